/-
  DERIVED. GIVEN WITH THE SEED: THE CARDS: each row of YthnfgmhehfombaaGreatDoorRows.lean that lists a variable, with what it lists TIED to the program's text (the seventh form; the later family's looks); each row that meets fmt, with fmt's text TOLD by the authors' own Lean function (tested against real Go, not proved from fmt's source: count such statements apart). THE CARD IS WHAT COUNTS. Prove the row's statement (the work); the ties are given (YthnfgmhehfombaaGreatDoorTie.lean); close each card by the builder's one call (the guide's Derived/Test/ToyasCard.lean, 'card_holds'). Laid BY PROGRAM, IN A SANDBOX (cutbox-door.mjs). By AI agents, Wed Nov 11 2026. No macro, syntax, notation, axiom, sorry.
-/
import Derived.Test.YthnfgmhehfombaaGreatDoorRows
import GoSem.ClaimSeven
namespace Go.Proofs.YthnfgmhehfombaaGreatDoor
namespace Rows

/-- THE TIED CARD OF 'intagliolaw11.PairingChecks'. -/
def pairingChecksCard : Claim7 := { stood := { row := pairingChecksRow, standIns := [], harness := (true, "b844bb99bb5317224a00770456f36fd7138e39659528ed09eab24017796ef360"), looks := false }, kinds := [], alts := [], laidByText := true, laidKinds := [.data, .data], laidTests := true, laidLooks := .later }
def PairingChecksCardSaid : Prop := Claim7.holds Tryz.pinned (.plain (OpenSpec.ofChange pairingChecksSpec)) pairingChecksCard

/-- THE TIED CARD OF 'intagliolaw11.PairingMultiplies'. -/
def pairingMultipliesCard : Claim7 := { stood := { row := pairingMultipliesRow, standIns := [], harness := (true, "b844bb99bb5317224a00770456f36fd7138e39659528ed09eab24017796ef360"), looks := false }, kinds := [], alts := [], laidByText := true, laidKinds := [.data, .data], laidTests := true, laidLooks := .later }
def PairingMultipliesCardSaid : Prop := Claim7.holds Tryz.pinned (.plain (OpenSpec.ofChange pairingMultipliesSpec)) pairingMultipliesCard

/-- THE TIED CARD OF 'intagliolaw11.PairingOut'. -/
def pairingOutCard : Claim7 := { stood := { row := pairingOutRow, standIns := [], harness := (true, "b844bb99bb5317224a00770456f36fd7138e39659528ed09eab24017796ef360"), looks := false }, kinds := [], alts := [], laidByText := true, laidKinds := [.data, .data], laidTests := true, laidLooks := .later }
def PairingOutCardSaid : Prop := Claim7.holds Tryz.pinned (.plain (OpenSpec.ofChange pairingOutSpec)) pairingOutCard

/-- THE TIED CARD OF 'intagliolaw11.PairingSums'. -/
def pairingSumsCard : Claim7 := { stood := { row := pairingSumsRow, standIns := [], harness := (true, "b844bb99bb5317224a00770456f36fd7138e39659528ed09eab24017796ef360"), looks := false }, kinds := [], alts := [], laidByText := true, laidKinds := [.data, .data], laidTests := true, laidLooks := .later }
def PairingSumsCardSaid : Prop := Claim7.holds Tryz.pinned (.plain (OpenSpec.ofChange pairingSumsSpec)) pairingSumsCard

/-- THE SECOND FORM's CARD OF 'intagliolaw11.PairingChecks'. -/
def pairingChecksUptoCard : Claim7 := { stood := { row := pairingChecksUptoRow, standIns := [], harness := (true, "b844bb99bb5317224a00770456f36fd7138e39659528ed09eab24017796ef360"), looks := false }, kinds := [], alts := [], laidByText := true, laidKinds := [.data, .data], laidTests := true, laidLooks := .later }
def PairingChecksUptoCardSaid : Prop := Claim7.holds Tryz.pinned (.plain (OpenSpec.upto pairingChecksSpec)) pairingChecksUptoCard

/-- THE SECOND FORM's CARD OF 'intagliolaw11.PairingMultiplies'. -/
def pairingMultipliesUptoCard : Claim7 := { stood := { row := pairingMultipliesUptoRow, standIns := [], harness := (true, "b844bb99bb5317224a00770456f36fd7138e39659528ed09eab24017796ef360"), looks := false }, kinds := [], alts := [], laidByText := true, laidKinds := [.data, .data], laidTests := true, laidLooks := .later }
def PairingMultipliesUptoCardSaid : Prop := Claim7.holds Tryz.pinned (.plain (OpenSpec.upto pairingMultipliesSpec)) pairingMultipliesUptoCard

/-- THE SECOND FORM's CARD OF 'intagliolaw11.PairingOut'. -/
def pairingOutUptoCard : Claim7 := { stood := { row := pairingOutUptoRow, standIns := [], harness := (true, "b844bb99bb5317224a00770456f36fd7138e39659528ed09eab24017796ef360"), looks := false }, kinds := [], alts := [], laidByText := true, laidKinds := [.data, .data], laidTests := true, laidLooks := .later }
def PairingOutUptoCardSaid : Prop := Claim7.holds Tryz.pinned (.plain (OpenSpec.upto pairingOutSpec)) pairingOutUptoCard

/-- THE SECOND FORM's CARD OF 'intagliolaw11.PairingSums'. -/
def pairingSumsUptoCard : Claim7 := { stood := { row := pairingSumsUptoRow, standIns := [], harness := (true, "b844bb99bb5317224a00770456f36fd7138e39659528ed09eab24017796ef360"), looks := false }, kinds := [], alts := [], laidByText := true, laidKinds := [.data, .data], laidTests := true, laidLooks := .later }
def PairingSumsUptoCardSaid : Prop := Claim7.holds Tryz.pinned (.plain (OpenSpec.upto pairingSumsSpec)) pairingSumsUptoCard
end Rows
end Go.Proofs.YthnfgmhehfombaaGreatDoor
