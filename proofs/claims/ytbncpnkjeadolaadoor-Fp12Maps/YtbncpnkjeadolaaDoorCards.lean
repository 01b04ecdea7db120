/-
  DERIVED. GIVEN WITH THE SEED: THE CARDS: each row of YtbncpnkjeadolaaDoorRows.lean that lists a variable, with what it lists TIED to the program's text (the seventh form; the later family's looks); each row that meets fmt, with fmt's text TOLD by the authors' own Lean function (tested against real Go, not proved from fmt's source: count such statements apart). THE CARD IS WHAT COUNTS. Prove the row's statement (the work); the ties are given (YtbncpnkjeadolaaDoorTie.lean); close each card by the builder's one call (the guide's Derived/Test/ToyasCard.lean, 'card_holds'). Laid BY PROGRAM, IN A SANDBOX (cutbox-door.mjs). By AI agents, Wed Nov 11 2026. No macro, syntax, notation, axiom, sorry.
-/
import Derived.Test.YtbncpnkjeadolaaDoorRows
import GoSem.ClaimSeven
namespace Go.Proofs.YtbncpnkjeadolaaDoor
namespace Rows

/-- THE TIED CARD OF 'intagliolaw7.Fp12All'. -/
def fp12AllCard : Claim7 := { stood := { row := fp12AllRow, standIns := [], harness := (true, "ed9556e14d7313718e6ec0586b78d007fcd9f48f2e451e58c64ce10bd0a8ba6a"), looks := false }, kinds := [], alts := [], laidByText := true, laidKinds := [.data], laidTests := true, laidLooks := .later }
def Fp12AllCardSaid : Prop := Claim7.holds Tryd.pinned (.plain (OpenSpec.ofChange fp12AllSpec)) fp12AllCard

/-- THE TIED CARD OF 'intagliolaw7.Fp12Field'. -/
def fp12FieldCard : Claim7 := { stood := { row := fp12FieldRow, standIns := [], harness := (true, "ed9556e14d7313718e6ec0586b78d007fcd9f48f2e451e58c64ce10bd0a8ba6a"), looks := false }, kinds := [], alts := [], laidByText := true, laidKinds := [.data], laidTests := true, laidLooks := .later }
def Fp12FieldCardSaid : Prop := Claim7.holds Tryd.pinned (.plain (OpenSpec.ofChange fp12FieldSpec)) fp12FieldCard

/-- THE TIED CARD OF 'intagliolaw7.Fp12Maps'. -/
def fp12MapsCard : Claim7 := { stood := { row := fp12MapsRow, standIns := [], harness := (true, "ed9556e14d7313718e6ec0586b78d007fcd9f48f2e451e58c64ce10bd0a8ba6a"), looks := false }, kinds := [], alts := [], laidByText := true, laidKinds := [.data], laidTests := true, laidLooks := .later }
def Fp12MapsCardSaid : Prop := Claim7.holds Tryd.pinned (.plain (OpenSpec.ofChange fp12MapsSpec)) fp12MapsCard

/-- THE SECOND FORM's CARD OF 'intagliolaw7.Fp12All'. -/
def fp12AllUptoCard : Claim7 := { stood := { row := fp12AllUptoRow, standIns := [], harness := (true, "ed9556e14d7313718e6ec0586b78d007fcd9f48f2e451e58c64ce10bd0a8ba6a"), looks := false }, kinds := [], alts := [], laidByText := true, laidKinds := [.data], laidTests := true, laidLooks := .later }
def Fp12AllUptoCardSaid : Prop := Claim7.holds Tryd.pinned (.plain (OpenSpec.upto fp12AllSpec)) fp12AllUptoCard

/-- THE SECOND FORM's CARD OF 'intagliolaw7.Fp12Field'. -/
def fp12FieldUptoCard : Claim7 := { stood := { row := fp12FieldUptoRow, standIns := [], harness := (true, "ed9556e14d7313718e6ec0586b78d007fcd9f48f2e451e58c64ce10bd0a8ba6a"), looks := false }, kinds := [], alts := [], laidByText := true, laidKinds := [.data], laidTests := true, laidLooks := .later }
def Fp12FieldUptoCardSaid : Prop := Claim7.holds Tryd.pinned (.plain (OpenSpec.upto fp12FieldSpec)) fp12FieldUptoCard

/-- THE SECOND FORM's CARD OF 'intagliolaw7.Fp12Maps'. -/
def fp12MapsUptoCard : Claim7 := { stood := { row := fp12MapsUptoRow, standIns := [], harness := (true, "ed9556e14d7313718e6ec0586b78d007fcd9f48f2e451e58c64ce10bd0a8ba6a"), looks := false }, kinds := [], alts := [], laidByText := true, laidKinds := [.data], laidTests := true, laidLooks := .later }
def Fp12MapsUptoCardSaid : Prop := Claim7.holds Tryd.pinned (.plain (OpenSpec.upto fp12MapsSpec)) fp12MapsUptoCard
end Rows
end Go.Proofs.YtbncpnkjeadolaaDoor
