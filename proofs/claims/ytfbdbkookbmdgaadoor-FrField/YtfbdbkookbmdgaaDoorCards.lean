/-
  DERIVED. GIVEN WITH THE SEED: THE CARDS: each row of YtfbdbkookbmdgaaDoorRows.lean that lists a variable, with what it lists TIED to the program's text (the seventh form; the later family's looks); each row that meets fmt, with fmt's text TOLD by the authors' own Lean function (tested against real Go, not proved from fmt's source: count such statements apart). THE CARD IS WHAT COUNTS. Prove the row's statement (the work); the ties are given (YtfbdbkookbmdgaaDoorTie.lean); close each card by the builder's one call (the guide's Derived/Test/ToyasCard.lean, 'card_holds'). Laid BY PROGRAM, IN A SANDBOX (cutbox-door.mjs). By AI agents, Wed Nov 11 2026. No macro, syntax, notation, axiom, sorry.
-/
import Derived.Test.YtfbdbkookbmdgaaDoorRows
import GoSem.ClaimSeven
namespace Go.Proofs.YtfbdbkookbmdgaaDoor
namespace Rows

/-- THE TIED CARD OF 'intagliolaw2.FrAll'. -/
def frAllCard : Claim7 := { stood := { row := frAllRow, standIns := [], harness := (true, "3be8bb3c10076dc5f21ead3984b8e0a368be0868bbc92d071d83829c939ff326"), looks := false }, kinds := [], alts := [], laidByText := true, laidKinds := [.data, .data], laidTests := true, laidLooks := .later }
def FrAllCardSaid : Prop := Claim7.holds Tryd.pinned (.plain (OpenSpec.ofChange frAllSpec)) frAllCard

/-- THE TIED CARD OF 'intagliolaw2.FrPowers'. -/
def frPowersCard : Claim7 := { stood := { row := frPowersRow, standIns := [], harness := (true, "3be8bb3c10076dc5f21ead3984b8e0a368be0868bbc92d071d83829c939ff326"), looks := false }, kinds := [], alts := [], laidByText := true, laidKinds := [.data, .data], laidTests := true, laidLooks := .later }
def FrPowersCardSaid : Prop := Claim7.holds Tryd.pinned (.plain (OpenSpec.ofChange frPowersSpec)) frPowersCard

/-- THE TIED CARD OF 'intagliolaw2.FrBytes'. -/
def frBytesCard : Claim7 := { stood := { row := frBytesRow, standIns := [], harness := (true, "3be8bb3c10076dc5f21ead3984b8e0a368be0868bbc92d071d83829c939ff326"), looks := false }, kinds := [], alts := [], laidByText := true, laidKinds := [.data, .data], laidTests := true, laidLooks := .later }
def FrBytesCardSaid : Prop := Claim7.holds Tryd.pinned (.plain (OpenSpec.ofChange frBytesSpec)) frBytesCard

/-- THE TIED CARD OF 'intagliolaw2.FrField'. -/
def frFieldCard : Claim7 := { stood := { row := frFieldRow, standIns := [], harness := (true, "3be8bb3c10076dc5f21ead3984b8e0a368be0868bbc92d071d83829c939ff326"), looks := false }, kinds := [], alts := [], laidByText := true, laidKinds := [.data, .data], laidTests := true, laidLooks := .later }
def FrFieldCardSaid : Prop := Claim7.holds Tryd.pinned (.plain (OpenSpec.ofChange frFieldSpec)) frFieldCard

/-- THE TIED CARD OF 'intagliolaw2.FrExponents'. -/
def frExponentsCard : Claim7 := { stood := { row := frExponentsRow, standIns := [], harness := (true, "3be8bb3c10076dc5f21ead3984b8e0a368be0868bbc92d071d83829c939ff326"), looks := false }, kinds := [], alts := [], laidByText := true, laidKinds := [.data, .data], laidTests := true, laidLooks := .later }
def FrExponentsCardSaid : Prop := Claim7.holds Tryd.pinned (.plain (OpenSpec.ofChange frExponentsSpec)) frExponentsCard

/-- THE TIED CARD OF 'intagliolaw2.FrRoots'. -/
def frRootsCard : Claim7 := { stood := { row := frRootsRow, standIns := [], harness := (true, "3be8bb3c10076dc5f21ead3984b8e0a368be0868bbc92d071d83829c939ff326"), looks := false }, kinds := [], alts := [], laidByText := true, laidKinds := [.data, .data], laidTests := true, laidLooks := .later }
def FrRootsCardSaid : Prop := Claim7.holds Tryd.pinned (.plain (OpenSpec.ofChange frRootsSpec)) frRootsCard

/-- THE SECOND FORM's CARD OF 'intagliolaw2.FrAll'. -/
def frAllUptoCard : Claim7 := { stood := { row := frAllUptoRow, standIns := [], harness := (true, "3be8bb3c10076dc5f21ead3984b8e0a368be0868bbc92d071d83829c939ff326"), looks := false }, kinds := [], alts := [], laidByText := true, laidKinds := [.data, .data], laidTests := true, laidLooks := .later }
def FrAllUptoCardSaid : Prop := Claim7.holds Tryd.pinned (.plain (OpenSpec.upto frAllSpec)) frAllUptoCard

/-- THE SECOND FORM's CARD OF 'intagliolaw2.FrPowers'. -/
def frPowersUptoCard : Claim7 := { stood := { row := frPowersUptoRow, standIns := [], harness := (true, "3be8bb3c10076dc5f21ead3984b8e0a368be0868bbc92d071d83829c939ff326"), looks := false }, kinds := [], alts := [], laidByText := true, laidKinds := [.data, .data], laidTests := true, laidLooks := .later }
def FrPowersUptoCardSaid : Prop := Claim7.holds Tryd.pinned (.plain (OpenSpec.upto frPowersSpec)) frPowersUptoCard

/-- THE SECOND FORM's CARD OF 'intagliolaw2.FrBytes'. -/
def frBytesUptoCard : Claim7 := { stood := { row := frBytesUptoRow, standIns := [], harness := (true, "3be8bb3c10076dc5f21ead3984b8e0a368be0868bbc92d071d83829c939ff326"), looks := false }, kinds := [], alts := [], laidByText := true, laidKinds := [.data, .data], laidTests := true, laidLooks := .later }
def FrBytesUptoCardSaid : Prop := Claim7.holds Tryd.pinned (.plain (OpenSpec.upto frBytesSpec)) frBytesUptoCard

/-- THE SECOND FORM's CARD OF 'intagliolaw2.FrField'. -/
def frFieldUptoCard : Claim7 := { stood := { row := frFieldUptoRow, standIns := [], harness := (true, "3be8bb3c10076dc5f21ead3984b8e0a368be0868bbc92d071d83829c939ff326"), looks := false }, kinds := [], alts := [], laidByText := true, laidKinds := [.data, .data], laidTests := true, laidLooks := .later }
def FrFieldUptoCardSaid : Prop := Claim7.holds Tryd.pinned (.plain (OpenSpec.upto frFieldSpec)) frFieldUptoCard

/-- THE SECOND FORM's CARD OF 'intagliolaw2.FrExponents'. -/
def frExponentsUptoCard : Claim7 := { stood := { row := frExponentsUptoRow, standIns := [], harness := (true, "3be8bb3c10076dc5f21ead3984b8e0a368be0868bbc92d071d83829c939ff326"), looks := false }, kinds := [], alts := [], laidByText := true, laidKinds := [.data, .data], laidTests := true, laidLooks := .later }
def FrExponentsUptoCardSaid : Prop := Claim7.holds Tryd.pinned (.plain (OpenSpec.upto frExponentsSpec)) frExponentsUptoCard

/-- THE SECOND FORM's CARD OF 'intagliolaw2.FrRoots'. -/
def frRootsUptoCard : Claim7 := { stood := { row := frRootsUptoRow, standIns := [], harness := (true, "3be8bb3c10076dc5f21ead3984b8e0a368be0868bbc92d071d83829c939ff326"), looks := false }, kinds := [], alts := [], laidByText := true, laidKinds := [.data, .data], laidTests := true, laidLooks := .later }
def FrRootsUptoCardSaid : Prop := Claim7.holds Tryd.pinned (.plain (OpenSpec.upto frRootsSpec)) frRootsUptoCard
end Rows
end Go.Proofs.YtfbdbkookbmdgaaDoor
