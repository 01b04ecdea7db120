/-
  DERIVED. GIVEN WITH THE SEED: THE CARDS: each row of YtgoghcmnnhglhaaDoorRows.lean that lists a variable, with what it lists TIED to the program's text (the seventh form; the later family's looks); each row that meets fmt, with fmt's text TOLD by the authors' own Lean function (tested against real Go, not proved from fmt's source: count such statements apart). THE CARD IS WHAT COUNTS. Prove the row's statement (the work); the ties are given (YtgoghcmnnhglhaaDoorTie.lean); close each card by the builder's one call (the guide's Derived/Test/ToyasCard.lean, 'card_holds'). Laid BY PROGRAM, IN A SANDBOX (cutbox-door.mjs). By AI agents, Wed Nov 11 2026. No macro, syntax, notation, axiom, sorry.
-/
import Derived.Test.YtgoghcmnnhglhaaDoorRows
import GoSem.ClaimSeven
namespace Go.Proofs.YtgoghcmnnhglhaaDoor
namespace Rows

/-- THE TIED CARD OF 'intagliolaw5.Fp2All'. -/
def fp2AllCard : Claim7 := { stood := { row := fp2AllRow, standIns := [], harness := (true, "5e56627e43d9f2825d3db9426268e1de4baa99e88c26b13f48e204cd096984ec"), looks := false }, kinds := [], alts := [], laidByText := true, laidKinds := [.data, .data, .data], laidTests := true, laidLooks := .later }
def Fp2AllCardSaid : Prop := Claim7.holds Tryd.pinned (.plain (OpenSpec.ofChange fp2AllSpec)) fp2AllCard

/-- THE TIED CARD OF 'intagliolaw5.Fp2Roots'. -/
def fp2RootsCard : Claim7 := { stood := { row := fp2RootsRow, standIns := [], harness := (true, "5e56627e43d9f2825d3db9426268e1de4baa99e88c26b13f48e204cd096984ec"), looks := false }, kinds := [], alts := [], laidByText := true, laidKinds := [.data, .data, .data], laidTests := true, laidLooks := .later }
def Fp2RootsCardSaid : Prop := Claim7.holds Tryd.pinned (.plain (OpenSpec.ofChange fp2RootsSpec)) fp2RootsCard

/-- THE TIED CARD OF 'intagliolaw5.Fp2Field'. -/
def fp2FieldCard : Claim7 := { stood := { row := fp2FieldRow, standIns := [], harness := (true, "5e56627e43d9f2825d3db9426268e1de4baa99e88c26b13f48e204cd096984ec"), looks := false }, kinds := [], alts := [], laidByText := true, laidKinds := [.data, .data, .data], laidTests := true, laidLooks := .later }
def Fp2FieldCardSaid : Prop := Claim7.holds Tryd.pinned (.plain (OpenSpec.ofChange fp2FieldSpec)) fp2FieldCard

/-- THE TIED CARD OF 'intagliolaw5.Fp2Squares'. -/
def fp2SquaresCard : Claim7 := { stood := { row := fp2SquaresRow, standIns := [], harness := (true, "5e56627e43d9f2825d3db9426268e1de4baa99e88c26b13f48e204cd096984ec"), looks := false }, kinds := [], alts := [], laidByText := true, laidKinds := [.data, .data, .data], laidTests := true, laidLooks := .later }
def Fp2SquaresCardSaid : Prop := Claim7.holds Tryd.pinned (.plain (OpenSpec.ofChange fp2SquaresSpec)) fp2SquaresCard

/-- THE SECOND FORM's CARD OF 'intagliolaw5.Fp2All'. -/
def fp2AllUptoCard : Claim7 := { stood := { row := fp2AllUptoRow, standIns := [], harness := (true, "5e56627e43d9f2825d3db9426268e1de4baa99e88c26b13f48e204cd096984ec"), looks := false }, kinds := [], alts := [], laidByText := true, laidKinds := [.data, .data, .data], laidTests := true, laidLooks := .later }
def Fp2AllUptoCardSaid : Prop := Claim7.holds Tryd.pinned (.plain (OpenSpec.upto fp2AllSpec)) fp2AllUptoCard

/-- THE SECOND FORM's CARD OF 'intagliolaw5.Fp2Roots'. -/
def fp2RootsUptoCard : Claim7 := { stood := { row := fp2RootsUptoRow, standIns := [], harness := (true, "5e56627e43d9f2825d3db9426268e1de4baa99e88c26b13f48e204cd096984ec"), looks := false }, kinds := [], alts := [], laidByText := true, laidKinds := [.data, .data, .data], laidTests := true, laidLooks := .later }
def Fp2RootsUptoCardSaid : Prop := Claim7.holds Tryd.pinned (.plain (OpenSpec.upto fp2RootsSpec)) fp2RootsUptoCard

/-- THE SECOND FORM's CARD OF 'intagliolaw5.Fp2Field'. -/
def fp2FieldUptoCard : Claim7 := { stood := { row := fp2FieldUptoRow, standIns := [], harness := (true, "5e56627e43d9f2825d3db9426268e1de4baa99e88c26b13f48e204cd096984ec"), looks := false }, kinds := [], alts := [], laidByText := true, laidKinds := [.data, .data, .data], laidTests := true, laidLooks := .later }
def Fp2FieldUptoCardSaid : Prop := Claim7.holds Tryd.pinned (.plain (OpenSpec.upto fp2FieldSpec)) fp2FieldUptoCard

/-- THE SECOND FORM's CARD OF 'intagliolaw5.Fp2Squares'. -/
def fp2SquaresUptoCard : Claim7 := { stood := { row := fp2SquaresUptoRow, standIns := [], harness := (true, "5e56627e43d9f2825d3db9426268e1de4baa99e88c26b13f48e204cd096984ec"), looks := false }, kinds := [], alts := [], laidByText := true, laidKinds := [.data, .data, .data], laidTests := true, laidLooks := .later }
def Fp2SquaresUptoCardSaid : Prop := Claim7.holds Tryd.pinned (.plain (OpenSpec.upto fp2SquaresSpec)) fp2SquaresUptoCard
end Rows
end Go.Proofs.YtgoghcmnnhglhaaDoor
