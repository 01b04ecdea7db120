/-
  DERIVED. GIVEN WITH THE SEED: THE CARDS: each row of YtmegifgpkdigmaaDoorRows.lean that lists a variable, with what it lists TIED to the program's text (the seventh form; the later family's looks); each row that meets fmt, with fmt's text TOLD by the authors' own Lean function (tested against real Go, not proved from fmt's source: count such statements apart). THE CARD IS WHAT COUNTS. Prove the row's statement (the work); the ties are given (YtmegifgpkdigmaaDoorTie.lean); close each card by the builder's one call (the guide's Derived/Test/ToyasCard.lean, 'card_holds'). Laid BY PROGRAM, IN A SANDBOX (cutbox-door.mjs). By AI agents, Wed Nov 11 2026. No macro, syntax, notation, axiom, sorry.
-/
import Derived.Test.YtmegifgpkdigmaaDoorRows
import GoSem.ClaimSeven
namespace Go.Proofs.YtmegifgpkdigmaaDoor
namespace Rows

/-- THE TIED CARD OF 'intagliolaw6.Fp6All'. -/
def fp6AllCard : Claim7 := { stood := { row := fp6AllRow, standIns := [], harness := (true, "3562ac7a5a70f80f0f4b47a1538295442a3ed83647936e4a13464654807e0084"), looks := false }, kinds := [], alts := [], laidByText := true, laidKinds := [.data], laidTests := true, laidLooks := .later }
def Fp6AllCardSaid : Prop := Claim7.holds Tryd.pinned (.plain (OpenSpec.ofChange fp6AllSpec)) fp6AllCard

/-- THE TIED CARD OF 'intagliolaw6.Fp6Field'. -/
def fp6FieldCard : Claim7 := { stood := { row := fp6FieldRow, standIns := [], harness := (true, "3562ac7a5a70f80f0f4b47a1538295442a3ed83647936e4a13464654807e0084"), looks := false }, kinds := [], alts := [], laidByText := true, laidKinds := [.data], laidTests := true, laidLooks := .later }
def Fp6FieldCardSaid : Prop := Claim7.holds Tryd.pinned (.plain (OpenSpec.ofChange fp6FieldSpec)) fp6FieldCard

/-- THE SECOND FORM's CARD OF 'intagliolaw6.Fp6All'. -/
def fp6AllUptoCard : Claim7 := { stood := { row := fp6AllUptoRow, standIns := [], harness := (true, "3562ac7a5a70f80f0f4b47a1538295442a3ed83647936e4a13464654807e0084"), looks := false }, kinds := [], alts := [], laidByText := true, laidKinds := [.data], laidTests := true, laidLooks := .later }
def Fp6AllUptoCardSaid : Prop := Claim7.holds Tryd.pinned (.plain (OpenSpec.upto fp6AllSpec)) fp6AllUptoCard

/-- THE SECOND FORM's CARD OF 'intagliolaw6.Fp6Field'. -/
def fp6FieldUptoCard : Claim7 := { stood := { row := fp6FieldUptoRow, standIns := [], harness := (true, "3562ac7a5a70f80f0f4b47a1538295442a3ed83647936e4a13464654807e0084"), looks := false }, kinds := [], alts := [], laidByText := true, laidKinds := [.data], laidTests := true, laidLooks := .later }
def Fp6FieldUptoCardSaid : Prop := Claim7.holds Tryd.pinned (.plain (OpenSpec.upto fp6FieldSpec)) fp6FieldUptoCard
end Rows
end Go.Proofs.YtmegifgpkdigmaaDoor
