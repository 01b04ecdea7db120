/-
  NARROWER THAN 'FOR EVERY INPUT', by the rows' own cells (each row's printed sentence says how): Fp2All: laid · Fp2Roots: laid · Fp2Field: laid · Fp2Squares: laid.
  DERIVED. THE GIVEN ROWS OF THIS SEAT. 4 by the template 'for every input the law returns true; each argument reads behind the call as it read before'; 0 by the template 'total and deterministic' (their statements: YtgoghcmnnhglhaaDoorTotals.lean).
  GIVEN WITH THE SEED: the statements are not yours to turn. If you find one false, say at which input.
  Laid BY PROGRAM, IN A SANDBOX (cutbox-rows.mjs): the forced cells as the released guide's own fill.sh prints them over the translation c2885c63aca63e53… (all of the seat's roots in one cut). By AI agents, Wed Nov 11 2026. No macro, syntax, notation, axiom, sorry.
-/
import Derived.Test.YtgoghcmnnhglhaaDoorChecked
import GoSem.Claim
import GoSem.ClaimJoined
import GoSem.ClaimMapViews
import Derived.JoinedTies
import Derived.KernelRfl
namespace Go.Proofs.YtgoghcmnnhglhaaDoor
/- THE CELL 'sum', in the pinned program and in every row, IS THE sha256 OF THE DUMP (.gsa) THAT YtgoghcmnnhglhaaDoorProg.lean LOADS. Nothing in Lean hashes anything: it is a label: what it is worth is what the hold of that sum in a sandbox is worth. -/
noncomputable def Tryd.pinned : Pinned := { name := "ytgoghcmnnhglhaadoor", sum := "c2885c63aca63e537ee5b08cdb7b820042d29da15fda30b867b5dce7155fc473", checked := Tryd.checked }
namespace Rows
def none {H : Type} : Left H := { results := [], args := [] }

/- WHAT THE LISTED PACKAGE-LEVEL VARIABLES READ AS WHEN THE CALL BEGINS. Each datum BY PROGRAM (the guide's laid-datum.mjs) off the statement by which the dump's own 'gosem.cut.vars' lays the variable. In a bare row this is a premise. The card (YtgoghcmnnhglhaaDoorCards.lean) ties it to the program's text. -/
def laid_intaglio_fp_half {H : Type} : DataW H := .agg [.lit (.int .u64 15924587544893707605), .lit (.int .u64 1105070755758604287), .lit (.int .u64 12941209323636816658), .lit (.int .u64 12843041017062132063), .lit (.int .u64 2706051889235351147), .lit (.int .u64 936899308823769933)]
def laid_intaglio_fp_square {H : Type} : DataW H := .agg [.lit (.int .u64 17644856173732828998), .lit (.int .u64 754043588434789617), .lit (.int .u64 10224657059481499349), .lit (.int .u64 7488229067341005760), .lit (.int .u64 11130996698012816685), .lit (.int .u64 1267921511277847466)]
def laid_intaglio_fp2_half {H : Type} : DataW H := .agg [.lit (.int .u64 15924587544893707606), .lit (.int .u64 1105070755758604287), .lit (.int .u64 12941209323636816658), .lit (.int .u64 12843041017062132063), .lit (.int .u64 2706051889235351147), .lit (.int .u64 936899308823769933)]

/-- 'intagliolaw5.Fp2All': WHATEVER THE INPUT: true; the input reads as it did. -/
def fp2AllSpec : ChangeSpec := { name := "fp2All", fn := fun _ => fun
  | [d1, d2] => { results := [.lit (.bool true)], args := [d1, d2] }
  | _ => none }
def fp2AllRow : OpenClaim := { program := "ytgoghcmnnhglhaadoor", sum := "c2885c63aca63e537ee5b08cdb7b820042d29da15fda30b867b5dce7155fc473", func := "intaglio/intagliolaw5.Fp2All", spec := "fp2All", inPlace := ["math/bits.Sub64", "math/bits.Add64"], named := ["intaglio/fp.square", "intaglio/fp.half", "intaglio/fp2.half"], apart := false, laid := [("intaglio/fp.half", laid_intaglio_fp_half), ("intaglio/fp.square", laid_intaglio_fp_square), ("intaglio/fp2.half", laid_intaglio_fp2_half)] }
def Fp2AllSaid : Prop := fp2AllRow.holds Tryd.pinned (OpenSpec.ofChange fp2AllSpec)

/-- ITS FALSE NEIGHBOUR: 'it returns false'. Refute it at one input. -/
def fp2AllWrong : ChangeSpec := { name := "fp2All", fn := fun _ => fun
  | [d1, d2] => { results := [.lit (.bool false)], args := [d1, d2] }
  | _ => none }
def Fp2AllWrongFalsely : Prop := fp2AllRow.holds Tryd.pinned (OpenSpec.ofChange fp2AllWrong)

/-- 'intagliolaw5.Fp2Roots': WHATEVER THE INPUT: true; the input reads as it did. -/
def fp2RootsSpec : ChangeSpec := { name := "fp2Roots", fn := fun _ => fun
  | [d1, d2] => { results := [.lit (.bool true)], args := [d1, d2] }
  | _ => none }
def fp2RootsRow : OpenClaim := { program := "ytgoghcmnnhglhaadoor", sum := "c2885c63aca63e537ee5b08cdb7b820042d29da15fda30b867b5dce7155fc473", func := "intaglio/intagliolaw5.Fp2Roots", spec := "fp2Roots", inPlace := ["math/bits.Sub64", "math/bits.Add64"], named := ["intaglio/fp.square", "intaglio/fp.half", "intaglio/fp2.half"], apart := false, laid := [("intaglio/fp.half", laid_intaglio_fp_half), ("intaglio/fp.square", laid_intaglio_fp_square), ("intaglio/fp2.half", laid_intaglio_fp2_half)] }
def Fp2RootsSaid : Prop := fp2RootsRow.holds Tryd.pinned (OpenSpec.ofChange fp2RootsSpec)

/-- ITS FALSE NEIGHBOUR: 'it returns false'. Refute it at one input. -/
def fp2RootsWrong : ChangeSpec := { name := "fp2Roots", fn := fun _ => fun
  | [d1, d2] => { results := [.lit (.bool false)], args := [d1, d2] }
  | _ => none }
def Fp2RootsWrongFalsely : Prop := fp2RootsRow.holds Tryd.pinned (OpenSpec.ofChange fp2RootsWrong)

/-- 'intagliolaw5.Fp2Field': WHATEVER THE INPUT: true; the input reads as it did. -/
def fp2FieldSpec : ChangeSpec := { name := "fp2Field", fn := fun _ => fun
  | [d1, d2, d3] => { results := [.lit (.bool true)], args := [d1, d2, d3] }
  | _ => none }
def fp2FieldRow : OpenClaim := { program := "ytgoghcmnnhglhaadoor", sum := "c2885c63aca63e537ee5b08cdb7b820042d29da15fda30b867b5dce7155fc473", func := "intaglio/intagliolaw5.Fp2Field", spec := "fp2Field", inPlace := ["math/bits.Sub64", "math/bits.Add64"], named := ["intaglio/fp.square", "intaglio/fp.half", "intaglio/fp2.half"], apart := false, laid := [("intaglio/fp.half", laid_intaglio_fp_half), ("intaglio/fp.square", laid_intaglio_fp_square), ("intaglio/fp2.half", laid_intaglio_fp2_half)] }
def Fp2FieldSaid : Prop := fp2FieldRow.holds Tryd.pinned (OpenSpec.ofChange fp2FieldSpec)

/-- ITS FALSE NEIGHBOUR: 'it returns false'. Refute it at one input. -/
def fp2FieldWrong : ChangeSpec := { name := "fp2Field", fn := fun _ => fun
  | [d1, d2, d3] => { results := [.lit (.bool false)], args := [d1, d2, d3] }
  | _ => none }
def Fp2FieldWrongFalsely : Prop := fp2FieldRow.holds Tryd.pinned (OpenSpec.ofChange fp2FieldWrong)

/-- 'intagliolaw5.Fp2Squares': WHATEVER THE INPUT: true; the input reads as it did. -/
def fp2SquaresSpec : ChangeSpec := { name := "fp2Squares", fn := fun _ => fun
  | [d1, d2] => { results := [.lit (.bool true)], args := [d1, d2] }
  | _ => none }
def fp2SquaresRow : OpenClaim := { program := "ytgoghcmnnhglhaadoor", sum := "c2885c63aca63e537ee5b08cdb7b820042d29da15fda30b867b5dce7155fc473", func := "intaglio/intagliolaw5.Fp2Squares", spec := "fp2Squares", inPlace := ["math/bits.Sub64", "math/bits.Add64"], named := ["intaglio/fp.square", "intaglio/fp.half", "intaglio/fp2.half"], apart := false, laid := [("intaglio/fp.half", laid_intaglio_fp_half), ("intaglio/fp.square", laid_intaglio_fp_square), ("intaglio/fp2.half", laid_intaglio_fp2_half)] }
def Fp2SquaresSaid : Prop := fp2SquaresRow.holds Tryd.pinned (OpenSpec.ofChange fp2SquaresSpec)

/-- ITS FALSE NEIGHBOUR: 'it returns false'. Refute it at one input. -/
def fp2SquaresWrong : ChangeSpec := { name := "fp2Squares", fn := fun _ => fun
  | [d1, d2] => { results := [.lit (.bool false)], args := [d1, d2] }
  | _ => none }
def Fp2SquaresWrongFalsely : Prop := fp2SquaresRow.holds Tryd.pinned (OpenSpec.ofChange fp2SquaresWrong)

/- THE SECOND FORM. 'bulk': how many values and letters a reading holds, each counted each time it is reached (what is shared counts as often as it is met; a slice's spare places count too). A statement '..UptoSaid' is the law's where the arguments, and the package variables that the reading takes, are together of bulk at most 1048576: NARROWER than '..Said'. Prove '..Said' where nothing that the law and all that it calls make is longer than what came in: it says more and counts as full. Else prove '..UptoSaid'. A law counts once. -/
mutual
def uptoBulk {H : Type} : DataW H → Nat
  | .lit (.string bytes) => bytes.length + 1
  | .lit _ => 1
  | .nil => 1
  | .ptr d => uptoBulk d + 1
  | .slice elems spare => uptoBulkAll elems + uptoBulkAll spare + 1
  | .agg parts => uptoBulkAll parts + 1
  | .iface _ d => uptoBulk d + 1
  | .map entries => uptoBulkEntries entries + 1
  | .held _ => 1
def uptoBulkAll {H : Type} : List (DataW H) → Nat
  | [] => 0
  | d :: r => uptoBulk d + uptoBulkAll r
def uptoBulkEntries {H : Type} : List (Lit × DataW H) → Nat
  | [] => 0
  | x :: r => uptoBulkEntry x + uptoBulkEntries r
def uptoBulkEntry {H : Type} : Lit × DataW H → Nat
  | (.string bytes, d) => bytes.length + uptoBulk d + 1
  | (_, d) => uptoBulk d + 1
 end
def uptoSmall : (H : Type) → List (DataW H) → Bool := fun _ ds => decide (uptoBulkAll ds ≤ 1048576)
def OpenSpec.upto (s : _root_.Go.ChangeSpec) : _root_.Go.OpenSpec := { _root_.Go.OpenSpec.ofChange s with cond := some uptoSmall }

/-- 'intagliolaw5.Fp2All', WHERE WHAT IT READS IS OF BULK AT MOST 1048576: true; the input reads as it did. -/
def fp2AllUptoRow : OpenClaim := { program := "ytgoghcmnnhglhaadoor", sum := "c2885c63aca63e537ee5b08cdb7b820042d29da15fda30b867b5dce7155fc473", func := "intaglio/intagliolaw5.Fp2All", spec := "fp2All", inPlace := ["math/bits.Sub64", "math/bits.Add64"], named := ["intaglio/fp.square", "intaglio/fp.half", "intaglio/fp2.half"], apart := false, laid := [("intaglio/fp.half", laid_intaglio_fp_half), ("intaglio/fp.square", laid_intaglio_fp_square), ("intaglio/fp2.half", laid_intaglio_fp2_half)], narrowed := true }
def Fp2AllUptoSaid : Prop := fp2AllUptoRow.holds Tryd.pinned (OpenSpec.upto fp2AllSpec)

/-- 'intagliolaw5.Fp2Roots', WHERE WHAT IT READS IS OF BULK AT MOST 1048576: true; the input reads as it did. -/
def fp2RootsUptoRow : OpenClaim := { program := "ytgoghcmnnhglhaadoor", sum := "c2885c63aca63e537ee5b08cdb7b820042d29da15fda30b867b5dce7155fc473", func := "intaglio/intagliolaw5.Fp2Roots", spec := "fp2Roots", inPlace := ["math/bits.Sub64", "math/bits.Add64"], named := ["intaglio/fp.square", "intaglio/fp.half", "intaglio/fp2.half"], apart := false, laid := [("intaglio/fp.half", laid_intaglio_fp_half), ("intaglio/fp.square", laid_intaglio_fp_square), ("intaglio/fp2.half", laid_intaglio_fp2_half)], narrowed := true }
def Fp2RootsUptoSaid : Prop := fp2RootsUptoRow.holds Tryd.pinned (OpenSpec.upto fp2RootsSpec)

/-- 'intagliolaw5.Fp2Field', WHERE WHAT IT READS IS OF BULK AT MOST 1048576: true; the input reads as it did. -/
def fp2FieldUptoRow : OpenClaim := { program := "ytgoghcmnnhglhaadoor", sum := "c2885c63aca63e537ee5b08cdb7b820042d29da15fda30b867b5dce7155fc473", func := "intaglio/intagliolaw5.Fp2Field", spec := "fp2Field", inPlace := ["math/bits.Sub64", "math/bits.Add64"], named := ["intaglio/fp.square", "intaglio/fp.half", "intaglio/fp2.half"], apart := false, laid := [("intaglio/fp.half", laid_intaglio_fp_half), ("intaglio/fp.square", laid_intaglio_fp_square), ("intaglio/fp2.half", laid_intaglio_fp2_half)], narrowed := true }
def Fp2FieldUptoSaid : Prop := fp2FieldUptoRow.holds Tryd.pinned (OpenSpec.upto fp2FieldSpec)

/-- 'intagliolaw5.Fp2Squares', WHERE WHAT IT READS IS OF BULK AT MOST 1048576: true; the input reads as it did. -/
def fp2SquaresUptoRow : OpenClaim := { program := "ytgoghcmnnhglhaadoor", sum := "c2885c63aca63e537ee5b08cdb7b820042d29da15fda30b867b5dce7155fc473", func := "intaglio/intagliolaw5.Fp2Squares", spec := "fp2Squares", inPlace := ["math/bits.Sub64", "math/bits.Add64"], named := ["intaglio/fp.square", "intaglio/fp.half", "intaglio/fp2.half"], apart := false, laid := [("intaglio/fp.half", laid_intaglio_fp_half), ("intaglio/fp.square", laid_intaglio_fp_square), ("intaglio/fp2.half", laid_intaglio_fp2_half)], narrowed := true }
def Fp2SquaresUptoSaid : Prop := fp2SquaresUptoRow.holds Tryd.pinned (OpenSpec.upto fp2SquaresSpec)

end Rows
end Go.Proofs.YtgoghcmnnhglhaaDoor
