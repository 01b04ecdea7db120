/-
  NARROWER THAN 'FOR EVERY INPUT', by the rows' own cells (each row's printed sentence says how): FpAll: laid · FpPowers: laid · FpBytes: laid · FpField: laid · FpSquares: laid · FpExponents: laid.
  DERIVED. THE GIVEN ROWS OF THIS SEAT. 6 by the template 'for every input the law returns true; each argument reads behind the call as it read before'; 0 by the template 'total and deterministic' (their statements: YtgdmjngajjoliaaDoorTotals.lean).
  GIVEN WITH THE SEED: the statements are not yours to turn. If you find one false, say at which input.
  Laid BY PROGRAM, IN A SANDBOX (cutbox-rows.mjs): the forced cells as the released guide's own fill.sh prints them over the translation ae064814fbc0d4bd… (all of the seat's roots in one cut). By AI agents, Wed Nov 11 2026. No macro, syntax, notation, axiom, sorry.
-/
import Derived.Test.YtgdmjngajjoliaaDoorChecked
import GoSem.Claim
import GoSem.ClaimJoined
import GoSem.ClaimMapViews
import Derived.JoinedTies
import Derived.KernelRfl
namespace Go.Proofs.YtgdmjngajjoliaaDoor
/- THE CELL 'sum', in the pinned program and in every row, IS THE sha256 OF THE DUMP (.gsa) THAT YtgdmjngajjoliaaDoorProg.lean LOADS. Nothing in Lean hashes anything: it is a label: what it is worth is what the hold of that sum in a sandbox is worth. -/
noncomputable def Tryd.pinned : Pinned := { name := "ytgdmjngajjoliaadoor", sum := "ae064814fbc0d4bd9001779ea041b335b1fb1f8987ebccc78b70df07a197d562", checked := Tryd.checked }
namespace Rows
def none {H : Type} : Left H := { results := [], args := [] }

/- WHAT THE LISTED PACKAGE-LEVEL VARIABLES READ AS WHEN THE CALL BEGINS. Each datum BY PROGRAM (the guide's laid-datum.mjs) off the statement by which the dump's own 'gosem.cut.vars' lays the variable. In a bare row this is a premise. The card (YtgdmjngajjoliaaDoorCards.lean) ties it to the program's text. -/
def laid_intaglio_fp_half {H : Type} : DataW H := .agg [.lit (.int .u64 15924587544893707605), .lit (.int .u64 1105070755758604287), .lit (.int .u64 12941209323636816658), .lit (.int .u64 12843041017062132063), .lit (.int .u64 2706051889235351147), .lit (.int .u64 936899308823769933)]
def laid_intaglio_fp_square {H : Type} : DataW H := .agg [.lit (.int .u64 17644856173732828998), .lit (.int .u64 754043588434789617), .lit (.int .u64 10224657059481499349), .lit (.int .u64 7488229067341005760), .lit (.int .u64 11130996698012816685), .lit (.int .u64 1267921511277847466)]

/-- 'intagliolaw3.FpAll': WHATEVER THE INPUT: true; the input reads as it did. -/
def fpAllSpec : ChangeSpec := { name := "fpAll", fn := fun _ => fun
  | [d1, d2, d3] => { results := [.lit (.bool true)], args := [d1, d2, d3] }
  | _ => none }
def fpAllRow : OpenClaim := { program := "ytgdmjngajjoliaadoor", sum := "ae064814fbc0d4bd9001779ea041b335b1fb1f8987ebccc78b70df07a197d562", func := "intaglio/intagliolaw3.FpAll", spec := "fpAll", inPlace := ["math/bits.Add64", "math/bits.Sub64"], named := ["intaglio/fp.square", "intaglio/fp.half"], apart := false, laid := [("intaglio/fp.half", laid_intaglio_fp_half), ("intaglio/fp.square", laid_intaglio_fp_square)] }
def FpAllSaid : Prop := fpAllRow.holds Tryd.pinned (OpenSpec.ofChange fpAllSpec)

/-- ITS FALSE NEIGHBOUR: 'it returns false'. Refute it at one input. -/
def fpAllWrong : ChangeSpec := { name := "fpAll", fn := fun _ => fun
  | [d1, d2, d3] => { results := [.lit (.bool false)], args := [d1, d2, d3] }
  | _ => none }
def FpAllWrongFalsely : Prop := fpAllRow.holds Tryd.pinned (OpenSpec.ofChange fpAllWrong)

/-- 'intagliolaw3.FpPowers': WHATEVER THE INPUT: true; the input reads as it did. -/
def fpPowersSpec : ChangeSpec := { name := "fpPowers", fn := fun _ => fun
  | [d1, d2] => { results := [.lit (.bool true)], args := [d1, d2] }
  | _ => none }
def fpPowersRow : OpenClaim := { program := "ytgdmjngajjoliaadoor", sum := "ae064814fbc0d4bd9001779ea041b335b1fb1f8987ebccc78b70df07a197d562", func := "intaglio/intagliolaw3.FpPowers", spec := "fpPowers", inPlace := ["math/bits.Add64", "math/bits.Sub64"], named := ["intaglio/fp.square", "intaglio/fp.half"], apart := false, laid := [("intaglio/fp.half", laid_intaglio_fp_half), ("intaglio/fp.square", laid_intaglio_fp_square)] }
def FpPowersSaid : Prop := fpPowersRow.holds Tryd.pinned (OpenSpec.ofChange fpPowersSpec)

/-- ITS FALSE NEIGHBOUR: 'it returns false'. Refute it at one input. -/
def fpPowersWrong : ChangeSpec := { name := "fpPowers", fn := fun _ => fun
  | [d1, d2] => { results := [.lit (.bool false)], args := [d1, d2] }
  | _ => none }
def FpPowersWrongFalsely : Prop := fpPowersRow.holds Tryd.pinned (OpenSpec.ofChange fpPowersWrong)

/-- 'intagliolaw3.FpBytes': WHATEVER THE INPUT: true; the input reads as it did. -/
def fpBytesSpec : ChangeSpec := { name := "fpBytes", fn := fun _ => fun
  | [d1, d2] => { results := [.lit (.bool true)], args := [d1, d2] }
  | _ => none }
def fpBytesRow : OpenClaim := { program := "ytgdmjngajjoliaadoor", sum := "ae064814fbc0d4bd9001779ea041b335b1fb1f8987ebccc78b70df07a197d562", func := "intaglio/intagliolaw3.FpBytes", spec := "fpBytes", inPlace := ["math/bits.Add64", "math/bits.Sub64"], named := ["intaglio/fp.square", "intaglio/fp.half"], apart := false, laid := [("intaglio/fp.half", laid_intaglio_fp_half), ("intaglio/fp.square", laid_intaglio_fp_square)] }
def FpBytesSaid : Prop := fpBytesRow.holds Tryd.pinned (OpenSpec.ofChange fpBytesSpec)

/-- ITS FALSE NEIGHBOUR: 'it returns false'. Refute it at one input. -/
def fpBytesWrong : ChangeSpec := { name := "fpBytes", fn := fun _ => fun
  | [d1, d2] => { results := [.lit (.bool false)], args := [d1, d2] }
  | _ => none }
def FpBytesWrongFalsely : Prop := fpBytesRow.holds Tryd.pinned (OpenSpec.ofChange fpBytesWrong)

/-- 'intagliolaw3.FpField': WHATEVER THE INPUT: true; the input reads as it did. -/
def fpFieldSpec : ChangeSpec := { name := "fpField", fn := fun _ => fun
  | [d1, d2, d3] => { results := [.lit (.bool true)], args := [d1, d2, d3] }
  | _ => none }
def fpFieldRow : OpenClaim := { program := "ytgdmjngajjoliaadoor", sum := "ae064814fbc0d4bd9001779ea041b335b1fb1f8987ebccc78b70df07a197d562", func := "intaglio/intagliolaw3.FpField", spec := "fpField", inPlace := ["math/bits.Add64", "math/bits.Sub64"], named := ["intaglio/fp.square", "intaglio/fp.half"], apart := false, laid := [("intaglio/fp.half", laid_intaglio_fp_half), ("intaglio/fp.square", laid_intaglio_fp_square)] }
def FpFieldSaid : Prop := fpFieldRow.holds Tryd.pinned (OpenSpec.ofChange fpFieldSpec)

/-- ITS FALSE NEIGHBOUR: 'it returns false'. Refute it at one input. -/
def fpFieldWrong : ChangeSpec := { name := "fpField", fn := fun _ => fun
  | [d1, d2, d3] => { results := [.lit (.bool false)], args := [d1, d2, d3] }
  | _ => none }
def FpFieldWrongFalsely : Prop := fpFieldRow.holds Tryd.pinned (OpenSpec.ofChange fpFieldWrong)

/-- 'intagliolaw3.FpSquares': WHATEVER THE INPUT: true; the input reads as it did. -/
def fpSquaresSpec : ChangeSpec := { name := "fpSquares", fn := fun _ => fun
  | [d] => { results := [.lit (.bool true)], args := [d] }
  | _ => none }
def fpSquaresRow : OpenClaim := { program := "ytgdmjngajjoliaadoor", sum := "ae064814fbc0d4bd9001779ea041b335b1fb1f8987ebccc78b70df07a197d562", func := "intaglio/intagliolaw3.FpSquares", spec := "fpSquares", inPlace := ["math/bits.Add64", "math/bits.Sub64"], named := ["intaglio/fp.square", "intaglio/fp.half"], apart := false, laid := [("intaglio/fp.half", laid_intaglio_fp_half), ("intaglio/fp.square", laid_intaglio_fp_square)] }
def FpSquaresSaid : Prop := fpSquaresRow.holds Tryd.pinned (OpenSpec.ofChange fpSquaresSpec)

/-- ITS FALSE NEIGHBOUR: 'it returns false'. Refute it at one input. -/
def fpSquaresWrong : ChangeSpec := { name := "fpSquares", fn := fun _ => fun
  | [d] => { results := [.lit (.bool false)], args := [d] }
  | _ => none }
def FpSquaresWrongFalsely : Prop := fpSquaresRow.holds Tryd.pinned (OpenSpec.ofChange fpSquaresWrong)

/-- 'intagliolaw3.FpExponents': WHATEVER THE INPUT: true; the input reads as it did. -/
def fpExponentsSpec : ChangeSpec := { name := "fpExponents", fn := fun _ => fun
  | [d1, d2, d3] => { results := [.lit (.bool true)], args := [d1, d2, d3] }
  | _ => none }
def fpExponentsRow : OpenClaim := { program := "ytgdmjngajjoliaadoor", sum := "ae064814fbc0d4bd9001779ea041b335b1fb1f8987ebccc78b70df07a197d562", func := "intaglio/intagliolaw3.FpExponents", spec := "fpExponents", inPlace := ["math/bits.Add64", "math/bits.Sub64"], named := ["intaglio/fp.square", "intaglio/fp.half"], apart := false, laid := [("intaglio/fp.half", laid_intaglio_fp_half), ("intaglio/fp.square", laid_intaglio_fp_square)] }
def FpExponentsSaid : Prop := fpExponentsRow.holds Tryd.pinned (OpenSpec.ofChange fpExponentsSpec)

/-- ITS FALSE NEIGHBOUR: 'it returns false'. Refute it at one input. -/
def fpExponentsWrong : ChangeSpec := { name := "fpExponents", fn := fun _ => fun
  | [d1, d2, d3] => { results := [.lit (.bool false)], args := [d1, d2, d3] }
  | _ => none }
def FpExponentsWrongFalsely : Prop := fpExponentsRow.holds Tryd.pinned (OpenSpec.ofChange fpExponentsWrong)

/- THE SECOND FORM. 'bulk': how many values and letters a reading holds, each counted each time it is reached (what is shared counts as often as it is met; a slice's spare places count too). A statement '..UptoSaid' is the law's where the arguments, and the package variables that the reading takes, are together of bulk at most 1048576: NARROWER than '..Said'. Prove '..Said' where nothing that the law and all that it calls make is longer than what came in: it says more and counts as full. Else prove '..UptoSaid'. A law counts once. -/
mutual
def uptoBulk {H : Type} : DataW H → Nat
  | .lit (.string bytes) => bytes.length + 1
  | .lit _ => 1
  | .nil => 1
  | .ptr d => uptoBulk d + 1
  | .slice elems spare => uptoBulkAll elems + uptoBulkAll spare + 1
  | .agg parts => uptoBulkAll parts + 1
  | .iface _ d => uptoBulk d + 1
  | .map entries => uptoBulkEntries entries + 1
  | .held _ => 1
def uptoBulkAll {H : Type} : List (DataW H) → Nat
  | [] => 0
  | d :: r => uptoBulk d + uptoBulkAll r
def uptoBulkEntries {H : Type} : List (Lit × DataW H) → Nat
  | [] => 0
  | x :: r => uptoBulkEntry x + uptoBulkEntries r
def uptoBulkEntry {H : Type} : Lit × DataW H → Nat
  | (.string bytes, d) => bytes.length + uptoBulk d + 1
  | (_, d) => uptoBulk d + 1
 end
def uptoSmall : (H : Type) → List (DataW H) → Bool := fun _ ds => decide (uptoBulkAll ds ≤ 1048576)
def OpenSpec.upto (s : _root_.Go.ChangeSpec) : _root_.Go.OpenSpec := { _root_.Go.OpenSpec.ofChange s with cond := some uptoSmall }

/-- 'intagliolaw3.FpAll', WHERE WHAT IT READS IS OF BULK AT MOST 1048576: true; the input reads as it did. -/
def fpAllUptoRow : OpenClaim := { program := "ytgdmjngajjoliaadoor", sum := "ae064814fbc0d4bd9001779ea041b335b1fb1f8987ebccc78b70df07a197d562", func := "intaglio/intagliolaw3.FpAll", spec := "fpAll", inPlace := ["math/bits.Add64", "math/bits.Sub64"], named := ["intaglio/fp.square", "intaglio/fp.half"], apart := false, laid := [("intaglio/fp.half", laid_intaglio_fp_half), ("intaglio/fp.square", laid_intaglio_fp_square)], narrowed := true }
def FpAllUptoSaid : Prop := fpAllUptoRow.holds Tryd.pinned (OpenSpec.upto fpAllSpec)

/-- 'intagliolaw3.FpPowers', WHERE WHAT IT READS IS OF BULK AT MOST 1048576: true; the input reads as it did. -/
def fpPowersUptoRow : OpenClaim := { program := "ytgdmjngajjoliaadoor", sum := "ae064814fbc0d4bd9001779ea041b335b1fb1f8987ebccc78b70df07a197d562", func := "intaglio/intagliolaw3.FpPowers", spec := "fpPowers", inPlace := ["math/bits.Add64", "math/bits.Sub64"], named := ["intaglio/fp.square", "intaglio/fp.half"], apart := false, laid := [("intaglio/fp.half", laid_intaglio_fp_half), ("intaglio/fp.square", laid_intaglio_fp_square)], narrowed := true }
def FpPowersUptoSaid : Prop := fpPowersUptoRow.holds Tryd.pinned (OpenSpec.upto fpPowersSpec)

/-- 'intagliolaw3.FpBytes', WHERE WHAT IT READS IS OF BULK AT MOST 1048576: true; the input reads as it did. -/
def fpBytesUptoRow : OpenClaim := { program := "ytgdmjngajjoliaadoor", sum := "ae064814fbc0d4bd9001779ea041b335b1fb1f8987ebccc78b70df07a197d562", func := "intaglio/intagliolaw3.FpBytes", spec := "fpBytes", inPlace := ["math/bits.Add64", "math/bits.Sub64"], named := ["intaglio/fp.square", "intaglio/fp.half"], apart := false, laid := [("intaglio/fp.half", laid_intaglio_fp_half), ("intaglio/fp.square", laid_intaglio_fp_square)], narrowed := true }
def FpBytesUptoSaid : Prop := fpBytesUptoRow.holds Tryd.pinned (OpenSpec.upto fpBytesSpec)

/-- 'intagliolaw3.FpField', WHERE WHAT IT READS IS OF BULK AT MOST 1048576: true; the input reads as it did. -/
def fpFieldUptoRow : OpenClaim := { program := "ytgdmjngajjoliaadoor", sum := "ae064814fbc0d4bd9001779ea041b335b1fb1f8987ebccc78b70df07a197d562", func := "intaglio/intagliolaw3.FpField", spec := "fpField", inPlace := ["math/bits.Add64", "math/bits.Sub64"], named := ["intaglio/fp.square", "intaglio/fp.half"], apart := false, laid := [("intaglio/fp.half", laid_intaglio_fp_half), ("intaglio/fp.square", laid_intaglio_fp_square)], narrowed := true }
def FpFieldUptoSaid : Prop := fpFieldUptoRow.holds Tryd.pinned (OpenSpec.upto fpFieldSpec)

/-- 'intagliolaw3.FpSquares', WHERE WHAT IT READS IS OF BULK AT MOST 1048576: true; the input reads as it did. -/
def fpSquaresUptoRow : OpenClaim := { program := "ytgdmjngajjoliaadoor", sum := "ae064814fbc0d4bd9001779ea041b335b1fb1f8987ebccc78b70df07a197d562", func := "intaglio/intagliolaw3.FpSquares", spec := "fpSquares", inPlace := ["math/bits.Add64", "math/bits.Sub64"], named := ["intaglio/fp.square", "intaglio/fp.half"], apart := false, laid := [("intaglio/fp.half", laid_intaglio_fp_half), ("intaglio/fp.square", laid_intaglio_fp_square)], narrowed := true }
def FpSquaresUptoSaid : Prop := fpSquaresUptoRow.holds Tryd.pinned (OpenSpec.upto fpSquaresSpec)

/-- 'intagliolaw3.FpExponents', WHERE WHAT IT READS IS OF BULK AT MOST 1048576: true; the input reads as it did. -/
def fpExponentsUptoRow : OpenClaim := { program := "ytgdmjngajjoliaadoor", sum := "ae064814fbc0d4bd9001779ea041b335b1fb1f8987ebccc78b70df07a197d562", func := "intaglio/intagliolaw3.FpExponents", spec := "fpExponents", inPlace := ["math/bits.Add64", "math/bits.Sub64"], named := ["intaglio/fp.square", "intaglio/fp.half"], apart := false, laid := [("intaglio/fp.half", laid_intaglio_fp_half), ("intaglio/fp.square", laid_intaglio_fp_square)], narrowed := true }
def FpExponentsUptoSaid : Prop := fpExponentsUptoRow.holds Tryd.pinned (OpenSpec.upto fpExponentsSpec)

end Rows
end Go.Proofs.YtgdmjngajjoliaaDoor
