/-
  NARROWER THAN 'FOR EVERY INPUT', by the rows' own cells (each row's printed sentence says how): G1All: laid · G1On: laid · G1Sums: laid · G1Group: laid · G1Out: laid · G1Small: laid.
  DERIVED. THE GIVEN ROWS OF THIS SEAT. 6 by the template 'for every input the law returns true; each argument reads behind the call as it read before'; 0 by the template 'total and deterministic' (their statements: YtoehglidlakahaaDoorTotals.lean).
  GIVEN WITH THE SEED: the statements are not yours to turn. If you find one false, say at which input.
  Laid BY PROGRAM, IN A SANDBOX (cutbox-rows.mjs): the forced cells as the released guide's own fill.sh prints them over the translation 2d6bf91f268a640b… (all of the seat's roots in one cut). By AI agents, Wed Nov 11 2026. No macro, syntax, notation, axiom, sorry.
-/
import Derived.Test.YtoehglidlakahaaDoorChecked
import GoSem.Claim
import GoSem.ClaimJoined
import GoSem.ClaimMapViews
import Derived.JoinedTies
import Derived.KernelRfl
namespace Go.Proofs.YtoehglidlakahaaDoor
/- THE CELL 'sum', in the pinned program and in every row, IS THE sha256 OF THE DUMP (.gsa) THAT YtoehglidlakahaaDoorProg.lean LOADS. Nothing in Lean hashes anything: it is a label: what it is worth is what the hold of that sum in a sandbox is worth. -/
noncomputable def Tryd.pinned : Pinned := { name := "ytoehglidlakahaadoor", sum := "2d6bf91f268a640b3c2ce815a013202e41c8eacc6a1e7c8ec689f76e50f03734", checked := Tryd.checked }
namespace Rows
def none {H : Type} : Left H := { results := [], args := [] }

/- WHAT THE LISTED PACKAGE-LEVEL VARIABLES READ AS WHEN THE CALL BEGINS. Each datum BY PROGRAM (the guide's laid-datum.mjs) off the statement by which the dump's own 'gosem.cut.vars' lays the variable. In a bare row this is a premise. The card (YtoehglidlakahaaDoorCards.lean) ties it to the program's text. -/
def laid_intaglio_fp_square {H : Type} : DataW H := .agg [.lit (.int .u64 17644856173732828998), .lit (.int .u64 754043588434789617), .lit (.int .u64 10224657059481499349), .lit (.int .u64 7488229067341005760), .lit (.int .u64 11130996698012816685), .lit (.int .u64 1267921511277847466)]

/-- 'intagliolaw8.G1All': WHATEVER THE INPUT: true; the input reads as it did. -/
def g1AllSpec : ChangeSpec := { name := "g1All", fn := fun _ => fun
  | [d1, d2, d3, d4, d5, d6] => { results := [.lit (.bool true)], args := [d1, d2, d3, d4, d5, d6] }
  | _ => none }
def g1AllRow : OpenClaim := { program := "ytoehglidlakahaadoor", sum := "2d6bf91f268a640b3c2ce815a013202e41c8eacc6a1e7c8ec689f76e50f03734", func := "intaglio/intagliolaw8.G1All", spec := "g1All", inPlace := ["math/bits.Sub64", "math/bits.Add64"], named := ["intaglio/fp.square"], apart := false, laid := [("intaglio/fp.square", laid_intaglio_fp_square)] }
def G1AllSaid : Prop := g1AllRow.holds Tryd.pinned (OpenSpec.ofChange g1AllSpec)

/-- ITS FALSE NEIGHBOUR: 'it returns false'. Refute it at one input. -/
def g1AllWrong : ChangeSpec := { name := "g1All", fn := fun _ => fun
  | [d1, d2, d3, d4, d5, d6] => { results := [.lit (.bool false)], args := [d1, d2, d3, d4, d5, d6] }
  | _ => none }
def G1AllWrongFalsely : Prop := g1AllRow.holds Tryd.pinned (OpenSpec.ofChange g1AllWrong)

/-- 'intagliolaw8.G1On': WHATEVER THE INPUT: true; the input reads as it did. -/
def g1OnSpec : ChangeSpec := { name := "g1On", fn := fun _ => fun
  | [d1, d2, d3, d4] => { results := [.lit (.bool true)], args := [d1, d2, d3, d4] }
  | _ => none }
def g1OnRow : OpenClaim := { program := "ytoehglidlakahaadoor", sum := "2d6bf91f268a640b3c2ce815a013202e41c8eacc6a1e7c8ec689f76e50f03734", func := "intaglio/intagliolaw8.G1On", spec := "g1On", inPlace := ["math/bits.Sub64", "math/bits.Add64"], named := ["intaglio/fp.square"], apart := false, laid := [("intaglio/fp.square", laid_intaglio_fp_square)] }
def G1OnSaid : Prop := g1OnRow.holds Tryd.pinned (OpenSpec.ofChange g1OnSpec)

/-- ITS FALSE NEIGHBOUR: 'it returns false'. Refute it at one input. -/
def g1OnWrong : ChangeSpec := { name := "g1On", fn := fun _ => fun
  | [d1, d2, d3, d4] => { results := [.lit (.bool false)], args := [d1, d2, d3, d4] }
  | _ => none }
def G1OnWrongFalsely : Prop := g1OnRow.holds Tryd.pinned (OpenSpec.ofChange g1OnWrong)

/-- 'intagliolaw8.G1Sums': WHATEVER THE INPUT: true; the input reads as it did. -/
def g1SumsSpec : ChangeSpec := { name := "g1Sums", fn := fun _ => fun
  | [d1, d2] => { results := [.lit (.bool true)], args := [d1, d2] }
  | _ => none }
def g1SumsRow : OpenClaim := { program := "ytoehglidlakahaadoor", sum := "2d6bf91f268a640b3c2ce815a013202e41c8eacc6a1e7c8ec689f76e50f03734", func := "intaglio/intagliolaw8.G1Sums", spec := "g1Sums", inPlace := ["math/bits.Sub64", "math/bits.Add64"], named := ["intaglio/fp.square"], apart := false, laid := [("intaglio/fp.square", laid_intaglio_fp_square)] }
def G1SumsSaid : Prop := g1SumsRow.holds Tryd.pinned (OpenSpec.ofChange g1SumsSpec)

/-- ITS FALSE NEIGHBOUR: 'it returns false'. Refute it at one input. -/
def g1SumsWrong : ChangeSpec := { name := "g1Sums", fn := fun _ => fun
  | [d1, d2] => { results := [.lit (.bool false)], args := [d1, d2] }
  | _ => none }
def G1SumsWrongFalsely : Prop := g1SumsRow.holds Tryd.pinned (OpenSpec.ofChange g1SumsWrong)

/-- 'intagliolaw8.G1Group': WHATEVER THE INPUT: true; the input reads as it did. -/
def g1GroupSpec : ChangeSpec := { name := "g1Group", fn := fun _ => fun
  | [d1, d2, d3, d4] => { results := [.lit (.bool true)], args := [d1, d2, d3, d4] }
  | _ => none }
def g1GroupRow : OpenClaim := { program := "ytoehglidlakahaadoor", sum := "2d6bf91f268a640b3c2ce815a013202e41c8eacc6a1e7c8ec689f76e50f03734", func := "intaglio/intagliolaw8.G1Group", spec := "g1Group", inPlace := ["math/bits.Sub64", "math/bits.Add64"], named := ["intaglio/fp.square"], apart := false, laid := [("intaglio/fp.square", laid_intaglio_fp_square)] }
def G1GroupSaid : Prop := g1GroupRow.holds Tryd.pinned (OpenSpec.ofChange g1GroupSpec)

/-- ITS FALSE NEIGHBOUR: 'it returns false'. Refute it at one input. -/
def g1GroupWrong : ChangeSpec := { name := "g1Group", fn := fun _ => fun
  | [d1, d2, d3, d4] => { results := [.lit (.bool false)], args := [d1, d2, d3, d4] }
  | _ => none }
def G1GroupWrongFalsely : Prop := g1GroupRow.holds Tryd.pinned (OpenSpec.ofChange g1GroupWrong)

/-- 'intagliolaw8.G1Out': WHATEVER THE INPUT: true; the input reads as it did. -/
def g1OutSpec : ChangeSpec := { name := "g1Out", fn := fun _ => fun
  | [d1, d2, d3] => { results := [.lit (.bool true)], args := [d1, d2, d3] }
  | _ => none }
def g1OutRow : OpenClaim := { program := "ytoehglidlakahaadoor", sum := "2d6bf91f268a640b3c2ce815a013202e41c8eacc6a1e7c8ec689f76e50f03734", func := "intaglio/intagliolaw8.G1Out", spec := "g1Out", inPlace := ["math/bits.Sub64", "math/bits.Add64"], named := ["intaglio/fp.square"], apart := false, laid := [("intaglio/fp.square", laid_intaglio_fp_square)] }
def G1OutSaid : Prop := g1OutRow.holds Tryd.pinned (OpenSpec.ofChange g1OutSpec)

/-- ITS FALSE NEIGHBOUR: 'it returns false'. Refute it at one input. -/
def g1OutWrong : ChangeSpec := { name := "g1Out", fn := fun _ => fun
  | [d1, d2, d3] => { results := [.lit (.bool false)], args := [d1, d2, d3] }
  | _ => none }
def G1OutWrongFalsely : Prop := g1OutRow.holds Tryd.pinned (OpenSpec.ofChange g1OutWrong)

/-- 'intagliolaw8.G1Small': WHATEVER THE INPUT: true; the input reads as it did. -/
def g1SmallSpec : ChangeSpec := { name := "g1Small", fn := fun _ => fun
  | [d1, d2, d3] => { results := [.lit (.bool true)], args := [d1, d2, d3] }
  | _ => none }
def g1SmallRow : OpenClaim := { program := "ytoehglidlakahaadoor", sum := "2d6bf91f268a640b3c2ce815a013202e41c8eacc6a1e7c8ec689f76e50f03734", func := "intaglio/intagliolaw8.G1Small", spec := "g1Small", inPlace := ["math/bits.Sub64", "math/bits.Add64"], named := ["intaglio/fp.square"], apart := false, laid := [("intaglio/fp.square", laid_intaglio_fp_square)] }
def G1SmallSaid : Prop := g1SmallRow.holds Tryd.pinned (OpenSpec.ofChange g1SmallSpec)

/-- ITS FALSE NEIGHBOUR: 'it returns false'. Refute it at one input. -/
def g1SmallWrong : ChangeSpec := { name := "g1Small", fn := fun _ => fun
  | [d1, d2, d3] => { results := [.lit (.bool false)], args := [d1, d2, d3] }
  | _ => none }
def G1SmallWrongFalsely : Prop := g1SmallRow.holds Tryd.pinned (OpenSpec.ofChange g1SmallWrong)

/- THE SECOND FORM. 'bulk': how many values and letters a reading holds, each counted each time it is reached (what is shared counts as often as it is met; a slice's spare places count too). A statement '..UptoSaid' is the law's where the arguments, and the package variables that the reading takes, are together of bulk at most 1048576: NARROWER than '..Said'. Prove '..Said' where nothing that the law and all that it calls make is longer than what came in: it says more and counts as full. Else prove '..UptoSaid'. A law counts once. -/
mutual
def uptoBulk {H : Type} : DataW H → Nat
  | .lit (.string bytes) => bytes.length + 1
  | .lit _ => 1
  | .nil => 1
  | .ptr d => uptoBulk d + 1
  | .slice elems spare => uptoBulkAll elems + uptoBulkAll spare + 1
  | .agg parts => uptoBulkAll parts + 1
  | .iface _ d => uptoBulk d + 1
  | .map entries => uptoBulkEntries entries + 1
  | .held _ => 1
def uptoBulkAll {H : Type} : List (DataW H) → Nat
  | [] => 0
  | d :: r => uptoBulk d + uptoBulkAll r
def uptoBulkEntries {H : Type} : List (Lit × DataW H) → Nat
  | [] => 0
  | x :: r => uptoBulkEntry x + uptoBulkEntries r
def uptoBulkEntry {H : Type} : Lit × DataW H → Nat
  | (.string bytes, d) => bytes.length + uptoBulk d + 1
  | (_, d) => uptoBulk d + 1
 end
def uptoSmall : (H : Type) → List (DataW H) → Bool := fun _ ds => decide (uptoBulkAll ds ≤ 1048576)
def OpenSpec.upto (s : _root_.Go.ChangeSpec) : _root_.Go.OpenSpec := { _root_.Go.OpenSpec.ofChange s with cond := some uptoSmall }

/-- 'intagliolaw8.G1All', WHERE WHAT IT READS IS OF BULK AT MOST 1048576: true; the input reads as it did. -/
def g1AllUptoRow : OpenClaim := { program := "ytoehglidlakahaadoor", sum := "2d6bf91f268a640b3c2ce815a013202e41c8eacc6a1e7c8ec689f76e50f03734", func := "intaglio/intagliolaw8.G1All", spec := "g1All", inPlace := ["math/bits.Sub64", "math/bits.Add64"], named := ["intaglio/fp.square"], apart := false, laid := [("intaglio/fp.square", laid_intaglio_fp_square)], narrowed := true }
def G1AllUptoSaid : Prop := g1AllUptoRow.holds Tryd.pinned (OpenSpec.upto g1AllSpec)

/-- 'intagliolaw8.G1On', WHERE WHAT IT READS IS OF BULK AT MOST 1048576: true; the input reads as it did. -/
def g1OnUptoRow : OpenClaim := { program := "ytoehglidlakahaadoor", sum := "2d6bf91f268a640b3c2ce815a013202e41c8eacc6a1e7c8ec689f76e50f03734", func := "intaglio/intagliolaw8.G1On", spec := "g1On", inPlace := ["math/bits.Sub64", "math/bits.Add64"], named := ["intaglio/fp.square"], apart := false, laid := [("intaglio/fp.square", laid_intaglio_fp_square)], narrowed := true }
def G1OnUptoSaid : Prop := g1OnUptoRow.holds Tryd.pinned (OpenSpec.upto g1OnSpec)

/-- 'intagliolaw8.G1Sums', WHERE WHAT IT READS IS OF BULK AT MOST 1048576: true; the input reads as it did. -/
def g1SumsUptoRow : OpenClaim := { program := "ytoehglidlakahaadoor", sum := "2d6bf91f268a640b3c2ce815a013202e41c8eacc6a1e7c8ec689f76e50f03734", func := "intaglio/intagliolaw8.G1Sums", spec := "g1Sums", inPlace := ["math/bits.Sub64", "math/bits.Add64"], named := ["intaglio/fp.square"], apart := false, laid := [("intaglio/fp.square", laid_intaglio_fp_square)], narrowed := true }
def G1SumsUptoSaid : Prop := g1SumsUptoRow.holds Tryd.pinned (OpenSpec.upto g1SumsSpec)

/-- 'intagliolaw8.G1Group', WHERE WHAT IT READS IS OF BULK AT MOST 1048576: true; the input reads as it did. -/
def g1GroupUptoRow : OpenClaim := { program := "ytoehglidlakahaadoor", sum := "2d6bf91f268a640b3c2ce815a013202e41c8eacc6a1e7c8ec689f76e50f03734", func := "intaglio/intagliolaw8.G1Group", spec := "g1Group", inPlace := ["math/bits.Sub64", "math/bits.Add64"], named := ["intaglio/fp.square"], apart := false, laid := [("intaglio/fp.square", laid_intaglio_fp_square)], narrowed := true }
def G1GroupUptoSaid : Prop := g1GroupUptoRow.holds Tryd.pinned (OpenSpec.upto g1GroupSpec)

/-- 'intagliolaw8.G1Out', WHERE WHAT IT READS IS OF BULK AT MOST 1048576: true; the input reads as it did. -/
def g1OutUptoRow : OpenClaim := { program := "ytoehglidlakahaadoor", sum := "2d6bf91f268a640b3c2ce815a013202e41c8eacc6a1e7c8ec689f76e50f03734", func := "intaglio/intagliolaw8.G1Out", spec := "g1Out", inPlace := ["math/bits.Sub64", "math/bits.Add64"], named := ["intaglio/fp.square"], apart := false, laid := [("intaglio/fp.square", laid_intaglio_fp_square)], narrowed := true }
def G1OutUptoSaid : Prop := g1OutUptoRow.holds Tryd.pinned (OpenSpec.upto g1OutSpec)

/-- 'intagliolaw8.G1Small', WHERE WHAT IT READS IS OF BULK AT MOST 1048576: true; the input reads as it did. -/
def g1SmallUptoRow : OpenClaim := { program := "ytoehglidlakahaadoor", sum := "2d6bf91f268a640b3c2ce815a013202e41c8eacc6a1e7c8ec689f76e50f03734", func := "intaglio/intagliolaw8.G1Small", spec := "g1Small", inPlace := ["math/bits.Sub64", "math/bits.Add64"], named := ["intaglio/fp.square"], apart := false, laid := [("intaglio/fp.square", laid_intaglio_fp_square)], narrowed := true }
def G1SmallUptoSaid : Prop := g1SmallUptoRow.holds Tryd.pinned (OpenSpec.upto g1SmallSpec)

end Rows
end Go.Proofs.YtoehglidlakahaaDoor
