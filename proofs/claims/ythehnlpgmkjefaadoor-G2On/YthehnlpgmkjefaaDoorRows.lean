/-
  NARROWER THAN 'FOR EVERY INPUT', by the rows' own cells (each row's printed sentence says how): G2All: laid · G2On: laid · G2Sums: laid · G2Group: laid · G2Out: laid · G2Small: laid.
  DERIVED. THE GIVEN ROWS OF THIS SEAT. 6 by the template 'for every input the law returns true; each argument reads behind the call as it read before'; 0 by the template 'total and deterministic' (their statements: YthehnlpgmkjefaaDoorTotals.lean).
  GIVEN WITH THE SEED: the statements are not yours to turn. If you find one false, say at which input.
  Laid BY PROGRAM, IN A SANDBOX (cutbox-rows.mjs): the forced cells as the released guide's own fill.sh prints them over the translation 60cf91cf5c79aad6… (all of the seat's roots in one cut). By AI agents, Wed Nov 11 2026. No macro, syntax, notation, axiom, sorry.
-/
import Derived.Test.YthehnlpgmkjefaaDoorChecked
import GoSem.Claim
import GoSem.ClaimJoined
import GoSem.ClaimMapViews
import Derived.JoinedTies
import Derived.KernelRfl
namespace Go.Proofs.YthehnlpgmkjefaaDoor
/- THE CELL 'sum', in the pinned program and in every row, IS THE sha256 OF THE DUMP (.gsa) THAT YthehnlpgmkjefaaDoorProg.lean LOADS. Nothing in Lean hashes anything: it is a label: what it is worth is what the hold of that sum in a sandbox is worth. -/
noncomputable def Tryd.pinned : Pinned := { name := "ythehnlpgmkjefaadoor", sum := "60cf91cf5c79aad68266699567b73d26097ace3ea470485de6673bbb5be1cfbd", checked := Tryd.checked }
namespace Rows
def none {H : Type} : Left H := { results := [], args := [] }

/- WHAT THE LISTED PACKAGE-LEVEL VARIABLES READ AS WHEN THE CALL BEGINS. Each datum BY PROGRAM (the guide's laid-datum.mjs) off the statement by which the dump's own 'gosem.cut.vars' lays the variable. In a bare row this is a premise. The card (YthehnlpgmkjefaaDoorCards.lean) ties it to the program's text. -/
def laid_intaglio_fp_square {H : Type} : DataW H := .agg [.lit (.int .u64 17644856173732828998), .lit (.int .u64 754043588434789617), .lit (.int .u64 10224657059481499349), .lit (.int .u64 7488229067341005760), .lit (.int .u64 11130996698012816685), .lit (.int .u64 1267921511277847466)]

/-- 'intagliolaw9.G2All': WHATEVER THE INPUT: true; the input reads as it did. -/
def g2AllSpec : ChangeSpec := { name := "g2All", fn := fun _ => fun
  | [d1, d2, d3, d4, d5, d6] => { results := [.lit (.bool true)], args := [d1, d2, d3, d4, d5, d6] }
  | _ => none }
def g2AllRow : OpenClaim := { program := "ythehnlpgmkjefaadoor", sum := "60cf91cf5c79aad68266699567b73d26097ace3ea470485de6673bbb5be1cfbd", func := "intaglio/intagliolaw9.G2All", spec := "g2All", inPlace := ["math/bits.Sub64", "math/bits.Add64"], named := ["intaglio/fp.square"], apart := false, laid := [("intaglio/fp.square", laid_intaglio_fp_square)] }
def G2AllSaid : Prop := g2AllRow.holds Tryd.pinned (OpenSpec.ofChange g2AllSpec)

/-- ITS FALSE NEIGHBOUR: 'it returns false'. Refute it at one input. -/
def g2AllWrong : ChangeSpec := { name := "g2All", fn := fun _ => fun
  | [d1, d2, d3, d4, d5, d6] => { results := [.lit (.bool false)], args := [d1, d2, d3, d4, d5, d6] }
  | _ => none }
def G2AllWrongFalsely : Prop := g2AllRow.holds Tryd.pinned (OpenSpec.ofChange g2AllWrong)

/-- 'intagliolaw9.G2On': WHATEVER THE INPUT: true; the input reads as it did. -/
def g2OnSpec : ChangeSpec := { name := "g2On", fn := fun _ => fun
  | [d1, d2, d3, d4] => { results := [.lit (.bool true)], args := [d1, d2, d3, d4] }
  | _ => none }
def g2OnRow : OpenClaim := { program := "ythehnlpgmkjefaadoor", sum := "60cf91cf5c79aad68266699567b73d26097ace3ea470485de6673bbb5be1cfbd", func := "intaglio/intagliolaw9.G2On", spec := "g2On", inPlace := ["math/bits.Sub64", "math/bits.Add64"], named := ["intaglio/fp.square"], apart := false, laid := [("intaglio/fp.square", laid_intaglio_fp_square)] }
def G2OnSaid : Prop := g2OnRow.holds Tryd.pinned (OpenSpec.ofChange g2OnSpec)

/-- ITS FALSE NEIGHBOUR: 'it returns false'. Refute it at one input. -/
def g2OnWrong : ChangeSpec := { name := "g2On", fn := fun _ => fun
  | [d1, d2, d3, d4] => { results := [.lit (.bool false)], args := [d1, d2, d3, d4] }
  | _ => none }
def G2OnWrongFalsely : Prop := g2OnRow.holds Tryd.pinned (OpenSpec.ofChange g2OnWrong)

/-- 'intagliolaw9.G2Sums': WHATEVER THE INPUT: true; the input reads as it did. -/
def g2SumsSpec : ChangeSpec := { name := "g2Sums", fn := fun _ => fun
  | [d1, d2] => { results := [.lit (.bool true)], args := [d1, d2] }
  | _ => none }
def g2SumsRow : OpenClaim := { program := "ythehnlpgmkjefaadoor", sum := "60cf91cf5c79aad68266699567b73d26097ace3ea470485de6673bbb5be1cfbd", func := "intaglio/intagliolaw9.G2Sums", spec := "g2Sums", inPlace := ["math/bits.Sub64", "math/bits.Add64"], named := ["intaglio/fp.square"], apart := false, laid := [("intaglio/fp.square", laid_intaglio_fp_square)] }
def G2SumsSaid : Prop := g2SumsRow.holds Tryd.pinned (OpenSpec.ofChange g2SumsSpec)

/-- ITS FALSE NEIGHBOUR: 'it returns false'. Refute it at one input. -/
def g2SumsWrong : ChangeSpec := { name := "g2Sums", fn := fun _ => fun
  | [d1, d2] => { results := [.lit (.bool false)], args := [d1, d2] }
  | _ => none }
def G2SumsWrongFalsely : Prop := g2SumsRow.holds Tryd.pinned (OpenSpec.ofChange g2SumsWrong)

/-- 'intagliolaw9.G2Group': WHATEVER THE INPUT: true; the input reads as it did. -/
def g2GroupSpec : ChangeSpec := { name := "g2Group", fn := fun _ => fun
  | [d1, d2, d3, d4] => { results := [.lit (.bool true)], args := [d1, d2, d3, d4] }
  | _ => none }
def g2GroupRow : OpenClaim := { program := "ythehnlpgmkjefaadoor", sum := "60cf91cf5c79aad68266699567b73d26097ace3ea470485de6673bbb5be1cfbd", func := "intaglio/intagliolaw9.G2Group", spec := "g2Group", inPlace := ["math/bits.Sub64", "math/bits.Add64"], named := ["intaglio/fp.square"], apart := false, laid := [("intaglio/fp.square", laid_intaglio_fp_square)] }
def G2GroupSaid : Prop := g2GroupRow.holds Tryd.pinned (OpenSpec.ofChange g2GroupSpec)

/-- ITS FALSE NEIGHBOUR: 'it returns false'. Refute it at one input. -/
def g2GroupWrong : ChangeSpec := { name := "g2Group", fn := fun _ => fun
  | [d1, d2, d3, d4] => { results := [.lit (.bool false)], args := [d1, d2, d3, d4] }
  | _ => none }
def G2GroupWrongFalsely : Prop := g2GroupRow.holds Tryd.pinned (OpenSpec.ofChange g2GroupWrong)

/-- 'intagliolaw9.G2Out': WHATEVER THE INPUT: true; the input reads as it did. -/
def g2OutSpec : ChangeSpec := { name := "g2Out", fn := fun _ => fun
  | [d1, d2, d3] => { results := [.lit (.bool true)], args := [d1, d2, d3] }
  | _ => none }
def g2OutRow : OpenClaim := { program := "ythehnlpgmkjefaadoor", sum := "60cf91cf5c79aad68266699567b73d26097ace3ea470485de6673bbb5be1cfbd", func := "intaglio/intagliolaw9.G2Out", spec := "g2Out", inPlace := ["math/bits.Sub64", "math/bits.Add64"], named := ["intaglio/fp.square"], apart := false, laid := [("intaglio/fp.square", laid_intaglio_fp_square)] }
def G2OutSaid : Prop := g2OutRow.holds Tryd.pinned (OpenSpec.ofChange g2OutSpec)

/-- ITS FALSE NEIGHBOUR: 'it returns false'. Refute it at one input. -/
def g2OutWrong : ChangeSpec := { name := "g2Out", fn := fun _ => fun
  | [d1, d2, d3] => { results := [.lit (.bool false)], args := [d1, d2, d3] }
  | _ => none }
def G2OutWrongFalsely : Prop := g2OutRow.holds Tryd.pinned (OpenSpec.ofChange g2OutWrong)

/-- 'intagliolaw9.G2Small': WHATEVER THE INPUT: true; the input reads as it did. -/
def g2SmallSpec : ChangeSpec := { name := "g2Small", fn := fun _ => fun
  | [d1, d2, d3] => { results := [.lit (.bool true)], args := [d1, d2, d3] }
  | _ => none }
def g2SmallRow : OpenClaim := { program := "ythehnlpgmkjefaadoor", sum := "60cf91cf5c79aad68266699567b73d26097ace3ea470485de6673bbb5be1cfbd", func := "intaglio/intagliolaw9.G2Small", spec := "g2Small", inPlace := ["math/bits.Sub64", "math/bits.Add64"], named := ["intaglio/fp.square"], apart := false, laid := [("intaglio/fp.square", laid_intaglio_fp_square)] }
def G2SmallSaid : Prop := g2SmallRow.holds Tryd.pinned (OpenSpec.ofChange g2SmallSpec)

/-- ITS FALSE NEIGHBOUR: 'it returns false'. Refute it at one input. -/
def g2SmallWrong : ChangeSpec := { name := "g2Small", fn := fun _ => fun
  | [d1, d2, d3] => { results := [.lit (.bool false)], args := [d1, d2, d3] }
  | _ => none }
def G2SmallWrongFalsely : Prop := g2SmallRow.holds Tryd.pinned (OpenSpec.ofChange g2SmallWrong)

/- THE SECOND FORM. 'bulk': how many values and letters a reading holds, each counted each time it is reached (what is shared counts as often as it is met; a slice's spare places count too). A statement '..UptoSaid' is the law's where the arguments, and the package variables that the reading takes, are together of bulk at most 1048576: NARROWER than '..Said'. Prove '..Said' where nothing that the law and all that it calls make is longer than what came in: it says more and counts as full. Else prove '..UptoSaid'. A law counts once. -/
mutual
def uptoBulk {H : Type} : DataW H → Nat
  | .lit (.string bytes) => bytes.length + 1
  | .lit _ => 1
  | .nil => 1
  | .ptr d => uptoBulk d + 1
  | .slice elems spare => uptoBulkAll elems + uptoBulkAll spare + 1
  | .agg parts => uptoBulkAll parts + 1
  | .iface _ d => uptoBulk d + 1
  | .map entries => uptoBulkEntries entries + 1
  | .held _ => 1
def uptoBulkAll {H : Type} : List (DataW H) → Nat
  | [] => 0
  | d :: r => uptoBulk d + uptoBulkAll r
def uptoBulkEntries {H : Type} : List (Lit × DataW H) → Nat
  | [] => 0
  | x :: r => uptoBulkEntry x + uptoBulkEntries r
def uptoBulkEntry {H : Type} : Lit × DataW H → Nat
  | (.string bytes, d) => bytes.length + uptoBulk d + 1
  | (_, d) => uptoBulk d + 1
 end
def uptoSmall : (H : Type) → List (DataW H) → Bool := fun _ ds => decide (uptoBulkAll ds ≤ 1048576)
def OpenSpec.upto (s : _root_.Go.ChangeSpec) : _root_.Go.OpenSpec := { _root_.Go.OpenSpec.ofChange s with cond := some uptoSmall }

/-- 'intagliolaw9.G2All', WHERE WHAT IT READS IS OF BULK AT MOST 1048576: true; the input reads as it did. -/
def g2AllUptoRow : OpenClaim := { program := "ythehnlpgmkjefaadoor", sum := "60cf91cf5c79aad68266699567b73d26097ace3ea470485de6673bbb5be1cfbd", func := "intaglio/intagliolaw9.G2All", spec := "g2All", inPlace := ["math/bits.Sub64", "math/bits.Add64"], named := ["intaglio/fp.square"], apart := false, laid := [("intaglio/fp.square", laid_intaglio_fp_square)], narrowed := true }
def G2AllUptoSaid : Prop := g2AllUptoRow.holds Tryd.pinned (OpenSpec.upto g2AllSpec)

/-- 'intagliolaw9.G2On', WHERE WHAT IT READS IS OF BULK AT MOST 1048576: true; the input reads as it did. -/
def g2OnUptoRow : OpenClaim := { program := "ythehnlpgmkjefaadoor", sum := "60cf91cf5c79aad68266699567b73d26097ace3ea470485de6673bbb5be1cfbd", func := "intaglio/intagliolaw9.G2On", spec := "g2On", inPlace := ["math/bits.Sub64", "math/bits.Add64"], named := ["intaglio/fp.square"], apart := false, laid := [("intaglio/fp.square", laid_intaglio_fp_square)], narrowed := true }
def G2OnUptoSaid : Prop := g2OnUptoRow.holds Tryd.pinned (OpenSpec.upto g2OnSpec)

/-- 'intagliolaw9.G2Sums', WHERE WHAT IT READS IS OF BULK AT MOST 1048576: true; the input reads as it did. -/
def g2SumsUptoRow : OpenClaim := { program := "ythehnlpgmkjefaadoor", sum := "60cf91cf5c79aad68266699567b73d26097ace3ea470485de6673bbb5be1cfbd", func := "intaglio/intagliolaw9.G2Sums", spec := "g2Sums", inPlace := ["math/bits.Sub64", "math/bits.Add64"], named := ["intaglio/fp.square"], apart := false, laid := [("intaglio/fp.square", laid_intaglio_fp_square)], narrowed := true }
def G2SumsUptoSaid : Prop := g2SumsUptoRow.holds Tryd.pinned (OpenSpec.upto g2SumsSpec)

/-- 'intagliolaw9.G2Group', WHERE WHAT IT READS IS OF BULK AT MOST 1048576: true; the input reads as it did. -/
def g2GroupUptoRow : OpenClaim := { program := "ythehnlpgmkjefaadoor", sum := "60cf91cf5c79aad68266699567b73d26097ace3ea470485de6673bbb5be1cfbd", func := "intaglio/intagliolaw9.G2Group", spec := "g2Group", inPlace := ["math/bits.Sub64", "math/bits.Add64"], named := ["intaglio/fp.square"], apart := false, laid := [("intaglio/fp.square", laid_intaglio_fp_square)], narrowed := true }
def G2GroupUptoSaid : Prop := g2GroupUptoRow.holds Tryd.pinned (OpenSpec.upto g2GroupSpec)

/-- 'intagliolaw9.G2Out', WHERE WHAT IT READS IS OF BULK AT MOST 1048576: true; the input reads as it did. -/
def g2OutUptoRow : OpenClaim := { program := "ythehnlpgmkjefaadoor", sum := "60cf91cf5c79aad68266699567b73d26097ace3ea470485de6673bbb5be1cfbd", func := "intaglio/intagliolaw9.G2Out", spec := "g2Out", inPlace := ["math/bits.Sub64", "math/bits.Add64"], named := ["intaglio/fp.square"], apart := false, laid := [("intaglio/fp.square", laid_intaglio_fp_square)], narrowed := true }
def G2OutUptoSaid : Prop := g2OutUptoRow.holds Tryd.pinned (OpenSpec.upto g2OutSpec)

/-- 'intagliolaw9.G2Small', WHERE WHAT IT READS IS OF BULK AT MOST 1048576: true; the input reads as it did. -/
def g2SmallUptoRow : OpenClaim := { program := "ythehnlpgmkjefaadoor", sum := "60cf91cf5c79aad68266699567b73d26097ace3ea470485de6673bbb5be1cfbd", func := "intaglio/intagliolaw9.G2Small", spec := "g2Small", inPlace := ["math/bits.Sub64", "math/bits.Add64"], named := ["intaglio/fp.square"], apart := false, laid := [("intaglio/fp.square", laid_intaglio_fp_square)], narrowed := true }
def G2SmallUptoSaid : Prop := g2SmallUptoRow.holds Tryd.pinned (OpenSpec.upto g2SmallSpec)

end Rows
end Go.Proofs.YthehnlpgmkjefaaDoor
