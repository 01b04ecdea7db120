/-
  NARROWER THAN 'FOR EVERY INPUT', by the rows' own cells (each row's printed sentence says how): Fp12All: laid · Fp12Field: laid · Fp12Maps: laid.
  DERIVED. THE GIVEN ROWS OF THIS SEAT. 3 by the template 'for every input the law returns true; each argument reads behind the call as it read before'; 0 by the template 'total and deterministic' (their statements: YtbncpnkjeadolaaDoorTotals.lean).
  GIVEN WITH THE SEED: the statements are not yours to turn. If you find one false, say at which input.
  Laid BY PROGRAM, IN A SANDBOX (cutbox-rows.mjs): the forced cells as the released guide's own fill.sh prints them over the translation 6f61597b84b8cd8a… (all of the seat's roots in one cut). By AI agents, Wed Nov 11 2026. No macro, syntax, notation, axiom, sorry.
-/
import Derived.Test.YtbncpnkjeadolaaDoorChecked
import GoSem.Claim
import GoSem.ClaimJoined
import GoSem.ClaimMapViews
import Derived.JoinedTies
import Derived.KernelRfl
namespace Go.Proofs.YtbncpnkjeadolaaDoor
/- THE CELL 'sum', in the pinned program and in every row, IS THE sha256 OF THE DUMP (.gsa) THAT YtbncpnkjeadolaaDoorProg.lean LOADS. Nothing in Lean hashes anything: it is a label: what it is worth is what the hold of that sum in a sandbox is worth. -/
noncomputable def Tryd.pinned : Pinned := { name := "ytbncpnkjeadolaadoor", sum := "6f61597b84b8cd8a3369e557331f56d149ee73943f348d6bc74cd7874ca56eec", checked := Tryd.checked }
namespace Rows
def none {H : Type} : Left H := { results := [], args := [] }

/- WHAT THE LISTED PACKAGE-LEVEL VARIABLES READ AS WHEN THE CALL BEGINS. Each datum BY PROGRAM (the guide's laid-datum.mjs) off the statement by which the dump's own 'gosem.cut.vars' lays the variable. In a bare row this is a premise. The card (YtbncpnkjeadolaaDoorCards.lean) ties it to the program's text. -/
def laid_intaglio_fp_square {H : Type} : DataW H := .agg [.lit (.int .u64 17644856173732828998), .lit (.int .u64 754043588434789617), .lit (.int .u64 10224657059481499349), .lit (.int .u64 7488229067341005760), .lit (.int .u64 11130996698012816685), .lit (.int .u64 1267921511277847466)]

/-- 'intagliolaw7.Fp12All': WHATEVER THE INPUT: true; the input reads as it did. -/
def fp12AllSpec : ChangeSpec := { name := "fp12All", fn := fun _ => fun
  | [d1, d2, d3] => { results := [.lit (.bool true)], args := [d1, d2, d3] }
  | _ => none }
def fp12AllRow : OpenClaim := { program := "ytbncpnkjeadolaadoor", sum := "6f61597b84b8cd8a3369e557331f56d149ee73943f348d6bc74cd7874ca56eec", func := "intaglio/intagliolaw7.Fp12All", spec := "fp12All", inPlace := ["math/bits.Add64", "math/bits.Sub64"], named := ["intaglio/fp.square"], apart := false, laid := [("intaglio/fp.square", laid_intaglio_fp_square)] }
def Fp12AllSaid : Prop := fp12AllRow.holds Tryd.pinned (OpenSpec.ofChange fp12AllSpec)

/-- ITS FALSE NEIGHBOUR: 'it returns false'. Refute it at one input. -/
def fp12AllWrong : ChangeSpec := { name := "fp12All", fn := fun _ => fun
  | [d1, d2, d3] => { results := [.lit (.bool false)], args := [d1, d2, d3] }
  | _ => none }
def Fp12AllWrongFalsely : Prop := fp12AllRow.holds Tryd.pinned (OpenSpec.ofChange fp12AllWrong)

/-- 'intagliolaw7.Fp12Field': WHATEVER THE INPUT: true; the input reads as it did. -/
def fp12FieldSpec : ChangeSpec := { name := "fp12Field", fn := fun _ => fun
  | [d1, d2, d3, d4, d5] => { results := [.lit (.bool true)], args := [d1, d2, d3, d4, d5] }
  | _ => none }
def fp12FieldRow : OpenClaim := { program := "ytbncpnkjeadolaadoor", sum := "6f61597b84b8cd8a3369e557331f56d149ee73943f348d6bc74cd7874ca56eec", func := "intaglio/intagliolaw7.Fp12Field", spec := "fp12Field", inPlace := ["math/bits.Add64", "math/bits.Sub64"], named := ["intaglio/fp.square"], apart := false, laid := [("intaglio/fp.square", laid_intaglio_fp_square)] }
def Fp12FieldSaid : Prop := fp12FieldRow.holds Tryd.pinned (OpenSpec.ofChange fp12FieldSpec)

/-- ITS FALSE NEIGHBOUR: 'it returns false'. Refute it at one input. -/
def fp12FieldWrong : ChangeSpec := { name := "fp12Field", fn := fun _ => fun
  | [d1, d2, d3, d4, d5] => { results := [.lit (.bool false)], args := [d1, d2, d3, d4, d5] }
  | _ => none }
def Fp12FieldWrongFalsely : Prop := fp12FieldRow.holds Tryd.pinned (OpenSpec.ofChange fp12FieldWrong)

/-- 'intagliolaw7.Fp12Maps': WHATEVER THE INPUT: true; the input reads as it did. -/
def fp12MapsSpec : ChangeSpec := { name := "fp12Maps", fn := fun _ => fun
  | [d1, d2, d3] => { results := [.lit (.bool true)], args := [d1, d2, d3] }
  | _ => none }
def fp12MapsRow : OpenClaim := { program := "ytbncpnkjeadolaadoor", sum := "6f61597b84b8cd8a3369e557331f56d149ee73943f348d6bc74cd7874ca56eec", func := "intaglio/intagliolaw7.Fp12Maps", spec := "fp12Maps", inPlace := ["math/bits.Add64", "math/bits.Sub64"], named := ["intaglio/fp.square"], apart := false, laid := [("intaglio/fp.square", laid_intaglio_fp_square)] }
def Fp12MapsSaid : Prop := fp12MapsRow.holds Tryd.pinned (OpenSpec.ofChange fp12MapsSpec)

/-- ITS FALSE NEIGHBOUR: 'it returns false'. Refute it at one input. -/
def fp12MapsWrong : ChangeSpec := { name := "fp12Maps", fn := fun _ => fun
  | [d1, d2, d3] => { results := [.lit (.bool false)], args := [d1, d2, d3] }
  | _ => none }
def Fp12MapsWrongFalsely : Prop := fp12MapsRow.holds Tryd.pinned (OpenSpec.ofChange fp12MapsWrong)

/- THE SECOND FORM. 'bulk': how many values and letters a reading holds, each counted each time it is reached (what is shared counts as often as it is met; a slice's spare places count too). A statement '..UptoSaid' is the law's where the arguments, and the package variables that the reading takes, are together of bulk at most 1048576: NARROWER than '..Said'. Prove '..Said' where nothing that the law and all that it calls make is longer than what came in: it says more and counts as full. Else prove '..UptoSaid'. A law counts once. -/
mutual
def uptoBulk {H : Type} : DataW H → Nat
  | .lit (.string bytes) => bytes.length + 1
  | .lit _ => 1
  | .nil => 1
  | .ptr d => uptoBulk d + 1
  | .slice elems spare => uptoBulkAll elems + uptoBulkAll spare + 1
  | .agg parts => uptoBulkAll parts + 1
  | .iface _ d => uptoBulk d + 1
  | .map entries => uptoBulkEntries entries + 1
  | .held _ => 1
def uptoBulkAll {H : Type} : List (DataW H) → Nat
  | [] => 0
  | d :: r => uptoBulk d + uptoBulkAll r
def uptoBulkEntries {H : Type} : List (Lit × DataW H) → Nat
  | [] => 0
  | x :: r => uptoBulkEntry x + uptoBulkEntries r
def uptoBulkEntry {H : Type} : Lit × DataW H → Nat
  | (.string bytes, d) => bytes.length + uptoBulk d + 1
  | (_, d) => uptoBulk d + 1
 end
def uptoSmall : (H : Type) → List (DataW H) → Bool := fun _ ds => decide (uptoBulkAll ds ≤ 1048576)
def OpenSpec.upto (s : _root_.Go.ChangeSpec) : _root_.Go.OpenSpec := { _root_.Go.OpenSpec.ofChange s with cond := some uptoSmall }

/-- 'intagliolaw7.Fp12All', WHERE WHAT IT READS IS OF BULK AT MOST 1048576: true; the input reads as it did. -/
def fp12AllUptoRow : OpenClaim := { program := "ytbncpnkjeadolaadoor", sum := "6f61597b84b8cd8a3369e557331f56d149ee73943f348d6bc74cd7874ca56eec", func := "intaglio/intagliolaw7.Fp12All", spec := "fp12All", inPlace := ["math/bits.Add64", "math/bits.Sub64"], named := ["intaglio/fp.square"], apart := false, laid := [("intaglio/fp.square", laid_intaglio_fp_square)], narrowed := true }
def Fp12AllUptoSaid : Prop := fp12AllUptoRow.holds Tryd.pinned (OpenSpec.upto fp12AllSpec)

/-- 'intagliolaw7.Fp12Field', WHERE WHAT IT READS IS OF BULK AT MOST 1048576: true; the input reads as it did. -/
def fp12FieldUptoRow : OpenClaim := { program := "ytbncpnkjeadolaadoor", sum := "6f61597b84b8cd8a3369e557331f56d149ee73943f348d6bc74cd7874ca56eec", func := "intaglio/intagliolaw7.Fp12Field", spec := "fp12Field", inPlace := ["math/bits.Add64", "math/bits.Sub64"], named := ["intaglio/fp.square"], apart := false, laid := [("intaglio/fp.square", laid_intaglio_fp_square)], narrowed := true }
def Fp12FieldUptoSaid : Prop := fp12FieldUptoRow.holds Tryd.pinned (OpenSpec.upto fp12FieldSpec)

/-- 'intagliolaw7.Fp12Maps', WHERE WHAT IT READS IS OF BULK AT MOST 1048576: true; the input reads as it did. -/
def fp12MapsUptoRow : OpenClaim := { program := "ytbncpnkjeadolaadoor", sum := "6f61597b84b8cd8a3369e557331f56d149ee73943f348d6bc74cd7874ca56eec", func := "intaglio/intagliolaw7.Fp12Maps", spec := "fp12Maps", inPlace := ["math/bits.Add64", "math/bits.Sub64"], named := ["intaglio/fp.square"], apart := false, laid := [("intaglio/fp.square", laid_intaglio_fp_square)], narrowed := true }
def Fp12MapsUptoSaid : Prop := fp12MapsUptoRow.holds Tryd.pinned (OpenSpec.upto fp12MapsSpec)

end Rows
end Go.Proofs.YtbncpnkjeadolaaDoor
