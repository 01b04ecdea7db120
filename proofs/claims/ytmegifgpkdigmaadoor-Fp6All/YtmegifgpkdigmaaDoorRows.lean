/-
  NARROWER THAN 'FOR EVERY INPUT', by the rows' own cells (each row's printed sentence says how): Fp6All: laid · Fp6Field: laid.
  DERIVED. THE GIVEN ROWS OF THIS SEAT. 2 by the template 'for every input the law returns true; each argument reads behind the call as it read before'; 0 by the template 'total and deterministic' (their statements: YtmegifgpkdigmaaDoorTotals.lean).
  GIVEN WITH THE SEED: the statements are not yours to turn. If you find one false, say at which input.
  Laid BY PROGRAM, IN A SANDBOX (cutbox-rows.mjs): the forced cells as the released guide's own fill.sh prints them over the translation 7d56f178a485e339… (all of the seat's roots in one cut). By AI agents, Wed Nov 11 2026. No macro, syntax, notation, axiom, sorry.
-/
import Derived.Test.YtmegifgpkdigmaaDoorChecked
import GoSem.Claim
import GoSem.ClaimJoined
import GoSem.ClaimMapViews
import Derived.JoinedTies
import Derived.KernelRfl
namespace Go.Proofs.YtmegifgpkdigmaaDoor
/- THE CELL 'sum', in the pinned program and in every row, IS THE sha256 OF THE DUMP (.gsa) THAT YtmegifgpkdigmaaDoorProg.lean LOADS. Nothing in Lean hashes anything: it is a label: what it is worth is what the hold of that sum in a sandbox is worth. -/
noncomputable def Tryd.pinned : Pinned := { name := "ytmegifgpkdigmaadoor", sum := "7d56f178a485e339cf64a10e53f85f757804cd117603635d855ebb9f0f0df8a5", checked := Tryd.checked }
namespace Rows
def none {H : Type} : Left H := { results := [], args := [] }

/- WHAT THE LISTED PACKAGE-LEVEL VARIABLES READ AS WHEN THE CALL BEGINS. Each datum BY PROGRAM (the guide's laid-datum.mjs) off the statement by which the dump's own 'gosem.cut.vars' lays the variable. In a bare row this is a premise. The card (YtmegifgpkdigmaaDoorCards.lean) ties it to the program's text. -/
def laid_intaglio_fp_square {H : Type} : DataW H := .agg [.lit (.int .u64 17644856173732828998), .lit (.int .u64 754043588434789617), .lit (.int .u64 10224657059481499349), .lit (.int .u64 7488229067341005760), .lit (.int .u64 11130996698012816685), .lit (.int .u64 1267921511277847466)]

/-- 'intagliolaw6.Fp6All': WHATEVER THE INPUT: true; the input reads as it did. -/
def fp6AllSpec : ChangeSpec := { name := "fp6All", fn := fun _ => fun
  | [d1, d2] => { results := [.lit (.bool true)], args := [d1, d2] }
  | _ => none }
def fp6AllRow : OpenClaim := { program := "ytmegifgpkdigmaadoor", sum := "7d56f178a485e339cf64a10e53f85f757804cd117603635d855ebb9f0f0df8a5", func := "intaglio/intagliolaw6.Fp6All", spec := "fp6All", inPlace := ["math/bits.Add64", "math/bits.Sub64"], named := ["intaglio/fp.square"], apart := false, laid := [("intaglio/fp.square", laid_intaglio_fp_square)] }
def Fp6AllSaid : Prop := fp6AllRow.holds Tryd.pinned (OpenSpec.ofChange fp6AllSpec)

/-- ITS FALSE NEIGHBOUR: 'it returns false'. Refute it at one input. -/
def fp6AllWrong : ChangeSpec := { name := "fp6All", fn := fun _ => fun
  | [d1, d2] => { results := [.lit (.bool false)], args := [d1, d2] }
  | _ => none }
def Fp6AllWrongFalsely : Prop := fp6AllRow.holds Tryd.pinned (OpenSpec.ofChange fp6AllWrong)

/-- 'intagliolaw6.Fp6Field': WHATEVER THE INPUT: true; the input reads as it did. -/
def fp6FieldSpec : ChangeSpec := { name := "fp6Field", fn := fun _ => fun
  | [d1, d2, d3] => { results := [.lit (.bool true)], args := [d1, d2, d3] }
  | _ => none }
def fp6FieldRow : OpenClaim := { program := "ytmegifgpkdigmaadoor", sum := "7d56f178a485e339cf64a10e53f85f757804cd117603635d855ebb9f0f0df8a5", func := "intaglio/intagliolaw6.Fp6Field", spec := "fp6Field", inPlace := ["math/bits.Add64", "math/bits.Sub64"], named := ["intaglio/fp.square"], apart := false, laid := [("intaglio/fp.square", laid_intaglio_fp_square)] }
def Fp6FieldSaid : Prop := fp6FieldRow.holds Tryd.pinned (OpenSpec.ofChange fp6FieldSpec)

/-- ITS FALSE NEIGHBOUR: 'it returns false'. Refute it at one input. -/
def fp6FieldWrong : ChangeSpec := { name := "fp6Field", fn := fun _ => fun
  | [d1, d2, d3] => { results := [.lit (.bool false)], args := [d1, d2, d3] }
  | _ => none }
def Fp6FieldWrongFalsely : Prop := fp6FieldRow.holds Tryd.pinned (OpenSpec.ofChange fp6FieldWrong)

/- THE SECOND FORM. 'bulk': how many values and letters a reading holds, each counted each time it is reached (what is shared counts as often as it is met; a slice's spare places count too). A statement '..UptoSaid' is the law's where the arguments, and the package variables that the reading takes, are together of bulk at most 1048576: NARROWER than '..Said'. Prove '..Said' where nothing that the law and all that it calls make is longer than what came in: it says more and counts as full. Else prove '..UptoSaid'. A law counts once. -/
mutual
def uptoBulk {H : Type} : DataW H → Nat
  | .lit (.string bytes) => bytes.length + 1
  | .lit _ => 1
  | .nil => 1
  | .ptr d => uptoBulk d + 1
  | .slice elems spare => uptoBulkAll elems + uptoBulkAll spare + 1
  | .agg parts => uptoBulkAll parts + 1
  | .iface _ d => uptoBulk d + 1
  | .map entries => uptoBulkEntries entries + 1
  | .held _ => 1
def uptoBulkAll {H : Type} : List (DataW H) → Nat
  | [] => 0
  | d :: r => uptoBulk d + uptoBulkAll r
def uptoBulkEntries {H : Type} : List (Lit × DataW H) → Nat
  | [] => 0
  | x :: r => uptoBulkEntry x + uptoBulkEntries r
def uptoBulkEntry {H : Type} : Lit × DataW H → Nat
  | (.string bytes, d) => bytes.length + uptoBulk d + 1
  | (_, d) => uptoBulk d + 1
 end
def uptoSmall : (H : Type) → List (DataW H) → Bool := fun _ ds => decide (uptoBulkAll ds ≤ 1048576)
def OpenSpec.upto (s : _root_.Go.ChangeSpec) : _root_.Go.OpenSpec := { _root_.Go.OpenSpec.ofChange s with cond := some uptoSmall }

/-- 'intagliolaw6.Fp6All', WHERE WHAT IT READS IS OF BULK AT MOST 1048576: true; the input reads as it did. -/
def fp6AllUptoRow : OpenClaim := { program := "ytmegifgpkdigmaadoor", sum := "7d56f178a485e339cf64a10e53f85f757804cd117603635d855ebb9f0f0df8a5", func := "intaglio/intagliolaw6.Fp6All", spec := "fp6All", inPlace := ["math/bits.Add64", "math/bits.Sub64"], named := ["intaglio/fp.square"], apart := false, laid := [("intaglio/fp.square", laid_intaglio_fp_square)], narrowed := true }
def Fp6AllUptoSaid : Prop := fp6AllUptoRow.holds Tryd.pinned (OpenSpec.upto fp6AllSpec)

/-- 'intagliolaw6.Fp6Field', WHERE WHAT IT READS IS OF BULK AT MOST 1048576: true; the input reads as it did. -/
def fp6FieldUptoRow : OpenClaim := { program := "ytmegifgpkdigmaadoor", sum := "7d56f178a485e339cf64a10e53f85f757804cd117603635d855ebb9f0f0df8a5", func := "intaglio/intagliolaw6.Fp6Field", spec := "fp6Field", inPlace := ["math/bits.Add64", "math/bits.Sub64"], named := ["intaglio/fp.square"], apart := false, laid := [("intaglio/fp.square", laid_intaglio_fp_square)], narrowed := true }
def Fp6FieldUptoSaid : Prop := fp6FieldUptoRow.holds Tryd.pinned (OpenSpec.upto fp6FieldSpec)

end Rows
end Go.Proofs.YtmegifgpkdigmaaDoor
