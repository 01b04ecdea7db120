/-
  NARROWER THAN 'FOR EVERY INPUT', by the rows' own cells (each row's printed sentence says how): PairingChecks: laid · PairingMultiplies: laid · PairingOut: laid · PairingSums: laid.
  DERIVED. THE GIVEN ROWS OF THIS SEAT. 4 by the template 'for every input the law returns true; each argument reads behind the call as it read before'; 0 by the template 'total and deterministic' (their statements: YthnfgmhehfombaaGreatDoorTotals.lean).
  GIVEN WITH THE SEED: the statements are not yours to turn. If you find one false, say at which input.
  Laid BY PROGRAM, IN A SANDBOX (cutbox-rows.mjs): the forced cells as the released guide's own fill.sh prints them over the translation f6585c1eefa3e9c7… (all of the seat's roots in one cut). By AI agents, Wed Nov 11 2026. No macro, syntax, notation, axiom, sorry.
-/
import Derived.Test.YthnfgmhehfombaaGreatDoorChecked
import GoSem.Claim
import GoSem.ClaimJoined
import GoSem.ClaimMapViews
import Derived.JoinedTies
import Derived.KernelRfl
namespace Go.Proofs.YthnfgmhehfombaaGreatDoor
/- THE CELL 'sum', in the pinned program and in every row, IS THE sha256 OF THE DUMP (.gsa) THAT YthnfgmhehfombaaGreatDoorProg.lean LOADS. Nothing in Lean hashes anything: it is a label: what it is worth is what the hold of that sum in a sandbox is worth. -/
noncomputable def Tryz.pinned : Pinned := { name := "ythnfgmhehfombaagreatdoor", sum := "f6585c1eefa3e9c7778daabe5cb66b20ad62a0d837f57cf6820711c604a15105", checked := Tryz.checked }
namespace Rows
def none {H : Type} : Left H := { results := [], args := [] }

/- WHAT THE LISTED PACKAGE-LEVEL VARIABLES READ AS WHEN THE CALL BEGINS. Each datum BY PROGRAM (the guide's laid-datum.mjs) off the statement by which the dump's own 'gosem.cut.vars' lays the variable. In a bare row this is a premise. The card (YthnfgmhehfombaaGreatDoorCards.lean) ties it to the program's text. -/
def laid_intaglio_fp_square {H : Type} : DataW H := .agg [.lit (.int .u64 17644856173732828998), .lit (.int .u64 754043588434789617), .lit (.int .u64 10224657059481499349), .lit (.int .u64 7488229067341005760), .lit (.int .u64 11130996698012816685), .lit (.int .u64 1267921511277847466)]
def laid_intaglio_pairing_turn {H : Type} : DataW H := .agg [.agg [.lit (.int .u64 10162220747404304312), .lit (.int .u64 17761815663483519293), .lit (.int .u64 8873291758750579140), .lit (.int .u64 1141103941765652303), .lit (.int .u64 13993175198059990303), .lit (.int .u64 1802798568193066599)], .agg [.lit (.int .u64 3240210268673559283), .lit (.int .u64 2895069921743240898), .lit (.int .u64 17009126888523054175), .lit (.int .u64 6098234018649060207), .lit (.int .u64 9865672654120263608), .lit (.int .u64 71000049454473266)]]

/-- 'intagliolaw11.PairingChecks': WHATEVER THE INPUT: true; the input reads as it did. -/
def pairingChecksSpec : ChangeSpec := { name := "pairingChecks", fn := fun _ => fun
  | [d1, d2, d3] => { results := [.lit (.bool true)], args := [d1, d2, d3] }
  | _ => none }
def pairingChecksRow : OpenClaim := { program := "ythnfgmhehfombaagreatdoor", sum := "f6585c1eefa3e9c7778daabe5cb66b20ad62a0d837f57cf6820711c604a15105", func := "intaglio/intagliolaw11.PairingChecks", spec := "pairingChecks", inPlace := ["math/bits.Sub64", "math/bits.Add64"], named := ["intaglio/fp.square", "intaglio/pairing.turn"], apart := false, laid := [("intaglio/fp.square", laid_intaglio_fp_square), ("intaglio/pairing.turn", laid_intaglio_pairing_turn)] }
def PairingChecksSaid : Prop := pairingChecksRow.holds Tryz.pinned (OpenSpec.ofChange pairingChecksSpec)

/-- ITS FALSE NEIGHBOUR: 'it returns false'. Refute it at one input. -/
def pairingChecksWrong : ChangeSpec := { name := "pairingChecks", fn := fun _ => fun
  | [d1, d2, d3] => { results := [.lit (.bool false)], args := [d1, d2, d3] }
  | _ => none }
def PairingChecksWrongFalsely : Prop := pairingChecksRow.holds Tryz.pinned (OpenSpec.ofChange pairingChecksWrong)

/-- 'intagliolaw11.PairingMultiplies': WHATEVER THE INPUT: true; the input reads as it did. -/
def pairingMultipliesSpec : ChangeSpec := { name := "pairingMultiplies", fn := fun _ => fun
  | [d1, d2] => { results := [.lit (.bool true)], args := [d1, d2] }
  | _ => none }
def pairingMultipliesRow : OpenClaim := { program := "ythnfgmhehfombaagreatdoor", sum := "f6585c1eefa3e9c7778daabe5cb66b20ad62a0d837f57cf6820711c604a15105", func := "intaglio/intagliolaw11.PairingMultiplies", spec := "pairingMultiplies", inPlace := ["math/bits.Sub64", "math/bits.Add64"], named := ["intaglio/fp.square", "intaglio/pairing.turn"], apart := false, laid := [("intaglio/fp.square", laid_intaglio_fp_square), ("intaglio/pairing.turn", laid_intaglio_pairing_turn)] }
def PairingMultipliesSaid : Prop := pairingMultipliesRow.holds Tryz.pinned (OpenSpec.ofChange pairingMultipliesSpec)

/-- ITS FALSE NEIGHBOUR: 'it returns false'. Refute it at one input. -/
def pairingMultipliesWrong : ChangeSpec := { name := "pairingMultiplies", fn := fun _ => fun
  | [d1, d2] => { results := [.lit (.bool false)], args := [d1, d2] }
  | _ => none }
def PairingMultipliesWrongFalsely : Prop := pairingMultipliesRow.holds Tryz.pinned (OpenSpec.ofChange pairingMultipliesWrong)

/-- 'intagliolaw11.PairingOut': WHATEVER THE INPUT: true; the input reads as it did. -/
def pairingOutSpec : ChangeSpec := { name := "pairingOut", fn := fun _ => fun
  | [d1, d2] => { results := [.lit (.bool true)], args := [d1, d2] }
  | _ => none }
def pairingOutRow : OpenClaim := { program := "ythnfgmhehfombaagreatdoor", sum := "f6585c1eefa3e9c7778daabe5cb66b20ad62a0d837f57cf6820711c604a15105", func := "intaglio/intagliolaw11.PairingOut", spec := "pairingOut", inPlace := ["math/bits.Sub64", "math/bits.Add64"], named := ["intaglio/fp.square", "intaglio/pairing.turn"], apart := false, laid := [("intaglio/fp.square", laid_intaglio_fp_square), ("intaglio/pairing.turn", laid_intaglio_pairing_turn)] }
def PairingOutSaid : Prop := pairingOutRow.holds Tryz.pinned (OpenSpec.ofChange pairingOutSpec)

/-- ITS FALSE NEIGHBOUR: 'it returns false'. Refute it at one input. -/
def pairingOutWrong : ChangeSpec := { name := "pairingOut", fn := fun _ => fun
  | [d1, d2] => { results := [.lit (.bool false)], args := [d1, d2] }
  | _ => none }
def PairingOutWrongFalsely : Prop := pairingOutRow.holds Tryz.pinned (OpenSpec.ofChange pairingOutWrong)

/-- 'intagliolaw11.PairingSums': WHATEVER THE INPUT: true; the input reads as it did. -/
def pairingSumsSpec : ChangeSpec := { name := "pairingSums", fn := fun _ => fun
  | [d1, d2, d3, d4] => { results := [.lit (.bool true)], args := [d1, d2, d3, d4] }
  | _ => none }
def pairingSumsRow : OpenClaim := { program := "ythnfgmhehfombaagreatdoor", sum := "f6585c1eefa3e9c7778daabe5cb66b20ad62a0d837f57cf6820711c604a15105", func := "intaglio/intagliolaw11.PairingSums", spec := "pairingSums", inPlace := ["math/bits.Sub64", "math/bits.Add64"], named := ["intaglio/fp.square", "intaglio/pairing.turn"], apart := false, laid := [("intaglio/fp.square", laid_intaglio_fp_square), ("intaglio/pairing.turn", laid_intaglio_pairing_turn)] }
def PairingSumsSaid : Prop := pairingSumsRow.holds Tryz.pinned (OpenSpec.ofChange pairingSumsSpec)

/-- ITS FALSE NEIGHBOUR: 'it returns false'. Refute it at one input. -/
def pairingSumsWrong : ChangeSpec := { name := "pairingSums", fn := fun _ => fun
  | [d1, d2, d3, d4] => { results := [.lit (.bool false)], args := [d1, d2, d3, d4] }
  | _ => none }
def PairingSumsWrongFalsely : Prop := pairingSumsRow.holds Tryz.pinned (OpenSpec.ofChange pairingSumsWrong)

/- THE SECOND FORM. 'bulk': how many values and letters a reading holds, each counted each time it is reached (what is shared counts as often as it is met; a slice's spare places count too). A statement '..UptoSaid' is the law's where the arguments, and the package variables that the reading takes, are together of bulk at most 1048576: NARROWER than '..Said'. Prove '..Said' where nothing that the law and all that it calls make is longer than what came in: it says more and counts as full. Else prove '..UptoSaid'. A law counts once. -/
mutual
def uptoBulk {H : Type} : DataW H → Nat
  | .lit (.string bytes) => bytes.length + 1
  | .lit _ => 1
  | .nil => 1
  | .ptr d => uptoBulk d + 1
  | .slice elems spare => uptoBulkAll elems + uptoBulkAll spare + 1
  | .agg parts => uptoBulkAll parts + 1
  | .iface _ d => uptoBulk d + 1
  | .map entries => uptoBulkEntries entries + 1
  | .held _ => 1
def uptoBulkAll {H : Type} : List (DataW H) → Nat
  | [] => 0
  | d :: r => uptoBulk d + uptoBulkAll r
def uptoBulkEntries {H : Type} : List (Lit × DataW H) → Nat
  | [] => 0
  | x :: r => uptoBulkEntry x + uptoBulkEntries r
def uptoBulkEntry {H : Type} : Lit × DataW H → Nat
  | (.string bytes, d) => bytes.length + uptoBulk d + 1
  | (_, d) => uptoBulk d + 1
 end
def uptoSmall : (H : Type) → List (DataW H) → Bool := fun _ ds => decide (uptoBulkAll ds ≤ 1048576)
def OpenSpec.upto (s : _root_.Go.ChangeSpec) : _root_.Go.OpenSpec := { _root_.Go.OpenSpec.ofChange s with cond := some uptoSmall }

/-- 'intagliolaw11.PairingChecks', WHERE WHAT IT READS IS OF BULK AT MOST 1048576: true; the input reads as it did. -/
def pairingChecksUptoRow : OpenClaim := { program := "ythnfgmhehfombaagreatdoor", sum := "f6585c1eefa3e9c7778daabe5cb66b20ad62a0d837f57cf6820711c604a15105", func := "intaglio/intagliolaw11.PairingChecks", spec := "pairingChecks", inPlace := ["math/bits.Sub64", "math/bits.Add64"], named := ["intaglio/fp.square", "intaglio/pairing.turn"], apart := false, laid := [("intaglio/fp.square", laid_intaglio_fp_square), ("intaglio/pairing.turn", laid_intaglio_pairing_turn)], narrowed := true }
def PairingChecksUptoSaid : Prop := pairingChecksUptoRow.holds Tryz.pinned (OpenSpec.upto pairingChecksSpec)

/-- 'intagliolaw11.PairingMultiplies', WHERE WHAT IT READS IS OF BULK AT MOST 1048576: true; the input reads as it did. -/
def pairingMultipliesUptoRow : OpenClaim := { program := "ythnfgmhehfombaagreatdoor", sum := "f6585c1eefa3e9c7778daabe5cb66b20ad62a0d837f57cf6820711c604a15105", func := "intaglio/intagliolaw11.PairingMultiplies", spec := "pairingMultiplies", inPlace := ["math/bits.Sub64", "math/bits.Add64"], named := ["intaglio/fp.square", "intaglio/pairing.turn"], apart := false, laid := [("intaglio/fp.square", laid_intaglio_fp_square), ("intaglio/pairing.turn", laid_intaglio_pairing_turn)], narrowed := true }
def PairingMultipliesUptoSaid : Prop := pairingMultipliesUptoRow.holds Tryz.pinned (OpenSpec.upto pairingMultipliesSpec)

/-- 'intagliolaw11.PairingOut', WHERE WHAT IT READS IS OF BULK AT MOST 1048576: true; the input reads as it did. -/
def pairingOutUptoRow : OpenClaim := { program := "ythnfgmhehfombaagreatdoor", sum := "f6585c1eefa3e9c7778daabe5cb66b20ad62a0d837f57cf6820711c604a15105", func := "intaglio/intagliolaw11.PairingOut", spec := "pairingOut", inPlace := ["math/bits.Sub64", "math/bits.Add64"], named := ["intaglio/fp.square", "intaglio/pairing.turn"], apart := false, laid := [("intaglio/fp.square", laid_intaglio_fp_square), ("intaglio/pairing.turn", laid_intaglio_pairing_turn)], narrowed := true }
def PairingOutUptoSaid : Prop := pairingOutUptoRow.holds Tryz.pinned (OpenSpec.upto pairingOutSpec)

/-- 'intagliolaw11.PairingSums', WHERE WHAT IT READS IS OF BULK AT MOST 1048576: true; the input reads as it did. -/
def pairingSumsUptoRow : OpenClaim := { program := "ythnfgmhehfombaagreatdoor", sum := "f6585c1eefa3e9c7778daabe5cb66b20ad62a0d837f57cf6820711c604a15105", func := "intaglio/intagliolaw11.PairingSums", spec := "pairingSums", inPlace := ["math/bits.Sub64", "math/bits.Add64"], named := ["intaglio/fp.square", "intaglio/pairing.turn"], apart := false, laid := [("intaglio/fp.square", laid_intaglio_fp_square), ("intaglio/pairing.turn", laid_intaglio_pairing_turn)], narrowed := true }
def PairingSumsUptoSaid : Prop := pairingSumsUptoRow.holds Tryz.pinned (OpenSpec.upto pairingSumsSpec)

end Rows
end Go.Proofs.YthnfgmhehfombaaGreatDoor
