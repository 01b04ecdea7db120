/-
  NARROWER THAN 'FOR EVERY INPUT', by the rows' own cells (each row's printed sentence says how): FrAll: laid · FrPowers: laid · FrBytes: laid · FrField: laid · FrExponents: laid · FrRoots: laid.
  DERIVED. THE GIVEN ROWS OF THIS SEAT. 6 by the template 'for every input the law returns true; each argument reads behind the call as it read before'; 0 by the template 'total and deterministic' (their statements: YtfbdbkookbmdgaaDoorTotals.lean).
  GIVEN WITH THE SEED: the statements are not yours to turn. If you find one false, say at which input.
  Laid BY PROGRAM, IN A SANDBOX (cutbox-rows.mjs): the forced cells as the released guide's own fill.sh prints them over the translation 210b995fc4f77353… (all of the seat's roots in one cut). By AI agents, Wed Nov 11 2026. No macro, syntax, notation, axiom, sorry.
-/
import Derived.Test.YtfbdbkookbmdgaaDoorChecked
import GoSem.Claim
import GoSem.ClaimJoined
import GoSem.ClaimMapViews
import Derived.JoinedTies
import Derived.KernelRfl
namespace Go.Proofs.YtfbdbkookbmdgaaDoor
/- THE CELL 'sum', in the pinned program and in every row, IS THE sha256 OF THE DUMP (.gsa) THAT YtfbdbkookbmdgaaDoorProg.lean LOADS. Nothing in Lean hashes anything: it is a label: what it is worth is what the hold of that sum in a sandbox is worth. -/
noncomputable def Tryd.pinned : Pinned := { name := "ytfbdbkookbmdgaadoor", sum := "210b995fc4f77353ad73fa73a66acb9cbe13cfc8d2a3ad1d491083ed80916b7e", checked := Tryd.checked }
namespace Rows
def none {H : Type} : Left H := { results := [], args := [] }

/- WHAT THE LISTED PACKAGE-LEVEL VARIABLES READ AS WHEN THE CALL BEGINS. Each datum BY PROGRAM (the guide's laid-datum.mjs) off the statement by which the dump's own 'gosem.cut.vars' lays the variable. In a bare row this is a premise. The card (YtfbdbkookbmdgaaDoorCards.lean) ties it to the program's text. -/
def laid_intaglio_fr_deepest {H : Type} : DataW H := .agg [.lit (.int .u64 4046931900703378731), .lit (.int .u64 13129826145616953529), .lit (.int .u64 15031722638446171060), .lit (.int .u64 1631043718794977056)]
def laid_intaglio_fr_square {H : Type} : DataW H := .agg [.lit (.int .u64 14526898881837571181), .lit (.int .u64 3129137299524312099), .lit (.int .u64 419701826671360399), .lit (.int .u64 524908885293268753)]

/-- 'intagliolaw2.FrAll': WHATEVER THE INPUT: true; the input reads as it did. -/
def frAllSpec : ChangeSpec := { name := "frAll", fn := fun _ => fun
  | [d1, d2, d3] => { results := [.lit (.bool true)], args := [d1, d2, d3] }
  | _ => none }
def frAllRow : OpenClaim := { program := "ytfbdbkookbmdgaadoor", sum := "210b995fc4f77353ad73fa73a66acb9cbe13cfc8d2a3ad1d491083ed80916b7e", func := "intaglio/intagliolaw2.FrAll", spec := "frAll", inPlace := ["math/bits.Add64", "math/bits.Sub64"], named := ["intaglio/fr.square", "intaglio/fr.deepest"], apart := false, laid := [("intaglio/fr.deepest", laid_intaglio_fr_deepest), ("intaglio/fr.square", laid_intaglio_fr_square)] }
def FrAllSaid : Prop := frAllRow.holds Tryd.pinned (OpenSpec.ofChange frAllSpec)

/-- ITS FALSE NEIGHBOUR: 'it returns false'. Refute it at one input. -/
def frAllWrong : ChangeSpec := { name := "frAll", fn := fun _ => fun
  | [d1, d2, d3] => { results := [.lit (.bool false)], args := [d1, d2, d3] }
  | _ => none }
def FrAllWrongFalsely : Prop := frAllRow.holds Tryd.pinned (OpenSpec.ofChange frAllWrong)

/-- 'intagliolaw2.FrPowers': WHATEVER THE INPUT: true; the input reads as it did. -/
def frPowersSpec : ChangeSpec := { name := "frPowers", fn := fun _ => fun
  | [d1, d2] => { results := [.lit (.bool true)], args := [d1, d2] }
  | _ => none }
def frPowersRow : OpenClaim := { program := "ytfbdbkookbmdgaadoor", sum := "210b995fc4f77353ad73fa73a66acb9cbe13cfc8d2a3ad1d491083ed80916b7e", func := "intaglio/intagliolaw2.FrPowers", spec := "frPowers", inPlace := ["math/bits.Add64", "math/bits.Sub64"], named := ["intaglio/fr.square", "intaglio/fr.deepest"], apart := false, laid := [("intaglio/fr.deepest", laid_intaglio_fr_deepest), ("intaglio/fr.square", laid_intaglio_fr_square)] }
def FrPowersSaid : Prop := frPowersRow.holds Tryd.pinned (OpenSpec.ofChange frPowersSpec)

/-- ITS FALSE NEIGHBOUR: 'it returns false'. Refute it at one input. -/
def frPowersWrong : ChangeSpec := { name := "frPowers", fn := fun _ => fun
  | [d1, d2] => { results := [.lit (.bool false)], args := [d1, d2] }
  | _ => none }
def FrPowersWrongFalsely : Prop := frPowersRow.holds Tryd.pinned (OpenSpec.ofChange frPowersWrong)

/-- 'intagliolaw2.FrBytes': WHATEVER THE INPUT: true; the input reads as it did. -/
def frBytesSpec : ChangeSpec := { name := "frBytes", fn := fun _ => fun
  | [d1, d2] => { results := [.lit (.bool true)], args := [d1, d2] }
  | _ => none }
def frBytesRow : OpenClaim := { program := "ytfbdbkookbmdgaadoor", sum := "210b995fc4f77353ad73fa73a66acb9cbe13cfc8d2a3ad1d491083ed80916b7e", func := "intaglio/intagliolaw2.FrBytes", spec := "frBytes", inPlace := ["math/bits.Add64", "math/bits.Sub64"], named := ["intaglio/fr.square", "intaglio/fr.deepest"], apart := false, laid := [("intaglio/fr.deepest", laid_intaglio_fr_deepest), ("intaglio/fr.square", laid_intaglio_fr_square)] }
def FrBytesSaid : Prop := frBytesRow.holds Tryd.pinned (OpenSpec.ofChange frBytesSpec)

/-- ITS FALSE NEIGHBOUR: 'it returns false'. Refute it at one input. -/
def frBytesWrong : ChangeSpec := { name := "frBytes", fn := fun _ => fun
  | [d1, d2] => { results := [.lit (.bool false)], args := [d1, d2] }
  | _ => none }
def FrBytesWrongFalsely : Prop := frBytesRow.holds Tryd.pinned (OpenSpec.ofChange frBytesWrong)

/-- 'intagliolaw2.FrField': WHATEVER THE INPUT: true; the input reads as it did. -/
def frFieldSpec : ChangeSpec := { name := "frField", fn := fun _ => fun
  | [d1, d2, d3] => { results := [.lit (.bool true)], args := [d1, d2, d3] }
  | _ => none }
def frFieldRow : OpenClaim := { program := "ytfbdbkookbmdgaadoor", sum := "210b995fc4f77353ad73fa73a66acb9cbe13cfc8d2a3ad1d491083ed80916b7e", func := "intaglio/intagliolaw2.FrField", spec := "frField", inPlace := ["math/bits.Add64", "math/bits.Sub64"], named := ["intaglio/fr.square", "intaglio/fr.deepest"], apart := false, laid := [("intaglio/fr.deepest", laid_intaglio_fr_deepest), ("intaglio/fr.square", laid_intaglio_fr_square)] }
def FrFieldSaid : Prop := frFieldRow.holds Tryd.pinned (OpenSpec.ofChange frFieldSpec)

/-- ITS FALSE NEIGHBOUR: 'it returns false'. Refute it at one input. -/
def frFieldWrong : ChangeSpec := { name := "frField", fn := fun _ => fun
  | [d1, d2, d3] => { results := [.lit (.bool false)], args := [d1, d2, d3] }
  | _ => none }
def FrFieldWrongFalsely : Prop := frFieldRow.holds Tryd.pinned (OpenSpec.ofChange frFieldWrong)

/-- 'intagliolaw2.FrExponents': WHATEVER THE INPUT: true; the input reads as it did. -/
def frExponentsSpec : ChangeSpec := { name := "frExponents", fn := fun _ => fun
  | [d1, d2, d3] => { results := [.lit (.bool true)], args := [d1, d2, d3] }
  | _ => none }
def frExponentsRow : OpenClaim := { program := "ytfbdbkookbmdgaadoor", sum := "210b995fc4f77353ad73fa73a66acb9cbe13cfc8d2a3ad1d491083ed80916b7e", func := "intaglio/intagliolaw2.FrExponents", spec := "frExponents", inPlace := ["math/bits.Add64", "math/bits.Sub64"], named := ["intaglio/fr.square", "intaglio/fr.deepest"], apart := false, laid := [("intaglio/fr.deepest", laid_intaglio_fr_deepest), ("intaglio/fr.square", laid_intaglio_fr_square)] }
def FrExponentsSaid : Prop := frExponentsRow.holds Tryd.pinned (OpenSpec.ofChange frExponentsSpec)

/-- ITS FALSE NEIGHBOUR: 'it returns false'. Refute it at one input. -/
def frExponentsWrong : ChangeSpec := { name := "frExponents", fn := fun _ => fun
  | [d1, d2, d3] => { results := [.lit (.bool false)], args := [d1, d2, d3] }
  | _ => none }
def FrExponentsWrongFalsely : Prop := frExponentsRow.holds Tryd.pinned (OpenSpec.ofChange frExponentsWrong)

/-- 'intagliolaw2.FrRoots': WHATEVER THE INPUT: true; the input reads as it did. -/
def frRootsSpec : ChangeSpec := { name := "frRoots", fn := fun _ => fun
  | [d] => { results := [.lit (.bool true)], args := [d] }
  | _ => none }
def frRootsRow : OpenClaim := { program := "ytfbdbkookbmdgaadoor", sum := "210b995fc4f77353ad73fa73a66acb9cbe13cfc8d2a3ad1d491083ed80916b7e", func := "intaglio/intagliolaw2.FrRoots", spec := "frRoots", inPlace := ["math/bits.Add64", "math/bits.Sub64"], named := ["intaglio/fr.square", "intaglio/fr.deepest"], apart := false, laid := [("intaglio/fr.deepest", laid_intaglio_fr_deepest), ("intaglio/fr.square", laid_intaglio_fr_square)] }
def FrRootsSaid : Prop := frRootsRow.holds Tryd.pinned (OpenSpec.ofChange frRootsSpec)

/-- ITS FALSE NEIGHBOUR: 'it returns false'. Refute it at one input. -/
def frRootsWrong : ChangeSpec := { name := "frRoots", fn := fun _ => fun
  | [d] => { results := [.lit (.bool false)], args := [d] }
  | _ => none }
def FrRootsWrongFalsely : Prop := frRootsRow.holds Tryd.pinned (OpenSpec.ofChange frRootsWrong)

/- THE SECOND FORM. 'bulk': how many values and letters a reading holds, each counted each time it is reached (what is shared counts as often as it is met; a slice's spare places count too). A statement '..UptoSaid' is the law's where the arguments, and the package variables that the reading takes, are together of bulk at most 1048576: NARROWER than '..Said'. Prove '..Said' where nothing that the law and all that it calls make is longer than what came in: it says more and counts as full. Else prove '..UptoSaid'. A law counts once. -/
mutual
def uptoBulk {H : Type} : DataW H → Nat
  | .lit (.string bytes) => bytes.length + 1
  | .lit _ => 1
  | .nil => 1
  | .ptr d => uptoBulk d + 1
  | .slice elems spare => uptoBulkAll elems + uptoBulkAll spare + 1
  | .agg parts => uptoBulkAll parts + 1
  | .iface _ d => uptoBulk d + 1
  | .map entries => uptoBulkEntries entries + 1
  | .held _ => 1
def uptoBulkAll {H : Type} : List (DataW H) → Nat
  | [] => 0
  | d :: r => uptoBulk d + uptoBulkAll r
def uptoBulkEntries {H : Type} : List (Lit × DataW H) → Nat
  | [] => 0
  | x :: r => uptoBulkEntry x + uptoBulkEntries r
def uptoBulkEntry {H : Type} : Lit × DataW H → Nat
  | (.string bytes, d) => bytes.length + uptoBulk d + 1
  | (_, d) => uptoBulk d + 1
 end
def uptoSmall : (H : Type) → List (DataW H) → Bool := fun _ ds => decide (uptoBulkAll ds ≤ 1048576)
def OpenSpec.upto (s : _root_.Go.ChangeSpec) : _root_.Go.OpenSpec := { _root_.Go.OpenSpec.ofChange s with cond := some uptoSmall }

/-- 'intagliolaw2.FrAll', WHERE WHAT IT READS IS OF BULK AT MOST 1048576: true; the input reads as it did. -/
def frAllUptoRow : OpenClaim := { program := "ytfbdbkookbmdgaadoor", sum := "210b995fc4f77353ad73fa73a66acb9cbe13cfc8d2a3ad1d491083ed80916b7e", func := "intaglio/intagliolaw2.FrAll", spec := "frAll", inPlace := ["math/bits.Add64", "math/bits.Sub64"], named := ["intaglio/fr.square", "intaglio/fr.deepest"], apart := false, laid := [("intaglio/fr.deepest", laid_intaglio_fr_deepest), ("intaglio/fr.square", laid_intaglio_fr_square)], narrowed := true }
def FrAllUptoSaid : Prop := frAllUptoRow.holds Tryd.pinned (OpenSpec.upto frAllSpec)

/-- 'intagliolaw2.FrPowers', WHERE WHAT IT READS IS OF BULK AT MOST 1048576: true; the input reads as it did. -/
def frPowersUptoRow : OpenClaim := { program := "ytfbdbkookbmdgaadoor", sum := "210b995fc4f77353ad73fa73a66acb9cbe13cfc8d2a3ad1d491083ed80916b7e", func := "intaglio/intagliolaw2.FrPowers", spec := "frPowers", inPlace := ["math/bits.Add64", "math/bits.Sub64"], named := ["intaglio/fr.square", "intaglio/fr.deepest"], apart := false, laid := [("intaglio/fr.deepest", laid_intaglio_fr_deepest), ("intaglio/fr.square", laid_intaglio_fr_square)], narrowed := true }
def FrPowersUptoSaid : Prop := frPowersUptoRow.holds Tryd.pinned (OpenSpec.upto frPowersSpec)

/-- 'intagliolaw2.FrBytes', WHERE WHAT IT READS IS OF BULK AT MOST 1048576: true; the input reads as it did. -/
def frBytesUptoRow : OpenClaim := { program := "ytfbdbkookbmdgaadoor", sum := "210b995fc4f77353ad73fa73a66acb9cbe13cfc8d2a3ad1d491083ed80916b7e", func := "intaglio/intagliolaw2.FrBytes", spec := "frBytes", inPlace := ["math/bits.Add64", "math/bits.Sub64"], named := ["intaglio/fr.square", "intaglio/fr.deepest"], apart := false, laid := [("intaglio/fr.deepest", laid_intaglio_fr_deepest), ("intaglio/fr.square", laid_intaglio_fr_square)], narrowed := true }
def FrBytesUptoSaid : Prop := frBytesUptoRow.holds Tryd.pinned (OpenSpec.upto frBytesSpec)

/-- 'intagliolaw2.FrField', WHERE WHAT IT READS IS OF BULK AT MOST 1048576: true; the input reads as it did. -/
def frFieldUptoRow : OpenClaim := { program := "ytfbdbkookbmdgaadoor", sum := "210b995fc4f77353ad73fa73a66acb9cbe13cfc8d2a3ad1d491083ed80916b7e", func := "intaglio/intagliolaw2.FrField", spec := "frField", inPlace := ["math/bits.Add64", "math/bits.Sub64"], named := ["intaglio/fr.square", "intaglio/fr.deepest"], apart := false, laid := [("intaglio/fr.deepest", laid_intaglio_fr_deepest), ("intaglio/fr.square", laid_intaglio_fr_square)], narrowed := true }
def FrFieldUptoSaid : Prop := frFieldUptoRow.holds Tryd.pinned (OpenSpec.upto frFieldSpec)

/-- 'intagliolaw2.FrExponents', WHERE WHAT IT READS IS OF BULK AT MOST 1048576: true; the input reads as it did. -/
def frExponentsUptoRow : OpenClaim := { program := "ytfbdbkookbmdgaadoor", sum := "210b995fc4f77353ad73fa73a66acb9cbe13cfc8d2a3ad1d491083ed80916b7e", func := "intaglio/intagliolaw2.FrExponents", spec := "frExponents", inPlace := ["math/bits.Add64", "math/bits.Sub64"], named := ["intaglio/fr.square", "intaglio/fr.deepest"], apart := false, laid := [("intaglio/fr.deepest", laid_intaglio_fr_deepest), ("intaglio/fr.square", laid_intaglio_fr_square)], narrowed := true }
def FrExponentsUptoSaid : Prop := frExponentsUptoRow.holds Tryd.pinned (OpenSpec.upto frExponentsSpec)

/-- 'intagliolaw2.FrRoots', WHERE WHAT IT READS IS OF BULK AT MOST 1048576: true; the input reads as it did. -/
def frRootsUptoRow : OpenClaim := { program := "ytfbdbkookbmdgaadoor", sum := "210b995fc4f77353ad73fa73a66acb9cbe13cfc8d2a3ad1d491083ed80916b7e", func := "intaglio/intagliolaw2.FrRoots", spec := "frRoots", inPlace := ["math/bits.Add64", "math/bits.Sub64"], named := ["intaglio/fr.square", "intaglio/fr.deepest"], apart := false, laid := [("intaglio/fr.deepest", laid_intaglio_fr_deepest), ("intaglio/fr.square", laid_intaglio_fr_square)], narrowed := true }
def FrRootsUptoSaid : Prop := frRootsUptoRow.holds Tryd.pinned (OpenSpec.upto frRootsSpec)

end Rows
end Go.Proofs.YtfbdbkookbmdgaaDoor
