/- What a call answers, in new memory alone; short names. -/
import Derived.Test.YtklddcicfeakfaaRows
import Derived.Test.YtklddcicfeakfaaPR
import Derived.Test.YtklddcicfeakfaaMem
import Derived.ProofKit
import Derived.WalkKit
namespace Go.Proofs.Ytklddcicfeakfaa.fpn
open Go.RowKit Pl
set_option linter.unusedVariables false

/-- What a call answers, in new memory alone. -/
def Ret (v : Value) (w : World) : Ending → World → Prop := fun e w' => e = .returned v ∧ Below w.heap.size w w'
theorem nm {α : Type} (a : α) : ∃ m, m = a := ⟨a, rfl⟩
theorem nB {G : World → Prop} {b c : Bool} {f : FuncId} {vs : Array Value} (e : b = c) (h : ∀ w, G w → Calls Try.prog f vs w (Ret (.bool b) w)) : ∀ w, G w → Calls Try.prog f vs w (Ret (.bool c) w) := e ▸ h
theorem nBR {b c : Bool} {f : FuncId} {vs : Array Value} (e : b = c) (h : ∀ w, Calls Try.prog f vs w (Ret (.bool b) w)) : ∀ w, Calls Try.prog f vs w (Ret (.bool c) w) := e ▸ h
theorem info8 : (Try.prog.info? 5).map (fun i => (i.zero, i.size, i.bytes)) = some (some (.int .u8 0), 1, 1) := by kernel_rfl
end Go.Proofs.Ytklddcicfeakfaa.fpn
