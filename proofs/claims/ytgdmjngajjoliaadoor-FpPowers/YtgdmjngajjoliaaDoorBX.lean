import Derived.Test.YtgdmjngajjoliaaDoorWZ
import Derived.Laws.StructEq
import Derived.Test.YtgdmjngajjoliaaDoorWQ
import Derived.Laws.IdiomArrays
import Derived.ProofKit
import Derived.WalkKit
import Derived.OpenShut
import Derived.ShutString
import Derived.ChangeOld
import Derived.Below
/- How two scalars are compared; what the document's InvR, RootR and WideR answer. -/
namespace Go.Proofs.YtgdmjngajjoliaaDoor
open Go.RowKit
attribute [local go_sem ↓] Go.wp_at_zero Go.wp_at_succ
set_option linter.unusedVariables false

end Go.Proofs.YtgdmjngajjoliaaDoor

/- What the document's WideR, PutR, TakeR answer. -/
namespace Go.Proofs.YtgdmjngajjoliaaDoor
open Go.RowKit
attribute [local go_sem ↓] Go.wp_at_zero Go.wp_at_succ
set_option linter.unusedVariables false

/-- The number that n bytes are, the highest first. -/
def bv (g : Nat → Int) : Nat → Int
  | 0 => 0
  | n + 1 => bv g n * 256 + g n

/-- A step of WideR. -/
theorem wide_step {g : Nat → Int} {j : Nat} {H M : Int} (h : H = bv g j % RI) (hM : M = H * 256 % RI) : (M + g j) % RI = bv g (j + 1) % RI := by
  rw [hM, h, mul_mod_l, Int.emod_add_emod]; rfl

end Go.Proofs.YtgdmjngajjoliaaDoor

/- What the document's PutR and TakeR answer; bytes as a number. -/
namespace Go.Proofs.YtgdmjngajjoliaaDoor
open Go.RowKit
attribute [local go_sem ↓] Go.wp_at_zero Go.wp_at_succ
set_option linter.unusedVariables false



/-- The number that n bytes are, from the last one on: as far as i of them. -/
def lv (g : Nat → Int) (n : Nat) : Nat → Int
  | 0 => 0
  | i + 1 => lv g n i + g (n - 1 - i) * 256 ^ i

theorem pow_256 (i : Nat) : (2 : Int) ^ (8 * (i % 8)) * pw (i / 8) = 256 ^ i := by
  rw [← two_pow_64, ← Int.pow_add, show 8 * (i % 8) + 64 * (i / 8) = 8 * i by omega, Int.pow_mul]; rfl

theorem val_up {f h : Nat → Int} {L q : Nat} {x : Int} (hq : q < L) (e1 : ∀ i, i < L → i ≠ q → h i = f i) (e2 : h q = f q + x) : val h L = val f L + x * pw q := by
  induction L with
  | zero => omega
  | succ L ih =>
    rw [val, val]
    by_cases c : q = L
    · subst c
      rw [val_congr (g := f) (fun i hi => e1 i (by omega) (by omega)), e2, Int.add_mul]; omega
    · rw [ih (by omega) (fun i hi => e1 i (by omega)), e1 L (by omega) (by omega)]; omega

theorem pl_lv (g : Nat → Int) (n L : Nat) : ∀ i, i ≤ 8 * L → val (pl g n i) L = lv g n i
  | 0, _ => val_zero fun q _ => by unfold pl; rw [show min 8 (0 - 8 * q) = 0 by omega]; rfl
  | i + 1, h => by
    rw [val_up (f := pl g n i) (q := i / 8) (by omega) (fun q _ hq => pl_other hq) (pl_at g n i), pl_lv g n L i (by omega), lv, Int.mul_assoc, pow_256]

theorem lv_up (g : Nat → Int) (n : Nat) : ∀ i, i ≤ n → lv g (n + 1) (i + 1) = g n + 256 * lv g n i
  | 0, _ => by simp [lv]
  | i + 1, h => by
    rw [lv, lv_up g n i (by omega), lv, show n + 1 - 1 - (i + 1) = n - 1 - i by omega, Int.pow_succ, Int.mul_add, Int.mul_comm (256 ^ i), ← Int.mul_assoc, Int.mul_comm (g _), Int.mul_assoc]
    omega

theorem lv_bv (g : Nat → Int) : ∀ n, lv g n n = bv g n
  | 0 => rfl
  | n + 1 => by rw [lv_up g n n (Nat.le_refl _), lv_bv g n, bv]; omega

/-- The limbs that bytes make are the number that they are. -/
theorem pl_bv (g : Nat → Int) (n : Nat) : val (pl g n n) ((n + 7) / 8) = bv g n := by
  rw [pl_lv g n _ n (by omega), lv_bv]
end Go.Proofs.YtgdmjngajjoliaaDoor

/- What an array of four limbs that comes in gives the walks. -/
namespace Go.Proofs.YtgdmjngajjoliaaDoor
open Go.ChangeShapes Go.WideShapes Go.ChangeAt Go.RowKit
set_option linter.unusedVariables false

theorem list4 {α : Type} (l : List α) (h : (⟨l⟩ : Array α).size = 4) : ∃ a b c d, l = [a, b, c, d] := by
  match l, h with
  | [a, b, c, d], _ => exact ⟨a, b, c, d, rfl⟩

theorem cells64 : Tryd.prog.cellsOf 22 = 1 := by kernel_rfl

/-- Four numbers as a function. -/
def quad (a b c d : Int) : Nat → Int
  | 0 => a
  | 1 => b
  | 2 => c
  | 3 => d
  | _ => 0

end Go.Proofs.YtgdmjngajjoliaaDoor
