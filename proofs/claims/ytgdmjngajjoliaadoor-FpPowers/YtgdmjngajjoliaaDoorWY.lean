/- What the document's MulR answers: the product modulo R, by Montgomery's way twice. -/
import Derived.Test.YtgdmjngajjoliaaDoorWX
namespace Go.Proofs.YtgdmjngajjoliaaDoor
open Go.RowKit
attribute [local go_sem ↓] Go.wp_at_zero Go.wp_at_succ
set_option linter.unusedVariables false

theorem twice {A B r s : Int} (h1 : r * pw 4 % RI = A * B % RI) (h2 : s * pw 4 % RI = r * val cL 4 % RI) (hs : 0 ≤ s ∧ s < RI) : s = A * B % RI := by
  have e1 : s * pw 4 % RI = (A * B) * pw 4 % RI := by
    rw [h2, ← mul_mod_r r, cL_val, mul_mod_r, ← Int.mul_assoc, ← mul_mod_l, h1, mul_mod_l]
  have e2 : s * pw 4 * uI % RI = (A * B) * pw 4 * uI % RI := by rw [← mul_mod_l, e1, mul_mod_l]
  have e3 : pw 4 * uI % RI = 1 := by decide +kernel
  rw [Int.mul_assoc, ← mul_mod_r, e3, Int.mul_assoc (A * B), ← mul_mod_r (A * B), e3, Int.mul_one, Int.mul_one] at e2
  rw [← e2]; exact (Int.emod_eq_of_lt hs.1 hs.2).symm

/-- A row of four that was laid behind a draw. -/
theorem below_da (w : World) (o : Obj) : Below w.heap.size w (w.drew.alloc o) := below_drew (below_one _ _)
theorem below_of_da {w x : World} {o : Obj} (h : Below (w.drew.alloc o).heap.size (w.drew.alloc o) x) : Below w.heap.size w x := Below.up (below_da w o) (Nat.le_refl _) h
theorem lit_da (w : World) (t : TypeId) : At (w.drew.alloc (.cells #[.int .u64 14526898881837571181, .int .u64 3129137299524312099, .int .u64 419701826671360399, .int .u64 524908885293268753] t)) (some ⟨w.heap.size, 0, none⟩) 4 cL := (mut_four w.drew cL t).at
theorem lit_a (w : World) (t : TypeId) : At (w.alloc (.cells #[.int .u64 14526898881837571181, .int .u64 3129137299524312099, .int .u64 419701826671360399, .int .u64 524908885293268753] t)) (some ⟨w.heap.size, 0, none⟩) 4 cL := (mut_four w cL t).at

end Go.Proofs.YtgdmjngajjoliaaDoor
