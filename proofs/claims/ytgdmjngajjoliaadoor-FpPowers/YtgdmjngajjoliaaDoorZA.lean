/- What the inner functions mulAdd, lessR, plusR, bring of package fr answer, and Of, R, May, Add, Sub, Neg. -/
import Derived.Test.YtgdmjngajjoliaaDoorQV
import Derived.Deep.RegionHeld3
namespace Go.Proofs.YtgdmjngajjoliaaDoor.fpn
open Go.RowKit
attribute [local go_sem ↓] Go.wp_at_zero Go.wp_at_succ
set_option linter.unusedVariables false

theorem below_three (w : World) (a b c : Obj) : Below w.heap.size w (((w.alloc a).alloc b).alloc c) := Below.up (below_two _ _ _) (Nat.le_refl _) (below_one _ _)
theorem below_four (w : World) (a b c d : Obj) : Below w.heap.size w ((((w.alloc a).alloc b).alloc c).alloc d) := Below.up (below_three _ _ _ _) (Nat.le_refl _) (below_one _ _)

theorem muladd_arith {P p q : Int} (h0 : 0 ≤ P) (h1 : P ≤ (B64 - 1) * (B64 - 1)) (hp : 0 ≤ p ∧ p < B64) (hq : 0 ≤ q ∧ q < B64) :
    IntKind.u64.wrap (IntKind.u64.wrap (P / B64 + (P % B64 + p) / B64) + ((P % B64 + p) % B64 + q) / B64) = (P + p + q) / B64 ∧ ((P % B64 + p) % B64 + q) % B64 = (P + p + q) % B64 := by
  rw [IntKind.wrap_u64, IntKind.wrap_u64]
  rw [B64_eq] at *
  refine ⟨by omega, by omega⟩

theorem mulAdd_any (x y p q : Int) (w : World) (hx : 0 ≤ x ∧ x < B64) (hy : 0 ≤ y ∧ y < B64) (hp : 0 ≤ p ∧ p < B64) (hq : 0 ≤ q ∧ q < B64) :
    Calls Tryd.prog 66 #[.int .u64 x, .int .u64 y, .int .u64 p, .int .u64 q] w fun e w' => e = .returned (.tuple #[.int .u64 ((x * y + p + q) / B64), .int .u64 ((x * y + p + q) % B64)]) ∧ w' = w := by
  have p0 := Int.mul_nonneg hx.1 hy.1
  have p1 := Int.mul_le_mul (show x ≤ B64 - 1 by omega) (show y ≤ B64 - 1 by omega) hy.1 (by have := B64_pos; omega)
  have M : Hid _ := mul64_any x y hx hy
  have q1 : 0 ≤ x * y % B64 := Int.emod_nonneg _ (by rw [B64_eq]; decide)
  have q2 : 0 ≤ (x * y % B64 + p + 0) % B64 := Int.emod_nonneg _ (by rw [B64_eq]; decide)
  have h1 := add64_call (x * y % B64) p 0 q1 hp.1 ⟨by decide, by decide⟩
  have h2 := add64_call ((x * y % B64 + p + 0) % B64) q 0 q2 hq.1 ⟨by decide, by decide⟩
  simp only [Int.add_zero] at h1 h2
  obtain ⟨a1, a2⟩ := muladd_arith p0 p1 hp hq
  have A1 : Hid _ := a1
  rw [← a2]
  clear q1 q2 a1 a2 p0 p1 hx hy hp hq
  generalize (x * y + p + q) / B64 = H at *
  generalize x * y / B64 = t1 at *
  generalize x * y % B64 = t2 at *
  generalize (t2 + p) / B64 = t3 at *
  generalize (t2 + p) % B64 = t4 at *
  generalize (t4 + q) / B64 = t5 at *
  generalize (t4 + q) % B64 = t6 at *
  go_enter Tryd.func66, Tryd.ntmps66
  go_wp2_with (go_at_call 71; refine Calls.mono (M.out _) ?_; rintro e w' ⟨rfl, rfl⟩)
  refine bodyPost_ret (v := .tuple #[.int .u64 H, .int .u64 t6]) (by simp [results, Tryd.results66, go_sem, A1.out]) rfl ⟨rfl, rfl⟩

/-- a - P: the limbs and the borrow. -/
theorem lessR_val {f : Nat → Int} (rf : Rg f 6) : val (df f rL) 6 + RI = val f 6 + bw f rL 6 * pw 6 := by
  rw [← rL_val]; exact val_df rf rL_rg

theorem prime_any (w : World) : Calls Tryd.prog 41 #[] w fun e w' => e = .returned (.agg #[.int .u64 (rL 0), .int .u64 (rL 1), .int .u64 (rL 2), .int .u64 (rL 3), .int .u64 (rL 4), .int .u64 (rL 5)]) ∧ Below w.heap.size w w' := by
  go_enter Tryd.func41, Tryd.ntmps41
  go_wp2
  refine bodyPost_ret (v := .agg #[.int .u64 (rL 0), .int .u64 (rL 1), .int .u64 (rL 2), .int .u64 (rL 3), .int .u64 (rL 4), .int .u64 (rL 5)]) (by simp [results, Tryd.results41, go_sem, rL]) rfl ⟨rfl, below_one _ _⟩

theorem less_any (f g : Nat → Int) (w : World) (rf : Rg f 6) (rg : Rg g 6) :
    Calls Tryd.prog 40 #[.agg #[.int .u64 (f 0), .int .u64 (f 1), .int .u64 (f 2), .int .u64 (f 3), .int .u64 (f 4), .int .u64 (f 5)], .agg #[.int .u64 (g 0), .int .u64 (g 1), .int .u64 (g 2), .int .u64 (g 3), .int .u64 (g 4), .int .u64 (g 5)]] w fun e w' => e = .returned (.tuple #[.agg #[.int .u64 (df f g 0), .int .u64 (df f g 1), .int .u64 (df f g 2), .int .u64 (df f g 3), .int .u64 (df f g 4), .int .u64 (df f g 5)], .int .u64 (bw f g 6)]) ∧ Below w.heap.size w w' := by
  have s0 : ∀ w, (callFunc 62 #[.int .u64 (f 0), .int .u64 (g 0), .int .u64 0]).run Tryd.prog w = .ok (.value (.tuple #[.int .u64 (df f g 0), .int .u64 (bw f g 1)])) w := fun w => sub64_call (f 0) (g 0) (bw f g 0) (rf 0 (by omega)) (rg 0 (by omega)) (bw_bd _ _ _) w
  have s1 : ∀ w, (callFunc 62 #[.int .u64 (f 1), .int .u64 (g 1), .int .u64 (bw f g 1)]).run Tryd.prog w = .ok (.value (.tuple #[.int .u64 (df f g 1), .int .u64 (bw f g 2)])) w := fun w => sub64_call (f 1) (g 1) (bw f g 1) (rf 1 (by omega)) (rg 1 (by omega)) (bw_bd _ _ _) w
  have s2 : ∀ w, (callFunc 62 #[.int .u64 (f 2), .int .u64 (g 2), .int .u64 (bw f g 2)]).run Tryd.prog w = .ok (.value (.tuple #[.int .u64 (df f g 2), .int .u64 (bw f g 3)])) w := fun w => sub64_call (f 2) (g 2) (bw f g 2) (rf 2 (by omega)) (rg 2 (by omega)) (bw_bd _ _ _) w
  have s3 : ∀ w, (callFunc 62 #[.int .u64 (f 3), .int .u64 (g 3), .int .u64 (bw f g 3)]).run Tryd.prog w = .ok (.value (.tuple #[.int .u64 (df f g 3), .int .u64 (bw f g 4)])) w := fun w => sub64_call (f 3) (g 3) (bw f g 3) (rf 3 (by omega)) (rg 3 (by omega)) (bw_bd _ _ _) w
  have s4 : ∀ w, (callFunc 62 #[.int .u64 (f 4), .int .u64 (g 4), .int .u64 (bw f g 4)]).run Tryd.prog w = .ok (.value (.tuple #[.int .u64 (df f g 4), .int .u64 (bw f g 5)])) w := fun w => sub64_call (f 4) (g 4) (bw f g 4) (rf 4 (by omega)) (rg 4 (by omega)) (bw_bd _ _ _) w
  have s5 : ∀ w, (callFunc 62 #[.int .u64 (f 5), .int .u64 (g 5), .int .u64 (bw f g 5)]).run Tryd.prog w = .ok (.value (.tuple #[.int .u64 (df f g 5), .int .u64 (bw f g 6)])) w := fun w => sub64_call (f 5) (g 5) (bw f g 5) (rf 5 (by omega)) (rg 5 (by omega)) (bw_bd _ _ _) w
  clear rg rf
  go_enter Tryd.func40, Tryd.ntmps40
  go_wp2
  refine bodyPost_ret (v := .tuple #[.agg #[.int .u64 (df f g 0), .int .u64 (df f g 1), .int .u64 (df f g 2), .int .u64 (df f g 3), .int .u64 (df f g 4), .int .u64 (df f g 5)], .int .u64 (bw f g 6)]) (by simp [results, Tryd.results40, go_sem]) rfl ⟨rfl, below_three _ _ _ _⟩

theorem plus_any (f g : Nat → Int) (w : World) (rf : Rg f 6) (rg : Rg g 6) :
    Calls Tryd.prog 43 #[.agg #[.int .u64 (f 0), .int .u64 (f 1), .int .u64 (f 2), .int .u64 (f 3), .int .u64 (f 4), .int .u64 (f 5)], .agg #[.int .u64 (g 0), .int .u64 (g 1), .int .u64 (g 2), .int .u64 (g 3), .int .u64 (g 4), .int .u64 (g 5)]] w fun e w' => e = .returned (.agg #[.int .u64 (sm f g 0 0), .int .u64 (sm f g 0 1), .int .u64 (sm f g 0 2), .int .u64 (sm f g 0 3), .int .u64 (sm f g 0 4), .int .u64 (sm f g 0 5)]) ∧ Below w.heap.size w w' := by
  have s0 : ∀ w, (callFunc 64 #[.int .u64 (f 0), .int .u64 (g 0), .int .u64 0]).run Tryd.prog w = .ok (.value (.tuple #[.int .u64 (sm f g 0 0), .int .u64 (cy f g 0 1)])) w := fun w => add64_call (f 0) (g 0) (cy f g 0 0) (rf 0 (by omega)).1 (rg 0 (by omega)).1 (cy_bd (rf.mono (by omega)) (rg.mono (by omega)) ⟨by decide, by decide⟩) w
  have s1 : ∀ w, (callFunc 64 #[.int .u64 (f 1), .int .u64 (g 1), .int .u64 (cy f g 0 1)]).run Tryd.prog w = .ok (.value (.tuple #[.int .u64 (sm f g 0 1), .int .u64 (cy f g 0 2)])) w := fun w => add64_call (f 1) (g 1) (cy f g 0 1) (rf 1 (by omega)).1 (rg 1 (by omega)).1 (cy_bd (rf.mono (by omega)) (rg.mono (by omega)) ⟨by decide, by decide⟩) w
  have s2 : ∀ w, (callFunc 64 #[.int .u64 (f 2), .int .u64 (g 2), .int .u64 (cy f g 0 2)]).run Tryd.prog w = .ok (.value (.tuple #[.int .u64 (sm f g 0 2), .int .u64 (cy f g 0 3)])) w := fun w => add64_call (f 2) (g 2) (cy f g 0 2) (rf 2 (by omega)).1 (rg 2 (by omega)).1 (cy_bd (rf.mono (by omega)) (rg.mono (by omega)) ⟨by decide, by decide⟩) w
  have s3 : ∀ w, (callFunc 64 #[.int .u64 (f 3), .int .u64 (g 3), .int .u64 (cy f g 0 3)]).run Tryd.prog w = .ok (.value (.tuple #[.int .u64 (sm f g 0 3), .int .u64 (cy f g 0 4)])) w := fun w => add64_call (f 3) (g 3) (cy f g 0 3) (rf 3 (by omega)).1 (rg 3 (by omega)).1 (cy_bd (rf.mono (by omega)) (rg.mono (by omega)) ⟨by decide, by decide⟩) w
  have s4 : ∀ w, (callFunc 64 #[.int .u64 (f 4), .int .u64 (g 4), .int .u64 (cy f g 0 4)]).run Tryd.prog w = .ok (.value (.tuple #[.int .u64 (sm f g 0 4), .int .u64 (cy f g 0 5)])) w := fun w => add64_call (f 4) (g 4) (cy f g 0 4) (rf 4 (by omega)).1 (rg 4 (by omega)).1 (cy_bd (rf.mono (by omega)) (rg.mono (by omega)) ⟨by decide, by decide⟩) w
  have s5 : ∀ w, (callFunc 64 #[.int .u64 (f 5), .int .u64 (g 5), .int .u64 (cy f g 0 5)]).run Tryd.prog w = .ok (.value (.tuple #[.int .u64 (sm f g 0 5), .int .u64 (cy f g 0 6)])) w := fun w => add64_call (f 5) (g 5) (cy f g 0 5) (rf 5 (by omega)).1 (rg 5 (by omega)).1 (cy_bd (rf.mono (by omega)) (rg.mono (by omega)) ⟨by decide, by decide⟩) w
  clear rg rf
  go_enter Tryd.func43, Tryd.ntmps43
  go_wp2
  refine bodyPost_ret (v := .agg #[.int .u64 (sm f g 0 0), .int .u64 (sm f g 0 1), .int .u64 (sm f g 0 2), .int .u64 (sm f g 0 3), .int .u64 (sm f g 0 4), .int .u64 (sm f g 0 5)]) (by simp [results, Tryd.results43, go_sem]) rfl ⟨rfl, below_three _ _ _ _⟩

theorem at6 {w : World} {b : Nat} {f : Nat → Int} (h : At w (some ⟨b, 0, none⟩) 6 f) :
    w.cell? ⟨b, 0, none⟩ = some (.int .u64 (f 0)) ∧ w.cell? ⟨b, 1, none⟩ = some (.int .u64 (f 1)) ∧ w.cell? ⟨b, 2, none⟩ = some (.int .u64 (f 2)) ∧ w.cell? ⟨b, 3, none⟩ = some (.int .u64 (f 3)) ∧ w.cell? ⟨b, 4, none⟩ = some (.int .u64 (f 4)) ∧ w.cell? ⟨b, 5, none⟩ = some (.int .u64 (f 5)) := by
  obtain ⟨b', o, e, h⟩ := h (by omega)
  simp only [Option.some.injEq, Addr.mk.injEq] at e
  obtain ⟨rfl, rfl, -⟩ := e
  have k := fun j hj => h j hj
  simp only [Nat.zero_add] at k
  exact ⟨k 0 (by omega), k 1 (by omega), k 2 (by omega), k 3 (by omega), k 4 (by omega), k 5 (by omega)⟩

/-- y is W, with more behind. -/
def Bel (W y : World) : Prop := Below W.heap.size W y
theorem boxA {t : TypeId} {W x : World} (h : Below (W.alloc (.cells #[.int .u64 0, .int .u64 0, .int .u64 0, .int .u64 0, .int .u64 0, .int .u64 0] t)).heap.size (W.alloc (.cells #[.int .u64 0, .int .u64 0, .int .u64 0, .int .u64 0, .int .u64 0, .int .u64 0] t)) x) : Below W.heap.size W x ∧ Mut x W.heap.size 0 6 Z :=
  ⟨Below.up (below_one _ _) (Nat.le_refl _) h, MutK.below (mut_noughts _ _) h (by simp)⟩
theorem boxB {t : TypeId} {W x : World} (h : Below (W.alloc (.cells #[.int .u64 0, .int .u64 0, .int .u64 0, .int .u64 0, .int .u64 0, .int .u64 0] t)).drew.heap.size (W.alloc (.cells #[.int .u64 0, .int .u64 0, .int .u64 0, .int .u64 0, .int .u64 0, .int .u64 0] t)).drew x) : Below W.heap.size W x ∧ Mut x W.heap.size 0 6 Z := boxA (below_drew h)

end Go.Proofs.YtgdmjngajjoliaaDoor.fpn
