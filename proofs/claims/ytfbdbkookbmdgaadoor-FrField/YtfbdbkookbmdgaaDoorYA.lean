/- What the inner functions mulAdd, lessR, plusR, bring of package fr answer, and Of, R, May, Add, Sub, Neg. -/
import Derived.Test.YtfbdbkookbmdgaaDoorFV
namespace Go.Proofs.YtfbdbkookbmdgaaDoor
open Go.RowKit
attribute [local go_sem ↓] Go.wp_at_zero Go.wp_at_succ
set_option linter.unusedVariables false

theorem below_three (w : World) (a b c : Obj) : Below w.heap.size w (((w.alloc a).alloc b).alloc c) := Below.up (below_two _ _ _) (Nat.le_refl _) (below_one _ _)
theorem below_four (w : World) (a b c d : Obj) : Below w.heap.size w ((((w.alloc a).alloc b).alloc c).alloc d) := Below.up (below_three _ _ _ _) (Nat.le_refl _) (below_one _ _)

theorem muladd_arith {P p q : Int} (h0 : 0 ≤ P) (h1 : P ≤ (B64 - 1) * (B64 - 1)) (hp : 0 ≤ p ∧ p < B64) (hq : 0 ≤ q ∧ q < B64) :
    IntKind.u64.wrap (IntKind.u64.wrap (P / B64 + (P % B64 + p) / B64) + ((P % B64 + p) % B64 + q) / B64) = (P + p + q) / B64 ∧ ((P % B64 + p) % B64 + q) % B64 = (P + p + q) % B64 := by
  rw [IntKind.wrap_u64, IntKind.wrap_u64]
  rw [B64_eq] at *
  refine ⟨by omega, by omega⟩

theorem mulAdd_any (x y p q : Int) (w : World) (hx : 0 ≤ x ∧ x < B64) (hy : 0 ≤ y ∧ y < B64) (hp : 0 ≤ p ∧ p < B64) (hq : 0 ≤ q ∧ q < B64) :
    Calls Tryd.prog 67 #[.int .u64 x, .int .u64 y, .int .u64 p, .int .u64 q] w fun e w' => e = .returned (.tuple #[.int .u64 ((x * y + p + q) / B64), .int .u64 ((x * y + p + q) % B64)]) ∧ w' = w := by
  have p0 := Int.mul_nonneg hx.1 hy.1
  have p1 := Int.mul_le_mul (show x ≤ B64 - 1 by omega) (show y ≤ B64 - 1 by omega) hy.1 (by have := B64_pos; omega)
  have M : Hid _ := mul64_any x y hx hy
  have q1 : 0 ≤ x * y % B64 := Int.emod_nonneg _ (by rw [B64_eq]; decide)
  have q2 : 0 ≤ (x * y % B64 + p + 0) % B64 := Int.emod_nonneg _ (by rw [B64_eq]; decide)
  have h1 := add64_call (x * y % B64) p 0 q1 hp.1 ⟨by decide, by decide⟩
  have h2 := add64_call ((x * y % B64 + p + 0) % B64) q 0 q2 hq.1 ⟨by decide, by decide⟩
  simp only [Int.add_zero] at h1 h2
  obtain ⟨a1, a2⟩ := muladd_arith p0 p1 hp hq
  have A1 : Hid _ := a1
  rw [← a2]
  clear q1 q2 a1 a2 p0 p1 hx hy hp hq
  generalize (x * y + p + q) / B64 = H at *
  generalize x * y / B64 = t1 at *
  generalize x * y % B64 = t2 at *
  generalize (t2 + p) / B64 = t3 at *
  generalize (t2 + p) % B64 = t4 at *
  generalize (t4 + q) / B64 = t5 at *
  generalize (t4 + q) % B64 = t6 at *
  go_enter Tryd.func67, Tryd.ntmps67
  go_wp2_with (go_at_call 73; refine Calls.mono (M.out _) ?_; rintro e w' ⟨rfl, rfl⟩)
  refine bodyPost_ret (v := .tuple #[.int .u64 H, .int .u64 t6]) (by simp [results, Tryd.results67, go_sem, A1.out]) rfl ⟨rfl, rfl⟩

/-- a - R: the limbs and the borrow. -/
theorem lessR_val {f : Nat → Int} (rf : Rg f 4) : val (df f rL) 4 + RI = val f 4 + bw f rL 4 * pw 4 := by
  rw [← rL_val]; exact val_df rf rL_rg

theorem lessR_any (f : Nat → Int) (w : World) (rf : Rg f 4) :
    Calls Tryd.prog 41 #[.agg #[.int .u64 (f 0), .int .u64 (f 1), .int .u64 (f 2), .int .u64 (f 3)]] w fun e w' => e = .returned (.tuple #[.agg #[.int .u64 (df f rL 0), .int .u64 (df f rL 1), .int .u64 (df f rL 2), .int .u64 (df f rL 3)], .int .u64 (bw f rL 4)]) ∧ Below w.heap.size w w' := by
  have rg := rL_rg
  have s0 : ∀ w, (callFunc 46 #[.int .u64 (f 0), .int .u64 18446744069414584321, .int .u64 0]).run Tryd.prog w = .ok (.value (.tuple #[.int .u64 (df f rL 0), .int .u64 (bw f rL 1)])) w := fun w => sub64_call (f 0) (rL 0) (bw f rL 0) (rf 0 (by omega)) (rg 0 (by omega)) (bw_bd _ _ _) w
  have s1 : ∀ w, (callFunc 46 #[.int .u64 (f 1), .int .u64 6034159408538082302, .int .u64 (bw f rL 1)]).run Tryd.prog w = .ok (.value (.tuple #[.int .u64 (df f rL 1), .int .u64 (bw f rL 2)])) w := fun w => sub64_call (f 1) (rL 1) (bw f rL 1) (rf 1 (by omega)) (rg 1 (by omega)) (bw_bd _ _ _) w
  have s2 : ∀ w, (callFunc 46 #[.int .u64 (f 2), .int .u64 3691218898639771653, .int .u64 (bw f rL 2)]).run Tryd.prog w = .ok (.value (.tuple #[.int .u64 (df f rL 2), .int .u64 (bw f rL 3)])) w := fun w => sub64_call (f 2) (rL 2) (bw f rL 2) (rf 2 (by omega)) (rg 2 (by omega)) (bw_bd _ _ _) w
  have s3 : ∀ w, (callFunc 46 #[.int .u64 (f 3), .int .u64 8353516859464449352, .int .u64 (bw f rL 3)]).run Tryd.prog w = .ok (.value (.tuple #[.int .u64 (df f rL 3), .int .u64 (bw f rL 4)])) w := fun w => sub64_call (f 3) (rL 3) (bw f rL 3) (rf 3 (by omega)) (rg 3 (by omega)) (bw_bd _ _ _) w
  clear rg rf
  go_enter Tryd.func41, Tryd.ntmps41
  go_wp2
  refine bodyPost_ret (v := .tuple #[.agg #[.int .u64 (df f rL 0), .int .u64 (df f rL 1), .int .u64 (df f rL 2), .int .u64 (df f rL 3)], .int .u64 (bw f rL 4)]) (by simp [results, Tryd.results41, go_sem]) rfl ⟨rfl, below_three _ _ _ _⟩

theorem plusR_any (f : Nat → Int) (w : World) (rf : Rg f 4) :
    Calls Tryd.prog 47 #[.agg #[.int .u64 (f 0), .int .u64 (f 1), .int .u64 (f 2), .int .u64 (f 3)]] w fun e w' => e = .returned (.agg #[.int .u64 (sm f rL 0 0), .int .u64 (sm f rL 0 1), .int .u64 (sm f rL 0 2), .int .u64 (sm f rL 0 3)]) ∧ Below w.heap.size w w' := by
  have rg := rL_rg
  have s0 : ∀ w, (callFunc 42 #[.int .u64 (f 0), .int .u64 18446744069414584321, .int .u64 0]).run Tryd.prog w = .ok (.value (.tuple #[.int .u64 (sm f rL 0 0), .int .u64 (cy f rL 0 1)])) w := fun w => add64_call (f 0) (rL 0) (cy f rL 0 0) (rf 0 (by omega)).1 (rg 0 (by omega)).1 (cy_bd (rf.mono (by omega)) (rg.mono (by omega)) ⟨by decide, by decide⟩) w
  have s1 : ∀ w, (callFunc 42 #[.int .u64 (f 1), .int .u64 6034159408538082302, .int .u64 (cy f rL 0 1)]).run Tryd.prog w = .ok (.value (.tuple #[.int .u64 (sm f rL 0 1), .int .u64 (cy f rL 0 2)])) w := fun w => add64_call (f 1) (rL 1) (cy f rL 0 1) (rf 1 (by omega)).1 (rg 1 (by omega)).1 (cy_bd (rf.mono (by omega)) (rg.mono (by omega)) ⟨by decide, by decide⟩) w
  have s2 : ∀ w, (callFunc 42 #[.int .u64 (f 2), .int .u64 3691218898639771653, .int .u64 (cy f rL 0 2)]).run Tryd.prog w = .ok (.value (.tuple #[.int .u64 (sm f rL 0 2), .int .u64 (cy f rL 0 3)])) w := fun w => add64_call (f 2) (rL 2) (cy f rL 0 2) (rf 2 (by omega)).1 (rg 2 (by omega)).1 (cy_bd (rf.mono (by omega)) (rg.mono (by omega)) ⟨by decide, by decide⟩) w
  have s3 : ∀ w, (callFunc 42 #[.int .u64 (f 3), .int .u64 8353516859464449352, .int .u64 (cy f rL 0 3)]).run Tryd.prog w = .ok (.value (.tuple #[.int .u64 (sm f rL 0 3), .int .u64 (cy f rL 0 4)])) w := fun w => add64_call (f 3) (rL 3) (cy f rL 0 3) (rf 3 (by omega)).1 (rg 3 (by omega)).1 (cy_bd (rf.mono (by omega)) (rg.mono (by omega)) ⟨by decide, by decide⟩) w
  clear rg rf
  go_enter Tryd.func47, Tryd.ntmps47
  go_wp2
  refine bodyPost_ret (v := .agg #[.int .u64 (sm f rL 0 0), .int .u64 (sm f rL 0 1), .int .u64 (sm f rL 0 2), .int .u64 (sm f rL 0 3)]) (by simp [results, Tryd.results47, go_sem]) rfl ⟨rfl, below_two _ _ _⟩

theorem bring_any (f : Nat → Int) (w : World) (rf : Rg f 4) (h2 : val f 4 < 2 * RI) :
    Calls Tryd.prog 43 #[.agg #[.int .u64 (f 0), .int .u64 (f 1), .int .u64 (f 2), .int .u64 (f 3)]] w fun e w' => ∃ h : Nat → Int, e = .returned (.agg #[.int .u64 (h 0), .int .u64 (h 1), .int .u64 (h 2), .int .u64 (h 3)]) ∧ Rg h 4 ∧ val h 4 = val f 4 % RI ∧ Below w.heap.size w w' := by
  have v1 := lessR_val rf
  have d1 := val_bd (df_rg f rL 4)
  have d0 := val_bd rf
  have R1 := df_rg f rL 4
  have K : Hid _ := fun w => lessR_any f w rf
  have hp := RI_pos
  obtain ⟨B1, z1, hF, hR⟩ := pair_all w f 24
  unfold pair at B1 z1 hF hR
  have hb := bw_bd f rL 4
  generalize df f rL = h at *
  rcases (show bw f rL 4 = 0 ∨ bw f rL 4 = 1 by omega) with e | e
  · rw [e] at K v1
    have V : Hid (val h 4 = val f 4 % RI) := by
      show _ = _
      rw [show val f 4 = val h 4 + RI by omega, Int.add_emod_right]
      exact (Int.emod_eq_of_lt d1.1 (by omega)).symm
    have RH : Hid _ := R1
    clear v1 d1 d0 R1 hp hb rf h2 e
    go_enter Tryd.func43, Tryd.ntmps43
    go_wp2_with fail
    generalize (w.alloc (.cells #[.int .u64 (f 0), .int .u64 (f 1), .int .u64 (f 2), .int .u64 (f 3)] 24)).alloc (.cells #[.int .u64 0, .int .u64 0, .int .u64 0, .int .u64 0] 24) = W at *
    refine Calls.mono (K.out W) ?_
    rintro e w2 ⟨rfl, b2⟩
    have k2 := (hR.below b2 (by rw [z1]; omega)).below (below_one w2 (.cells #[.int .u64 (h 0), .int .u64 (h 1), .int .u64 (h 2), .int .u64 (h 3)] 24)) (by have := b2.size; omega)
    obtain ⟨y0, y1, y2, y3⟩ := k2.cells4
    obtain ⟨z0, z1, z2, z3⟩ := k2.free4
    have HB : Hid _ := Below.up (Below.up B1 (Nat.le_refl _) b2) (Nat.le_refl _) (below_one w2 (.cells #[.int .u64 (h 0), .int .u64 (h 1), .int .u64 (h 2), .int .u64 (h 3)] 24))
    clear k2 b2 B1 hF hR
    go_wp2
    refine bodyPost_ret (v := .agg #[.int .u64 (h 0), .int .u64 (h 1), .int .u64 (h 2), .int .u64 (h 3)]) (by simp [results, Tryd.results43, go_sem, y0, y1, y2, y3]) rfl ⟨h, rfl, RH.out, V.out, ?_⟩
    exact below_set4 HB.out (by omega) _ _ _ _
  · rw [e] at K v1
    have V : Hid (val f 4 = val f 4 % RI) := by
      show _ = _
      exact (Int.emod_eq_of_lt d0.1 (by omega)).symm
    have RH : Hid _ := rf
    clear v1 d1 d0 R1 hp hb rf h2 e
    go_enter Tryd.func43, Tryd.ntmps43
    go_wp2_with fail
    generalize (w.alloc (.cells #[.int .u64 (f 0), .int .u64 (f 1), .int .u64 (f 2), .int .u64 (f 3)] 24)).alloc (.cells #[.int .u64 0, .int .u64 0, .int .u64 0, .int .u64 0] 24) = W at *
    refine Calls.mono (K.out W) ?_
    rintro e w2 ⟨rfl, b2⟩
    have k1 := (hF.below b2 (by rw [z1]; omega)).below (below_one w2 (.cells #[.int .u64 (h 0), .int .u64 (h 1), .int .u64 (h 2), .int .u64 (h 3)] 24)) (by have := b2.size; omega)
    have k2 := (hR.below b2 (by rw [z1]; omega)).below (below_one w2 (.cells #[.int .u64 (h 0), .int .u64 (h 1), .int .u64 (h 2), .int .u64 (h 3)] 24)) (by have := b2.size; omega)
    obtain ⟨x0, x1, x2, x3⟩ := k1.cells4
    obtain ⟨y0, y1, y2, y3⟩ := k2.cells4
    obtain ⟨z0, z1, z2, z3⟩ := k2.free4
    have HB : Hid _ := Below.up (Below.up B1 (Nat.le_refl _) b2) (Nat.le_refl _) (below_one w2 (.cells #[.int .u64 (h 0), .int .u64 (h 1), .int .u64 (h 2), .int .u64 (h 3)] 24))
    clear k1 k2 b2 B1 hF hR
    go_wp2
    refine bodyPost_ret (v := .agg #[.int .u64 (f 0), .int .u64 (f 1), .int .u64 (f 2), .int .u64 (f 3)]) (by simp [results, Tryd.results43, go_sem, y0, y1, y2, y3]) rfl ⟨f, rfl, RH.out, V.out, ?_⟩
    exact below_set4 HB.out (by omega) _ _ _ _

theorem frOf_any (x : Int) (w : World) (hx : 0 ≤ x ∧ x < B64) : Calls Tryd.prog 21 #[.int .u64 x] w fun e w' => ∃ h : Nat → Int, e = .returned (.agg #[.int .u64 (h 0), .int .u64 (h 1), .int .u64 (h 2), .int .u64 (h 3)]) ∧ Rg h 4 ∧ val h 4 = x ∧ Below w.heap.size w w' := by
  have R1 := one_rg hx 4
  have V1 := val_one4 x
  clear hx
  go_enter Tryd.func21, Tryd.ntmps21
  go_wp2
  refine bodyPost_ret (v := .agg #[.int .u64 x, .int .u64 0, .int .u64 0, .int .u64 0]) (by simp [results, Tryd.results21, go_sem]) rfl ⟨one x, rfl, R1, V1, below_one _ _⟩

theorem frR_any (w : World) : Calls Tryd.prog 23 #[] w fun e w' => ∃ p c, e = .returned (.slice p 4 c) ∧ At w' p 4 rL ∧ 4 ≤ c ∧ c ≤ 9223372036854775807 ∧ Below w.heap.size w w' := by
  go_enter Tryd.func23, Tryd.ntmps23
  go_wp2
  go_ret
  exact ⟨_, 4, rfl, (mut_four w rL _).at, Nat.le_refl _, by decide, below_one _ _⟩

theorem frMay_any (f : Nat → Int) (w : World) (rf : Rg f 4) : Calls Tryd.prog 11 #[.agg #[.int .u64 (f 0), .int .u64 (f 1), .int .u64 (f 2), .int .u64 (f 3)]] w fun e w' => e = .returned (.bool (decide (val f 4 < RI))) ∧ Below w.heap.size w w' := by
  have v1 := lessR_val rf
  have d1 := val_bd (df_rg f rL 4)
  have d0 := val_bd rf
  have K : Hid _ := fun w => lessR_any f w rf
  have b1 := below_one w (.cells #[.int .u64 (f 0), .int .u64 (f 1), .int .u64 (f 2), .int .u64 (f 3)] 24)
  have hb := bw_bd f rL 4
  generalize df f rL = h at *
  rcases (show bw f rL 4 = 0 ∨ bw f rL 4 = 1 by omega) with e | e
  · rw [e] at K v1
    rw [decide_eq_false (show ¬ val f 4 < RI by omega)]
    clear v1 d1 d0 hb rf e
    go_enter Tryd.func11, Tryd.ntmps11
    go_wp2_with fail
    generalize w.alloc (.cells #[.int .u64 (f 0), .int .u64 (f 1), .int .u64 (f 2), .int .u64 (f 3)] 24) = W at *
    refine Calls.mono (K.out W) ?_
    rintro e w2 ⟨rfl, b2⟩
    have HB : Hid _ := Below.up (Below.up b1 (Nat.le_refl _) b2) (Nat.le_refl _) (below_one w2 (.cells #[.int .u64 (h 0), .int .u64 (h 1), .int .u64 (h 2), .int .u64 (h 3)] 24))
    clear b1 b2
    go_wp2
    go_ret
    exact ⟨rfl, HB.out⟩
  · rw [e] at K v1
    rw [decide_eq_true (show val f 4 < RI by omega)]
    clear v1 d1 d0 hb rf e
    go_enter Tryd.func11, Tryd.ntmps11
    go_wp2_with fail
    generalize w.alloc (.cells #[.int .u64 (f 0), .int .u64 (f 1), .int .u64 (f 2), .int .u64 (f 3)] 24) = W at *
    refine Calls.mono (K.out W) ?_
    rintro e w2 ⟨rfl, b2⟩
    have HB : Hid _ := Below.up (Below.up b1 (Nat.le_refl _) b2) (Nat.le_refl _) (below_one w2 (.cells #[.int .u64 (h 0), .int .u64 (h 1), .int .u64 (h 2), .int .u64 (h 3)] 24))
    clear b1 b2
    go_wp2
    go_ret
    exact ⟨rfl, HB.out⟩

theorem frAdd_any (f g : Nat → Int) (w : World) (rf : Rg f 4) (rg : Rg g 4) (lf : val f 4 < RI) (lg : val g 4 < RI) :
    Calls Tryd.prog 12 #[.agg #[.int .u64 (f 0), .int .u64 (f 1), .int .u64 (f 2), .int .u64 (f 3)], .agg #[.int .u64 (g 0), .int .u64 (g 1), .int .u64 (g 2), .int .u64 (g 3)]] w fun e w' => ∃ h : Nat → Int, e = .returned (.agg #[.int .u64 (h 0), .int .u64 (h 1), .int .u64 (h 2), .int .u64 (h 3)]) ∧ Rg h 4 ∧ val h 4 = (val f 4 + val g 4) % RI ∧ Below w.heap.size w w' := by
  have s0 : ∀ w, (callFunc 42 #[.int .u64 (f 0), .int .u64 (g 0), .int .u64 0]).run Tryd.prog w = .ok (.value (.tuple #[.int .u64 (sm f g 0 0), .int .u64 (cy f g 0 1)])) w := fun w => add64_call (f 0) (g 0) (cy f g 0 0) (rf 0 (by omega)).1 (rg 0 (by omega)).1 (cy_bd (rf.mono (by omega)) (rg.mono (by omega)) ⟨by decide, by decide⟩) w
  have s1 : ∀ w, (callFunc 42 #[.int .u64 (f 1), .int .u64 (g 1), .int .u64 (cy f g 0 1)]).run Tryd.prog w = .ok (.value (.tuple #[.int .u64 (sm f g 0 1), .int .u64 (cy f g 0 2)])) w := fun w => add64_call (f 1) (g 1) (cy f g 0 1) (rf 1 (by omega)).1 (rg 1 (by omega)).1 (cy_bd (rf.mono (by omega)) (rg.mono (by omega)) ⟨by decide, by decide⟩) w
  have s2 : ∀ w, (callFunc 42 #[.int .u64 (f 2), .int .u64 (g 2), .int .u64 (cy f g 0 2)]).run Tryd.prog w = .ok (.value (.tuple #[.int .u64 (sm f g 0 2), .int .u64 (cy f g 0 3)])) w := fun w => add64_call (f 2) (g 2) (cy f g 0 2) (rf 2 (by omega)).1 (rg 2 (by omega)).1 (cy_bd (rf.mono (by omega)) (rg.mono (by omega)) ⟨by decide, by decide⟩) w
  have s3 : ∀ w, (callFunc 42 #[.int .u64 (f 3), .int .u64 (g 3), .int .u64 (cy f g 0 3)]).run Tryd.prog w = .ok (.value (.tuple #[.int .u64 (sm f g 0 3), .int .u64 (cy f g 0 4)])) w := fun w => add64_call (f 3) (g 3) (cy f g 0 3) (rf 3 (by omega)).1 (rg 3 (by omega)).1 (cy_bd (rf.mono (by omega)) (rg.mono (by omega)) ⟨by decide, by decide⟩) w
  have V : val (sm f g 0) 4 = val f 4 + val g 4 := by
    rw [val_sm_lt rf rg ⟨by decide, by decide⟩ (by have : 2 * RI < pw 4 := by decide +kernel
                                                   omega)]
    omega
  have K : Hid _ := fun w => bring_any (sm f g 0) w (sm_rg f g 0 4) (by omega)
  rw [V] at K
  obtain ⟨B1, z1, -, -, hR⟩ := three_all w f g 24
  unfold three at B1 z1 hR
  generalize sm f g 0 = s at *
  clear V rf rg lf lg
  go_enter Tryd.func12, Tryd.ntmps12
  go_wp2_with fail
  generalize ((w.alloc (.cells #[.int .u64 (f 0), .int .u64 (f 1), .int .u64 (f 2), .int .u64 (f 3)] 24)).alloc (.cells #[.int .u64 (g 0), .int .u64 (g 1), .int .u64 (g 2), .int .u64 (g 3)] 24)).alloc (.cells #[.int .u64 0, .int .u64 0, .int .u64 0, .int .u64 0] 24) = W at *
  refine Calls.mono (K.out _) ?_
  rintro e w2 ⟨h, rfl, r2, v2, b2⟩
  have b3 := Below.up (below_one W (.cells #[.int .u64 (s 0), .int .u64 (s 1), .int .u64 (s 2), .int .u64 (s 3)] 24)) (Nat.le_refl _) b2
  obtain ⟨y0, y1, y2, y3⟩ := (hR.below b3 (by rw [z1]; omega)).cells4
  obtain ⟨x0, x1, x2, x3⟩ := (hR.below b3 (by rw [z1]; omega)).free4
  have HB : Hid _ := Below.up B1 (Nat.le_refl _) b3
  have R2 : Hid _ := r2
  have V2 : Hid _ := v2
  clear b2 b3 B1 hR r2 v2
  go_wp2
  refine bodyPost_ret (v := .agg #[.int .u64 (h 0), .int .u64 (h 1), .int .u64 (h 2), .int .u64 (h 3)]) (by simp [results, Tryd.results12, go_sem, y0, y1, y2, y3]) rfl ⟨h, rfl, R2.out, V2.out, ?_⟩
  exact below_set4 HB.out (by omega) _ _ _ _

theorem sub_more {f g : Nat → Int} (rf : Rg f 4) (rg : Rg g 4) (lf : val f 4 < RI) (lg : val g 4 < RI) (hb : bw f g 4 = 1) : val (sm (df f g) rL 0) 4 = (val f 4 - val g 4) % RI := by
  have v1 := val_df rf rg
  have v2 := val_sm (df f g) rL 0 4
  have d1 := val_bd (df_rg f g 4)
  have d2 := val_bd (sm_rg (df f g) rL 0 4)
  have c := cy_bd (df_rg f g 4) rL_rg (c := 0) ⟨by decide, by decide⟩
  have df0 := (val_bd rf).1
  have dg0 := (val_bd rg).1
  have hpw : 2 * RI < pw 4 := by decide +kernel
  rw [hb] at v1
  rw [rL_val] at v2
  have hp := RI_pos
  have e : val (sm (df f g) rL 0) 4 = val f 4 - val g 4 + RI := by
    rcases (show cy (df f g) rL 0 4 = 0 ∨ cy (df f g) rL 0 4 = 1 by omega) with h | h <;> rw [h] at v2 <;> omega
  rw [e, ← Int.add_emod_right (val f 4 - val g 4) RI]
  exact (Int.emod_eq_of_lt (by omega) (by omega)).symm
theorem sub_less {f g : Nat → Int} (rf : Rg f 4) (rg : Rg g 4) (lf : val f 4 < RI) (hb : bw f g 4 = 0) : val (df f g) 4 = (val f 4 - val g 4) % RI := by
  have v1 := val_df rf rg
  have d1 := val_bd (df_rg f g 4)
  have dg0 := (val_bd rg).1
  rw [hb] at v1
  rw [show val f 4 - val g 4 = val (df f g) 4 by omega]
  exact (Int.emod_eq_of_lt (by omega) (by omega)).symm

theorem frSub_any (f g : Nat → Int) (w : World) (rf : Rg f 4) (rg : Rg g 4) (lf : val f 4 < RI) (lg : val g 4 < RI) :
    Calls Tryd.prog 14 #[.agg #[.int .u64 (f 0), .int .u64 (f 1), .int .u64 (f 2), .int .u64 (f 3)], .agg #[.int .u64 (g 0), .int .u64 (g 1), .int .u64 (g 2), .int .u64 (g 3)]] w fun e w' => ∃ h : Nat → Int, e = .returned (.agg #[.int .u64 (h 0), .int .u64 (h 1), .int .u64 (h 2), .int .u64 (h 3)]) ∧ Rg h 4 ∧ val h 4 = (val f 4 - val g 4) % RI ∧ Below w.heap.size w w' := by
  have s0 : ∀ w, (callFunc 46 #[.int .u64 (f 0), .int .u64 (g 0), .int .u64 0]).run Tryd.prog w = .ok (.value (.tuple #[.int .u64 (df f g 0), .int .u64 (bw f g 1)])) w := fun w => sub64_call (f 0) (g 0) (bw f g 0) (rf 0 (by omega)) (rg 0 (by omega)) (bw_bd _ _ _) w
  have s1 : ∀ w, (callFunc 46 #[.int .u64 (f 1), .int .u64 (g 1), .int .u64 (bw f g 1)]).run Tryd.prog w = .ok (.value (.tuple #[.int .u64 (df f g 1), .int .u64 (bw f g 2)])) w := fun w => sub64_call (f 1) (g 1) (bw f g 1) (rf 1 (by omega)) (rg 1 (by omega)) (bw_bd _ _ _) w
  have s2 : ∀ w, (callFunc 46 #[.int .u64 (f 2), .int .u64 (g 2), .int .u64 (bw f g 2)]).run Tryd.prog w = .ok (.value (.tuple #[.int .u64 (df f g 2), .int .u64 (bw f g 3)])) w := fun w => sub64_call (f 2) (g 2) (bw f g 2) (rf 2 (by omega)) (rg 2 (by omega)) (bw_bd _ _ _) w
  have s3 : ∀ w, (callFunc 46 #[.int .u64 (f 3), .int .u64 (g 3), .int .u64 (bw f g 3)]).run Tryd.prog w = .ok (.value (.tuple #[.int .u64 (df f g 3), .int .u64 (bw f g 4)])) w := fun w => sub64_call (f 3) (g 3) (bw f g 3) (rf 3 (by omega)) (rg 3 (by omega)) (bw_bd _ _ _) w
  have hb := bw_bd f g 4
  obtain ⟨B1, z1, -, -, hR⟩ := three_all w f g 24
  unfold three at B1 z1 hR
  rcases (show bw f g 4 = 0 ∨ bw f g 4 = 1 by omega) with e | e
  · have V : Hid _ := sub_less rf rg lf e
    have R1 : Hid _ := df_rg f g 4
    rw [e] at s3
    generalize df f g = h at *
    clear rf rg lf lg hb e
    go_enter Tryd.func14, Tryd.ntmps14
    go_wp2
    refine bodyPost_ret (v := .agg #[.int .u64 (h 0), .int .u64 (h 1), .int .u64 (h 2), .int .u64 (h 3)]) (by simp [results, Tryd.results14, go_sem]) rfl ⟨h, rfl, R1.out, V.out, below_four _ _ _ _ _⟩
  · have V : Hid _ := sub_more rf rg lf lg e
    have K : Hid _ := fun w => plusR_any (df f g) w (df_rg f g 4)
    have R1 : Hid _ := sm_rg (df f g) rL 0 4
    rw [e] at s3
    generalize sm (df f g) rL 0 = h at *
    generalize df f g = s at *
    clear rf rg lf lg hb e
    go_enter Tryd.func14, Tryd.ntmps14
    go_wp2_with fail
    generalize ((w.alloc (.cells #[.int .u64 (f 0), .int .u64 (f 1), .int .u64 (f 2), .int .u64 (f 3)] 24)).alloc (.cells #[.int .u64 (g 0), .int .u64 (g 1), .int .u64 (g 2), .int .u64 (g 3)] 24)).alloc (.cells #[.int .u64 0, .int .u64 0, .int .u64 0, .int .u64 0] 24) = W at *
    refine Calls.mono (K.out _) ?_
    rintro e w2 ⟨rfl, b2⟩
    have b3 := Below.up (below_one W (.cells #[.int .u64 (s 0), .int .u64 (s 1), .int .u64 (s 2), .int .u64 (s 3)] 24)) (Nat.le_refl _) b2
    obtain ⟨y0, y1, y2, y3⟩ := (hR.below b3 (by rw [z1]; omega)).cells4
    obtain ⟨x0, x1, x2, x3⟩ := (hR.below b3 (by rw [z1]; omega)).free4
    have HB : Hid _ := Below.up B1 (Nat.le_refl _) b3
    clear b2 b3 B1 hR
    go_wp2
    refine bodyPost_ret (v := .agg #[.int .u64 (h 0), .int .u64 (h 1), .int .u64 (h 2), .int .u64 (h 3)]) (by simp [results, Tryd.results14, go_sem, y0, y1, y2, y3]) rfl ⟨h, rfl, R1.out, V.out, ?_⟩
    exact below_set4 HB.out (by omega) _ _ _ _

theorem frNeg_any (f : Nat → Int) (w : World) (rf : Rg f 4) (lf : val f 4 < RI) : Calls Tryd.prog 16 #[.agg #[.int .u64 (f 0), .int .u64 (f 1), .int .u64 (f 2), .int .u64 (f 3)]] w fun e w' => ∃ h : Nat → Int, e = .returned (.agg #[.int .u64 (h 0), .int .u64 (h 1), .int .u64 (h 2), .int .u64 (h 3)]) ∧ Rg h 4 ∧ val h 4 = (0 - val f 4) % RI ∧ Below w.heap.size w w' := by
  have K : ∀ W : World, Calls Tryd.prog 14 #[.agg #[.int .u64 0, .int .u64 0, .int .u64 0, .int .u64 0], .agg #[.int .u64 (f 0), .int .u64 (f 1), .int .u64 (f 2), .int .u64 (f 3)]] W fun e w' => ∃ h : Nat → Int, e = .returned (.agg #[.int .u64 (h 0), .int .u64 (h 1), .int .u64 (h 2), .int .u64 (h 3)]) ∧ Rg h 4 ∧ val h 4 = (0 - val f 4) % RI ∧ Below W.heap.size W w' := fun W => by
    have := frSub_any Z f W (Z_rg 4) rf (by rw [val_Z]; decide) lf
    rw [val_Z] at this
    exact this
  have HK : Hid _ := K
  clear K
  obtain ⟨B1, z1, -, hR⟩ := pair_all w f 24
  unfold pair at B1 z1 hR
  go_enter Tryd.func16, Tryd.ntmps16
  go_wp2_with fail
  generalize (w.alloc (.cells #[.int .u64 (f 0), .int .u64 (f 1), .int .u64 (f 2), .int .u64 (f 3)] 24)).alloc (.cells #[.int .u64 0, .int .u64 0, .int .u64 0, .int .u64 0] 24) = W at *
  refine Calls.mono (HK.out _) ?_
  rintro e w2 ⟨h, rfl, r2, v2, b2⟩
  obtain ⟨y0, y1, y2, y3⟩ := (hR.below b2 (by rw [z1]; omega)).cells4
  obtain ⟨x0, x1, x2, x3⟩ := (hR.below b2 (by rw [z1]; omega)).free4
  have HB : Hid _ := Below.up B1 (Nat.le_refl _) b2
  have R2 : Hid _ := r2
  have V2 : Hid _ := v2
  clear b2 B1 hR r2 v2
  go_wp2
  refine bodyPost_ret (v := .agg #[.int .u64 (h 0), .int .u64 (h 1), .int .u64 (h 2), .int .u64 (h 3)]) (by simp [results, Tryd.results16, go_sem, y0, y1, y2, y3]) rfl ⟨h, rfl, R2.out, V2.out, ?_⟩
  exact below_set4 HB.out (by omega) _ _ _ _
end Go.Proofs.YtfbdbkookbmdgaaDoor
