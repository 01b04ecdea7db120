/- Add, bring, Of, P. -/
import Derived.Test.YtgdmjngajjoliaaDoorZT
namespace Go.Proofs.YtgdmjngajjoliaaDoor.fpn
open Go.RowKit
attribute [local go_sem ↓] Go.wp_at_zero Go.wp_at_succ
set_option linter.unusedVariables false

theorem bring_any (f : Nat → Int) (w : World) (rf : Rg f 6) (h2 : val f 6 < 2 * RI) :
    Calls Tryd.prog 42 #[.agg #[.int .u64 (f 0), .int .u64 (f 1), .int .u64 (f 2), .int .u64 (f 3), .int .u64 (f 4), .int .u64 (f 5)]] w fun e w' => ∃ h : Nat → Int, e = .returned (.agg #[.int .u64 (h 0), .int .u64 (h 1), .int .u64 (h 2), .int .u64 (h 3), .int .u64 (h 4), .int .u64 (h 5)]) ∧ Rg h 6 ∧ val h 6 = val f 6 % RI ∧ Below w.heap.size w w' := by
  have v1 := lessR_val rf
  have d1 := val_bd (df_rg f rL 6)
  have d0 := val_bd rf
  have hb := bw_bd f rL 6
  have hp := RI_pos
  have K := fun k hc => bring_at f (df f rL) k (bw f rL 6) w (fun w => less_any f rL w rf rL_rg) hc
  rcases (show bw f rL 6 = 0 ∨ bw f rL 6 = 1 by omega) with e | e
  · rw [e] at v1
    refine Calls.mono (K (df f rL) (Or.inl ⟨e, rfl⟩)) ?_
    rintro e' w' ⟨rfl, b⟩
    refine ⟨_, rfl, df_rg f rL 6, ?_, b⟩
    rw [show val f 6 = val (df f rL) 6 + RI by omega, Int.add_emod_right]
    exact (Int.emod_eq_of_lt d1.1 (by omega)).symm
  · rw [e] at v1
    refine Calls.mono (K f (Or.inr ⟨e, rfl⟩)) ?_
    rintro e' w' ⟨rfl, b⟩
    exact ⟨_, rfl, rf, (Int.emod_eq_of_lt d0.1 (by omega)).symm, b⟩

set_option maxHeartbeats 4000000 in
theorem frAdd_any (f g : Nat → Int) (w : World) (rf : Rg f 6) (rg : Rg g 6) (lf : val f 6 < RI) (lg : val g 6 < RI) :
    Calls Tryd.prog 12 #[.agg #[.int .u64 (f 0), .int .u64 (f 1), .int .u64 (f 2), .int .u64 (f 3), .int .u64 (f 4), .int .u64 (f 5)], .agg #[.int .u64 (g 0), .int .u64 (g 1), .int .u64 (g 2), .int .u64 (g 3), .int .u64 (g 4), .int .u64 (g 5)]] w fun e w' => ∃ h : Nat → Int, e = .returned (.agg #[.int .u64 (h 0), .int .u64 (h 1), .int .u64 (h 2), .int .u64 (h 3), .int .u64 (h 4), .int .u64 (h 5)]) ∧ Rg h 6 ∧ val h 6 = (val f 6 + val g 6) % RI ∧ Below w.heap.size w w' := by
  have V : val (sm f g 0) 6 = val f 6 + val g 6 := by
    rw [val_sm_lt rf rg ⟨by decide, by decide⟩ (by have : 2 * RI < pw 6 := by decide +kernel
                                                   omega)]
    omega
  have K : Hid _ := fun w => bring_any (sm f g 0) w (sm_rg f g 0 6) (by omega)
  rw [V] at K
  have KP : Hid _ := fun w => plus_any f g w rf rg
  obtain ⟨B1, z1, hF, hG, hR⟩ := three_all w f g 24
  unfold three at B1 z1 hF hG hR
  generalize sm f g 0 = s at *
  clear V rf rg lf lg
  go_enter Tryd.func12, Tryd.ntmps12
  go_wp2_with fail
  generalize ((w.alloc (.cells #[.int .u64 (f 0), .int .u64 (f 1), .int .u64 (f 2), .int .u64 (f 3), .int .u64 (f 4), .int .u64 (f 5)] 24)).alloc (.cells #[.int .u64 (g 0), .int .u64 (g 1), .int .u64 (g 2), .int .u64 (g 3), .int .u64 (g 4), .int .u64 (g 5)] 24)).alloc (.cells #[.int .u64 0, .int .u64 0, .int .u64 0, .int .u64 0, .int .u64 0, .int .u64 0] 24) = W at *
  refine Calls.mono (KP.out _) ?_
  rintro e w1 ⟨rfl, b1⟩
  have hR1 := MutK.below hR b1 (by rw [z1]; omega)
  have B2 := Below.up B1 (Nat.le_refl _) b1
  clear hF hG hR b1
  go_wp2_with fail
  refine Calls.mono (K.out _) ?_
  rintro e w2 ⟨h, rfl, r2, v2, b2⟩
  have hR2 := MutK.below hR1 b2 (cell_lt (MutK.cells6 hR1).1)
  obtain ⟨y0, y1, y2, y3, y4, y5⟩ := MutK.cells6 hR2
  obtain ⟨q0, q1, q2, q3, q4, q5⟩ := MutK.free6 hR2
  have HB : Hid _ := Below.up B2 (Nat.le_refl _) b2
  have R2 : Hid _ := r2
  have V2 : Hid _ := v2
  clear b2 B1 B2 hR1 hR2 r2 v2 z1
  go_wp2
  refine bodyPost_ret (v := .agg #[.int .u64 (h 0), .int .u64 (h 1), .int .u64 (h 2), .int .u64 (h 3), .int .u64 (h 4), .int .u64 (h 5)]) (by simp [results, Tryd.results12, go_sem, y0, y1, y2, y3, y4, y5]) rfl ⟨h, rfl, R2.out, V2.out, ?_⟩
  exact below_set6 HB.out (by omega) _ _ _ _ _ _

theorem frOf_any (x : Int) (w : World) (hx : 0 ≤ x ∧ x < B64) : Calls Tryd.prog 21 #[.int .u64 x] w fun e w' => ∃ h : Nat → Int, e = .returned (.agg #[.int .u64 (h 0), .int .u64 (h 1), .int .u64 (h 2), .int .u64 (h 3), .int .u64 (h 4), .int .u64 (h 5)]) ∧ Rg h 6 ∧ val h 6 = x ∧ Below w.heap.size w w' := by
  have R1 := one_rg hx 6
  have V1 := val_one4 x
  clear hx
  go_enter Tryd.func21, Tryd.ntmps21
  go_wp2
  refine bodyPost_ret (v := .agg #[.int .u64 x, .int .u64 0, .int .u64 0, .int .u64 0, .int .u64 0, .int .u64 0]) (by simp [results, Tryd.results21, go_sem]) rfl ⟨one x, rfl, R1, V1, below_one _ _⟩

theorem frR_any (w : World) : Calls Tryd.prog 25 #[] w fun e w' => ∃ p c, e = .returned (.slice p 6 c) ∧ At w' p 6 rL ∧ 6 ≤ c ∧ c ≤ 9223372036854775807 ∧ Below w.heap.size w w' := by
  go_enter Tryd.func25, Tryd.ntmps25
  go_wp2
  go_ret
  exact ⟨_, 6, rfl, (mut_four w rL _).at, Nat.le_refl _, by decide, below_one _ _⟩

end Go.Proofs.YtgdmjngajjoliaaDoor.fpn
