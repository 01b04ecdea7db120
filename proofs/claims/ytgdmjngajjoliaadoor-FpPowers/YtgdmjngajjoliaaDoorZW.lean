/- Sub, Neg. -/
import Derived.Test.YtgdmjngajjoliaaDoorZT
namespace Go.Proofs.YtgdmjngajjoliaaDoor.fpn
open Go.RowKit
attribute [local go_sem ↓] Go.wp_at_zero Go.wp_at_succ
set_option linter.unusedVariables false

set_option maxHeartbeats 8000000 in
theorem sub_at (f g h k : Nat → Int) (c : Int) (w : World) (K : ∀ w, Calls Tryd.prog 40 #[.agg #[.int .u64 (f 0), .int .u64 (f 1), .int .u64 (f 2), .int .u64 (f 3), .int .u64 (f 4), .int .u64 (f 5)], .agg #[.int .u64 (g 0), .int .u64 (g 1), .int .u64 (g 2), .int .u64 (g 3), .int .u64 (g 4), .int .u64 (g 5)]] w fun e w' => e = .returned (.tuple #[.agg #[.int .u64 (h 0), .int .u64 (h 1), .int .u64 (h 2), .int .u64 (h 3), .int .u64 (h 4), .int .u64 (h 5)], .int .u64 c]) ∧ Below w.heap.size w w')
    (KP : ∀ w, Calls Tryd.prog 43 #[.agg #[.int .u64 (h 0), .int .u64 (h 1), .int .u64 (h 2), .int .u64 (h 3), .int .u64 (h 4), .int .u64 (h 5)], .agg #[.int .u64 (rL 0), .int .u64 (rL 1), .int .u64 (rL 2), .int .u64 (rL 3), .int .u64 (rL 4), .int .u64 (rL 5)]] w fun e w' => e = .returned (.agg #[.int .u64 (k 0), .int .u64 (k 1), .int .u64 (k 2), .int .u64 (k 3), .int .u64 (k 4), .int .u64 (k 5)]) ∧ Below w.heap.size w w') (r : Nat → Int) (hc : Hid ((c = 0 ∧ r = h) ∨ (c = 1 ∧ r = k))) :
    Calls Tryd.prog 14 #[.agg #[.int .u64 (f 0), .int .u64 (f 1), .int .u64 (f 2), .int .u64 (f 3), .int .u64 (f 4), .int .u64 (f 5)], .agg #[.int .u64 (g 0), .int .u64 (g 1), .int .u64 (g 2), .int .u64 (g 3), .int .u64 (g 4), .int .u64 (g 5)]] w fun e w' => e = .returned (.agg #[.int .u64 (r 0), .int .u64 (r 1), .int .u64 (r 2), .int .u64 (r 3), .int .u64 (r 4), .int .u64 (r 5)]) ∧ Below w.heap.size w w' := by
  have HK : Hid _ := K
  have HP : Hid _ := KP
  clear K KP
  obtain ⟨B1, z1, hF, hG, hR⟩ := three_all w f g 24
  unfold three at B1 z1 hF hG hR
  go_enter Tryd.func14, Tryd.ntmps14
  go_wp2_with fail
  generalize ((w.alloc (.cells #[.int .u64 (f 0), .int .u64 (f 1), .int .u64 (f 2), .int .u64 (f 3), .int .u64 (f 4), .int .u64 (f 5)] 24)).alloc (.cells #[.int .u64 (g 0), .int .u64 (g 1), .int .u64 (g 2), .int .u64 (g 3), .int .u64 (g 4), .int .u64 (g 5)] 24)).alloc (.cells #[.int .u64 0, .int .u64 0, .int .u64 0, .int .u64 0, .int .u64 0, .int .u64 0] 24) = W at *
  refine Calls.mono (HK.out _) ?_
  rintro e w2 ⟨rfl, b2⟩
  have bv := Below.up b2 (Nat.le_refl _) (below_one w2 (.cells #[.int .u64 (h 0), .int .u64 (h 1), .int .u64 (h 2), .int .u64 (h 3), .int .u64 (h 4), .int .u64 (h 5)] 24))
  have lt2 : w.heap.size + 2 < W.heap.size := by rw [z1]; omega
  have mv := mut_four w2 h 24
  have HRV : Hid _ := MutK.below hR bv lt2
  have B1V : Hid _ := Below.up B1 (Nat.le_refl _) bv
  obtain ⟨y0, y1, y2, y3, y4, y5⟩ := MutK.cells6 HRV.out
  obtain ⟨q0, q1, q2, q3, q4, q5⟩ := MutK.free6 HRV.out
  clear bv HK lt2 hF hG hR B1 z1 b2
  rcases hc.out with ⟨rfl, rfl⟩ | ⟨rfl, rfl⟩
  · clear HP hc mv
    go_wp2
    refine bodyPost_ret (v := .agg #[.int .u64 (r 0), .int .u64 (r 1), .int .u64 (r 2), .int .u64 (r 3), .int .u64 (r 4), .int .u64 (r 5)]) (by simp [results, Tryd.results14, go_sem, y0, y1, y2, y3, y4, y5]) rfl ⟨rfl, ?_⟩
    exact below_set6 B1V.out (by omega) _ _ _ _ _ _
  · clear hc y0 y1 y2 y3 y4 y5 q0 q1 q2 q3 q4 q5
    go_wp2_with fail
    generalize w2.alloc (.cells #[.int .u64 (h 0), .int .u64 (h 1), .int .u64 (h 2), .int .u64 (h 3), .int .u64 (h 4), .int .u64 (h 5)] 24) = V at *
    obtain ⟨v0, v1, v2, v3, v4, v5⟩ := MutK.cells6 mv
    have HV : Hid (∀ x, Below V.heap.size V x → (x.cell? ⟨w2.heap.size, 0, none⟩ = some (.int .u64 (h 0)) ∧ x.cell? ⟨w2.heap.size, 1, none⟩ = some (.int .u64 (h 1)) ∧ x.cell? ⟨w2.heap.size, 2, none⟩ = some (.int .u64 (h 2)) ∧ x.cell? ⟨w2.heap.size, 3, none⟩ = some (.int .u64 (h 3)) ∧ x.cell? ⟨w2.heap.size, 4, none⟩ = some (.int .u64 (h 4)) ∧ x.cell? ⟨w2.heap.size, 5, none⟩ = some (.int .u64 (h 5)))) := fun x hx => at6 (mv.at.below hx)
    have ltV : w.heap.size + 2 < V.heap.size := cell_lt (MutK.cells6 HRV.out).1
    clear mv
    go_region_with (first
      | (go_at_call 41; refine Calls.mono (prime_any _) ?_; rintro e x3 ⟨rfl, b3⟩; have BX : Below V.heap.size V x3 := below_drew b3; obtain ⟨e0, e1, e2, e3, e4, e5⟩ := HV.out _ BX; have BV3 : Hid _ := BX; clear BX b3)
      | (go_at_call 43; refine Calls.mono (HP.out _) ?_; rintro e x4 ⟨rfl, b4⟩; have BX : Below V.heap.size V x4 := Below.up BV3.out (Nat.le_refl _) b4; obtain ⟨y0, y1, y2, y3, y4, y5⟩ := MutK.cells6 (MutK.below HRV.out BX ltV); obtain ⟨q0, q1, q2, q3, q4, q5⟩ := MutK.free6 (MutK.below HRV.out BX ltV); have BV4 : Hid _ := BX; clear BX b4))
    all_goals
      go_wp2
      refine bodyPost_ret (v := .agg #[.int .u64 (r 0), .int .u64 (r 1), .int .u64 (r 2), .int .u64 (r 3), .int .u64 (r 4), .int .u64 (r 5)]) (by simp [results, Tryd.results14, go_sem, y0, y1, y2, y3, y4, y5]) rfl ⟨rfl, ?_⟩
      exact below_set6 (Below.up B1V.out (Nat.le_refl _) BV4.out) (by omega) _ _ _ _ _ _

theorem sub_more {f g : Nat → Int} (rf : Rg f 6) (rg : Rg g 6) (lf : val f 6 < RI) (lg : val g 6 < RI) (hb : bw f g 6 = 1) : val (sm (df f g) rL 0) 6 = (val f 6 - val g 6) % RI := by
  have v1 := val_df rf rg
  have v2 := val_sm (df f g) rL 0 6
  have d1 := val_bd (df_rg f g 6)
  have d2 := val_bd (sm_rg (df f g) rL 0 6)
  have c := cy_bd (df_rg f g 6) rL_rg (c := 0) ⟨by decide, by decide⟩
  have df0 := (val_bd rf).1
  have dg0 := (val_bd rg).1
  have hpw : 2 * RI < pw 6 := by decide +kernel
  rw [hb] at v1
  rw [rL_val] at v2
  have hp := RI_pos
  have e : val (sm (df f g) rL 0) 6 = val f 6 - val g 6 + RI := by
    rcases (show cy (df f g) rL 0 6 = 0 ∨ cy (df f g) rL 0 6 = 1 by omega) with h | h <;> rw [h] at v2 <;> omega
  rw [e, ← Int.add_emod_right (val f 6 - val g 6) RI]
  exact (Int.emod_eq_of_lt (by omega) (by omega)).symm
theorem sub_less {f g : Nat → Int} (rf : Rg f 6) (rg : Rg g 6) (lf : val f 6 < RI) (hb : bw f g 6 = 0) : val (df f g) 6 = (val f 6 - val g 6) % RI := by
  have v1 := val_df rf rg
  have d1 := val_bd (df_rg f g 6)
  have dg0 := (val_bd rg).1
  rw [hb] at v1
  rw [show val f 6 - val g 6 = val (df f g) 6 by omega]
  exact (Int.emod_eq_of_lt (by omega) (by omega)).symm

theorem frSub_any (f g : Nat → Int) (w : World) (rf : Rg f 6) (rg : Rg g 6) (lf : val f 6 < RI) (lg : val g 6 < RI) :
    Calls Tryd.prog 14 #[.agg #[.int .u64 (f 0), .int .u64 (f 1), .int .u64 (f 2), .int .u64 (f 3), .int .u64 (f 4), .int .u64 (f 5)], .agg #[.int .u64 (g 0), .int .u64 (g 1), .int .u64 (g 2), .int .u64 (g 3), .int .u64 (g 4), .int .u64 (g 5)]] w fun e w' => ∃ h : Nat → Int, e = .returned (.agg #[.int .u64 (h 0), .int .u64 (h 1), .int .u64 (h 2), .int .u64 (h 3), .int .u64 (h 4), .int .u64 (h 5)]) ∧ Rg h 6 ∧ val h 6 = (val f 6 - val g 6) % RI ∧ Below w.heap.size w w' := by
  have hb := bw_bd f g 6
  have K := fun r hc => sub_at f g (df f g) (sm (df f g) rL 0) (bw f g 6) w (fun w => less_any f g w rf rg) (fun w => plus_any (df f g) rL w (df_rg f g 6) rL_rg) r hc
  rcases (show bw f g 6 = 0 ∨ bw f g 6 = 1 by omega) with e | e
  · refine Calls.mono (K (df f g) (Or.inl ⟨e, rfl⟩)) ?_
    rintro e' w' ⟨rfl, b⟩
    exact ⟨_, rfl, df_rg f g 6, sub_less rf rg lf e, b⟩
  · refine Calls.mono (K (sm (df f g) rL 0) (Or.inr ⟨e, rfl⟩)) ?_
    rintro e' w' ⟨rfl, b⟩
    exact ⟨_, rfl, sm_rg _ _ _ _, sub_more rf rg lf lg e, b⟩

theorem frNeg_any (f : Nat → Int) (w : World) (rf : Rg f 6) (lf : val f 6 < RI) : Calls Tryd.prog 16 #[.agg #[.int .u64 (f 0), .int .u64 (f 1), .int .u64 (f 2), .int .u64 (f 3), .int .u64 (f 4), .int .u64 (f 5)]] w fun e w' => ∃ h : Nat → Int, e = .returned (.agg #[.int .u64 (h 0), .int .u64 (h 1), .int .u64 (h 2), .int .u64 (h 3), .int .u64 (h 4), .int .u64 (h 5)]) ∧ Rg h 6 ∧ val h 6 = (0 - val f 6) % RI ∧ Below w.heap.size w w' := by
  have K : ∀ W : World, Calls Tryd.prog 14 #[.agg #[.int .u64 0, .int .u64 0, .int .u64 0, .int .u64 0, .int .u64 0, .int .u64 0], .agg #[.int .u64 (f 0), .int .u64 (f 1), .int .u64 (f 2), .int .u64 (f 3), .int .u64 (f 4), .int .u64 (f 5)]] W fun e w' => ∃ h : Nat → Int, e = .returned (.agg #[.int .u64 (h 0), .int .u64 (h 1), .int .u64 (h 2), .int .u64 (h 3), .int .u64 (h 4), .int .u64 (h 5)]) ∧ Rg h 6 ∧ val h 6 = (0 - val f 6) % RI ∧ Below W.heap.size W w' := fun W => by
    have := frSub_any Z f W (Z_rg 6) rf (by rw [val_Z]; decide) lf
    rw [val_Z] at this
    exact this
  have HK : Hid _ := K
  clear K
  obtain ⟨B1, z1, -, hR⟩ := pair_all w f 24
  unfold pair at B1 z1 hR
  go_enter Tryd.func16, Tryd.ntmps16
  go_wp2_with fail
  generalize (w.alloc (.cells #[.int .u64 (f 0), .int .u64 (f 1), .int .u64 (f 2), .int .u64 (f 3), .int .u64 (f 4), .int .u64 (f 5)] 24)).alloc (.cells #[.int .u64 0, .int .u64 0, .int .u64 0, .int .u64 0, .int .u64 0, .int .u64 0] 24) = W at *
  refine Calls.mono (HK.out _) ?_
  rintro e w2 ⟨h, rfl, r2, v2, b2⟩
  obtain ⟨y0, y1, y2, y3, y4, y5⟩ := (hR.below b2 (by rw [z1]; omega)).cells6
  obtain ⟨x0, x1, x2, x3, x4, x5⟩ := (hR.below b2 (by rw [z1]; omega)).free6
  have HB : Hid _ := Below.up B1 (Nat.le_refl _) b2
  have R2 : Hid _ := r2
  have V2 : Hid _ := v2
  clear b2 B1 hR r2 v2
  go_wp2
  refine bodyPost_ret (v := .agg #[.int .u64 (h 0), .int .u64 (h 1), .int .u64 (h 2), .int .u64 (h 3), .int .u64 (h 4), .int .u64 (h 5)]) (by simp [results, Tryd.results16, go_sem, y0, y1, y2, y3, y4, y5]) rfl ⟨h, rfl, R2.out, V2.out, ?_⟩
  exact below_set6 HB.out (by omega) _ _ _ _ _ _
end Go.Proofs.YtgdmjngajjoliaaDoor.fpn
