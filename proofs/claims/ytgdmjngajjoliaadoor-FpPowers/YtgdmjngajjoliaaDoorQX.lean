/- What the document's answers to the scalars are, as numbers: R, fr, MayR, AddR, SubR, NegR, MulR, OfR. -/
import Derived.Test.YtgdmjngajjoliaaDoorWW
import Derived.Test.YtgdmjngajjoliaaDoorQV
namespace Go.Proofs.YtgdmjngajjoliaaDoor.fpn
open Go.RowKit
attribute [local go_sem ↓] Go.wp_at_zero Go.wp_at_succ
set_option linter.unusedVariables false

theorem rL_inv : nwt (rL 0) 6 * rL 0 % B64 = 1 := by decide +kernel

theorem refR_any (w : World) : Calls Tryd.prog 26 #[] w fun e w' => e = .returned (.slice (some ⟨w.heap.size, 0, none⟩) 6 6) ∧ Below w.heap.size w w' ∧ w'.heap.size = w.heap.size + 1 ∧ Mut w' w.heap.size 0 6 rL := by
  go_enter Tryd.func26, Tryd.ntmps26
  go_wp2
  go_ret
  exact ⟨rfl, below_one _ _, World.size_alloc _ _, mut_four w rL _⟩

theorem mayR_any (f : Nat → Int) (w : World) (rf : Rg f 6) : Calls Tryd.prog 10 #[frv f] w fun e w' => e = .returned (.bool (decide (val f 6 < RI))) ∧ Below w.heap.size w w' := by
  unfold frv
  have hA := mut_four w f 24
  have B1 := below_one w (.cells #[.int .u64 (f 0), .int .u64 (f 1), .int .u64 (f 2), .int .u64 (f 3), .int .u64 (f 4), .int .u64 (f 5)] 24)
  have z1 := World.size_alloc w (.cells #[.int .u64 (f 0), .int .u64 (f 1), .int .u64 (f 2), .int .u64 (f 3), .int .u64 (f 4), .int .u64 (f 5)] 24)
  go_enter Tryd.func10, Tryd.ntmps10
  go_wp2_with fail
  generalize w.alloc (.cells #[.int .u64 (f 0), .int .u64 (f 1), .int .u64 (f 2), .int .u64 (f 3), .int .u64 (f 4), .int .u64 (f 5)] 24) = W at *
  have HA : Hid _ := hA
  have HB1 : Hid _ := B1
  have Z1 : Hid _ := z1
  clear hA B1 z1
  go_region_with (first
    | (go_at_call 26; refine Calls.mono (refR_any _) ?_; rintro e w2 ⟨rfl, b2, z2, m2⟩; have HB2 : Hid (Below W.heap.size W w2) := (by first | exact b2 | exact below_drew b2); have Z2 : Hid _ := z2; have HM2 : Hid _ := m2; clear b2 z2 m2)
    | (go_at_call 39; refine Calls.mono (below_any _ _ 6 6 6 6 f rL _ (by omega) (by omega) (AtK.below (MutK.at HA.out) HB2.out) (MutK.at HM2.out) rf rL_rg) ?_; rintro e w3 ⟨rfl, q, rfl⟩))
  all_goals
    go_wp2
    go_ret
    exact ⟨by rw [rL_val]; rfl, below_draws (Below.up HB1.out (Nat.le_refl _) HB2.out) q⟩

theorem refFr_any (p : Option Addr) (n cap : Nat) (f : Nat → Int) (w : World) (hn : n ≤ 6) (ha : At w p n f) : Calls Tryd.prog 44 #[.slice p n cap] w fun e w' => e = .returned (frv (lm f n)) ∧ Below w.heap.size w w' := by
  obtain ⟨m1, m0⟩ := mut_two w 24 24
  have hB := below_two w (.cells #[.int .u64 0, .int .u64 0, .int .u64 0, .int .u64 0, .int .u64 0, .int .u64 0] 24) (.cells #[.int .u64 0, .int .u64 0, .int .u64 0, .int .u64 0, .int .u64 0, .int .u64 0] 24)
  have ha' := ha.below hB
  go_enter Tryd.func44, Tryd.ntmps44
  go_wp2_with (refine wpList_copy_lim .u64 (by rfl) (.tmp 4) (.tmp 5) 30 30 (by rfl) 22 Tryd.underlying30 size64 (w.heap.size + 1) 0 6 6 p n cap Z f (by rfl) (by rfl) m1 ha' hn ?_; intro w4 hu4 hm4; have k4 : Mut w4 (w.heap.size + 1) 0 6 (lm f n) := hm4; obtain ⟨x0, x1, x2, x3, x4, x5⟩ := k4.cells6; obtain ⟨y0, y1, y2, y3, y4, y5⟩ := (m0.upd hu4 (by omega)).cells6; obtain ⟨z0, z1, z2, z3, z4, z5⟩ := (m0.upd hu4 (by omega)).free6; have HU : Hid _ := hu4; have HB : Hid _ := hB; clear hm4 k4 m1 m0 hu4 hB ha ha')
  refine bodyPost_ret (v := frv (lm f n)) (by simp [results, Tryd.results44, go_sem, frv, y0, y1, y2, y3, y4, y5]) rfl ⟨rfl, ?_⟩
  exact ((((((Below.trans HB.out (Upd.below HU.out (by omega))).setCell (Nat.le_refl _) _).setCell (Nat.le_refl _) _).setCell (Nat.le_refl _) _).setCell (Nat.le_refl _) _).setCell (Nat.le_refl _) _).setCell (Nat.le_refl _) _

theorem refFr4_any (p : Option Addr) (cap : Nat) (f : Nat → Int) (w : World) (ha : At w p 6 f) : Calls Tryd.prog 44 #[.slice p 6 cap] w fun e w' => e = .returned (.agg #[.int .u64 (f 0), .int .u64 (f 1), .int .u64 (f 2), .int .u64 (f 3), .int .u64 (f 4), .int .u64 (f 5)]) ∧ Below w.heap.size w w' := by
  have := refFr_any p 6 cap f w (Nat.le_refl _) ha
  rw [frv_lm] at this
  exact this

theorem addR_any (f g : Nat → Int) (w : World) (rf : Rg f 6) (rg : Rg g 6) (lf : val f 6 < RI) (lg : val g 6 < RI) :
    Calls Tryd.prog 13 #[frv f, frv g] w fun e w' => ∃ v, e = .returned v ∧ IsFr v ((val f 6 + val g 6) % RI) ∧ Below w.heap.size w w' := by
  rw [← rL_val] at lf lg ⊢
  unfold frv
  have LF : Hid _ := lf
  have LG : Hid _ := lg
  clear lf lg
  obtain ⟨B1, z1, hF, hG, hR⟩ := three_all w f g 24
  unfold three at B1 z1 hF hG hR
  go_enter Tryd.func13, Tryd.ntmps13
  go_wp2_with fail
  generalize ((w.alloc (.cells #[.int .u64 (f 0), .int .u64 (f 1), .int .u64 (f 2), .int .u64 (f 3), .int .u64 (f 4), .int .u64 (f 5)] 24)).alloc (.cells #[.int .u64 (g 0), .int .u64 (g 1), .int .u64 (g 2), .int .u64 (g 3), .int .u64 (g 4), .int .u64 (g 5)] 24)).alloc (.cells #[.int .u64 0, .int .u64 0, .int .u64 0, .int .u64 0, .int .u64 0, .int .u64 0] 24) = W at *
  have HB1 : Hid _ := B1
  have Z1 : Hid _ := z1
  have HF : Hid _ := hF
  have HG : Hid _ := hG
  have HR : Hid _ := hR
  clear B1 z1 hF hG hR
  go_region_with (first
    | (go_at_call 26; refine Calls.mono (refR_any _) ?_; rintro e w2 ⟨rfl, b2, -, m2⟩; have HB2 : Hid (Below W.heap.size W w2) := (by first | exact b2 | exact below_drew b2); have HM2 : Hid (At w2 (some ⟨W.heap.size, 0, none⟩) 6 rL) := m2.at; clear b2 m2)
    | (go_at_call 45; refine Calls.mono (plus_any _ _ _ 6 6 6 6 f g rL _ (by omega) (by omega) (AtK.below HF.out HB2.out) (AtK.below HG.out HB2.out) HM2.out rf rg rL_rg LF.out LG.out) ?_; rintro e w3 ⟨v3, rfl, fx⟩; obtain ⟨b3, p3, c3, h3, rfl, a3, r3, v3⟩ := fx.fp6; have HB3 : Hid _ := Below.up HB2.out (Nat.le_refl _) b3; have A3 : Hid _ := a3; have R3 : Hid _ := r3; have V3 : Hid _ := v3; clear b3 a3 r3 v3 fx)
    | (go_at_call 44; refine Calls.mono (refFr4_any p3 c3 h3 _ A3.out) ?_; rintro e w4 ⟨rfl, b4⟩; have b5 : Below W.heap.size W w4 := Below.up HB3.out (Nat.le_refl _) b4; obtain ⟨y0, y1, y2, y3, y4, y5⟩ := (MutK.below HR.out b5 (by rw [Z1.out]; omega)).cells6; obtain ⟨z0, z1, z2, z3, z4, z5⟩ := (MutK.below HR.out b5 (by rw [Z1.out]; omega)).free6; have HB4 : Hid _ := Below.up HB1.out (Nat.le_refl _) b5; clear b4 b5))
  all_goals
    go_wp2
    refine bodyPost_ret (v := .agg #[.int .u64 (h3 0), .int .u64 (h3 1), .int .u64 (h3 2), .int .u64 (h3 3), .int .u64 (h3 4), .int .u64 (h3 5)]) (by simp [results, Tryd.results13, go_sem, y0, y1, y2, y3, y4, y5]) rfl ⟨_, rfl, ⟨h3, rfl, R3.out, V3.out⟩, ?_⟩
    exact below_set6 HB4.out (by omega) _ _ _ _ _ _

theorem subR_any (f g : Nat → Int) (w : World) (rf : Rg f 6) (rg : Rg g 6) (lf : val f 6 < RI) (lg : val g 6 < RI) :
    Calls Tryd.prog 15 #[frv f, frv g] w fun e w' => ∃ v, e = .returned v ∧ IsFr v ((val f 6 - val g 6) % RI) ∧ Below w.heap.size w w' := by
  rw [← rL_val] at lf lg ⊢
  unfold frv
  have LF : Hid _ := lf
  have LG : Hid _ := lg
  clear lf lg
  obtain ⟨B1, z1, hF, hG, hR⟩ := three_all w f g 24
  unfold three at B1 z1 hF hG hR
  go_enter Tryd.func15, Tryd.ntmps15
  go_wp2_with fail
  generalize ((w.alloc (.cells #[.int .u64 (f 0), .int .u64 (f 1), .int .u64 (f 2), .int .u64 (f 3), .int .u64 (f 4), .int .u64 (f 5)] 24)).alloc (.cells #[.int .u64 (g 0), .int .u64 (g 1), .int .u64 (g 2), .int .u64 (g 3), .int .u64 (g 4), .int .u64 (g 5)] 24)).alloc (.cells #[.int .u64 0, .int .u64 0, .int .u64 0, .int .u64 0, .int .u64 0, .int .u64 0] 24) = W at *
  have HB1 : Hid _ := B1
  have Z1 : Hid _ := z1
  have HF : Hid _ := hF
  have HG : Hid _ := hG
  have HR : Hid _ := hR
  clear B1 z1 hF hG hR
  go_region_with (first
    | (go_at_call 26; refine Calls.mono (refR_any _) ?_; rintro e w2 ⟨rfl, b2, -, m2⟩; have HB2 : Hid (Below W.heap.size W w2) := (by first | exact b2 | exact below_drew b2); have HM2 : Hid (At w2 (some ⟨W.heap.size, 0, none⟩) 6 rL) := m2.at; clear b2 m2)
    | (go_at_call 46; refine Calls.mono (minus_any _ _ _ 6 6 6 6 f g rL _ (by omega) (by omega) (AtK.below HF.out HB2.out) (AtK.below HG.out HB2.out) HM2.out rf rg rL_rg LF.out LG.out) ?_; rintro e w3 ⟨v3, rfl, fx⟩; obtain ⟨b3, p3, c3, h3, rfl, a3, r3, v3⟩ := fx.fp6; have HB3 : Hid _ := Below.up HB2.out (Nat.le_refl _) b3; have A3 : Hid _ := a3; have R3 : Hid _ := r3; have V3 : Hid _ := v3; clear b3 a3 r3 v3 fx)
    | (go_at_call 44; refine Calls.mono (refFr4_any p3 c3 h3 _ A3.out) ?_; rintro e w4 ⟨rfl, b4⟩; have b5 : Below W.heap.size W w4 := Below.up HB3.out (Nat.le_refl _) b4; obtain ⟨y0, y1, y2, y3, y4, y5⟩ := (MutK.below HR.out b5 (by rw [Z1.out]; omega)).cells6; obtain ⟨z0, z1, z2, z3, z4, z5⟩ := (MutK.below HR.out b5 (by rw [Z1.out]; omega)).free6; have HB4 : Hid _ := Below.up HB1.out (Nat.le_refl _) b5; clear b4 b5))
  all_goals
    go_wp2
    refine bodyPost_ret (v := .agg #[.int .u64 (h3 0), .int .u64 (h3 1), .int .u64 (h3 2), .int .u64 (h3 3), .int .u64 (h3 4), .int .u64 (h3 5)]) (by simp [results, Tryd.results15, go_sem, y0, y1, y2, y3, y4, y5]) rfl ⟨_, rfl, ⟨h3, rfl, R3.out, V3.out⟩, ?_⟩
    exact below_set6 HB4.out (by omega) _ _ _ _ _ _

theorem refOf_any (n : Int) (w : World) : Calls Tryd.prog 56 #[.int .u64 n] w fun e w' => e = .returned (.agg #[.int .u64 n, .int .u64 0, .int .u64 0, .int .u64 0, .int .u64 0, .int .u64 0]) ∧ Below w.heap.size w w' := by
  go_enter Tryd.func56, Tryd.ntmps56
  go_wp2
  refine bodyPost_ret (v := .agg #[.int .u64 n, .int .u64 0, .int .u64 0, .int .u64 0, .int .u64 0, .int .u64 0]) (by simp [results, Tryd.results56, go_sem]) rfl ⟨rfl, below_one _ _⟩

theorem negR_any (f : Nat → Int) (w : World) (rf : Rg f 6) (lf : val f 6 < RI) :
    Calls Tryd.prog 17 #[frv f] w fun e w' => ∃ v, e = .returned v ∧ IsFr v ((0 - val f 6) % RI) ∧ Below w.heap.size w w' := by
  have K : ∀ W : World, Calls Tryd.prog 15 #[.agg #[.int .u64 0, .int .u64 0, .int .u64 0, .int .u64 0, .int .u64 0, .int .u64 0], .agg #[.int .u64 (f 0), .int .u64 (f 1), .int .u64 (f 2), .int .u64 (f 3), .int .u64 (f 4), .int .u64 (f 5)]] W fun e w' => ∃ v, e = .returned v ∧ IsFr v ((0 - val f 6) % RI) ∧ Below W.heap.size W w' := fun W => by
    have := subR_any Z f W (Z_rg 6) rf (by rw [val_Z]; decide) lf
    rw [val_Z] at this
    exact this
  have HK : Hid _ := K
  clear K
  unfold frv
  obtain ⟨B1, z1, -, hR⟩ := pair_all w f 24
  unfold pair at B1 z1 hR
  go_enter Tryd.func17, Tryd.ntmps17
  go_wp2_with fail
  generalize (w.alloc (.cells #[.int .u64 (f 0), .int .u64 (f 1), .int .u64 (f 2), .int .u64 (f 3), .int .u64 (f 4), .int .u64 (f 5)] 24)).alloc (.cells #[.int .u64 0, .int .u64 0, .int .u64 0, .int .u64 0, .int .u64 0, .int .u64 0] 24) = W at *
  refine Calls.mono (HK.out W) ?_
  rintro e w4 ⟨v, rfl, ⟨h3, rfl, r3, v3⟩, b5⟩
  obtain ⟨y0, y1, y2, y3, y4, y5⟩ := (hR.below b5 (by rw [z1]; omega)).cells6
  obtain ⟨z0, z1, z2, z3, z4, z5⟩ := (hR.below b5 (by rw [z1]; omega)).free6
  have HB4 : Hid _ := Below.up B1 (Nat.le_refl _) b5
  have R3 : Hid _ := r3
  have V3 : Hid _ := v3
  clear b5 r3 v3 hR B1
  go_wp2
  refine bodyPost_ret (v := .agg #[.int .u64 (h3 0), .int .u64 (h3 1), .int .u64 (h3 2), .int .u64 (h3 3), .int .u64 (h3 4), .int .u64 (h3 5)]) (by simp [results, Tryd.results17, go_sem, y0, y1, y2, y3, y4, y5]) rfl ⟨_, rfl, ⟨h3, rfl, R3.out, V3.out⟩, ?_⟩
  exact below_set6 HB4.out (by omega) _ _ _ _ _ _
end Go.Proofs.YtgdmjngajjoliaaDoor.fpn
