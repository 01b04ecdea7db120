/- The statement FpField's walk, package fr answering as it should. -/
import Derived.Test.YtgdmjngajjoliaaDoorSC
namespace Go.Proofs.YtgdmjngajjoliaaDoor.fpn
open Go.RowKit
attribute [local go_sem ↓] Go.wp_at_zero Go.wp_at_succ
set_option linter.unusedVariables false

/-- Three arrays that came in. -/
theorem tri_all (w : World) (f g h : Nat → Int) (t : TypeId) : ∀ W, W = ((w.alloc (.cells #[.int .u64 (f 0), .int .u64 (f 1), .int .u64 (f 2), .int .u64 (f 3), .int .u64 (f 4), .int .u64 (f 5)] t)).alloc (.cells #[.int .u64 (g 0), .int .u64 (g 1), .int .u64 (g 2), .int .u64 (g 3), .int .u64 (g 4), .int .u64 (g 5)] t)).alloc (.cells #[.int .u64 (h 0), .int .u64 (h 1), .int .u64 (h 2), .int .u64 (h 3), .int .u64 (h 4), .int .u64 (h 5)] t) →
    Below w.heap.size w W ∧ W.heap.size = w.heap.size + 3 ∧ Mut W w.heap.size 0 6 f ∧ Mut W (w.heap.size + 1) 0 6 g ∧ Mut W (w.heap.size + 1 + 1) 0 6 h := by
  rintro W rfl
  have m1 := mut_four w f t
  have m2 := mut_four (w.alloc (.cells #[.int .u64 (f 0), .int .u64 (f 1), .int .u64 (f 2), .int .u64 (f 3), .int .u64 (f 4), .int .u64 (f 5)] t)) g t
  rw [World.size_alloc] at m2
  have m3 := mut_four ((w.alloc (.cells #[.int .u64 (f 0), .int .u64 (f 1), .int .u64 (f 2), .int .u64 (f 3), .int .u64 (f 4), .int .u64 (f 5)] t)).alloc (.cells #[.int .u64 (g 0), .int .u64 (g 1), .int .u64 (g 2), .int .u64 (g 3), .int .u64 (g 4), .int .u64 (g 5)] t)) h t
  rw [World.size_alloc, World.size_alloc] at m3
  refine ⟨Below.up (below_two _ _ _) (Nat.le_refl _) (below_one _ _), by simp [World.size_alloc], ?_, ?_, m3⟩
  · exact (m1.below (below_one _ _) (by rw [World.size_alloc]; omega)).below (below_one _ _) (by simp [World.size_alloc]; omega)
  · exact m2.below (below_one _ _) (by simp [World.size_alloc])

theorem emodR (x : Int) : x % RI % RI = x % RI := Int.emod_emod _ _
theorem ring1 (a b c : Int) : (a + b) % RI * c % RI = (a * c % RI + b * c % RI) % RI := by rw [mul_mod_l, ← Int.add_emod, Int.add_mul]
theorem ring2 (a b c : Int) : a * (b * c % RI) % RI = (a * b % RI) * c % RI := by rw [mul_mod_r, mul_mod_l, Int.mul_assoc]
theorem ring3 (a b c : Int) : (a + (b + c) % RI) % RI = ((a + b) % RI + c) % RI := by rw [Int.add_emod_emod, Int.emod_add_emod, Int.add_assoc]
theorem ring5 (a b : Int) (h0 : 0 ≤ a) (h1 : a < RI) : ((a + b) % RI - b) % RI = a := by rw [Int.emod_sub_emod, Int.add_sub_cancel]; exact Int.emod_eq_of_lt h0 h1
theorem ring6 (a : Int) : (a + (0 - a) % RI) % RI = 0 := by rw [Int.add_emod_emod, show a + (0 - a) = 0 by omega]; rfl

theorem fpField_na {G : World → Prop} (K : FpOk G) (f g h : Nat → Int) (w : World) (hg : G w) (rf : Rg f 6) (rg : Rg g 6) (rh : Rg h 6) (la : RI ≤ val f 6) : Calls Tryd.prog 6 #[frv f, frv g, frv h] w fun e w' => e = .returned (.bool true) ∧ Below w.heap.size w w' := by
  have HK : Hid _ := K
  clear K
  have hgg := hg
  obtain ⟨b0, z0, ma, mb, mc⟩ := tri_all w f g h 24 _ rfl
  have g0 := HK.out.stay hg b0
  have RF : Hid _ := rf
  have RG : Hid _ := rg
  have RH : Hid _ := rh
  unfold frv
  go_enter Tryd.func6, Tryd.ntmps6
  go_wp2_with fail
  generalize ((w.alloc (.cells #[.int .u64 (f 0), .int .u64 (f 1), .int .u64 (f 2), .int .u64 (f 3), .int .u64 (f 4), .int .u64 (f 5)] 24)).alloc (.cells #[.int .u64 (g 0), .int .u64 (g 1), .int .u64 (g 2), .int .u64 (g 3), .int .u64 (g 4), .int .u64 (g 5)] 24)).alloc (.cells #[.int .u64 (h 0), .int .u64 (h 1), .int .u64 (h 2), .int .u64 (h 3), .int .u64 (h 4), .int .u64 (h 5)] 24) = W0 at *
  refine Calls.mono (fpBegun HK.out _ g0) ?_
  rintro e w1 ⟨rfl, b1⟩
  have c1 := Below.up b0 (Nat.le_refl _) b1
  have ma1 := ma.below b1 (by rw [z0]; omega)
  have mb1 := mb.below b1 (by rw [z0]; omega)
  have mc1 := mc.below b1 (by rw [z0]; omega)
  have lw : w.heap.size + 3 ≤ w1.heap.size := by have := b1.size; omega
  have KF : Hid _ := fun w => mayR_any f w rf
  have KG : Hid _ := fun w => mayR_any g w rg
  have KH : Hid _ := fun w => mayR_any h w rh
  unfold frv at KF KG KH
  clear ma mb mc b0 b1 z0 g0 hg rf rg rh
  rw [decide_eq_false (show ¬ val f 6 < RI by omega)] at KF
  obtain ⟨x0, x1, x2, x3, x4, x5⟩ := ma1.cells6
  go_wp2_with fail
  refine Calls.mono (KF.out _) ?_
  rintro e w2 ⟨rfl, b2⟩
  have c2 := Below.up c1 (Nat.le_refl _) b2
  have ma2 := ma1.below b2 (by have := c1.size; omega)
  have mb2 := mb1.below b2 (by have := c1.size; omega)
  have mc2 := mc1.below b2 (by have := c1.size; omega)
  have lw2 : w.heap.size + 3 ≤ w2.heap.size := by have := b2.size; omega
  clear x0 x1 x2 x3 x4 x5 ma1 mb1 mc1 b2 c1
  have BF : Hid _ := c2
  go_wp2
  go_ret
  exact ⟨rfl, BF.out⟩

theorem fpField_nb {G : World → Prop} (K : FpOk G) (f g h : Nat → Int) (w : World) (hg : G w) (rf : Rg f 6) (rg : Rg g 6) (rh : Rg h 6) (la : val f 6 < RI) (lb : RI ≤ val g 6) : Calls Tryd.prog 6 #[frv f, frv g, frv h] w fun e w' => e = .returned (.bool true) ∧ Below w.heap.size w w' := by
  have HK : Hid _ := K
  clear K
  have hgg := hg
  obtain ⟨b0, z0, ma, mb, mc⟩ := tri_all w f g h 24 _ rfl
  have g0 := HK.out.stay hg b0
  have RF : Hid _ := rf
  have RG : Hid _ := rg
  have RH : Hid _ := rh
  unfold frv
  go_enter Tryd.func6, Tryd.ntmps6
  go_wp2_with fail
  generalize ((w.alloc (.cells #[.int .u64 (f 0), .int .u64 (f 1), .int .u64 (f 2), .int .u64 (f 3), .int .u64 (f 4), .int .u64 (f 5)] 24)).alloc (.cells #[.int .u64 (g 0), .int .u64 (g 1), .int .u64 (g 2), .int .u64 (g 3), .int .u64 (g 4), .int .u64 (g 5)] 24)).alloc (.cells #[.int .u64 (h 0), .int .u64 (h 1), .int .u64 (h 2), .int .u64 (h 3), .int .u64 (h 4), .int .u64 (h 5)] 24) = W0 at *
  refine Calls.mono (fpBegun HK.out _ g0) ?_
  rintro e w1 ⟨rfl, b1⟩
  have c1 := Below.up b0 (Nat.le_refl _) b1
  have ma1 := ma.below b1 (by rw [z0]; omega)
  have mb1 := mb.below b1 (by rw [z0]; omega)
  have mc1 := mc.below b1 (by rw [z0]; omega)
  have lw : w.heap.size + 3 ≤ w1.heap.size := by have := b1.size; omega
  have KF : Hid _ := fun w => mayR_any f w rf
  have KG : Hid _ := fun w => mayR_any g w rg
  have KH : Hid _ := fun w => mayR_any h w rh
  unfold frv at KF KG KH
  clear ma mb mc b0 b1 z0 g0 hg rf rg rh
  rw [decide_eq_true la] at KF
  obtain ⟨x0, x1, x2, x3, x4, x5⟩ := ma1.cells6
  go_wp2_with fail
  refine Calls.mono (KF.out _) ?_
  rintro e w2 ⟨rfl, b2⟩
  have c2 := Below.up c1 (Nat.le_refl _) b2
  have ma2 := ma1.below b2 (by have := c1.size; omega)
  have mb2 := mb1.below b2 (by have := c1.size; omega)
  have mc2 := mc1.below b2 (by have := c1.size; omega)
  have lw2 : w.heap.size + 3 ≤ w2.heap.size := by have := b2.size; omega
  clear x0 x1 x2 x3 x4 x5 ma1 mb1 mc1 b2 c1
  rw [decide_eq_false (show ¬ val g 6 < RI by omega)] at KG
  obtain ⟨x0, x1, x2, x3, x4, x5⟩ := mb2.cells6
  go_wp2_with fail
  refine Calls.mono (KG.out _) ?_
  rintro e w3 ⟨rfl, b3⟩
  have c3 := Below.up c2 (Nat.le_refl _) b3
  have ma3 := ma2.below b3 (by have := c2.size; omega)
  have mb3 := mb2.below b3 (by have := c2.size; omega)
  have mc3 := mc2.below b3 (by have := c2.size; omega)
  have lw3 : w.heap.size + 3 ≤ w3.heap.size := by have := b3.size; omega
  clear x0 x1 x2 x3 x4 x5 ma2 mb2 mc2 b3 c2
  have BF : Hid _ := c3
  go_wp2
  go_ret
  exact ⟨rfl, BF.out⟩

theorem fpField_nc {G : World → Prop} (K : FpOk G) (f g h : Nat → Int) (w : World) (hg : G w) (rf : Rg f 6) (rg : Rg g 6) (rh : Rg h 6) (la : val f 6 < RI) (lb : val g 6 < RI) (lc : RI ≤ val h 6) : Calls Tryd.prog 6 #[frv f, frv g, frv h] w fun e w' => e = .returned (.bool true) ∧ Below w.heap.size w w' := by
  have HK : Hid _ := K
  clear K
  have hgg := hg
  obtain ⟨b0, z0, ma, mb, mc⟩ := tri_all w f g h 24 _ rfl
  have g0 := HK.out.stay hg b0
  have RF : Hid _ := rf
  have RG : Hid _ := rg
  have RH : Hid _ := rh
  unfold frv
  go_enter Tryd.func6, Tryd.ntmps6
  go_wp2_with fail
  generalize ((w.alloc (.cells #[.int .u64 (f 0), .int .u64 (f 1), .int .u64 (f 2), .int .u64 (f 3), .int .u64 (f 4), .int .u64 (f 5)] 24)).alloc (.cells #[.int .u64 (g 0), .int .u64 (g 1), .int .u64 (g 2), .int .u64 (g 3), .int .u64 (g 4), .int .u64 (g 5)] 24)).alloc (.cells #[.int .u64 (h 0), .int .u64 (h 1), .int .u64 (h 2), .int .u64 (h 3), .int .u64 (h 4), .int .u64 (h 5)] 24) = W0 at *
  refine Calls.mono (fpBegun HK.out _ g0) ?_
  rintro e w1 ⟨rfl, b1⟩
  have c1 := Below.up b0 (Nat.le_refl _) b1
  have ma1 := ma.below b1 (by rw [z0]; omega)
  have mb1 := mb.below b1 (by rw [z0]; omega)
  have mc1 := mc.below b1 (by rw [z0]; omega)
  have lw : w.heap.size + 3 ≤ w1.heap.size := by have := b1.size; omega
  have KF : Hid _ := fun w => mayR_any f w rf
  have KG : Hid _ := fun w => mayR_any g w rg
  have KH : Hid _ := fun w => mayR_any h w rh
  unfold frv at KF KG KH
  clear ma mb mc b0 b1 z0 g0 hg rf rg rh
  rw [decide_eq_true la] at KF
  obtain ⟨x0, x1, x2, x3, x4, x5⟩ := ma1.cells6
  go_wp2_with fail
  refine Calls.mono (KF.out _) ?_
  rintro e w2 ⟨rfl, b2⟩
  have c2 := Below.up c1 (Nat.le_refl _) b2
  have ma2 := ma1.below b2 (by have := c1.size; omega)
  have mb2 := mb1.below b2 (by have := c1.size; omega)
  have mc2 := mc1.below b2 (by have := c1.size; omega)
  have lw2 : w.heap.size + 3 ≤ w2.heap.size := by have := b2.size; omega
  clear x0 x1 x2 x3 x4 x5 ma1 mb1 mc1 b2 c1
  rw [decide_eq_true lb] at KG
  obtain ⟨x0, x1, x2, x3, x4, x5⟩ := mb2.cells6
  go_wp2_with fail
  refine Calls.mono (KG.out _) ?_
  rintro e w3 ⟨rfl, b3⟩
  have c3 := Below.up c2 (Nat.le_refl _) b3
  have ma3 := ma2.below b3 (by have := c2.size; omega)
  have mb3 := mb2.below b3 (by have := c2.size; omega)
  have mc3 := mc2.below b3 (by have := c2.size; omega)
  have lw3 : w.heap.size + 3 ≤ w3.heap.size := by have := b3.size; omega
  clear x0 x1 x2 x3 x4 x5 ma2 mb2 mc2 b3 c2
  rw [decide_eq_false (show ¬ val h 6 < RI by omega)] at KH
  obtain ⟨x0, x1, x2, x3, x4, x5⟩ := mc3.cells6
  go_wp2_with fail
  refine Calls.mono (KH.out _) ?_
  rintro e w4 ⟨rfl, b4⟩
  have c4 := Below.up c3 (Nat.le_refl _) b4
  have ma4 := ma3.below b4 (by have := c3.size; omega)
  have mb4 := mb3.below b4 (by have := c3.size; omega)
  have mc4 := mc3.below b4 (by have := c3.size; omega)
  have lw4 : w.heap.size + 3 ≤ w4.heap.size := by have := b4.size; omega
  clear x0 x1 x2 x3 x4 x5 ma3 mb3 mc3 b4 c3
  have BF : Hid _ := c4
  go_wp2
  go_ret
  exact ⟨rfl, BF.out⟩

end Go.Proofs.YtgdmjngajjoliaaDoor.fpn
