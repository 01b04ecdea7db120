/- The statement FpAll's walk, package fr answering as it should. -/
import Derived.Test.YtgdmjngajjoliaaDoorSL
namespace Go.Proofs.YtgdmjngajjoliaaDoor.fpn
open Go.RowKit
attribute [local go_sem ↓] Go.wp_at_zero Go.wp_at_succ
set_option linter.unusedVariables false

/-- Two arrays, one behind the other. -/
theorem duo_all (w : World) (f g : Nat → Int) (t : TypeId) : ∀ W, W = (w.alloc (.cells #[.int .u64 (f 0), .int .u64 (f 1), .int .u64 (f 2), .int .u64 (f 3), .int .u64 (f 4), .int .u64 (f 5)] t)).alloc (.cells #[.int .u64 (g 0), .int .u64 (g 1), .int .u64 (g 2), .int .u64 (g 3), .int .u64 (g 4), .int .u64 (g 5)] t) →
    Below w.heap.size w W ∧ W.heap.size = w.heap.size + 2 ∧ Mut W w.heap.size 0 6 f ∧ Mut W (w.heap.size + 1) 0 6 g := by
  rintro W rfl
  have m1 := mut_four w f t
  have m2 := mut_four (w.alloc (.cells #[.int .u64 (f 0), .int .u64 (f 1), .int .u64 (f 2), .int .u64 (f 3), .int .u64 (f 4), .int .u64 (f 5)] t)) g t
  rw [World.size_alloc] at m2
  exact ⟨below_two _ _ _, by simp [World.size_alloc], m1.below (below_one _ _) (by rw [World.size_alloc]; omega), m2⟩

theorem fpAll_nt {G : World → Prop} (K : FpOk G) (f g : Nat → Int) (n : Int) (w : World) (hg : G w) (rf : Rg f 6) (rg : Rg g 6) (hn : 0 ≤ n ∧ n < B64) (la : RI ≤ val f 6) (lb : val g 6 < RI) : Calls Tryd.prog 3 #[frv f, frv g, .int .u64 n] w fun e w' => e = .returned (.bool true) ∧ Below w.heap.size w w' := by
  have HK : Hid _ := K
  clear K
  have hgg := hg
  obtain ⟨b0, z0, ma, mb⟩ := duo_all w f g 24 _ rfl
  have g0 := HK.out.stay hg b0
  have RF : Hid _ := rf
  have RG : Hid _ := rg
  have HN : Hid _ := hn
  unfold frv
  go_enter Tryd.func3, Tryd.ntmps3
  go_wp2_with fail
  generalize (w.alloc (.cells #[.int .u64 (f 0), .int .u64 (f 1), .int .u64 (f 2), .int .u64 (f 3), .int .u64 (f 4), .int .u64 (f 5)] 24)).alloc (.cells #[.int .u64 (g 0), .int .u64 (g 1), .int .u64 (g 2), .int .u64 (g 3), .int .u64 (g 4), .int .u64 (g 5)] 24) = W0 at *
  refine Calls.mono (fpBegun HK.out _ g0) ?_
  rintro e w1 ⟨rfl, b1⟩
  have c1 := Below.up b0 (Nat.le_refl _) b1
  have ma1 := ma.below b1 (by rw [z0]; omega)
  have mb1 := mb.below b1 (by rw [z0]; omega)
  have lw1 : w.heap.size + 2 ≤ w1.heap.size := by have := b1.size; omega
  have KF : Hid _ := fun w => mayR_any f w rf
  have KG : Hid _ := fun w => mayR_any g w rg
  unfold frv at KF KG
  clear ma mb b0 b1 z0 g0 hg rf rg hn
  rw [decide_eq_false (show ¬ val f 6 < RI by omega)] at KF
  rw [decide_eq_true lb] at KG
  obtain ⟨x0, x1, x2, x3, x4, x5⟩ := ma1.cells6
  go_wp2_with fail
  refine Calls.mono (KF.out _) ?_
  rintro e w2 ⟨rfl, b2⟩
  have c2 := Below.up c1 (Nat.le_refl _) b2
  have ma2 := ma1.below b2 (by omega)
  have mb2 := mb1.below b2 (by omega)
  have lw2 : w.heap.size + 2 ≤ w2.heap.size := by have := b2.size; omega
  clear x0 x1 x2 x3 x4 x5 ma1 mb1 b2 c1
  have HS : Hid (∀ x, Below w2.heap.size w2 x → (x.cell? ⟨w.heap.size, 0, none⟩ = some (.int .u64 (f 0)) ∧ x.cell? ⟨w.heap.size, 1, none⟩ = some (.int .u64 (f 1)) ∧ x.cell? ⟨w.heap.size, 2, none⟩ = some (.int .u64 (f 2)) ∧ x.cell? ⟨w.heap.size, 3, none⟩ = some (.int .u64 (f 3)) ∧ x.cell? ⟨w.heap.size, 4, none⟩ = some (.int .u64 (f 4)) ∧ x.cell? ⟨w.heap.size, 5, none⟩ = some (.int .u64 (f 5))) ∧ (x.cell? ⟨(w.heap.size + 1), 0, none⟩ = some (.int .u64 (g 0)) ∧ x.cell? ⟨(w.heap.size + 1), 1, none⟩ = some (.int .u64 (g 1)) ∧ x.cell? ⟨(w.heap.size + 1), 2, none⟩ = some (.int .u64 (g 2)) ∧ x.cell? ⟨(w.heap.size + 1), 3, none⟩ = some (.int .u64 (g 3)) ∧ x.cell? ⟨(w.heap.size + 1), 4, none⟩ = some (.int .u64 (g 4)) ∧ x.cell? ⟨(w.heap.size + 1), 5, none⟩ = some (.int .u64 (g 5)))) := fun x hx => ⟨(ma2.below hx (by omega)).cells6, (mb2.below hx (by omega)).cells6⟩
  have C7 : Hid _ := c2
  have GW : Hid _ := HK.out.stay hgg c2
  have BW : Hid (Below w2.heap.size w2 w2.drew) := (Below.refl _ _).drew
  have T1 : Hid True := trivial
  have T2 : Hid True := trivial
  have T3 : Hid True := trivial
  have T4 : Hid True := trivial
  have AA : Hid _ := ma2.at
  have AB : Hid _ := mb2.at
  clear ma2 mb2 c2 hgg
  go_wp2_with fail
  go_region_held3 (fun x => (x.cell? ⟨w.heap.size, 0, none⟩ = some (.int .u64 (f 0)) ∧ x.cell? ⟨w.heap.size, 1, none⟩ = some (.int .u64 (f 1)) ∧ x.cell? ⟨w.heap.size, 2, none⟩ = some (.int .u64 (f 2)) ∧ x.cell? ⟨w.heap.size, 3, none⟩ = some (.int .u64 (f 3)) ∧ x.cell? ⟨w.heap.size, 4, none⟩ = some (.int .u64 (f 4)) ∧ x.cell? ⟨w.heap.size, 5, none⟩ = some (.int .u64 (f 5))) ∧ (x.cell? ⟨(w.heap.size + 1), 0, none⟩ = some (.int .u64 (g 0)) ∧ x.cell? ⟨(w.heap.size + 1), 1, none⟩ = some (.int .u64 (g 1)) ∧ x.cell? ⟨(w.heap.size + 1), 2, none⟩ = some (.int .u64 (g 2)) ∧ x.cell? ⟨(w.heap.size + 1), 3, none⟩ = some (.int .u64 (g 3)) ∧ x.cell? ⟨(w.heap.size + 1), 4, none⟩ = some (.int .u64 (g 4)) ∧ x.cell? ⟨(w.heap.size + 1), 5, none⟩ = some (.int .u64 (g 5))))
    (exact HS.out _ BW.out)
    (first
    | (clear T1; go_at_call 11; refine Calls.mono (FpOk.may HK.out f _ (HK.out.stay GW.out BW.out) RF.out) ?_; rw [decide_eq_false (show ¬ val f 6 < RI by omega)]; rintro e y1 ⟨rfl, b1⟩; have BX := Below.up BW.out (Nat.le_refl _) b1; clear BW; have BW : Hid _ := BX; clear BX; clear b1)
    | (clear T2; go_at_call 10; refine Calls.mono (KF.out _) ?_; rintro e y2 ⟨rfl, b2⟩; have BX := Below.up BW.out (Nat.le_refl _) b2; clear BW; have BW : Hid _ := BX; clear BX; clear b2)
    | (clear T3; go_at_call 11; refine Calls.mono (FpOk.may HK.out g _ (HK.out.stay GW.out BW.out) RG.out) ?_; rw [decide_eq_true lb]; rintro e y3 ⟨rfl, b3⟩; have BX := Below.up BW.out (Nat.le_refl _) b3; clear BW; have BW : Hid _ := BX; clear BX; clear b3)
    | (clear T4; go_at_call 10; refine Calls.mono (KG.out _) ?_; rintro e y4 ⟨rfl, b4⟩; have BX := Below.up BW.out (Nat.le_refl _) b4; clear BW; have BW : Hid _ := BX; clear BX; clear b4)
    )
  all_goals
    go_wp2
    go_ret
    exact ⟨rfl, Below.up C7.out (Nat.le_refl _) BW.out⟩

theorem fpAll_nn {G : World → Prop} (K : FpOk G) (f g : Nat → Int) (n : Int) (w : World) (hg : G w) (rf : Rg f 6) (rg : Rg g 6) (hn : 0 ≤ n ∧ n < B64) (la : RI ≤ val f 6) (lb : RI ≤ val g 6) : Calls Tryd.prog 3 #[frv f, frv g, .int .u64 n] w fun e w' => e = .returned (.bool true) ∧ Below w.heap.size w w' := by
  have HK : Hid _ := K
  clear K
  have hgg := hg
  obtain ⟨b0, z0, ma, mb⟩ := duo_all w f g 24 _ rfl
  have g0 := HK.out.stay hg b0
  have RF : Hid _ := rf
  have RG : Hid _ := rg
  have HN : Hid _ := hn
  unfold frv
  go_enter Tryd.func3, Tryd.ntmps3
  go_wp2_with fail
  generalize (w.alloc (.cells #[.int .u64 (f 0), .int .u64 (f 1), .int .u64 (f 2), .int .u64 (f 3), .int .u64 (f 4), .int .u64 (f 5)] 24)).alloc (.cells #[.int .u64 (g 0), .int .u64 (g 1), .int .u64 (g 2), .int .u64 (g 3), .int .u64 (g 4), .int .u64 (g 5)] 24) = W0 at *
  refine Calls.mono (fpBegun HK.out _ g0) ?_
  rintro e w1 ⟨rfl, b1⟩
  have c1 := Below.up b0 (Nat.le_refl _) b1
  have ma1 := ma.below b1 (by rw [z0]; omega)
  have mb1 := mb.below b1 (by rw [z0]; omega)
  have lw1 : w.heap.size + 2 ≤ w1.heap.size := by have := b1.size; omega
  have KF : Hid _ := fun w => mayR_any f w rf
  have KG : Hid _ := fun w => mayR_any g w rg
  unfold frv at KF KG
  clear ma mb b0 b1 z0 g0 hg rf rg hn
  rw [decide_eq_false (show ¬ val f 6 < RI by omega)] at KF
  rw [decide_eq_false (show ¬ val g 6 < RI by omega)] at KG
  obtain ⟨x0, x1, x2, x3, x4, x5⟩ := ma1.cells6
  go_wp2_with fail
  refine Calls.mono (KF.out _) ?_
  rintro e w2 ⟨rfl, b2⟩
  have c2 := Below.up c1 (Nat.le_refl _) b2
  have ma2 := ma1.below b2 (by omega)
  have mb2 := mb1.below b2 (by omega)
  have lw2 : w.heap.size + 2 ≤ w2.heap.size := by have := b2.size; omega
  clear x0 x1 x2 x3 x4 x5 ma1 mb1 b2 c1
  have HS : Hid (∀ x, Below w2.heap.size w2 x → (x.cell? ⟨w.heap.size, 0, none⟩ = some (.int .u64 (f 0)) ∧ x.cell? ⟨w.heap.size, 1, none⟩ = some (.int .u64 (f 1)) ∧ x.cell? ⟨w.heap.size, 2, none⟩ = some (.int .u64 (f 2)) ∧ x.cell? ⟨w.heap.size, 3, none⟩ = some (.int .u64 (f 3)) ∧ x.cell? ⟨w.heap.size, 4, none⟩ = some (.int .u64 (f 4)) ∧ x.cell? ⟨w.heap.size, 5, none⟩ = some (.int .u64 (f 5))) ∧ (x.cell? ⟨(w.heap.size + 1), 0, none⟩ = some (.int .u64 (g 0)) ∧ x.cell? ⟨(w.heap.size + 1), 1, none⟩ = some (.int .u64 (g 1)) ∧ x.cell? ⟨(w.heap.size + 1), 2, none⟩ = some (.int .u64 (g 2)) ∧ x.cell? ⟨(w.heap.size + 1), 3, none⟩ = some (.int .u64 (g 3)) ∧ x.cell? ⟨(w.heap.size + 1), 4, none⟩ = some (.int .u64 (g 4)) ∧ x.cell? ⟨(w.heap.size + 1), 5, none⟩ = some (.int .u64 (g 5)))) := fun x hx => ⟨(ma2.below hx (by omega)).cells6, (mb2.below hx (by omega)).cells6⟩
  have C7 : Hid _ := c2
  have GW : Hid _ := HK.out.stay hgg c2
  have BW : Hid (Below w2.heap.size w2 w2.drew) := (Below.refl _ _).drew
  have T1 : Hid True := trivial
  have T2 : Hid True := trivial
  have T3 : Hid True := trivial
  have T4 : Hid True := trivial
  have AA : Hid _ := ma2.at
  have AB : Hid _ := mb2.at
  clear ma2 mb2 c2 hgg
  go_wp2_with fail
  go_region_held3 (fun x => (x.cell? ⟨w.heap.size, 0, none⟩ = some (.int .u64 (f 0)) ∧ x.cell? ⟨w.heap.size, 1, none⟩ = some (.int .u64 (f 1)) ∧ x.cell? ⟨w.heap.size, 2, none⟩ = some (.int .u64 (f 2)) ∧ x.cell? ⟨w.heap.size, 3, none⟩ = some (.int .u64 (f 3)) ∧ x.cell? ⟨w.heap.size, 4, none⟩ = some (.int .u64 (f 4)) ∧ x.cell? ⟨w.heap.size, 5, none⟩ = some (.int .u64 (f 5))) ∧ (x.cell? ⟨(w.heap.size + 1), 0, none⟩ = some (.int .u64 (g 0)) ∧ x.cell? ⟨(w.heap.size + 1), 1, none⟩ = some (.int .u64 (g 1)) ∧ x.cell? ⟨(w.heap.size + 1), 2, none⟩ = some (.int .u64 (g 2)) ∧ x.cell? ⟨(w.heap.size + 1), 3, none⟩ = some (.int .u64 (g 3)) ∧ x.cell? ⟨(w.heap.size + 1), 4, none⟩ = some (.int .u64 (g 4)) ∧ x.cell? ⟨(w.heap.size + 1), 5, none⟩ = some (.int .u64 (g 5))))
    (exact HS.out _ BW.out)
    (first
    | (clear T1; go_at_call 11; refine Calls.mono (FpOk.may HK.out f _ (HK.out.stay GW.out BW.out) RF.out) ?_; rw [decide_eq_false (show ¬ val f 6 < RI by omega)]; rintro e y1 ⟨rfl, b1⟩; have BX := Below.up BW.out (Nat.le_refl _) b1; clear BW; have BW : Hid _ := BX; clear BX; clear b1)
    | (clear T2; go_at_call 10; refine Calls.mono (KF.out _) ?_; rintro e y2 ⟨rfl, b2⟩; have BX := Below.up BW.out (Nat.le_refl _) b2; clear BW; have BW : Hid _ := BX; clear BX; clear b2)
    | (clear T3; go_at_call 11; refine Calls.mono (FpOk.may HK.out g _ (HK.out.stay GW.out BW.out) RG.out) ?_; rw [decide_eq_false (show ¬ val g 6 < RI by omega)]; rintro e y3 ⟨rfl, b3⟩; have BX := Below.up BW.out (Nat.le_refl _) b3; clear BW; have BW : Hid _ := BX; clear BX; clear b3)
    | (clear T4; go_at_call 10; refine Calls.mono (KG.out _) ?_; rintro e y4 ⟨rfl, b4⟩; have BX := Below.up BW.out (Nat.le_refl _) b4; clear BW; have BW : Hid _ := BX; clear BX; clear b4)
    )
  all_goals
    go_wp2
    go_ret
    exact ⟨rfl, Below.up C7.out (Nat.le_refl _) BW.out⟩

theorem fpAll_tn {G : World → Prop} (K : FpOk G) (f g : Nat → Int) (n : Int) (w : World) (hg : G w) (rf : Rg f 6) (rg : Rg g 6) (hn : 0 ≤ n ∧ n < B64) (la : val f 6 < RI) (lb : RI ≤ val g 6) : Calls Tryd.prog 3 #[frv f, frv g, .int .u64 n] w fun e w' => e = .returned (.bool true) ∧ Below w.heap.size w w' := by
  have HK : Hid _ := K
  clear K
  have hgg := hg
  obtain ⟨b0, z0, ma, mb⟩ := duo_all w f g 24 _ rfl
  have g0 := HK.out.stay hg b0
  have RF : Hid _ := rf
  have RG : Hid _ := rg
  have HN : Hid _ := hn
  unfold frv
  go_enter Tryd.func3, Tryd.ntmps3
  go_wp2_with fail
  generalize (w.alloc (.cells #[.int .u64 (f 0), .int .u64 (f 1), .int .u64 (f 2), .int .u64 (f 3), .int .u64 (f 4), .int .u64 (f 5)] 24)).alloc (.cells #[.int .u64 (g 0), .int .u64 (g 1), .int .u64 (g 2), .int .u64 (g 3), .int .u64 (g 4), .int .u64 (g 5)] 24) = W0 at *
  refine Calls.mono (fpBegun HK.out _ g0) ?_
  rintro e w1 ⟨rfl, b1⟩
  have c1 := Below.up b0 (Nat.le_refl _) b1
  have ma1 := ma.below b1 (by rw [z0]; omega)
  have mb1 := mb.below b1 (by rw [z0]; omega)
  have lw1 : w.heap.size + 2 ≤ w1.heap.size := by have := b1.size; omega
  have KF : Hid _ := fun w => mayR_any f w rf
  have KG : Hid _ := fun w => mayR_any g w rg
  unfold frv at KF KG
  clear ma mb b0 b1 z0 g0 hg rf rg hn
  rw [decide_eq_true la] at KF
  rw [decide_eq_false (show ¬ val g 6 < RI by omega)] at KG
  obtain ⟨x0, x1, x2, x3, x4, x5⟩ := ma1.cells6
  go_wp2_with fail
  refine Calls.mono (KF.out _) ?_
  rintro e w2 ⟨rfl, b2⟩
  have c2 := Below.up c1 (Nat.le_refl _) b2
  have ma2 := ma1.below b2 (by omega)
  have mb2 := mb1.below b2 (by omega)
  have lw2 : w.heap.size + 2 ≤ w2.heap.size := by have := b2.size; omega
  clear x0 x1 x2 x3 x4 x5 ma1 mb1 b2 c1
  obtain ⟨x0, x1, x2, x3, x4, x5⟩ := mb2.cells6
  go_wp2_with fail
  refine Calls.mono (KG.out _) ?_
  rintro e w3 ⟨rfl, b3⟩
  have c3 := Below.up c2 (Nat.le_refl _) b3
  have ma3 := ma2.below b3 (by omega)
  have mb3 := mb2.below b3 (by omega)
  have lw3 : w.heap.size + 2 ≤ w3.heap.size := by have := b3.size; omega
  clear x0 x1 x2 x3 x4 x5 ma2 mb2 b3 c2
  have HS : Hid (∀ x, Below w3.heap.size w3 x → (x.cell? ⟨w.heap.size, 0, none⟩ = some (.int .u64 (f 0)) ∧ x.cell? ⟨w.heap.size, 1, none⟩ = some (.int .u64 (f 1)) ∧ x.cell? ⟨w.heap.size, 2, none⟩ = some (.int .u64 (f 2)) ∧ x.cell? ⟨w.heap.size, 3, none⟩ = some (.int .u64 (f 3)) ∧ x.cell? ⟨w.heap.size, 4, none⟩ = some (.int .u64 (f 4)) ∧ x.cell? ⟨w.heap.size, 5, none⟩ = some (.int .u64 (f 5))) ∧ (x.cell? ⟨(w.heap.size + 1), 0, none⟩ = some (.int .u64 (g 0)) ∧ x.cell? ⟨(w.heap.size + 1), 1, none⟩ = some (.int .u64 (g 1)) ∧ x.cell? ⟨(w.heap.size + 1), 2, none⟩ = some (.int .u64 (g 2)) ∧ x.cell? ⟨(w.heap.size + 1), 3, none⟩ = some (.int .u64 (g 3)) ∧ x.cell? ⟨(w.heap.size + 1), 4, none⟩ = some (.int .u64 (g 4)) ∧ x.cell? ⟨(w.heap.size + 1), 5, none⟩ = some (.int .u64 (g 5)))) := fun x hx => ⟨(ma3.below hx (by omega)).cells6, (mb3.below hx (by omega)).cells6⟩
  have C7 : Hid _ := c3
  have GW : Hid _ := HK.out.stay hgg c3
  have BW : Hid (Below w3.heap.size w3 w3.drew) := (Below.refl _ _).drew
  have T1 : Hid True := trivial
  have T2 : Hid True := trivial
  have T3 : Hid True := trivial
  have T4 : Hid True := trivial
  have AA : Hid _ := ma3.at
  have AB : Hid _ := mb3.at
  clear ma3 mb3 c3 hgg
  go_wp2_with fail
  go_region_held3 (fun x => (x.cell? ⟨w.heap.size, 0, none⟩ = some (.int .u64 (f 0)) ∧ x.cell? ⟨w.heap.size, 1, none⟩ = some (.int .u64 (f 1)) ∧ x.cell? ⟨w.heap.size, 2, none⟩ = some (.int .u64 (f 2)) ∧ x.cell? ⟨w.heap.size, 3, none⟩ = some (.int .u64 (f 3)) ∧ x.cell? ⟨w.heap.size, 4, none⟩ = some (.int .u64 (f 4)) ∧ x.cell? ⟨w.heap.size, 5, none⟩ = some (.int .u64 (f 5))) ∧ (x.cell? ⟨(w.heap.size + 1), 0, none⟩ = some (.int .u64 (g 0)) ∧ x.cell? ⟨(w.heap.size + 1), 1, none⟩ = some (.int .u64 (g 1)) ∧ x.cell? ⟨(w.heap.size + 1), 2, none⟩ = some (.int .u64 (g 2)) ∧ x.cell? ⟨(w.heap.size + 1), 3, none⟩ = some (.int .u64 (g 3)) ∧ x.cell? ⟨(w.heap.size + 1), 4, none⟩ = some (.int .u64 (g 4)) ∧ x.cell? ⟨(w.heap.size + 1), 5, none⟩ = some (.int .u64 (g 5))))
    (exact HS.out _ BW.out)
    (first
    | (clear T1; go_at_call 11; refine Calls.mono (FpOk.may HK.out f _ (HK.out.stay GW.out BW.out) RF.out) ?_; rw [decide_eq_true la]; rintro e y1 ⟨rfl, b1⟩; have BX := Below.up BW.out (Nat.le_refl _) b1; clear BW; have BW : Hid _ := BX; clear BX; clear b1)
    | (clear T2; go_at_call 10; refine Calls.mono (KF.out _) ?_; rintro e y2 ⟨rfl, b2⟩; have BX := Below.up BW.out (Nat.le_refl _) b2; clear BW; have BW : Hid _ := BX; clear BX; clear b2)
    | (clear T3; go_at_call 11; refine Calls.mono (FpOk.may HK.out g _ (HK.out.stay GW.out BW.out) RG.out) ?_; rw [decide_eq_false (show ¬ val g 6 < RI by omega)]; rintro e y3 ⟨rfl, b3⟩; have BX := Below.up BW.out (Nat.le_refl _) b3; clear BW; have BW : Hid _ := BX; clear BX; clear b3)
    | (clear T4; go_at_call 10; refine Calls.mono (KG.out _) ?_; rintro e y4 ⟨rfl, b4⟩; have BX := Below.up BW.out (Nat.le_refl _) b4; clear BW; have BW : Hid _ := BX; clear BX; clear b4)
    )
  all_goals
    go_wp2
    go_ret
    exact ⟨rfl, Below.up C7.out (Nat.le_refl _) BW.out⟩

set_option maxHeartbeats 4000000 in
theorem fpAll_in {G : World → Prop} (K : FpOk G) (f g : Nat → Int) (n : Int) (w : World) (hg : G w) (rf : Rg f 6) (rg : Rg g 6) (hn : 0 ≤ n ∧ n < B64) (la : val f 6 < RI) (lb : val g 6 < RI) : Calls Tryd.prog 3 #[frv f, frv g, .int .u64 n] w fun e w' => e = .returned (.bool true) ∧ Below w.heap.size w w' := by
  have HK : Hid _ := K
  clear K
  have hgg := hg
  obtain ⟨b0, z0, ma, mb⟩ := duo_all w f g 24 _ rfl
  have g0 := HK.out.stay hg b0
  have RF : Hid _ := rf
  have RG : Hid _ := rg
  have HN : Hid _ := hn
  unfold frv
  go_enter Tryd.func3, Tryd.ntmps3
  go_wp2_with fail
  generalize (w.alloc (.cells #[.int .u64 (f 0), .int .u64 (f 1), .int .u64 (f 2), .int .u64 (f 3), .int .u64 (f 4), .int .u64 (f 5)] 24)).alloc (.cells #[.int .u64 (g 0), .int .u64 (g 1), .int .u64 (g 2), .int .u64 (g 3), .int .u64 (g 4), .int .u64 (g 5)] 24) = W0 at *
  refine Calls.mono (fpBegun HK.out _ g0) ?_
  rintro e w1 ⟨rfl, b1⟩
  have c1 := Below.up b0 (Nat.le_refl _) b1
  have ma1 := ma.below b1 (by rw [z0]; omega)
  have mb1 := mb.below b1 (by rw [z0]; omega)
  have lw1 : w.heap.size + 2 ≤ w1.heap.size := by have := b1.size; omega
  have KF : Hid _ := fun w => mayR_any f w rf
  have KG : Hid _ := fun w => mayR_any g w rg
  unfold frv at KF KG
  clear ma mb b0 b1 z0 g0 hg rf rg hn
  rw [decide_eq_true la] at KF
  rw [decide_eq_true lb] at KG
  have LA : Hid _ := la
  have LB : Hid _ := lb
  have KS : Hid _ := subR_any f g
  have KN : Hid _ := negR_any f
  unfold frv at KS KN
  obtain ⟨x0, x1, x2, x3, x4, x5⟩ := ma1.cells6
  go_wp2_with fail
  refine Calls.mono (KF.out _) ?_
  rintro e w2 ⟨rfl, b2⟩
  have c2 := Below.up c1 (Nat.le_refl _) b2
  have ma2 := ma1.below b2 (by omega)
  have mb2 := mb1.below b2 (by omega)
  have lw2 : w.heap.size + 2 ≤ w2.heap.size := by have := b2.size; omega
  clear x0 x1 x2 x3 x4 x5 ma1 mb1 b2 c1
  obtain ⟨x0, x1, x2, x3, x4, x5⟩ := mb2.cells6
  go_wp2_with fail
  refine Calls.mono (KG.out _) ?_
  rintro e w3 ⟨rfl, b3⟩
  have c3 := Below.up c2 (Nat.le_refl _) b3
  have ma3 := ma2.below b3 (by omega)
  have mb3 := mb2.below b3 (by omega)
  have lw3 : w.heap.size + 2 ≤ w3.heap.size := by have := b3.size; omega
  clear x0 x1 x2 x3 x4 x5 ma2 mb2 b3 c2
  have HS : Hid (∀ x, Below w3.heap.size w3 x → (x.cell? ⟨w.heap.size, 0, none⟩ = some (.int .u64 (f 0)) ∧ x.cell? ⟨w.heap.size, 1, none⟩ = some (.int .u64 (f 1)) ∧ x.cell? ⟨w.heap.size, 2, none⟩ = some (.int .u64 (f 2)) ∧ x.cell? ⟨w.heap.size, 3, none⟩ = some (.int .u64 (f 3)) ∧ x.cell? ⟨w.heap.size, 4, none⟩ = some (.int .u64 (f 4)) ∧ x.cell? ⟨w.heap.size, 5, none⟩ = some (.int .u64 (f 5))) ∧ (x.cell? ⟨(w.heap.size + 1), 0, none⟩ = some (.int .u64 (g 0)) ∧ x.cell? ⟨(w.heap.size + 1), 1, none⟩ = some (.int .u64 (g 1)) ∧ x.cell? ⟨(w.heap.size + 1), 2, none⟩ = some (.int .u64 (g 2)) ∧ x.cell? ⟨(w.heap.size + 1), 3, none⟩ = some (.int .u64 (g 3)) ∧ x.cell? ⟨(w.heap.size + 1), 4, none⟩ = some (.int .u64 (g 4)) ∧ x.cell? ⟨(w.heap.size + 1), 5, none⟩ = some (.int .u64 (g 5)))) := fun x hx => ⟨(ma3.below hx (by omega)).cells6, (mb3.below hx (by omega)).cells6⟩
  have C7 : Hid _ := c3
  have GW : Hid _ := HK.out.stay hgg c3
  have BW : Hid (Below w3.heap.size w3 w3.drew) := (Below.refl _ _).drew
  have T1 : Hid True := trivial
  have T2 : Hid True := trivial
  have T3 : Hid True := trivial
  have T4 : Hid True := trivial
  have T5 : Hid True := trivial
  have T6 : Hid True := trivial
  have T7 : Hid True := trivial
  have T8 : Hid True := trivial
  have T9 : Hid True := trivial
  have T10 : Hid True := trivial
  have T11 : Hid True := trivial
  have T12 : Hid True := trivial
  have T13 : Hid True := trivial
  have T14 : Hid True := trivial
  have T15 : Hid True := trivial
  have T16 : Hid True := trivial
  have AA : Hid _ := ma3.at
  have AB : Hid _ := mb3.at
  clear ma3 mb3 c3 hgg
  go_wp2_with fail
  go_region_held3 (fun x => (x.cell? ⟨w.heap.size, 0, none⟩ = some (.int .u64 (f 0)) ∧ x.cell? ⟨w.heap.size, 1, none⟩ = some (.int .u64 (f 1)) ∧ x.cell? ⟨w.heap.size, 2, none⟩ = some (.int .u64 (f 2)) ∧ x.cell? ⟨w.heap.size, 3, none⟩ = some (.int .u64 (f 3)) ∧ x.cell? ⟨w.heap.size, 4, none⟩ = some (.int .u64 (f 4)) ∧ x.cell? ⟨w.heap.size, 5, none⟩ = some (.int .u64 (f 5))) ∧ (x.cell? ⟨(w.heap.size + 1), 0, none⟩ = some (.int .u64 (g 0)) ∧ x.cell? ⟨(w.heap.size + 1), 1, none⟩ = some (.int .u64 (g 1)) ∧ x.cell? ⟨(w.heap.size + 1), 2, none⟩ = some (.int .u64 (g 2)) ∧ x.cell? ⟨(w.heap.size + 1), 3, none⟩ = some (.int .u64 (g 3)) ∧ x.cell? ⟨(w.heap.size + 1), 4, none⟩ = some (.int .u64 (g 4)) ∧ x.cell? ⟨(w.heap.size + 1), 5, none⟩ = some (.int .u64 (g 5))))
    (exact HS.out _ BW.out)
    (first
    | (clear T1; go_at_call 12; refine Calls.mono (FpOk.add HK.out f g _ (HK.out.stay GW.out BW.out) RF.out RG.out LA.out LB.out) ?_; rintro e y1 ⟨s1, rfl, r1, v1, b1⟩; have BX := Below.up BW.out (Nat.le_refl _) b1; clear BW; have BW : Hid _ := BX; clear BX; have R1 : Hid _ := r1; have V1 : Hid _ := v1; clear b1 r1 v1)
    | (clear T2; go_at_call 13; refine Calls.mono (addR_agg f g _ RF.out RG.out LA.out LB.out) ?_; rintro e y2 ⟨s2, rfl, r2, v2, b2⟩; have BX := Below.up BW.out (Nat.le_refl _) b2; clear BW; have BW : Hid _ := BX; clear BX; have E1 := eq_yes R1.out r2 (V1.out.trans v2.symm); clear b2 r2 v2)
    | (clear T3; go_at_call 14; refine Calls.mono (FpOk.sub HK.out f g _ (HK.out.stay GW.out BW.out) RF.out RG.out LA.out LB.out) ?_; rintro e y3 ⟨s3, rfl, r3, v3, b3⟩; have BX := Below.up BW.out (Nat.le_refl _) b3; clear BW; have BW : Hid _ := BX; clear BX; have R3 : Hid _ := r3; have V3 : Hid _ := v3; clear b3 r3 v3)
    | (clear T4; go_at_call 15; refine Calls.mono (KS.out _ RF.out RG.out LA.out LB.out) ?_; rintro e y4 ⟨vv4, rfl, ⟨s4, rfl, r4, v4⟩, b4⟩; have BX := Below.up BW.out (Nat.le_refl _) b4; clear BW; have BW : Hid _ := BX; clear BX; have E2 := eq_yes R3.out r4 (V3.out.trans v4.symm); clear b4 r4 v4)
    | (clear T5; go_at_call 16; refine Calls.mono (FpOk.neg HK.out f _ (HK.out.stay GW.out BW.out) RF.out LA.out) ?_; rintro e y5 ⟨s5, rfl, r5, v5, b5⟩; have BX := Below.up BW.out (Nat.le_refl _) b5; clear BW; have BW : Hid _ := BX; clear BX; have R5 : Hid _ := r5; have V5 : Hid _ := v5; clear b5 r5 v5)
    | (clear T6; go_at_call 17; refine Calls.mono (KN.out _ RF.out LA.out) ?_; rintro e y6 ⟨vv6, rfl, ⟨s6, rfl, r6, v6⟩, b6⟩; have BX := Below.up BW.out (Nat.le_refl _) b6; clear BW; have BW : Hid _ := BX; clear BX; have E3 := eq_yes R5.out r6 (V5.out.trans v6.symm); clear b6 r6 v6)
    | (clear T7; go_at_call 18; refine Calls.mono (FpOk.mul HK.out f g _ (HK.out.stay GW.out BW.out) RF.out RG.out LA.out LB.out) ?_; rintro e y7 ⟨s7, rfl, r7, v7, b7⟩; have BX := Below.up BW.out (Nat.le_refl _) b7; clear BW; have BW : Hid _ := BX; clear BX; have R7 : Hid _ := r7; have V7 : Hid _ := v7; clear b7 r7 v7)
    | (clear T8; go_at_call 20; refine Calls.mono (refTimes_any (some ⟨w.heap.size, 0, none⟩) (some ⟨w.heap.size + 1, 0, none⟩) 6 6 6 6 f g _ (AtK.below AA.out BW.out) (AtK.below AB.out BW.out) RF.out RG.out (by omega) (by omega)) ?_; rintro e y8 ⟨vs, rfl, b8, ps, ns, cs, hs, rfl, o1, o2, o3, asm, rs, -, es⟩; have BX := Below.up BW.out (Nat.le_refl _) b8; clear BW; have BW : Hid _ := BX; clear BX; have AS : Hid _ := asm; have RS : Hid _ := rs; have ES : Hid _ := es; clear b8 asm rs es)
    | (clear T9; go_at_call 19; refine Calls.mono (lawRest_any ps ns cs hs _ o1 o2 AS.out RS.out (by omega)) ?_; rintro e y9 ⟨s9, rfl, r9, v9, b9⟩; have BX := Below.up BW.out (Nat.le_refl _) b9; clear BW; have BW : Hid _ := BX; clear BX; have E4 := eq_yes R7.out r9 (by rw [V7.out, v9, ES.out]); clear b9 r9 v9 AS RS ES)
    | (clear T10; go_at_call 21; refine Calls.mono (FpOk.of HK.out n _ (HK.out.stay GW.out BW.out) HN.out) ?_; rintro e y10 ⟨s10, rfl, r10, v10, b10⟩; have BX := Below.up BW.out (Nat.le_refl _) b10; clear BW; have BW : Hid _ := BX; clear BX; have E5 := eq_one r10 HN.out v10; clear b10 r10 v10)
    | (clear T11; go_at_call 22; refine Calls.mono (FpOk.great HK.out f _ (HK.out.stay GW.out BW.out) RF.out LA.out) ?_; rintro e y11 ⟨rfl, b11⟩; have BX := Below.up BW.out (Nat.le_refl _) b11; clear BW; have BW : Hid _ := BX; clear BX; clear b11)
    | (clear T12; go_at_call 23; refine Calls.mono (greatP_any f _ RF.out) ?_; rintro e y12 ⟨rfl, b12⟩; have BX := Below.up BW.out (Nat.le_refl _) b12; clear BW; have BW : Hid _ := BX; clear BX; clear b12)
    | (clear T13; go_at_call 11; refine Calls.mono (FpOk.may HK.out f _ (HK.out.stay GW.out BW.out) RF.out) ?_; rw [decide_eq_true LA.out]; rintro e y13 ⟨rfl, b13⟩; have BX := Below.up BW.out (Nat.le_refl _) b13; clear BW; have BW : Hid _ := BX; clear BX; clear b13)
    | (clear T14; go_at_call 25; refine Calls.mono (FpOk.r HK.out _ (HK.out.stay GW.out BW.out)) ?_; rintro e y14 ⟨pr, cr, rfl, ar, q1, q2, b14⟩; have BX := Below.up BW.out (Nat.le_refl _) b14; clear BW; have BW : Hid _ := BX; clear BX; have AR : Hid _ := ar; clear b14 ar)
    | (clear T15; go_at_call 26; refine Calls.mono (refR_any _) ?_; rintro e y15 ⟨rfl, b15, -, m15⟩; have BX := Below.up BW.out (Nat.le_refl _) b15; clear BW; have BW : Hid _ := BX; clear BX; have AR2 : Hid _ := AtK.below AR.out b15; have AR3 : Hid _ := m15.at; clear b15 m15)
    | (clear T16; go_at_call 24; have kc := refCompare_any pr (some ⟨y14.heap.size, 0, none⟩) 6 6 cr 6 rL rL y15 q1 q2 (by omega) (by omega) AR2.out AR3.out rL_rg rL_rg (by omega) (by omega); rw [ord_eq rfl] at kc; refine Calls.mono kc ?_; rintro e y16 ⟨rfl, b16⟩; have BX := Below.up BW.out (Nat.le_refl _) b16; clear BW; have BW : Hid _ := BX; clear BX; clear b16 kc)
    )
  all_goals
    go_wp2
    go_ret
    exact ⟨rfl, Below.up C7.out (Nat.le_refl _) BW.out⟩

theorem fpAll_walk {G : World → Prop} (K : FpOk G) (f g : Nat → Int) (n : Int) (w : World) (hg : G w) (rf : Rg f 6) (rg : Rg g 6) (hn : 0 ≤ n ∧ n < B64) : Calls Tryd.prog 3 #[frv f, frv g, .int .u64 n] w fun e w' => e = .returned (.bool true) ∧ Below w.heap.size w w' := by
  by_cases la : val f 6 < RI
  · by_cases lb : val g 6 < RI
    · exact fpAll_in K f g n w hg rf rg hn la lb
    · exact fpAll_tn K f g n w hg rf rg hn la (by omega)
  · by_cases lb : val g 6 < RI
    · exact fpAll_nt K f g n w hg rf rg hn (by omega) lb
    · exact fpAll_nn K f g n w hg rf rg hn (by omega) (by omega)
end Go.Proofs.YtgdmjngajjoliaaDoor.fpn
