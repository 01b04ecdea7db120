/- The statement FpBytes's walk, package fr answering as it should. -/
import Derived.Test.YtgdmjngajjoliaaDoorSP
namespace Go.Proofs.YtgdmjngajjoliaaDoor.fpn
open Go.RowKit
attribute [local go_sem ↓] Go.wp_at_zero Go.wp_at_succ
set_option linter.unusedVariables false

theorem fpBytes_long {G : World → Prop} (K : FpOk G) (f : Nat → Int) (p : Option Addr) (n c : Nat) (g : Nat → Int) (w : World) (hg : G w) (rf : Rg f 6) (hb : AtK .u8 w p n g) (rb : ∀ j, j < n → 0 ≤ g j ∧ g j < 256) (l1 : n ≤ c) (l2 : c ≤ 9223372036854775807) (hl : 100 < n) : Calls Tryd.prog 5 #[frv f, .slice p n c] w fun e w' => e = .returned (.bool true) ∧ Below w.heap.size w w' := by
  have HK : Hid _ := K
  clear K
  have hgg := hg
  have ma := mut_four w f 24
  have b0 := below_one w (.cells #[.int .u64 (f 0), .int .u64 (f 1), .int .u64 (f 2), .int .u64 (f 3), .int .u64 (f 4), .int .u64 (f 5)] 24)
  have z0 := World.size_alloc w (.cells #[.int .u64 (f 0), .int .u64 (f 1), .int .u64 (f 2), .int .u64 (f 3), .int .u64 (f 4), .int .u64 (f 5)] 24)
  have g0 := HK.out.stay hg b0
  have RF : Hid _ := rf
  unfold frv
  go_enter Tryd.func5, Tryd.ntmps5
  go_wp2_with fail
  generalize w.alloc (.cells #[.int .u64 (f 0), .int .u64 (f 1), .int .u64 (f 2), .int .u64 (f 3), .int .u64 (f 4), .int .u64 (f 5)] 24) = W0 at *
  refine Calls.mono (fpBegun HK.out _ g0) ?_
  rintro e w1 ⟨rfl, b1⟩
  have ma1 := ma.below b1 (by rw [z0]; omega)
  obtain ⟨x0, x1, x2, x3, x4, x5⟩ := ma1.cells6
  have MA : Hid _ := ma1
  have B1 : Hid _ := Below.up b0 (Nat.le_refl _) b1
  have KM : Hid _ := fun w => mayR_any f w rf
  unfold frv at KM
  clear ma ma1 b0 b1 z0 g0 hg rf
  go_wp2
  go_ret
  exact ⟨rfl, B1.out⟩

theorem fpBytes_not {G : World → Prop} (K : FpOk G) (f : Nat → Int) (p : Option Addr) (n c : Nat) (g : Nat → Int) (w : World) (hg : G w) (rf : Rg f 6) (hb : AtK .u8 w p n g) (rb : ∀ j, j < n → 0 ≤ g j ∧ g j < 256) (l1 : n ≤ c) (l2 : c ≤ 9223372036854775807) (hn : n ≤ 100) (lf : RI ≤ val f 6) : Calls Tryd.prog 5 #[frv f, .slice p n c] w fun e w' => e = .returned (.bool true) ∧ Below w.heap.size w w' := by
  have hn0 : ¬ 100 < (n : Int) := by omega
  have HK : Hid _ := K
  clear K
  have hgg := hg
  have ma := mut_four w f 24
  have b0 := below_one w (.cells #[.int .u64 (f 0), .int .u64 (f 1), .int .u64 (f 2), .int .u64 (f 3), .int .u64 (f 4), .int .u64 (f 5)] 24)
  have z0 := World.size_alloc w (.cells #[.int .u64 (f 0), .int .u64 (f 1), .int .u64 (f 2), .int .u64 (f 3), .int .u64 (f 4), .int .u64 (f 5)] 24)
  have g0 := HK.out.stay hg b0
  have RF : Hid _ := rf
  unfold frv
  go_enter Tryd.func5, Tryd.ntmps5
  go_wp2_with fail
  generalize w.alloc (.cells #[.int .u64 (f 0), .int .u64 (f 1), .int .u64 (f 2), .int .u64 (f 3), .int .u64 (f 4), .int .u64 (f 5)] 24) = W0 at *
  refine Calls.mono (fpBegun HK.out _ g0) ?_
  rintro e w1 ⟨rfl, b1⟩
  have ma1 := ma.below b1 (by rw [z0]; omega)
  obtain ⟨x0, x1, x2, x3, x4, x5⟩ := ma1.cells6
  have MA : Hid _ := ma1
  have B1 : Hid _ := Below.up b0 (Nat.le_refl _) b1
  have KM : Hid _ := fun w => mayR_any f w rf
  unfold frv at KM
  clear ma ma1 b0 b1 z0 g0 hg rf
  rw [decide_eq_false (show ¬ val f 6 < RI by omega)] at KM
  go_wp2_with fail
  refine Calls.mono (KM.out _) ?_
  rintro e w2 ⟨rfl, b2⟩
  have BF : Hid _ := Below.up B1.out (Nat.le_refl _) b2
  clear b2 lf
  go_wp2
  go_ret
  exact ⟨rfl, BF.out⟩

set_option maxHeartbeats 4000000 in
theorem fpBytes_in {G : World → Prop} (K : FpOk G) (f : Nat → Int) (p : Option Addr) (n c : Nat) (g : Nat → Int) (w : World) (hg : G w) (rf : Rg f 6) (hb : AtK .u8 w p n g) (rb : ∀ j, j < n → 0 ≤ g j ∧ g j < 256) (l1 : n ≤ c) (l2 : c ≤ 9223372036854775807) (hn : n ≤ 100) (lf : val f 6 < RI) (k X : Int) (KT : ∀ W, G W → AtK .u8 W p n g → Calls Tryd.prog 33 #[.slice p n c] W fun e w' => ∃ h : Nat → Int, e = .returned (.tuple #[.agg #[.int .u64 (h 0), .int .u64 (h 1), .int .u64 (h 2), .int .u64 (h 3), .int .u64 (h 4), .int .u64 (h 5)], .int .i64 k]) ∧ Rg h 6 ∧ val h 6 = X ∧ Below W.heap.size W w') (KR : ∀ W, AtK .u8 W p n g → Calls Tryd.prog 34 #[.slice p n c] W fun e w' => ∃ h : Nat → Int, e = .returned (.tuple #[.agg #[.int .u64 (h 0), .int .u64 (h 1), .int .u64 (h 2), .int .u64 (h 3), .int .u64 (h 4), .int .u64 (h 5)], .int .i64 k]) ∧ Rg h 6 ∧ val h 6 = X ∧ Below W.heap.size W w') : Calls Tryd.prog 5 #[frv f, .slice p n c] w fun e w' => e = .returned (.bool true) ∧ Below w.heap.size w w' := by
  have hn0 : ¬ 100 < (n : Int) := by omega
  have HT : Hid _ := KT
  have HR : Hid _ := KR
  clear KT KR
  have HK : Hid _ := K
  clear K
  have hgg := hg
  have ma := mut_four w f 24
  have b0 := below_one w (.cells #[.int .u64 (f 0), .int .u64 (f 1), .int .u64 (f 2), .int .u64 (f 3), .int .u64 (f 4), .int .u64 (f 5)] 24)
  have z0 := World.size_alloc w (.cells #[.int .u64 (f 0), .int .u64 (f 1), .int .u64 (f 2), .int .u64 (f 3), .int .u64 (f 4), .int .u64 (f 5)] 24)
  have g0 := HK.out.stay hg b0
  have RF : Hid _ := rf
  unfold frv
  go_enter Tryd.func5, Tryd.ntmps5
  go_wp2_with fail
  generalize w.alloc (.cells #[.int .u64 (f 0), .int .u64 (f 1), .int .u64 (f 2), .int .u64 (f 3), .int .u64 (f 4), .int .u64 (f 5)] 24) = W0 at *
  refine Calls.mono (fpBegun HK.out _ g0) ?_
  rintro e w1 ⟨rfl, b1⟩
  have ma1 := ma.below b1 (by rw [z0]; omega)
  obtain ⟨x0, x1, x2, x3, x4, x5⟩ := ma1.cells6
  have MA : Hid _ := ma1
  have B1 : Hid _ := Below.up b0 (Nat.le_refl _) b1
  have KM : Hid _ := fun w => mayR_any f w rf
  unfold frv at KM
  clear ma ma1 b0 b1 z0 g0 hg rf
  rw [decide_eq_true lf] at KM
  go_wp2_with fail
  refine Calls.mono (KM.out _) ?_
  rintro e w2 ⟨rfl, b2⟩
  have LF : Hid _ := lf
  have ma2 := MutK.below MA.out b2 (cell_lt x0)
  have bl2 : w.heap.size < w2.heap.size := cell_lt ma2.cells6.1
  have c2 := Below.up B1.out (Nat.le_refl _) b2
  have g2 := HK.out.stay hgg c2
  clear b2 lf x0 x1 x2 x3 x4 x5 MA B1
  go_wp2_with fail
  refine Calls.mono (HT.out _ g2 (hb.below c2)) ?_
  rintro e w3 ⟨h3, rfl, r3, v3, b3⟩
  have a3 := below_one w3 (.cells #[.int .u64 (h3 0), .int .u64 (h3 1), .int .u64 (h3 2), .int .u64 (h3 3), .int .u64 (h3 4), .int .u64 (h3 5)] 24)
  have z3 := World.size_alloc w3 (.cells #[.int .u64 (h3 0), .int .u64 (h3 1), .int .u64 (h3 2), .int .u64 (h3 3), .int .u64 (h3 4), .int .u64 (h3 5)] 24)
  have m3 := mut_four w3 h3 24
  have lw3 : w.heap.size < w3.heap.size := by have := b3.size; omega
  have ma3 := (ma2.below b3 bl2).below a3 lw3
  have c3 := Below.up (Below.up c2 (Nat.le_refl _) b3) (Nat.le_refl _) a3
  clear b3 a3 c2 g2 ma2 bl2
  go_wp2_with fail
  generalize w3.alloc (.cells #[.int .u64 (h3 0), .int .u64 (h3 1), .int .u64 (h3 2), .int .u64 (h3 3), .int .u64 (h3 4), .int .u64 (h3 5)] 24) = W3 at *
  refine Calls.mono (HR.out _ (hb.below c3)) ?_
  rintro e w4 ⟨h4, rfl, r4, v4, b4⟩
  have E1 := eq_yes r3 r4 (v3.trans v4.symm)
  have a4 := below_one w4 (.cells #[.int .u64 (h4 0), .int .u64 (h4 1), .int .u64 (h4 2), .int .u64 (h4 3), .int .u64 (h4 4), .int .u64 (h4 5)] 24)
  have z4 := World.size_alloc w4 (.cells #[.int .u64 (h4 0), .int .u64 (h4 1), .int .u64 (h4 2), .int .u64 (h4 3), .int .u64 (h4 4), .int .u64 (h4 5)] 24)
  have m4 := mut_four w4 h4 24
  have lw4 : w3.heap.size < w4.heap.size := by have := b4.size; omega
  have ma4 := (ma3.below b4 (by rw [z3]; omega)).below a4 (by omega)
  have m34 := (m3.below b4 (by rw [z3]; omega)).below a4 (by omega)
  have c4 := Below.up (Below.up c3 (Nat.le_refl _) b4) (Nat.le_refl _) a4
  have g4 := HK.out.stay hgg c4
  obtain ⟨x0, x1, x2, x3, x4, x5⟩ := ma4.cells6
  clear b4 a4 c3 ma3 m3 z3
  go_wp2_with fail
  generalize w4.alloc (.cells #[.int .u64 (h4 0), .int .u64 (h4 1), .int .u64 (h4 2), .int .u64 (h4 3), .int .u64 (h4 4), .int .u64 (h4 5)] 24) = W4 at *
  refine Calls.mono (FpOk.put HK.out f _ g4 RF.out LF.out) ?_
  rintro e w5 ⟨p5, k5, rfl, a5, q1, q2, b5⟩
  have ma5 := ma4.below b5 (by rw [z4]; omega)
  have m35 := m34.below b5 (by rw [z4]; omega)
  have m45 := m4.below b5 (by rw [z4]; omega)
  have c5 := Below.up c4 (Nat.le_refl _) b5
  have g5 := HK.out.stay hgg c5
  have lw5 : w4.heap.size < w5.heap.size := by have := b5.size; omega
  have KZ : Hid _ := FpOk.take HK.out p5 k5 _ w5 g5 q1 q2 a5 (fun j _ => byt_rg f 6 (48 - 1 - j)) (by rw [bv_put RF.out]; exact LF.out)
  rw [bv_put RF.out] at KZ
  clear x0 x1 x2 x3 x4 x5 ma4 m34 m4 c4 g4 b5 z4 g5 a5 q1 q2
  go_wp2_with fail
  refine Calls.mono KZ.out ?_
  rintro e w6 ⟨h6, rfl, r6, v6, b6⟩
  have E2 := eq_yes r6 RF.out v6
  have a6 := below_one w6 (.cells #[.int .u64 (h6 0), .int .u64 (h6 1), .int .u64 (h6 2), .int .u64 (h6 3), .int .u64 (h6 4), .int .u64 (h6 5)] 24)
  have z6 := World.size_alloc w6 (.cells #[.int .u64 (h6 0), .int .u64 (h6 1), .int .u64 (h6 2), .int .u64 (h6 3), .int .u64 (h6 4), .int .u64 (h6 5)] 24)
  have m6 := mut_four w6 h6 24
  have lw6 : w4.heap.size < w6.heap.size := by have := b6.size; omega
  have ma6 := (ma5.below b6 (by omega)).below a6 (by omega)
  have m36 := (m35.below b6 (by omega)).below a6 (by omega)
  have m46 := (m45.below b6 (by omega)).below a6 (by omega)
  have c6 := Below.up (Below.up c5 (Nat.le_refl _) b6) (Nat.le_refl _) a6
  have g6 := HK.out.stay hgg c6
  clear ma5 m35 m45 c5 b6 a6 KZ
  go_wp2_with fail
  generalize w6.alloc (.cells #[.int .u64 (h6 0), .int .u64 (h6 1), .int .u64 (h6 2), .int .u64 (h6 3), .int .u64 (h6 4), .int .u64 (h6 5)] 24) = W at *
  have HS : Hid (∀ x, Below W.heap.size W x → (x.cell? ⟨w.heap.size, 0, none⟩ = some (.int .u64 (f 0)) ∧ x.cell? ⟨w.heap.size, 1, none⟩ = some (.int .u64 (f 1)) ∧ x.cell? ⟨w.heap.size, 2, none⟩ = some (.int .u64 (f 2)) ∧ x.cell? ⟨w.heap.size, 3, none⟩ = some (.int .u64 (f 3)) ∧ x.cell? ⟨w.heap.size, 4, none⟩ = some (.int .u64 (f 4)) ∧ x.cell? ⟨w.heap.size, 5, none⟩ = some (.int .u64 (f 5))) ∧ (x.cell? ⟨w3.heap.size, 0, none⟩ = some (.int .u64 (h3 0)) ∧ x.cell? ⟨w3.heap.size, 1, none⟩ = some (.int .u64 (h3 1)) ∧ x.cell? ⟨w3.heap.size, 2, none⟩ = some (.int .u64 (h3 2)) ∧ x.cell? ⟨w3.heap.size, 3, none⟩ = some (.int .u64 (h3 3)) ∧ x.cell? ⟨w3.heap.size, 4, none⟩ = some (.int .u64 (h3 4)) ∧ x.cell? ⟨w3.heap.size, 5, none⟩ = some (.int .u64 (h3 5))) ∧ (x.cell? ⟨w4.heap.size, 0, none⟩ = some (.int .u64 (h4 0)) ∧ x.cell? ⟨w4.heap.size, 1, none⟩ = some (.int .u64 (h4 1)) ∧ x.cell? ⟨w4.heap.size, 2, none⟩ = some (.int .u64 (h4 2)) ∧ x.cell? ⟨w4.heap.size, 3, none⟩ = some (.int .u64 (h4 3)) ∧ x.cell? ⟨w4.heap.size, 4, none⟩ = some (.int .u64 (h4 4)) ∧ x.cell? ⟨w4.heap.size, 5, none⟩ = some (.int .u64 (h4 5))) ∧ (x.cell? ⟨w6.heap.size, 0, none⟩ = some (.int .u64 (h6 0)) ∧ x.cell? ⟨w6.heap.size, 1, none⟩ = some (.int .u64 (h6 1)) ∧ x.cell? ⟨w6.heap.size, 2, none⟩ = some (.int .u64 (h6 2)) ∧ x.cell? ⟨w6.heap.size, 3, none⟩ = some (.int .u64 (h6 3)) ∧ x.cell? ⟨w6.heap.size, 4, none⟩ = some (.int .u64 (h6 4)) ∧ x.cell? ⟨w6.heap.size, 5, none⟩ = some (.int .u64 (h6 5)))) := fun x hx => ⟨(ma6.below hx (by omega)).cells6, (m36.below hx (by omega)).cells6, (m46.below hx (by omega)).cells6, (m6.below hx (by omega)).cells6⟩
  have C7 : Hid _ := c6
  have GW : Hid _ := g6
  have HB : Hid _ := hb
  have BW : Hid (Below W.heap.size W W.drew) := (Below.refl _ _).drew
  have KP : Hid _ := putR_any f
  unfold frv at KP
  have T1 : Hid True := trivial
  have T2 : Hid True := trivial
  clear ma6 m36 m46 m6 c6 g6 hb hgg z6 lw3 lw4 lw5 lw6 r3 r4 v3 v4 r6 v6
  go_region_held (fun x => (x.cell? ⟨w.heap.size, 0, none⟩ = some (.int .u64 (f 0)) ∧ x.cell? ⟨w.heap.size, 1, none⟩ = some (.int .u64 (f 1)) ∧ x.cell? ⟨w.heap.size, 2, none⟩ = some (.int .u64 (f 2)) ∧ x.cell? ⟨w.heap.size, 3, none⟩ = some (.int .u64 (f 3)) ∧ x.cell? ⟨w.heap.size, 4, none⟩ = some (.int .u64 (f 4)) ∧ x.cell? ⟨w.heap.size, 5, none⟩ = some (.int .u64 (f 5))) ∧ (x.cell? ⟨w3.heap.size, 0, none⟩ = some (.int .u64 (h3 0)) ∧ x.cell? ⟨w3.heap.size, 1, none⟩ = some (.int .u64 (h3 1)) ∧ x.cell? ⟨w3.heap.size, 2, none⟩ = some (.int .u64 (h3 2)) ∧ x.cell? ⟨w3.heap.size, 3, none⟩ = some (.int .u64 (h3 3)) ∧ x.cell? ⟨w3.heap.size, 4, none⟩ = some (.int .u64 (h3 4)) ∧ x.cell? ⟨w3.heap.size, 5, none⟩ = some (.int .u64 (h3 5))) ∧ (x.cell? ⟨w4.heap.size, 0, none⟩ = some (.int .u64 (h4 0)) ∧ x.cell? ⟨w4.heap.size, 1, none⟩ = some (.int .u64 (h4 1)) ∧ x.cell? ⟨w4.heap.size, 2, none⟩ = some (.int .u64 (h4 2)) ∧ x.cell? ⟨w4.heap.size, 3, none⟩ = some (.int .u64 (h4 3)) ∧ x.cell? ⟨w4.heap.size, 4, none⟩ = some (.int .u64 (h4 4)) ∧ x.cell? ⟨w4.heap.size, 5, none⟩ = some (.int .u64 (h4 5))) ∧ (x.cell? ⟨w6.heap.size, 0, none⟩ = some (.int .u64 (h6 0)) ∧ x.cell? ⟨w6.heap.size, 1, none⟩ = some (.int .u64 (h6 1)) ∧ x.cell? ⟨w6.heap.size, 2, none⟩ = some (.int .u64 (h6 2)) ∧ x.cell? ⟨w6.heap.size, 3, none⟩ = some (.int .u64 (h6 3)) ∧ x.cell? ⟨w6.heap.size, 4, none⟩ = some (.int .u64 (h6 4)) ∧ x.cell? ⟨w6.heap.size, 5, none⟩ = some (.int .u64 (h6 5))))
    (exact HS.out _ BW.out)
    (first
    | (clear T1; go_at_call 35; refine Calls.mono (FpOk.put HK.out f _ (HK.out.stay GW.out BW.out) RF.out LF.out) ?_; rintro e y1 ⟨p1, c1, rfl, a1, -, -, b1⟩; have BX := Below.up BW.out (Nat.le_refl _) b1; clear BW; have BW : Hid _ := BX; clear BX; have S1 := str_at y1 p1 48 c1 _ a1 (by omega); have A1 : Hid _ := a1; clear b1 a1)
    | (clear T2; go_at_call 36; refine Calls.mono (KP.out _ RF.out) ?_; rintro e y2 ⟨q2, rfl, b2, m2⟩; have BX := Below.up BW.out (Nat.le_refl _) b2; clear BW; have BW : Hid _ := BX; clear BX; have S2 := str_at y2 _ 48 48 _ m2.at (by omega); have S3 := str_at y2 p1 48 c1 _ (AtK.below A1.out b2) (by omega); clear b2 m2)
    )
  all_goals
    go_wp2
    go_ret
    exact ⟨rfl, Below.up C7.out (Nat.le_refl _) BW.out⟩

theorem fpBytes_walk {G : World → Prop} (K : FpOk G) (f : Nat → Int) (p : Option Addr) (n c : Nat) (g : Nat → Int) (w : World) (hg : G w) (rf : Rg f 6) (hb : AtK .u8 w p n g) (rb : ∀ j, j < n → 0 ≤ g j ∧ g j < 256) (l1 : n ≤ c) (l2 : c ≤ 9223372036854775807) : Calls Tryd.prog 5 #[frv f, .slice p n c] w fun e w' => e = .returned (.bool true) ∧ Below w.heap.size w w' := by
  by_cases hn : n ≤ 100
  · by_cases lf : val f 6 < RI
    · rcases Nat.lt_trichotomy n 48 with h | h | h
      · exact fpBytes_in K f p n c g w hg rf hb rb l1 l2 hn lf 2 0 (fun W gW hW => K.takeShort p n c g W gW l1 l2 hW h) (fun W hW => Calls.mono (takeR_short p n c W h) (by rintro e w' ⟨rfl, b⟩; exact ⟨Z, rfl, Z_rg 6, val_Z 6, b⟩))
      · subst h
        have pb : val (pl g 48 48) 6 = bv g 48 := pl_bv g 48
        by_cases hl : bv g 48 < RI
        · exact fpBytes_in K f p 48 c g w hg rf hb rb l1 l2 hn lf 0 (bv g 48) (fun W gW hW => K.take p c g W gW l1 l2 hW rb hl) (fun W hW => Calls.mono (takeR_any p c g W hW rb) (by
            rintro e w' ⟨⟨_, v, rfl, h, rfl, r, vv⟩ | ⟨h2, _⟩, b⟩
            · exact ⟨h, rfl, r, vv.trans pb, b⟩
            · rw [pb] at h2; omega))
        · exact fpBytes_in K f p 48 c g w hg rf hb rb l1 l2 hn lf 4 0 (fun W gW hW => K.takeBig p c g W gW l1 l2 hW rb (by omega)) (fun W hW => Calls.mono (takeR_any p c g W hW rb) (by
            rintro e w' ⟨⟨h2, _⟩ | ⟨_, rfl⟩, b⟩
            · rw [pb] at h2; omega
            · exact ⟨Z, rfl, Z_rg 6, val_Z 6, b⟩))
      · exact fpBytes_in K f p n c g w hg rf hb rb l1 l2 hn lf 8 0 (fun W gW hW => K.takeLong p n c g W gW l1 l2 hW h) (fun W hW => Calls.mono (takeR_long p n c W h) (by rintro e w' ⟨rfl, b⟩; exact ⟨Z, rfl, Z_rg 6, val_Z 6, b⟩))
    · exact fpBytes_not K f p n c g w hg rf hb rb l1 l2 hn (by omega)
  · exact fpBytes_long K f p n c g w hg rf hb rb l1 l2 (by omega)
end Go.Proofs.YtgdmjngajjoliaaDoor.fpn
