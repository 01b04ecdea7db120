/- The statement FrPowers's walk, package fr answering as it should. -/
import Derived.Test.YtfbdbkookbmdgaaDoorFC
import Derived.Test.YtfbdbkookbmdgaaDoorYF
namespace Go.Proofs.YtfbdbkookbmdgaaDoor
open Go.RowKit
attribute [local go_sem ↓] Go.wp_at_zero Go.wp_at_succ
set_option linter.unusedVariables false

theorem frPowers_not {G : World → Prop} (K : FrOk G) (f : Nat → Int) (p : Option Addr) (n c : Nat) (g : Nat → Int) (w : World) (hg : G w) (rf : Rg f 4) (he : At w p n g) (re : Rg g n) (l1 : n ≤ c) (l2 : c ≤ 9223372036854775807) (lf : RI ≤ val f 4) : Calls Tryd.prog 4 #[frv f, .slice p n c] w fun e w' => e = .returned (.bool true) ∧ Below w.heap.size w w' := by
  have HK : Hid _ := K
  clear K
  have ma := mut_four w f 24
  have b0 := below_one w (.cells #[.int .u64 (f 0), .int .u64 (f 1), .int .u64 (f 2), .int .u64 (f 3)] 24)
  have z0 := World.size_alloc w (.cells #[.int .u64 (f 0), .int .u64 (f 1), .int .u64 (f 2), .int .u64 (f 3)] 24)
  have g0 := HK.out.stay hg b0
  have RF : Hid _ := rf
  unfold frv
  go_enter Tryd.func4, Tryd.ntmps4
  go_wp2_with fail
  generalize w.alloc (.cells #[.int .u64 (f 0), .int .u64 (f 1), .int .u64 (f 2), .int .u64 (f 3)] 24) = W0 at *
  refine Calls.mono (frBegun HK.out _ g0) ?_
  rintro e w1 ⟨rfl, b1⟩
  have ma1 := ma.below b1 (by rw [z0]; omega)
  obtain ⟨x0, x1, x2, x3⟩ := ma1.cells4
  have MA : Hid _ := ma1
  have B1 : Hid _ := Below.up b0 (Nat.le_refl _) b1
  have KM : Hid _ := fun w => mayR_any f w rf
  unfold frv at KM
  rw [decide_eq_false (show ¬ val f 4 < RI by omega)] at KM
  clear ma ma1 b0 b1 z0 g0 hg rf
  go_wp2_with fail
  refine Calls.mono (KM.out _) ?_
  rintro e w2 ⟨rfl, b2⟩
  have BF : Hid _ := Below.up B1.out (Nat.le_refl _) b2
  clear b2 lf
  go_wp2
  go_ret
  exact ⟨rfl, BF.out⟩

theorem frPowers_long {G : World → Prop} (K : FrOk G) (f : Nat → Int) (p : Option Addr) (n c : Nat) (g : Nat → Int) (w : World) (hg : G w) (rf : Rg f 4) (he : At w p n g) (re : Rg g n) (l1 : n ≤ c) (l2 : c ≤ 9223372036854775807) (lf : val f 4 < RI) (hl : 5 < n) : Calls Tryd.prog 4 #[frv f, .slice p n c] w fun e w' => e = .returned (.bool true) ∧ Below w.heap.size w w' := by
  have HK : Hid _ := K
  clear K
  have ma := mut_four w f 24
  have b0 := below_one w (.cells #[.int .u64 (f 0), .int .u64 (f 1), .int .u64 (f 2), .int .u64 (f 3)] 24)
  have z0 := World.size_alloc w (.cells #[.int .u64 (f 0), .int .u64 (f 1), .int .u64 (f 2), .int .u64 (f 3)] 24)
  have g0 := HK.out.stay hg b0
  have RF : Hid _ := rf
  unfold frv
  go_enter Tryd.func4, Tryd.ntmps4
  go_wp2_with fail
  generalize w.alloc (.cells #[.int .u64 (f 0), .int .u64 (f 1), .int .u64 (f 2), .int .u64 (f 3)] 24) = W0 at *
  refine Calls.mono (frBegun HK.out _ g0) ?_
  rintro e w1 ⟨rfl, b1⟩
  have ma1 := ma.below b1 (by rw [z0]; omega)
  obtain ⟨x0, x1, x2, x3⟩ := ma1.cells4
  have MA : Hid _ := ma1
  have B1 : Hid _ := Below.up b0 (Nat.le_refl _) b1
  have KM : Hid _ := fun w => mayR_any f w rf
  unfold frv at KM
  rw [decide_eq_true lf] at KM
  clear ma ma1 b0 b1 z0 g0 hg rf
  go_wp2_with fail
  refine Calls.mono (KM.out _) ?_
  rintro e w2 ⟨rfl, b2⟩
  have BF : Hid _ := Below.up B1.out (Nat.le_refl _) b2
  clear b2 lf
  go_wp2
  go_ret
  exact ⟨rfl, BF.out⟩

theorem frPowers_zero {G : World → Prop} (K : FrOk G) (f : Nat → Int) (p : Option Addr) (n c : Nat) (g : Nat → Int) (w : World) (hg : G w) (rf : Rg f 4) (he : At w p n g) (re : Rg g n) (l1 : n ≤ c) (l2 : c ≤ 9223372036854775807) (lf : val f 4 < RI) (hl : n ≤ 5) (E : Nat) (hE : val g n = (E : Int)) (hz : val f 4 = 0) : Calls Tryd.prog 4 #[frv f, .slice p n c] w fun e w' => e = .returned (.bool true) ∧ Below w.heap.size w w' := by
  have hgg := hg
  have HK : Hid _ := K
  clear K
  have ma := mut_four w f 24
  have b0 := below_one w (.cells #[.int .u64 (f 0), .int .u64 (f 1), .int .u64 (f 2), .int .u64 (f 3)] 24)
  have z0 := World.size_alloc w (.cells #[.int .u64 (f 0), .int .u64 (f 1), .int .u64 (f 2), .int .u64 (f 3)] 24)
  have g0 := HK.out.stay hg b0
  have RF : Hid _ := rf
  unfold frv
  go_enter Tryd.func4, Tryd.ntmps4
  go_wp2_with fail
  generalize w.alloc (.cells #[.int .u64 (f 0), .int .u64 (f 1), .int .u64 (f 2), .int .u64 (f 3)] 24) = W0 at *
  refine Calls.mono (frBegun HK.out _ g0) ?_
  rintro e w1 ⟨rfl, b1⟩
  have ma1 := ma.below b1 (by rw [z0]; omega)
  obtain ⟨x0, x1, x2, x3⟩ := ma1.cells4
  have MA : Hid _ := ma1
  have B1 : Hid _ := Below.up b0 (Nat.le_refl _) b1
  have KM : Hid _ := fun w => mayR_any f w rf
  unfold frv at KM
  rw [decide_eq_true lf] at KM
  clear ma ma1 b0 b1 z0 g0 hg rf
  go_wp2_with fail
  refine Calls.mono (KM.out _) ?_
  rintro e w2 ⟨rfl, b2⟩
  have LF : Hid _ := lf
  have ma2 := MutK.below MA.out b2 (cell_lt x0)
  have bl2 : w.heap.size < w2.heap.size := cell_lt ma2.cells4.1
  have c2 := Below.up B1.out (Nat.le_refl _) b2
  have g2 := HK.out.stay hgg c2
  obtain ⟨y0, y1, y2, y3⟩ := ma2.cells4
  clear b2 lf x0 x1 x2 x3 MA B1
  go_wp2_with fail
  refine Calls.mono (FrOk.inv0 HK.out f _ g2 RF.out hz) ?_
  rintro e w3 ⟨h3, rfl, r3, v3, b3⟩
  have a3 := below_one w3 (.cells #[.int .u64 (h3 0), .int .u64 (h3 1), .int .u64 (h3 2), .int .u64 (h3 3)] 24)
  have z3 := World.size_alloc w3 (.cells #[.int .u64 (h3 0), .int .u64 (h3 1), .int .u64 (h3 2), .int .u64 (h3 3)] 24)
  have m3 := mut_four w3 h3 24
  have ma3 := (ma2.below b3 bl2).below a3 (by have := b3.size; omega)
  have lw : w.heap.size < w3.heap.size := by have := b3.size; omega
  have c3 := Below.up (Below.up c2 (Nat.le_refl _) b3) (Nat.le_refl _) a3
  obtain ⟨x0, x1, x2, x3⟩ := ma3.cells4
  clear b3 a3 c2 g2 ma2 y0 y1 y2 y3 bl2
  go_wp2_with fail
  generalize w3.alloc (.cells #[.int .u64 (h3 0), .int .u64 (h3 1), .int .u64 (h3 2), .int .u64 (h3 3)] 24) = W3 at *
  have KI := invR_zero f W3 RF.out hz
  unfold frv at KI
  refine Calls.mono KI ?_
  rintro e w4 ⟨rfl, b4⟩
  have E1 := eq_yes r3 RF.out (by rw [v3, hz])
  have a4 := below_one w4 (.cells #[.int .u64 (f 0), .int .u64 (f 1), .int .u64 (f 2), .int .u64 (f 3)] 24)
  have z4 := World.size_alloc w4 (.cells #[.int .u64 (f 0), .int .u64 (f 1), .int .u64 (f 2), .int .u64 (f 3)] 24)
  have m4 := mut_four w4 f 24
  have ma4 := (ma3.below b4 (by rw [z3]; omega)).below a4 (by have := b4.size; omega)
  have m34 := (m3.below b4 (by rw [z3]; omega)).below a4 (by have := b4.size; omega)
  have lw4 : w3.heap.size < w4.heap.size := by have := b4.size; omega
  have c4 := Below.up (Below.up c3 (Nat.le_refl _) b4) (Nat.le_refl _) a4
  have g4 := HK.out.stay hgg c4
  clear x0 x1 x2 x3 b4 a4 c3 KI m3 ma3 z3
  go_wp2_with fail
  generalize w4.alloc (.cells #[.int .u64 (f 0), .int .u64 (f 1), .int .u64 (f 2), .int .u64 (f 3)] 24) = W at *
  have HS : Hid (∀ x, Below W.heap.size W x → (x.cell? ⟨w.heap.size, 0, none⟩ = some (.int .u64 (f 0)) ∧ x.cell? ⟨w.heap.size, 1, none⟩ = some (.int .u64 (f 1)) ∧ x.cell? ⟨w.heap.size, 2, none⟩ = some (.int .u64 (f 2)) ∧ x.cell? ⟨w.heap.size, 3, none⟩ = some (.int .u64 (f 3))) ∧ (x.cell? ⟨w3.heap.size, 0, none⟩ = some (.int .u64 (h3 0)) ∧ x.cell? ⟨w3.heap.size, 1, none⟩ = some (.int .u64 (h3 1)) ∧ x.cell? ⟨w3.heap.size, 2, none⟩ = some (.int .u64 (h3 2)) ∧ x.cell? ⟨w3.heap.size, 3, none⟩ = some (.int .u64 (h3 3))) ∧ (x.cell? ⟨w4.heap.size, 0, none⟩ = some (.int .u64 (f 0)) ∧ x.cell? ⟨w4.heap.size, 1, none⟩ = some (.int .u64 (f 1)) ∧ x.cell? ⟨w4.heap.size, 2, none⟩ = some (.int .u64 (f 2)) ∧ x.cell? ⟨w4.heap.size, 3, none⟩ = some (.int .u64 (f 3)))) := fun x hx => ⟨(ma4.below hx (by omega)).cells4, (m34.below hx (by omega)).cells4, (m4.below hx (by omega)).cells4⟩
  have C4 : Hid _ := c4
  have GW : Hid _ := g4
  have HE : Hid _ := he
  have BW : Hid (Below W.heap.size W W.drew) := (Below.refl _ _).drew
  have KP : Hid _ := powR_any f p n c g E
  unfold frv at KP
  clear ma4 m34 m4 c4 g4 z4 lw lw4
  go_region_held3 (fun x => (x.cell? ⟨w.heap.size, 0, none⟩ = some (.int .u64 (f 0)) ∧ x.cell? ⟨w.heap.size, 1, none⟩ = some (.int .u64 (f 1)) ∧ x.cell? ⟨w.heap.size, 2, none⟩ = some (.int .u64 (f 2)) ∧ x.cell? ⟨w.heap.size, 3, none⟩ = some (.int .u64 (f 3))) ∧ (x.cell? ⟨w3.heap.size, 0, none⟩ = some (.int .u64 (h3 0)) ∧ x.cell? ⟨w3.heap.size, 1, none⟩ = some (.int .u64 (h3 1)) ∧ x.cell? ⟨w3.heap.size, 2, none⟩ = some (.int .u64 (h3 2)) ∧ x.cell? ⟨w3.heap.size, 3, none⟩ = some (.int .u64 (h3 3))) ∧ (x.cell? ⟨w4.heap.size, 0, none⟩ = some (.int .u64 (f 0)) ∧ x.cell? ⟨w4.heap.size, 1, none⟩ = some (.int .u64 (f 1)) ∧ x.cell? ⟨w4.heap.size, 2, none⟩ = some (.int .u64 (f 2)) ∧ x.cell? ⟨w4.heap.size, 3, none⟩ = some (.int .u64 (f 3))))
    (exact HS.out _ BW.out)
    (first
    | (go_at_call 27; refine Calls.mono (FrOk.pow HK.out f p n c g E _ (HK.out.stay GW.out BW.out) RF.out LF.out (by omega) l1 l2 (AtK.below HE.out (Below.up C4.out (Nat.le_refl _) BW.out)) re hE) ?_; rintro e x5 ⟨h5, rfl, r5, v5, b5⟩; have BX := Below.up BW.out (Nat.le_refl _) b5; clear BW; have BW : Hid _ := BX; clear BX; have R5 : Hid _ := r5; have V5 : Hid _ := v5; clear b5 r5 v5)
    | (go_at_call 28; refine Calls.mono (KP.out _ RF.out LF.out (by omega) (AtK.below HE.out (Below.up C4.out (Nat.le_refl _) BW.out)) re hE) ?_; rintro e x6 ⟨v6, rfl, ⟨h6, rfl, r6, v6⟩, b6⟩; have BX := Below.up BW.out (Nat.le_refl _) b6; clear BW; have BW : Hid _ := BX; clear BX; have E2 := eq_yes R5.out r6 (V5.out.trans v6.symm); clear b6 r6 v6))
  all_goals
    go_wp2
    go_ret
    exact ⟨rfl, Below.up C4.out (Nat.le_refl _) BW.out⟩

theorem frPowers_in {G : World → Prop} (K : FrOk G) (f : Nat → Int) (p : Option Addr) (n c : Nat) (g : Nat → Int) (w : World) (hg : G w) (rf : Rg f 4) (he : At w p n g) (re : Rg g n) (l1 : n ≤ c) (l2 : c ≤ 9223372036854775807) (lf : val f 4 < RI) (hl : n ≤ 5) (E : Nat) (hE : val g n = (E : Int)) (hz : val f 4 ≠ 0) : Calls Tryd.prog 4 #[frv f, .slice p n c] w fun e w' => e = .returned (.bool true) ∧ Below w.heap.size w w' := by
  have hgg := hg
  have HK : Hid _ := K
  clear K
  have ma := mut_four w f 24
  have b0 := below_one w (.cells #[.int .u64 (f 0), .int .u64 (f 1), .int .u64 (f 2), .int .u64 (f 3)] 24)
  have z0 := World.size_alloc w (.cells #[.int .u64 (f 0), .int .u64 (f 1), .int .u64 (f 2), .int .u64 (f 3)] 24)
  have g0 := HK.out.stay hg b0
  have RF : Hid _ := rf
  unfold frv
  go_enter Tryd.func4, Tryd.ntmps4
  go_wp2_with fail
  generalize w.alloc (.cells #[.int .u64 (f 0), .int .u64 (f 1), .int .u64 (f 2), .int .u64 (f 3)] 24) = W0 at *
  refine Calls.mono (frBegun HK.out _ g0) ?_
  rintro e w1 ⟨rfl, b1⟩
  have ma1 := ma.below b1 (by rw [z0]; omega)
  obtain ⟨x0, x1, x2, x3⟩ := ma1.cells4
  have MA : Hid _ := ma1
  have B1 : Hid _ := Below.up b0 (Nat.le_refl _) b1
  have KM : Hid _ := fun w => mayR_any f w rf
  unfold frv at KM
  rw [decide_eq_true lf] at KM
  clear ma ma1 b0 b1 z0 g0 hg rf
  go_wp2_with fail
  refine Calls.mono (KM.out _) ?_
  rintro e w2 ⟨rfl, b2⟩
  have LF : Hid _ := lf
  have ma2 := MutK.below MA.out b2 (cell_lt x0)
  have bl2 : w.heap.size < w2.heap.size := cell_lt ma2.cells4.1
  have c2 := Below.up B1.out (Nat.le_refl _) b2
  have g2 := HK.out.stay hgg c2
  obtain ⟨y0, y1, y2, y3⟩ := ma2.cells4
  clear b2 lf x0 x1 x2 x3 MA B1
  go_wp2_with fail
  refine Calls.mono (FrOk.inv HK.out f _ g2 RF.out LF.out hz) ?_
  rintro e w3 ⟨h3, rfl, r3, v3, b3⟩
  have a3 := below_one w3 (.cells #[.int .u64 (h3 0), .int .u64 (h3 1), .int .u64 (h3 2), .int .u64 (h3 3)] 24)
  have z3 := World.size_alloc w3 (.cells #[.int .u64 (h3 0), .int .u64 (h3 1), .int .u64 (h3 2), .int .u64 (h3 3)] 24)
  have m3 := mut_four w3 h3 24
  have ma3 := (ma2.below b3 bl2).below a3 (by have := b3.size; omega)
  have lw : w.heap.size < w3.heap.size := by have := b3.size; omega
  have c3 := Below.up (Below.up c2 (Nat.le_refl _) b3) (Nat.le_refl _) a3
  obtain ⟨x0, x1, x2, x3⟩ := ma3.cells4
  clear b3 a3 c2 g2 ma2 y0 y1 y2 y3 bl2
  go_wp2_with fail
  generalize w3.alloc (.cells #[.int .u64 (h3 0), .int .u64 (h3 1), .int .u64 (h3 2), .int .u64 (h3 3)] 24) = W3 at *
  have KI := invR_any f W3 RF.out LF.out hz
  unfold frv at KI
  refine Calls.mono KI ?_
  rintro e w4 ⟨v4, rfl, ⟨h4, rfl, r4, v4⟩, b4⟩
  have E1 := eq_yes r3 r4 (v3.trans v4.symm)
  have a4 := below_one w4 (.cells #[.int .u64 (h4 0), .int .u64 (h4 1), .int .u64 (h4 2), .int .u64 (h4 3)] 24)
  have z4 := World.size_alloc w4 (.cells #[.int .u64 (h4 0), .int .u64 (h4 1), .int .u64 (h4 2), .int .u64 (h4 3)] 24)
  have m4 := mut_four w4 h4 24
  have ma4 := (ma3.below b4 (by rw [z3]; omega)).below a4 (by have := b4.size; omega)
  have m34 := (m3.below b4 (by rw [z3]; omega)).below a4 (by have := b4.size; omega)
  have lw4 : w3.heap.size < w4.heap.size := by have := b4.size; omega
  have c4 := Below.up (Below.up c3 (Nat.le_refl _) b4) (Nat.le_refl _) a4
  have g4 := HK.out.stay hgg c4
  clear x0 x1 x2 x3 b4 a4 c3 KI m3 ma3 z3
  go_wp2_with fail
  generalize w4.alloc (.cells #[.int .u64 (h4 0), .int .u64 (h4 1), .int .u64 (h4 2), .int .u64 (h4 3)] 24) = W at *
  have HS : Hid (∀ x, Below W.heap.size W x → (x.cell? ⟨w.heap.size, 0, none⟩ = some (.int .u64 (f 0)) ∧ x.cell? ⟨w.heap.size, 1, none⟩ = some (.int .u64 (f 1)) ∧ x.cell? ⟨w.heap.size, 2, none⟩ = some (.int .u64 (f 2)) ∧ x.cell? ⟨w.heap.size, 3, none⟩ = some (.int .u64 (f 3))) ∧ (x.cell? ⟨w3.heap.size, 0, none⟩ = some (.int .u64 (h3 0)) ∧ x.cell? ⟨w3.heap.size, 1, none⟩ = some (.int .u64 (h3 1)) ∧ x.cell? ⟨w3.heap.size, 2, none⟩ = some (.int .u64 (h3 2)) ∧ x.cell? ⟨w3.heap.size, 3, none⟩ = some (.int .u64 (h3 3))) ∧ (x.cell? ⟨w4.heap.size, 0, none⟩ = some (.int .u64 (h4 0)) ∧ x.cell? ⟨w4.heap.size, 1, none⟩ = some (.int .u64 (h4 1)) ∧ x.cell? ⟨w4.heap.size, 2, none⟩ = some (.int .u64 (h4 2)) ∧ x.cell? ⟨w4.heap.size, 3, none⟩ = some (.int .u64 (h4 3)))) := fun x hx => ⟨(ma4.below hx (by omega)).cells4, (m34.below hx (by omega)).cells4, (m4.below hx (by omega)).cells4⟩
  have C4 : Hid _ := c4
  have GW : Hid _ := g4
  have HE : Hid _ := he
  have BW : Hid (Below W.heap.size W W.drew) := (Below.refl _ _).drew
  have KP : Hid _ := powR_any f p n c g E
  unfold frv at KP
  clear ma4 m34 m4 c4 g4 z4 lw lw4
  go_region_held3 (fun x => (x.cell? ⟨w.heap.size, 0, none⟩ = some (.int .u64 (f 0)) ∧ x.cell? ⟨w.heap.size, 1, none⟩ = some (.int .u64 (f 1)) ∧ x.cell? ⟨w.heap.size, 2, none⟩ = some (.int .u64 (f 2)) ∧ x.cell? ⟨w.heap.size, 3, none⟩ = some (.int .u64 (f 3))) ∧ (x.cell? ⟨w3.heap.size, 0, none⟩ = some (.int .u64 (h3 0)) ∧ x.cell? ⟨w3.heap.size, 1, none⟩ = some (.int .u64 (h3 1)) ∧ x.cell? ⟨w3.heap.size, 2, none⟩ = some (.int .u64 (h3 2)) ∧ x.cell? ⟨w3.heap.size, 3, none⟩ = some (.int .u64 (h3 3))) ∧ (x.cell? ⟨w4.heap.size, 0, none⟩ = some (.int .u64 (h4 0)) ∧ x.cell? ⟨w4.heap.size, 1, none⟩ = some (.int .u64 (h4 1)) ∧ x.cell? ⟨w4.heap.size, 2, none⟩ = some (.int .u64 (h4 2)) ∧ x.cell? ⟨w4.heap.size, 3, none⟩ = some (.int .u64 (h4 3))))
    (exact HS.out _ BW.out)
    (first
    | (go_at_call 27; refine Calls.mono (FrOk.pow HK.out f p n c g E _ (HK.out.stay GW.out BW.out) RF.out LF.out (by omega) l1 l2 (AtK.below HE.out (Below.up C4.out (Nat.le_refl _) BW.out)) re hE) ?_; rintro e x5 ⟨h5, rfl, r5, v5, b5⟩; have BX := Below.up BW.out (Nat.le_refl _) b5; clear BW; have BW : Hid _ := BX; clear BX; have R5 : Hid _ := r5; have V5 : Hid _ := v5; clear b5 r5 v5)
    | (go_at_call 28; refine Calls.mono (KP.out _ RF.out LF.out (by omega) (AtK.below HE.out (Below.up C4.out (Nat.le_refl _) BW.out)) re hE) ?_; rintro e x6 ⟨v6, rfl, ⟨h6, rfl, r6, v6⟩, b6⟩; have BX := Below.up BW.out (Nat.le_refl _) b6; clear BW; have BW : Hid _ := BX; clear BX; have E2 := eq_yes R5.out r6 (V5.out.trans v6.symm); clear b6 r6 v6))
  all_goals
    go_wp2
    go_ret
    exact ⟨rfl, Below.up C4.out (Nat.le_refl _) BW.out⟩

theorem frPowers_walk {G : World → Prop} (K : FrOk G) (f : Nat → Int) (p : Option Addr) (n c : Nat) (g : Nat → Int) (w : World) (hg : G w) (rf : Rg f 4) (he : At w p n g) (re : Rg g n) (l1 : n ≤ c) (l2 : c ≤ 9223372036854775807) : Calls Tryd.prog 4 #[frv f, .slice p n c] w fun e w' => e = .returned (.bool true) ∧ Below w.heap.size w w' := by
  by_cases lf : val f 4 < RI
  · by_cases hl : n ≤ 5
    · obtain ⟨E, hE⟩ := Int.eq_ofNat_of_zero_le (val_bd re).1
      by_cases hz : val f 4 = 0
      · exact frPowers_zero K f p n c g w hg rf he re l1 l2 lf hl E hE hz
      · exact frPowers_in K f p n c g w hg rf he re l1 l2 lf hl E hE hz
    · exact frPowers_long K f p n c g w hg rf he re l1 l2 lf (by omega)
  · exact frPowers_not K f p n c g w hg rf he re l1 l2 (by omega)
end Go.Proofs.YtfbdbkookbmdgaaDoor
