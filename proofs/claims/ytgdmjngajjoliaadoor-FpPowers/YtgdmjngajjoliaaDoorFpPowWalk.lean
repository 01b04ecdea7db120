/- The statement FpPowers's walk, package fp answering as it should. -/
import Derived.Deep.RegionHeld3
import Derived.Test.YtgdmjngajjoliaaDoorSC
import Derived.Test.YtgdmjngajjoliaaDoorSQ
import Derived.Test.YtgdmjngajjoliaaDoorRF
import Derived.Test.YtgdmjngajjoliaaDoorRA
namespace Go.Proofs.YtgdmjngajjoliaaDoor.fpn
open Go.RowKit
attribute [local go_sem ↓] Go.wp_at_zero Go.wp_at_succ
set_option linter.unusedVariables false

theorem fpPowers_not {G : World → Prop} (K : FpOk G) (f : Nat → Int) (p : Option Addr) (n c : Nat) (g : Nat → Int) (w : World) (hg : G w) (rf : Rg f 6) (he : At w p n g) (re : Rg g n) (l1 : n ≤ c) (l2 : c ≤ 9223372036854775807) (lf : RI ≤ val f 6) : Calls Tryd.prog 4 #[frv f, .slice p n c] w fun e w' => e = .returned (.bool true) ∧ Below w.heap.size w w' := by
  have HK : Hid _ := K
  clear K
  have ma := mut_four w f 24
  have b0 := below_one w (.cells #[.int .u64 (f 0), .int .u64 (f 1), .int .u64 (f 2), .int .u64 (f 3), .int .u64 (f 4), .int .u64 (f 5)] 24)
  have z0 := World.size_alloc w (.cells #[.int .u64 (f 0), .int .u64 (f 1), .int .u64 (f 2), .int .u64 (f 3), .int .u64 (f 4), .int .u64 (f 5)] 24)
  have g0 := HK.out.stay hg b0
  have RF : Hid _ := rf
  unfold frv
  go_enter Tryd.func4, Tryd.ntmps4
  go_wp2_with fail
  generalize w.alloc (.cells #[.int .u64 (f 0), .int .u64 (f 1), .int .u64 (f 2), .int .u64 (f 3), .int .u64 (f 4), .int .u64 (f 5)] 24) = W0 at *
  refine Calls.mono (fpBegun HK.out _ g0) ?_
  rintro e w1 ⟨rfl, b1⟩
  have ma1 := ma.below b1 (by rw [z0]; omega)
  obtain ⟨x0, x1, x2, x3, x4, x5⟩ := ma1.cells6
  have MA : Hid _ := ma1
  have B1 : Hid _ := Below.up b0 (Nat.le_refl _) b1
  have KM : Hid _ := fun w => mayR_any f w rf
  unfold frv at KM
  rw [decide_eq_false (show ¬ val f 6 < RI by omega)] at KM
  clear ma ma1 b0 b1 z0 g0 hg rf
  go_wp2_with fail
  refine Calls.mono (KM.out _) ?_
  rintro e w2 ⟨rfl, b2⟩
  have BF : Hid _ := Below.up B1.out (Nat.le_refl _) b2
  clear b2 lf
  go_wp2
  go_ret
  exact ⟨rfl, BF.out⟩

theorem fpPowers_long {G : World → Prop} (K : FpOk G) (f : Nat → Int) (p : Option Addr) (n c : Nat) (g : Nat → Int) (w : World) (hg : G w) (rf : Rg f 6) (he : At w p n g) (re : Rg g n) (l1 : n ≤ c) (l2 : c ≤ 9223372036854775807) (lf : val f 6 < RI) (hl : 7 < n) : Calls Tryd.prog 4 #[frv f, .slice p n c] w fun e w' => e = .returned (.bool true) ∧ Below w.heap.size w w' := by
  have HK : Hid _ := K
  clear K
  have ma := mut_four w f 24
  have b0 := below_one w (.cells #[.int .u64 (f 0), .int .u64 (f 1), .int .u64 (f 2), .int .u64 (f 3), .int .u64 (f 4), .int .u64 (f 5)] 24)
  have z0 := World.size_alloc w (.cells #[.int .u64 (f 0), .int .u64 (f 1), .int .u64 (f 2), .int .u64 (f 3), .int .u64 (f 4), .int .u64 (f 5)] 24)
  have g0 := HK.out.stay hg b0
  have RF : Hid _ := rf
  unfold frv
  go_enter Tryd.func4, Tryd.ntmps4
  go_wp2_with fail
  generalize w.alloc (.cells #[.int .u64 (f 0), .int .u64 (f 1), .int .u64 (f 2), .int .u64 (f 3), .int .u64 (f 4), .int .u64 (f 5)] 24) = W0 at *
  refine Calls.mono (fpBegun HK.out _ g0) ?_
  rintro e w1 ⟨rfl, b1⟩
  have ma1 := ma.below b1 (by rw [z0]; omega)
  obtain ⟨x0, x1, x2, x3, x4, x5⟩ := ma1.cells6
  have MA : Hid _ := ma1
  have B1 : Hid _ := Below.up b0 (Nat.le_refl _) b1
  have KM : Hid _ := fun w => mayR_any f w rf
  unfold frv at KM
  rw [decide_eq_true lf] at KM
  clear ma ma1 b0 b1 z0 g0 hg rf
  go_wp2_with fail
  refine Calls.mono (KM.out _) ?_
  rintro e w2 ⟨rfl, b2⟩
  have BF : Hid _ := Below.up B1.out (Nat.le_refl _) b2
  clear b2 lf
  go_wp2
  go_ret
  exact ⟨rfl, BF.out⟩

set_option maxHeartbeats 4000000 in
theorem fpPowers_zero {G : World → Prop} (K : FpOk G) (f : Nat → Int) (p : Option Addr) (n c : Nat) (g : Nat → Int) (w : World) (hg : G w) (rf : Rg f 6) (he : At w p n g) (re : Rg g n) (l1 : n ≤ c) (l2 : c ≤ 9223372036854775807) (lf : val f 6 < RI) (hl : n ≤ 7) (E : Nat) (hE : val g n = (E : Int)) (hz : val f 6 = 0) : Calls Tryd.prog 4 #[frv f, .slice p n c] w fun e w' => e = .returned (.bool true) ∧ Below w.heap.size w w' := by
  have hgg := hg
  have HK : Hid _ := K
  clear K
  have ma := mut_four w f 24
  have b0 := below_one w (.cells #[.int .u64 (f 0), .int .u64 (f 1), .int .u64 (f 2), .int .u64 (f 3), .int .u64 (f 4), .int .u64 (f 5)] 24)
  have z0 := World.size_alloc w (.cells #[.int .u64 (f 0), .int .u64 (f 1), .int .u64 (f 2), .int .u64 (f 3), .int .u64 (f 4), .int .u64 (f 5)] 24)
  have g0 := HK.out.stay hg b0
  have RF : Hid _ := rf
  unfold frv
  go_enter Tryd.func4, Tryd.ntmps4
  go_wp2_with fail
  generalize w.alloc (.cells #[.int .u64 (f 0), .int .u64 (f 1), .int .u64 (f 2), .int .u64 (f 3), .int .u64 (f 4), .int .u64 (f 5)] 24) = W0 at *
  refine Calls.mono (fpBegun HK.out _ g0) ?_
  rintro e w1 ⟨rfl, b1⟩
  have ma1 := ma.below b1 (by rw [z0]; omega)
  obtain ⟨x0, x1, x2, x3, x4, x5⟩ := ma1.cells6
  have MA : Hid _ := ma1
  have B1 : Hid _ := Below.up b0 (Nat.le_refl _) b1
  have KM : Hid _ := fun w => mayR_any f w rf
  unfold frv at KM
  rw [decide_eq_true lf] at KM
  clear ma ma1 b0 b1 z0 g0 hg rf
  go_wp2_with fail
  refine Calls.mono (KM.out _) ?_
  rintro e w2 ⟨rfl, b2⟩
  have LF : Hid _ := lf
  have HZ : Hid _ := hz
  have ma2 := MutK.below MA.out b2 (cell_lt x0)
  have c2 := Below.up B1.out (Nat.le_refl _) b2
  have g2 := HK.out.stay hgg c2
  obtain ⟨y0, y1, y2, y3, y4, y5⟩ := ma2.cells6
  clear b2 lf hz x0 x1 x2 x3 x4 x5 MA B1 KM
  go_wp2_with fail
  refine Calls.mono (FpOk.inv0 HK.out f _ g2 RF.out HZ.out) ?_
  rintro e w3 ⟨h3, rfl, r3, v3, b3⟩
  have a3 := below_one w3 (.cells #[.int .u64 (h3 0), .int .u64 (h3 1), .int .u64 (h3 2), .int .u64 (h3 3), .int .u64 (h3 4), .int .u64 (h3 5)] 24)
  have m3 := mut_four w3 h3 24
  have ma3 := MutK.below (MutK.below ma2 b3 (cell_lt ma2.cells6.1)) a3 (Nat.lt_of_lt_of_le (cell_lt ma2.cells6.1) b3.size)
  have c3 := Below.up (Below.up c2 (Nat.le_refl _) b3) (Nat.le_refl _) a3
  obtain ⟨x0, x1, x2, x3, x4, x5⟩ := ma3.cells6
  clear b3 a3 c2 g2 ma2 y0 y1 y2 y3 y4 y5
  go_wp2_with fail
  generalize w3.alloc (.cells #[.int .u64 (h3 0), .int .u64 (h3 1), .int .u64 (h3 2), .int .u64 (h3 3), .int .u64 (h3 4), .int .u64 (h3 5)] 24) = W3 at *
  have KI := invR_zero f W3 RF.out HZ.out
  unfold frv at KI
  refine Calls.mono KI ?_
  rintro e w4 ⟨rfl, b4⟩
  have E1 := eq_yes r3 RF.out (by rw [v3, HZ.out])
  have a4 := below_one w4 (.cells #[.int .u64 (f 0), .int .u64 (f 1), .int .u64 (f 2), .int .u64 (f 3), .int .u64 (f 4), .int .u64 (f 5)] 24)
  have m4 := mut_four w4 f 24
  have ma4 := MutK.below (MutK.below ma3 b4 (cell_lt ma3.cells6.1)) a4 (Nat.lt_of_lt_of_le (cell_lt ma3.cells6.1) b4.size)
  have m34 := MutK.below (MutK.below m3 b4 (cell_lt m3.cells6.1)) a4 (Nat.lt_of_lt_of_le (cell_lt m3.cells6.1) b4.size)
  have c4 := Below.up (Below.up c3 (Nat.le_refl _) b4) (Nat.le_refl _) a4
  clear x0 x1 x2 x3 x4 x5 b4 a4 c3 KI m3 ma3 r3 v3
  obtain ⟨x0, x1, x2, x3, x4, x5⟩ := ma4.cells6
  go_wp2_with fail
  generalize w4.alloc (.cells #[.int .u64 (f 0), .int .u64 (f 1), .int .u64 (f 2), .int .u64 (f 3), .int .u64 (f 4), .int .u64 (f 5)] 24) = W4 at *
  have g4 := HK.out.stay hgg c4
  refine Calls.mono (FpOk.sqrtYes HK.out f _ g4 RF.out LF.out (by rw [HZ.out]; exact sq_zero)) ?_
  rintro e w5 ⟨h5, rfl, r5, v5, b5⟩
  have a5 := below_one w5 (.cells #[.int .u64 (h5 0), .int .u64 (h5 1), .int .u64 (h5 2), .int .u64 (h5 3), .int .u64 (h5 4), .int .u64 (h5 5)] 24)
  have m5 := mut_four w5 h5 24
  have ma5 := MutK.below (MutK.below ma4 b5 (cell_lt ma4.cells6.1)) a5 (Nat.lt_of_lt_of_le (cell_lt ma4.cells6.1) b5.size)
  have m35 := MutK.below (MutK.below m34 b5 (cell_lt m34.cells6.1)) a5 (Nat.lt_of_lt_of_le (cell_lt m34.cells6.1) b5.size)
  have m45 := MutK.below (MutK.below m4 b5 (cell_lt m4.cells6.1)) a5 (Nat.lt_of_lt_of_le (cell_lt m4.cells6.1) b5.size)
  have c5 := Below.up (Below.up c4 (Nat.le_refl _) b5) (Nat.le_refl _) a5
  clear x0 x1 x2 x3 x4 x5 b5 a5 c4 m4 m34 ma4 g4
  obtain ⟨x0, x1, x2, x3, x4, x5⟩ := ma5.cells6
  go_wp2_with fail
  generalize w5.alloc (.cells #[.int .u64 (h5 0), .int .u64 (h5 1), .int .u64 (h5 2), .int .u64 (h5 3), .int .u64 (h5 4), .int .u64 (h5 5)] 24) = W5 at *
  refine Calls.mono (sqrtP_yes f W5 RF.out LF.out (by rw [HZ.out]; exact sq_zero)) ?_
  rintro e w6 ⟨h6, rfl, r6, v6, b6⟩
  have E3 := eq_yes r5 r6 (v5.trans v6.symm)
  have a6 := below_one w6 (.cells #[.int .u64 (h6 0), .int .u64 (h6 1), .int .u64 (h6 2), .int .u64 (h6 3), .int .u64 (h6 4), .int .u64 (h6 5)] 24)
  have m6 := mut_four w6 h6 24
  have ma6 := MutK.below (MutK.below ma5 b6 (cell_lt ma5.cells6.1)) a6 (Nat.lt_of_lt_of_le (cell_lt ma5.cells6.1) b6.size)
  have m36 := MutK.below (MutK.below m35 b6 (cell_lt m35.cells6.1)) a6 (Nat.lt_of_lt_of_le (cell_lt m35.cells6.1) b6.size)
  have m46 := MutK.below (MutK.below m45 b6 (cell_lt m45.cells6.1)) a6 (Nat.lt_of_lt_of_le (cell_lt m45.cells6.1) b6.size)
  have m56 := MutK.below (MutK.below m5 b6 (cell_lt m5.cells6.1)) a6 (Nat.lt_of_lt_of_le (cell_lt m5.cells6.1) b6.size)
  have c6 := Below.up (Below.up c5 (Nat.le_refl _) b6) (Nat.le_refl _) a6
  clear x0 x1 x2 x3 x4 x5 b6 a6 c5 m5 m35 m45 ma5 r5 v5 r6 v6
  go_wp2_with fail
  generalize w6.alloc (.cells #[.int .u64 (h6 0), .int .u64 (h6 1), .int .u64 (h6 2), .int .u64 (h6 3), .int .u64 (h6 4), .int .u64 (h6 5)] 24) = W at *
  have HS : Hid (∀ x, Below W.heap.size W x → (x.cell? ⟨w.heap.size, 0, none⟩ = some (.int .u64 (f 0)) ∧ x.cell? ⟨w.heap.size, 1, none⟩ = some (.int .u64 (f 1)) ∧ x.cell? ⟨w.heap.size, 2, none⟩ = some (.int .u64 (f 2)) ∧ x.cell? ⟨w.heap.size, 3, none⟩ = some (.int .u64 (f 3)) ∧ x.cell? ⟨w.heap.size, 4, none⟩ = some (.int .u64 (f 4)) ∧ x.cell? ⟨w.heap.size, 5, none⟩ = some (.int .u64 (f 5))) ∧ (x.cell? ⟨w3.heap.size, 0, none⟩ = some (.int .u64 (h3 0)) ∧ x.cell? ⟨w3.heap.size, 1, none⟩ = some (.int .u64 (h3 1)) ∧ x.cell? ⟨w3.heap.size, 2, none⟩ = some (.int .u64 (h3 2)) ∧ x.cell? ⟨w3.heap.size, 3, none⟩ = some (.int .u64 (h3 3)) ∧ x.cell? ⟨w3.heap.size, 4, none⟩ = some (.int .u64 (h3 4)) ∧ x.cell? ⟨w3.heap.size, 5, none⟩ = some (.int .u64 (h3 5))) ∧ (x.cell? ⟨w4.heap.size, 0, none⟩ = some (.int .u64 (f 0)) ∧ x.cell? ⟨w4.heap.size, 1, none⟩ = some (.int .u64 (f 1)) ∧ x.cell? ⟨w4.heap.size, 2, none⟩ = some (.int .u64 (f 2)) ∧ x.cell? ⟨w4.heap.size, 3, none⟩ = some (.int .u64 (f 3)) ∧ x.cell? ⟨w4.heap.size, 4, none⟩ = some (.int .u64 (f 4)) ∧ x.cell? ⟨w4.heap.size, 5, none⟩ = some (.int .u64 (f 5))) ∧ (x.cell? ⟨w5.heap.size, 0, none⟩ = some (.int .u64 (h5 0)) ∧ x.cell? ⟨w5.heap.size, 1, none⟩ = some (.int .u64 (h5 1)) ∧ x.cell? ⟨w5.heap.size, 2, none⟩ = some (.int .u64 (h5 2)) ∧ x.cell? ⟨w5.heap.size, 3, none⟩ = some (.int .u64 (h5 3)) ∧ x.cell? ⟨w5.heap.size, 4, none⟩ = some (.int .u64 (h5 4)) ∧ x.cell? ⟨w5.heap.size, 5, none⟩ = some (.int .u64 (h5 5))) ∧ (x.cell? ⟨w6.heap.size, 0, none⟩ = some (.int .u64 (h6 0)) ∧ x.cell? ⟨w6.heap.size, 1, none⟩ = some (.int .u64 (h6 1)) ∧ x.cell? ⟨w6.heap.size, 2, none⟩ = some (.int .u64 (h6 2)) ∧ x.cell? ⟨w6.heap.size, 3, none⟩ = some (.int .u64 (h6 3)) ∧ x.cell? ⟨w6.heap.size, 4, none⟩ = some (.int .u64 (h6 4)) ∧ x.cell? ⟨w6.heap.size, 5, none⟩ = some (.int .u64 (h6 5)))) := fun x hx => ⟨at6 (ma6.at.below hx), at6 (m36.at.below hx), at6 (m46.at.below hx), at6 (m56.at.below hx), at6 (m6.at.below hx)⟩
  have C6 : Hid _ := c6
  have GW : Hid _ := HK.out.stay hgg c6
  have HE : Hid _ := he
  have BW : Hid (Below W.heap.size W W.drew) := (Below.refl _ _).drew
  have KP : Hid _ := powR_any f p n c g E
  unfold frv at KP
  clear ma6 m36 m46 m56 m6 c6 hgg
  go_region_held3 (fun x => (x.cell? ⟨w.heap.size, 0, none⟩ = some (.int .u64 (f 0)) ∧ x.cell? ⟨w.heap.size, 1, none⟩ = some (.int .u64 (f 1)) ∧ x.cell? ⟨w.heap.size, 2, none⟩ = some (.int .u64 (f 2)) ∧ x.cell? ⟨w.heap.size, 3, none⟩ = some (.int .u64 (f 3)) ∧ x.cell? ⟨w.heap.size, 4, none⟩ = some (.int .u64 (f 4)) ∧ x.cell? ⟨w.heap.size, 5, none⟩ = some (.int .u64 (f 5))) ∧ (x.cell? ⟨w3.heap.size, 0, none⟩ = some (.int .u64 (h3 0)) ∧ x.cell? ⟨w3.heap.size, 1, none⟩ = some (.int .u64 (h3 1)) ∧ x.cell? ⟨w3.heap.size, 2, none⟩ = some (.int .u64 (h3 2)) ∧ x.cell? ⟨w3.heap.size, 3, none⟩ = some (.int .u64 (h3 3)) ∧ x.cell? ⟨w3.heap.size, 4, none⟩ = some (.int .u64 (h3 4)) ∧ x.cell? ⟨w3.heap.size, 5, none⟩ = some (.int .u64 (h3 5))) ∧ (x.cell? ⟨w4.heap.size, 0, none⟩ = some (.int .u64 (f 0)) ∧ x.cell? ⟨w4.heap.size, 1, none⟩ = some (.int .u64 (f 1)) ∧ x.cell? ⟨w4.heap.size, 2, none⟩ = some (.int .u64 (f 2)) ∧ x.cell? ⟨w4.heap.size, 3, none⟩ = some (.int .u64 (f 3)) ∧ x.cell? ⟨w4.heap.size, 4, none⟩ = some (.int .u64 (f 4)) ∧ x.cell? ⟨w4.heap.size, 5, none⟩ = some (.int .u64 (f 5))) ∧ (x.cell? ⟨w5.heap.size, 0, none⟩ = some (.int .u64 (h5 0)) ∧ x.cell? ⟨w5.heap.size, 1, none⟩ = some (.int .u64 (h5 1)) ∧ x.cell? ⟨w5.heap.size, 2, none⟩ = some (.int .u64 (h5 2)) ∧ x.cell? ⟨w5.heap.size, 3, none⟩ = some (.int .u64 (h5 3)) ∧ x.cell? ⟨w5.heap.size, 4, none⟩ = some (.int .u64 (h5 4)) ∧ x.cell? ⟨w5.heap.size, 5, none⟩ = some (.int .u64 (h5 5))) ∧ (x.cell? ⟨w6.heap.size, 0, none⟩ = some (.int .u64 (h6 0)) ∧ x.cell? ⟨w6.heap.size, 1, none⟩ = some (.int .u64 (h6 1)) ∧ x.cell? ⟨w6.heap.size, 2, none⟩ = some (.int .u64 (h6 2)) ∧ x.cell? ⟨w6.heap.size, 3, none⟩ = some (.int .u64 (h6 3)) ∧ x.cell? ⟨w6.heap.size, 4, none⟩ = some (.int .u64 (h6 4)) ∧ x.cell? ⟨w6.heap.size, 5, none⟩ = some (.int .u64 (h6 5))))
    (exact HS.out _ BW.out)
    (first
    | (go_at_call 31; refine Calls.mono (FpOk.pow HK.out f p n c g E _ (HK.out.stay GW.out BW.out) RF.out LF.out (by omega) l1 l2 (AtK.below HE.out (Below.up C6.out (Nat.le_refl _) BW.out)) re hE) ?_; rintro e x5 ⟨h7, rfl, r7, v7, b7⟩; have BX := Below.up BW.out (Nat.le_refl _) b7; clear BW; have BW : Hid _ := BX; clear BX; have R7 : Hid _ := r7; have V7 : Hid _ := v7; clear b7 r7 v7)
    | (go_at_call 32; refine Calls.mono (KP.out _ RF.out LF.out (by omega) (AtK.below HE.out (Below.up C6.out (Nat.le_refl _) BW.out)) re hE) ?_; rintro e x6 ⟨v8, rfl, ⟨h8, rfl, r8, v8⟩, b8⟩; have BX := Below.up BW.out (Nat.le_refl _) b8; clear BW; have BW : Hid _ := BX; clear BX; have E2 := eq_yes R7.out r8 (V7.out.trans v8.symm); clear b8 r8 v8))
  all_goals
    go_wp2
    go_ret
    exact ⟨rfl, Below.up C6.out (Nat.le_refl _) BW.out⟩

set_option maxHeartbeats 4000000 in
theorem fpPowers_yes {G : World → Prop} (K : FpOk G) (f : Nat → Int) (p : Option Addr) (n c : Nat) (g : Nat → Int) (w : World) (hg : G w) (rf : Rg f 6) (he : At w p n g) (re : Rg g n) (l1 : n ≤ c) (l2 : c ≤ 9223372036854775807) (lf : val f 6 < RI) (hl : n ≤ 7) (E : Nat) (hE : val g n = (E : Int)) (hz : val f 6 ≠ 0) (hs : sq (val f 6) * sq (val f 6) % RI = val f 6) : Calls Tryd.prog 4 #[frv f, .slice p n c] w fun e w' => e = .returned (.bool true) ∧ Below w.heap.size w w' := by
  have hgg := hg
  have HK : Hid _ := K
  clear K
  have ma := mut_four w f 24
  have b0 := below_one w (.cells #[.int .u64 (f 0), .int .u64 (f 1), .int .u64 (f 2), .int .u64 (f 3), .int .u64 (f 4), .int .u64 (f 5)] 24)
  have z0 := World.size_alloc w (.cells #[.int .u64 (f 0), .int .u64 (f 1), .int .u64 (f 2), .int .u64 (f 3), .int .u64 (f 4), .int .u64 (f 5)] 24)
  have g0 := HK.out.stay hg b0
  have RF : Hid _ := rf
  unfold frv
  go_enter Tryd.func4, Tryd.ntmps4
  go_wp2_with fail
  generalize w.alloc (.cells #[.int .u64 (f 0), .int .u64 (f 1), .int .u64 (f 2), .int .u64 (f 3), .int .u64 (f 4), .int .u64 (f 5)] 24) = W0 at *
  refine Calls.mono (fpBegun HK.out _ g0) ?_
  rintro e w1 ⟨rfl, b1⟩
  have ma1 := ma.below b1 (by rw [z0]; omega)
  obtain ⟨x0, x1, x2, x3, x4, x5⟩ := ma1.cells6
  have MA : Hid _ := ma1
  have B1 : Hid _ := Below.up b0 (Nat.le_refl _) b1
  have KM : Hid _ := fun w => mayR_any f w rf
  unfold frv at KM
  rw [decide_eq_true lf] at KM
  clear ma ma1 b0 b1 z0 g0 hg rf
  go_wp2_with fail
  refine Calls.mono (KM.out _) ?_
  rintro e w2 ⟨rfl, b2⟩
  have LF : Hid _ := lf
  have HZ : Hid _ := hz
  have HSQ : Hid _ := hs
  clear hs
  have ma2 := MutK.below MA.out b2 (cell_lt x0)
  have c2 := Below.up B1.out (Nat.le_refl _) b2
  have g2 := HK.out.stay hgg c2
  obtain ⟨y0, y1, y2, y3, y4, y5⟩ := ma2.cells6
  clear b2 lf hz x0 x1 x2 x3 x4 x5 MA B1 KM
  go_wp2_with fail
  refine Calls.mono (FpOk.inv HK.out f _ g2 RF.out LF.out HZ.out) ?_
  rintro e w3 ⟨h3, rfl, r3, v3, b3⟩
  have a3 := below_one w3 (.cells #[.int .u64 (h3 0), .int .u64 (h3 1), .int .u64 (h3 2), .int .u64 (h3 3), .int .u64 (h3 4), .int .u64 (h3 5)] 24)
  have m3 := mut_four w3 h3 24
  have ma3 := MutK.below (MutK.below ma2 b3 (cell_lt ma2.cells6.1)) a3 (Nat.lt_of_lt_of_le (cell_lt ma2.cells6.1) b3.size)
  have c3 := Below.up (Below.up c2 (Nat.le_refl _) b3) (Nat.le_refl _) a3
  obtain ⟨x0, x1, x2, x3, x4, x5⟩ := ma3.cells6
  clear b3 a3 c2 g2 ma2 y0 y1 y2 y3 y4 y5
  go_wp2_with fail
  generalize w3.alloc (.cells #[.int .u64 (h3 0), .int .u64 (h3 1), .int .u64 (h3 2), .int .u64 (h3 3), .int .u64 (h3 4), .int .u64 (h3 5)] 24) = W3 at *
  have KI := invR_any f W3 RF.out LF.out HZ.out
  unfold frv at KI
  refine Calls.mono KI ?_
  rintro e w4 ⟨v4, rfl, ⟨h4, rfl, r4, v4⟩, b4⟩
  have E1 := eq_yes r3 r4 (v3.trans v4.symm)
  have a4 := below_one w4 (.cells #[.int .u64 (h4 0), .int .u64 (h4 1), .int .u64 (h4 2), .int .u64 (h4 3), .int .u64 (h4 4), .int .u64 (h4 5)] 24)
  have m4 := mut_four w4 h4 24
  have ma4 := MutK.below (MutK.below ma3 b4 (cell_lt ma3.cells6.1)) a4 (Nat.lt_of_lt_of_le (cell_lt ma3.cells6.1) b4.size)
  have m34 := MutK.below (MutK.below m3 b4 (cell_lt m3.cells6.1)) a4 (Nat.lt_of_lt_of_le (cell_lt m3.cells6.1) b4.size)
  have c4 := Below.up (Below.up c3 (Nat.le_refl _) b4) (Nat.le_refl _) a4
  clear x0 x1 x2 x3 x4 x5 b4 a4 c3 KI m3 ma3 r3 v3
  obtain ⟨x0, x1, x2, x3, x4, x5⟩ := ma4.cells6
  go_wp2_with fail
  generalize w4.alloc (.cells #[.int .u64 (h4 0), .int .u64 (h4 1), .int .u64 (h4 2), .int .u64 (h4 3), .int .u64 (h4 4), .int .u64 (h4 5)] 24) = W4 at *
  have g4 := HK.out.stay hgg c4
  refine Calls.mono (FpOk.sqrtYes HK.out f _ g4 RF.out LF.out HSQ.out) ?_
  rintro e w5 ⟨h5, rfl, r5, v5, b5⟩
  have a5 := below_one w5 (.cells #[.int .u64 (h5 0), .int .u64 (h5 1), .int .u64 (h5 2), .int .u64 (h5 3), .int .u64 (h5 4), .int .u64 (h5 5)] 24)
  have m5 := mut_four w5 h5 24
  have ma5 := MutK.below (MutK.below ma4 b5 (cell_lt ma4.cells6.1)) a5 (Nat.lt_of_lt_of_le (cell_lt ma4.cells6.1) b5.size)
  have m35 := MutK.below (MutK.below m34 b5 (cell_lt m34.cells6.1)) a5 (Nat.lt_of_lt_of_le (cell_lt m34.cells6.1) b5.size)
  have m45 := MutK.below (MutK.below m4 b5 (cell_lt m4.cells6.1)) a5 (Nat.lt_of_lt_of_le (cell_lt m4.cells6.1) b5.size)
  have c5 := Below.up (Below.up c4 (Nat.le_refl _) b5) (Nat.le_refl _) a5
  clear x0 x1 x2 x3 x4 x5 b5 a5 c4 m4 m34 ma4 g4
  obtain ⟨x0, x1, x2, x3, x4, x5⟩ := ma5.cells6
  go_wp2_with fail
  generalize w5.alloc (.cells #[.int .u64 (h5 0), .int .u64 (h5 1), .int .u64 (h5 2), .int .u64 (h5 3), .int .u64 (h5 4), .int .u64 (h5 5)] 24) = W5 at *
  refine Calls.mono (sqrtP_yes f W5 RF.out LF.out HSQ.out) ?_
  rintro e w6 ⟨h6, rfl, r6, v6, b6⟩
  have E3 := eq_yes r5 r6 (v5.trans v6.symm)
  have a6 := below_one w6 (.cells #[.int .u64 (h6 0), .int .u64 (h6 1), .int .u64 (h6 2), .int .u64 (h6 3), .int .u64 (h6 4), .int .u64 (h6 5)] 24)
  have m6 := mut_four w6 h6 24
  have ma6 := MutK.below (MutK.below ma5 b6 (cell_lt ma5.cells6.1)) a6 (Nat.lt_of_lt_of_le (cell_lt ma5.cells6.1) b6.size)
  have m36 := MutK.below (MutK.below m35 b6 (cell_lt m35.cells6.1)) a6 (Nat.lt_of_lt_of_le (cell_lt m35.cells6.1) b6.size)
  have m46 := MutK.below (MutK.below m45 b6 (cell_lt m45.cells6.1)) a6 (Nat.lt_of_lt_of_le (cell_lt m45.cells6.1) b6.size)
  have m56 := MutK.below (MutK.below m5 b6 (cell_lt m5.cells6.1)) a6 (Nat.lt_of_lt_of_le (cell_lt m5.cells6.1) b6.size)
  have c6 := Below.up (Below.up c5 (Nat.le_refl _) b6) (Nat.le_refl _) a6
  clear x0 x1 x2 x3 x4 x5 b6 a6 c5 m5 m35 m45 ma5 r5 v5 r6 v6
  go_wp2_with fail
  generalize w6.alloc (.cells #[.int .u64 (h6 0), .int .u64 (h6 1), .int .u64 (h6 2), .int .u64 (h6 3), .int .u64 (h6 4), .int .u64 (h6 5)] 24) = W at *
  have HS : Hid (∀ x, Below W.heap.size W x → (x.cell? ⟨w.heap.size, 0, none⟩ = some (.int .u64 (f 0)) ∧ x.cell? ⟨w.heap.size, 1, none⟩ = some (.int .u64 (f 1)) ∧ x.cell? ⟨w.heap.size, 2, none⟩ = some (.int .u64 (f 2)) ∧ x.cell? ⟨w.heap.size, 3, none⟩ = some (.int .u64 (f 3)) ∧ x.cell? ⟨w.heap.size, 4, none⟩ = some (.int .u64 (f 4)) ∧ x.cell? ⟨w.heap.size, 5, none⟩ = some (.int .u64 (f 5))) ∧ (x.cell? ⟨w3.heap.size, 0, none⟩ = some (.int .u64 (h3 0)) ∧ x.cell? ⟨w3.heap.size, 1, none⟩ = some (.int .u64 (h3 1)) ∧ x.cell? ⟨w3.heap.size, 2, none⟩ = some (.int .u64 (h3 2)) ∧ x.cell? ⟨w3.heap.size, 3, none⟩ = some (.int .u64 (h3 3)) ∧ x.cell? ⟨w3.heap.size, 4, none⟩ = some (.int .u64 (h3 4)) ∧ x.cell? ⟨w3.heap.size, 5, none⟩ = some (.int .u64 (h3 5))) ∧ (x.cell? ⟨w4.heap.size, 0, none⟩ = some (.int .u64 (h4 0)) ∧ x.cell? ⟨w4.heap.size, 1, none⟩ = some (.int .u64 (h4 1)) ∧ x.cell? ⟨w4.heap.size, 2, none⟩ = some (.int .u64 (h4 2)) ∧ x.cell? ⟨w4.heap.size, 3, none⟩ = some (.int .u64 (h4 3)) ∧ x.cell? ⟨w4.heap.size, 4, none⟩ = some (.int .u64 (h4 4)) ∧ x.cell? ⟨w4.heap.size, 5, none⟩ = some (.int .u64 (h4 5))) ∧ (x.cell? ⟨w5.heap.size, 0, none⟩ = some (.int .u64 (h5 0)) ∧ x.cell? ⟨w5.heap.size, 1, none⟩ = some (.int .u64 (h5 1)) ∧ x.cell? ⟨w5.heap.size, 2, none⟩ = some (.int .u64 (h5 2)) ∧ x.cell? ⟨w5.heap.size, 3, none⟩ = some (.int .u64 (h5 3)) ∧ x.cell? ⟨w5.heap.size, 4, none⟩ = some (.int .u64 (h5 4)) ∧ x.cell? ⟨w5.heap.size, 5, none⟩ = some (.int .u64 (h5 5))) ∧ (x.cell? ⟨w6.heap.size, 0, none⟩ = some (.int .u64 (h6 0)) ∧ x.cell? ⟨w6.heap.size, 1, none⟩ = some (.int .u64 (h6 1)) ∧ x.cell? ⟨w6.heap.size, 2, none⟩ = some (.int .u64 (h6 2)) ∧ x.cell? ⟨w6.heap.size, 3, none⟩ = some (.int .u64 (h6 3)) ∧ x.cell? ⟨w6.heap.size, 4, none⟩ = some (.int .u64 (h6 4)) ∧ x.cell? ⟨w6.heap.size, 5, none⟩ = some (.int .u64 (h6 5)))) := fun x hx => ⟨at6 (ma6.at.below hx), at6 (m36.at.below hx), at6 (m46.at.below hx), at6 (m56.at.below hx), at6 (m6.at.below hx)⟩
  have C6 : Hid _ := c6
  have GW : Hid _ := HK.out.stay hgg c6
  have HE : Hid _ := he
  have BW : Hid (Below W.heap.size W W.drew) := (Below.refl _ _).drew
  have KP : Hid _ := powR_any f p n c g E
  unfold frv at KP
  clear ma6 m36 m46 m56 m6 c6 hgg
  go_region_held3 (fun x => (x.cell? ⟨w.heap.size, 0, none⟩ = some (.int .u64 (f 0)) ∧ x.cell? ⟨w.heap.size, 1, none⟩ = some (.int .u64 (f 1)) ∧ x.cell? ⟨w.heap.size, 2, none⟩ = some (.int .u64 (f 2)) ∧ x.cell? ⟨w.heap.size, 3, none⟩ = some (.int .u64 (f 3)) ∧ x.cell? ⟨w.heap.size, 4, none⟩ = some (.int .u64 (f 4)) ∧ x.cell? ⟨w.heap.size, 5, none⟩ = some (.int .u64 (f 5))) ∧ (x.cell? ⟨w3.heap.size, 0, none⟩ = some (.int .u64 (h3 0)) ∧ x.cell? ⟨w3.heap.size, 1, none⟩ = some (.int .u64 (h3 1)) ∧ x.cell? ⟨w3.heap.size, 2, none⟩ = some (.int .u64 (h3 2)) ∧ x.cell? ⟨w3.heap.size, 3, none⟩ = some (.int .u64 (h3 3)) ∧ x.cell? ⟨w3.heap.size, 4, none⟩ = some (.int .u64 (h3 4)) ∧ x.cell? ⟨w3.heap.size, 5, none⟩ = some (.int .u64 (h3 5))) ∧ (x.cell? ⟨w4.heap.size, 0, none⟩ = some (.int .u64 (h4 0)) ∧ x.cell? ⟨w4.heap.size, 1, none⟩ = some (.int .u64 (h4 1)) ∧ x.cell? ⟨w4.heap.size, 2, none⟩ = some (.int .u64 (h4 2)) ∧ x.cell? ⟨w4.heap.size, 3, none⟩ = some (.int .u64 (h4 3)) ∧ x.cell? ⟨w4.heap.size, 4, none⟩ = some (.int .u64 (h4 4)) ∧ x.cell? ⟨w4.heap.size, 5, none⟩ = some (.int .u64 (h4 5))) ∧ (x.cell? ⟨w5.heap.size, 0, none⟩ = some (.int .u64 (h5 0)) ∧ x.cell? ⟨w5.heap.size, 1, none⟩ = some (.int .u64 (h5 1)) ∧ x.cell? ⟨w5.heap.size, 2, none⟩ = some (.int .u64 (h5 2)) ∧ x.cell? ⟨w5.heap.size, 3, none⟩ = some (.int .u64 (h5 3)) ∧ x.cell? ⟨w5.heap.size, 4, none⟩ = some (.int .u64 (h5 4)) ∧ x.cell? ⟨w5.heap.size, 5, none⟩ = some (.int .u64 (h5 5))) ∧ (x.cell? ⟨w6.heap.size, 0, none⟩ = some (.int .u64 (h6 0)) ∧ x.cell? ⟨w6.heap.size, 1, none⟩ = some (.int .u64 (h6 1)) ∧ x.cell? ⟨w6.heap.size, 2, none⟩ = some (.int .u64 (h6 2)) ∧ x.cell? ⟨w6.heap.size, 3, none⟩ = some (.int .u64 (h6 3)) ∧ x.cell? ⟨w6.heap.size, 4, none⟩ = some (.int .u64 (h6 4)) ∧ x.cell? ⟨w6.heap.size, 5, none⟩ = some (.int .u64 (h6 5))))
    (exact HS.out _ BW.out)
    (first
    | (go_at_call 31; refine Calls.mono (FpOk.pow HK.out f p n c g E _ (HK.out.stay GW.out BW.out) RF.out LF.out (by omega) l1 l2 (AtK.below HE.out (Below.up C6.out (Nat.le_refl _) BW.out)) re hE) ?_; rintro e x5 ⟨h7, rfl, r7, v7, b7⟩; have BX := Below.up BW.out (Nat.le_refl _) b7; clear BW; have BW : Hid _ := BX; clear BX; have R7 : Hid _ := r7; have V7 : Hid _ := v7; clear b7 r7 v7)
    | (go_at_call 32; refine Calls.mono (KP.out _ RF.out LF.out (by omega) (AtK.below HE.out (Below.up C6.out (Nat.le_refl _) BW.out)) re hE) ?_; rintro e x6 ⟨v8, rfl, ⟨h8, rfl, r8, v8⟩, b8⟩; have BX := Below.up BW.out (Nat.le_refl _) b8; clear BW; have BW : Hid _ := BX; clear BX; have E2 := eq_yes R7.out r8 (V7.out.trans v8.symm); clear b8 r8 v8))
  all_goals
    go_wp2
    go_ret
    exact ⟨rfl, Below.up C6.out (Nat.le_refl _) BW.out⟩

set_option maxHeartbeats 4000000 in
theorem fpPowers_no {G : World → Prop} (K : FpOk G) (f : Nat → Int) (p : Option Addr) (n c : Nat) (g : Nat → Int) (w : World) (hg : G w) (rf : Rg f 6) (he : At w p n g) (re : Rg g n) (l1 : n ≤ c) (l2 : c ≤ 9223372036854775807) (lf : val f 6 < RI) (hl : n ≤ 7) (E : Nat) (hE : val g n = (E : Int)) (hz : val f 6 ≠ 0) (hs : sq (val f 6) * sq (val f 6) % RI ≠ val f 6) : Calls Tryd.prog 4 #[frv f, .slice p n c] w fun e w' => e = .returned (.bool true) ∧ Below w.heap.size w w' := by
  have hgg := hg
  have HK : Hid _ := K
  clear K
  have ma := mut_four w f 24
  have b0 := below_one w (.cells #[.int .u64 (f 0), .int .u64 (f 1), .int .u64 (f 2), .int .u64 (f 3), .int .u64 (f 4), .int .u64 (f 5)] 24)
  have z0 := World.size_alloc w (.cells #[.int .u64 (f 0), .int .u64 (f 1), .int .u64 (f 2), .int .u64 (f 3), .int .u64 (f 4), .int .u64 (f 5)] 24)
  have g0 := HK.out.stay hg b0
  have RF : Hid _ := rf
  unfold frv
  go_enter Tryd.func4, Tryd.ntmps4
  go_wp2_with fail
  generalize w.alloc (.cells #[.int .u64 (f 0), .int .u64 (f 1), .int .u64 (f 2), .int .u64 (f 3), .int .u64 (f 4), .int .u64 (f 5)] 24) = W0 at *
  refine Calls.mono (fpBegun HK.out _ g0) ?_
  rintro e w1 ⟨rfl, b1⟩
  have ma1 := ma.below b1 (by rw [z0]; omega)
  obtain ⟨x0, x1, x2, x3, x4, x5⟩ := ma1.cells6
  have MA : Hid _ := ma1
  have B1 : Hid _ := Below.up b0 (Nat.le_refl _) b1
  have KM : Hid _ := fun w => mayR_any f w rf
  unfold frv at KM
  rw [decide_eq_true lf] at KM
  clear ma ma1 b0 b1 z0 g0 hg rf
  go_wp2_with fail
  refine Calls.mono (KM.out _) ?_
  rintro e w2 ⟨rfl, b2⟩
  have LF : Hid _ := lf
  have HZ : Hid _ := hz
  have HSQ : Hid _ := hs
  clear hs
  have ma2 := MutK.below MA.out b2 (cell_lt x0)
  have c2 := Below.up B1.out (Nat.le_refl _) b2
  have g2 := HK.out.stay hgg c2
  obtain ⟨y0, y1, y2, y3, y4, y5⟩ := ma2.cells6
  clear b2 lf hz x0 x1 x2 x3 x4 x5 MA B1 KM
  go_wp2_with fail
  refine Calls.mono (FpOk.inv HK.out f _ g2 RF.out LF.out HZ.out) ?_
  rintro e w3 ⟨h3, rfl, r3, v3, b3⟩
  have a3 := below_one w3 (.cells #[.int .u64 (h3 0), .int .u64 (h3 1), .int .u64 (h3 2), .int .u64 (h3 3), .int .u64 (h3 4), .int .u64 (h3 5)] 24)
  have m3 := mut_four w3 h3 24
  have ma3 := MutK.below (MutK.below ma2 b3 (cell_lt ma2.cells6.1)) a3 (Nat.lt_of_lt_of_le (cell_lt ma2.cells6.1) b3.size)
  have c3 := Below.up (Below.up c2 (Nat.le_refl _) b3) (Nat.le_refl _) a3
  obtain ⟨x0, x1, x2, x3, x4, x5⟩ := ma3.cells6
  clear b3 a3 c2 g2 ma2 y0 y1 y2 y3 y4 y5
  go_wp2_with fail
  generalize w3.alloc (.cells #[.int .u64 (h3 0), .int .u64 (h3 1), .int .u64 (h3 2), .int .u64 (h3 3), .int .u64 (h3 4), .int .u64 (h3 5)] 24) = W3 at *
  have KI := invR_any f W3 RF.out LF.out HZ.out
  unfold frv at KI
  refine Calls.mono KI ?_
  rintro e w4 ⟨v4, rfl, ⟨h4, rfl, r4, v4⟩, b4⟩
  have E1 := eq_yes r3 r4 (v3.trans v4.symm)
  have a4 := below_one w4 (.cells #[.int .u64 (h4 0), .int .u64 (h4 1), .int .u64 (h4 2), .int .u64 (h4 3), .int .u64 (h4 4), .int .u64 (h4 5)] 24)
  have m4 := mut_four w4 h4 24
  have ma4 := MutK.below (MutK.below ma3 b4 (cell_lt ma3.cells6.1)) a4 (Nat.lt_of_lt_of_le (cell_lt ma3.cells6.1) b4.size)
  have m34 := MutK.below (MutK.below m3 b4 (cell_lt m3.cells6.1)) a4 (Nat.lt_of_lt_of_le (cell_lt m3.cells6.1) b4.size)
  have c4 := Below.up (Below.up c3 (Nat.le_refl _) b4) (Nat.le_refl _) a4
  clear x0 x1 x2 x3 x4 x5 b4 a4 c3 KI m3 ma3 r3 v3
  obtain ⟨x0, x1, x2, x3, x4, x5⟩ := ma4.cells6
  go_wp2_with fail
  generalize w4.alloc (.cells #[.int .u64 (h4 0), .int .u64 (h4 1), .int .u64 (h4 2), .int .u64 (h4 3), .int .u64 (h4 4), .int .u64 (h4 5)] 24) = W4 at *
  have g4 := HK.out.stay hgg c4
  refine Calls.mono (FpOk.sqrtNo HK.out f _ g4 RF.out LF.out HSQ.out) ?_
  rintro e w5 ⟨h5, rfl, r5, v5, b5⟩
  have a5 := below_one w5 (.cells #[.int .u64 (h5 0), .int .u64 (h5 1), .int .u64 (h5 2), .int .u64 (h5 3), .int .u64 (h5 4), .int .u64 (h5 5)] 24)
  have m5 := mut_four w5 h5 24
  have ma5 := MutK.below (MutK.below ma4 b5 (cell_lt ma4.cells6.1)) a5 (Nat.lt_of_lt_of_le (cell_lt ma4.cells6.1) b5.size)
  have m35 := MutK.below (MutK.below m34 b5 (cell_lt m34.cells6.1)) a5 (Nat.lt_of_lt_of_le (cell_lt m34.cells6.1) b5.size)
  have m45 := MutK.below (MutK.below m4 b5 (cell_lt m4.cells6.1)) a5 (Nat.lt_of_lt_of_le (cell_lt m4.cells6.1) b5.size)
  have c5 := Below.up (Below.up c4 (Nat.le_refl _) b5) (Nat.le_refl _) a5
  clear x0 x1 x2 x3 x4 x5 b5 a5 c4 m4 m34 ma4 g4
  obtain ⟨x0, x1, x2, x3, x4, x5⟩ := ma5.cells6
  go_wp2_with fail
  generalize w5.alloc (.cells #[.int .u64 (h5 0), .int .u64 (h5 1), .int .u64 (h5 2), .int .u64 (h5 3), .int .u64 (h5 4), .int .u64 (h5 5)] 24) = W5 at *
  refine Calls.mono (sqrtP_no f W5 RF.out LF.out HSQ.out) ?_
  rintro e w6 ⟨h6, rfl, r6, v6, b6⟩
  have E3 := eq_yes r5 r6 (v5.trans v6.symm)
  have a6 := below_one w6 (.cells #[.int .u64 (h6 0), .int .u64 (h6 1), .int .u64 (h6 2), .int .u64 (h6 3), .int .u64 (h6 4), .int .u64 (h6 5)] 24)
  have m6 := mut_four w6 h6 24
  have ma6 := MutK.below (MutK.below ma5 b6 (cell_lt ma5.cells6.1)) a6 (Nat.lt_of_lt_of_le (cell_lt ma5.cells6.1) b6.size)
  have m36 := MutK.below (MutK.below m35 b6 (cell_lt m35.cells6.1)) a6 (Nat.lt_of_lt_of_le (cell_lt m35.cells6.1) b6.size)
  have m46 := MutK.below (MutK.below m45 b6 (cell_lt m45.cells6.1)) a6 (Nat.lt_of_lt_of_le (cell_lt m45.cells6.1) b6.size)
  have m56 := MutK.below (MutK.below m5 b6 (cell_lt m5.cells6.1)) a6 (Nat.lt_of_lt_of_le (cell_lt m5.cells6.1) b6.size)
  have c6 := Below.up (Below.up c5 (Nat.le_refl _) b6) (Nat.le_refl _) a6
  clear x0 x1 x2 x3 x4 x5 b6 a6 c5 m5 m35 m45 ma5 r5 v5 r6 v6
  go_wp2_with fail
  generalize w6.alloc (.cells #[.int .u64 (h6 0), .int .u64 (h6 1), .int .u64 (h6 2), .int .u64 (h6 3), .int .u64 (h6 4), .int .u64 (h6 5)] 24) = W at *
  have HS : Hid (∀ x, Below W.heap.size W x → (x.cell? ⟨w.heap.size, 0, none⟩ = some (.int .u64 (f 0)) ∧ x.cell? ⟨w.heap.size, 1, none⟩ = some (.int .u64 (f 1)) ∧ x.cell? ⟨w.heap.size, 2, none⟩ = some (.int .u64 (f 2)) ∧ x.cell? ⟨w.heap.size, 3, none⟩ = some (.int .u64 (f 3)) ∧ x.cell? ⟨w.heap.size, 4, none⟩ = some (.int .u64 (f 4)) ∧ x.cell? ⟨w.heap.size, 5, none⟩ = some (.int .u64 (f 5))) ∧ (x.cell? ⟨w3.heap.size, 0, none⟩ = some (.int .u64 (h3 0)) ∧ x.cell? ⟨w3.heap.size, 1, none⟩ = some (.int .u64 (h3 1)) ∧ x.cell? ⟨w3.heap.size, 2, none⟩ = some (.int .u64 (h3 2)) ∧ x.cell? ⟨w3.heap.size, 3, none⟩ = some (.int .u64 (h3 3)) ∧ x.cell? ⟨w3.heap.size, 4, none⟩ = some (.int .u64 (h3 4)) ∧ x.cell? ⟨w3.heap.size, 5, none⟩ = some (.int .u64 (h3 5))) ∧ (x.cell? ⟨w4.heap.size, 0, none⟩ = some (.int .u64 (h4 0)) ∧ x.cell? ⟨w4.heap.size, 1, none⟩ = some (.int .u64 (h4 1)) ∧ x.cell? ⟨w4.heap.size, 2, none⟩ = some (.int .u64 (h4 2)) ∧ x.cell? ⟨w4.heap.size, 3, none⟩ = some (.int .u64 (h4 3)) ∧ x.cell? ⟨w4.heap.size, 4, none⟩ = some (.int .u64 (h4 4)) ∧ x.cell? ⟨w4.heap.size, 5, none⟩ = some (.int .u64 (h4 5))) ∧ (x.cell? ⟨w5.heap.size, 0, none⟩ = some (.int .u64 (h5 0)) ∧ x.cell? ⟨w5.heap.size, 1, none⟩ = some (.int .u64 (h5 1)) ∧ x.cell? ⟨w5.heap.size, 2, none⟩ = some (.int .u64 (h5 2)) ∧ x.cell? ⟨w5.heap.size, 3, none⟩ = some (.int .u64 (h5 3)) ∧ x.cell? ⟨w5.heap.size, 4, none⟩ = some (.int .u64 (h5 4)) ∧ x.cell? ⟨w5.heap.size, 5, none⟩ = some (.int .u64 (h5 5))) ∧ (x.cell? ⟨w6.heap.size, 0, none⟩ = some (.int .u64 (h6 0)) ∧ x.cell? ⟨w6.heap.size, 1, none⟩ = some (.int .u64 (h6 1)) ∧ x.cell? ⟨w6.heap.size, 2, none⟩ = some (.int .u64 (h6 2)) ∧ x.cell? ⟨w6.heap.size, 3, none⟩ = some (.int .u64 (h6 3)) ∧ x.cell? ⟨w6.heap.size, 4, none⟩ = some (.int .u64 (h6 4)) ∧ x.cell? ⟨w6.heap.size, 5, none⟩ = some (.int .u64 (h6 5)))) := fun x hx => ⟨at6 (ma6.at.below hx), at6 (m36.at.below hx), at6 (m46.at.below hx), at6 (m56.at.below hx), at6 (m6.at.below hx)⟩
  have C6 : Hid _ := c6
  have GW : Hid _ := HK.out.stay hgg c6
  have HE : Hid _ := he
  have BW : Hid (Below W.heap.size W W.drew) := (Below.refl _ _).drew
  have KP : Hid _ := powR_any f p n c g E
  unfold frv at KP
  clear ma6 m36 m46 m56 m6 c6 hgg
  go_region_held3 (fun x => (x.cell? ⟨w.heap.size, 0, none⟩ = some (.int .u64 (f 0)) ∧ x.cell? ⟨w.heap.size, 1, none⟩ = some (.int .u64 (f 1)) ∧ x.cell? ⟨w.heap.size, 2, none⟩ = some (.int .u64 (f 2)) ∧ x.cell? ⟨w.heap.size, 3, none⟩ = some (.int .u64 (f 3)) ∧ x.cell? ⟨w.heap.size, 4, none⟩ = some (.int .u64 (f 4)) ∧ x.cell? ⟨w.heap.size, 5, none⟩ = some (.int .u64 (f 5))) ∧ (x.cell? ⟨w3.heap.size, 0, none⟩ = some (.int .u64 (h3 0)) ∧ x.cell? ⟨w3.heap.size, 1, none⟩ = some (.int .u64 (h3 1)) ∧ x.cell? ⟨w3.heap.size, 2, none⟩ = some (.int .u64 (h3 2)) ∧ x.cell? ⟨w3.heap.size, 3, none⟩ = some (.int .u64 (h3 3)) ∧ x.cell? ⟨w3.heap.size, 4, none⟩ = some (.int .u64 (h3 4)) ∧ x.cell? ⟨w3.heap.size, 5, none⟩ = some (.int .u64 (h3 5))) ∧ (x.cell? ⟨w4.heap.size, 0, none⟩ = some (.int .u64 (h4 0)) ∧ x.cell? ⟨w4.heap.size, 1, none⟩ = some (.int .u64 (h4 1)) ∧ x.cell? ⟨w4.heap.size, 2, none⟩ = some (.int .u64 (h4 2)) ∧ x.cell? ⟨w4.heap.size, 3, none⟩ = some (.int .u64 (h4 3)) ∧ x.cell? ⟨w4.heap.size, 4, none⟩ = some (.int .u64 (h4 4)) ∧ x.cell? ⟨w4.heap.size, 5, none⟩ = some (.int .u64 (h4 5))) ∧ (x.cell? ⟨w5.heap.size, 0, none⟩ = some (.int .u64 (h5 0)) ∧ x.cell? ⟨w5.heap.size, 1, none⟩ = some (.int .u64 (h5 1)) ∧ x.cell? ⟨w5.heap.size, 2, none⟩ = some (.int .u64 (h5 2)) ∧ x.cell? ⟨w5.heap.size, 3, none⟩ = some (.int .u64 (h5 3)) ∧ x.cell? ⟨w5.heap.size, 4, none⟩ = some (.int .u64 (h5 4)) ∧ x.cell? ⟨w5.heap.size, 5, none⟩ = some (.int .u64 (h5 5))) ∧ (x.cell? ⟨w6.heap.size, 0, none⟩ = some (.int .u64 (h6 0)) ∧ x.cell? ⟨w6.heap.size, 1, none⟩ = some (.int .u64 (h6 1)) ∧ x.cell? ⟨w6.heap.size, 2, none⟩ = some (.int .u64 (h6 2)) ∧ x.cell? ⟨w6.heap.size, 3, none⟩ = some (.int .u64 (h6 3)) ∧ x.cell? ⟨w6.heap.size, 4, none⟩ = some (.int .u64 (h6 4)) ∧ x.cell? ⟨w6.heap.size, 5, none⟩ = some (.int .u64 (h6 5))))
    (exact HS.out _ BW.out)
    (first
    | (go_at_call 31; refine Calls.mono (FpOk.pow HK.out f p n c g E _ (HK.out.stay GW.out BW.out) RF.out LF.out (by omega) l1 l2 (AtK.below HE.out (Below.up C6.out (Nat.le_refl _) BW.out)) re hE) ?_; rintro e x5 ⟨h7, rfl, r7, v7, b7⟩; have BX := Below.up BW.out (Nat.le_refl _) b7; clear BW; have BW : Hid _ := BX; clear BX; have R7 : Hid _ := r7; have V7 : Hid _ := v7; clear b7 r7 v7)
    | (go_at_call 32; refine Calls.mono (KP.out _ RF.out LF.out (by omega) (AtK.below HE.out (Below.up C6.out (Nat.le_refl _) BW.out)) re hE) ?_; rintro e x6 ⟨v8, rfl, ⟨h8, rfl, r8, v8⟩, b8⟩; have BX := Below.up BW.out (Nat.le_refl _) b8; clear BW; have BW : Hid _ := BX; clear BX; have E2 := eq_yes R7.out r8 (V7.out.trans v8.symm); clear b8 r8 v8))
  all_goals
    go_wp2
    go_ret
    exact ⟨rfl, Below.up C6.out (Nat.le_refl _) BW.out⟩

theorem fpPowers_walk {G : World → Prop} (K : FpOk G) (f : Nat → Int) (p : Option Addr) (n c : Nat) (g : Nat → Int) (w : World) (hg : G w) (rf : Rg f 6) (he : At w p n g) (re : Rg g n) (l1 : n ≤ c) (l2 : c ≤ 9223372036854775807) : Calls Tryd.prog 4 #[frv f, .slice p n c] w fun e w' => e = .returned (.bool true) ∧ Below w.heap.size w w' := by
  by_cases lf : val f 6 < RI
  · by_cases hl : n ≤ 7
    · obtain ⟨E, hE⟩ := Int.eq_ofNat_of_zero_le (val_bd re).1
      by_cases hz : val f 6 = 0
      · exact fpPowers_zero K f p n c g w hg rf he re l1 l2 lf hl E hE hz
      · by_cases hs : sq (val f 6) * sq (val f 6) % RI = val f 6
        · exact fpPowers_yes K f p n c g w hg rf he re l1 l2 lf hl E hE hz hs
        · exact fpPowers_no K f p n c g w hg rf he re l1 l2 lf hl E hE hz hs
    · exact fpPowers_long K f p n c g w hg rf he re l1 l2 lf (by omega)
  · exact fpPowers_not K f p n c g w hg rf he re l1 l2 (by omega)
end Go.Proofs.YtgdmjngajjoliaaDoor.fpn
