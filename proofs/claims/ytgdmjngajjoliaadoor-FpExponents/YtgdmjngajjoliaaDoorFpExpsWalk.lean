/- The statement FpExponents's walk, package fr answering as it should. -/
import Derived.Test.YtgdmjngajjoliaaDoorSC
namespace Go.Proofs.YtgdmjngajjoliaaDoor.fpn
open Go.RowKit
attribute [local go_sem ↓] Go.wp_at_zero Go.wp_at_succ
set_option linter.unusedVariables false

theorem fpExps_not {G : World → Prop} (K : FpOk G) (f : Nat → Int) (pd : Option Addr) (nd cd : Nat) (d : Nat → Int) (pe : Option Addr) (ne ce : Nat) (g : Nat → Int) (w : World) (hg : G w) (rf : Rg f 6) (hd : At w pd nd d) (rd : Rg d nd) (d1 : nd ≤ cd) (d2 : cd ≤ 9223372036854775807) (he : At w pe ne g) (re : Rg g ne) (l1 : ne ≤ ce) (l2 : ce ≤ 9223372036854775807) (lf : RI ≤ val f 6) : Calls Tryd.prog 8 #[frv f, .slice pd nd cd, .slice pe ne ce] w fun e w' => e = .returned (.bool true) ∧ Below w.heap.size w w' := by
  have HK : Hid _ := K
  clear K
  have hgg := hg
  have ma := mut_four w f 24
  have b0 := below_one w (.cells #[.int .u64 (f 0), .int .u64 (f 1), .int .u64 (f 2), .int .u64 (f 3), .int .u64 (f 4), .int .u64 (f 5)] 24)
  have z0 := World.size_alloc w (.cells #[.int .u64 (f 0), .int .u64 (f 1), .int .u64 (f 2), .int .u64 (f 3), .int .u64 (f 4), .int .u64 (f 5)] 24)
  have g0 := HK.out.stay hg b0
  have RF : Hid _ := rf
  unfold frv
  go_enter Tryd.func8, Tryd.ntmps8
  go_wp2_with fail
  generalize w.alloc (.cells #[.int .u64 (f 0), .int .u64 (f 1), .int .u64 (f 2), .int .u64 (f 3), .int .u64 (f 4), .int .u64 (f 5)] 24) = W0 at *
  refine Calls.mono (fpBegun HK.out _ g0) ?_
  rintro e w1 ⟨rfl, b1⟩
  have ma1 := ma.below b1 (by rw [z0]; omega)
  obtain ⟨x0, x1, x2, x3, x4, x5⟩ := ma1.cells6
  have MA : Hid _ := ma1
  have B1 : Hid _ := Below.up b0 (Nat.le_refl _) b1
  have KM : Hid _ := fun w => mayR_any f w rf
  unfold frv at KM
  rw [decide_eq_false (show ¬ val f 6 < RI by omega)] at KM
  clear ma ma1 b0 b1 z0 g0 hg rf
  go_wp2_with fail
  refine Calls.mono (KM.out _) ?_
  rintro e w2 ⟨rfl, b2⟩
  have BF : Hid _ := Below.up B1.out (Nat.le_refl _) b2
  clear b2 lf
  go_wp2
  go_ret
  exact ⟨rfl, BF.out⟩

theorem fpExps_longd {G : World → Prop} (K : FpOk G) (f : Nat → Int) (pd : Option Addr) (nd cd : Nat) (d : Nat → Int) (pe : Option Addr) (ne ce : Nat) (g : Nat → Int) (w : World) (hg : G w) (rf : Rg f 6) (hd : At w pd nd d) (rd : Rg d nd) (d1 : nd ≤ cd) (d2 : cd ≤ 9223372036854775807) (he : At w pe ne g) (re : Rg g ne) (l1 : ne ≤ ce) (l2 : ce ≤ 9223372036854775807) (lf : val f 6 < RI) (hl : 5 < nd) : Calls Tryd.prog 8 #[frv f, .slice pd nd cd, .slice pe ne ce] w fun e w' => e = .returned (.bool true) ∧ Below w.heap.size w w' := by
  have HK : Hid _ := K
  clear K
  have hgg := hg
  have ma := mut_four w f 24
  have b0 := below_one w (.cells #[.int .u64 (f 0), .int .u64 (f 1), .int .u64 (f 2), .int .u64 (f 3), .int .u64 (f 4), .int .u64 (f 5)] 24)
  have z0 := World.size_alloc w (.cells #[.int .u64 (f 0), .int .u64 (f 1), .int .u64 (f 2), .int .u64 (f 3), .int .u64 (f 4), .int .u64 (f 5)] 24)
  have g0 := HK.out.stay hg b0
  have RF : Hid _ := rf
  unfold frv
  go_enter Tryd.func8, Tryd.ntmps8
  go_wp2_with fail
  generalize w.alloc (.cells #[.int .u64 (f 0), .int .u64 (f 1), .int .u64 (f 2), .int .u64 (f 3), .int .u64 (f 4), .int .u64 (f 5)] 24) = W0 at *
  refine Calls.mono (fpBegun HK.out _ g0) ?_
  rintro e w1 ⟨rfl, b1⟩
  have ma1 := ma.below b1 (by rw [z0]; omega)
  obtain ⟨x0, x1, x2, x3, x4, x5⟩ := ma1.cells6
  have MA : Hid _ := ma1
  have B1 : Hid _ := Below.up b0 (Nat.le_refl _) b1
  have KM : Hid _ := fun w => mayR_any f w rf
  unfold frv at KM
  rw [decide_eq_true lf] at KM
  clear ma ma1 b0 b1 z0 g0 hg rf
  go_wp2_with fail
  refine Calls.mono (KM.out _) ?_
  rintro e w2 ⟨rfl, b2⟩
  have BF : Hid _ := Below.up B1.out (Nat.le_refl _) b2
  clear b2 lf
  go_wp2
  go_ret
  exact ⟨rfl, BF.out⟩

theorem fpExps_longe {G : World → Prop} (K : FpOk G) (f : Nat → Int) (pd : Option Addr) (nd cd : Nat) (d : Nat → Int) (pe : Option Addr) (ne ce : Nat) (g : Nat → Int) (w : World) (hg : G w) (rf : Rg f 6) (hd : At w pd nd d) (rd : Rg d nd) (d1 : nd ≤ cd) (d2 : cd ≤ 9223372036854775807) (he : At w pe ne g) (re : Rg g ne) (l1 : ne ≤ ce) (l2 : ce ≤ 9223372036854775807) (lf : val f 6 < RI) (hd4 : nd ≤ 5) (hl : 5 < ne) : Calls Tryd.prog 8 #[frv f, .slice pd nd cd, .slice pe ne ce] w fun e w' => e = .returned (.bool true) ∧ Below w.heap.size w w' := by
  have HK : Hid _ := K
  clear K
  have hgg := hg
  have ma := mut_four w f 24
  have b0 := below_one w (.cells #[.int .u64 (f 0), .int .u64 (f 1), .int .u64 (f 2), .int .u64 (f 3), .int .u64 (f 4), .int .u64 (f 5)] 24)
  have z0 := World.size_alloc w (.cells #[.int .u64 (f 0), .int .u64 (f 1), .int .u64 (f 2), .int .u64 (f 3), .int .u64 (f 4), .int .u64 (f 5)] 24)
  have g0 := HK.out.stay hg b0
  have RF : Hid _ := rf
  unfold frv
  go_enter Tryd.func8, Tryd.ntmps8
  go_wp2_with fail
  generalize w.alloc (.cells #[.int .u64 (f 0), .int .u64 (f 1), .int .u64 (f 2), .int .u64 (f 3), .int .u64 (f 4), .int .u64 (f 5)] 24) = W0 at *
  refine Calls.mono (fpBegun HK.out _ g0) ?_
  rintro e w1 ⟨rfl, b1⟩
  have ma1 := ma.below b1 (by rw [z0]; omega)
  obtain ⟨x0, x1, x2, x3, x4, x5⟩ := ma1.cells6
  have MA : Hid _ := ma1
  have B1 : Hid _ := Below.up b0 (Nat.le_refl _) b1
  have KM : Hid _ := fun w => mayR_any f w rf
  unfold frv at KM
  rw [decide_eq_true lf] at KM
  clear ma ma1 b0 b1 z0 g0 hg rf
  go_wp2_with fail
  refine Calls.mono (KM.out _) ?_
  rintro e w2 ⟨rfl, b2⟩
  have BF : Hid _ := Below.up B1.out (Nat.le_refl _) b2
  clear b2 lf
  go_wp2
  go_ret
  exact ⟨rfl, BF.out⟩

set_option maxHeartbeats 2000000 in
theorem fpExps_in {G : World → Prop} (K : FpOk G) (f : Nat → Int) (pd : Option Addr) (nd cd : Nat) (d : Nat → Int) (pe : Option Addr) (ne ce : Nat) (g : Nat → Int) (w : World) (hg : G w) (rf : Rg f 6) (hd : At w pd nd d) (rd : Rg d nd) (d1 : nd ≤ cd) (d2 : cd ≤ 9223372036854775807) (he : At w pe ne g) (re : Rg g ne) (l1 : ne ≤ ce) (l2 : ce ≤ 9223372036854775807) (lf : val f 6 < RI) (hd4 : nd ≤ 5) (he4 : ne ≤ 5) (D E : Nat) (hD : val d nd = (D : Int)) (hE : val g ne = (E : Int)) (hz : val f 6 ≠ 0) : Calls Tryd.prog 8 #[frv f, .slice pd nd cd, .slice pe ne ce] w fun e w' => e = .returned (.bool true) ∧ Below w.heap.size w w' := by
  have HK : Hid _ := K
  clear K
  have hgg := hg
  have ma := mut_four w f 24
  have b0 := below_one w (.cells #[.int .u64 (f 0), .int .u64 (f 1), .int .u64 (f 2), .int .u64 (f 3), .int .u64 (f 4), .int .u64 (f 5)] 24)
  have z0 := World.size_alloc w (.cells #[.int .u64 (f 0), .int .u64 (f 1), .int .u64 (f 2), .int .u64 (f 3), .int .u64 (f 4), .int .u64 (f 5)] 24)
  have g0 := HK.out.stay hg b0
  have RF : Hid _ := rf
  unfold frv
  go_enter Tryd.func8, Tryd.ntmps8
  go_wp2_with fail
  generalize w.alloc (.cells #[.int .u64 (f 0), .int .u64 (f 1), .int .u64 (f 2), .int .u64 (f 3), .int .u64 (f 4), .int .u64 (f 5)] 24) = W0 at *
  refine Calls.mono (fpBegun HK.out _ g0) ?_
  rintro e w1 ⟨rfl, b1⟩
  have ma1 := ma.below b1 (by rw [z0]; omega)
  obtain ⟨x0, x1, x2, x3, x4, x5⟩ := ma1.cells6
  have MA : Hid _ := ma1
  have B1 : Hid _ := Below.up b0 (Nat.le_refl _) b1
  have KM : Hid _ := fun w => mayR_any f w rf
  unfold frv at KM
  rw [decide_eq_true lf] at KM
  clear ma ma1 b0 b1 z0 g0 hg rf
  go_wp2_with fail
  refine Calls.mono (KM.out _) ?_
  rintro e w2 ⟨rfl, b2⟩
  have LF : Hid _ := lf
  have HZ : Hid _ := hz
  have ma2 := MutK.below MA.out b2 (cell_lt x0)
  have bl2 : w.heap.size < w2.heap.size := cell_lt ma2.cells6.1
  have c2 := Below.up B1.out (Nat.le_refl _) b2
  have g2 := HK.out.stay hgg c2
  clear b2 lf hz x0 x1 x2 x3 x4 x5 MA B1
  go_wp2_with fail
  refine Calls.mono (FpOk.r HK.out _ g2) ?_
  rintro e w3 ⟨pr, cr, rfl, ar, q1, q2, b3⟩
  have a3 := below_one w3 (.cells #[.int .u64 1] 22)
  have K1 : Hid _ := refLess_any pr (some ⟨w3.heap.size, 0, none⟩) 6 1 cr 1 rL (one 1) _ q1 q2 (by omega) (by omega) (ar.below a3) (at_one w3 1 22) rL_rg (one_rg (b64 (by decide) (by decide)) 1) (by rw [rL_val, val_one]; decide) (by omega) (by omega)
  rw [rL_val, val_one] at K1
  have ma3 := (ma2.below b3 bl2).below a3 (by have := b3.size; omega)
  have c3 := Below.up (Below.up c2 (Nat.le_refl _) b3) (Nat.le_refl _) a3
  have bl3 : w.heap.size < (w3.alloc (.cells #[.int .u64 1] 22)).heap.size := cell_lt ma3.cells6.1
  clear b3 a3 c2 g2 ma2 bl2 ar q1 q2
  go_wp2_with fail
  generalize w3.alloc (.cells #[.int .u64 1] 22) = W3 at *
  refine Calls.mono K1.out ?_
  rintro e w4 ⟨v4, rfl, b4, p4, n4, k4, h4, rfl, l3, l4, l5, a4, r4, -, v4⟩
  have ma4 := ma3.below b4 bl3
  have c4 := Below.up c3 (Nat.le_refl _) b4
  have g4 := HK.out.stay hgg c4
  clear K1 ma3 c3 b4 bl3
  go_wp2_with fail
  refine Calls.mono (FpOk.of HK.out 1 _ g4 (b64 (by decide) (by decide))) ?_
  rintro e w5 ⟨h5, rfl, r5, v5, b5⟩
  have a5 := below_one w5 (.cells #[.int .u64 (h5 0), .int .u64 (h5 1), .int .u64 (h5 2), .int .u64 (h5 3), .int .u64 (h5 4), .int .u64 (h5 5)] 24)
  have z5 := World.size_alloc w5 (.cells #[.int .u64 (h5 0), .int .u64 (h5 1), .int .u64 (h5 2), .int .u64 (h5 3), .int .u64 (h5 4), .int .u64 (h5 5)] 24)
  have m5 := mut_four w5 h5 24
  have bl5 : w.heap.size < w5.heap.size := by have := cell_lt ma4.cells6.1; have := b5.size; simp only at *; omega
  have ma5 := (ma4.below b5 (cell_lt ma4.cells6.1)).below a5 bl5
  have c5 := Below.up (Below.up c4 (Nat.le_refl _) b5) (Nat.le_refl _) a5
  have g5 := HK.out.stay hgg c5
  have A4 : Hid _ := a4
  have BB5 : Hid _ := Below.up b5 (Nat.le_refl _) a5
  have L45 : Hid (w4.heap.size ≤ w5.heap.size) := b5.size
  clear ma4 b5 c4 g4 a5 a4
  go_wp2_with fail
  generalize w5.alloc (.cells #[.int .u64 (h5 0), .int .u64 (h5 1), .int .u64 (h5 2), .int .u64 (h5 3), .int .u64 (h5 4), .int .u64 (h5 5)] 24) = W5 at *
  obtain ⟨x0, x1, x2, x3, x4, x5⟩ := ma5.cells6
  have HMA : Hid _ := ma5
  have HM5 : Hid _ := m5
  have Z5 : Hid _ := z5
  have BL5 : Hid _ := bl5
  have G5 : Hid _ := g5
  have C5 : Hid _ := c5
  have R5 : Hid _ := r5
  have V5 : Hid _ := v5
  clear ma5 m5 z5 bl5 g5 c5 r5 v5
  go_region_with (go_at_call 21; refine Calls.mono (FpOk.of HK.out 0 _ ?_ (b64 (by decide) (by decide))) ?_; (first | exact G5.out | exact HK.out.stay G5.out (Below.refl _ _).drew); rintro e w6 ⟨h6, rfl, r6, v6, b6⟩; have E0 := eq_no RF.out r6 (by rw [v6]; exact HZ.out); have b6' : Below W5.heap.size W5 w6 := (by first | exact b6 | exact below_drew b6); obtain ⟨e0, e1, e2, e3, e4, e5⟩ := (MutK.below HMA.out b6' (by rw [Z5.out]; have := BL5.out; omega)).cells6; have B6 : Hid _ := b6'; clear b6 b6' r6 v6)
  all_goals
    have ma6 := MutK.below HMA.out B6.out (by rw [Z5.out]; have := BL5.out; omega)
    have m6 := MutK.below HM5.out B6.out (by rw [Z5.out]; omega)
    have bl6 : w5.heap.size < w6.heap.size := cell_lt m6.cells6.1
    have c6 := Below.up C5.out (Nat.le_refl _) B6.out
    have bb6 := Below.up BB5.out (Nat.le_refl _) B6.out
    clear HMA HM5 Z5 G5 B6 C5 BB5 x0 x1 x2 x3 x4 x5
    have M7 : Hid _ := m6
    have MA7 : Hid _ := ma6
    have C7 : Hid _ := c6
    have BB7 : Hid _ := bb6
    clear m6 ma6 c6 bb6 bl6
    go_wp2_with fail
    generalize w6 = W at *
    have HS : Hid (∀ x, Below W.heap.size W x → (x.cell? ⟨w.heap.size, 0, none⟩ = some (.int .u64 (f 0)) ∧ x.cell? ⟨w.heap.size, 1, none⟩ = some (.int .u64 (f 1)) ∧ x.cell? ⟨w.heap.size, 2, none⟩ = some (.int .u64 (f 2)) ∧ x.cell? ⟨w.heap.size, 3, none⟩ = some (.int .u64 (f 3)) ∧ x.cell? ⟨w.heap.size, 4, none⟩ = some (.int .u64 (f 4)) ∧ x.cell? ⟨w.heap.size, 5, none⟩ = some (.int .u64 (f 5))) ∧ (x.cell? ⟨w5.heap.size, 0, none⟩ = some (.int .u64 (h5 0)) ∧ x.cell? ⟨w5.heap.size, 1, none⟩ = some (.int .u64 (h5 1)) ∧ x.cell? ⟨w5.heap.size, 2, none⟩ = some (.int .u64 (h5 2)) ∧ x.cell? ⟨w5.heap.size, 3, none⟩ = some (.int .u64 (h5 3)) ∧ x.cell? ⟨w5.heap.size, 4, none⟩ = some (.int .u64 (h5 4)) ∧ x.cell? ⟨w5.heap.size, 5, none⟩ = some (.int .u64 (h5 5)))) := fun x hx => ⟨(MutK.below MA7.out hx (cell_lt (MutK.cells6 MA7.out).1)).cells6, (MutK.below M7.out hx (cell_lt (MutK.cells6 M7.out).1)).cells6⟩
    have GW : Hid _ := HK.out.stay hgg C7.out
    have HHD : Hid _ := hd
    have HHE : Hid _ := he
    have BW : Hid (Below W.heap.size W W.drew) := (Below.refl _ _).drew
    have T1 : Hid True := trivial
    have T2 : Hid True := trivial
    have T3 : Hid True := trivial
    have T4 : Hid True := trivial
    have T5 : Hid True := trivial
    have T6 : Hid True := trivial
    have T7 : Hid True := trivial
    have T8 : Hid True := trivial
    clear hd he hgg
    go_region_held3 (fun x => (x.cell? ⟨w.heap.size, 0, none⟩ = some (.int .u64 (f 0)) ∧ x.cell? ⟨w.heap.size, 1, none⟩ = some (.int .u64 (f 1)) ∧ x.cell? ⟨w.heap.size, 2, none⟩ = some (.int .u64 (f 2)) ∧ x.cell? ⟨w.heap.size, 3, none⟩ = some (.int .u64 (f 3)) ∧ x.cell? ⟨w.heap.size, 4, none⟩ = some (.int .u64 (f 4)) ∧ x.cell? ⟨w.heap.size, 5, none⟩ = some (.int .u64 (f 5))) ∧ (x.cell? ⟨w5.heap.size, 0, none⟩ = some (.int .u64 (h5 0)) ∧ x.cell? ⟨w5.heap.size, 1, none⟩ = some (.int .u64 (h5 1)) ∧ x.cell? ⟨w5.heap.size, 2, none⟩ = some (.int .u64 (h5 2)) ∧ x.cell? ⟨w5.heap.size, 3, none⟩ = some (.int .u64 (h5 3)) ∧ x.cell? ⟨w5.heap.size, 4, none⟩ = some (.int .u64 (h5 4)) ∧ x.cell? ⟨w5.heap.size, 5, none⟩ = some (.int .u64 (h5 5))))
      (exact HS.out _ BW.out)
      (first
      | (clear T1; go_at_call 31; refine Calls.mono (FpOk.pow HK.out f pd nd cd d D _ (HK.out.stay GW.out BW.out) RF.out LF.out (by omega) d1 d2 (AtK.below HHD.out (Below.up C7.out (Nat.le_refl _) BW.out)) rd hD) ?_; rintro e y1 ⟨s1, rfl, r1, v1, b1⟩; have BX := Below.up BW.out (Nat.le_refl _) b1; clear BW; have BW : Hid _ := BX; clear BX; have R1 : Hid _ := r1; have V1 : Hid _ := v1; clear b1 r1 v1)
      | (clear T2; go_at_call 31; refine Calls.mono (FpOk.pow HK.out f pe ne ce g E _ (HK.out.stay GW.out BW.out) RF.out LF.out (by omega) l1 l2 (AtK.below HHE.out (Below.up C7.out (Nat.le_refl _) BW.out)) re hE) ?_; rintro e y2 ⟨s2, rfl, r2, v2, b2⟩; have BX := Below.up BW.out (Nat.le_refl _) b2; clear BW; have BW : Hid _ := BX; clear BX; have R2 : Hid _ := r2; have V2 : Hid _ := v2; clear b2 r2 v2)
      | (clear T3; go_at_call 18; refine Calls.mono (FpOk.mul HK.out s1 s2 _ (HK.out.stay GW.out BW.out) R1.out R2.out (by rw [V1.out]; exact modR_lt _) (by rw [V2.out]; exact modR_lt _)) ?_; rintro e y3 ⟨s3, rfl, r3, v3, b3⟩; have BX := Below.up BW.out (Nat.le_refl _) b3; clear BW; have BW : Hid _ := BX; clear BX; have R3 : Hid _ := r3; have V3 : Hid _ := v3; clear b3 r3 v3)
      | (clear T4; go_at_call 38; refine Calls.mono (refSum_any pd pe nd ne cd ce d g _ d1 d2 l1 l2 (AtK.below HHD.out (Below.up C7.out (Nat.le_refl _) BW.out)) (AtK.below HHE.out (Below.up C7.out (Nat.le_refl _) BW.out)) rd re (by omega) (by omega)) ?_; rintro e y4 ⟨vs, rfl, b4, ps, ns, cs, hs, rfl, o1, o2, o3, asm, rs, -, es⟩; have BX := Below.up BW.out (Nat.le_refl _) b4; clear BW; have BW : Hid _ := BX; clear BX; have AS : Hid _ := asm; have RS : Hid _ := rs; have ES : Hid (val hs ns = ((D + E : Nat) : Int)) := (by show _ = _; rw [es, hD, hE]; exact (Int.natCast_add D E).symm); clear b4 asm rs es)
      | (clear T5; go_at_call 31; refine Calls.mono (FpOk.pow HK.out f ps ns cs hs (D + E) _ (HK.out.stay GW.out BW.out) RF.out LF.out (by omega) o1 o2 AS.out RS.out ES.out) ?_; rintro e y5 ⟨s5, rfl, r5, v5, b5⟩; have BX := Below.up BW.out (Nat.le_refl _) b5; clear BW; have BW : Hid _ := BX; clear BX; have E1 := eq_yes R3.out r5 (by rw [V3.out, V1.out, V2.out, v5, mul_mod_l, mul_mod_r, ← Int.pow_add]); clear b5 r5 v5 AS RS ES)
      | (clear T6; go_at_call 31; refine Calls.mono (FpOk.pow HK.out f p4 n4 k4 h4 (RN - 1) _ (HK.out.stay GW.out BW.out) RF.out LF.out (by omega) l3 l4 (AtK.below A4.out (Below.up BB7.out (Nat.le_refl _) BW.out)) r4 (by rw [v4, RI_RN]; rfl)) ?_; rintro e y6 ⟨s6, rfl, r6, v6, b6⟩; have BX := Below.up BW.out (Nat.le_refl _) b6; clear BW; have BW : Hid _ := BX; clear BX; have E2 := eq_yes r6 R5.out (by rw [v6, V5.out]; exact fermatI (val_bd RF.out).1 HZ.out LF.out); clear b6 r6 v6)
      | (clear T7; go_at_call 31; refine Calls.mono (FpOk.pow HK.out f none 0 0 Z 0 _ (HK.out.stay GW.out BW.out) RF.out LF.out (by omega) (by omega) (by omega) AtK.nil (Z_rg 0) rfl) ?_; rintro e y7 ⟨s7, rfl, r7, v7, b7⟩; have BX := Below.up BW.out (Nat.le_refl _) b7; clear BW; have BW : Hid _ := BX; clear BX; have R7 : Hid _ := r7; have V7 : Hid _ := v7; clear b7 r7 v7)
      | (clear T8; go_at_call 21; refine Calls.mono (FpOk.of HK.out 1 _ (HK.out.stay GW.out BW.out) (b64 (by decide) (by decide))) ?_; rintro e y8 ⟨s8, rfl, r8, v8, b8⟩; have BX := Below.up BW.out (Nat.le_refl _) b8; clear BW; have BW : Hid _ := BX; clear BX; have E3 := eq_yes R7.out r8 (by rw [V7.out, v8, Int.pow_zero]; decide); clear b8 r8 v8)
      )
    all_goals
      go_wp2
      go_ret
      exact ⟨rfl, Below.up C7.out (Nat.le_refl _) BW.out⟩

set_option maxHeartbeats 2000000 in
theorem fpExps_zero {G : World → Prop} (K : FpOk G) (f : Nat → Int) (pd : Option Addr) (nd cd : Nat) (d : Nat → Int) (pe : Option Addr) (ne ce : Nat) (g : Nat → Int) (w : World) (hg : G w) (rf : Rg f 6) (hd : At w pd nd d) (rd : Rg d nd) (d1 : nd ≤ cd) (d2 : cd ≤ 9223372036854775807) (he : At w pe ne g) (re : Rg g ne) (l1 : ne ≤ ce) (l2 : ce ≤ 9223372036854775807) (lf : val f 6 < RI) (hd4 : nd ≤ 5) (he4 : ne ≤ 5) (D E : Nat) (hD : val d nd = (D : Int)) (hE : val g ne = (E : Int)) (hz : val f 6 = 0) : Calls Tryd.prog 8 #[frv f, .slice pd nd cd, .slice pe ne ce] w fun e w' => e = .returned (.bool true) ∧ Below w.heap.size w w' := by
  have HK : Hid _ := K
  clear K
  have hgg := hg
  have ma := mut_four w f 24
  have b0 := below_one w (.cells #[.int .u64 (f 0), .int .u64 (f 1), .int .u64 (f 2), .int .u64 (f 3), .int .u64 (f 4), .int .u64 (f 5)] 24)
  have z0 := World.size_alloc w (.cells #[.int .u64 (f 0), .int .u64 (f 1), .int .u64 (f 2), .int .u64 (f 3), .int .u64 (f 4), .int .u64 (f 5)] 24)
  have g0 := HK.out.stay hg b0
  have RF : Hid _ := rf
  unfold frv
  go_enter Tryd.func8, Tryd.ntmps8
  go_wp2_with fail
  generalize w.alloc (.cells #[.int .u64 (f 0), .int .u64 (f 1), .int .u64 (f 2), .int .u64 (f 3), .int .u64 (f 4), .int .u64 (f 5)] 24) = W0 at *
  refine Calls.mono (fpBegun HK.out _ g0) ?_
  rintro e w1 ⟨rfl, b1⟩
  have ma1 := ma.below b1 (by rw [z0]; omega)
  obtain ⟨x0, x1, x2, x3, x4, x5⟩ := ma1.cells6
  have MA : Hid _ := ma1
  have B1 : Hid _ := Below.up b0 (Nat.le_refl _) b1
  have KM : Hid _ := fun w => mayR_any f w rf
  unfold frv at KM
  rw [decide_eq_true lf] at KM
  clear ma ma1 b0 b1 z0 g0 hg rf
  go_wp2_with fail
  refine Calls.mono (KM.out _) ?_
  rintro e w2 ⟨rfl, b2⟩
  have LF : Hid _ := lf
  have HZ : Hid _ := hz
  have ma2 := MutK.below MA.out b2 (cell_lt x0)
  have bl2 : w.heap.size < w2.heap.size := cell_lt ma2.cells6.1
  have c2 := Below.up B1.out (Nat.le_refl _) b2
  have g2 := HK.out.stay hgg c2
  clear b2 lf hz x0 x1 x2 x3 x4 x5 MA B1
  go_wp2_with fail
  refine Calls.mono (FpOk.r HK.out _ g2) ?_
  rintro e w3 ⟨pr, cr, rfl, ar, q1, q2, b3⟩
  have a3 := below_one w3 (.cells #[.int .u64 1] 22)
  have K1 : Hid _ := refLess_any pr (some ⟨w3.heap.size, 0, none⟩) 6 1 cr 1 rL (one 1) _ q1 q2 (by omega) (by omega) (ar.below a3) (at_one w3 1 22) rL_rg (one_rg (b64 (by decide) (by decide)) 1) (by rw [rL_val, val_one]; decide) (by omega) (by omega)
  rw [rL_val, val_one] at K1
  have ma3 := (ma2.below b3 bl2).below a3 (by have := b3.size; omega)
  have c3 := Below.up (Below.up c2 (Nat.le_refl _) b3) (Nat.le_refl _) a3
  have bl3 : w.heap.size < (w3.alloc (.cells #[.int .u64 1] 22)).heap.size := cell_lt ma3.cells6.1
  clear b3 a3 c2 g2 ma2 bl2 ar q1 q2
  go_wp2_with fail
  generalize w3.alloc (.cells #[.int .u64 1] 22) = W3 at *
  refine Calls.mono K1.out ?_
  rintro e w4 ⟨v4, rfl, b4, p4, n4, k4, h4, rfl, l3, l4, l5, a4, r4, -, v4⟩
  have ma4 := ma3.below b4 bl3
  have c4 := Below.up c3 (Nat.le_refl _) b4
  have g4 := HK.out.stay hgg c4
  clear K1 ma3 c3 b4 bl3
  go_wp2_with fail
  refine Calls.mono (FpOk.of HK.out 1 _ g4 (b64 (by decide) (by decide))) ?_
  rintro e w5 ⟨h5, rfl, r5, v5, b5⟩
  have a5 := below_one w5 (.cells #[.int .u64 (h5 0), .int .u64 (h5 1), .int .u64 (h5 2), .int .u64 (h5 3), .int .u64 (h5 4), .int .u64 (h5 5)] 24)
  have z5 := World.size_alloc w5 (.cells #[.int .u64 (h5 0), .int .u64 (h5 1), .int .u64 (h5 2), .int .u64 (h5 3), .int .u64 (h5 4), .int .u64 (h5 5)] 24)
  have m5 := mut_four w5 h5 24
  have bl5 : w.heap.size < w5.heap.size := by have := cell_lt ma4.cells6.1; have := b5.size; simp only at *; omega
  have ma5 := (ma4.below b5 (cell_lt ma4.cells6.1)).below a5 bl5
  have c5 := Below.up (Below.up c4 (Nat.le_refl _) b5) (Nat.le_refl _) a5
  have g5 := HK.out.stay hgg c5
  have A4 : Hid _ := a4
  have BB5 : Hid _ := Below.up b5 (Nat.le_refl _) a5
  have L45 : Hid (w4.heap.size ≤ w5.heap.size) := b5.size
  clear ma4 b5 c4 g4 a5 a4
  go_wp2_with fail
  generalize w5.alloc (.cells #[.int .u64 (h5 0), .int .u64 (h5 1), .int .u64 (h5 2), .int .u64 (h5 3), .int .u64 (h5 4), .int .u64 (h5 5)] 24) = W5 at *
  obtain ⟨x0, x1, x2, x3, x4, x5⟩ := ma5.cells6
  have HMA : Hid _ := ma5
  have HM5 : Hid _ := m5
  have Z5 : Hid _ := z5
  have BL5 : Hid _ := bl5
  have G5 : Hid _ := g5
  have C5 : Hid _ := c5
  have R5 : Hid _ := r5
  have V5 : Hid _ := v5
  clear ma5 m5 z5 bl5 g5 c5 r5 v5
  go_region_with (go_at_call 21; refine Calls.mono (FpOk.of HK.out 0 _ ?_ (b64 (by decide) (by decide))) ?_; (first | exact G5.out | exact HK.out.stay G5.out (Below.refl _ _).drew); rintro e w6 ⟨h6, rfl, r6, v6, b6⟩; have E0 := eq_yes RF.out r6 (by rw [v6]; exact HZ.out); have b6' : Below W5.heap.size W5 w6 := (by first | exact b6 | exact below_drew b6); obtain ⟨e0, e1, e2, e3, e4, e5⟩ := (MutK.below HMA.out b6' (by rw [Z5.out]; have := BL5.out; omega)).cells6; have B6 : Hid _ := b6'; clear b6 b6' r6 v6)
  all_goals
    have ma6 := MutK.below HMA.out B6.out (by rw [Z5.out]; have := BL5.out; omega)
    have m6 := MutK.below HM5.out B6.out (by rw [Z5.out]; omega)
    have bl6 : w5.heap.size < w6.heap.size := cell_lt m6.cells6.1
    have c6 := Below.up C5.out (Nat.le_refl _) B6.out
    have bb6 := Below.up BB5.out (Nat.le_refl _) B6.out
    clear HMA HM5 Z5 G5 B6 C5 BB5 x0 x1 x2 x3 x4 x5
    obtain ⟨y0, y1, y2, y3, y4, y5⟩ := m6.cells6
    obtain ⟨z0, z1, z2, z3, z4, z5⟩ := m6.free6
    have m7 := mut_set6 m6 f
    have ma7 := mut_not6 ma6 (show w.heap.size ≠ w5.heap.size by have := BL5.out; omega) (.int .u64 (f 0)) (.int .u64 (f 1)) (.int .u64 (f 2)) (.int .u64 (f 3)) (.int .u64 (f 4)) (.int .u64 (f 5))
    have c7 := below_set6 c6 (show w.heap.size ≤ w5.heap.size by have := BL5.out; omega) (.int .u64 (f 0)) (.int .u64 (f 1)) (.int .u64 (f 2)) (.int .u64 (f 3)) (.int .u64 (f 4)) (.int .u64 (f 5))
    have bb7 := below_set6 bb6 L45.out (.int .u64 (f 0)) (.int .u64 (f 1)) (.int .u64 (f 2)) (.int .u64 (f 3)) (.int .u64 (f 4)) (.int .u64 (f 5))
    have M7 : Hid _ := m7
    have MA7 : Hid _ := ma7
    have C7 : Hid _ := c7
    have BB7 : Hid _ := bb7
    clear m6 ma6 c6 bb6 bl6 m7 ma7 c7 bb7
    go_wp2_with fail
    generalize (((((w6.setCell ⟨w5.heap.size, 0, none⟩ (.int .u64 (f 0))).setCell ⟨w5.heap.size, 1, none⟩ (.int .u64 (f 1))).setCell ⟨w5.heap.size, 2, none⟩ (.int .u64 (f 2))).setCell ⟨w5.heap.size, 3, none⟩ (.int .u64 (f 3))).setCell ⟨w5.heap.size, 4, none⟩ (.int .u64 (f 4))).setCell ⟨w5.heap.size, 5, none⟩ (.int .u64 (f 5)) = W at *
    have HS : Hid (∀ x, Below W.heap.size W x → (x.cell? ⟨w.heap.size, 0, none⟩ = some (.int .u64 (f 0)) ∧ x.cell? ⟨w.heap.size, 1, none⟩ = some (.int .u64 (f 1)) ∧ x.cell? ⟨w.heap.size, 2, none⟩ = some (.int .u64 (f 2)) ∧ x.cell? ⟨w.heap.size, 3, none⟩ = some (.int .u64 (f 3)) ∧ x.cell? ⟨w.heap.size, 4, none⟩ = some (.int .u64 (f 4)) ∧ x.cell? ⟨w.heap.size, 5, none⟩ = some (.int .u64 (f 5))) ∧ (x.cell? ⟨w5.heap.size, 0, none⟩ = some (.int .u64 (f 0)) ∧ x.cell? ⟨w5.heap.size, 1, none⟩ = some (.int .u64 (f 1)) ∧ x.cell? ⟨w5.heap.size, 2, none⟩ = some (.int .u64 (f 2)) ∧ x.cell? ⟨w5.heap.size, 3, none⟩ = some (.int .u64 (f 3)) ∧ x.cell? ⟨w5.heap.size, 4, none⟩ = some (.int .u64 (f 4)) ∧ x.cell? ⟨w5.heap.size, 5, none⟩ = some (.int .u64 (f 5)))) := fun x hx => ⟨(MutK.below MA7.out hx (cell_lt (MutK.cells6 MA7.out).1)).cells6, (MutK.below M7.out hx (cell_lt (MutK.cells6 M7.out).1)).cells6⟩
    have GW : Hid _ := HK.out.stay hgg C7.out
    have HHD : Hid _ := hd
    have HHE : Hid _ := he
    have BW : Hid (Below W.heap.size W W.drew) := (Below.refl _ _).drew
    have T1 : Hid True := trivial
    have T2 : Hid True := trivial
    have T3 : Hid True := trivial
    have T4 : Hid True := trivial
    have T5 : Hid True := trivial
    have T6 : Hid True := trivial
    have T7 : Hid True := trivial
    have T8 : Hid True := trivial
    clear hd he hgg
    go_region_held3 (fun x => (x.cell? ⟨w.heap.size, 0, none⟩ = some (.int .u64 (f 0)) ∧ x.cell? ⟨w.heap.size, 1, none⟩ = some (.int .u64 (f 1)) ∧ x.cell? ⟨w.heap.size, 2, none⟩ = some (.int .u64 (f 2)) ∧ x.cell? ⟨w.heap.size, 3, none⟩ = some (.int .u64 (f 3)) ∧ x.cell? ⟨w.heap.size, 4, none⟩ = some (.int .u64 (f 4)) ∧ x.cell? ⟨w.heap.size, 5, none⟩ = some (.int .u64 (f 5))) ∧ (x.cell? ⟨w5.heap.size, 0, none⟩ = some (.int .u64 (f 0)) ∧ x.cell? ⟨w5.heap.size, 1, none⟩ = some (.int .u64 (f 1)) ∧ x.cell? ⟨w5.heap.size, 2, none⟩ = some (.int .u64 (f 2)) ∧ x.cell? ⟨w5.heap.size, 3, none⟩ = some (.int .u64 (f 3)) ∧ x.cell? ⟨w5.heap.size, 4, none⟩ = some (.int .u64 (f 4)) ∧ x.cell? ⟨w5.heap.size, 5, none⟩ = some (.int .u64 (f 5))))
      (exact HS.out _ BW.out)
      (first
      | (clear T1; go_at_call 31; refine Calls.mono (FpOk.pow HK.out f pd nd cd d D _ (HK.out.stay GW.out BW.out) RF.out LF.out (by omega) d1 d2 (AtK.below HHD.out (Below.up C7.out (Nat.le_refl _) BW.out)) rd hD) ?_; rintro e y1 ⟨s1, rfl, r1, v1, b1⟩; have BX := Below.up BW.out (Nat.le_refl _) b1; clear BW; have BW : Hid _ := BX; clear BX; have R1 : Hid _ := r1; have V1 : Hid _ := v1; clear b1 r1 v1)
      | (clear T2; go_at_call 31; refine Calls.mono (FpOk.pow HK.out f pe ne ce g E _ (HK.out.stay GW.out BW.out) RF.out LF.out (by omega) l1 l2 (AtK.below HHE.out (Below.up C7.out (Nat.le_refl _) BW.out)) re hE) ?_; rintro e y2 ⟨s2, rfl, r2, v2, b2⟩; have BX := Below.up BW.out (Nat.le_refl _) b2; clear BW; have BW : Hid _ := BX; clear BX; have R2 : Hid _ := r2; have V2 : Hid _ := v2; clear b2 r2 v2)
      | (clear T3; go_at_call 18; refine Calls.mono (FpOk.mul HK.out s1 s2 _ (HK.out.stay GW.out BW.out) R1.out R2.out (by rw [V1.out]; exact modR_lt _) (by rw [V2.out]; exact modR_lt _)) ?_; rintro e y3 ⟨s3, rfl, r3, v3, b3⟩; have BX := Below.up BW.out (Nat.le_refl _) b3; clear BW; have BW : Hid _ := BX; clear BX; have R3 : Hid _ := r3; have V3 : Hid _ := v3; clear b3 r3 v3)
      | (clear T4; go_at_call 38; refine Calls.mono (refSum_any pd pe nd ne cd ce d g _ d1 d2 l1 l2 (AtK.below HHD.out (Below.up C7.out (Nat.le_refl _) BW.out)) (AtK.below HHE.out (Below.up C7.out (Nat.le_refl _) BW.out)) rd re (by omega) (by omega)) ?_; rintro e y4 ⟨vs, rfl, b4, ps, ns, cs, hs, rfl, o1, o2, o3, asm, rs, -, es⟩; have BX := Below.up BW.out (Nat.le_refl _) b4; clear BW; have BW : Hid _ := BX; clear BX; have AS : Hid _ := asm; have RS : Hid _ := rs; have ES : Hid (val hs ns = ((D + E : Nat) : Int)) := (by show _ = _; rw [es, hD, hE]; exact (Int.natCast_add D E).symm); clear b4 asm rs es)
      | (clear T5; go_at_call 31; refine Calls.mono (FpOk.pow HK.out f ps ns cs hs (D + E) _ (HK.out.stay GW.out BW.out) RF.out LF.out (by omega) o1 o2 AS.out RS.out ES.out) ?_; rintro e y5 ⟨s5, rfl, r5, v5, b5⟩; have BX := Below.up BW.out (Nat.le_refl _) b5; clear BW; have BW : Hid _ := BX; clear BX; have E1 := eq_yes R3.out r5 (by rw [V3.out, V1.out, V2.out, v5, mul_mod_l, mul_mod_r, ← Int.pow_add]); clear b5 r5 v5 AS RS ES)
      | (clear T6; go_at_call 31; refine Calls.mono (FpOk.pow HK.out f p4 n4 k4 h4 (RN - 1) _ (HK.out.stay GW.out BW.out) RF.out LF.out (by omega) l3 l4 (AtK.below A4.out (Below.up BB7.out (Nat.le_refl _) BW.out)) r4 (by rw [v4, RI_RN]; rfl)) ?_; rintro e y6 ⟨s6, rfl, r6, v6, b6⟩; have BX := Below.up BW.out (Nat.le_refl _) b6; clear BW; have BW : Hid _ := BX; clear BX; have E2 := eq_yes r6 RF.out (by rw [v6, HZ.out]; exact zero_pow_R); clear b6 r6 v6)
      | (clear T7; go_at_call 31; refine Calls.mono (FpOk.pow HK.out f none 0 0 Z 0 _ (HK.out.stay GW.out BW.out) RF.out LF.out (by omega) (by omega) (by omega) AtK.nil (Z_rg 0) rfl) ?_; rintro e y7 ⟨s7, rfl, r7, v7, b7⟩; have BX := Below.up BW.out (Nat.le_refl _) b7; clear BW; have BW : Hid _ := BX; clear BX; have R7 : Hid _ := r7; have V7 : Hid _ := v7; clear b7 r7 v7)
      | (clear T8; go_at_call 21; refine Calls.mono (FpOk.of HK.out 1 _ (HK.out.stay GW.out BW.out) (b64 (by decide) (by decide))) ?_; rintro e y8 ⟨s8, rfl, r8, v8, b8⟩; have BX := Below.up BW.out (Nat.le_refl _) b8; clear BW; have BW : Hid _ := BX; clear BX; have E3 := eq_yes R7.out r8 (by rw [V7.out, v8, Int.pow_zero]; decide); clear b8 r8 v8)
      )
    all_goals
      go_wp2
      go_ret
      exact ⟨rfl, Below.up C7.out (Nat.le_refl _) BW.out⟩

theorem fpExps_walk {G : World → Prop} (K : FpOk G) (f : Nat → Int) (pd : Option Addr) (nd cd : Nat) (d : Nat → Int) (pe : Option Addr) (ne ce : Nat) (g : Nat → Int) (w : World) (hg : G w) (rf : Rg f 6) (hd : At w pd nd d) (rd : Rg d nd) (d1 : nd ≤ cd) (d2 : cd ≤ 9223372036854775807) (he : At w pe ne g) (re : Rg g ne) (l1 : ne ≤ ce) (l2 : ce ≤ 9223372036854775807) : Calls Tryd.prog 8 #[frv f, .slice pd nd cd, .slice pe ne ce] w fun e w' => e = .returned (.bool true) ∧ Below w.heap.size w w' := by
  by_cases lf : val f 6 < RI
  · by_cases hd4 : nd ≤ 5
    · by_cases he4 : ne ≤ 5
      · obtain ⟨D, hD⟩ := Int.eq_ofNat_of_zero_le (val_bd rd).1
        obtain ⟨E, hE⟩ := Int.eq_ofNat_of_zero_le (val_bd re).1
        by_cases hz : val f 6 = 0
        · exact fpExps_zero K f pd nd cd d pe ne ce g w hg rf hd rd d1 d2 he re l1 l2 lf hd4 he4 D E hD hE hz
        · exact fpExps_in K f pd nd cd d pe ne ce g w hg rf hd rd d1 d2 he re l1 l2 lf hd4 he4 D E hD hE hz
      · exact fpExps_longe K f pd nd cd d pe ne ce g w hg rf hd rd d1 d2 he re l1 l2 lf hd4 (by omega)
    · exact fpExps_longd K f pd nd cd d pe ne ce g w hg rf hd rd d1 d2 he re l1 l2 lf (by omega)
  · exact fpExps_not K f pd nd cd d pe ne ce g w hg rf hd rd d1 d2 he re l1 l2 (by omega)
end Go.Proofs.YtgdmjngajjoliaaDoor.fpn
