/- The statement FpSquares's walk, package fp answering as it should: cases. -/
import Derived.Test.YtgdmjngajjoliaaDoorTB
namespace Go.Proofs.YtgdmjngajjoliaaDoor.fpn
open Go.RowKit
attribute [local go_sem ↓] Go.wp_at_zero Go.wp_at_succ
set_option linter.unusedVariables false
set_option linter.unusedSimpArgs false

set_option maxHeartbeats 4000000 in
theorem fpSquares_minusSG {G : World → Prop} (K : FpOk G) (f : Nat → Int) (w : World) (hg : G w) (rf : Rg f 6) (lf : val f 6 < RI) (hz : val f 6 ≠ 0) (hx : sq (val f 6) * sq (val f 6) % RI ≠ val f 6) (hy : sq ((0 - val f 6) % RI) * sq ((0 - val f 6) % RI) % RI = (0 - val f 6) % RI) (ho : lesser (sq (val f 6 * val f 6 % RI)) = val f 6) (hga : RI / 2 < val f 6) (hgb : ¬ RI / 2 < (0 - val f 6) % RI) : Calls Tryd.prog 7 #[frv f] w fun e w' => e = .returned (.bool true) ∧ Below w.heap.size w w' := by
  have hgg := hg
  have HK : Hid _ := K
  clear K
  have ma := mut_four w f 24
  have b0 := below_one w (.cells #[.int .u64 (f 0), .int .u64 (f 1), .int .u64 (f 2), .int .u64 (f 3), .int .u64 (f 4), .int .u64 (f 5)] 24)
  have z0 := World.size_alloc w (.cells #[.int .u64 (f 0), .int .u64 (f 1), .int .u64 (f 2), .int .u64 (f 3), .int .u64 (f 4), .int .u64 (f 5)] 24)
  have g0 := HK.out.stay hg b0
  have RF : Hid _ := rf
  unfold frv
  go_enter Tryd.func7, Tryd.ntmps7
  go_wp2_with fail
  generalize w.alloc (.cells #[.int .u64 (f 0), .int .u64 (f 1), .int .u64 (f 2), .int .u64 (f 3), .int .u64 (f 4), .int .u64 (f 5)] 24) = W0 at *
  refine Calls.mono (fpBegun HK.out _ g0) ?_
  rintro e w1 ⟨rfl, b1⟩
  have ma1 := ma.below b1 (by rw [z0]; omega)
  obtain ⟨x0, x1, x2, x3, x4, x5⟩ := ma1.cells6
  have MA : Hid _ := ma1
  have B1 : Hid _ := Below.up b0 (Nat.le_refl _) b1
  have KM : Hid _ := fun w => mayR_any f w rf
  unfold frv at KM
  rw [decide_eq_true lf] at KM
  clear ma ma1 b0 b1 z0 g0 hg rf
  go_wp2_with fail
  refine Calls.mono (KM.out _) ?_
  rintro e w2 ⟨rfl, b2⟩
  have LF : Hid _ := lf
  have HZ : Hid _ := hz
  have HO : Hid _ := ho
  have HGA : Hid _ := hga
  have HGB : Hid _ := hgb
  clear hga hgb
  have HX : Hid _ := hx
  have HY : Hid _ := hy
  clear hx hy
  have ma2 := MutK.below MA.out b2 (cell_lt x0)
  have c2 := Below.up B1.out (Nat.le_refl _) b2
  have g2 := HK.out.stay hgg c2
  obtain ⟨y0, y1, y2, y3, y4, y5⟩ := ma2.cells6
  clear b2 lf hz ho x0 x1 x2 x3 x4 x5 MA B1 KM
  go_wp2_with fail
  refine Calls.mono (FpOk.mul HK.out f f _ g2 RF.out RF.out LF.out LF.out) ?_
  rintro e w3 ⟨h3, rfl, r3, v3, b3⟩
  have c3 := Below.up c2 (Nat.le_refl _) b3
  have g3 := HK.out.stay hgg c3
  have ma3 := MutK.below ma2 b3 (cell_lt ma2.cells6.1)
  have l3 : val h3 6 < RI := by rw [v3]; exact modR_lt _
  have f0 : 0 ≤ val f 6 := (val_bd RF.out).1
  clear b3 c2 g2 ma2 y0 y1 y2 y3 y4 y5
  go_wp2_with fail
  refine Calls.mono (FpOk.sqrtYes HK.out h3 _ g3 r3 l3 (by rw [v3]; exact square_root f0 LF.out)) ?_
  rintro e w4 ⟨h4, rfl, r4, v4, b4⟩
  rw [v3] at v4
  have V4 : Hid _ := v4
  have R4 : Hid _ := r4
  have a4 := below_one w4 (.cells #[.int .u64 (h4 0), .int .u64 (h4 1), .int .u64 (h4 2), .int .u64 (h4 3), .int .u64 (h4 4), .int .u64 (h4 5)] 24)
  have c4 := Below.up (Below.up c3 (Nat.le_refl _) b4) (Nat.le_refl _) a4
  have ma4 := MutK.below (MutK.below ma3 b4 (cell_lt ma3.cells6.1)) a4 (Nat.lt_of_lt_of_le (cell_lt ma3.cells6.1) b4.size)
  have mr4 := mut_four w4 h4 24
  obtain ⟨x0, x1, x2, x3, x4, x5⟩ := ma4.cells6
  clear b4 a4 c3 g3 ma3 r3 v3 l3 v4 r4
  go_wp2_with fail
  generalize w4.alloc (.cells #[.int .u64 (h4 0), .int .u64 (h4 1), .int .u64 (h4 2), .int .u64 (h4 3), .int .u64 (h4 4), .int .u64 (h4 5)] 24) = W4 at *
  have g5 := HK.out.stay hgg c4
  refine Calls.mono (FpOk.sqrtNo HK.out f _ g5 RF.out LF.out HX.out) ?_
  rintro e w5 ⟨h5, rfl, r5, v5, b5⟩
  have a5 := below_one w5 (.cells #[.int .u64 (h5 0), .int .u64 (h5 1), .int .u64 (h5 2), .int .u64 (h5 3), .int .u64 (h5 4), .int .u64 (h5 5)] 24)
  have c5 := Below.up (Below.up c4 (Nat.le_refl _) b5) (Nat.le_refl _) a5
  have ma5 := MutK.below (MutK.below ma4 b5 (cell_lt ma4.cells6.1)) a5 (Nat.lt_of_lt_of_le (cell_lt ma4.cells6.1) b5.size)
  have mr5 := MutK.below (MutK.below mr4 b5 (cell_lt mr4.cells6.1)) a5 (Nat.lt_of_lt_of_le (cell_lt mr4.cells6.1) b5.size)
  clear x0 x1 x2 x3 x4 x5 b5 a5 c4 g5 ma4 mr4 r5 v5
  obtain ⟨x0, x1, x2, x3, x4, x5⟩ := ma5.cells6
  go_wp2_with fail
  generalize w5.alloc (.cells #[.int .u64 (h5 0), .int .u64 (h5 1), .int .u64 (h5 2), .int .u64 (h5 3), .int .u64 (h5 4), .int .u64 (h5 5)] 24) = W5 at *
  have g6 := HK.out.stay hgg c5
  refine Calls.mono (FpOk.neg HK.out f _ g6 RF.out LF.out) ?_
  rintro e w6 ⟨h6, rfl, r6, v6, b6⟩
  have c6 := Below.up c5 (Nat.le_refl _) b6
  have ma6 := MutK.below ma5 b6 (cell_lt ma5.cells6.1)
  have mr6 := MutK.below mr5 b6 (cell_lt mr5.cells6.1)
  have g7 := HK.out.stay hgg c6
  have l6 : val h6 6 < RI := by rw [v6]; exact modR_lt _
  clear x0 x1 x2 x3 x4 x5 b6 c5 g6 ma5 mr5
  go_wp2_with fail
  refine Calls.mono (FpOk.sqrtYes HK.out h6 _ g7 r6 l6 (by rw [v6]; exact HY.out)) ?_
  rintro e w7 ⟨h7, rfl, r7, v7, b7⟩
  have a7 := below_one w7 (.cells #[.int .u64 (h7 0), .int .u64 (h7 1), .int .u64 (h7 2), .int .u64 (h7 3), .int .u64 (h7 4), .int .u64 (h7 5)] 24)
  have c7 := Below.up (Below.up c6 (Nat.le_refl _) b7) (Nat.le_refl _) a7
  have ma7 := MutK.below (MutK.below ma6 b7 (cell_lt ma6.cells6.1)) a7 (Nat.lt_of_lt_of_le (cell_lt ma6.cells6.1) b7.size)
  have mr7 := MutK.below (MutK.below mr6 b7 (cell_lt mr6.cells6.1)) a7 (Nat.lt_of_lt_of_le (cell_lt mr6.cells6.1) b7.size)
  clear b7 a7 c6 g7 ma6 mr6 r6 v6 l6 r7 v7
  go_wp2_with fail
  generalize w7.alloc (.cells #[.int .u64 (h7 0), .int .u64 (h7 1), .int .u64 (h7 2), .int .u64 (h7 3), .int .u64 (h7 4), .int .u64 (h7 5)] 24) = V at *
  have GW : Hid _ := HK.out.stay hgg c7
  have C7 : Hid _ := c7
  have HS : Hid (∀ x, Below V.heap.size V x → (x.cell? ⟨w.heap.size, 0, none⟩ = some (.int .u64 (f 0)) ∧ x.cell? ⟨w.heap.size, 1, none⟩ = some (.int .u64 (f 1)) ∧ x.cell? ⟨w.heap.size, 2, none⟩ = some (.int .u64 (f 2)) ∧ x.cell? ⟨w.heap.size, 3, none⟩ = some (.int .u64 (f 3)) ∧ x.cell? ⟨w.heap.size, 4, none⟩ = some (.int .u64 (f 4)) ∧ x.cell? ⟨w.heap.size, 5, none⟩ = some (.int .u64 (f 5))) ∧ (x.cell? ⟨w4.heap.size, 0, none⟩ = some (.int .u64 (h4 0)) ∧ x.cell? ⟨w4.heap.size, 1, none⟩ = some (.int .u64 (h4 1)) ∧ x.cell? ⟨w4.heap.size, 2, none⟩ = some (.int .u64 (h4 2)) ∧ x.cell? ⟨w4.heap.size, 3, none⟩ = some (.int .u64 (h4 3)) ∧ x.cell? ⟨w4.heap.size, 4, none⟩ = some (.int .u64 (h4 4)) ∧ x.cell? ⟨w4.heap.size, 5, none⟩ = some (.int .u64 (h4 5)))) := fun x hx => ⟨at6 (ma7.at.below hx), at6 (mr7.at.below hx)⟩
  have BW : Hid (Below V.heap.size V V.drew) := (Below.refl _ _).drew
  have F0 : Hid _ := f0
  clear c7 ma7 mr7 hgg f0
  obtain ⟨⟨p0, p1, p2, p3, p4, p5⟩, q0, q1, q2, q3, q4, q5⟩ := HS.out _ (Below.refl _ _)
  go_region_held3 (fun x => (x.cell? ⟨w.heap.size, 0, none⟩ = some (.int .u64 (f 0)) ∧ x.cell? ⟨w.heap.size, 1, none⟩ = some (.int .u64 (f 1)) ∧ x.cell? ⟨w.heap.size, 2, none⟩ = some (.int .u64 (f 2)) ∧ x.cell? ⟨w.heap.size, 3, none⟩ = some (.int .u64 (f 3)) ∧ x.cell? ⟨w.heap.size, 4, none⟩ = some (.int .u64 (f 4)) ∧ x.cell? ⟨w.heap.size, 5, none⟩ = some (.int .u64 (f 5))) ∧ (x.cell? ⟨w4.heap.size, 0, none⟩ = some (.int .u64 (h4 0)) ∧ x.cell? ⟨w4.heap.size, 1, none⟩ = some (.int .u64 (h4 1)) ∧ x.cell? ⟨w4.heap.size, 2, none⟩ = some (.int .u64 (h4 2)) ∧ x.cell? ⟨w4.heap.size, 3, none⟩ = some (.int .u64 (h4 3)) ∧ x.cell? ⟨w4.heap.size, 4, none⟩ = some (.int .u64 (h4 4)) ∧ x.cell? ⟨w4.heap.size, 5, none⟩ = some (.int .u64 (h4 5))))
    (exact HS.out _ BW.out)
    ((go_at_call 21; refine Calls.mono (FpOk.of HK.out 0 _ (HK.out.stay GW.out BW.out) (b64 (by decide) (by decide))) ?_; rintro e y1 ⟨s1, rfl, r1, v1, b1⟩; have BX := Below.up BW.out (Nat.le_refl _) b1; clear BW; have BW : Hid _ := BX; clear BX; have E1 := eq_no RF.out r1 (by rw [v1]; exact HZ.out); clear b1 r1 v1))
  all_goals
    clear p0 p1 p2 p3 p4 p5 q0 q1 q2 q3 q4 q5 E1
    obtain ⟨⟨p0, p1, p2, p3, p4, p5⟩, q0, q1, q2, q3, q4, q5⟩ := HS.out _ BW.out
    go_wp2_with fail
    have BX := (BW.out).drew
    clear BW
    have BW : Hid _ := BX
    clear BX
    have E4 := eq_yes R4.out RF.out (V4.out.trans HO.out)
    have L4 : Hid (val h4 6 < RI) := by show _ < _; rw [V4.out, HO.out]; exact LF.out
    refine wp_region_held_drew (S := (fun x => (x.cell? ⟨w.heap.size, 0, none⟩ = some (.int .u64 (f 0)) ∧ x.cell? ⟨w.heap.size, 1, none⟩ = some (.int .u64 (f 1)) ∧ x.cell? ⟨w.heap.size, 2, none⟩ = some (.int .u64 (f 2)) ∧ x.cell? ⟨w.heap.size, 3, none⟩ = some (.int .u64 (f 3)) ∧ x.cell? ⟨w.heap.size, 4, none⟩ = some (.int .u64 (f 4)) ∧ x.cell? ⟨w.heap.size, 5, none⟩ = some (.int .u64 (f 5))) ∧ (x.cell? ⟨w4.heap.size, 0, none⟩ = some (.int .u64 (h4 0)) ∧ x.cell? ⟨w4.heap.size, 1, none⟩ = some (.int .u64 (h4 1)) ∧ x.cell? ⟨w4.heap.size, 2, none⟩ = some (.int .u64 (h4 2)) ∧ x.cell? ⟨w4.heap.size, 3, none⟩ = some (.int .u64 (h4 3)) ∧ x.cell? ⟨w4.heap.size, 4, none⟩ = some (.int .u64 (h4 4)) ∧ x.cell? ⟨w4.heap.size, 5, none⟩ = some (.int .u64 (h4 5))))) (by kernel_rfl) (HS.out _ BW.out) (fun hHeld => ?_)
    refine takeW (i := 0) (v := .bool true) 36 rfl (by kernel_rfl) (by kernel_rfl) (by kernel_rfl) (fun _ _ _ h => h) (Or.inl ⟨by rfl, fun wS hSw => by dsimp only at hSw; go_simp⟩) hHeld rfl ?_
    try simp only [Act.put, List.setIfInBounds_toArray, List.set_cons_zero, List.set_cons_succ]
    refine takeW (i := 1) (v := .bool true) 37 rfl (by kernel_rfl) (by kernel_rfl) (by kernel_rfl) (fun _ _ _ h => h) (Or.inl ⟨by rfl, fun wS hSw => by dsimp only at hSw; go_simp⟩) hHeld rfl ?_
    try simp only [Act.put, List.setIfInBounds_toArray, List.set_cons_zero, List.set_cons_succ]
    refine takeW (i := 2) (v := .agg #[.int .u64 (h4 0), .int .u64 (h4 1), .int .u64 (h4 2), .int .u64 (h4 3), .int .u64 (h4 4), .int .u64 (h4 5)]) 38 rfl (by kernel_rfl) (by kernel_rfl) (by kernel_rfl) (fun _ _ _ h => h) (Or.inl ⟨by rfl, fun wS hSw => by dsimp only at hSw; go_simp⟩) hHeld rfl ?_
    try simp only [Act.put, List.setIfInBounds_toArray, List.set_cons_zero, List.set_cons_succ]
    refine takeW (i := 3) (v := .agg #[.int .u64 (f 0), .int .u64 (f 1), .int .u64 (f 2), .int .u64 (f 3), .int .u64 (f 4), .int .u64 (f 5)]) 39 rfl (by kernel_rfl) (by kernel_rfl) (by kernel_rfl) (fun _ _ _ h => h) (Or.inl ⟨by rfl, fun wS hSw => by dsimp only at hSw; go_simp⟩) hHeld rfl ?_
    try simp only [Act.put, List.setIfInBounds_toArray, List.set_cons_zero, List.set_cons_succ]
    refine takeW (i := 4) (v := .bool true) 40 rfl (by kernel_rfl) (by kernel_rfl) (by kernel_rfl) (fun _ _ _ h => h) (Or.inl ⟨by rfl, fun wS hSw => by dsimp only at hSw; go_simp⟩) hHeld rfl ?_
    try simp only [Act.put, List.setIfInBounds_toArray, List.set_cons_zero, List.set_cons_succ]
    refine takeW (i := 5) (v := .bool true) 41 rfl (by kernel_rfl) (by kernel_rfl) (by kernel_rfl) (fun _ _ _ h => h) (Or.inl ⟨by rfl, fun wS hSw => by dsimp only at hSw; go_simp⟩) hHeld rfl ?_
    try simp only [Act.put, List.setIfInBounds_toArray, List.set_cons_zero, List.set_cons_succ]
    refine takeW (i := 6) (v := undef) 42 rfl (by kernel_rfl) (by kernel_rfl) (by kernel_rfl) (fun _ _ _ h => h) (Or.inr ⟨by rfl, rfl⟩) hHeld rfl ?_
    try simp only [Act.put, List.setIfInBounds_toArray, List.set_cons_zero, List.set_cons_succ]
    refine takeW (i := 7) (v := undef) 43 rfl (by kernel_rfl) (by kernel_rfl) (by kernel_rfl) (fun _ _ _ h => h) (Or.inr ⟨by rfl, rfl⟩) hHeld rfl ?_
    try simp only [Act.put, List.setIfInBounds_toArray, List.set_cons_zero, List.set_cons_succ]
    refine wpAnyH_ready (rs := [8]) (by kernel_rfl) (by simp) ?_
    refine AllReadyH.cons rfl (fun K hK => ?_) AllReadyH.nil
    rw [if_neg (by exact Bool.false_ne_true)]
    change K (Act.put _ (some 44) undef) _
    refine hK.out _ _ (HS.out _ BW.out) (fun hHeld2 => ?_)
    clear hK K hHeld
    have hHeld := hHeld2
    clear hHeld2
    try simp only [Act.put, List.setIfInBounds_toArray, List.set_cons_zero, List.set_cons_succ]
    refine takeW (i := 9) (v := undef) 45 rfl (by kernel_rfl) (by kernel_rfl) (by kernel_rfl) (fun _ _ _ h => h) (Or.inr ⟨by rfl, rfl⟩) hHeld rfl ?_
    try simp only [Act.put, List.setIfInBounds_toArray, List.set_cons_zero, List.set_cons_succ]
    refine takeW (i := 10) (v := .bool true) 46 rfl (by kernel_rfl) (by kernel_rfl) (by kernel_rfl) (fun _ _ _ h => h) (Or.inl ⟨by rfl, fun wS hSw => by dsimp only at hSw; go_simp⟩) hHeld rfl ?_
    try simp only [Act.put, List.setIfInBounds_toArray, List.set_cons_zero, List.set_cons_succ]
    refine takeW (i := 11) (v := .bool true) 47 rfl (by kernel_rfl) (by kernel_rfl) (by kernel_rfl) (fun _ _ _ h => h) (Or.inl ⟨by rfl, fun wS hSw => by dsimp only at hSw; go_simp⟩) hHeld rfl ?_
    try simp only [Act.put, List.setIfInBounds_toArray, List.set_cons_zero, List.set_cons_succ]
    refine takeW (i := 12) (v := .bool true) 48 rfl (by kernel_rfl) (by kernel_rfl) (by kernel_rfl) (fun _ _ _ h => h) (Or.inl ⟨by rfl, fun wS hSw => by dsimp only at hSw; go_simp⟩) hHeld rfl ?_
    try simp only [Act.put, List.setIfInBounds_toArray, List.set_cons_zero, List.set_cons_succ]
    refine takeW (i := 13) (v := .agg #[.int .u64 (h4 0), .int .u64 (h4 1), .int .u64 (h4 2), .int .u64 (h4 3), .int .u64 (h4 4), .int .u64 (h4 5)]) 49 rfl (by kernel_rfl) (by kernel_rfl) (by kernel_rfl) (fun _ _ _ h => h) (Or.inl ⟨by rfl, fun wS hSw => by dsimp only at hSw; go_simp⟩) hHeld rfl ?_
    try simp only [Act.put, List.setIfInBounds_toArray, List.set_cons_zero, List.set_cons_succ]
    refine wpAnyH_ready (rs := [14]) (by kernel_rfl) (by simp) ?_
    refine AllReadyH.cons rfl (fun K hK => ?_) AllReadyH.nil
    go_simp
    go_at_call 22; have KG := FpOk.great HK.out h4 _ (HK.out.stay GW.out BW.out) R4.out L4.out; rw [V4.out, decide_eq_false (root_small _)] at KG; refine Calls.mono KG ?_; clear KG; rintro e z14 ⟨rfl, b14⟩; have BX := Below.up BW.out (Nat.le_refl _) b14; clear BW; have BW : Hid _ := BX; clear BX b14
    refine hK.out _ _ (HS.out _ BW.out) (fun hHeld2 => ?_)
    clear hK K hHeld
    have hHeld := hHeld2
    clear hHeld2
    try simp only [Act.put, List.setIfInBounds_toArray, List.set_cons_zero, List.set_cons_succ]
    refine takeW (i := 15) (v := .bool true) 51 rfl (by kernel_rfl) (by kernel_rfl) (by kernel_rfl) (fun _ _ _ h => h) (Or.inl ⟨by rfl, fun wS hSw => by dsimp only at hSw; go_simp⟩) hHeld rfl ?_
    try simp only [Act.put, List.setIfInBounds_toArray, List.set_cons_zero, List.set_cons_succ]
    refine takeW (i := 16) (v := .bool true) 52 rfl (by kernel_rfl) (by kernel_rfl) (by kernel_rfl) (fun _ _ _ h => h) (Or.inl ⟨by rfl, fun wS hSw => by dsimp only at hSw; go_simp⟩) hHeld rfl ?_
    try simp only [Act.put, List.setIfInBounds_toArray, List.set_cons_zero, List.set_cons_succ]
    refine takeW (i := 17) (v := .bool true) 53 rfl (by kernel_rfl) (by kernel_rfl) (by kernel_rfl) (fun _ _ _ h => h) (Or.inl ⟨by rfl, fun wS hSw => by dsimp only at hSw; go_simp⟩) hHeld rfl ?_
    try simp only [Act.put, List.setIfInBounds_toArray, List.set_cons_zero, List.set_cons_succ]
    refine takeW (i := 18) (v := .bool false) 54 rfl (by kernel_rfl) (by kernel_rfl) (by kernel_rfl) (fun _ _ _ h => h) (Or.inl ⟨by rfl, fun wS hSw => by dsimp only at hSw; go_simp⟩) hHeld rfl ?_
    try simp only [Act.put, List.setIfInBounds_toArray, List.set_cons_zero, List.set_cons_succ]
    refine takeW (i := 19) (v := .bool false) 55 rfl (by kernel_rfl) (by kernel_rfl) (by kernel_rfl) (fun _ _ _ h => h) (Or.inl ⟨by rfl, fun wS hSw => by dsimp only at hSw; go_simp⟩) hHeld rfl ?_
    try simp only [Act.put, List.setIfInBounds_toArray, List.set_cons_zero, List.set_cons_succ]
    refine takeW (i := 20) (v := undef) 56 rfl (by kernel_rfl) (by kernel_rfl) (by kernel_rfl) (fun _ _ _ h => h) (Or.inr ⟨by rfl, rfl⟩) hHeld rfl ?_
    try simp only [Act.put, List.setIfInBounds_toArray, List.set_cons_zero, List.set_cons_succ]
    refine takeW (i := 21) (v := .bool false) 57 rfl (by kernel_rfl) (by kernel_rfl) (by kernel_rfl) (fun _ _ _ h => h) (Or.inl ⟨by rfl, fun wS hSw => by dsimp only at hSw; go_simp⟩) hHeld rfl ?_
    try simp only [Act.put, List.setIfInBounds_toArray, List.set_cons_zero, List.set_cons_succ]
    refine takeW (i := 22) (v := .bool false) 58 rfl (by kernel_rfl) (by kernel_rfl) (by kernel_rfl) (fun _ _ _ h => h) (Or.inl ⟨by rfl, fun wS hSw => by dsimp only at hSw; go_simp⟩) hHeld rfl ?_
    try simp only [Act.put, List.setIfInBounds_toArray, List.set_cons_zero, List.set_cons_succ]
    refine takeW (i := 23) (v := undef) 59 rfl (by kernel_rfl) (by kernel_rfl) (by kernel_rfl) (fun _ _ _ h => h) (Or.inr ⟨by rfl, rfl⟩) hHeld rfl ?_
    try simp only [Act.put, List.setIfInBounds_toArray, List.set_cons_zero, List.set_cons_succ]
    refine takeW (i := 24) (v := .bool false) 60 rfl (by kernel_rfl) (by kernel_rfl) (by kernel_rfl) (fun _ _ _ h => h) (Or.inl ⟨by rfl, fun wS hSw => by dsimp only at hSw; go_simp⟩) hHeld rfl ?_
    try simp only [Act.put, List.setIfInBounds_toArray, List.set_cons_zero, List.set_cons_succ]
    refine takeW (i := 25) (v := .bool false) 61 rfl (by kernel_rfl) (by kernel_rfl) (by kernel_rfl) (fun _ _ _ h => h) (Or.inl ⟨by rfl, fun wS hSw => by dsimp only at hSw; go_simp⟩) hHeld rfl ?_
    try simp only [Act.put, List.setIfInBounds_toArray, List.set_cons_zero, List.set_cons_succ]
    refine takeW (i := 26) (v := .bool false) 62 rfl (by kernel_rfl) (by kernel_rfl) (by kernel_rfl) (fun _ _ _ h => h) (Or.inl ⟨by rfl, fun wS hSw => by dsimp only at hSw; go_simp⟩) hHeld rfl ?_
    try simp only [Act.put, List.setIfInBounds_toArray, List.set_cons_zero, List.set_cons_succ]
    refine takeW (i := 27) (v := .bool true) 63 rfl (by kernel_rfl) (by kernel_rfl) (by kernel_rfl) (fun _ _ _ h => h) (Or.inl ⟨by rfl, fun wS hSw => by dsimp only at hSw; go_simp⟩) hHeld rfl ?_
    try simp only [Act.put, List.setIfInBounds_toArray, List.set_cons_zero, List.set_cons_succ]
    refine takeW (i := 28) (v := .bool true) 64 rfl (by kernel_rfl) (by kernel_rfl) (by kernel_rfl) (fun _ _ _ h => h) (Or.inl ⟨by rfl, fun wS hSw => by dsimp only at hSw; go_simp⟩) hHeld rfl ?_
    try simp only [Act.put, List.setIfInBounds_toArray, List.set_cons_zero, List.set_cons_succ]
    refine takeW (i := 29) (v := .bool false) 65 rfl (by kernel_rfl) (by kernel_rfl) (by kernel_rfl) (fun _ _ _ h => h) (Or.inl ⟨by rfl, fun wS hSw => by dsimp only at hSw; go_simp⟩) hHeld rfl ?_
    try simp only [Act.put, List.setIfInBounds_toArray, List.set_cons_zero, List.set_cons_succ]
    refine takeW (i := 30) (v := .bool true) 66 rfl (by kernel_rfl) (by kernel_rfl) (by kernel_rfl) (fun _ _ _ h => h) (Or.inl ⟨by rfl, fun wS hSw => by dsimp only at hSw; go_simp⟩) hHeld rfl ?_
    try simp only [Act.put, List.setIfInBounds_toArray, List.set_cons_zero, List.set_cons_succ]
    refine takeW (i := 31) (v := .bool true) 67 rfl (by kernel_rfl) (by kernel_rfl) (by kernel_rfl) (fun _ _ _ h => h) (Or.inl ⟨by rfl, fun wS hSw => by dsimp only at hSw; go_simp⟩) hHeld rfl ?_
    try simp only [Act.put, List.setIfInBounds_toArray, List.set_cons_zero, List.set_cons_succ]
    refine takeW (i := 32) (v := .bool true) 68 rfl (by kernel_rfl) (by kernel_rfl) (by kernel_rfl) (fun _ _ _ h => h) (Or.inl ⟨by rfl, fun wS hSw => by dsimp only at hSw; go_simp⟩) hHeld rfl ?_
    try simp only [Act.put, List.setIfInBounds_toArray, List.set_cons_zero, List.set_cons_succ]
    refine takeW (i := 33) (v := .bool true) 69 rfl (by kernel_rfl) (by kernel_rfl) (by kernel_rfl) (fun _ _ _ h => h) (Or.inl ⟨by rfl, fun wS hSw => by dsimp only at hSw; go_simp⟩) hHeld rfl ?_
    try simp only [Act.put, List.setIfInBounds_toArray, List.set_cons_zero, List.set_cons_succ]
    refine takeW (i := 34) (v := .bool true) 70 rfl (by kernel_rfl) (by kernel_rfl) (by kernel_rfl) (fun _ _ _ h => h) (Or.inl ⟨by rfl, fun wS hSw => by dsimp only at hSw; go_simp⟩) hHeld rfl ?_
    try simp only [Act.put, List.setIfInBounds_toArray, List.set_cons_zero, List.set_cons_succ]
    refine takeW (i := 35) (v := .bool true) 71 rfl (by kernel_rfl) (by kernel_rfl) (by kernel_rfl) (fun _ _ _ h => h) (Or.inl ⟨by rfl, fun wS hSw => by dsimp only at hSw; go_simp⟩) hHeld rfl ?_
    try simp only [Act.put, List.setIfInBounds_toArray, List.set_cons_zero, List.set_cons_succ]
    refine takeW (i := 36) (v := .bool false) 72 rfl (by kernel_rfl) (by kernel_rfl) (by kernel_rfl) (fun _ _ _ h => h) (Or.inl ⟨by rfl, fun wS hSw => by dsimp only at hSw; go_simp⟩) hHeld rfl ?_
    try simp only [Act.put, List.setIfInBounds_toArray, List.set_cons_zero, List.set_cons_succ]
    refine takeW (i := 37) (v := .bool false) 73 rfl (by kernel_rfl) (by kernel_rfl) (by kernel_rfl) (fun _ _ _ h => h) (Or.inl ⟨by rfl, fun wS hSw => by dsimp only at hSw; go_simp⟩) hHeld rfl ?_
    try simp only [Act.put, List.setIfInBounds_toArray, List.set_cons_zero, List.set_cons_succ]
    refine takeW (i := 38) (v := .agg #[.int .u64 (f 0), .int .u64 (f 1), .int .u64 (f 2), .int .u64 (f 3), .int .u64 (f 4), .int .u64 (f 5)]) 74 rfl (by kernel_rfl) (by kernel_rfl) (by kernel_rfl) (fun _ _ _ h => h) (Or.inl ⟨by rfl, fun wS hSw => by dsimp only at hSw; go_simp⟩) hHeld rfl ?_
    try simp only [Act.put, List.setIfInBounds_toArray, List.set_cons_zero, List.set_cons_succ]
    refine takeW (i := 40) (v := .agg #[.int .u64 (f 0), .int .u64 (f 1), .int .u64 (f 2), .int .u64 (f 3), .int .u64 (f 4), .int .u64 (f 5)]) 76 rfl (by kernel_rfl) (by kernel_rfl) (by kernel_rfl) (fun _ _ _ h => h) (Or.inl ⟨by rfl, fun wS hSw => by dsimp only at hSw; go_simp⟩) hHeld rfl ?_
    try simp only [Act.put, List.setIfInBounds_toArray, List.set_cons_zero, List.set_cons_succ]
    refine wpAnyH_ready (rs := [39]) (by kernel_rfl) (by simp) ?_
    refine AllReadyH.cons rfl (fun K hK => ?_) AllReadyH.nil
    go_simp
    go_at_call 22; have KG := FpOk.great HK.out f _ (HK.out.stay GW.out BW.out) RF.out LF.out; rw [decide_eq_true HGA.out] at KG; refine Calls.mono KG ?_; clear KG; rintro e z39 ⟨rfl, b39⟩; have BX := Below.up BW.out (Nat.le_refl _) b39; clear BW; have BW : Hid _ := BX; clear BX b39
    refine hK.out _ _ (HS.out _ BW.out) (fun hHeld2 => ?_)
    clear hK K hHeld
    have hHeld := hHeld2
    clear hHeld2
    try simp only [Act.put, List.setIfInBounds_toArray, List.set_cons_zero, List.set_cons_succ]
    refine wpAnyH_ready (rs := [41]) (by kernel_rfl) (by simp) ?_
    refine AllReadyH.cons rfl (fun K hK => ?_) AllReadyH.nil
    go_simp
    go_at_call 16; refine Calls.mono (FpOk.neg HK.out f _ (HK.out.stay GW.out BW.out) RF.out LF.out) ?_; rintro e z41 ⟨s41, rfl, r41, v41, b41⟩; have BX := Below.up BW.out (Nat.le_refl _) b41; clear BW; have BW : Hid _ := BX; clear BX b41; have R41 : Hid _ := r41; have V41 : Hid _ := v41; clear r41 v41
    refine hK.out _ _ (HS.out _ BW.out) (fun hHeld2 => ?_)
    clear hK K hHeld
    have hHeld := hHeld2
    clear hHeld2
    try simp only [Act.put, List.setIfInBounds_toArray, List.set_cons_zero, List.set_cons_succ]
    refine wpAnyH_ready (rs := [42]) (by kernel_rfl) (by simp) ?_
    refine AllReadyH.cons rfl (fun K hK => ?_) AllReadyH.nil
    go_simp
    go_at_call 22; have KG := FpOk.great HK.out s41 _ (HK.out.stay GW.out BW.out) R41.out (by rw [V41.out]; exact modR_lt _); rw [V41.out, decide_eq_false (show ¬ RI / 2 < (0 - val f 6) % RI by first | exact HGB.out | exact Int.not_lt.2 HGB.out)] at KG; refine Calls.mono KG ?_; clear KG; rintro e z42 ⟨rfl, b42⟩; have BX := Below.up BW.out (Nat.le_refl _) b42; clear BW; have BW : Hid _ := BX; clear BX b42
    refine hK.out _ _ (HS.out _ BW.out) (fun hHeld2 => ?_)
    clear hK K hHeld
    have hHeld := hHeld2
    clear hHeld2
    try simp only [Act.put, List.setIfInBounds_toArray, List.set_cons_zero, List.set_cons_succ]
    refine takeW (i := 43) (v := .bool true) 79 rfl (by kernel_rfl) (by kernel_rfl) (by kernel_rfl) (fun _ _ _ h => h) (Or.inl ⟨by rfl, fun wS hSw => by dsimp only at hSw; go_simp⟩) hHeld rfl ?_
    try simp only [Act.put, List.setIfInBounds_toArray, List.set_cons_zero, List.set_cons_succ]
    refine takeW (i := 44) (v := .bool true) 80 rfl (by kernel_rfl) (by kernel_rfl) (by kernel_rfl) (fun _ _ _ h => h) (Or.inl ⟨by rfl, fun wS hSw => by dsimp only at hSw; go_simp⟩) hHeld rfl ?_
    try simp only [Act.put, List.setIfInBounds_toArray, List.set_cons_zero, List.set_cons_succ]
    refine takeW (i := 45) (v := .bool true) 81 rfl (by kernel_rfl) (by kernel_rfl) (by kernel_rfl) (fun _ _ _ h => h) (Or.inl ⟨by rfl, fun wS hSw => by dsimp only at hSw; go_simp⟩) hHeld rfl ?_
    try simp only [Act.put, List.setIfInBounds_toArray, List.set_cons_zero, List.set_cons_succ]
    refine wpAnyH_ready (rs := [46]) (by kernel_rfl) (by simp) ?_
    refine AllReadyH.cons rfl (fun K hK => ?_) AllReadyH.nil
    go_simp
    refine hK.out _ _ (HS.out _ BW.out) (fun hHeld2 => ?_)
    clear hK K hHeld
    have hHeld := hHeld2
    clear hHeld2
    try simp only [Act.put, List.setIfInBounds_toArray, List.set_cons_zero, List.set_cons_succ]
    refine wpAnyH_done (by kernel_rfl) ?_ _
    go_wp2
    go_ret
    exact ⟨rfl, Below.up C7.out (Nat.le_refl _) BW.out⟩

set_option maxHeartbeats 4000000 in
theorem fpSquares_minusSL {G : World → Prop} (K : FpOk G) (f : Nat → Int) (w : World) (hg : G w) (rf : Rg f 6) (lf : val f 6 < RI) (hz : val f 6 ≠ 0) (hx : sq (val f 6) * sq (val f 6) % RI ≠ val f 6) (hy : sq ((0 - val f 6) % RI) * sq ((0 - val f 6) % RI) % RI = (0 - val f 6) % RI) (ho : lesser (sq (val f 6 * val f 6 % RI)) = val f 6) (hga : ¬ RI / 2 < val f 6) (hgb : RI / 2 < (0 - val f 6) % RI) : Calls Tryd.prog 7 #[frv f] w fun e w' => e = .returned (.bool true) ∧ Below w.heap.size w w' := by
  have hgg := hg
  have HK : Hid _ := K
  clear K
  have ma := mut_four w f 24
  have b0 := below_one w (.cells #[.int .u64 (f 0), .int .u64 (f 1), .int .u64 (f 2), .int .u64 (f 3), .int .u64 (f 4), .int .u64 (f 5)] 24)
  have z0 := World.size_alloc w (.cells #[.int .u64 (f 0), .int .u64 (f 1), .int .u64 (f 2), .int .u64 (f 3), .int .u64 (f 4), .int .u64 (f 5)] 24)
  have g0 := HK.out.stay hg b0
  have RF : Hid _ := rf
  unfold frv
  go_enter Tryd.func7, Tryd.ntmps7
  go_wp2_with fail
  generalize w.alloc (.cells #[.int .u64 (f 0), .int .u64 (f 1), .int .u64 (f 2), .int .u64 (f 3), .int .u64 (f 4), .int .u64 (f 5)] 24) = W0 at *
  refine Calls.mono (fpBegun HK.out _ g0) ?_
  rintro e w1 ⟨rfl, b1⟩
  have ma1 := ma.below b1 (by rw [z0]; omega)
  obtain ⟨x0, x1, x2, x3, x4, x5⟩ := ma1.cells6
  have MA : Hid _ := ma1
  have B1 : Hid _ := Below.up b0 (Nat.le_refl _) b1
  have KM : Hid _ := fun w => mayR_any f w rf
  unfold frv at KM
  rw [decide_eq_true lf] at KM
  clear ma ma1 b0 b1 z0 g0 hg rf
  go_wp2_with fail
  refine Calls.mono (KM.out _) ?_
  rintro e w2 ⟨rfl, b2⟩
  have LF : Hid _ := lf
  have HZ : Hid _ := hz
  have HO : Hid _ := ho
  have HGA : Hid _ := hga
  have HGB : Hid _ := hgb
  clear hga hgb
  have HX : Hid _ := hx
  have HY : Hid _ := hy
  clear hx hy
  have ma2 := MutK.below MA.out b2 (cell_lt x0)
  have c2 := Below.up B1.out (Nat.le_refl _) b2
  have g2 := HK.out.stay hgg c2
  obtain ⟨y0, y1, y2, y3, y4, y5⟩ := ma2.cells6
  clear b2 lf hz ho x0 x1 x2 x3 x4 x5 MA B1 KM
  go_wp2_with fail
  refine Calls.mono (FpOk.mul HK.out f f _ g2 RF.out RF.out LF.out LF.out) ?_
  rintro e w3 ⟨h3, rfl, r3, v3, b3⟩
  have c3 := Below.up c2 (Nat.le_refl _) b3
  have g3 := HK.out.stay hgg c3
  have ma3 := MutK.below ma2 b3 (cell_lt ma2.cells6.1)
  have l3 : val h3 6 < RI := by rw [v3]; exact modR_lt _
  have f0 : 0 ≤ val f 6 := (val_bd RF.out).1
  clear b3 c2 g2 ma2 y0 y1 y2 y3 y4 y5
  go_wp2_with fail
  refine Calls.mono (FpOk.sqrtYes HK.out h3 _ g3 r3 l3 (by rw [v3]; exact square_root f0 LF.out)) ?_
  rintro e w4 ⟨h4, rfl, r4, v4, b4⟩
  rw [v3] at v4
  have V4 : Hid _ := v4
  have R4 : Hid _ := r4
  have a4 := below_one w4 (.cells #[.int .u64 (h4 0), .int .u64 (h4 1), .int .u64 (h4 2), .int .u64 (h4 3), .int .u64 (h4 4), .int .u64 (h4 5)] 24)
  have c4 := Below.up (Below.up c3 (Nat.le_refl _) b4) (Nat.le_refl _) a4
  have ma4 := MutK.below (MutK.below ma3 b4 (cell_lt ma3.cells6.1)) a4 (Nat.lt_of_lt_of_le (cell_lt ma3.cells6.1) b4.size)
  have mr4 := mut_four w4 h4 24
  obtain ⟨x0, x1, x2, x3, x4, x5⟩ := ma4.cells6
  clear b4 a4 c3 g3 ma3 r3 v3 l3 v4 r4
  go_wp2_with fail
  generalize w4.alloc (.cells #[.int .u64 (h4 0), .int .u64 (h4 1), .int .u64 (h4 2), .int .u64 (h4 3), .int .u64 (h4 4), .int .u64 (h4 5)] 24) = W4 at *
  have g5 := HK.out.stay hgg c4
  refine Calls.mono (FpOk.sqrtNo HK.out f _ g5 RF.out LF.out HX.out) ?_
  rintro e w5 ⟨h5, rfl, r5, v5, b5⟩
  have a5 := below_one w5 (.cells #[.int .u64 (h5 0), .int .u64 (h5 1), .int .u64 (h5 2), .int .u64 (h5 3), .int .u64 (h5 4), .int .u64 (h5 5)] 24)
  have c5 := Below.up (Below.up c4 (Nat.le_refl _) b5) (Nat.le_refl _) a5
  have ma5 := MutK.below (MutK.below ma4 b5 (cell_lt ma4.cells6.1)) a5 (Nat.lt_of_lt_of_le (cell_lt ma4.cells6.1) b5.size)
  have mr5 := MutK.below (MutK.below mr4 b5 (cell_lt mr4.cells6.1)) a5 (Nat.lt_of_lt_of_le (cell_lt mr4.cells6.1) b5.size)
  clear x0 x1 x2 x3 x4 x5 b5 a5 c4 g5 ma4 mr4 r5 v5
  obtain ⟨x0, x1, x2, x3, x4, x5⟩ := ma5.cells6
  go_wp2_with fail
  generalize w5.alloc (.cells #[.int .u64 (h5 0), .int .u64 (h5 1), .int .u64 (h5 2), .int .u64 (h5 3), .int .u64 (h5 4), .int .u64 (h5 5)] 24) = W5 at *
  have g6 := HK.out.stay hgg c5
  refine Calls.mono (FpOk.neg HK.out f _ g6 RF.out LF.out) ?_
  rintro e w6 ⟨h6, rfl, r6, v6, b6⟩
  have c6 := Below.up c5 (Nat.le_refl _) b6
  have ma6 := MutK.below ma5 b6 (cell_lt ma5.cells6.1)
  have mr6 := MutK.below mr5 b6 (cell_lt mr5.cells6.1)
  have g7 := HK.out.stay hgg c6
  have l6 : val h6 6 < RI := by rw [v6]; exact modR_lt _
  clear x0 x1 x2 x3 x4 x5 b6 c5 g6 ma5 mr5
  go_wp2_with fail
  refine Calls.mono (FpOk.sqrtYes HK.out h6 _ g7 r6 l6 (by rw [v6]; exact HY.out)) ?_
  rintro e w7 ⟨h7, rfl, r7, v7, b7⟩
  have a7 := below_one w7 (.cells #[.int .u64 (h7 0), .int .u64 (h7 1), .int .u64 (h7 2), .int .u64 (h7 3), .int .u64 (h7 4), .int .u64 (h7 5)] 24)
  have c7 := Below.up (Below.up c6 (Nat.le_refl _) b7) (Nat.le_refl _) a7
  have ma7 := MutK.below (MutK.below ma6 b7 (cell_lt ma6.cells6.1)) a7 (Nat.lt_of_lt_of_le (cell_lt ma6.cells6.1) b7.size)
  have mr7 := MutK.below (MutK.below mr6 b7 (cell_lt mr6.cells6.1)) a7 (Nat.lt_of_lt_of_le (cell_lt mr6.cells6.1) b7.size)
  clear b7 a7 c6 g7 ma6 mr6 r6 v6 l6 r7 v7
  go_wp2_with fail
  generalize w7.alloc (.cells #[.int .u64 (h7 0), .int .u64 (h7 1), .int .u64 (h7 2), .int .u64 (h7 3), .int .u64 (h7 4), .int .u64 (h7 5)] 24) = V at *
  have GW : Hid _ := HK.out.stay hgg c7
  have C7 : Hid _ := c7
  have HS : Hid (∀ x, Below V.heap.size V x → (x.cell? ⟨w.heap.size, 0, none⟩ = some (.int .u64 (f 0)) ∧ x.cell? ⟨w.heap.size, 1, none⟩ = some (.int .u64 (f 1)) ∧ x.cell? ⟨w.heap.size, 2, none⟩ = some (.int .u64 (f 2)) ∧ x.cell? ⟨w.heap.size, 3, none⟩ = some (.int .u64 (f 3)) ∧ x.cell? ⟨w.heap.size, 4, none⟩ = some (.int .u64 (f 4)) ∧ x.cell? ⟨w.heap.size, 5, none⟩ = some (.int .u64 (f 5))) ∧ (x.cell? ⟨w4.heap.size, 0, none⟩ = some (.int .u64 (h4 0)) ∧ x.cell? ⟨w4.heap.size, 1, none⟩ = some (.int .u64 (h4 1)) ∧ x.cell? ⟨w4.heap.size, 2, none⟩ = some (.int .u64 (h4 2)) ∧ x.cell? ⟨w4.heap.size, 3, none⟩ = some (.int .u64 (h4 3)) ∧ x.cell? ⟨w4.heap.size, 4, none⟩ = some (.int .u64 (h4 4)) ∧ x.cell? ⟨w4.heap.size, 5, none⟩ = some (.int .u64 (h4 5)))) := fun x hx => ⟨at6 (ma7.at.below hx), at6 (mr7.at.below hx)⟩
  have BW : Hid (Below V.heap.size V V.drew) := (Below.refl _ _).drew
  have F0 : Hid _ := f0
  clear c7 ma7 mr7 hgg f0
  obtain ⟨⟨p0, p1, p2, p3, p4, p5⟩, q0, q1, q2, q3, q4, q5⟩ := HS.out _ (Below.refl _ _)
  go_region_held3 (fun x => (x.cell? ⟨w.heap.size, 0, none⟩ = some (.int .u64 (f 0)) ∧ x.cell? ⟨w.heap.size, 1, none⟩ = some (.int .u64 (f 1)) ∧ x.cell? ⟨w.heap.size, 2, none⟩ = some (.int .u64 (f 2)) ∧ x.cell? ⟨w.heap.size, 3, none⟩ = some (.int .u64 (f 3)) ∧ x.cell? ⟨w.heap.size, 4, none⟩ = some (.int .u64 (f 4)) ∧ x.cell? ⟨w.heap.size, 5, none⟩ = some (.int .u64 (f 5))) ∧ (x.cell? ⟨w4.heap.size, 0, none⟩ = some (.int .u64 (h4 0)) ∧ x.cell? ⟨w4.heap.size, 1, none⟩ = some (.int .u64 (h4 1)) ∧ x.cell? ⟨w4.heap.size, 2, none⟩ = some (.int .u64 (h4 2)) ∧ x.cell? ⟨w4.heap.size, 3, none⟩ = some (.int .u64 (h4 3)) ∧ x.cell? ⟨w4.heap.size, 4, none⟩ = some (.int .u64 (h4 4)) ∧ x.cell? ⟨w4.heap.size, 5, none⟩ = some (.int .u64 (h4 5))))
    (exact HS.out _ BW.out)
    ((go_at_call 21; refine Calls.mono (FpOk.of HK.out 0 _ (HK.out.stay GW.out BW.out) (b64 (by decide) (by decide))) ?_; rintro e y1 ⟨s1, rfl, r1, v1, b1⟩; have BX := Below.up BW.out (Nat.le_refl _) b1; clear BW; have BW : Hid _ := BX; clear BX; have E1 := eq_no RF.out r1 (by rw [v1]; exact HZ.out); clear b1 r1 v1))
  all_goals
    clear p0 p1 p2 p3 p4 p5 q0 q1 q2 q3 q4 q5 E1
    obtain ⟨⟨p0, p1, p2, p3, p4, p5⟩, q0, q1, q2, q3, q4, q5⟩ := HS.out _ BW.out
    go_wp2_with fail
    have BX := (BW.out).drew
    clear BW
    have BW : Hid _ := BX
    clear BX
    have E4 := eq_yes R4.out RF.out (V4.out.trans HO.out)
    have L4 : Hid (val h4 6 < RI) := by show _ < _; rw [V4.out, HO.out]; exact LF.out
    refine wp_region_held_drew (S := (fun x => (x.cell? ⟨w.heap.size, 0, none⟩ = some (.int .u64 (f 0)) ∧ x.cell? ⟨w.heap.size, 1, none⟩ = some (.int .u64 (f 1)) ∧ x.cell? ⟨w.heap.size, 2, none⟩ = some (.int .u64 (f 2)) ∧ x.cell? ⟨w.heap.size, 3, none⟩ = some (.int .u64 (f 3)) ∧ x.cell? ⟨w.heap.size, 4, none⟩ = some (.int .u64 (f 4)) ∧ x.cell? ⟨w.heap.size, 5, none⟩ = some (.int .u64 (f 5))) ∧ (x.cell? ⟨w4.heap.size, 0, none⟩ = some (.int .u64 (h4 0)) ∧ x.cell? ⟨w4.heap.size, 1, none⟩ = some (.int .u64 (h4 1)) ∧ x.cell? ⟨w4.heap.size, 2, none⟩ = some (.int .u64 (h4 2)) ∧ x.cell? ⟨w4.heap.size, 3, none⟩ = some (.int .u64 (h4 3)) ∧ x.cell? ⟨w4.heap.size, 4, none⟩ = some (.int .u64 (h4 4)) ∧ x.cell? ⟨w4.heap.size, 5, none⟩ = some (.int .u64 (h4 5))))) (by kernel_rfl) (HS.out _ BW.out) (fun hHeld => ?_)
    refine takeW (i := 0) (v := .bool true) 36 rfl (by kernel_rfl) (by kernel_rfl) (by kernel_rfl) (fun _ _ _ h => h) (Or.inl ⟨by rfl, fun wS hSw => by dsimp only at hSw; go_simp⟩) hHeld rfl ?_
    try simp only [Act.put, List.setIfInBounds_toArray, List.set_cons_zero, List.set_cons_succ]
    refine takeW (i := 1) (v := .bool true) 37 rfl (by kernel_rfl) (by kernel_rfl) (by kernel_rfl) (fun _ _ _ h => h) (Or.inl ⟨by rfl, fun wS hSw => by dsimp only at hSw; go_simp⟩) hHeld rfl ?_
    try simp only [Act.put, List.setIfInBounds_toArray, List.set_cons_zero, List.set_cons_succ]
    refine takeW (i := 2) (v := .agg #[.int .u64 (h4 0), .int .u64 (h4 1), .int .u64 (h4 2), .int .u64 (h4 3), .int .u64 (h4 4), .int .u64 (h4 5)]) 38 rfl (by kernel_rfl) (by kernel_rfl) (by kernel_rfl) (fun _ _ _ h => h) (Or.inl ⟨by rfl, fun wS hSw => by dsimp only at hSw; go_simp⟩) hHeld rfl ?_
    try simp only [Act.put, List.setIfInBounds_toArray, List.set_cons_zero, List.set_cons_succ]
    refine takeW (i := 3) (v := .agg #[.int .u64 (f 0), .int .u64 (f 1), .int .u64 (f 2), .int .u64 (f 3), .int .u64 (f 4), .int .u64 (f 5)]) 39 rfl (by kernel_rfl) (by kernel_rfl) (by kernel_rfl) (fun _ _ _ h => h) (Or.inl ⟨by rfl, fun wS hSw => by dsimp only at hSw; go_simp⟩) hHeld rfl ?_
    try simp only [Act.put, List.setIfInBounds_toArray, List.set_cons_zero, List.set_cons_succ]
    refine takeW (i := 4) (v := .bool true) 40 rfl (by kernel_rfl) (by kernel_rfl) (by kernel_rfl) (fun _ _ _ h => h) (Or.inl ⟨by rfl, fun wS hSw => by dsimp only at hSw; go_simp⟩) hHeld rfl ?_
    try simp only [Act.put, List.setIfInBounds_toArray, List.set_cons_zero, List.set_cons_succ]
    refine takeW (i := 5) (v := .bool true) 41 rfl (by kernel_rfl) (by kernel_rfl) (by kernel_rfl) (fun _ _ _ h => h) (Or.inl ⟨by rfl, fun wS hSw => by dsimp only at hSw; go_simp⟩) hHeld rfl ?_
    try simp only [Act.put, List.setIfInBounds_toArray, List.set_cons_zero, List.set_cons_succ]
    refine takeW (i := 6) (v := undef) 42 rfl (by kernel_rfl) (by kernel_rfl) (by kernel_rfl) (fun _ _ _ h => h) (Or.inr ⟨by rfl, rfl⟩) hHeld rfl ?_
    try simp only [Act.put, List.setIfInBounds_toArray, List.set_cons_zero, List.set_cons_succ]
    refine takeW (i := 7) (v := undef) 43 rfl (by kernel_rfl) (by kernel_rfl) (by kernel_rfl) (fun _ _ _ h => h) (Or.inr ⟨by rfl, rfl⟩) hHeld rfl ?_
    try simp only [Act.put, List.setIfInBounds_toArray, List.set_cons_zero, List.set_cons_succ]
    refine wpAnyH_ready (rs := [8]) (by kernel_rfl) (by simp) ?_
    refine AllReadyH.cons rfl (fun K hK => ?_) AllReadyH.nil
    rw [if_neg (by exact Bool.false_ne_true)]
    change K (Act.put _ (some 44) undef) _
    refine hK.out _ _ (HS.out _ BW.out) (fun hHeld2 => ?_)
    clear hK K hHeld
    have hHeld := hHeld2
    clear hHeld2
    try simp only [Act.put, List.setIfInBounds_toArray, List.set_cons_zero, List.set_cons_succ]
    refine takeW (i := 9) (v := undef) 45 rfl (by kernel_rfl) (by kernel_rfl) (by kernel_rfl) (fun _ _ _ h => h) (Or.inr ⟨by rfl, rfl⟩) hHeld rfl ?_
    try simp only [Act.put, List.setIfInBounds_toArray, List.set_cons_zero, List.set_cons_succ]
    refine takeW (i := 10) (v := .bool true) 46 rfl (by kernel_rfl) (by kernel_rfl) (by kernel_rfl) (fun _ _ _ h => h) (Or.inl ⟨by rfl, fun wS hSw => by dsimp only at hSw; go_simp⟩) hHeld rfl ?_
    try simp only [Act.put, List.setIfInBounds_toArray, List.set_cons_zero, List.set_cons_succ]
    refine takeW (i := 11) (v := .bool true) 47 rfl (by kernel_rfl) (by kernel_rfl) (by kernel_rfl) (fun _ _ _ h => h) (Or.inl ⟨by rfl, fun wS hSw => by dsimp only at hSw; go_simp⟩) hHeld rfl ?_
    try simp only [Act.put, List.setIfInBounds_toArray, List.set_cons_zero, List.set_cons_succ]
    refine takeW (i := 12) (v := .bool true) 48 rfl (by kernel_rfl) (by kernel_rfl) (by kernel_rfl) (fun _ _ _ h => h) (Or.inl ⟨by rfl, fun wS hSw => by dsimp only at hSw; go_simp⟩) hHeld rfl ?_
    try simp only [Act.put, List.setIfInBounds_toArray, List.set_cons_zero, List.set_cons_succ]
    refine takeW (i := 13) (v := .agg #[.int .u64 (h4 0), .int .u64 (h4 1), .int .u64 (h4 2), .int .u64 (h4 3), .int .u64 (h4 4), .int .u64 (h4 5)]) 49 rfl (by kernel_rfl) (by kernel_rfl) (by kernel_rfl) (fun _ _ _ h => h) (Or.inl ⟨by rfl, fun wS hSw => by dsimp only at hSw; go_simp⟩) hHeld rfl ?_
    try simp only [Act.put, List.setIfInBounds_toArray, List.set_cons_zero, List.set_cons_succ]
    refine wpAnyH_ready (rs := [14]) (by kernel_rfl) (by simp) ?_
    refine AllReadyH.cons rfl (fun K hK => ?_) AllReadyH.nil
    go_simp
    go_at_call 22; have KG := FpOk.great HK.out h4 _ (HK.out.stay GW.out BW.out) R4.out L4.out; rw [V4.out, decide_eq_false (root_small _)] at KG; refine Calls.mono KG ?_; clear KG; rintro e z14 ⟨rfl, b14⟩; have BX := Below.up BW.out (Nat.le_refl _) b14; clear BW; have BW : Hid _ := BX; clear BX b14
    refine hK.out _ _ (HS.out _ BW.out) (fun hHeld2 => ?_)
    clear hK K hHeld
    have hHeld := hHeld2
    clear hHeld2
    try simp only [Act.put, List.setIfInBounds_toArray, List.set_cons_zero, List.set_cons_succ]
    refine takeW (i := 15) (v := .bool true) 51 rfl (by kernel_rfl) (by kernel_rfl) (by kernel_rfl) (fun _ _ _ h => h) (Or.inl ⟨by rfl, fun wS hSw => by dsimp only at hSw; go_simp⟩) hHeld rfl ?_
    try simp only [Act.put, List.setIfInBounds_toArray, List.set_cons_zero, List.set_cons_succ]
    refine takeW (i := 16) (v := .bool true) 52 rfl (by kernel_rfl) (by kernel_rfl) (by kernel_rfl) (fun _ _ _ h => h) (Or.inl ⟨by rfl, fun wS hSw => by dsimp only at hSw; go_simp⟩) hHeld rfl ?_
    try simp only [Act.put, List.setIfInBounds_toArray, List.set_cons_zero, List.set_cons_succ]
    refine takeW (i := 17) (v := .bool true) 53 rfl (by kernel_rfl) (by kernel_rfl) (by kernel_rfl) (fun _ _ _ h => h) (Or.inl ⟨by rfl, fun wS hSw => by dsimp only at hSw; go_simp⟩) hHeld rfl ?_
    try simp only [Act.put, List.setIfInBounds_toArray, List.set_cons_zero, List.set_cons_succ]
    refine takeW (i := 18) (v := .bool false) 54 rfl (by kernel_rfl) (by kernel_rfl) (by kernel_rfl) (fun _ _ _ h => h) (Or.inl ⟨by rfl, fun wS hSw => by dsimp only at hSw; go_simp⟩) hHeld rfl ?_
    try simp only [Act.put, List.setIfInBounds_toArray, List.set_cons_zero, List.set_cons_succ]
    refine takeW (i := 19) (v := .bool false) 55 rfl (by kernel_rfl) (by kernel_rfl) (by kernel_rfl) (fun _ _ _ h => h) (Or.inl ⟨by rfl, fun wS hSw => by dsimp only at hSw; go_simp⟩) hHeld rfl ?_
    try simp only [Act.put, List.setIfInBounds_toArray, List.set_cons_zero, List.set_cons_succ]
    refine takeW (i := 20) (v := undef) 56 rfl (by kernel_rfl) (by kernel_rfl) (by kernel_rfl) (fun _ _ _ h => h) (Or.inr ⟨by rfl, rfl⟩) hHeld rfl ?_
    try simp only [Act.put, List.setIfInBounds_toArray, List.set_cons_zero, List.set_cons_succ]
    refine takeW (i := 21) (v := .bool false) 57 rfl (by kernel_rfl) (by kernel_rfl) (by kernel_rfl) (fun _ _ _ h => h) (Or.inl ⟨by rfl, fun wS hSw => by dsimp only at hSw; go_simp⟩) hHeld rfl ?_
    try simp only [Act.put, List.setIfInBounds_toArray, List.set_cons_zero, List.set_cons_succ]
    refine takeW (i := 22) (v := .bool false) 58 rfl (by kernel_rfl) (by kernel_rfl) (by kernel_rfl) (fun _ _ _ h => h) (Or.inl ⟨by rfl, fun wS hSw => by dsimp only at hSw; go_simp⟩) hHeld rfl ?_
    try simp only [Act.put, List.setIfInBounds_toArray, List.set_cons_zero, List.set_cons_succ]
    refine takeW (i := 23) (v := undef) 59 rfl (by kernel_rfl) (by kernel_rfl) (by kernel_rfl) (fun _ _ _ h => h) (Or.inr ⟨by rfl, rfl⟩) hHeld rfl ?_
    try simp only [Act.put, List.setIfInBounds_toArray, List.set_cons_zero, List.set_cons_succ]
    refine takeW (i := 24) (v := .bool false) 60 rfl (by kernel_rfl) (by kernel_rfl) (by kernel_rfl) (fun _ _ _ h => h) (Or.inl ⟨by rfl, fun wS hSw => by dsimp only at hSw; go_simp⟩) hHeld rfl ?_
    try simp only [Act.put, List.setIfInBounds_toArray, List.set_cons_zero, List.set_cons_succ]
    refine takeW (i := 25) (v := .bool false) 61 rfl (by kernel_rfl) (by kernel_rfl) (by kernel_rfl) (fun _ _ _ h => h) (Or.inl ⟨by rfl, fun wS hSw => by dsimp only at hSw; go_simp⟩) hHeld rfl ?_
    try simp only [Act.put, List.setIfInBounds_toArray, List.set_cons_zero, List.set_cons_succ]
    refine takeW (i := 26) (v := .bool false) 62 rfl (by kernel_rfl) (by kernel_rfl) (by kernel_rfl) (fun _ _ _ h => h) (Or.inl ⟨by rfl, fun wS hSw => by dsimp only at hSw; go_simp⟩) hHeld rfl ?_
    try simp only [Act.put, List.setIfInBounds_toArray, List.set_cons_zero, List.set_cons_succ]
    refine takeW (i := 27) (v := .bool true) 63 rfl (by kernel_rfl) (by kernel_rfl) (by kernel_rfl) (fun _ _ _ h => h) (Or.inl ⟨by rfl, fun wS hSw => by dsimp only at hSw; go_simp⟩) hHeld rfl ?_
    try simp only [Act.put, List.setIfInBounds_toArray, List.set_cons_zero, List.set_cons_succ]
    refine takeW (i := 28) (v := .bool true) 64 rfl (by kernel_rfl) (by kernel_rfl) (by kernel_rfl) (fun _ _ _ h => h) (Or.inl ⟨by rfl, fun wS hSw => by dsimp only at hSw; go_simp⟩) hHeld rfl ?_
    try simp only [Act.put, List.setIfInBounds_toArray, List.set_cons_zero, List.set_cons_succ]
    refine takeW (i := 29) (v := .bool false) 65 rfl (by kernel_rfl) (by kernel_rfl) (by kernel_rfl) (fun _ _ _ h => h) (Or.inl ⟨by rfl, fun wS hSw => by dsimp only at hSw; go_simp⟩) hHeld rfl ?_
    try simp only [Act.put, List.setIfInBounds_toArray, List.set_cons_zero, List.set_cons_succ]
    refine takeW (i := 30) (v := .bool true) 66 rfl (by kernel_rfl) (by kernel_rfl) (by kernel_rfl) (fun _ _ _ h => h) (Or.inl ⟨by rfl, fun wS hSw => by dsimp only at hSw; go_simp⟩) hHeld rfl ?_
    try simp only [Act.put, List.setIfInBounds_toArray, List.set_cons_zero, List.set_cons_succ]
    refine takeW (i := 31) (v := .bool true) 67 rfl (by kernel_rfl) (by kernel_rfl) (by kernel_rfl) (fun _ _ _ h => h) (Or.inl ⟨by rfl, fun wS hSw => by dsimp only at hSw; go_simp⟩) hHeld rfl ?_
    try simp only [Act.put, List.setIfInBounds_toArray, List.set_cons_zero, List.set_cons_succ]
    refine takeW (i := 32) (v := .bool true) 68 rfl (by kernel_rfl) (by kernel_rfl) (by kernel_rfl) (fun _ _ _ h => h) (Or.inl ⟨by rfl, fun wS hSw => by dsimp only at hSw; go_simp⟩) hHeld rfl ?_
    try simp only [Act.put, List.setIfInBounds_toArray, List.set_cons_zero, List.set_cons_succ]
    refine takeW (i := 33) (v := .bool true) 69 rfl (by kernel_rfl) (by kernel_rfl) (by kernel_rfl) (fun _ _ _ h => h) (Or.inl ⟨by rfl, fun wS hSw => by dsimp only at hSw; go_simp⟩) hHeld rfl ?_
    try simp only [Act.put, List.setIfInBounds_toArray, List.set_cons_zero, List.set_cons_succ]
    refine takeW (i := 34) (v := .bool true) 70 rfl (by kernel_rfl) (by kernel_rfl) (by kernel_rfl) (fun _ _ _ h => h) (Or.inl ⟨by rfl, fun wS hSw => by dsimp only at hSw; go_simp⟩) hHeld rfl ?_
    try simp only [Act.put, List.setIfInBounds_toArray, List.set_cons_zero, List.set_cons_succ]
    refine takeW (i := 35) (v := .bool true) 71 rfl (by kernel_rfl) (by kernel_rfl) (by kernel_rfl) (fun _ _ _ h => h) (Or.inl ⟨by rfl, fun wS hSw => by dsimp only at hSw; go_simp⟩) hHeld rfl ?_
    try simp only [Act.put, List.setIfInBounds_toArray, List.set_cons_zero, List.set_cons_succ]
    refine takeW (i := 36) (v := .bool false) 72 rfl (by kernel_rfl) (by kernel_rfl) (by kernel_rfl) (fun _ _ _ h => h) (Or.inl ⟨by rfl, fun wS hSw => by dsimp only at hSw; go_simp⟩) hHeld rfl ?_
    try simp only [Act.put, List.setIfInBounds_toArray, List.set_cons_zero, List.set_cons_succ]
    refine takeW (i := 37) (v := .bool false) 73 rfl (by kernel_rfl) (by kernel_rfl) (by kernel_rfl) (fun _ _ _ h => h) (Or.inl ⟨by rfl, fun wS hSw => by dsimp only at hSw; go_simp⟩) hHeld rfl ?_
    try simp only [Act.put, List.setIfInBounds_toArray, List.set_cons_zero, List.set_cons_succ]
    refine takeW (i := 38) (v := .agg #[.int .u64 (f 0), .int .u64 (f 1), .int .u64 (f 2), .int .u64 (f 3), .int .u64 (f 4), .int .u64 (f 5)]) 74 rfl (by kernel_rfl) (by kernel_rfl) (by kernel_rfl) (fun _ _ _ h => h) (Or.inl ⟨by rfl, fun wS hSw => by dsimp only at hSw; go_simp⟩) hHeld rfl ?_
    try simp only [Act.put, List.setIfInBounds_toArray, List.set_cons_zero, List.set_cons_succ]
    refine takeW (i := 40) (v := .agg #[.int .u64 (f 0), .int .u64 (f 1), .int .u64 (f 2), .int .u64 (f 3), .int .u64 (f 4), .int .u64 (f 5)]) 76 rfl (by kernel_rfl) (by kernel_rfl) (by kernel_rfl) (fun _ _ _ h => h) (Or.inl ⟨by rfl, fun wS hSw => by dsimp only at hSw; go_simp⟩) hHeld rfl ?_
    try simp only [Act.put, List.setIfInBounds_toArray, List.set_cons_zero, List.set_cons_succ]
    refine wpAnyH_ready (rs := [39]) (by kernel_rfl) (by simp) ?_
    refine AllReadyH.cons rfl (fun K hK => ?_) AllReadyH.nil
    go_simp
    go_at_call 22; have KG := FpOk.great HK.out f _ (HK.out.stay GW.out BW.out) RF.out LF.out; rw [decide_eq_false (show ¬ RI / 2 < val f 6 by first | exact HGA.out | exact Int.not_lt.2 HGA.out)] at KG; refine Calls.mono KG ?_; clear KG; rintro e z39 ⟨rfl, b39⟩; have BX := Below.up BW.out (Nat.le_refl _) b39; clear BW; have BW : Hid _ := BX; clear BX b39
    refine hK.out _ _ (HS.out _ BW.out) (fun hHeld2 => ?_)
    clear hK K hHeld
    have hHeld := hHeld2
    clear hHeld2
    try simp only [Act.put, List.setIfInBounds_toArray, List.set_cons_zero, List.set_cons_succ]
    refine wpAnyH_ready (rs := [41]) (by kernel_rfl) (by simp) ?_
    refine AllReadyH.cons rfl (fun K hK => ?_) AllReadyH.nil
    go_simp
    go_at_call 16; refine Calls.mono (FpOk.neg HK.out f _ (HK.out.stay GW.out BW.out) RF.out LF.out) ?_; rintro e z41 ⟨s41, rfl, r41, v41, b41⟩; have BX := Below.up BW.out (Nat.le_refl _) b41; clear BW; have BW : Hid _ := BX; clear BX b41; have R41 : Hid _ := r41; have V41 : Hid _ := v41; clear r41 v41
    refine hK.out _ _ (HS.out _ BW.out) (fun hHeld2 => ?_)
    clear hK K hHeld
    have hHeld := hHeld2
    clear hHeld2
    try simp only [Act.put, List.setIfInBounds_toArray, List.set_cons_zero, List.set_cons_succ]
    refine wpAnyH_ready (rs := [42]) (by kernel_rfl) (by simp) ?_
    refine AllReadyH.cons rfl (fun K hK => ?_) AllReadyH.nil
    go_simp
    go_at_call 22; have KG := FpOk.great HK.out s41 _ (HK.out.stay GW.out BW.out) R41.out (by rw [V41.out]; exact modR_lt _); rw [V41.out, decide_eq_true HGB.out] at KG; refine Calls.mono KG ?_; clear KG; rintro e z42 ⟨rfl, b42⟩; have BX := Below.up BW.out (Nat.le_refl _) b42; clear BW; have BW : Hid _ := BX; clear BX b42
    refine hK.out _ _ (HS.out _ BW.out) (fun hHeld2 => ?_)
    clear hK K hHeld
    have hHeld := hHeld2
    clear hHeld2
    try simp only [Act.put, List.setIfInBounds_toArray, List.set_cons_zero, List.set_cons_succ]
    refine takeW (i := 43) (v := .bool true) 79 rfl (by kernel_rfl) (by kernel_rfl) (by kernel_rfl) (fun _ _ _ h => h) (Or.inl ⟨by rfl, fun wS hSw => by dsimp only at hSw; go_simp⟩) hHeld rfl ?_
    try simp only [Act.put, List.setIfInBounds_toArray, List.set_cons_zero, List.set_cons_succ]
    refine takeW (i := 44) (v := .bool true) 80 rfl (by kernel_rfl) (by kernel_rfl) (by kernel_rfl) (fun _ _ _ h => h) (Or.inl ⟨by rfl, fun wS hSw => by dsimp only at hSw; go_simp⟩) hHeld rfl ?_
    try simp only [Act.put, List.setIfInBounds_toArray, List.set_cons_zero, List.set_cons_succ]
    refine takeW (i := 45) (v := .bool true) 81 rfl (by kernel_rfl) (by kernel_rfl) (by kernel_rfl) (fun _ _ _ h => h) (Or.inl ⟨by rfl, fun wS hSw => by dsimp only at hSw; go_simp⟩) hHeld rfl ?_
    try simp only [Act.put, List.setIfInBounds_toArray, List.set_cons_zero, List.set_cons_succ]
    refine wpAnyH_ready (rs := [46]) (by kernel_rfl) (by simp) ?_
    refine AllReadyH.cons rfl (fun K hK => ?_) AllReadyH.nil
    go_simp
    refine hK.out _ _ (HS.out _ BW.out) (fun hHeld2 => ?_)
    clear hK K hHeld
    have hHeld := hHeld2
    clear hHeld2
    try simp only [Act.put, List.setIfInBounds_toArray, List.set_cons_zero, List.set_cons_succ]
    refine wpAnyH_done (by kernel_rfl) ?_ _
    go_wp2
    go_ret
    exact ⟨rfl, Below.up C7.out (Nat.le_refl _) BW.out⟩

set_option maxHeartbeats 4000000 in
theorem fpSquares_minusOG {G : World → Prop} (K : FpOk G) (f : Nat → Int) (w : World) (hg : G w) (rf : Rg f 6) (lf : val f 6 < RI) (hz : val f 6 ≠ 0) (hx : sq (val f 6) * sq (val f 6) % RI ≠ val f 6) (hy : sq ((0 - val f 6) % RI) * sq ((0 - val f 6) % RI) % RI = (0 - val f 6) % RI) (hn : lesser (sq (val f 6 * val f 6 % RI)) ≠ val f 6) (ho : lesser (sq (val f 6 * val f 6 % RI)) = (0 - val f 6) % RI) (hga : RI / 2 < val f 6) (hgb : ¬ RI / 2 < (0 - val f 6) % RI) : Calls Tryd.prog 7 #[frv f] w fun e w' => e = .returned (.bool true) ∧ Below w.heap.size w w' := by
  have hgg := hg
  have HK : Hid _ := K
  clear K
  have ma := mut_four w f 24
  have b0 := below_one w (.cells #[.int .u64 (f 0), .int .u64 (f 1), .int .u64 (f 2), .int .u64 (f 3), .int .u64 (f 4), .int .u64 (f 5)] 24)
  have z0 := World.size_alloc w (.cells #[.int .u64 (f 0), .int .u64 (f 1), .int .u64 (f 2), .int .u64 (f 3), .int .u64 (f 4), .int .u64 (f 5)] 24)
  have g0 := HK.out.stay hg b0
  have RF : Hid _ := rf
  unfold frv
  go_enter Tryd.func7, Tryd.ntmps7
  go_wp2_with fail
  generalize w.alloc (.cells #[.int .u64 (f 0), .int .u64 (f 1), .int .u64 (f 2), .int .u64 (f 3), .int .u64 (f 4), .int .u64 (f 5)] 24) = W0 at *
  refine Calls.mono (fpBegun HK.out _ g0) ?_
  rintro e w1 ⟨rfl, b1⟩
  have ma1 := ma.below b1 (by rw [z0]; omega)
  obtain ⟨x0, x1, x2, x3, x4, x5⟩ := ma1.cells6
  have MA : Hid _ := ma1
  have B1 : Hid _ := Below.up b0 (Nat.le_refl _) b1
  have KM : Hid _ := fun w => mayR_any f w rf
  unfold frv at KM
  rw [decide_eq_true lf] at KM
  clear ma ma1 b0 b1 z0 g0 hg rf
  go_wp2_with fail
  refine Calls.mono (KM.out _) ?_
  rintro e w2 ⟨rfl, b2⟩
  have LF : Hid _ := lf
  have HZ : Hid _ := hz
  have HO : Hid _ := ho
  have HN : Hid _ := hn
  clear hn
  have HGA : Hid _ := hga
  have HGB : Hid _ := hgb
  clear hga hgb
  have HX : Hid _ := hx
  have HY : Hid _ := hy
  clear hx hy
  have ma2 := MutK.below MA.out b2 (cell_lt x0)
  have c2 := Below.up B1.out (Nat.le_refl _) b2
  have g2 := HK.out.stay hgg c2
  obtain ⟨y0, y1, y2, y3, y4, y5⟩ := ma2.cells6
  clear b2 lf hz ho x0 x1 x2 x3 x4 x5 MA B1 KM
  go_wp2_with fail
  refine Calls.mono (FpOk.mul HK.out f f _ g2 RF.out RF.out LF.out LF.out) ?_
  rintro e w3 ⟨h3, rfl, r3, v3, b3⟩
  have c3 := Below.up c2 (Nat.le_refl _) b3
  have g3 := HK.out.stay hgg c3
  have ma3 := MutK.below ma2 b3 (cell_lt ma2.cells6.1)
  have l3 : val h3 6 < RI := by rw [v3]; exact modR_lt _
  have f0 : 0 ≤ val f 6 := (val_bd RF.out).1
  clear b3 c2 g2 ma2 y0 y1 y2 y3 y4 y5
  go_wp2_with fail
  refine Calls.mono (FpOk.sqrtYes HK.out h3 _ g3 r3 l3 (by rw [v3]; exact square_root f0 LF.out)) ?_
  rintro e w4 ⟨h4, rfl, r4, v4, b4⟩
  rw [v3] at v4
  have V4 : Hid _ := v4
  have R4 : Hid _ := r4
  have a4 := below_one w4 (.cells #[.int .u64 (h4 0), .int .u64 (h4 1), .int .u64 (h4 2), .int .u64 (h4 3), .int .u64 (h4 4), .int .u64 (h4 5)] 24)
  have c4 := Below.up (Below.up c3 (Nat.le_refl _) b4) (Nat.le_refl _) a4
  have ma4 := MutK.below (MutK.below ma3 b4 (cell_lt ma3.cells6.1)) a4 (Nat.lt_of_lt_of_le (cell_lt ma3.cells6.1) b4.size)
  have mr4 := mut_four w4 h4 24
  obtain ⟨x0, x1, x2, x3, x4, x5⟩ := ma4.cells6
  clear b4 a4 c3 g3 ma3 r3 v3 l3 v4 r4
  go_wp2_with fail
  generalize w4.alloc (.cells #[.int .u64 (h4 0), .int .u64 (h4 1), .int .u64 (h4 2), .int .u64 (h4 3), .int .u64 (h4 4), .int .u64 (h4 5)] 24) = W4 at *
  have g5 := HK.out.stay hgg c4
  refine Calls.mono (FpOk.sqrtNo HK.out f _ g5 RF.out LF.out HX.out) ?_
  rintro e w5 ⟨h5, rfl, r5, v5, b5⟩
  have a5 := below_one w5 (.cells #[.int .u64 (h5 0), .int .u64 (h5 1), .int .u64 (h5 2), .int .u64 (h5 3), .int .u64 (h5 4), .int .u64 (h5 5)] 24)
  have c5 := Below.up (Below.up c4 (Nat.le_refl _) b5) (Nat.le_refl _) a5
  have ma5 := MutK.below (MutK.below ma4 b5 (cell_lt ma4.cells6.1)) a5 (Nat.lt_of_lt_of_le (cell_lt ma4.cells6.1) b5.size)
  have mr5 := MutK.below (MutK.below mr4 b5 (cell_lt mr4.cells6.1)) a5 (Nat.lt_of_lt_of_le (cell_lt mr4.cells6.1) b5.size)
  clear x0 x1 x2 x3 x4 x5 b5 a5 c4 g5 ma4 mr4 r5 v5
  obtain ⟨x0, x1, x2, x3, x4, x5⟩ := ma5.cells6
  go_wp2_with fail
  generalize w5.alloc (.cells #[.int .u64 (h5 0), .int .u64 (h5 1), .int .u64 (h5 2), .int .u64 (h5 3), .int .u64 (h5 4), .int .u64 (h5 5)] 24) = W5 at *
  have g6 := HK.out.stay hgg c5
  refine Calls.mono (FpOk.neg HK.out f _ g6 RF.out LF.out) ?_
  rintro e w6 ⟨h6, rfl, r6, v6, b6⟩
  have c6 := Below.up c5 (Nat.le_refl _) b6
  have ma6 := MutK.below ma5 b6 (cell_lt ma5.cells6.1)
  have mr6 := MutK.below mr5 b6 (cell_lt mr5.cells6.1)
  have g7 := HK.out.stay hgg c6
  have l6 : val h6 6 < RI := by rw [v6]; exact modR_lt _
  clear x0 x1 x2 x3 x4 x5 b6 c5 g6 ma5 mr5
  go_wp2_with fail
  refine Calls.mono (FpOk.sqrtYes HK.out h6 _ g7 r6 l6 (by rw [v6]; exact HY.out)) ?_
  rintro e w7 ⟨h7, rfl, r7, v7, b7⟩
  have a7 := below_one w7 (.cells #[.int .u64 (h7 0), .int .u64 (h7 1), .int .u64 (h7 2), .int .u64 (h7 3), .int .u64 (h7 4), .int .u64 (h7 5)] 24)
  have c7 := Below.up (Below.up c6 (Nat.le_refl _) b7) (Nat.le_refl _) a7
  have ma7 := MutK.below (MutK.below ma6 b7 (cell_lt ma6.cells6.1)) a7 (Nat.lt_of_lt_of_le (cell_lt ma6.cells6.1) b7.size)
  have mr7 := MutK.below (MutK.below mr6 b7 (cell_lt mr6.cells6.1)) a7 (Nat.lt_of_lt_of_le (cell_lt mr6.cells6.1) b7.size)
  clear b7 a7 c6 g7 ma6 mr6 r6 v6 l6 r7 v7
  go_wp2_with fail
  generalize w7.alloc (.cells #[.int .u64 (h7 0), .int .u64 (h7 1), .int .u64 (h7 2), .int .u64 (h7 3), .int .u64 (h7 4), .int .u64 (h7 5)] 24) = V at *
  have GW : Hid _ := HK.out.stay hgg c7
  have C7 : Hid _ := c7
  have HS : Hid (∀ x, Below V.heap.size V x → (x.cell? ⟨w.heap.size, 0, none⟩ = some (.int .u64 (f 0)) ∧ x.cell? ⟨w.heap.size, 1, none⟩ = some (.int .u64 (f 1)) ∧ x.cell? ⟨w.heap.size, 2, none⟩ = some (.int .u64 (f 2)) ∧ x.cell? ⟨w.heap.size, 3, none⟩ = some (.int .u64 (f 3)) ∧ x.cell? ⟨w.heap.size, 4, none⟩ = some (.int .u64 (f 4)) ∧ x.cell? ⟨w.heap.size, 5, none⟩ = some (.int .u64 (f 5))) ∧ (x.cell? ⟨w4.heap.size, 0, none⟩ = some (.int .u64 (h4 0)) ∧ x.cell? ⟨w4.heap.size, 1, none⟩ = some (.int .u64 (h4 1)) ∧ x.cell? ⟨w4.heap.size, 2, none⟩ = some (.int .u64 (h4 2)) ∧ x.cell? ⟨w4.heap.size, 3, none⟩ = some (.int .u64 (h4 3)) ∧ x.cell? ⟨w4.heap.size, 4, none⟩ = some (.int .u64 (h4 4)) ∧ x.cell? ⟨w4.heap.size, 5, none⟩ = some (.int .u64 (h4 5)))) := fun x hx => ⟨at6 (ma7.at.below hx), at6 (mr7.at.below hx)⟩
  have BW : Hid (Below V.heap.size V V.drew) := (Below.refl _ _).drew
  have F0 : Hid _ := f0
  clear c7 ma7 mr7 hgg f0
  obtain ⟨⟨p0, p1, p2, p3, p4, p5⟩, q0, q1, q2, q3, q4, q5⟩ := HS.out _ (Below.refl _ _)
  go_region_held3 (fun x => (x.cell? ⟨w.heap.size, 0, none⟩ = some (.int .u64 (f 0)) ∧ x.cell? ⟨w.heap.size, 1, none⟩ = some (.int .u64 (f 1)) ∧ x.cell? ⟨w.heap.size, 2, none⟩ = some (.int .u64 (f 2)) ∧ x.cell? ⟨w.heap.size, 3, none⟩ = some (.int .u64 (f 3)) ∧ x.cell? ⟨w.heap.size, 4, none⟩ = some (.int .u64 (f 4)) ∧ x.cell? ⟨w.heap.size, 5, none⟩ = some (.int .u64 (f 5))) ∧ (x.cell? ⟨w4.heap.size, 0, none⟩ = some (.int .u64 (h4 0)) ∧ x.cell? ⟨w4.heap.size, 1, none⟩ = some (.int .u64 (h4 1)) ∧ x.cell? ⟨w4.heap.size, 2, none⟩ = some (.int .u64 (h4 2)) ∧ x.cell? ⟨w4.heap.size, 3, none⟩ = some (.int .u64 (h4 3)) ∧ x.cell? ⟨w4.heap.size, 4, none⟩ = some (.int .u64 (h4 4)) ∧ x.cell? ⟨w4.heap.size, 5, none⟩ = some (.int .u64 (h4 5))))
    (exact HS.out _ BW.out)
    ((go_at_call 21; refine Calls.mono (FpOk.of HK.out 0 _ (HK.out.stay GW.out BW.out) (b64 (by decide) (by decide))) ?_; rintro e y1 ⟨s1, rfl, r1, v1, b1⟩; have BX := Below.up BW.out (Nat.le_refl _) b1; clear BW; have BW : Hid _ := BX; clear BX; have E1 := eq_no RF.out r1 (by rw [v1]; exact HZ.out); clear b1 r1 v1))
  all_goals
    clear p0 p1 p2 p3 p4 p5 q0 q1 q2 q3 q4 q5 E1
    obtain ⟨⟨p0, p1, p2, p3, p4, p5⟩, q0, q1, q2, q3, q4, q5⟩ := HS.out _ BW.out
    go_wp2_with fail
    have BX := (BW.out).drew
    clear BW
    have BW : Hid _ := BX
    clear BX
    have E4 := eq_no R4.out RF.out (by rw [V4.out]; exact HN.out)
    have L4 : Hid (val h4 6 < RI) := by show _ < _; rw [V4.out, HO.out]; exact modR_lt _
    refine wp_region_held_drew (S := (fun x => (x.cell? ⟨w.heap.size, 0, none⟩ = some (.int .u64 (f 0)) ∧ x.cell? ⟨w.heap.size, 1, none⟩ = some (.int .u64 (f 1)) ∧ x.cell? ⟨w.heap.size, 2, none⟩ = some (.int .u64 (f 2)) ∧ x.cell? ⟨w.heap.size, 3, none⟩ = some (.int .u64 (f 3)) ∧ x.cell? ⟨w.heap.size, 4, none⟩ = some (.int .u64 (f 4)) ∧ x.cell? ⟨w.heap.size, 5, none⟩ = some (.int .u64 (f 5))) ∧ (x.cell? ⟨w4.heap.size, 0, none⟩ = some (.int .u64 (h4 0)) ∧ x.cell? ⟨w4.heap.size, 1, none⟩ = some (.int .u64 (h4 1)) ∧ x.cell? ⟨w4.heap.size, 2, none⟩ = some (.int .u64 (h4 2)) ∧ x.cell? ⟨w4.heap.size, 3, none⟩ = some (.int .u64 (h4 3)) ∧ x.cell? ⟨w4.heap.size, 4, none⟩ = some (.int .u64 (h4 4)) ∧ x.cell? ⟨w4.heap.size, 5, none⟩ = some (.int .u64 (h4 5))))) (by kernel_rfl) (HS.out _ BW.out) (fun hHeld => ?_)
    refine takeW (i := 0) (v := .bool true) 36 rfl (by kernel_rfl) (by kernel_rfl) (by kernel_rfl) (fun _ _ _ h => h) (Or.inl ⟨by rfl, fun wS hSw => by dsimp only at hSw; go_simp⟩) hHeld rfl ?_
    try simp only [Act.put, List.setIfInBounds_toArray, List.set_cons_zero, List.set_cons_succ]
    refine takeW (i := 1) (v := .bool true) 37 rfl (by kernel_rfl) (by kernel_rfl) (by kernel_rfl) (fun _ _ _ h => h) (Or.inl ⟨by rfl, fun wS hSw => by dsimp only at hSw; go_simp⟩) hHeld rfl ?_
    try simp only [Act.put, List.setIfInBounds_toArray, List.set_cons_zero, List.set_cons_succ]
    refine takeW (i := 2) (v := .agg #[.int .u64 (h4 0), .int .u64 (h4 1), .int .u64 (h4 2), .int .u64 (h4 3), .int .u64 (h4 4), .int .u64 (h4 5)]) 38 rfl (by kernel_rfl) (by kernel_rfl) (by kernel_rfl) (fun _ _ _ h => h) (Or.inl ⟨by rfl, fun wS hSw => by dsimp only at hSw; go_simp⟩) hHeld rfl ?_
    try simp only [Act.put, List.setIfInBounds_toArray, List.set_cons_zero, List.set_cons_succ]
    refine takeW (i := 3) (v := .agg #[.int .u64 (f 0), .int .u64 (f 1), .int .u64 (f 2), .int .u64 (f 3), .int .u64 (f 4), .int .u64 (f 5)]) 39 rfl (by kernel_rfl) (by kernel_rfl) (by kernel_rfl) (fun _ _ _ h => h) (Or.inl ⟨by rfl, fun wS hSw => by dsimp only at hSw; go_simp⟩) hHeld rfl ?_
    try simp only [Act.put, List.setIfInBounds_toArray, List.set_cons_zero, List.set_cons_succ]
    refine takeW (i := 4) (v := .bool false) 40 rfl (by kernel_rfl) (by kernel_rfl) (by kernel_rfl) (fun _ _ _ h => h) (Or.inl ⟨by rfl, fun wS hSw => by dsimp only at hSw; go_simp⟩) hHeld rfl ?_
    try simp only [Act.put, List.setIfInBounds_toArray, List.set_cons_zero, List.set_cons_succ]
    refine takeW (i := 5) (v := .bool false) 41 rfl (by kernel_rfl) (by kernel_rfl) (by kernel_rfl) (fun _ _ _ h => h) (Or.inl ⟨by rfl, fun wS hSw => by dsimp only at hSw; go_simp⟩) hHeld rfl ?_
    try simp only [Act.put, List.setIfInBounds_toArray, List.set_cons_zero, List.set_cons_succ]
    refine takeW (i := 6) (v := .agg #[.int .u64 (h4 0), .int .u64 (h4 1), .int .u64 (h4 2), .int .u64 (h4 3), .int .u64 (h4 4), .int .u64 (h4 5)]) 42 rfl (by kernel_rfl) (by kernel_rfl) (by kernel_rfl) (fun _ _ _ h => h) (Or.inl ⟨by rfl, fun wS hSw => by dsimp only at hSw; go_simp⟩) hHeld rfl ?_
    try simp only [Act.put, List.setIfInBounds_toArray, List.set_cons_zero, List.set_cons_succ]
    refine takeW (i := 7) (v := .agg #[.int .u64 (f 0), .int .u64 (f 1), .int .u64 (f 2), .int .u64 (f 3), .int .u64 (f 4), .int .u64 (f 5)]) 43 rfl (by kernel_rfl) (by kernel_rfl) (by kernel_rfl) (fun _ _ _ h => h) (Or.inl ⟨by rfl, fun wS hSw => by dsimp only at hSw; go_simp⟩) hHeld rfl ?_
    try simp only [Act.put, List.setIfInBounds_toArray, List.set_cons_zero, List.set_cons_succ]
    refine wpAnyH_ready (rs := [8]) (by kernel_rfl) (by simp) ?_
    refine AllReadyH.cons rfl (fun K hK => ?_) AllReadyH.nil
    go_simp
    go_at_call 16; refine Calls.mono (FpOk.neg HK.out f _ (HK.out.stay GW.out BW.out) RF.out LF.out) ?_; rintro e z8 ⟨s8, rfl, r8, v8, b8⟩; have BX := Below.up BW.out (Nat.le_refl _) b8; clear BW; have BW : Hid _ := BX; clear BX b8; have E8 := eq_yes R4.out r8 (by rw [V4.out, HO.out, v8]); clear r8 v8
    refine hK.out _ _ (HS.out _ BW.out) (fun hHeld2 => ?_)
    clear hK K hHeld
    have hHeld := hHeld2
    clear hHeld2
    try simp only [Act.put, List.setIfInBounds_toArray, List.set_cons_zero, List.set_cons_succ]
    refine takeW (i := 9) (v := .bool true) 45 rfl (by kernel_rfl) (by kernel_rfl) (by kernel_rfl) (fun _ _ _ h => h) (Or.inl ⟨by rfl, fun wS hSw => by dsimp only at hSw; go_simp⟩) hHeld rfl ?_
    try simp only [Act.put, List.setIfInBounds_toArray, List.set_cons_zero, List.set_cons_succ]
    refine takeW (i := 10) (v := .bool true) 46 rfl (by kernel_rfl) (by kernel_rfl) (by kernel_rfl) (fun _ _ _ h => h) (Or.inl ⟨by rfl, fun wS hSw => by dsimp only at hSw; go_simp⟩) hHeld rfl ?_
    try simp only [Act.put, List.setIfInBounds_toArray, List.set_cons_zero, List.set_cons_succ]
    refine takeW (i := 11) (v := .bool true) 47 rfl (by kernel_rfl) (by kernel_rfl) (by kernel_rfl) (fun _ _ _ h => h) (Or.inl ⟨by rfl, fun wS hSw => by dsimp only at hSw; go_simp⟩) hHeld rfl ?_
    try simp only [Act.put, List.setIfInBounds_toArray, List.set_cons_zero, List.set_cons_succ]
    refine takeW (i := 12) (v := .bool true) 48 rfl (by kernel_rfl) (by kernel_rfl) (by kernel_rfl) (fun _ _ _ h => h) (Or.inl ⟨by rfl, fun wS hSw => by dsimp only at hSw; go_simp⟩) hHeld rfl ?_
    try simp only [Act.put, List.setIfInBounds_toArray, List.set_cons_zero, List.set_cons_succ]
    refine takeW (i := 13) (v := .agg #[.int .u64 (h4 0), .int .u64 (h4 1), .int .u64 (h4 2), .int .u64 (h4 3), .int .u64 (h4 4), .int .u64 (h4 5)]) 49 rfl (by kernel_rfl) (by kernel_rfl) (by kernel_rfl) (fun _ _ _ h => h) (Or.inl ⟨by rfl, fun wS hSw => by dsimp only at hSw; go_simp⟩) hHeld rfl ?_
    try simp only [Act.put, List.setIfInBounds_toArray, List.set_cons_zero, List.set_cons_succ]
    refine wpAnyH_ready (rs := [14]) (by kernel_rfl) (by simp) ?_
    refine AllReadyH.cons rfl (fun K hK => ?_) AllReadyH.nil
    go_simp
    go_at_call 22; have KG := FpOk.great HK.out h4 _ (HK.out.stay GW.out BW.out) R4.out L4.out; rw [V4.out, decide_eq_false (root_small _)] at KG; refine Calls.mono KG ?_; clear KG; rintro e z14 ⟨rfl, b14⟩; have BX := Below.up BW.out (Nat.le_refl _) b14; clear BW; have BW : Hid _ := BX; clear BX b14
    refine hK.out _ _ (HS.out _ BW.out) (fun hHeld2 => ?_)
    clear hK K hHeld
    have hHeld := hHeld2
    clear hHeld2
    try simp only [Act.put, List.setIfInBounds_toArray, List.set_cons_zero, List.set_cons_succ]
    refine takeW (i := 15) (v := .bool true) 51 rfl (by kernel_rfl) (by kernel_rfl) (by kernel_rfl) (fun _ _ _ h => h) (Or.inl ⟨by rfl, fun wS hSw => by dsimp only at hSw; go_simp⟩) hHeld rfl ?_
    try simp only [Act.put, List.setIfInBounds_toArray, List.set_cons_zero, List.set_cons_succ]
    refine takeW (i := 16) (v := .bool true) 52 rfl (by kernel_rfl) (by kernel_rfl) (by kernel_rfl) (fun _ _ _ h => h) (Or.inl ⟨by rfl, fun wS hSw => by dsimp only at hSw; go_simp⟩) hHeld rfl ?_
    try simp only [Act.put, List.setIfInBounds_toArray, List.set_cons_zero, List.set_cons_succ]
    refine takeW (i := 17) (v := .bool true) 53 rfl (by kernel_rfl) (by kernel_rfl) (by kernel_rfl) (fun _ _ _ h => h) (Or.inl ⟨by rfl, fun wS hSw => by dsimp only at hSw; go_simp⟩) hHeld rfl ?_
    try simp only [Act.put, List.setIfInBounds_toArray, List.set_cons_zero, List.set_cons_succ]
    refine takeW (i := 18) (v := .bool false) 54 rfl (by kernel_rfl) (by kernel_rfl) (by kernel_rfl) (fun _ _ _ h => h) (Or.inl ⟨by rfl, fun wS hSw => by dsimp only at hSw; go_simp⟩) hHeld rfl ?_
    try simp only [Act.put, List.setIfInBounds_toArray, List.set_cons_zero, List.set_cons_succ]
    refine takeW (i := 19) (v := .bool false) 55 rfl (by kernel_rfl) (by kernel_rfl) (by kernel_rfl) (fun _ _ _ h => h) (Or.inl ⟨by rfl, fun wS hSw => by dsimp only at hSw; go_simp⟩) hHeld rfl ?_
    try simp only [Act.put, List.setIfInBounds_toArray, List.set_cons_zero, List.set_cons_succ]
    refine takeW (i := 20) (v := undef) 56 rfl (by kernel_rfl) (by kernel_rfl) (by kernel_rfl) (fun _ _ _ h => h) (Or.inr ⟨by rfl, rfl⟩) hHeld rfl ?_
    try simp only [Act.put, List.setIfInBounds_toArray, List.set_cons_zero, List.set_cons_succ]
    refine takeW (i := 21) (v := .bool false) 57 rfl (by kernel_rfl) (by kernel_rfl) (by kernel_rfl) (fun _ _ _ h => h) (Or.inl ⟨by rfl, fun wS hSw => by dsimp only at hSw; go_simp⟩) hHeld rfl ?_
    try simp only [Act.put, List.setIfInBounds_toArray, List.set_cons_zero, List.set_cons_succ]
    refine takeW (i := 22) (v := .bool false) 58 rfl (by kernel_rfl) (by kernel_rfl) (by kernel_rfl) (fun _ _ _ h => h) (Or.inl ⟨by rfl, fun wS hSw => by dsimp only at hSw; go_simp⟩) hHeld rfl ?_
    try simp only [Act.put, List.setIfInBounds_toArray, List.set_cons_zero, List.set_cons_succ]
    refine takeW (i := 23) (v := undef) 59 rfl (by kernel_rfl) (by kernel_rfl) (by kernel_rfl) (fun _ _ _ h => h) (Or.inr ⟨by rfl, rfl⟩) hHeld rfl ?_
    try simp only [Act.put, List.setIfInBounds_toArray, List.set_cons_zero, List.set_cons_succ]
    refine takeW (i := 24) (v := .bool false) 60 rfl (by kernel_rfl) (by kernel_rfl) (by kernel_rfl) (fun _ _ _ h => h) (Or.inl ⟨by rfl, fun wS hSw => by dsimp only at hSw; go_simp⟩) hHeld rfl ?_
    try simp only [Act.put, List.setIfInBounds_toArray, List.set_cons_zero, List.set_cons_succ]
    refine takeW (i := 25) (v := .bool false) 61 rfl (by kernel_rfl) (by kernel_rfl) (by kernel_rfl) (fun _ _ _ h => h) (Or.inl ⟨by rfl, fun wS hSw => by dsimp only at hSw; go_simp⟩) hHeld rfl ?_
    try simp only [Act.put, List.setIfInBounds_toArray, List.set_cons_zero, List.set_cons_succ]
    refine takeW (i := 26) (v := .bool false) 62 rfl (by kernel_rfl) (by kernel_rfl) (by kernel_rfl) (fun _ _ _ h => h) (Or.inl ⟨by rfl, fun wS hSw => by dsimp only at hSw; go_simp⟩) hHeld rfl ?_
    try simp only [Act.put, List.setIfInBounds_toArray, List.set_cons_zero, List.set_cons_succ]
    refine takeW (i := 27) (v := .bool true) 63 rfl (by kernel_rfl) (by kernel_rfl) (by kernel_rfl) (fun _ _ _ h => h) (Or.inl ⟨by rfl, fun wS hSw => by dsimp only at hSw; go_simp⟩) hHeld rfl ?_
    try simp only [Act.put, List.setIfInBounds_toArray, List.set_cons_zero, List.set_cons_succ]
    refine takeW (i := 28) (v := .bool true) 64 rfl (by kernel_rfl) (by kernel_rfl) (by kernel_rfl) (fun _ _ _ h => h) (Or.inl ⟨by rfl, fun wS hSw => by dsimp only at hSw; go_simp⟩) hHeld rfl ?_
    try simp only [Act.put, List.setIfInBounds_toArray, List.set_cons_zero, List.set_cons_succ]
    refine takeW (i := 29) (v := .bool false) 65 rfl (by kernel_rfl) (by kernel_rfl) (by kernel_rfl) (fun _ _ _ h => h) (Or.inl ⟨by rfl, fun wS hSw => by dsimp only at hSw; go_simp⟩) hHeld rfl ?_
    try simp only [Act.put, List.setIfInBounds_toArray, List.set_cons_zero, List.set_cons_succ]
    refine takeW (i := 30) (v := .bool true) 66 rfl (by kernel_rfl) (by kernel_rfl) (by kernel_rfl) (fun _ _ _ h => h) (Or.inl ⟨by rfl, fun wS hSw => by dsimp only at hSw; go_simp⟩) hHeld rfl ?_
    try simp only [Act.put, List.setIfInBounds_toArray, List.set_cons_zero, List.set_cons_succ]
    refine takeW (i := 31) (v := .bool true) 67 rfl (by kernel_rfl) (by kernel_rfl) (by kernel_rfl) (fun _ _ _ h => h) (Or.inl ⟨by rfl, fun wS hSw => by dsimp only at hSw; go_simp⟩) hHeld rfl ?_
    try simp only [Act.put, List.setIfInBounds_toArray, List.set_cons_zero, List.set_cons_succ]
    refine takeW (i := 32) (v := .bool true) 68 rfl (by kernel_rfl) (by kernel_rfl) (by kernel_rfl) (fun _ _ _ h => h) (Or.inl ⟨by rfl, fun wS hSw => by dsimp only at hSw; go_simp⟩) hHeld rfl ?_
    try simp only [Act.put, List.setIfInBounds_toArray, List.set_cons_zero, List.set_cons_succ]
    refine takeW (i := 33) (v := .bool true) 69 rfl (by kernel_rfl) (by kernel_rfl) (by kernel_rfl) (fun _ _ _ h => h) (Or.inl ⟨by rfl, fun wS hSw => by dsimp only at hSw; go_simp⟩) hHeld rfl ?_
    try simp only [Act.put, List.setIfInBounds_toArray, List.set_cons_zero, List.set_cons_succ]
    refine takeW (i := 34) (v := .bool true) 70 rfl (by kernel_rfl) (by kernel_rfl) (by kernel_rfl) (fun _ _ _ h => h) (Or.inl ⟨by rfl, fun wS hSw => by dsimp only at hSw; go_simp⟩) hHeld rfl ?_
    try simp only [Act.put, List.setIfInBounds_toArray, List.set_cons_zero, List.set_cons_succ]
    refine takeW (i := 35) (v := .bool true) 71 rfl (by kernel_rfl) (by kernel_rfl) (by kernel_rfl) (fun _ _ _ h => h) (Or.inl ⟨by rfl, fun wS hSw => by dsimp only at hSw; go_simp⟩) hHeld rfl ?_
    try simp only [Act.put, List.setIfInBounds_toArray, List.set_cons_zero, List.set_cons_succ]
    refine takeW (i := 36) (v := .bool false) 72 rfl (by kernel_rfl) (by kernel_rfl) (by kernel_rfl) (fun _ _ _ h => h) (Or.inl ⟨by rfl, fun wS hSw => by dsimp only at hSw; go_simp⟩) hHeld rfl ?_
    try simp only [Act.put, List.setIfInBounds_toArray, List.set_cons_zero, List.set_cons_succ]
    refine takeW (i := 37) (v := .bool false) 73 rfl (by kernel_rfl) (by kernel_rfl) (by kernel_rfl) (fun _ _ _ h => h) (Or.inl ⟨by rfl, fun wS hSw => by dsimp only at hSw; go_simp⟩) hHeld rfl ?_
    try simp only [Act.put, List.setIfInBounds_toArray, List.set_cons_zero, List.set_cons_succ]
    refine takeW (i := 38) (v := .agg #[.int .u64 (f 0), .int .u64 (f 1), .int .u64 (f 2), .int .u64 (f 3), .int .u64 (f 4), .int .u64 (f 5)]) 74 rfl (by kernel_rfl) (by kernel_rfl) (by kernel_rfl) (fun _ _ _ h => h) (Or.inl ⟨by rfl, fun wS hSw => by dsimp only at hSw; go_simp⟩) hHeld rfl ?_
    try simp only [Act.put, List.setIfInBounds_toArray, List.set_cons_zero, List.set_cons_succ]
    refine takeW (i := 40) (v := .agg #[.int .u64 (f 0), .int .u64 (f 1), .int .u64 (f 2), .int .u64 (f 3), .int .u64 (f 4), .int .u64 (f 5)]) 76 rfl (by kernel_rfl) (by kernel_rfl) (by kernel_rfl) (fun _ _ _ h => h) (Or.inl ⟨by rfl, fun wS hSw => by dsimp only at hSw; go_simp⟩) hHeld rfl ?_
    try simp only [Act.put, List.setIfInBounds_toArray, List.set_cons_zero, List.set_cons_succ]
    refine wpAnyH_ready (rs := [39]) (by kernel_rfl) (by simp) ?_
    refine AllReadyH.cons rfl (fun K hK => ?_) AllReadyH.nil
    go_simp
    go_at_call 22; have KG := FpOk.great HK.out f _ (HK.out.stay GW.out BW.out) RF.out LF.out; rw [decide_eq_true HGA.out] at KG; refine Calls.mono KG ?_; clear KG; rintro e z39 ⟨rfl, b39⟩; have BX := Below.up BW.out (Nat.le_refl _) b39; clear BW; have BW : Hid _ := BX; clear BX b39
    refine hK.out _ _ (HS.out _ BW.out) (fun hHeld2 => ?_)
    clear hK K hHeld
    have hHeld := hHeld2
    clear hHeld2
    try simp only [Act.put, List.setIfInBounds_toArray, List.set_cons_zero, List.set_cons_succ]
    refine wpAnyH_ready (rs := [41]) (by kernel_rfl) (by simp) ?_
    refine AllReadyH.cons rfl (fun K hK => ?_) AllReadyH.nil
    go_simp
    go_at_call 16; refine Calls.mono (FpOk.neg HK.out f _ (HK.out.stay GW.out BW.out) RF.out LF.out) ?_; rintro e z41 ⟨s41, rfl, r41, v41, b41⟩; have BX := Below.up BW.out (Nat.le_refl _) b41; clear BW; have BW : Hid _ := BX; clear BX b41; have R41 : Hid _ := r41; have V41 : Hid _ := v41; clear r41 v41
    refine hK.out _ _ (HS.out _ BW.out) (fun hHeld2 => ?_)
    clear hK K hHeld
    have hHeld := hHeld2
    clear hHeld2
    try simp only [Act.put, List.setIfInBounds_toArray, List.set_cons_zero, List.set_cons_succ]
    refine wpAnyH_ready (rs := [42]) (by kernel_rfl) (by simp) ?_
    refine AllReadyH.cons rfl (fun K hK => ?_) AllReadyH.nil
    go_simp
    go_at_call 22; have KG := FpOk.great HK.out s41 _ (HK.out.stay GW.out BW.out) R41.out (by rw [V41.out]; exact modR_lt _); rw [V41.out, decide_eq_false (show ¬ RI / 2 < (0 - val f 6) % RI by first | exact HGB.out | exact Int.not_lt.2 HGB.out)] at KG; refine Calls.mono KG ?_; clear KG; rintro e z42 ⟨rfl, b42⟩; have BX := Below.up BW.out (Nat.le_refl _) b42; clear BW; have BW : Hid _ := BX; clear BX b42
    refine hK.out _ _ (HS.out _ BW.out) (fun hHeld2 => ?_)
    clear hK K hHeld
    have hHeld := hHeld2
    clear hHeld2
    try simp only [Act.put, List.setIfInBounds_toArray, List.set_cons_zero, List.set_cons_succ]
    refine takeW (i := 43) (v := .bool true) 79 rfl (by kernel_rfl) (by kernel_rfl) (by kernel_rfl) (fun _ _ _ h => h) (Or.inl ⟨by rfl, fun wS hSw => by dsimp only at hSw; go_simp⟩) hHeld rfl ?_
    try simp only [Act.put, List.setIfInBounds_toArray, List.set_cons_zero, List.set_cons_succ]
    refine takeW (i := 44) (v := .bool true) 80 rfl (by kernel_rfl) (by kernel_rfl) (by kernel_rfl) (fun _ _ _ h => h) (Or.inl ⟨by rfl, fun wS hSw => by dsimp only at hSw; go_simp⟩) hHeld rfl ?_
    try simp only [Act.put, List.setIfInBounds_toArray, List.set_cons_zero, List.set_cons_succ]
    refine takeW (i := 45) (v := .bool true) 81 rfl (by kernel_rfl) (by kernel_rfl) (by kernel_rfl) (fun _ _ _ h => h) (Or.inl ⟨by rfl, fun wS hSw => by dsimp only at hSw; go_simp⟩) hHeld rfl ?_
    try simp only [Act.put, List.setIfInBounds_toArray, List.set_cons_zero, List.set_cons_succ]
    refine wpAnyH_ready (rs := [46]) (by kernel_rfl) (by simp) ?_
    refine AllReadyH.cons rfl (fun K hK => ?_) AllReadyH.nil
    go_simp
    refine hK.out _ _ (HS.out _ BW.out) (fun hHeld2 => ?_)
    clear hK K hHeld
    have hHeld := hHeld2
    clear hHeld2
    try simp only [Act.put, List.setIfInBounds_toArray, List.set_cons_zero, List.set_cons_succ]
    refine wpAnyH_done (by kernel_rfl) ?_ _
    go_wp2
    go_ret
    exact ⟨rfl, Below.up C7.out (Nat.le_refl _) BW.out⟩

set_option maxHeartbeats 4000000 in
theorem fpSquares_minusOL {G : World → Prop} (K : FpOk G) (f : Nat → Int) (w : World) (hg : G w) (rf : Rg f 6) (lf : val f 6 < RI) (hz : val f 6 ≠ 0) (hx : sq (val f 6) * sq (val f 6) % RI ≠ val f 6) (hy : sq ((0 - val f 6) % RI) * sq ((0 - val f 6) % RI) % RI = (0 - val f 6) % RI) (hn : lesser (sq (val f 6 * val f 6 % RI)) ≠ val f 6) (ho : lesser (sq (val f 6 * val f 6 % RI)) = (0 - val f 6) % RI) (hga : ¬ RI / 2 < val f 6) (hgb : RI / 2 < (0 - val f 6) % RI) : Calls Tryd.prog 7 #[frv f] w fun e w' => e = .returned (.bool true) ∧ Below w.heap.size w w' := by
  have hgg := hg
  have HK : Hid _ := K
  clear K
  have ma := mut_four w f 24
  have b0 := below_one w (.cells #[.int .u64 (f 0), .int .u64 (f 1), .int .u64 (f 2), .int .u64 (f 3), .int .u64 (f 4), .int .u64 (f 5)] 24)
  have z0 := World.size_alloc w (.cells #[.int .u64 (f 0), .int .u64 (f 1), .int .u64 (f 2), .int .u64 (f 3), .int .u64 (f 4), .int .u64 (f 5)] 24)
  have g0 := HK.out.stay hg b0
  have RF : Hid _ := rf
  unfold frv
  go_enter Tryd.func7, Tryd.ntmps7
  go_wp2_with fail
  generalize w.alloc (.cells #[.int .u64 (f 0), .int .u64 (f 1), .int .u64 (f 2), .int .u64 (f 3), .int .u64 (f 4), .int .u64 (f 5)] 24) = W0 at *
  refine Calls.mono (fpBegun HK.out _ g0) ?_
  rintro e w1 ⟨rfl, b1⟩
  have ma1 := ma.below b1 (by rw [z0]; omega)
  obtain ⟨x0, x1, x2, x3, x4, x5⟩ := ma1.cells6
  have MA : Hid _ := ma1
  have B1 : Hid _ := Below.up b0 (Nat.le_refl _) b1
  have KM : Hid _ := fun w => mayR_any f w rf
  unfold frv at KM
  rw [decide_eq_true lf] at KM
  clear ma ma1 b0 b1 z0 g0 hg rf
  go_wp2_with fail
  refine Calls.mono (KM.out _) ?_
  rintro e w2 ⟨rfl, b2⟩
  have LF : Hid _ := lf
  have HZ : Hid _ := hz
  have HO : Hid _ := ho
  have HN : Hid _ := hn
  clear hn
  have HGA : Hid _ := hga
  have HGB : Hid _ := hgb
  clear hga hgb
  have HX : Hid _ := hx
  have HY : Hid _ := hy
  clear hx hy
  have ma2 := MutK.below MA.out b2 (cell_lt x0)
  have c2 := Below.up B1.out (Nat.le_refl _) b2
  have g2 := HK.out.stay hgg c2
  obtain ⟨y0, y1, y2, y3, y4, y5⟩ := ma2.cells6
  clear b2 lf hz ho x0 x1 x2 x3 x4 x5 MA B1 KM
  go_wp2_with fail
  refine Calls.mono (FpOk.mul HK.out f f _ g2 RF.out RF.out LF.out LF.out) ?_
  rintro e w3 ⟨h3, rfl, r3, v3, b3⟩
  have c3 := Below.up c2 (Nat.le_refl _) b3
  have g3 := HK.out.stay hgg c3
  have ma3 := MutK.below ma2 b3 (cell_lt ma2.cells6.1)
  have l3 : val h3 6 < RI := by rw [v3]; exact modR_lt _
  have f0 : 0 ≤ val f 6 := (val_bd RF.out).1
  clear b3 c2 g2 ma2 y0 y1 y2 y3 y4 y5
  go_wp2_with fail
  refine Calls.mono (FpOk.sqrtYes HK.out h3 _ g3 r3 l3 (by rw [v3]; exact square_root f0 LF.out)) ?_
  rintro e w4 ⟨h4, rfl, r4, v4, b4⟩
  rw [v3] at v4
  have V4 : Hid _ := v4
  have R4 : Hid _ := r4
  have a4 := below_one w4 (.cells #[.int .u64 (h4 0), .int .u64 (h4 1), .int .u64 (h4 2), .int .u64 (h4 3), .int .u64 (h4 4), .int .u64 (h4 5)] 24)
  have c4 := Below.up (Below.up c3 (Nat.le_refl _) b4) (Nat.le_refl _) a4
  have ma4 := MutK.below (MutK.below ma3 b4 (cell_lt ma3.cells6.1)) a4 (Nat.lt_of_lt_of_le (cell_lt ma3.cells6.1) b4.size)
  have mr4 := mut_four w4 h4 24
  obtain ⟨x0, x1, x2, x3, x4, x5⟩ := ma4.cells6
  clear b4 a4 c3 g3 ma3 r3 v3 l3 v4 r4
  go_wp2_with fail
  generalize w4.alloc (.cells #[.int .u64 (h4 0), .int .u64 (h4 1), .int .u64 (h4 2), .int .u64 (h4 3), .int .u64 (h4 4), .int .u64 (h4 5)] 24) = W4 at *
  have g5 := HK.out.stay hgg c4
  refine Calls.mono (FpOk.sqrtNo HK.out f _ g5 RF.out LF.out HX.out) ?_
  rintro e w5 ⟨h5, rfl, r5, v5, b5⟩
  have a5 := below_one w5 (.cells #[.int .u64 (h5 0), .int .u64 (h5 1), .int .u64 (h5 2), .int .u64 (h5 3), .int .u64 (h5 4), .int .u64 (h5 5)] 24)
  have c5 := Below.up (Below.up c4 (Nat.le_refl _) b5) (Nat.le_refl _) a5
  have ma5 := MutK.below (MutK.below ma4 b5 (cell_lt ma4.cells6.1)) a5 (Nat.lt_of_lt_of_le (cell_lt ma4.cells6.1) b5.size)
  have mr5 := MutK.below (MutK.below mr4 b5 (cell_lt mr4.cells6.1)) a5 (Nat.lt_of_lt_of_le (cell_lt mr4.cells6.1) b5.size)
  clear x0 x1 x2 x3 x4 x5 b5 a5 c4 g5 ma4 mr4 r5 v5
  obtain ⟨x0, x1, x2, x3, x4, x5⟩ := ma5.cells6
  go_wp2_with fail
  generalize w5.alloc (.cells #[.int .u64 (h5 0), .int .u64 (h5 1), .int .u64 (h5 2), .int .u64 (h5 3), .int .u64 (h5 4), .int .u64 (h5 5)] 24) = W5 at *
  have g6 := HK.out.stay hgg c5
  refine Calls.mono (FpOk.neg HK.out f _ g6 RF.out LF.out) ?_
  rintro e w6 ⟨h6, rfl, r6, v6, b6⟩
  have c6 := Below.up c5 (Nat.le_refl _) b6
  have ma6 := MutK.below ma5 b6 (cell_lt ma5.cells6.1)
  have mr6 := MutK.below mr5 b6 (cell_lt mr5.cells6.1)
  have g7 := HK.out.stay hgg c6
  have l6 : val h6 6 < RI := by rw [v6]; exact modR_lt _
  clear x0 x1 x2 x3 x4 x5 b6 c5 g6 ma5 mr5
  go_wp2_with fail
  refine Calls.mono (FpOk.sqrtYes HK.out h6 _ g7 r6 l6 (by rw [v6]; exact HY.out)) ?_
  rintro e w7 ⟨h7, rfl, r7, v7, b7⟩
  have a7 := below_one w7 (.cells #[.int .u64 (h7 0), .int .u64 (h7 1), .int .u64 (h7 2), .int .u64 (h7 3), .int .u64 (h7 4), .int .u64 (h7 5)] 24)
  have c7 := Below.up (Below.up c6 (Nat.le_refl _) b7) (Nat.le_refl _) a7
  have ma7 := MutK.below (MutK.below ma6 b7 (cell_lt ma6.cells6.1)) a7 (Nat.lt_of_lt_of_le (cell_lt ma6.cells6.1) b7.size)
  have mr7 := MutK.below (MutK.below mr6 b7 (cell_lt mr6.cells6.1)) a7 (Nat.lt_of_lt_of_le (cell_lt mr6.cells6.1) b7.size)
  clear b7 a7 c6 g7 ma6 mr6 r6 v6 l6 r7 v7
  go_wp2_with fail
  generalize w7.alloc (.cells #[.int .u64 (h7 0), .int .u64 (h7 1), .int .u64 (h7 2), .int .u64 (h7 3), .int .u64 (h7 4), .int .u64 (h7 5)] 24) = V at *
  have GW : Hid _ := HK.out.stay hgg c7
  have C7 : Hid _ := c7
  have HS : Hid (∀ x, Below V.heap.size V x → (x.cell? ⟨w.heap.size, 0, none⟩ = some (.int .u64 (f 0)) ∧ x.cell? ⟨w.heap.size, 1, none⟩ = some (.int .u64 (f 1)) ∧ x.cell? ⟨w.heap.size, 2, none⟩ = some (.int .u64 (f 2)) ∧ x.cell? ⟨w.heap.size, 3, none⟩ = some (.int .u64 (f 3)) ∧ x.cell? ⟨w.heap.size, 4, none⟩ = some (.int .u64 (f 4)) ∧ x.cell? ⟨w.heap.size, 5, none⟩ = some (.int .u64 (f 5))) ∧ (x.cell? ⟨w4.heap.size, 0, none⟩ = some (.int .u64 (h4 0)) ∧ x.cell? ⟨w4.heap.size, 1, none⟩ = some (.int .u64 (h4 1)) ∧ x.cell? ⟨w4.heap.size, 2, none⟩ = some (.int .u64 (h4 2)) ∧ x.cell? ⟨w4.heap.size, 3, none⟩ = some (.int .u64 (h4 3)) ∧ x.cell? ⟨w4.heap.size, 4, none⟩ = some (.int .u64 (h4 4)) ∧ x.cell? ⟨w4.heap.size, 5, none⟩ = some (.int .u64 (h4 5)))) := fun x hx => ⟨at6 (ma7.at.below hx), at6 (mr7.at.below hx)⟩
  have BW : Hid (Below V.heap.size V V.drew) := (Below.refl _ _).drew
  have F0 : Hid _ := f0
  clear c7 ma7 mr7 hgg f0
  obtain ⟨⟨p0, p1, p2, p3, p4, p5⟩, q0, q1, q2, q3, q4, q5⟩ := HS.out _ (Below.refl _ _)
  go_region_held3 (fun x => (x.cell? ⟨w.heap.size, 0, none⟩ = some (.int .u64 (f 0)) ∧ x.cell? ⟨w.heap.size, 1, none⟩ = some (.int .u64 (f 1)) ∧ x.cell? ⟨w.heap.size, 2, none⟩ = some (.int .u64 (f 2)) ∧ x.cell? ⟨w.heap.size, 3, none⟩ = some (.int .u64 (f 3)) ∧ x.cell? ⟨w.heap.size, 4, none⟩ = some (.int .u64 (f 4)) ∧ x.cell? ⟨w.heap.size, 5, none⟩ = some (.int .u64 (f 5))) ∧ (x.cell? ⟨w4.heap.size, 0, none⟩ = some (.int .u64 (h4 0)) ∧ x.cell? ⟨w4.heap.size, 1, none⟩ = some (.int .u64 (h4 1)) ∧ x.cell? ⟨w4.heap.size, 2, none⟩ = some (.int .u64 (h4 2)) ∧ x.cell? ⟨w4.heap.size, 3, none⟩ = some (.int .u64 (h4 3)) ∧ x.cell? ⟨w4.heap.size, 4, none⟩ = some (.int .u64 (h4 4)) ∧ x.cell? ⟨w4.heap.size, 5, none⟩ = some (.int .u64 (h4 5))))
    (exact HS.out _ BW.out)
    ((go_at_call 21; refine Calls.mono (FpOk.of HK.out 0 _ (HK.out.stay GW.out BW.out) (b64 (by decide) (by decide))) ?_; rintro e y1 ⟨s1, rfl, r1, v1, b1⟩; have BX := Below.up BW.out (Nat.le_refl _) b1; clear BW; have BW : Hid _ := BX; clear BX; have E1 := eq_no RF.out r1 (by rw [v1]; exact HZ.out); clear b1 r1 v1))
  all_goals
    clear p0 p1 p2 p3 p4 p5 q0 q1 q2 q3 q4 q5 E1
    obtain ⟨⟨p0, p1, p2, p3, p4, p5⟩, q0, q1, q2, q3, q4, q5⟩ := HS.out _ BW.out
    go_wp2_with fail
    have BX := (BW.out).drew
    clear BW
    have BW : Hid _ := BX
    clear BX
    have E4 := eq_no R4.out RF.out (by rw [V4.out]; exact HN.out)
    have L4 : Hid (val h4 6 < RI) := by show _ < _; rw [V4.out, HO.out]; exact modR_lt _
    refine wp_region_held_drew (S := (fun x => (x.cell? ⟨w.heap.size, 0, none⟩ = some (.int .u64 (f 0)) ∧ x.cell? ⟨w.heap.size, 1, none⟩ = some (.int .u64 (f 1)) ∧ x.cell? ⟨w.heap.size, 2, none⟩ = some (.int .u64 (f 2)) ∧ x.cell? ⟨w.heap.size, 3, none⟩ = some (.int .u64 (f 3)) ∧ x.cell? ⟨w.heap.size, 4, none⟩ = some (.int .u64 (f 4)) ∧ x.cell? ⟨w.heap.size, 5, none⟩ = some (.int .u64 (f 5))) ∧ (x.cell? ⟨w4.heap.size, 0, none⟩ = some (.int .u64 (h4 0)) ∧ x.cell? ⟨w4.heap.size, 1, none⟩ = some (.int .u64 (h4 1)) ∧ x.cell? ⟨w4.heap.size, 2, none⟩ = some (.int .u64 (h4 2)) ∧ x.cell? ⟨w4.heap.size, 3, none⟩ = some (.int .u64 (h4 3)) ∧ x.cell? ⟨w4.heap.size, 4, none⟩ = some (.int .u64 (h4 4)) ∧ x.cell? ⟨w4.heap.size, 5, none⟩ = some (.int .u64 (h4 5))))) (by kernel_rfl) (HS.out _ BW.out) (fun hHeld => ?_)
    refine takeW (i := 0) (v := .bool true) 36 rfl (by kernel_rfl) (by kernel_rfl) (by kernel_rfl) (fun _ _ _ h => h) (Or.inl ⟨by rfl, fun wS hSw => by dsimp only at hSw; go_simp⟩) hHeld rfl ?_
    try simp only [Act.put, List.setIfInBounds_toArray, List.set_cons_zero, List.set_cons_succ]
    refine takeW (i := 1) (v := .bool true) 37 rfl (by kernel_rfl) (by kernel_rfl) (by kernel_rfl) (fun _ _ _ h => h) (Or.inl ⟨by rfl, fun wS hSw => by dsimp only at hSw; go_simp⟩) hHeld rfl ?_
    try simp only [Act.put, List.setIfInBounds_toArray, List.set_cons_zero, List.set_cons_succ]
    refine takeW (i := 2) (v := .agg #[.int .u64 (h4 0), .int .u64 (h4 1), .int .u64 (h4 2), .int .u64 (h4 3), .int .u64 (h4 4), .int .u64 (h4 5)]) 38 rfl (by kernel_rfl) (by kernel_rfl) (by kernel_rfl) (fun _ _ _ h => h) (Or.inl ⟨by rfl, fun wS hSw => by dsimp only at hSw; go_simp⟩) hHeld rfl ?_
    try simp only [Act.put, List.setIfInBounds_toArray, List.set_cons_zero, List.set_cons_succ]
    refine takeW (i := 3) (v := .agg #[.int .u64 (f 0), .int .u64 (f 1), .int .u64 (f 2), .int .u64 (f 3), .int .u64 (f 4), .int .u64 (f 5)]) 39 rfl (by kernel_rfl) (by kernel_rfl) (by kernel_rfl) (fun _ _ _ h => h) (Or.inl ⟨by rfl, fun wS hSw => by dsimp only at hSw; go_simp⟩) hHeld rfl ?_
    try simp only [Act.put, List.setIfInBounds_toArray, List.set_cons_zero, List.set_cons_succ]
    refine takeW (i := 4) (v := .bool false) 40 rfl (by kernel_rfl) (by kernel_rfl) (by kernel_rfl) (fun _ _ _ h => h) (Or.inl ⟨by rfl, fun wS hSw => by dsimp only at hSw; go_simp⟩) hHeld rfl ?_
    try simp only [Act.put, List.setIfInBounds_toArray, List.set_cons_zero, List.set_cons_succ]
    refine takeW (i := 5) (v := .bool false) 41 rfl (by kernel_rfl) (by kernel_rfl) (by kernel_rfl) (fun _ _ _ h => h) (Or.inl ⟨by rfl, fun wS hSw => by dsimp only at hSw; go_simp⟩) hHeld rfl ?_
    try simp only [Act.put, List.setIfInBounds_toArray, List.set_cons_zero, List.set_cons_succ]
    refine takeW (i := 6) (v := .agg #[.int .u64 (h4 0), .int .u64 (h4 1), .int .u64 (h4 2), .int .u64 (h4 3), .int .u64 (h4 4), .int .u64 (h4 5)]) 42 rfl (by kernel_rfl) (by kernel_rfl) (by kernel_rfl) (fun _ _ _ h => h) (Or.inl ⟨by rfl, fun wS hSw => by dsimp only at hSw; go_simp⟩) hHeld rfl ?_
    try simp only [Act.put, List.setIfInBounds_toArray, List.set_cons_zero, List.set_cons_succ]
    refine takeW (i := 7) (v := .agg #[.int .u64 (f 0), .int .u64 (f 1), .int .u64 (f 2), .int .u64 (f 3), .int .u64 (f 4), .int .u64 (f 5)]) 43 rfl (by kernel_rfl) (by kernel_rfl) (by kernel_rfl) (fun _ _ _ h => h) (Or.inl ⟨by rfl, fun wS hSw => by dsimp only at hSw; go_simp⟩) hHeld rfl ?_
    try simp only [Act.put, List.setIfInBounds_toArray, List.set_cons_zero, List.set_cons_succ]
    refine wpAnyH_ready (rs := [8]) (by kernel_rfl) (by simp) ?_
    refine AllReadyH.cons rfl (fun K hK => ?_) AllReadyH.nil
    go_simp
    go_at_call 16; refine Calls.mono (FpOk.neg HK.out f _ (HK.out.stay GW.out BW.out) RF.out LF.out) ?_; rintro e z8 ⟨s8, rfl, r8, v8, b8⟩; have BX := Below.up BW.out (Nat.le_refl _) b8; clear BW; have BW : Hid _ := BX; clear BX b8; have E8 := eq_yes R4.out r8 (by rw [V4.out, HO.out, v8]); clear r8 v8
    refine hK.out _ _ (HS.out _ BW.out) (fun hHeld2 => ?_)
    clear hK K hHeld
    have hHeld := hHeld2
    clear hHeld2
    try simp only [Act.put, List.setIfInBounds_toArray, List.set_cons_zero, List.set_cons_succ]
    refine takeW (i := 9) (v := .bool true) 45 rfl (by kernel_rfl) (by kernel_rfl) (by kernel_rfl) (fun _ _ _ h => h) (Or.inl ⟨by rfl, fun wS hSw => by dsimp only at hSw; go_simp⟩) hHeld rfl ?_
    try simp only [Act.put, List.setIfInBounds_toArray, List.set_cons_zero, List.set_cons_succ]
    refine takeW (i := 10) (v := .bool true) 46 rfl (by kernel_rfl) (by kernel_rfl) (by kernel_rfl) (fun _ _ _ h => h) (Or.inl ⟨by rfl, fun wS hSw => by dsimp only at hSw; go_simp⟩) hHeld rfl ?_
    try simp only [Act.put, List.setIfInBounds_toArray, List.set_cons_zero, List.set_cons_succ]
    refine takeW (i := 11) (v := .bool true) 47 rfl (by kernel_rfl) (by kernel_rfl) (by kernel_rfl) (fun _ _ _ h => h) (Or.inl ⟨by rfl, fun wS hSw => by dsimp only at hSw; go_simp⟩) hHeld rfl ?_
    try simp only [Act.put, List.setIfInBounds_toArray, List.set_cons_zero, List.set_cons_succ]
    refine takeW (i := 12) (v := .bool true) 48 rfl (by kernel_rfl) (by kernel_rfl) (by kernel_rfl) (fun _ _ _ h => h) (Or.inl ⟨by rfl, fun wS hSw => by dsimp only at hSw; go_simp⟩) hHeld rfl ?_
    try simp only [Act.put, List.setIfInBounds_toArray, List.set_cons_zero, List.set_cons_succ]
    refine takeW (i := 13) (v := .agg #[.int .u64 (h4 0), .int .u64 (h4 1), .int .u64 (h4 2), .int .u64 (h4 3), .int .u64 (h4 4), .int .u64 (h4 5)]) 49 rfl (by kernel_rfl) (by kernel_rfl) (by kernel_rfl) (fun _ _ _ h => h) (Or.inl ⟨by rfl, fun wS hSw => by dsimp only at hSw; go_simp⟩) hHeld rfl ?_
    try simp only [Act.put, List.setIfInBounds_toArray, List.set_cons_zero, List.set_cons_succ]
    refine wpAnyH_ready (rs := [14]) (by kernel_rfl) (by simp) ?_
    refine AllReadyH.cons rfl (fun K hK => ?_) AllReadyH.nil
    go_simp
    go_at_call 22; have KG := FpOk.great HK.out h4 _ (HK.out.stay GW.out BW.out) R4.out L4.out; rw [V4.out, decide_eq_false (root_small _)] at KG; refine Calls.mono KG ?_; clear KG; rintro e z14 ⟨rfl, b14⟩; have BX := Below.up BW.out (Nat.le_refl _) b14; clear BW; have BW : Hid _ := BX; clear BX b14
    refine hK.out _ _ (HS.out _ BW.out) (fun hHeld2 => ?_)
    clear hK K hHeld
    have hHeld := hHeld2
    clear hHeld2
    try simp only [Act.put, List.setIfInBounds_toArray, List.set_cons_zero, List.set_cons_succ]
    refine takeW (i := 15) (v := .bool true) 51 rfl (by kernel_rfl) (by kernel_rfl) (by kernel_rfl) (fun _ _ _ h => h) (Or.inl ⟨by rfl, fun wS hSw => by dsimp only at hSw; go_simp⟩) hHeld rfl ?_
    try simp only [Act.put, List.setIfInBounds_toArray, List.set_cons_zero, List.set_cons_succ]
    refine takeW (i := 16) (v := .bool true) 52 rfl (by kernel_rfl) (by kernel_rfl) (by kernel_rfl) (fun _ _ _ h => h) (Or.inl ⟨by rfl, fun wS hSw => by dsimp only at hSw; go_simp⟩) hHeld rfl ?_
    try simp only [Act.put, List.setIfInBounds_toArray, List.set_cons_zero, List.set_cons_succ]
    refine takeW (i := 17) (v := .bool true) 53 rfl (by kernel_rfl) (by kernel_rfl) (by kernel_rfl) (fun _ _ _ h => h) (Or.inl ⟨by rfl, fun wS hSw => by dsimp only at hSw; go_simp⟩) hHeld rfl ?_
    try simp only [Act.put, List.setIfInBounds_toArray, List.set_cons_zero, List.set_cons_succ]
    refine takeW (i := 18) (v := .bool false) 54 rfl (by kernel_rfl) (by kernel_rfl) (by kernel_rfl) (fun _ _ _ h => h) (Or.inl ⟨by rfl, fun wS hSw => by dsimp only at hSw; go_simp⟩) hHeld rfl ?_
    try simp only [Act.put, List.setIfInBounds_toArray, List.set_cons_zero, List.set_cons_succ]
    refine takeW (i := 19) (v := .bool false) 55 rfl (by kernel_rfl) (by kernel_rfl) (by kernel_rfl) (fun _ _ _ h => h) (Or.inl ⟨by rfl, fun wS hSw => by dsimp only at hSw; go_simp⟩) hHeld rfl ?_
    try simp only [Act.put, List.setIfInBounds_toArray, List.set_cons_zero, List.set_cons_succ]
    refine takeW (i := 20) (v := undef) 56 rfl (by kernel_rfl) (by kernel_rfl) (by kernel_rfl) (fun _ _ _ h => h) (Or.inr ⟨by rfl, rfl⟩) hHeld rfl ?_
    try simp only [Act.put, List.setIfInBounds_toArray, List.set_cons_zero, List.set_cons_succ]
    refine takeW (i := 21) (v := .bool false) 57 rfl (by kernel_rfl) (by kernel_rfl) (by kernel_rfl) (fun _ _ _ h => h) (Or.inl ⟨by rfl, fun wS hSw => by dsimp only at hSw; go_simp⟩) hHeld rfl ?_
    try simp only [Act.put, List.setIfInBounds_toArray, List.set_cons_zero, List.set_cons_succ]
    refine takeW (i := 22) (v := .bool false) 58 rfl (by kernel_rfl) (by kernel_rfl) (by kernel_rfl) (fun _ _ _ h => h) (Or.inl ⟨by rfl, fun wS hSw => by dsimp only at hSw; go_simp⟩) hHeld rfl ?_
    try simp only [Act.put, List.setIfInBounds_toArray, List.set_cons_zero, List.set_cons_succ]
    refine takeW (i := 23) (v := undef) 59 rfl (by kernel_rfl) (by kernel_rfl) (by kernel_rfl) (fun _ _ _ h => h) (Or.inr ⟨by rfl, rfl⟩) hHeld rfl ?_
    try simp only [Act.put, List.setIfInBounds_toArray, List.set_cons_zero, List.set_cons_succ]
    refine takeW (i := 24) (v := .bool false) 60 rfl (by kernel_rfl) (by kernel_rfl) (by kernel_rfl) (fun _ _ _ h => h) (Or.inl ⟨by rfl, fun wS hSw => by dsimp only at hSw; go_simp⟩) hHeld rfl ?_
    try simp only [Act.put, List.setIfInBounds_toArray, List.set_cons_zero, List.set_cons_succ]
    refine takeW (i := 25) (v := .bool false) 61 rfl (by kernel_rfl) (by kernel_rfl) (by kernel_rfl) (fun _ _ _ h => h) (Or.inl ⟨by rfl, fun wS hSw => by dsimp only at hSw; go_simp⟩) hHeld rfl ?_
    try simp only [Act.put, List.setIfInBounds_toArray, List.set_cons_zero, List.set_cons_succ]
    refine takeW (i := 26) (v := .bool false) 62 rfl (by kernel_rfl) (by kernel_rfl) (by kernel_rfl) (fun _ _ _ h => h) (Or.inl ⟨by rfl, fun wS hSw => by dsimp only at hSw; go_simp⟩) hHeld rfl ?_
    try simp only [Act.put, List.setIfInBounds_toArray, List.set_cons_zero, List.set_cons_succ]
    refine takeW (i := 27) (v := .bool true) 63 rfl (by kernel_rfl) (by kernel_rfl) (by kernel_rfl) (fun _ _ _ h => h) (Or.inl ⟨by rfl, fun wS hSw => by dsimp only at hSw; go_simp⟩) hHeld rfl ?_
    try simp only [Act.put, List.setIfInBounds_toArray, List.set_cons_zero, List.set_cons_succ]
    refine takeW (i := 28) (v := .bool true) 64 rfl (by kernel_rfl) (by kernel_rfl) (by kernel_rfl) (fun _ _ _ h => h) (Or.inl ⟨by rfl, fun wS hSw => by dsimp only at hSw; go_simp⟩) hHeld rfl ?_
    try simp only [Act.put, List.setIfInBounds_toArray, List.set_cons_zero, List.set_cons_succ]
    refine takeW (i := 29) (v := .bool false) 65 rfl (by kernel_rfl) (by kernel_rfl) (by kernel_rfl) (fun _ _ _ h => h) (Or.inl ⟨by rfl, fun wS hSw => by dsimp only at hSw; go_simp⟩) hHeld rfl ?_
    try simp only [Act.put, List.setIfInBounds_toArray, List.set_cons_zero, List.set_cons_succ]
    refine takeW (i := 30) (v := .bool true) 66 rfl (by kernel_rfl) (by kernel_rfl) (by kernel_rfl) (fun _ _ _ h => h) (Or.inl ⟨by rfl, fun wS hSw => by dsimp only at hSw; go_simp⟩) hHeld rfl ?_
    try simp only [Act.put, List.setIfInBounds_toArray, List.set_cons_zero, List.set_cons_succ]
    refine takeW (i := 31) (v := .bool true) 67 rfl (by kernel_rfl) (by kernel_rfl) (by kernel_rfl) (fun _ _ _ h => h) (Or.inl ⟨by rfl, fun wS hSw => by dsimp only at hSw; go_simp⟩) hHeld rfl ?_
    try simp only [Act.put, List.setIfInBounds_toArray, List.set_cons_zero, List.set_cons_succ]
    refine takeW (i := 32) (v := .bool true) 68 rfl (by kernel_rfl) (by kernel_rfl) (by kernel_rfl) (fun _ _ _ h => h) (Or.inl ⟨by rfl, fun wS hSw => by dsimp only at hSw; go_simp⟩) hHeld rfl ?_
    try simp only [Act.put, List.setIfInBounds_toArray, List.set_cons_zero, List.set_cons_succ]
    refine takeW (i := 33) (v := .bool true) 69 rfl (by kernel_rfl) (by kernel_rfl) (by kernel_rfl) (fun _ _ _ h => h) (Or.inl ⟨by rfl, fun wS hSw => by dsimp only at hSw; go_simp⟩) hHeld rfl ?_
    try simp only [Act.put, List.setIfInBounds_toArray, List.set_cons_zero, List.set_cons_succ]
    refine takeW (i := 34) (v := .bool true) 70 rfl (by kernel_rfl) (by kernel_rfl) (by kernel_rfl) (fun _ _ _ h => h) (Or.inl ⟨by rfl, fun wS hSw => by dsimp only at hSw; go_simp⟩) hHeld rfl ?_
    try simp only [Act.put, List.setIfInBounds_toArray, List.set_cons_zero, List.set_cons_succ]
    refine takeW (i := 35) (v := .bool true) 71 rfl (by kernel_rfl) (by kernel_rfl) (by kernel_rfl) (fun _ _ _ h => h) (Or.inl ⟨by rfl, fun wS hSw => by dsimp only at hSw; go_simp⟩) hHeld rfl ?_
    try simp only [Act.put, List.setIfInBounds_toArray, List.set_cons_zero, List.set_cons_succ]
    refine takeW (i := 36) (v := .bool false) 72 rfl (by kernel_rfl) (by kernel_rfl) (by kernel_rfl) (fun _ _ _ h => h) (Or.inl ⟨by rfl, fun wS hSw => by dsimp only at hSw; go_simp⟩) hHeld rfl ?_
    try simp only [Act.put, List.setIfInBounds_toArray, List.set_cons_zero, List.set_cons_succ]
    refine takeW (i := 37) (v := .bool false) 73 rfl (by kernel_rfl) (by kernel_rfl) (by kernel_rfl) (fun _ _ _ h => h) (Or.inl ⟨by rfl, fun wS hSw => by dsimp only at hSw; go_simp⟩) hHeld rfl ?_
    try simp only [Act.put, List.setIfInBounds_toArray, List.set_cons_zero, List.set_cons_succ]
    refine takeW (i := 38) (v := .agg #[.int .u64 (f 0), .int .u64 (f 1), .int .u64 (f 2), .int .u64 (f 3), .int .u64 (f 4), .int .u64 (f 5)]) 74 rfl (by kernel_rfl) (by kernel_rfl) (by kernel_rfl) (fun _ _ _ h => h) (Or.inl ⟨by rfl, fun wS hSw => by dsimp only at hSw; go_simp⟩) hHeld rfl ?_
    try simp only [Act.put, List.setIfInBounds_toArray, List.set_cons_zero, List.set_cons_succ]
    refine takeW (i := 40) (v := .agg #[.int .u64 (f 0), .int .u64 (f 1), .int .u64 (f 2), .int .u64 (f 3), .int .u64 (f 4), .int .u64 (f 5)]) 76 rfl (by kernel_rfl) (by kernel_rfl) (by kernel_rfl) (fun _ _ _ h => h) (Or.inl ⟨by rfl, fun wS hSw => by dsimp only at hSw; go_simp⟩) hHeld rfl ?_
    try simp only [Act.put, List.setIfInBounds_toArray, List.set_cons_zero, List.set_cons_succ]
    refine wpAnyH_ready (rs := [39]) (by kernel_rfl) (by simp) ?_
    refine AllReadyH.cons rfl (fun K hK => ?_) AllReadyH.nil
    go_simp
    go_at_call 22; have KG := FpOk.great HK.out f _ (HK.out.stay GW.out BW.out) RF.out LF.out; rw [decide_eq_false (show ¬ RI / 2 < val f 6 by first | exact HGA.out | exact Int.not_lt.2 HGA.out)] at KG; refine Calls.mono KG ?_; clear KG; rintro e z39 ⟨rfl, b39⟩; have BX := Below.up BW.out (Nat.le_refl _) b39; clear BW; have BW : Hid _ := BX; clear BX b39
    refine hK.out _ _ (HS.out _ BW.out) (fun hHeld2 => ?_)
    clear hK K hHeld
    have hHeld := hHeld2
    clear hHeld2
    try simp only [Act.put, List.setIfInBounds_toArray, List.set_cons_zero, List.set_cons_succ]
    refine wpAnyH_ready (rs := [41]) (by kernel_rfl) (by simp) ?_
    refine AllReadyH.cons rfl (fun K hK => ?_) AllReadyH.nil
    go_simp
    go_at_call 16; refine Calls.mono (FpOk.neg HK.out f _ (HK.out.stay GW.out BW.out) RF.out LF.out) ?_; rintro e z41 ⟨s41, rfl, r41, v41, b41⟩; have BX := Below.up BW.out (Nat.le_refl _) b41; clear BW; have BW : Hid _ := BX; clear BX b41; have R41 : Hid _ := r41; have V41 : Hid _ := v41; clear r41 v41
    refine hK.out _ _ (HS.out _ BW.out) (fun hHeld2 => ?_)
    clear hK K hHeld
    have hHeld := hHeld2
    clear hHeld2
    try simp only [Act.put, List.setIfInBounds_toArray, List.set_cons_zero, List.set_cons_succ]
    refine wpAnyH_ready (rs := [42]) (by kernel_rfl) (by simp) ?_
    refine AllReadyH.cons rfl (fun K hK => ?_) AllReadyH.nil
    go_simp
    go_at_call 22; have KG := FpOk.great HK.out s41 _ (HK.out.stay GW.out BW.out) R41.out (by rw [V41.out]; exact modR_lt _); rw [V41.out, decide_eq_true HGB.out] at KG; refine Calls.mono KG ?_; clear KG; rintro e z42 ⟨rfl, b42⟩; have BX := Below.up BW.out (Nat.le_refl _) b42; clear BW; have BW : Hid _ := BX; clear BX b42
    refine hK.out _ _ (HS.out _ BW.out) (fun hHeld2 => ?_)
    clear hK K hHeld
    have hHeld := hHeld2
    clear hHeld2
    try simp only [Act.put, List.setIfInBounds_toArray, List.set_cons_zero, List.set_cons_succ]
    refine takeW (i := 43) (v := .bool true) 79 rfl (by kernel_rfl) (by kernel_rfl) (by kernel_rfl) (fun _ _ _ h => h) (Or.inl ⟨by rfl, fun wS hSw => by dsimp only at hSw; go_simp⟩) hHeld rfl ?_
    try simp only [Act.put, List.setIfInBounds_toArray, List.set_cons_zero, List.set_cons_succ]
    refine takeW (i := 44) (v := .bool true) 80 rfl (by kernel_rfl) (by kernel_rfl) (by kernel_rfl) (fun _ _ _ h => h) (Or.inl ⟨by rfl, fun wS hSw => by dsimp only at hSw; go_simp⟩) hHeld rfl ?_
    try simp only [Act.put, List.setIfInBounds_toArray, List.set_cons_zero, List.set_cons_succ]
    refine takeW (i := 45) (v := .bool true) 81 rfl (by kernel_rfl) (by kernel_rfl) (by kernel_rfl) (fun _ _ _ h => h) (Or.inl ⟨by rfl, fun wS hSw => by dsimp only at hSw; go_simp⟩) hHeld rfl ?_
    try simp only [Act.put, List.setIfInBounds_toArray, List.set_cons_zero, List.set_cons_succ]
    refine wpAnyH_ready (rs := [46]) (by kernel_rfl) (by simp) ?_
    refine AllReadyH.cons rfl (fun K hK => ?_) AllReadyH.nil
    go_simp
    refine hK.out _ _ (HS.out _ BW.out) (fun hHeld2 => ?_)
    clear hK K hHeld
    have hHeld := hHeld2
    clear hHeld2
    try simp only [Act.put, List.setIfInBounds_toArray, List.set_cons_zero, List.set_cons_succ]
    refine wpAnyH_done (by kernel_rfl) ?_ _
    go_wp2
    go_ret
    exact ⟨rfl, Below.up C7.out (Nat.le_refl _) BW.out⟩

theorem fpSquares_walk {G : World → Prop} (K : FpOk G) (f : Nat → Int) (w : World) (hg : G w) (rf : Rg f 6) : Calls Tryd.prog 7 #[frv f] w fun e w' => e = .returned (.bool true) ∧ Below w.heap.size w w' := by
  by_cases lf : val f 6 < RI
  · have f0 := (val_bd rf).1
    by_cases hz : val f 6 = 0
    · exact fpSquares_zeroSG K f w hg rf lf hz (by rcases root_is f0 lf with e | e; exact e; rw [e, hz]; decide)
    · have fp : 0 < val f 6 := by omega
      have hgr := great_one fp lf
      by_cases hn : lesser (sq (val f 6 * val f 6 % RI)) = val f 6
      · by_cases hga : RI / 2 < val f 6
        · have hgb : ¬ RI / 2 < (0 - val f 6) % RI := fun h => hgr (by rw [decide_eq_true hga, decide_eq_true h])
          rcases just_one fp lf with ⟨hx, hy⟩ | ⟨hx, hy⟩
          · exact fpSquares_plusSG K f w hg rf lf hz hx hy hn hga hgb
          · exact fpSquares_minusSG K f w hg rf lf hz hx hy hn hga hgb
        · have hgb : RI / 2 < (0 - val f 6) % RI := Classical.byContradiction fun h => hgr (by rw [decide_eq_false hga, decide_eq_false h])
          rcases just_one fp lf with ⟨hx, hy⟩ | ⟨hx, hy⟩
          · exact fpSquares_plusSL K f w hg rf lf hz hx hy hn hga hgb
          · exact fpSquares_minusSL K f w hg rf lf hz hx hy hn hga hgb
      · have ho := (root_is f0 lf).resolve_left hn
        by_cases hga : RI / 2 < val f 6
        · have hgb : ¬ RI / 2 < (0 - val f 6) % RI := fun h => hgr (by rw [decide_eq_true hga, decide_eq_true h])
          rcases just_one fp lf with ⟨hx, hy⟩ | ⟨hx, hy⟩
          · exact fpSquares_plusOG K f w hg rf lf hz hx hy hn ho hga hgb
          · exact fpSquares_minusOG K f w hg rf lf hz hx hy hn ho hga hgb
        · have hgb : RI / 2 < (0 - val f 6) % RI := Classical.byContradiction fun h => hgr (by rw [decide_eq_false hga, decide_eq_false h])
          rcases just_one fp lf with ⟨hx, hy⟩ | ⟨hx, hy⟩
          · exact fpSquares_plusOL K f w hg rf lf hz hx hy hn ho hga hgb
          · exact fpSquares_minusOL K f w hg rf lf hz hx hy hn ho hga hgb
  · exact fpSquares_not K f w hg rf (by omega)
end Go.Proofs.YtgdmjngajjoliaaDoor.fpn
