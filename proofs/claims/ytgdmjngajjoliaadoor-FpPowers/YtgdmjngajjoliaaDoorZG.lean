/- Sqrt. -/
import Derived.Test.YtgdmjngajjoliaaDoorZD
import Derived.Test.YtgdmjngajjoliaaDoorZV
namespace Go.Proofs.YtgdmjngajjoliaaDoor.fpn
open Go.RowKit
attribute [local go_sem ↓] Go.wp_at_zero Go.wp_at_succ
set_option linter.unusedVariables false

/-- The limbs of (P + 1) / 4. -/
def qL : Nat → Int
  | 0 => 17185665809301629611
  | 1 => 552535377879302143
  | 2 => 15693976698673184137
  | 3 => 15644892545385841839
  | 4 => 10576397981472451381
  | 5 => 468449654411884966
  | _ => 0
theorem qL_rg : Rg qL 6 := fun i hi => by
  rcases (show i = 0 ∨ i = 1 ∨ i = 2 ∨ i = 3 ∨ i = 4 ∨ i = 5 by omega) with rfl | rfl | rfl | rfl | rfl | rfl <;> rw [B64_eq] <;> decide
theorem qL_val : val qL 6 = (SE : Int) := by decide +kernel

set_option maxHeartbeats 4000000 in
theorem frSqrt_no (f : Nat → Int) (w : World) (hg : Gl w) (rf : Rg f 6) (lf : val f 6 < RI) (hn : sq (val f 6) * sq (val f 6) % RI ≠ val f 6) : Calls Tryd.prog 29 #[.agg #[.int .u64 (f 0), .int .u64 (f 1), .int .u64 (f 2), .int .u64 (f 3), .int .u64 (f 4), .int .u64 (f 5)]] w fun e w' => ∃ h : Nat → Int, e = .returned (.tuple #[.agg #[.int .u64 (h 0), .int .u64 (h 1), .int .u64 (h 2), .int .u64 (h 3), .int .u64 (h 4), .int .u64 (h 5)], .bool false]) ∧ Rg h 6 ∧ val h 6 = 0 ∧ Below w.heap.size w w' := by
  obtain ⟨B1, z1, hF, hR⟩ := pair_all w f 24
  unfold pair at B1 z1 hF hR
  have hgl := hg.stay B1
  have K : Hid _ := fun (W : World) (hW : Gl W) (b : Nat) (ha : At W (some ⟨b, 0, none⟩) 6 qL) => frPow_any f (some ⟨b, 0, none⟩) 6 6 qL SE W hW rf (by omega) ha qL_rg qL_val
  have RF : Hid _ := rf
  have HN : Hid _ := hn
  clear rf hn hg
  go_enter Tryd.func29, Tryd.ntmps29
  go_wp2_with fail
  generalize (w.alloc (.cells #[.int .u64 (f 0), .int .u64 (f 1), .int .u64 (f 2), .int .u64 (f 3), .int .u64 (f 4), .int .u64 (f 5)] 24)).alloc (.cells #[.int .u64 0, .int .u64 0, .int .u64 0, .int .u64 0, .int .u64 0, .int .u64 0] 24) = W at *
  have a1 := below_one W (.cells #[.int .u64 (qL 0), .int .u64 (qL 1), .int .u64 (qL 2), .int .u64 (qL 3), .int .u64 (qL 4), .int .u64 (qL 5)] 22)
  have m1 := (mut_four W qL 22).at
  rw [z1] at m1
  refine Calls.mono (K.out _ (hgl.stay a1) _ m1) ?_
  rintro e w2 ⟨h2, rfl, r2, v2, b2⟩
  have b3 := Below.up (Below.up a1 (Nat.le_refl _) b2) (Nat.le_refl _) (below_one w2 (.cells #[.int .u64 (h2 0), .int .u64 (h2 1), .int .u64 (h2 2), .int .u64 (h2 3), .int .u64 (h2 4), .int .u64 (h2 5)] 24))
  have mv := mut_four w2 h2 24
  have V2 : Hid (val h2 6 = sq (val f 6)) := v2
  have l2 : Hid (val h2 6 < RI) := by show _ < _; rw [v2]; exact modR_lt _
  have HM : Hid _ := fun (W : World) (hW : Gl W) => frMul_any h2 h2 W hW r2 r2
  have R2 : Hid _ := r2
  have hF2 := MutK.below hF b3 (by rw [z1]; omega)
  have hR2 := MutK.below hR b3 (by rw [z1]; omega)
  have hg2 := hgl.stay b3
  have B2 := Below.up B1 (Nat.le_refl _) b3
  clear hF hR hgl b3 b2 a1 m1 K r2 v2 B1 z1
  go_wp2_with fail
  generalize w2.alloc (.cells #[.int .u64 (h2 0), .int .u64 (h2 1), .int .u64 (h2 2), .int .u64 (h2 3), .int .u64 (h2 4), .int .u64 (h2 5)] 24) = V at *
  have HS : Hid (∀ x, Below V.heap.size V x → (x.cell? ⟨w2.heap.size, 0, none⟩ = some (.int .u64 (h2 0)) ∧ x.cell? ⟨w2.heap.size, 1, none⟩ = some (.int .u64 (h2 1)) ∧ x.cell? ⟨w2.heap.size, 2, none⟩ = some (.int .u64 (h2 2)) ∧ x.cell? ⟨w2.heap.size, 3, none⟩ = some (.int .u64 (h2 3)) ∧ x.cell? ⟨w2.heap.size, 4, none⟩ = some (.int .u64 (h2 4)) ∧ x.cell? ⟨w2.heap.size, 5, none⟩ = some (.int .u64 (h2 5))) ∧ (x.cell? ⟨w.heap.size, 0, none⟩ = some (.int .u64 (f 0)) ∧ x.cell? ⟨w.heap.size, 1, none⟩ = some (.int .u64 (f 1)) ∧ x.cell? ⟨w.heap.size, 2, none⟩ = some (.int .u64 (f 2)) ∧ x.cell? ⟨w.heap.size, 3, none⟩ = some (.int .u64 (f 3)) ∧ x.cell? ⟨w.heap.size, 4, none⟩ = some (.int .u64 (f 4)) ∧ x.cell? ⟨w.heap.size, 5, none⟩ = some (.int .u64 (f 5)))) := fun x hx => ⟨at6 (mv.at.below hx), at6 (hF2.at.below hx)⟩
  have HGL : Hid _ := hg2
  have HR : Hid _ := hR2
  have BV : Hid (Below V.heap.size V V.drew) := (Below.refl _ _).drew
  have B2' : Hid _ := B2
  have MV : Hid _ := mv
  have HF : Hid _ := hF2
  clear hF2 hR2 hg2 B2 mv
  obtain ⟨⟨a0, a1, a2, a3, a4, a5⟩, c0, c1, c2, c3, c4, c5⟩ := HS.out _ (Below.refl _ _)
  go_region_with (go_at_call 18; refine Calls.mono (HM.out _ (Gl.stay HGL.out BV.out)) ?_; rintro e x3 ⟨h3, rfl, r3, v3, b3⟩; have BX := Below.up BV.out (Nat.le_refl _) b3; have E3 : ∀ w, (Op.equalIn 10000 24 (.agg #[.int .u64 (h3 0), .int .u64 (h3 1), .int .u64 (h3 2), .int .u64 (h3 3), .int .u64 (h3 4), .int .u64 (h3 5)]) (.agg #[.int .u64 (f 0), .int .u64 (f 1), .int .u64 (f 2), .int .u64 (f 3), .int .u64 (f 4), .int .u64 (f 5)])).run Tryd.prog w = .ok false w := (fun w => by have e := eqFr_run h3 f r3 RF.out w; rw [v3, V2.out, decide_eq_false HN.out] at e; exact e); have E4 : ∀ w, (Op.equalIn 10000 24 (.agg #[.int .u64 (f 0), .int .u64 (f 1), .int .u64 (f 2), .int .u64 (f 3), .int .u64 (f 4), .int .u64 (f 5)]) (.agg #[.int .u64 (h3 0), .int .u64 (h3 1), .int .u64 (h3 2), .int .u64 (h3 3), .int .u64 (h3 4), .int .u64 (h3 5)])).run Tryd.prog w = .ok false w := (fun w => by have e := eqFr_run f h3 RF.out r3 w; rw [v3, V2.out, decide_eq_false (Ne.symm HN.out)] at e; exact e); obtain ⟨⟨d0, d1, d2, d3, d4, d5⟩, p0, p1, p2, p3, p4, p5⟩ := HS.out _ BX; obtain ⟨y0, y1, y2, y3, y4, y5⟩ := MutK.cells6 (MutK.below HR.out BX (cell_lt (MutK.cells6 HR.out).1)); obtain ⟨q0, q1, q2, q3, q4, q5⟩ := MutK.free6 (MutK.below HR.out BX (cell_lt (MutK.cells6 HR.out).1)); have BX3 : Hid _ := BX; clear b3 BX r3 v3 BV)
  all_goals
    clear a0 a1 a2 a3 a4 a5 c0 c1 c2 c3 c4 c5
    go_wp2
    refine bodyPost_ret (v := .tuple #[.agg #[.int .u64 0, .int .u64 0, .int .u64 0, .int .u64 0, .int .u64 0, .int .u64 0], .bool false]) (by simp [results, Tryd.results29, go_sem, y0, y1, y2, y3, y4, y5]) rfl ⟨Z, rfl, Z_rg 6, val_Z 6, ?_⟩
    exact below_set6 (Below.up B2'.out (Nat.le_refl _) BX3.out) (by omega) _ _ _ _ _ _

set_option maxHeartbeats 4000000 in
theorem frSqrt_great (f : Nat → Int) (w : World) (hg : Gl w) (rf : Rg f 6) (lf : val f 6 < RI) (hn : sq (val f 6) * sq (val f 6) % RI = val f 6) (hq : RI / 2 < sq (val f 6)) : Calls Tryd.prog 29 #[.agg #[.int .u64 (f 0), .int .u64 (f 1), .int .u64 (f 2), .int .u64 (f 3), .int .u64 (f 4), .int .u64 (f 5)]] w fun e w' => ∃ h : Nat → Int, e = .returned (.tuple #[.agg #[.int .u64 (h 0), .int .u64 (h 1), .int .u64 (h 2), .int .u64 (h 3), .int .u64 (h 4), .int .u64 (h 5)], .bool true]) ∧ Rg h 6 ∧ val h 6 = (0 - sq (val f 6)) % RI ∧ Below w.heap.size w w' := by
  obtain ⟨B1, z1, hF, hR⟩ := pair_all w f 24
  unfold pair at B1 z1 hF hR
  have hgl := hg.stay B1
  have K : Hid _ := fun (W : World) (hW : Gl W) (b : Nat) (ha : At W (some ⟨b, 0, none⟩) 6 qL) => frPow_any f (some ⟨b, 0, none⟩) 6 6 qL SE W hW rf (by omega) ha qL_rg qL_val
  have RF : Hid _ := rf
  have HN : Hid _ := hn
  have HQ : Hid _ := hq
  clear hq
  clear rf hn hg
  go_enter Tryd.func29, Tryd.ntmps29
  go_wp2_with fail
  generalize (w.alloc (.cells #[.int .u64 (f 0), .int .u64 (f 1), .int .u64 (f 2), .int .u64 (f 3), .int .u64 (f 4), .int .u64 (f 5)] 24)).alloc (.cells #[.int .u64 0, .int .u64 0, .int .u64 0, .int .u64 0, .int .u64 0, .int .u64 0] 24) = W at *
  have a1 := below_one W (.cells #[.int .u64 (qL 0), .int .u64 (qL 1), .int .u64 (qL 2), .int .u64 (qL 3), .int .u64 (qL 4), .int .u64 (qL 5)] 22)
  have m1 := (mut_four W qL 22).at
  rw [z1] at m1
  refine Calls.mono (K.out _ (hgl.stay a1) _ m1) ?_
  rintro e w2 ⟨h2, rfl, r2, v2, b2⟩
  have b3 := Below.up (Below.up a1 (Nat.le_refl _) b2) (Nat.le_refl _) (below_one w2 (.cells #[.int .u64 (h2 0), .int .u64 (h2 1), .int .u64 (h2 2), .int .u64 (h2 3), .int .u64 (h2 4), .int .u64 (h2 5)] 24))
  have mv := mut_four w2 h2 24
  have V2 : Hid (val h2 6 = sq (val f 6)) := v2
  have l2 : Hid (val h2 6 < RI) := by show _ < _; rw [v2]; exact modR_lt _
  have HM : Hid _ := fun (W : World) (hW : Gl W) => frMul_any h2 h2 W hW r2 r2
  have R2 : Hid _ := r2
  have hF2 := MutK.below hF b3 (by rw [z1]; omega)
  have hR2 := MutK.below hR b3 (by rw [z1]; omega)
  have hg2 := hgl.stay b3
  have B2 := Below.up B1 (Nat.le_refl _) b3
  clear hF hR hgl b3 b2 a1 m1 K r2 v2 B1 z1
  go_wp2_with fail
  generalize w2.alloc (.cells #[.int .u64 (h2 0), .int .u64 (h2 1), .int .u64 (h2 2), .int .u64 (h2 3), .int .u64 (h2 4), .int .u64 (h2 5)] 24) = V at *
  have HS : Hid (∀ x, Below V.heap.size V x → (x.cell? ⟨w2.heap.size, 0, none⟩ = some (.int .u64 (h2 0)) ∧ x.cell? ⟨w2.heap.size, 1, none⟩ = some (.int .u64 (h2 1)) ∧ x.cell? ⟨w2.heap.size, 2, none⟩ = some (.int .u64 (h2 2)) ∧ x.cell? ⟨w2.heap.size, 3, none⟩ = some (.int .u64 (h2 3)) ∧ x.cell? ⟨w2.heap.size, 4, none⟩ = some (.int .u64 (h2 4)) ∧ x.cell? ⟨w2.heap.size, 5, none⟩ = some (.int .u64 (h2 5))) ∧ (x.cell? ⟨w.heap.size, 0, none⟩ = some (.int .u64 (f 0)) ∧ x.cell? ⟨w.heap.size, 1, none⟩ = some (.int .u64 (f 1)) ∧ x.cell? ⟨w.heap.size, 2, none⟩ = some (.int .u64 (f 2)) ∧ x.cell? ⟨w.heap.size, 3, none⟩ = some (.int .u64 (f 3)) ∧ x.cell? ⟨w.heap.size, 4, none⟩ = some (.int .u64 (f 4)) ∧ x.cell? ⟨w.heap.size, 5, none⟩ = some (.int .u64 (f 5)))) := fun x hx => ⟨at6 (mv.at.below hx), at6 (hF2.at.below hx)⟩
  have HGL : Hid _ := hg2
  have HR : Hid _ := hR2
  have BV : Hid (Below V.heap.size V V.drew) := (Below.refl _ _).drew
  have B2' : Hid _ := B2
  have MV : Hid _ := mv
  have HF : Hid _ := hF2
  clear hF2 hR2 hg2 B2 mv
  obtain ⟨⟨a0, a1, a2, a3, a4, a5⟩, c0, c1, c2, c3, c4, c5⟩ := HS.out _ (Below.refl _ _)
  go_region_with (go_at_call 18; refine Calls.mono (HM.out _ (Gl.stay HGL.out BV.out)) ?_; rintro e x3 ⟨h3, rfl, r3, v3, b3⟩; have BX := Below.up BV.out (Nat.le_refl _) b3; have E3 : ∀ w, (Op.equalIn 10000 24 (.agg #[.int .u64 (h3 0), .int .u64 (h3 1), .int .u64 (h3 2), .int .u64 (h3 3), .int .u64 (h3 4), .int .u64 (h3 5)]) (.agg #[.int .u64 (f 0), .int .u64 (f 1), .int .u64 (f 2), .int .u64 (f 3), .int .u64 (f 4), .int .u64 (f 5)])).run Tryd.prog w = .ok true w := (fun w => by have e := eqFr_run h3 f r3 RF.out w; rw [v3, V2.out, decide_eq_true HN.out] at e; exact e); have E4 : ∀ w, (Op.equalIn 10000 24 (.agg #[.int .u64 (f 0), .int .u64 (f 1), .int .u64 (f 2), .int .u64 (f 3), .int .u64 (f 4), .int .u64 (f 5)]) (.agg #[.int .u64 (h3 0), .int .u64 (h3 1), .int .u64 (h3 2), .int .u64 (h3 3), .int .u64 (h3 4), .int .u64 (h3 5)])).run Tryd.prog w = .ok true w := (fun w => by have e := eqFr_run f h3 RF.out r3 w; rw [v3, V2.out, decide_eq_true HN.out.symm] at e; exact e); obtain ⟨⟨d0, d1, d2, d3, d4, d5⟩, p0, p1, p2, p3, p4, p5⟩ := HS.out _ BX; obtain ⟨y0, y1, y2, y3, y4, y5⟩ := MutK.cells6 (MutK.below HR.out BX (cell_lt (MutK.cells6 HR.out).1)); obtain ⟨q0, q1, q2, q3, q4, q5⟩ := MutK.free6 (MutK.below HR.out BX (cell_lt (MutK.cells6 HR.out).1)); have BX3 : Hid _ := BX; clear b3 BX r3 v3 BV)
  all_goals
    have KG : Hid _ := fun W hW => frGreat_any h2 W hW R2.out
    rw [V2.out, decide_eq_true HQ.out] at KG
    clear a0 a1 a2 a3 a4 a5 c0 c1 c2 c3 c4 c5 y0 y1 y2 y3 y4 y5 q0 q1 q2 q3 q4 q5
    go_wp2_with fail
    refine Calls.mono (KG.out x3 (Gl.stay HGL.out BX3.out)) ?_
    rintro e x4 ⟨rfl, b4⟩
    have BX4 := Below.up BX3.out (Nat.le_refl _) b4
    obtain ⟨⟨t0, t1, t2, t3, t4, t5⟩, s0, s1, s2, s3, s4, s5⟩ := HS.out _ BX4
    obtain ⟨y0, y1, y2, y3, y4, y5⟩ := MutK.cells6 (MutK.below HR.out BX4 (cell_lt (MutK.cells6 HR.out).1))
    obtain ⟨q0, q1, q2, q3, q4, q5⟩ := MutK.free6 (MutK.below HR.out BX4 (cell_lt (MutK.cells6 HR.out).1))
    have HX4 : Hid _ := BX4
    clear d0 d1 d2 d3 d4 d5 p0 p1 p2 p3 p4 p5 b4 BX4 E3 E4
    clear y0 y1 y2 y3 y4 y5 q0 q1 q2 q3 q4 q5
    go_wp2_with fail
    refine Calls.mono (frNeg_any h2 x4 R2.out l2.out) ?_
    rintro e x5 ⟨h5, rfl, r5, v5, b5⟩
    have BX5 := Below.up HX4.out (Nat.le_refl _) b5
    obtain ⟨y0, y1, y2, y3, y4, y5⟩ := MutK.cells6 (MutK.below HR.out BX5 (cell_lt (MutK.cells6 HR.out).1))
    obtain ⟨q0, q1, q2, q3, q4, q5⟩ := MutK.free6 (MutK.below HR.out BX5 (cell_lt (MutK.cells6 HR.out).1))
    have HX5 : Hid _ := BX5
    have R5 : Hid _ := r5
    rw [V2.out] at v5
    have V5 : Hid _ := v5
    clear t0 t1 t2 t3 t4 t5 s0 s1 s2 s3 s4 s5 b5 BX5 r5 v5
    go_wp2
    refine bodyPost_ret (v := .tuple #[.agg #[.int .u64 (h5 0), .int .u64 (h5 1), .int .u64 (h5 2), .int .u64 (h5 3), .int .u64 (h5 4), .int .u64 (h5 5)], .bool true]) (by simp [results, Tryd.results29, go_sem, y0, y1, y2, y3, y4, y5]) rfl ⟨h5, rfl, R5.out, V5.out, ?_⟩
    exact below_set6 (Below.up B2'.out (Nat.le_refl _) HX5.out) (by omega) _ _ _ _ _ _

set_option maxHeartbeats 4000000 in
theorem frSqrt_less (f : Nat → Int) (w : World) (hg : Gl w) (rf : Rg f 6) (lf : val f 6 < RI) (hn : sq (val f 6) * sq (val f 6) % RI = val f 6) (hq : ¬ RI / 2 < sq (val f 6)) : Calls Tryd.prog 29 #[.agg #[.int .u64 (f 0), .int .u64 (f 1), .int .u64 (f 2), .int .u64 (f 3), .int .u64 (f 4), .int .u64 (f 5)]] w fun e w' => ∃ h : Nat → Int, e = .returned (.tuple #[.agg #[.int .u64 (h 0), .int .u64 (h 1), .int .u64 (h 2), .int .u64 (h 3), .int .u64 (h 4), .int .u64 (h 5)], .bool true]) ∧ Rg h 6 ∧ val h 6 = sq (val f 6) ∧ Below w.heap.size w w' := by
  obtain ⟨B1, z1, hF, hR⟩ := pair_all w f 24
  unfold pair at B1 z1 hF hR
  have hgl := hg.stay B1
  have K : Hid _ := fun (W : World) (hW : Gl W) (b : Nat) (ha : At W (some ⟨b, 0, none⟩) 6 qL) => frPow_any f (some ⟨b, 0, none⟩) 6 6 qL SE W hW rf (by omega) ha qL_rg qL_val
  have RF : Hid _ := rf
  have HN : Hid _ := hn
  have HQ : Hid _ := hq
  clear hq
  clear rf hn hg
  go_enter Tryd.func29, Tryd.ntmps29
  go_wp2_with fail
  generalize (w.alloc (.cells #[.int .u64 (f 0), .int .u64 (f 1), .int .u64 (f 2), .int .u64 (f 3), .int .u64 (f 4), .int .u64 (f 5)] 24)).alloc (.cells #[.int .u64 0, .int .u64 0, .int .u64 0, .int .u64 0, .int .u64 0, .int .u64 0] 24) = W at *
  have a1 := below_one W (.cells #[.int .u64 (qL 0), .int .u64 (qL 1), .int .u64 (qL 2), .int .u64 (qL 3), .int .u64 (qL 4), .int .u64 (qL 5)] 22)
  have m1 := (mut_four W qL 22).at
  rw [z1] at m1
  refine Calls.mono (K.out _ (hgl.stay a1) _ m1) ?_
  rintro e w2 ⟨h2, rfl, r2, v2, b2⟩
  have b3 := Below.up (Below.up a1 (Nat.le_refl _) b2) (Nat.le_refl _) (below_one w2 (.cells #[.int .u64 (h2 0), .int .u64 (h2 1), .int .u64 (h2 2), .int .u64 (h2 3), .int .u64 (h2 4), .int .u64 (h2 5)] 24))
  have mv := mut_four w2 h2 24
  have V2 : Hid (val h2 6 = sq (val f 6)) := v2
  have l2 : Hid (val h2 6 < RI) := by show _ < _; rw [v2]; exact modR_lt _
  have HM : Hid _ := fun (W : World) (hW : Gl W) => frMul_any h2 h2 W hW r2 r2
  have R2 : Hid _ := r2
  have hF2 := MutK.below hF b3 (by rw [z1]; omega)
  have hR2 := MutK.below hR b3 (by rw [z1]; omega)
  have hg2 := hgl.stay b3
  have B2 := Below.up B1 (Nat.le_refl _) b3
  clear hF hR hgl b3 b2 a1 m1 K r2 v2 B1 z1
  go_wp2_with fail
  generalize w2.alloc (.cells #[.int .u64 (h2 0), .int .u64 (h2 1), .int .u64 (h2 2), .int .u64 (h2 3), .int .u64 (h2 4), .int .u64 (h2 5)] 24) = V at *
  have HS : Hid (∀ x, Below V.heap.size V x → (x.cell? ⟨w2.heap.size, 0, none⟩ = some (.int .u64 (h2 0)) ∧ x.cell? ⟨w2.heap.size, 1, none⟩ = some (.int .u64 (h2 1)) ∧ x.cell? ⟨w2.heap.size, 2, none⟩ = some (.int .u64 (h2 2)) ∧ x.cell? ⟨w2.heap.size, 3, none⟩ = some (.int .u64 (h2 3)) ∧ x.cell? ⟨w2.heap.size, 4, none⟩ = some (.int .u64 (h2 4)) ∧ x.cell? ⟨w2.heap.size, 5, none⟩ = some (.int .u64 (h2 5))) ∧ (x.cell? ⟨w.heap.size, 0, none⟩ = some (.int .u64 (f 0)) ∧ x.cell? ⟨w.heap.size, 1, none⟩ = some (.int .u64 (f 1)) ∧ x.cell? ⟨w.heap.size, 2, none⟩ = some (.int .u64 (f 2)) ∧ x.cell? ⟨w.heap.size, 3, none⟩ = some (.int .u64 (f 3)) ∧ x.cell? ⟨w.heap.size, 4, none⟩ = some (.int .u64 (f 4)) ∧ x.cell? ⟨w.heap.size, 5, none⟩ = some (.int .u64 (f 5)))) := fun x hx => ⟨at6 (mv.at.below hx), at6 (hF2.at.below hx)⟩
  have HGL : Hid _ := hg2
  have HR : Hid _ := hR2
  have BV : Hid (Below V.heap.size V V.drew) := (Below.refl _ _).drew
  have B2' : Hid _ := B2
  have MV : Hid _ := mv
  have HF : Hid _ := hF2
  clear hF2 hR2 hg2 B2 mv
  obtain ⟨⟨a0, a1, a2, a3, a4, a5⟩, c0, c1, c2, c3, c4, c5⟩ := HS.out _ (Below.refl _ _)
  go_region_with (go_at_call 18; refine Calls.mono (HM.out _ (Gl.stay HGL.out BV.out)) ?_; rintro e x3 ⟨h3, rfl, r3, v3, b3⟩; have BX := Below.up BV.out (Nat.le_refl _) b3; have E3 : ∀ w, (Op.equalIn 10000 24 (.agg #[.int .u64 (h3 0), .int .u64 (h3 1), .int .u64 (h3 2), .int .u64 (h3 3), .int .u64 (h3 4), .int .u64 (h3 5)]) (.agg #[.int .u64 (f 0), .int .u64 (f 1), .int .u64 (f 2), .int .u64 (f 3), .int .u64 (f 4), .int .u64 (f 5)])).run Tryd.prog w = .ok true w := (fun w => by have e := eqFr_run h3 f r3 RF.out w; rw [v3, V2.out, decide_eq_true HN.out] at e; exact e); have E4 : ∀ w, (Op.equalIn 10000 24 (.agg #[.int .u64 (f 0), .int .u64 (f 1), .int .u64 (f 2), .int .u64 (f 3), .int .u64 (f 4), .int .u64 (f 5)]) (.agg #[.int .u64 (h3 0), .int .u64 (h3 1), .int .u64 (h3 2), .int .u64 (h3 3), .int .u64 (h3 4), .int .u64 (h3 5)])).run Tryd.prog w = .ok true w := (fun w => by have e := eqFr_run f h3 RF.out r3 w; rw [v3, V2.out, decide_eq_true HN.out.symm] at e; exact e); obtain ⟨⟨d0, d1, d2, d3, d4, d5⟩, p0, p1, p2, p3, p4, p5⟩ := HS.out _ BX; obtain ⟨y0, y1, y2, y3, y4, y5⟩ := MutK.cells6 (MutK.below HR.out BX (cell_lt (MutK.cells6 HR.out).1)); obtain ⟨q0, q1, q2, q3, q4, q5⟩ := MutK.free6 (MutK.below HR.out BX (cell_lt (MutK.cells6 HR.out).1)); have BX3 : Hid _ := BX; clear b3 BX r3 v3 BV)
  all_goals
    have KG : Hid _ := fun W hW => frGreat_any h2 W hW R2.out
    rw [V2.out, decide_eq_false HQ.out] at KG
    clear a0 a1 a2 a3 a4 a5 c0 c1 c2 c3 c4 c5 y0 y1 y2 y3 y4 y5 q0 q1 q2 q3 q4 q5
    go_wp2_with fail
    refine Calls.mono (KG.out x3 (Gl.stay HGL.out BX3.out)) ?_
    rintro e x4 ⟨rfl, b4⟩
    have BX4 := Below.up BX3.out (Nat.le_refl _) b4
    obtain ⟨⟨t0, t1, t2, t3, t4, t5⟩, s0, s1, s2, s3, s4, s5⟩ := HS.out _ BX4
    obtain ⟨y0, y1, y2, y3, y4, y5⟩ := MutK.cells6 (MutK.below HR.out BX4 (cell_lt (MutK.cells6 HR.out).1))
    obtain ⟨q0, q1, q2, q3, q4, q5⟩ := MutK.free6 (MutK.below HR.out BX4 (cell_lt (MutK.cells6 HR.out).1))
    have HX4 : Hid _ := BX4
    clear d0 d1 d2 d3 d4 d5 p0 p1 p2 p3 p4 p5 b4 BX4 E3 E4
    go_wp2
    refine bodyPost_ret (v := .tuple #[.agg #[.int .u64 (h2 0), .int .u64 (h2 1), .int .u64 (h2 2), .int .u64 (h2 3), .int .u64 (h2 4), .int .u64 (h2 5)], .bool true]) (by simp [results, Tryd.results29, go_sem, y0, y1, y2, y3, y4, y5]) rfl ⟨h2, rfl, R2.out, V2.out, ?_⟩
    exact below_set6 (Below.up B2'.out (Nat.le_refl _) HX4.out) (by omega) _ _ _ _ _ _

theorem frSqrt_yes (f : Nat → Int) (w : World) (hg : Gl w) (rf : Rg f 6) (lf : val f 6 < RI) (hn : sq (val f 6) * sq (val f 6) % RI = val f 6) : Calls Tryd.prog 29 #[.agg #[.int .u64 (f 0), .int .u64 (f 1), .int .u64 (f 2), .int .u64 (f 3), .int .u64 (f 4), .int .u64 (f 5)]] w fun e w' => ∃ h : Nat → Int, e = .returned (.tuple #[.agg #[.int .u64 (h 0), .int .u64 (h 1), .int .u64 (h 2), .int .u64 (h 3), .int .u64 (h 4), .int .u64 (h 5)], .bool true]) ∧ Rg h 6 ∧ val h 6 = lesser (sq (val f 6)) ∧ Below w.heap.size w w' := by
  unfold lesser
  by_cases hq : RI / 2 < sq (val f 6)
  · rw [if_pos hq]; exact frSqrt_great f w hg rf lf hn hq
  · rw [if_neg hq]; exact frSqrt_less f w hg rf lf hn hq

end Go.Proofs.YtgdmjngajjoliaaDoor.fpn
