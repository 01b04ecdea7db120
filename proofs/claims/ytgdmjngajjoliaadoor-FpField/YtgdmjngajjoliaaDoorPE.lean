/- The statement FpField's walk, all three below P. -/
import Derived.Test.YtgdmjngajjoliaaDoorPD
namespace Go.Proofs.YtgdmjngajjoliaaDoor.fpn
open Go.RowKit
attribute [local go_sem ↓] Go.wp_at_zero Go.wp_at_succ
set_option linter.unusedVariables false
set_option linter.unusedSimpArgs false

/-- An operation is taken first, its slot told. -/
theorem takeW {P : Program} {ops : Array Oper} {Q : Exit → Act → World → Prop} {md : Region.Mode} {S : World → Prop} {i : Nat} {oi : Oper} {v : Value} {fuel : Nat} {listed : Array Bool} {a : Act} {w : World} (d : Tmp) (hi : ops[i]? = some oi)
    (hs : Region.noSelect ops = true) (hf : Region.free md ops listed i = true) (hr : (Region.ready md ops listed).contains i = true)
    (hQ : ∀ c a w, Q (.panic c) (a.put oi.dst v) w → Q (.panic c) a w) (hy : YieldsIf P ops S oi v a) (hS : S w) (hd : oi.dst = some d)
    (h : wpAnyH P md ops Q S fuel (listed.setIfInBounds i true) (a.put (some d) v) w) : wpAnyH P md ops Q S (fuel + 1) listed a w :=
  wpAnyH_take hi hs hf hr hQ hy hS (by rw [hd]; exact h)

set_option maxHeartbeats 4000000 in
theorem fpField_zero {G : World → Prop} (K : FpOk G) (f g h : Nat → Int) (w : World) (hg : G w) (rf : Rg f 6) (rg : Rg g 6) (rh : Rg h 6) (la : val f 6 < RI) (lb : val g 6 < RI) (lc : val h 6 < RI) (hz : val f 6 = 0) : Calls Tryd.prog 6 #[frv f, frv g, frv h] w fun e w' => e = .returned (.bool true) ∧ Below w.heap.size w w' := by
  have HK : Hid _ := K
  clear K
  have hgg := hg
  obtain ⟨b0, z0, ma, mb, mc⟩ := tri_all w f g h 24 _ rfl
  have g0 := HK.out.stay hg b0
  have RF : Hid _ := rf
  have RG : Hid _ := rg
  have RH : Hid _ := rh
  unfold frv
  go_enter Tryd.func6, Tryd.ntmps6
  go_wp2_with fail
  generalize ((w.alloc (.cells #[.int .u64 (f 0), .int .u64 (f 1), .int .u64 (f 2), .int .u64 (f 3), .int .u64 (f 4), .int .u64 (f 5)] 24)).alloc (.cells #[.int .u64 (g 0), .int .u64 (g 1), .int .u64 (g 2), .int .u64 (g 3), .int .u64 (g 4), .int .u64 (g 5)] 24)).alloc (.cells #[.int .u64 (h 0), .int .u64 (h 1), .int .u64 (h 2), .int .u64 (h 3), .int .u64 (h 4), .int .u64 (h 5)] 24) = W0 at *
  refine Calls.mono (fpBegun HK.out _ g0) ?_
  rintro e w1 ⟨rfl, b1⟩
  have c1 := Below.up b0 (Nat.le_refl _) b1
  have ma1 := ma.below b1 (by rw [z0]; omega)
  have mb1 := mb.below b1 (by rw [z0]; omega)
  have mc1 := mc.below b1 (by rw [z0]; omega)
  have lw : w.heap.size + 3 ≤ w1.heap.size := by have := b1.size; omega
  have KF : Hid _ := fun w => mayR_any f w rf
  have KG : Hid _ := fun w => mayR_any g w rg
  have KH : Hid _ := fun w => mayR_any h w rh
  unfold frv at KF KG KH
  clear ma mb mc b0 b1 z0 g0 hg rf rg rh
  rw [decide_eq_true la] at KF
  obtain ⟨x0, x1, x2, x3, x4, x5⟩ := ma1.cells6
  go_wp2_with fail
  refine Calls.mono (KF.out _) ?_
  rintro e w2 ⟨rfl, b2⟩
  have c2 := Below.up c1 (Nat.le_refl _) b2
  have ma2 := ma1.below b2 (by have := c1.size; omega)
  have mb2 := mb1.below b2 (by have := c1.size; omega)
  have mc2 := mc1.below b2 (by have := c1.size; omega)
  have lw2 : w.heap.size + 3 ≤ w2.heap.size := by have := b2.size; omega
  clear x0 x1 x2 x3 x4 x5 ma1 mb1 mc1 b2 c1
  rw [decide_eq_true lb] at KG
  obtain ⟨x0, x1, x2, x3, x4, x5⟩ := mb2.cells6
  go_wp2_with fail
  refine Calls.mono (KG.out _) ?_
  rintro e w3 ⟨rfl, b3⟩
  have c3 := Below.up c2 (Nat.le_refl _) b3
  have ma3 := ma2.below b3 (by have := c2.size; omega)
  have mb3 := mb2.below b3 (by have := c2.size; omega)
  have mc3 := mc2.below b3 (by have := c2.size; omega)
  have lw3 : w.heap.size + 3 ≤ w3.heap.size := by have := b3.size; omega
  clear x0 x1 x2 x3 x4 x5 ma2 mb2 mc2 b3 c2
  rw [decide_eq_true lc] at KH
  obtain ⟨x0, x1, x2, x3, x4, x5⟩ := mc3.cells6
  go_wp2_with fail
  refine Calls.mono (KH.out _) ?_
  rintro e w4 ⟨rfl, b4⟩
  have c4 := Below.up c3 (Nat.le_refl _) b4
  have ma4 := ma3.below b4 (by have := c3.size; omega)
  have mb4 := mb3.below b4 (by have := c3.size; omega)
  have mc4 := mc3.below b4 (by have := c3.size; omega)
  have lw4 : w.heap.size + 3 ≤ w4.heap.size := by have := b4.size; omega
  clear x0 x1 x2 x3 x4 x5 ma3 mb3 mc3 b4 c3
  have g4 := HK.out.stay hgg c4
  obtain ⟨x0, x1, x2, x3, x4, x5⟩ := ma4.cells6
  go_wp2_with fail
  refine Calls.mono (FpOk.inv0 HK.out f _ g4 RF.out hz) ?_
  rintro e w5 ⟨i5, rfl, ri, vi, b5⟩
  have a5 := below_one w5 (.cells #[.int .u64 (i5 0), .int .u64 (i5 1), .int .u64 (i5 2), .int .u64 (i5 3), .int .u64 (i5 4), .int .u64 (i5 5)] 24)
  have z5 := World.size_alloc w5 (.cells #[.int .u64 (i5 0), .int .u64 (i5 1), .int .u64 (i5 2), .int .u64 (i5 3), .int .u64 (i5 4), .int .u64 (i5 5)] 24)
  have m5 := mut_four w5 i5 24
  have lw5 : w.heap.size + 3 ≤ w5.heap.size := by have := b5.size; omega
  have ma5 := (ma4.below b5 (by omega)).below a5 (by omega)
  have mb5 := (mb4.below b5 (by omega)).below a5 (by omega)
  have mc5 := (mc4.below b5 (by omega)).below a5 (by omega)
  have c5 := Below.up (Below.up c4 (Nat.le_refl _) b5) (Nat.le_refl _) a5
  have g5 := HK.out.stay hgg c5
  clear x0 x1 x2 x3 x4 x5 ma4 mb4 mc4 b5 a5 c4 g4 KF KG KH
  go_wp2_with fail
  generalize w5.alloc (.cells #[.int .u64 (i5 0), .int .u64 (i5 1), .int .u64 (i5 2), .int .u64 (i5 3), .int .u64 (i5 4), .int .u64 (i5 5)] 24) = W at *
  have HS : Hid (∀ x, Below W.heap.size W x → (x.cell? ⟨w.heap.size, 0, none⟩ = some (.int .u64 (f 0)) ∧ x.cell? ⟨w.heap.size, 1, none⟩ = some (.int .u64 (f 1)) ∧ x.cell? ⟨w.heap.size, 2, none⟩ = some (.int .u64 (f 2)) ∧ x.cell? ⟨w.heap.size, 3, none⟩ = some (.int .u64 (f 3)) ∧ x.cell? ⟨w.heap.size, 4, none⟩ = some (.int .u64 (f 4)) ∧ x.cell? ⟨w.heap.size, 5, none⟩ = some (.int .u64 (f 5))) ∧ (x.cell? ⟨(w.heap.size + 1), 0, none⟩ = some (.int .u64 (g 0)) ∧ x.cell? ⟨(w.heap.size + 1), 1, none⟩ = some (.int .u64 (g 1)) ∧ x.cell? ⟨(w.heap.size + 1), 2, none⟩ = some (.int .u64 (g 2)) ∧ x.cell? ⟨(w.heap.size + 1), 3, none⟩ = some (.int .u64 (g 3)) ∧ x.cell? ⟨(w.heap.size + 1), 4, none⟩ = some (.int .u64 (g 4)) ∧ x.cell? ⟨(w.heap.size + 1), 5, none⟩ = some (.int .u64 (g 5))) ∧ (x.cell? ⟨(w.heap.size + 1 + 1), 0, none⟩ = some (.int .u64 (h 0)) ∧ x.cell? ⟨(w.heap.size + 1 + 1), 1, none⟩ = some (.int .u64 (h 1)) ∧ x.cell? ⟨(w.heap.size + 1 + 1), 2, none⟩ = some (.int .u64 (h 2)) ∧ x.cell? ⟨(w.heap.size + 1 + 1), 3, none⟩ = some (.int .u64 (h 3)) ∧ x.cell? ⟨(w.heap.size + 1 + 1), 4, none⟩ = some (.int .u64 (h 4)) ∧ x.cell? ⟨(w.heap.size + 1 + 1), 5, none⟩ = some (.int .u64 (h 5))) ∧ (x.cell? ⟨w5.heap.size, 0, none⟩ = some (.int .u64 (i5 0)) ∧ x.cell? ⟨w5.heap.size, 1, none⟩ = some (.int .u64 (i5 1)) ∧ x.cell? ⟨w5.heap.size, 2, none⟩ = some (.int .u64 (i5 2)) ∧ x.cell? ⟨w5.heap.size, 3, none⟩ = some (.int .u64 (i5 3)) ∧ x.cell? ⟨w5.heap.size, 4, none⟩ = some (.int .u64 (i5 4)) ∧ x.cell? ⟨w5.heap.size, 5, none⟩ = some (.int .u64 (i5 5)))) := fun x hx => ⟨(ma5.below hx (by omega)).cells6, (mb5.below hx (by omega)).cells6, (mc5.below hx (by omega)).cells6, (m5.below hx (by omega)).cells6⟩
  have C5 : Hid _ := c5
  have GW : Hid _ := g5
  have LA : Hid _ := la
  have LB : Hid _ := lb
  have LC : Hid _ := lc
  have HZ : Hid _ := hz
  have RI5 : Hid _ := ri
  have VI5 : Hid _ := vi
  have BW : Hid (Below W.heap.size W W.drew) := (Below.refl _ _).drew
  have T1 : Hid True := trivial
  have T2 : Hid True := trivial
  have T3 : Hid True := trivial
  have T4 : Hid True := trivial
  have T5 : Hid True := trivial
  have T6 : Hid True := trivial
  have T7 : Hid True := trivial
  have T8 : Hid True := trivial
  have T9 : Hid True := trivial
  have T10 : Hid True := trivial
  have T11 : Hid True := trivial
  have T12 : Hid True := trivial
  have T13 : Hid True := trivial
  clear ma5 mb5 mc5 m5 c5 g5 la lb lc hz ri vi z5 hgg lw lw2 lw3 lw4 lw5
  go_region_held3 (fun x => (x.cell? ⟨w.heap.size, 0, none⟩ = some (.int .u64 (f 0)) ∧ x.cell? ⟨w.heap.size, 1, none⟩ = some (.int .u64 (f 1)) ∧ x.cell? ⟨w.heap.size, 2, none⟩ = some (.int .u64 (f 2)) ∧ x.cell? ⟨w.heap.size, 3, none⟩ = some (.int .u64 (f 3)) ∧ x.cell? ⟨w.heap.size, 4, none⟩ = some (.int .u64 (f 4)) ∧ x.cell? ⟨w.heap.size, 5, none⟩ = some (.int .u64 (f 5))) ∧ (x.cell? ⟨(w.heap.size + 1), 0, none⟩ = some (.int .u64 (g 0)) ∧ x.cell? ⟨(w.heap.size + 1), 1, none⟩ = some (.int .u64 (g 1)) ∧ x.cell? ⟨(w.heap.size + 1), 2, none⟩ = some (.int .u64 (g 2)) ∧ x.cell? ⟨(w.heap.size + 1), 3, none⟩ = some (.int .u64 (g 3)) ∧ x.cell? ⟨(w.heap.size + 1), 4, none⟩ = some (.int .u64 (g 4)) ∧ x.cell? ⟨(w.heap.size + 1), 5, none⟩ = some (.int .u64 (g 5))) ∧ (x.cell? ⟨(w.heap.size + 1 + 1), 0, none⟩ = some (.int .u64 (h 0)) ∧ x.cell? ⟨(w.heap.size + 1 + 1), 1, none⟩ = some (.int .u64 (h 1)) ∧ x.cell? ⟨(w.heap.size + 1 + 1), 2, none⟩ = some (.int .u64 (h 2)) ∧ x.cell? ⟨(w.heap.size + 1 + 1), 3, none⟩ = some (.int .u64 (h 3)) ∧ x.cell? ⟨(w.heap.size + 1 + 1), 4, none⟩ = some (.int .u64 (h 4)) ∧ x.cell? ⟨(w.heap.size + 1 + 1), 5, none⟩ = some (.int .u64 (h 5))) ∧ (x.cell? ⟨w5.heap.size, 0, none⟩ = some (.int .u64 (i5 0)) ∧ x.cell? ⟨w5.heap.size, 1, none⟩ = some (.int .u64 (i5 1)) ∧ x.cell? ⟨w5.heap.size, 2, none⟩ = some (.int .u64 (i5 2)) ∧ x.cell? ⟨w5.heap.size, 3, none⟩ = some (.int .u64 (i5 3)) ∧ x.cell? ⟨w5.heap.size, 4, none⟩ = some (.int .u64 (i5 4)) ∧ x.cell? ⟨w5.heap.size, 5, none⟩ = some (.int .u64 (i5 5))))
    (exact HS.out _ BW.out)
    (first
    | (clear T1; go_at_call 12; refine Calls.mono (FpOk.add HK.out f g _ (HK.out.stay GW.out BW.out) RF.out RG.out LA.out LB.out) ?_; rintro e y1 ⟨s1, rfl, r1, v1, b1⟩; have BX := Below.up BW.out (Nat.le_refl _) b1; clear BW; have BW : Hid _ := BX; clear BX; have R1 : Hid _ := r1; have V1 : Hid _ := v1; clear b1 r1 v1)
    | (clear T2; go_at_call 18; refine Calls.mono (FpOk.mul HK.out s1 h _ (HK.out.stay GW.out BW.out) R1.out RH.out (by rw [V1.out]; first | exact modR_lt _ | decide) LC.out) ?_; rintro e y2 ⟨s2, rfl, r2, v2, b2⟩; have BX := Below.up BW.out (Nat.le_refl _) b2; clear BW; have BW : Hid _ := BX; clear BX; have R2 : Hid _ := r2; have V2 : Hid _ := v2; clear b2 r2 v2)
    | (clear T3; go_at_call 18; refine Calls.mono (FpOk.mul HK.out f h _ (HK.out.stay GW.out BW.out) RF.out RH.out LA.out LC.out) ?_; rintro e y3 ⟨s3, rfl, r3, v3, b3⟩; have BX := Below.up BW.out (Nat.le_refl _) b3; clear BW; have BW : Hid _ := BX; clear BX; have R3 : Hid _ := r3; have V3 : Hid _ := v3; clear b3 r3 v3)
    | (clear T4; go_at_call 18; refine Calls.mono (FpOk.mul HK.out g h _ (HK.out.stay GW.out BW.out) RG.out RH.out LB.out LC.out) ?_; rintro e y4 ⟨s4, rfl, r4, v4, b4⟩; have BX := Below.up BW.out (Nat.le_refl _) b4; clear BW; have BW : Hid _ := BX; clear BX; have R4 : Hid _ := r4; have V4 : Hid _ := v4; clear b4 r4 v4)
    | (clear T5; go_at_call 12; refine Calls.mono (FpOk.add HK.out s3 s4 _ (HK.out.stay GW.out BW.out) R3.out R4.out (by rw [V3.out]; first | exact modR_lt _ | decide) (by rw [V4.out]; first | exact modR_lt _ | decide)) ?_; rintro e y5 ⟨s5, rfl, r5, v5, b5⟩; have BX := Below.up BW.out (Nat.le_refl _) b5; clear BW; have BW : Hid _ := BX; clear BX; have R5 : Hid _ := r5; have V5 : Hid _ := v5; have E1 := eq_yes R2.out r5 (by rw [V2.out, v5, V1.out, V3.out, V4.out]; exact ring1 _ _ _); clear b5 r5 v5)
    | (clear T6; go_at_call 18; refine Calls.mono (FpOk.mul HK.out g h _ (HK.out.stay GW.out BW.out) RG.out RH.out LB.out LC.out) ?_; rintro e y6 ⟨s6, rfl, r6, v6, b6⟩; have BX := Below.up BW.out (Nat.le_refl _) b6; clear BW; have BW : Hid _ := BX; clear BX; have R6 : Hid _ := r6; have V6 : Hid _ := v6; clear b6 r6 v6)
    | (clear T7; go_at_call 18; refine Calls.mono (FpOk.mul HK.out f s6 _ (HK.out.stay GW.out BW.out) RF.out R6.out LA.out (by rw [V6.out]; first | exact modR_lt _ | decide)) ?_; rintro e y7 ⟨s7, rfl, r7, v7, b7⟩; have BX := Below.up BW.out (Nat.le_refl _) b7; clear BW; have BW : Hid _ := BX; clear BX; have R7 : Hid _ := r7; have V7 : Hid _ := v7; clear b7 r7 v7)
    | (clear T8; go_at_call 18; refine Calls.mono (FpOk.mul HK.out f g _ (HK.out.stay GW.out BW.out) RF.out RG.out LA.out LB.out) ?_; rintro e y8 ⟨s8, rfl, r8, v8, b8⟩; have BX := Below.up BW.out (Nat.le_refl _) b8; clear BW; have BW : Hid _ := BX; clear BX; have R8 : Hid _ := r8; have V8 : Hid _ := v8; clear b8 r8 v8)
    | (clear T9; go_at_call 18; refine Calls.mono (FpOk.mul HK.out s8 h _ (HK.out.stay GW.out BW.out) R8.out RH.out (by rw [V8.out]; first | exact modR_lt _ | decide) LC.out) ?_; rintro e y9 ⟨s9, rfl, r9, v9, b9⟩; have BX := Below.up BW.out (Nat.le_refl _) b9; clear BW; have BW : Hid _ := BX; clear BX; have R9 : Hid _ := r9; have V9 : Hid _ := v9; have E2 := eq_yes R7.out r9 (by rw [V7.out, v9, V6.out, V8.out]; exact ring2 _ _ _); clear b9 r9 v9)
    | (clear T10; go_at_call 12; refine Calls.mono (FpOk.add HK.out g h _ (HK.out.stay GW.out BW.out) RG.out RH.out LB.out LC.out) ?_; rintro e y10 ⟨s10, rfl, r10, v10, b10⟩; have BX := Below.up BW.out (Nat.le_refl _) b10; clear BW; have BW : Hid _ := BX; clear BX; have R10 : Hid _ := r10; have V10 : Hid _ := v10; clear b10 r10 v10)
    | (clear T11; go_at_call 12; refine Calls.mono (FpOk.add HK.out f s10 _ (HK.out.stay GW.out BW.out) RF.out R10.out LA.out (by rw [V10.out]; first | exact modR_lt _ | decide)) ?_; rintro e y11 ⟨s11, rfl, r11, v11, b11⟩; have BX := Below.up BW.out (Nat.le_refl _) b11; clear BW; have BW : Hid _ := BX; clear BX; have R11 : Hid _ := r11; have V11 : Hid _ := v11; clear b11 r11 v11)
    | (clear T12; go_at_call 12; refine Calls.mono (FpOk.add HK.out f g _ (HK.out.stay GW.out BW.out) RF.out RG.out LA.out LB.out) ?_; rintro e y12 ⟨s12, rfl, r12, v12, b12⟩; have BX := Below.up BW.out (Nat.le_refl _) b12; clear BW; have BW : Hid _ := BX; clear BX; have R12 : Hid _ := r12; have V12 : Hid _ := v12; clear b12 r12 v12)
    | (clear T13; go_at_call 12; refine Calls.mono (FpOk.add HK.out s12 h _ (HK.out.stay GW.out BW.out) R12.out RH.out (by rw [V12.out]; first | exact modR_lt _ | decide) LC.out) ?_; rintro e y13 ⟨s13, rfl, r13, v13, b13⟩; have BX := Below.up BW.out (Nat.le_refl _) b13; clear BW; have BW : Hid _ := BX; clear BX; have R13 : Hid _ := r13; have V13 : Hid _ := v13; have E3 := eq_yes R11.out r13 (by rw [V11.out, v13, V10.out, V12.out]; exact ring3 _ _ _); clear b13 r13 v13)
    )
  clear E1 E2 E3 R1 V1 R2 V2 R3 V3 R4 V4 R5 V5 R6 V6 R7 V7 R8 V8 R9 V9 R10 V10 R11 V11 R12 V12 R13 V13
  go_wp2_with fail
  have BX := (BW.out).drew
  clear BW
  have BW : Hid _ := BX
  clear BX
  have T16 : Hid True := trivial
  have T17 : Hid True := trivial
  have T18 : Hid True := trivial
  have T19 : Hid True := trivial
  have T20 : Hid True := trivial
  refine wp_region_held_drew (S := (fun x => (x.cell? ⟨w.heap.size, 0, none⟩ = some (.int .u64 (f 0)) ∧ x.cell? ⟨w.heap.size, 1, none⟩ = some (.int .u64 (f 1)) ∧ x.cell? ⟨w.heap.size, 2, none⟩ = some (.int .u64 (f 2)) ∧ x.cell? ⟨w.heap.size, 3, none⟩ = some (.int .u64 (f 3)) ∧ x.cell? ⟨w.heap.size, 4, none⟩ = some (.int .u64 (f 4)) ∧ x.cell? ⟨w.heap.size, 5, none⟩ = some (.int .u64 (f 5))) ∧ (x.cell? ⟨(w.heap.size + 1), 0, none⟩ = some (.int .u64 (g 0)) ∧ x.cell? ⟨(w.heap.size + 1), 1, none⟩ = some (.int .u64 (g 1)) ∧ x.cell? ⟨(w.heap.size + 1), 2, none⟩ = some (.int .u64 (g 2)) ∧ x.cell? ⟨(w.heap.size + 1), 3, none⟩ = some (.int .u64 (g 3)) ∧ x.cell? ⟨(w.heap.size + 1), 4, none⟩ = some (.int .u64 (g 4)) ∧ x.cell? ⟨(w.heap.size + 1), 5, none⟩ = some (.int .u64 (g 5))) ∧ (x.cell? ⟨(w.heap.size + 1 + 1), 0, none⟩ = some (.int .u64 (h 0)) ∧ x.cell? ⟨(w.heap.size + 1 + 1), 1, none⟩ = some (.int .u64 (h 1)) ∧ x.cell? ⟨(w.heap.size + 1 + 1), 2, none⟩ = some (.int .u64 (h 2)) ∧ x.cell? ⟨(w.heap.size + 1 + 1), 3, none⟩ = some (.int .u64 (h 3)) ∧ x.cell? ⟨(w.heap.size + 1 + 1), 4, none⟩ = some (.int .u64 (h 4)) ∧ x.cell? ⟨(w.heap.size + 1 + 1), 5, none⟩ = some (.int .u64 (h 5))) ∧ (x.cell? ⟨w5.heap.size, 0, none⟩ = some (.int .u64 (i5 0)) ∧ x.cell? ⟨w5.heap.size, 1, none⟩ = some (.int .u64 (i5 1)) ∧ x.cell? ⟨w5.heap.size, 2, none⟩ = some (.int .u64 (i5 2)) ∧ x.cell? ⟨w5.heap.size, 3, none⟩ = some (.int .u64 (i5 3)) ∧ x.cell? ⟨w5.heap.size, 4, none⟩ = some (.int .u64 (i5 4)) ∧ x.cell? ⟨w5.heap.size, 5, none⟩ = some (.int .u64 (i5 5))))) (by kernel_rfl) (HS.out _ BW.out) (fun hHeld => ?_)
  refine takeW (i := 0) (v := .bool true) 69 rfl (by kernel_rfl) (by kernel_rfl) (by kernel_rfl) (fun _ _ _ h => h) (Or.inl ⟨by rfl, fun wS hSw => by dsimp only at hSw; go_simp⟩) hHeld rfl ?_
  try simp only [Act.put, List.setIfInBounds_toArray, List.set_cons_zero, List.set_cons_succ]
  refine takeW (i := 1) (v := .bool true) 70 rfl (by kernel_rfl) (by kernel_rfl) (by kernel_rfl) (fun _ _ _ h => h) (Or.inl ⟨by rfl, fun wS hSw => by dsimp only at hSw; go_simp⟩) hHeld rfl ?_
  try simp only [Act.put, List.setIfInBounds_toArray, List.set_cons_zero, List.set_cons_succ]
  refine takeW (i := 2) (v := .agg #[.int .u64 (f 0), .int .u64 (f 1), .int .u64 (f 2), .int .u64 (f 3), .int .u64 (f 4), .int .u64 (f 5)]) 71 rfl (by kernel_rfl) (by kernel_rfl) (by kernel_rfl) (fun _ _ _ h => h) (Or.inl ⟨by rfl, fun wS hSw => by dsimp only at hSw; go_simp⟩) hHeld rfl ?_
  try simp only [Act.put, List.setIfInBounds_toArray, List.set_cons_zero, List.set_cons_succ]
  refine takeW (i := 3) (v := .agg #[.int .u64 (g 0), .int .u64 (g 1), .int .u64 (g 2), .int .u64 (g 3), .int .u64 (g 4), .int .u64 (g 5)]) 72 rfl (by kernel_rfl) (by kernel_rfl) (by kernel_rfl) (fun _ _ _ h => h) (Or.inl ⟨by rfl, fun wS hSw => by dsimp only at hSw; go_simp⟩) hHeld rfl ?_
  try simp only [Act.put, List.setIfInBounds_toArray, List.set_cons_zero, List.set_cons_succ]
  refine takeW (i := 5) (v := .agg #[.int .u64 (g 0), .int .u64 (g 1), .int .u64 (g 2), .int .u64 (g 3), .int .u64 (g 4), .int .u64 (g 5)]) 74 rfl (by kernel_rfl) (by kernel_rfl) (by kernel_rfl) (fun _ _ _ h => h) (Or.inl ⟨by rfl, fun wS hSw => by dsimp only at hSw; go_simp⟩) hHeld rfl ?_
  try simp only [Act.put, List.setIfInBounds_toArray, List.set_cons_zero, List.set_cons_succ]
  refine takeW (i := 7) (v := .agg #[.int .u64 (f 0), .int .u64 (f 1), .int .u64 (f 2), .int .u64 (f 3), .int .u64 (f 4), .int .u64 (f 5)]) 76 rfl (by kernel_rfl) (by kernel_rfl) (by kernel_rfl) (fun _ _ _ h => h) (Or.inl ⟨by rfl, fun wS hSw => by dsimp only at hSw; go_simp⟩) hHeld rfl ?_
  try simp only [Act.put, List.setIfInBounds_toArray, List.set_cons_zero, List.set_cons_succ]
  refine wpAnyH_ready (rs := [4]) (by kernel_rfl) (by simp) ?_
  refine AllReadyH.cons rfl (fun K hK => ?_) AllReadyH.nil
  go_simp
  clear T16; go_at_call 12; refine Calls.mono (FpOk.add HK.out f g _ (HK.out.stay GW.out BW.out) RF.out RG.out LA.out LB.out) ?_; rintro e y16 ⟨s16, rfl, r16, v16, b16⟩; have BX := Below.up BW.out (Nat.le_refl _) b16; clear BW; have BW : Hid _ := BX; clear BX; have R16 : Hid _ := r16; have V16 : Hid _ := v16; clear b16 r16 v16
  refine hK.out _ _ (HS.out _ BW.out) (fun hHeld2 => ?_)
  clear hK K hHeld
  have hHeld := hHeld2
  clear hHeld2
  try simp only [Act.put, List.setIfInBounds_toArray, List.set_cons_zero, List.set_cons_succ]
  refine wpAnyH_ready (rs := [6]) (by kernel_rfl) (by simp) ?_
  refine AllReadyH.cons rfl (fun K hK => ?_) AllReadyH.nil
  go_simp
  clear T17; go_at_call 14; refine Calls.mono (FpOk.sub HK.out s16 g _ (HK.out.stay GW.out BW.out) R16.out RG.out (by rw [V16.out]; first | exact modR_lt _ | decide) LB.out) ?_; rintro e y17 ⟨s17, rfl, r17, v17, b17⟩; have BX := Below.up BW.out (Nat.le_refl _) b17; clear BW; have BW : Hid _ := BX; clear BX; have R17 : Hid _ := r17; have V17 : Hid _ := v17; have E5 := eq_yes r17 RF.out (by rw [v17, V16.out]; exact ring5 _ _ (val_bd RF.out).1 LA.out); clear b17 r17 v17
  refine hK.out _ _ (HS.out _ BW.out) (fun hHeld2 => ?_)
  clear hK K hHeld
  have hHeld := hHeld2
  clear hHeld2
  try simp only [Act.put, List.setIfInBounds_toArray, List.set_cons_zero, List.set_cons_succ]
  refine takeW (i := 8) (v := .bool true) 77 rfl (by kernel_rfl) (by kernel_rfl) (by kernel_rfl) (fun _ _ _ h => h) (Or.inl ⟨by rfl, fun wS hSw => by dsimp only at hSw; go_simp⟩) hHeld rfl ?_
  try simp only [Act.put, List.setIfInBounds_toArray, List.set_cons_zero, List.set_cons_succ]
  refine takeW (i := 9) (v := .bool true) 78 rfl (by kernel_rfl) (by kernel_rfl) (by kernel_rfl) (fun _ _ _ h => h) (Or.inl ⟨by rfl, fun wS hSw => by dsimp only at hSw; go_simp⟩) hHeld rfl ?_
  try simp only [Act.put, List.setIfInBounds_toArray, List.set_cons_zero, List.set_cons_succ]
  refine takeW (i := 10) (v := .bool true) 79 rfl (by kernel_rfl) (by kernel_rfl) (by kernel_rfl) (fun _ _ _ h => h) (Or.inl ⟨by rfl, fun wS hSw => by dsimp only at hSw; go_simp⟩) hHeld rfl ?_
  try simp only [Act.put, List.setIfInBounds_toArray, List.set_cons_zero, List.set_cons_succ]
  refine takeW (i := 11) (v := .agg #[.int .u64 (f 0), .int .u64 (f 1), .int .u64 (f 2), .int .u64 (f 3), .int .u64 (f 4), .int .u64 (f 5)]) 80 rfl (by kernel_rfl) (by kernel_rfl) (by kernel_rfl) (fun _ _ _ h => h) (Or.inl ⟨by rfl, fun wS hSw => by dsimp only at hSw; go_simp⟩) hHeld rfl ?_
  try simp only [Act.put, List.setIfInBounds_toArray, List.set_cons_zero, List.set_cons_succ]
  refine takeW (i := 12) (v := .agg #[.int .u64 (g 0), .int .u64 (g 1), .int .u64 (g 2), .int .u64 (g 3), .int .u64 (g 4), .int .u64 (g 5)]) 81 rfl (by kernel_rfl) (by kernel_rfl) (by kernel_rfl) (fun _ _ _ h => h) (Or.inl ⟨by rfl, fun wS hSw => by dsimp only at hSw; go_simp⟩) hHeld rfl ?_
  try simp only [Act.put, List.setIfInBounds_toArray, List.set_cons_zero, List.set_cons_succ]
  refine takeW (i := 14) (v := .agg #[.int .u64 (g 0), .int .u64 (g 1), .int .u64 (g 2), .int .u64 (g 3), .int .u64 (g 4), .int .u64 (g 5)]) 83 rfl (by kernel_rfl) (by kernel_rfl) (by kernel_rfl) (fun _ _ _ h => h) (Or.inl ⟨by rfl, fun wS hSw => by dsimp only at hSw; go_simp⟩) hHeld rfl ?_
  try simp only [Act.put, List.setIfInBounds_toArray, List.set_cons_zero, List.set_cons_succ]
  refine takeW (i := 15) (v := .agg #[.int .u64 (f 0), .int .u64 (f 1), .int .u64 (f 2), .int .u64 (f 3), .int .u64 (f 4), .int .u64 (f 5)]) 84 rfl (by kernel_rfl) (by kernel_rfl) (by kernel_rfl) (fun _ _ _ h => h) (Or.inl ⟨by rfl, fun wS hSw => by dsimp only at hSw; go_simp⟩) hHeld rfl ?_
  try simp only [Act.put, List.setIfInBounds_toArray, List.set_cons_zero, List.set_cons_succ]
  refine wpAnyH_ready (rs := [13]) (by kernel_rfl) (by simp) ?_
  refine AllReadyH.cons rfl (fun K hK => ?_) AllReadyH.nil
  go_simp
  clear T18; go_at_call 18; refine Calls.mono (FpOk.mul HK.out f g _ (HK.out.stay GW.out BW.out) RF.out RG.out LA.out LB.out) ?_; rintro e y18 ⟨s18, rfl, r18, v18, b18⟩; have BX := Below.up BW.out (Nat.le_refl _) b18; clear BW; have BW : Hid _ := BX; clear BX; have R18 : Hid _ := r18; have V18 : Hid _ := v18; clear b18 r18 v18
  refine hK.out _ _ (HS.out _ BW.out) (fun hHeld2 => ?_)
  clear hK K hHeld
  have hHeld := hHeld2
  clear hHeld2
  try simp only [Act.put, List.setIfInBounds_toArray, List.set_cons_zero, List.set_cons_succ]
  refine wpAnyH_ready (rs := [16]) (by kernel_rfl) (by simp) ?_
  refine AllReadyH.cons rfl (fun K hK => ?_) AllReadyH.nil
  go_simp
  clear T19; go_at_call 18; refine Calls.mono (FpOk.mul HK.out g f _ (HK.out.stay GW.out BW.out) RG.out RF.out LB.out LA.out) ?_; rintro e y19 ⟨s19, rfl, r19, v19, b19⟩; have BX := Below.up BW.out (Nat.le_refl _) b19; clear BW; have BW : Hid _ := BX; clear BX; have R19 : Hid _ := r19; have V19 : Hid _ := v19; have E6 := eq_yes R18.out r19 (by rw [V18.out, v19, Int.mul_comm]); clear b19 r19 v19
  refine hK.out _ _ (HS.out _ BW.out) (fun hHeld2 => ?_)
  clear hK K hHeld
  have hHeld := hHeld2
  clear hHeld2
  try simp only [Act.put, List.setIfInBounds_toArray, List.set_cons_zero, List.set_cons_succ]
  refine takeW (i := 17) (v := .bool true) 86 rfl (by kernel_rfl) (by kernel_rfl) (by kernel_rfl) (fun _ _ _ h => h) (Or.inl ⟨by rfl, fun wS hSw => by dsimp only at hSw; go_simp⟩) hHeld rfl ?_
  try simp only [Act.put, List.setIfInBounds_toArray, List.set_cons_zero, List.set_cons_succ]
  refine takeW (i := 18) (v := .bool true) 87 rfl (by kernel_rfl) (by kernel_rfl) (by kernel_rfl) (fun _ _ _ h => h) (Or.inl ⟨by rfl, fun wS hSw => by dsimp only at hSw; go_simp⟩) hHeld rfl ?_
  try simp only [Act.put, List.setIfInBounds_toArray, List.set_cons_zero, List.set_cons_succ]
  refine takeW (i := 19) (v := .bool true) 88 rfl (by kernel_rfl) (by kernel_rfl) (by kernel_rfl) (fun _ _ _ h => h) (Or.inl ⟨by rfl, fun wS hSw => by dsimp only at hSw; go_simp⟩) hHeld rfl ?_
  try simp only [Act.put, List.setIfInBounds_toArray, List.set_cons_zero, List.set_cons_succ]
  refine takeW (i := 20) (v := .agg #[.int .u64 (f 0), .int .u64 (f 1), .int .u64 (f 2), .int .u64 (f 3), .int .u64 (f 4), .int .u64 (f 5)]) 89 rfl (by kernel_rfl) (by kernel_rfl) (by kernel_rfl) (fun _ _ _ h => h) (Or.inl ⟨by rfl, fun wS hSw => by dsimp only at hSw; go_simp⟩) hHeld rfl ?_
  try simp only [Act.put, List.setIfInBounds_toArray, List.set_cons_zero, List.set_cons_succ]
  refine wpAnyH_ready (rs := [21]) (by kernel_rfl) (by simp) ?_
  refine AllReadyH.cons rfl (fun K hK => ?_) AllReadyH.nil
  go_simp
  clear T20; go_at_call 21; refine Calls.mono (FpOk.of HK.out 0 _ (HK.out.stay GW.out BW.out) (b64 (by decide) (by decide))) ?_; rintro e y20 ⟨s20, rfl, r20, v20, b20⟩; have BX := Below.up BW.out (Nat.le_refl _) b20; clear BW; have BW : Hid _ := BX; clear BX; have R20 : Hid _ := r20; have V20 : Hid _ := v20; have E8 := eq_yes RF.out r20 (by rw [v20]; exact HZ.out); clear b20 r20 v20
  refine hK.out _ _ (HS.out _ BW.out) (fun hHeld2 => ?_)
  clear hK K hHeld
  have hHeld := hHeld2
  clear hHeld2
  try simp only [Act.put, List.setIfInBounds_toArray, List.set_cons_zero, List.set_cons_succ]
  refine takeW (i := 22) (v := .bool true) 91 rfl (by kernel_rfl) (by kernel_rfl) (by kernel_rfl) (fun _ _ _ h => h) (Or.inl ⟨by rfl, fun wS hSw => by dsimp only at hSw; go_simp⟩) hHeld rfl ?_
  try simp only [Act.put, List.setIfInBounds_toArray, List.set_cons_zero, List.set_cons_succ]
  refine takeW (i := 23) (v := .bool true) 92 rfl (by kernel_rfl) (by kernel_rfl) (by kernel_rfl) (fun _ _ _ h => h) (Or.inl ⟨by rfl, fun wS hSw => by dsimp only at hSw; go_simp⟩) hHeld rfl ?_
  try simp only [Act.put, List.setIfInBounds_toArray, List.set_cons_zero, List.set_cons_succ]
  refine takeW (i := 24) (v := .int .i64 7) 93 rfl (by kernel_rfl) (by kernel_rfl) (by kernel_rfl) (fun _ _ _ h => h) (Or.inl ⟨by rfl, fun wS hSw => by dsimp only at hSw; go_simp⟩) hHeld rfl ?_
  try simp only [Act.put, List.setIfInBounds_toArray, List.set_cons_zero, List.set_cons_succ]
  refine takeW (i := 25) (v := .bool true) 94 rfl (by kernel_rfl) (by kernel_rfl) (by kernel_rfl) (fun _ _ _ h => h) (Or.inl ⟨by rfl, fun wS hSw => by dsimp only at hSw; go_simp⟩) hHeld rfl ?_
  try simp only [Act.put, List.setIfInBounds_toArray, List.set_cons_zero, List.set_cons_succ]
  refine takeW (i := 26) (v := .bool true) 95 rfl (by kernel_rfl) (by kernel_rfl) (by kernel_rfl) (fun _ _ _ h => h) (Or.inl ⟨by rfl, fun wS hSw => by dsimp only at hSw; go_simp⟩) hHeld rfl ?_
  try simp only [Act.put, List.setIfInBounds_toArray, List.set_cons_zero, List.set_cons_succ]
  refine takeW (i := 27) (v := .bool true) 96 rfl (by kernel_rfl) (by kernel_rfl) (by kernel_rfl) (fun _ _ _ h => h) (Or.inl ⟨by rfl, fun wS hSw => by dsimp only at hSw; go_simp⟩) hHeld rfl ?_
  try simp only [Act.put, List.setIfInBounds_toArray, List.set_cons_zero, List.set_cons_succ]
  refine takeW (i := 28) (v := undef) 97 rfl (by kernel_rfl) (by kernel_rfl) (by kernel_rfl) (fun _ _ _ h => h) (Or.inr ⟨by rfl, rfl⟩) hHeld rfl ?_
  try simp only [Act.put, List.setIfInBounds_toArray, List.set_cons_zero, List.set_cons_succ]
  refine takeW (i := 29) (v := undef) 98 rfl (by kernel_rfl) (by kernel_rfl) (by kernel_rfl) (fun _ _ _ h => h) (Or.inr ⟨by rfl, rfl⟩) hHeld rfl ?_
  try simp only [Act.put, List.setIfInBounds_toArray, List.set_cons_zero, List.set_cons_succ]
  refine takeW (i := 30) (v := undef) 99 rfl (by kernel_rfl) (by kernel_rfl) (by kernel_rfl) (fun _ _ _ h => h) (Or.inr ⟨by rfl, rfl⟩) hHeld rfl ?_
  try simp only [Act.put, List.setIfInBounds_toArray, List.set_cons_zero, List.set_cons_succ]
  refine takeW (i := 31) (v := undef) 100 rfl (by kernel_rfl) (by kernel_rfl) (by kernel_rfl) (fun _ _ _ h => h) (Or.inr ⟨by rfl, rfl⟩) hHeld rfl ?_
  try simp only [Act.put, List.setIfInBounds_toArray, List.set_cons_zero, List.set_cons_succ]
  refine takeW (i := 32) (v := undef) 101 rfl (by kernel_rfl) (by kernel_rfl) (by kernel_rfl) (fun _ _ _ h => h) (Or.inr ⟨by rfl, rfl⟩) hHeld rfl ?_
  try simp only [Act.put, List.setIfInBounds_toArray, List.set_cons_zero, List.set_cons_succ]
  refine wpAnyH_ready (rs := [33]) (by kernel_rfl) (by simp) ?_
  refine AllReadyH.cons rfl (fun K hK => ?_) AllReadyH.nil
  rw [if_neg (by exact Bool.false_ne_true)]
  change K (Act.put _ (some 102) undef) _
  refine hK.out _ _ (HS.out _ BW.out) (fun hHeld2 => ?_)
  clear hK K hHeld
  have hHeld := hHeld2
  clear hHeld2
  try simp only [Act.put, List.setIfInBounds_toArray, List.set_cons_zero, List.set_cons_succ]
  refine wpAnyH_ready (rs := [34]) (by kernel_rfl) (by simp) ?_
  refine AllReadyH.cons rfl (fun K hK => ?_) AllReadyH.nil
  rw [if_neg (by exact Bool.false_ne_true)]
  change K (Act.put _ (some 103) undef) _
  refine hK.out _ _ (HS.out _ BW.out) (fun hHeld2 => ?_)
  clear hK K hHeld
  have hHeld := hHeld2
  clear hHeld2
  try simp only [Act.put, List.setIfInBounds_toArray, List.set_cons_zero, List.set_cons_succ]
  refine takeW (i := 35) (v := undef) 104 rfl (by kernel_rfl) (by kernel_rfl) (by kernel_rfl) (fun _ _ _ h => h) (Or.inr ⟨by rfl, rfl⟩) hHeld rfl ?_
  try simp only [Act.put, List.setIfInBounds_toArray, List.set_cons_zero, List.set_cons_succ]
  refine takeW (i := 36) (v := undef) 105 rfl (by kernel_rfl) (by kernel_rfl) (by kernel_rfl) (fun _ _ _ h => h) (Or.inr ⟨by rfl, rfl⟩) hHeld rfl ?_
  try simp only [Act.put, List.setIfInBounds_toArray, List.set_cons_zero, List.set_cons_succ]
  refine takeW (i := 37) (v := .bool true) 106 rfl (by kernel_rfl) (by kernel_rfl) (by kernel_rfl) (fun _ _ _ h => h) (Or.inl ⟨by rfl, fun wS hSw => by dsimp only at hSw; go_simp⟩) hHeld rfl ?_
  try simp only [Act.put, List.setIfInBounds_toArray, List.set_cons_zero, List.set_cons_succ]
  refine takeW (i := 38) (v := .bool true) 107 rfl (by kernel_rfl) (by kernel_rfl) (by kernel_rfl) (fun _ _ _ h => h) (Or.inl ⟨by rfl, fun wS hSw => by dsimp only at hSw; go_simp⟩) hHeld rfl ?_
  try simp only [Act.put, List.setIfInBounds_toArray, List.set_cons_zero, List.set_cons_succ]
  refine wpAnyH_ready (rs := [39]) (by kernel_rfl) (by simp) ?_
  refine AllReadyH.cons rfl (fun K hK => ?_) AllReadyH.nil
  go_simp
  refine hK.out _ _ (HS.out _ BW.out) (fun hHeld2 => ?_)
  clear hK K hHeld
  have hHeld := hHeld2
  clear hHeld2
  try simp only [Act.put, List.setIfInBounds_toArray, List.set_cons_zero, List.set_cons_succ]
  refine wpAnyH_done (by kernel_rfl) ?_ _
  go_wp2
  go_ret
  exact ⟨rfl, Below.up C5.out (Nat.le_refl _) BW.out⟩
end Go.Proofs.YtgdmjngajjoliaaDoor.fpn
