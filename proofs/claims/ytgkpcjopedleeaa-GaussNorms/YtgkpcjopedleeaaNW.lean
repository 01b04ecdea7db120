/- The walk of GaussNorms, package gauss answering as it should. -/
import Derived.Test.YtgkpcjopedleeaaGY
import Derived.Test.YtgkpcjopedleeaaGC
import Derived.Test.YtgkpcjopedleeaaGQ
import Derived.Deep.DrawnRows
namespace Go.Proofs.Ytgkpcjopedleeaa
open Go.RowKit
attribute [local go_sem ↓] Go.wp_at_zero Go.wp_at_succ
attribute [local go_sem] run_store_complex
set_option linter.unusedVariables false
set_option linter.unusedSimpArgs false

set_option maxRecDepth 8000 in
set_option maxHeartbeats 1600000 in
theorem gaussNorms_in (K : GaOk) (a b c d : Int) (w : World) (y : Gz) (hy : y = (Int.tmod c 500, Int.tmod d 500)) (y0 : y ≠ (0, 0)) : Calls Try.prog 4 #[.int .i64 a, .int .i64 b, .int .i64 c, .int .i64 d] w fun e w' => e = .returned (.bool true) ∧ Below w.heap.size w w' := by
  have HB : Hid _ := gaBegun K
  have nx := fun w => number_any a b w
  have ny := fun w => number_any c d w
  obtain ⟨x, hx⟩ : ∃ x : Gz, x = (Int.tmod a 500, Int.tmod b 500) := ⟨_, rfl⟩
  have SX : Hid (Md x) := by subst hx; exact ⟨tmod_mid a, tmod_mid b⟩
  have NX : Hid (∀ w, Calls Try.prog 9 #[.int .i64 a, .int .i64 b] w fun e w' => e = .returned (gv x) ∧ w' = w) := by subst hx; exact nx
  have SY : Hid (Md y) := by subst hy; exact ⟨tmod_mid c, tmod_mid d⟩
  have NY : Hid (∀ w, Calls Try.prog 9 #[.int .i64 c, .int .i64 d] w fun e w' => e = .returned (gv y) ∧ w' = w) := by subst hy; exact ny
  have HK : Hid _ := K
  clear K nx ny hx hy
  have k1 := fun w => HK.out.mul x y w SX.out.wh SY.out.wh
  have k2 := fun w => HK.out.norm (gm x y) w (SX.out.mul SY.out).2
  rw [gn_mul] at k2
  have k3 := fun w => HK.out.norm x w SX.out.wh
  have k4 := fun w => HK.out.norm y w SY.out.wh
  have k5 := fun w => HK.out.conj x w SX.out.wh
  have k6 := fun w => HK.out.mul x (gc x) w SX.out.wh SX.out.conj.wh
  rw [gm_conj] at k6
  have bx := gn_nonneg x
  have by' := gn_nonneg y
  have bx2 := SX.out.norm
  have by2 := SY.out.norm
  have bxy := (SX.out.mul SY.out).1
  rw [gn_mul] at bxy
  have bxy0 := Int.mul_nonneg bx by'
  have e1 : IntKind.i64.wrap (gn x * gn y) = gn x * gn y := by rw [IntKind.wrap_i64]; omega
  have e2 := eqs (gn x) (by omega)
  have e3 := eqs 0 (by decide)
  have e4 : (FloatKind.f64.format.order (fi 0) 0 == some .eq) = true := by decide +kernel
  have e9 : (FloatKind.f64.format.order (fi (gn x)) (floatOfInt .f64 (gn x)) == some .eq) = true := e2
  have e5 := eqs x.1 (by have := SX.out.1; omega)
  have e6 := eqs x.2 (by have := SX.out.2; omega)
  unfold gv at NX NY k1 k2 k3 k4 k5 k6
  go_enter Try.func4, Try.ntmps4
  go_wp2_with fail
  refine Calls.mono (HB.out _) ?_
  rintro e w1 ⟨rfl, c1⟩
  clear HB
  go_wp2_with fail
  refine Calls.mono (NX.out _) ?_
  rintro e w' ⟨rfl, rfl⟩
  go_wp2_with fail
  refine Calls.mono (NY.out _) ?_
  rintro e w' ⟨rfl, rfl⟩
  clear NX NY
  go_wp2_with fail
  refine Calls.mono (k1 _) ?_
  rintro e w2 ⟨rfl, b2⟩
  have c2 := Below.up c1 (Nat.le_refl _) b2
  clear b2 c1
  go_wp2_with fail
  refine Calls.mono (k2 _) ?_
  rintro e w3 ⟨rfl, b3⟩
  have c3 := Below.up c2 (Nat.le_refl _) b3
  clear b3 c2
  go_wp2_with fail
  refine Calls.mono (k3 _) ?_
  rintro e w4 ⟨rfl, b4⟩
  have c4 := Below.up c3 (Nat.le_refl _) b4
  clear b4 c3
  go_wp2_with fail
  refine Calls.mono (k4 _) ?_
  rintro e w5 ⟨rfl, b5⟩
  have c5 := Below.up c4 (Nat.le_refl _) b5
  clear b5 c4
  go_wp2_with fail
  refine Calls.mono (k5 _) ?_
  rintro e w6 ⟨rfl, b6⟩
  have c6 := Below.up c5 (Nat.le_refl _) b6
  clear b6 c5
  go_wp2_with fail
  refine Calls.mono (k6 _) ?_
  rintro e w7 ⟨rfl, b7⟩
  have c7 := Below.up c6 (Nat.le_refl _) b7
  clear b7 c6
  go_wp2_with fail
  refine Calls.mono (k3 _) ?_
  rintro e w8 ⟨rfl, b8⟩
  have c8 := Below.up c7 (Nat.le_refl _) b8
  clear b8 c7
  have z1 := eqz' SY.out.wh.f1
  have z2 := eqz' SY.out.wh.f2
  have zz : (decide (y.1 = 0) && decide (y.2 = 0)) = false := by
    by_cases h1 : y.1 = 0
    · by_cases h2 : y.2 = 0
      · exact absurd (gext h1 h2) y0
      · simp [h2]
    · simp [h1]
  have kd := fun w => HK.out.div x y w SX.out.wh SY.out.wh y0
  have rh := rest_half x y y0
  have qb := quot_bd SX.out SY.out y0
  have er : ga (gm (gq x y) y) (gs x (gm (gq x y) y)) = x := by apply gext <;> simp only [ga, gs] <;> omega
  obtain ⟨q, hq⟩ : ∃ q, q = gq x y := ⟨_, rfl⟩
  obtain ⟨r, hr⟩ : ∃ r, r = gs x (gm q y) := ⟨_, rfl⟩
  rw [← hq, ← hr] at kd rh er
  rw [← hq] at qb
  have pq := part_le (a := q) (n := 1223) (by have : ((1223 : Nat) : Int) * 1223 = 1495729 := by decide
                                              omega)
  have pr := part_le (a := r) (n := 706) (by have : ((706 : Nat) : Int) * 706 = 498436 := by decide
                                             omega)
  have pm : Wh (gm q y) := by
    have e : gm q y = gs x r := by rw [hr]; apply gext <;> simp only [gs] <;> omega
    rw [e]
    have := SX.out.1; have := SX.out.2
    refine ⟨?_, ?_⟩ <;> simp only [gs] <;> omega
  have m1 := fun w => HK.out.norm r w ⟨by omega, by omega⟩
  have m2 := fun w => HK.out.mul q y w ⟨by omega, by omega⟩ SY.out.wh
  have m3 := fun w => HK.out.add (gm q y) r w pm ⟨by omega, by omega⟩
  rw [er] at m3
  have rn := gn_nonneg r
  have e7 : IntKind.i64.wrap (2 * gn r) = 2 * gn r := by rw [IntKind.wrap_i64]; omega
  have X5 : x.1.natAbs ≤ 5000 ∧ x.2.natAbs ≤ 5000 := ⟨by have := SX.out.1; omega, by have := SX.out.2; omega⟩
  have Y5 : y.1.natAbs ≤ 5000 ∧ y.2.natAbs ≤ 5000 := ⟨by have := SY.out.1; omega, by have := SY.out.2; omega⟩
  have tw := turned_wh (r := r) (q := q) SX.out.wh X5 Y5 ⟨by omega, by omega⟩ ⟨by omega, by omega⟩
  have t1 := fun w => HK.out.turn (x, y, r, q) false w SX.out.wh SY.out.wh ⟨by show r.1.natAbs ≤ _; omega, by show r.2.natAbs ≤ _; omega⟩ ⟨by show q.1.natAbs ≤ _; omega, by show q.2.natAbs ≤ _; omega⟩
  have t2 := fun w => HK.out.turn (tu (x, y, r, q) (0, 1)) true w tw.1 tw.2.1 tw.2.2.1 tw.2.2.2
  simp only [Bool.false_eq_true, if_false, if_true, turn_back] at t1 t2
  have f1 := fun w => HK.out.mul (4, 0) x w ⟨by decide, by decide⟩ SX.out.wh
  have f2 := fun w => HK.out.mul (4, 0) y w ⟨by decide, by decide⟩ SY.out.wh
  have f3 := fun w => HK.out.mul (4, 0) r w ⟨by decide, by decide⟩ ⟨by omega, by omega⟩
  have f4 := fun w => HK.out.mul (4, 0) q w ⟨by decide, by decide⟩ ⟨by omega, by omega⟩
  simp only [gv4] at t1 t2
  have x1 := eqs (gm (4, 0) x).1 (by show (4 * x.1 - 0 * x.2).natAbs < _; have := SX.out.1; omega)
  have x2 := eqs (gm (4, 0) x).2 (by show (4 * x.2 + 0 * x.1).natAbs < _; have := SX.out.2; omega)
  have y1 := eqs (gm (4, 0) y).1 (by show (4 * y.1 - 0 * y.2).natAbs < _; have := SY.out.1; omega)
  have y2 := eqs (gm (4, 0) y).2 (by show (4 * y.2 + 0 * y.1).natAbs < _; have := SY.out.2; omega)
  have r1 := eqs (gm (4, 0) r).1 (by show (4 * r.1 - 0 * r.2).natAbs < _; omega)
  have r2 := eqs (gm (4, 0) r).2 (by show (4 * r.2 + 0 * r.1).natAbs < _; omega)
  have q1 := eqs (gm (4, 0) q).1 (by show (4 * q.1 - 0 * q.2).natAbs < _; omega)
  have q2 := eqs (gm (4, 0) q).2 (by show (4 * q.2 + 0 * q.1).natAbs < _; omega)
  have HT1 : Hid _ := t1
  have HT2 : Hid _ := t2
  have F1 : Hid _ := f1
  have F2 : Hid _ := f2
  have F3 : Hid _ := f3
  have F4 : Hid _ := f4
  generalize gm (4, 0) x = X4 at *
  generalize gm (4, 0) y = Y4 at *
  generalize gm (4, 0) r = R4 at *
  generalize gm (4, 0) q = Q4 at *
  clear t1 t2 f1 f2 f3 f4 tw X5 Y5 pm pq pr qb er hq hr
  simp only [gv] at kd m1 m2 m3 F1 F2 F3 F4
  rw [fi4, fi0] at F1 F2 F3 F4
  have e8 : 2 * gn r ≤ gn y := rh
  clear rh
  · clear y0
    go_wp2_with fail
    refine Calls.mono (kd _) ?_
    rintro e w9 ⟨rfl, b9⟩
    have c9 := Below.up c8 (Nat.le_refl _) b9
    go_wp2_with fail
    refine Calls.mono (m1 _) ?_
    rintro e w10 ⟨rfl, b10⟩
    have c10 := Below.up c9 (Nat.le_refl _) b10
    go_wp2_with fail
    refine Calls.mono (k4 _) ?_
    rintro e w11 ⟨rfl, b11⟩
    have c11 := Below.up c10 (Nat.le_refl _) b11
    go_wp2_with fail
    refine Calls.mono (m2 _) ?_
    rintro e w12 ⟨rfl, b12⟩
    have c12 := Below.up c11 (Nat.le_refl _) b12
    go_wp2_with fail
    refine Calls.mono (m3 _) ?_
    rintro e w13 ⟨rfl, b13⟩
    have c13 := Below.up c12 (Nat.le_refl _) b13
    clear b9 b10 b11 b12 b13 c9 c10 c11 c12 kd m1 m2 m3
    go_wp2_with fail
    refine Calls.mono (HT1.out _) ?_
    rintro e w14 ⟨rfl, b14⟩
    have c14 := Below.up c13 (Nat.le_refl _) b14
    go_wp2_with fail
    refine Calls.mono (HT2.out _) ?_
    rintro e w15 ⟨rfl, b15⟩
    have c15 := Below.up c14 (Nat.le_refl _) b15
    have c16 := Below.up c15 (Nat.le_refl _) (Below.refl _ _ : Below w15.heap.size w15 w15)
    clear b14 b15 c14 c13
    go_wp2_with fail
    obtain ⟨zf, bn, ff⟩ := fours_new w15 (.complex .f64 (fi X4.1) (fi X4.2)) (.complex .f64 (fi Y4.1) (fi Y4.2)) (.complex .f64 (fi R4.1) (fi R4.2)) (.complex .f64 (fi Q4.1) (fi Q4.2)) 35 _ rfl
    have cW : Hid _ := Below.up c15 (Nat.le_refl _) bn
    clear bn
    generalize w15.alloc (.cells #[.complex .f64 (fi X4.1) (fi X4.2), .complex .f64 (fi Y4.1) (fi Y4.2), .complex .f64 (fi R4.1) (fi R4.2), .complex .f64 (fi Q4.1) (fi Q4.2)] 35) = W at *
    have HS : Hid (∀ x : World, Below W.heap.size W x → x.cell? ⟨w15.heap.size, 0, none⟩ = some (.complex .f64 (fi X4.1) (fi X4.2)) ∧ x.cell? ⟨w15.heap.size, 1, none⟩ = some (.complex .f64 (fi Y4.1) (fi Y4.2)) ∧ x.cell? ⟨w15.heap.size, 2, none⟩ = some (.complex .f64 (fi R4.1) (fi R4.2)) ∧ x.cell? ⟨w15.heap.size, 3, none⟩ = some (.complex .f64 (fi Q4.1) (fi Q4.2))) := fun x h => by
      have f := ff.below h (by rw [zf]; exact Nat.lt_succ_self _)
      exact ⟨f.1.1, f.2.1.1, f.2.2.1.1, f.2.2.2.1⟩
    have BW : Hid (Below W.heap.size W W.drew) := (Below.refl _ _).drew
    clear ff zf c15 c16 k1 k2 k3 k4 k5 k6 HT1 HT2 bx by' bx2 by2 bxy bxy0 e1 e2 e3 e4 e9 e5 e6 z1 z2 zz e7 e8 rn
    generalize fi x.1 = ga_1 at *
    generalize fi x.2 = ga_2 at *
    generalize fi y.1 = gb_1 at *
    generalize fi y.2 = gb_2 at *
    generalize fi r.1 = gc_1 at *
    generalize fi r.2 = gc_2 at *
    generalize fi q.1 = gd_1 at *
    generalize fi q.2 = gd_2 at *
    generalize fi X4.1 = gA1 at *
    generalize fi X4.2 = gA2 at *
    generalize fi Y4.1 = gB1 at *
    generalize fi Y4.2 = gB2 at *
    generalize fi R4.1 = gC1 at *
    generalize fi R4.2 = gC2 at *
    generalize fi Q4.1 = gD1 at *
    generalize fi Q4.2 = gD2 at *
    refine wp_region_held_drew (S := (fun x => x.cell? ⟨w15.heap.size, 0, none⟩ = some (.complex .f64 gA1 gA2) ∧ x.cell? ⟨w15.heap.size, 1, none⟩ = some (.complex .f64 gB1 gB2) ∧ x.cell? ⟨w15.heap.size, 2, none⟩ = some (.complex .f64 gC1 gC2) ∧ x.cell? ⟨w15.heap.size, 3, none⟩ = some (.complex .f64 gD1 gD2))) (by kernel_rfl) (HS.out _ BW.out) (fun hHeld => ?_)
    refine takeW (i := 0) (v := .bool true) 89 rfl (by kernel_rfl) (by kernel_rfl) (by kernel_rfl) (fun _ _ _ h => h) (Or.inl ⟨by rfl, fun wS hSw => by dsimp only at hSw; go_simp⟩) hHeld rfl ?_
    try simp only [Act.put, List.setIfInBounds_toArray, List.set_cons_zero, List.set_cons_succ]
    refine takeW (i := 1) (v := .bool true) 90 rfl (by kernel_rfl) (by kernel_rfl) (by kernel_rfl) (fun _ _ _ h => h) (Or.inl ⟨by rfl, fun wS hSw => by dsimp only at hSw; go_simp⟩) hHeld rfl ?_
    try simp only [Act.put, List.setIfInBounds_toArray, List.set_cons_zero, List.set_cons_succ]
    refine takeW (i := 2) (v := .pointer (some ⟨w15.heap.size, 0, none⟩)) 91 rfl (by kernel_rfl) (by kernel_rfl) (by kernel_rfl) (fun _ _ _ h => h) (Or.inl ⟨by rfl, fun wS hSw => by dsimp only at hSw; go_simp⟩) hHeld rfl ?_
    try simp only [Act.put, List.setIfInBounds_toArray, List.set_cons_zero, List.set_cons_succ]
    refine takeW (i := 3) (v := .complex .f64 gA1 gA2) 92 rfl (by kernel_rfl) (by kernel_rfl) (by kernel_rfl) (fun _ _ _ h => h) (Or.inl ⟨by rfl, fun wS hSw => by dsimp only at hSw; go_simp⟩) hHeld rfl ?_
    try simp only [Act.put, List.setIfInBounds_toArray, List.set_cons_zero, List.set_cons_succ]
    refine takeW (i := 4) (v := .complex .f64 4616189618054758400 0) 93 rfl (by kernel_rfl) (by kernel_rfl) (by kernel_rfl) (fun _ _ _ h => h) (Or.inl ⟨by rfl, fun wS hSw => by dsimp only at hSw; go_simp⟩) hHeld rfl ?_
    try simp only [Act.put, List.setIfInBounds_toArray, List.set_cons_zero, List.set_cons_succ]
    refine takeW (i := 5) (v := .complex .f64 ga_1 ga_2) 94 rfl (by kernel_rfl) (by kernel_rfl) (by kernel_rfl) (fun _ _ _ h => h) (Or.inl ⟨by rfl, fun wS hSw => by dsimp only at hSw; go_simp⟩) hHeld rfl ?_
    try simp only [Act.put, List.setIfInBounds_toArray, List.set_cons_zero, List.set_cons_succ]
    refine wpAnyH_ready (rs := [6]) (by kernel_rfl) (by simp) ?_
    refine AllReadyH.cons rfl (fun K hK => ?_) AllReadyH.nil
    go_simp
    go_at_call 11; refine Calls.mono (F1.out _) ?_; rintro e u1 ⟨rfl, bb⟩; have BX := Below.up BW.out (Nat.le_refl _) bb; clear BW; have BW : Hid _ := BX; clear BX bb
    refine hK.out _ _ (HS.out _ BW.out) (fun hHeld2 => ?_)
    clear hK K hHeld
    have hHeld := hHeld2
    clear hHeld2
    try simp only [Act.put, List.setIfInBounds_toArray, List.set_cons_zero, List.set_cons_succ]
    refine takeW (i := 7) (v := .bool true) 96 rfl (by kernel_rfl) (by kernel_rfl) (by kernel_rfl) (fun _ _ _ h => h) (Or.inl ⟨by rfl, fun wS hSw => by dsimp only at hSw; go_simp⟩) hHeld rfl ?_
    try simp only [Act.put, List.setIfInBounds_toArray, List.set_cons_zero, List.set_cons_succ]
    refine takeW (i := 8) (v := .bool true) 97 rfl (by kernel_rfl) (by kernel_rfl) (by kernel_rfl) (fun _ _ _ h => h) (Or.inl ⟨by rfl, fun wS hSw => by dsimp only at hSw; go_simp⟩) hHeld rfl ?_
    try simp only [Act.put, List.setIfInBounds_toArray, List.set_cons_zero, List.set_cons_succ]
    refine takeW (i := 9) (v := .bool true) 98 rfl (by kernel_rfl) (by kernel_rfl) (by kernel_rfl) (fun _ _ _ h => h) (Or.inl ⟨by rfl, fun wS hSw => by dsimp only at hSw; go_simp⟩) hHeld rfl ?_
    try simp only [Act.put, List.setIfInBounds_toArray, List.set_cons_zero, List.set_cons_succ]
    refine takeW (i := 10) (v := .pointer (some ⟨w15.heap.size, 1, none⟩)) 99 rfl (by kernel_rfl) (by kernel_rfl) (by kernel_rfl) (fun _ _ _ h => h) (Or.inl ⟨by rfl, fun wS hSw => by dsimp only at hSw; go_simp⟩) hHeld rfl ?_
    try simp only [Act.put, List.setIfInBounds_toArray, List.set_cons_zero, List.set_cons_succ]
    refine takeW (i := 11) (v := .complex .f64 gB1 gB2) 100 rfl (by kernel_rfl) (by kernel_rfl) (by kernel_rfl) (fun _ _ _ h => h) (Or.inl ⟨by rfl, fun wS hSw => by dsimp only at hSw; go_simp⟩) hHeld rfl ?_
    try simp only [Act.put, List.setIfInBounds_toArray, List.set_cons_zero, List.set_cons_succ]
    refine takeW (i := 12) (v := .complex .f64 4616189618054758400 0) 101 rfl (by kernel_rfl) (by kernel_rfl) (by kernel_rfl) (fun _ _ _ h => h) (Or.inl ⟨by rfl, fun wS hSw => by dsimp only at hSw; go_simp⟩) hHeld rfl ?_
    try simp only [Act.put, List.setIfInBounds_toArray, List.set_cons_zero, List.set_cons_succ]
    refine takeW (i := 13) (v := .complex .f64 gb_1 gb_2) 102 rfl (by kernel_rfl) (by kernel_rfl) (by kernel_rfl) (fun _ _ _ h => h) (Or.inl ⟨by rfl, fun wS hSw => by dsimp only at hSw; go_simp⟩) hHeld rfl ?_
    try simp only [Act.put, List.setIfInBounds_toArray, List.set_cons_zero, List.set_cons_succ]
    refine wpAnyH_ready (rs := [14]) (by kernel_rfl) (by simp) ?_
    refine AllReadyH.cons rfl (fun K hK => ?_) AllReadyH.nil
    go_simp
    go_at_call 11; refine Calls.mono (F2.out _) ?_; rintro e u2 ⟨rfl, bb⟩; have BX := Below.up BW.out (Nat.le_refl _) bb; clear BW; have BW : Hid _ := BX; clear BX bb
    refine hK.out _ _ (HS.out _ BW.out) (fun hHeld2 => ?_)
    clear hK K hHeld
    have hHeld := hHeld2
    clear hHeld2
    try simp only [Act.put, List.setIfInBounds_toArray, List.set_cons_zero, List.set_cons_succ]
    refine takeW (i := 15) (v := .bool true) 104 rfl (by kernel_rfl) (by kernel_rfl) (by kernel_rfl) (fun _ _ _ h => h) (Or.inl ⟨by rfl, fun wS hSw => by dsimp only at hSw; go_simp⟩) hHeld rfl ?_
    try simp only [Act.put, List.setIfInBounds_toArray, List.set_cons_zero, List.set_cons_succ]
    refine takeW (i := 16) (v := .bool true) 105 rfl (by kernel_rfl) (by kernel_rfl) (by kernel_rfl) (fun _ _ _ h => h) (Or.inl ⟨by rfl, fun wS hSw => by dsimp only at hSw; go_simp⟩) hHeld rfl ?_
    try simp only [Act.put, List.setIfInBounds_toArray, List.set_cons_zero, List.set_cons_succ]
    refine takeW (i := 17) (v := .bool true) 106 rfl (by kernel_rfl) (by kernel_rfl) (by kernel_rfl) (fun _ _ _ h => h) (Or.inl ⟨by rfl, fun wS hSw => by dsimp only at hSw; go_simp⟩) hHeld rfl ?_
    try simp only [Act.put, List.setIfInBounds_toArray, List.set_cons_zero, List.set_cons_succ]
    refine takeW (i := 18) (v := .pointer (some ⟨w15.heap.size, 2, none⟩)) 107 rfl (by kernel_rfl) (by kernel_rfl) (by kernel_rfl) (fun _ _ _ h => h) (Or.inl ⟨by rfl, fun wS hSw => by dsimp only at hSw; go_simp⟩) hHeld rfl ?_
    try simp only [Act.put, List.setIfInBounds_toArray, List.set_cons_zero, List.set_cons_succ]
    refine takeW (i := 19) (v := .complex .f64 gC1 gC2) 108 rfl (by kernel_rfl) (by kernel_rfl) (by kernel_rfl) (fun _ _ _ h => h) (Or.inl ⟨by rfl, fun wS hSw => by dsimp only at hSw; go_simp⟩) hHeld rfl ?_
    try simp only [Act.put, List.setIfInBounds_toArray, List.set_cons_zero, List.set_cons_succ]
    refine takeW (i := 20) (v := .complex .f64 4616189618054758400 0) 109 rfl (by kernel_rfl) (by kernel_rfl) (by kernel_rfl) (fun _ _ _ h => h) (Or.inl ⟨by rfl, fun wS hSw => by dsimp only at hSw; go_simp⟩) hHeld rfl ?_
    try simp only [Act.put, List.setIfInBounds_toArray, List.set_cons_zero, List.set_cons_succ]
    refine takeW (i := 21) (v := .complex .f64 gc_1 gc_2) 110 rfl (by kernel_rfl) (by kernel_rfl) (by kernel_rfl) (fun _ _ _ h => h) (Or.inl ⟨by rfl, fun wS hSw => by dsimp only at hSw; go_simp⟩) hHeld rfl ?_
    try simp only [Act.put, List.setIfInBounds_toArray, List.set_cons_zero, List.set_cons_succ]
    refine wpAnyH_ready (rs := [22]) (by kernel_rfl) (by simp) ?_
    refine AllReadyH.cons rfl (fun K hK => ?_) AllReadyH.nil
    go_simp
    go_at_call 11; refine Calls.mono (F3.out _) ?_; rintro e u3 ⟨rfl, bb⟩; have BX := Below.up BW.out (Nat.le_refl _) bb; clear BW; have BW : Hid _ := BX; clear BX bb
    refine hK.out _ _ (HS.out _ BW.out) (fun hHeld2 => ?_)
    clear hK K hHeld
    have hHeld := hHeld2
    clear hHeld2
    try simp only [Act.put, List.setIfInBounds_toArray, List.set_cons_zero, List.set_cons_succ]
    refine takeW (i := 23) (v := .bool true) 112 rfl (by kernel_rfl) (by kernel_rfl) (by kernel_rfl) (fun _ _ _ h => h) (Or.inl ⟨by rfl, fun wS hSw => by dsimp only at hSw; go_simp⟩) hHeld rfl ?_
    try simp only [Act.put, List.setIfInBounds_toArray, List.set_cons_zero, List.set_cons_succ]
    refine takeW (i := 24) (v := .bool true) 113 rfl (by kernel_rfl) (by kernel_rfl) (by kernel_rfl) (fun _ _ _ h => h) (Or.inl ⟨by rfl, fun wS hSw => by dsimp only at hSw; go_simp⟩) hHeld rfl ?_
    try simp only [Act.put, List.setIfInBounds_toArray, List.set_cons_zero, List.set_cons_succ]
    refine takeW (i := 25) (v := .bool true) 114 rfl (by kernel_rfl) (by kernel_rfl) (by kernel_rfl) (fun _ _ _ h => h) (Or.inl ⟨by rfl, fun wS hSw => by dsimp only at hSw; go_simp⟩) hHeld rfl ?_
    try simp only [Act.put, List.setIfInBounds_toArray, List.set_cons_zero, List.set_cons_succ]
    refine takeW (i := 26) (v := .pointer (some ⟨w15.heap.size, 3, none⟩)) 115 rfl (by kernel_rfl) (by kernel_rfl) (by kernel_rfl) (fun _ _ _ h => h) (Or.inl ⟨by rfl, fun wS hSw => by dsimp only at hSw; go_simp⟩) hHeld rfl ?_
    try simp only [Act.put, List.setIfInBounds_toArray, List.set_cons_zero, List.set_cons_succ]
    refine takeW (i := 27) (v := .complex .f64 gD1 gD2) 116 rfl (by kernel_rfl) (by kernel_rfl) (by kernel_rfl) (fun _ _ _ h => h) (Or.inl ⟨by rfl, fun wS hSw => by dsimp only at hSw; go_simp⟩) hHeld rfl ?_
    try simp only [Act.put, List.setIfInBounds_toArray, List.set_cons_zero, List.set_cons_succ]
    refine takeW (i := 28) (v := .complex .f64 4616189618054758400 0) 117 rfl (by kernel_rfl) (by kernel_rfl) (by kernel_rfl) (fun _ _ _ h => h) (Or.inl ⟨by rfl, fun wS hSw => by dsimp only at hSw; go_simp⟩) hHeld rfl ?_
    try simp only [Act.put, List.setIfInBounds_toArray, List.set_cons_zero, List.set_cons_succ]
    refine takeW (i := 29) (v := .complex .f64 gd_1 gd_2) 118 rfl (by kernel_rfl) (by kernel_rfl) (by kernel_rfl) (fun _ _ _ h => h) (Or.inl ⟨by rfl, fun wS hSw => by dsimp only at hSw; go_simp⟩) hHeld rfl ?_
    try simp only [Act.put, List.setIfInBounds_toArray, List.set_cons_zero, List.set_cons_succ]
    refine wpAnyH_ready (rs := [30]) (by kernel_rfl) (by simp) ?_
    refine AllReadyH.cons rfl (fun K hK => ?_) AllReadyH.nil
    go_simp
    go_at_call 11; refine Calls.mono (F4.out _) ?_; rintro e u4 ⟨rfl, bb⟩; have BX := Below.up BW.out (Nat.le_refl _) bb; clear BW; have BW : Hid _ := BX; clear BX bb
    refine hK.out _ _ (HS.out _ BW.out) (fun hHeld2 => ?_)
    clear hK K hHeld
    have hHeld := hHeld2
    clear hHeld2
    try simp only [Act.put, List.setIfInBounds_toArray, List.set_cons_zero, List.set_cons_succ]
    refine takeW (i := 31) (v := .bool true) 120 rfl (by kernel_rfl) (by kernel_rfl) (by kernel_rfl) (fun _ _ _ h => h) (Or.inl ⟨by rfl, fun wS hSw => by dsimp only at hSw; go_simp⟩) hHeld rfl ?_
    try simp only [Act.put, List.setIfInBounds_toArray, List.set_cons_zero, List.set_cons_succ]
    refine takeW (i := 32) (v := .bool true) 121 rfl (by kernel_rfl) (by kernel_rfl) (by kernel_rfl) (fun _ _ _ h => h) (Or.inl ⟨by rfl, fun wS hSw => by dsimp only at hSw; go_simp⟩) hHeld rfl ?_
    try simp only [Act.put, List.setIfInBounds_toArray, List.set_cons_zero, List.set_cons_succ]
    refine wpAnyH_ready (rs := [33]) (by kernel_rfl) (by simp) ?_
    refine AllReadyH.cons rfl (fun K hK => ?_) AllReadyH.nil
    go_simp
    refine hK.out _ _ (HS.out _ BW.out) (fun hHeld2 => ?_)
    clear hK K hHeld
    have hHeld := hHeld2
    clear hHeld2
    try simp only [Act.put, List.setIfInBounds_toArray, List.set_cons_zero, List.set_cons_succ]
    refine wpAnyH_done (by kernel_rfl) ?_ _
    go_wp2
    go_ret
    exact ⟨rfl, Below.up cW.out (Nat.le_refl _) BW.out⟩
set_option maxRecDepth 8000 in
set_option maxHeartbeats 1600000 in
theorem gaussNorms_zero (K : GaOk) (a b c d : Int) (w : World) (y : Gz) (hy : y = (Int.tmod c 500, Int.tmod d 500)) (y0 : y = (0, 0)) : Calls Try.prog 4 #[.int .i64 a, .int .i64 b, .int .i64 c, .int .i64 d] w fun e w' => e = .returned (.bool true) ∧ Below w.heap.size w w' := by
  have Y0 : Hid _ := y0
  clear y0
  have HB : Hid _ := gaBegun K
  have nx := fun w => number_any a b w
  have ny := fun w => number_any c d w
  obtain ⟨x, hx⟩ : ∃ x : Gz, x = (Int.tmod a 500, Int.tmod b 500) := ⟨_, rfl⟩
  have SX : Hid (Md x) := by subst hx; exact ⟨tmod_mid a, tmod_mid b⟩
  have NX : Hid (∀ w, Calls Try.prog 9 #[.int .i64 a, .int .i64 b] w fun e w' => e = .returned (gv x) ∧ w' = w) := by subst hx; exact nx
  have SY : Hid (Md y) := by subst hy; exact ⟨tmod_mid c, tmod_mid d⟩
  have NY : Hid (∀ w, Calls Try.prog 9 #[.int .i64 c, .int .i64 d] w fun e w' => e = .returned (gv y) ∧ w' = w) := by subst hy; exact ny
  have HK : Hid _ := K
  clear K nx ny hx hy
  have k1 := fun w => HK.out.mul x y w SX.out.wh SY.out.wh
  have k2 := fun w => HK.out.norm (gm x y) w (SX.out.mul SY.out).2
  rw [gn_mul] at k2
  have k3 := fun w => HK.out.norm x w SX.out.wh
  have k4 := fun w => HK.out.norm y w SY.out.wh
  have k5 := fun w => HK.out.conj x w SX.out.wh
  have k6 := fun w => HK.out.mul x (gc x) w SX.out.wh SX.out.conj.wh
  rw [gm_conj] at k6
  have bx := gn_nonneg x
  have by' := gn_nonneg y
  have bx2 := SX.out.norm
  have by2 := SY.out.norm
  have bxy := (SX.out.mul SY.out).1
  rw [gn_mul] at bxy
  have bxy0 := Int.mul_nonneg bx by'
  have e1 : IntKind.i64.wrap (gn x * gn y) = gn x * gn y := by rw [IntKind.wrap_i64]; omega
  have e2 := eqs (gn x) (by omega)
  have e3 := eqs 0 (by decide)
  have e4 : (FloatKind.f64.format.order (fi 0) 0 == some .eq) = true := by decide +kernel
  have e9 : (FloatKind.f64.format.order (fi (gn x)) (floatOfInt .f64 (gn x)) == some .eq) = true := e2
  have e5 := eqs x.1 (by have := SX.out.1; omega)
  have e6 := eqs x.2 (by have := SX.out.2; omega)
  unfold gv at NX NY k1 k2 k3 k4 k5 k6
  go_enter Try.func4, Try.ntmps4
  go_wp2_with fail
  refine Calls.mono (HB.out _) ?_
  rintro e w1 ⟨rfl, c1⟩
  clear HB
  go_wp2_with fail
  refine Calls.mono (NX.out _) ?_
  rintro e w' ⟨rfl, rfl⟩
  go_wp2_with fail
  refine Calls.mono (NY.out _) ?_
  rintro e w' ⟨rfl, rfl⟩
  clear NX NY
  go_wp2_with fail
  refine Calls.mono (k1 _) ?_
  rintro e w2 ⟨rfl, b2⟩
  have c2 := Below.up c1 (Nat.le_refl _) b2
  clear b2 c1
  go_wp2_with fail
  refine Calls.mono (k2 _) ?_
  rintro e w3 ⟨rfl, b3⟩
  have c3 := Below.up c2 (Nat.le_refl _) b3
  clear b3 c2
  go_wp2_with fail
  refine Calls.mono (k3 _) ?_
  rintro e w4 ⟨rfl, b4⟩
  have c4 := Below.up c3 (Nat.le_refl _) b4
  clear b4 c3
  go_wp2_with fail
  refine Calls.mono (k4 _) ?_
  rintro e w5 ⟨rfl, b5⟩
  have c5 := Below.up c4 (Nat.le_refl _) b5
  clear b5 c4
  go_wp2_with fail
  refine Calls.mono (k5 _) ?_
  rintro e w6 ⟨rfl, b6⟩
  have c6 := Below.up c5 (Nat.le_refl _) b6
  clear b6 c5
  go_wp2_with fail
  refine Calls.mono (k6 _) ?_
  rintro e w7 ⟨rfl, b7⟩
  have c7 := Below.up c6 (Nat.le_refl _) b7
  clear b7 c6
  go_wp2_with fail
  refine Calls.mono (k3 _) ?_
  rintro e w8 ⟨rfl, b8⟩
  have c8 := Below.up c7 (Nat.le_refl _) b8
  clear b8 c7
  have z1 := eqz' SY.out.wh.f1
  have z2 := eqz' SY.out.wh.f2
  rw [decide_eq_true (by rw [Y0.out])] at z1 z2
  obtain ⟨q, hq⟩ : ∃ q : Gz, q = (0, 0) := ⟨_, rfl⟩
  obtain ⟨r, hr⟩ : ∃ r : Gz, r = (0, 0) := ⟨_, rfl⟩
  have kd : ∀ w, Calls Try.prog 13 #[gv x, gv y] w fun e w' => e = .returned (.tuple #[gv q, gv r, .int .i64 7]) ∧ Below w.heap.size w w' := by
    intro w
    rw [show y = (0, 0) from Y0.out, hq, hr]
    exact HK.out.div0 x w SX.out.wh
  have pq : q.1.natAbs ≤ 1223 ∧ q.2.natAbs ≤ 1223 := by rw [hq]; exact ⟨by decide, by decide⟩
  have pr : r.1.natAbs ≤ 706 ∧ r.2.natAbs ≤ 706 := by rw [hr]; exact ⟨by decide, by decide⟩
  have X5 : x.1.natAbs ≤ 5000 ∧ x.2.natAbs ≤ 5000 := ⟨by have := SX.out.1; omega, by have := SX.out.2; omega⟩
  have Y5 : y.1.natAbs ≤ 5000 ∧ y.2.natAbs ≤ 5000 := ⟨by have := SY.out.1; omega, by have := SY.out.2; omega⟩
  have tw := turned_wh (r := r) (q := q) SX.out.wh X5 Y5 ⟨by omega, by omega⟩ ⟨by omega, by omega⟩
  have t1 := fun w => HK.out.turn (x, y, r, q) false w SX.out.wh SY.out.wh ⟨by show r.1.natAbs ≤ _; omega, by show r.2.natAbs ≤ _; omega⟩ ⟨by show q.1.natAbs ≤ _; omega, by show q.2.natAbs ≤ _; omega⟩
  have t2 := fun w => HK.out.turn (tu (x, y, r, q) (0, 1)) true w tw.1 tw.2.1 tw.2.2.1 tw.2.2.2
  simp only [Bool.false_eq_true, if_false, if_true, turn_back] at t1 t2
  have f1 := fun w => HK.out.mul (4, 0) x w ⟨by decide, by decide⟩ SX.out.wh
  have f2 := fun w => HK.out.mul (4, 0) y w ⟨by decide, by decide⟩ SY.out.wh
  have f3 := fun w => HK.out.mul (4, 0) r w ⟨by decide, by decide⟩ ⟨by omega, by omega⟩
  have f4 := fun w => HK.out.mul (4, 0) q w ⟨by decide, by decide⟩ ⟨by omega, by omega⟩
  simp only [gv4] at t1 t2
  have x1 := eqs (gm (4, 0) x).1 (by show (4 * x.1 - 0 * x.2).natAbs < _; have := SX.out.1; omega)
  have x2 := eqs (gm (4, 0) x).2 (by show (4 * x.2 + 0 * x.1).natAbs < _; have := SX.out.2; omega)
  have y1 := eqs (gm (4, 0) y).1 (by show (4 * y.1 - 0 * y.2).natAbs < _; have := SY.out.1; omega)
  have y2 := eqs (gm (4, 0) y).2 (by show (4 * y.2 + 0 * y.1).natAbs < _; have := SY.out.2; omega)
  have r1 := eqs (gm (4, 0) r).1 (by show (4 * r.1 - 0 * r.2).natAbs < _; omega)
  have r2 := eqs (gm (4, 0) r).2 (by show (4 * r.2 + 0 * r.1).natAbs < _; omega)
  have q1 := eqs (gm (4, 0) q).1 (by show (4 * q.1 - 0 * q.2).natAbs < _; omega)
  have q2 := eqs (gm (4, 0) q).2 (by show (4 * q.2 + 0 * q.1).natAbs < _; omega)
  have HT1 : Hid _ := t1
  have HT2 : Hid _ := t2
  have F1 : Hid _ := f1
  have F2 : Hid _ := f2
  have F3 : Hid _ := f3
  have F4 : Hid _ := f4
  generalize gm (4, 0) x = X4 at *
  generalize gm (4, 0) y = Y4 at *
  generalize gm (4, 0) r = R4 at *
  generalize gm (4, 0) q = Q4 at *
  clear t1 t2 f1 f2 f3 f4 tw X5 Y5 pq pr hq hr
  simp only [gv] at kd F1 F2 F3 F4
  rw [fi4, fi0] at F1 F2 F3 F4
  go_wp2_with fail
  refine Calls.mono (kd _) ?_
  rintro e w9 ⟨rfl, b9⟩
  have c9 := Below.up c8 (Nat.le_refl _) b9
  go_wp2_with fail
  refine Calls.mono (HT1.out _) ?_
  rintro e w14 ⟨rfl, b14⟩
  have c14 := Below.up c9 (Nat.le_refl _) b14
  go_wp2_with fail
  refine Calls.mono (HT2.out _) ?_
  rintro e w15 ⟨rfl, b15⟩
  have c15 := Below.up c14 (Nat.le_refl _) b15
  have c16 := Below.up c15 (Nat.le_refl _) (Below.refl _ _ : Below w15.heap.size w15 w15)
  clear b14 b15 c14 c9
  go_wp2_with fail
  obtain ⟨zf, bn, ff⟩ := fours_new w15 (.complex .f64 (fi X4.1) (fi X4.2)) (.complex .f64 (fi Y4.1) (fi Y4.2)) (.complex .f64 (fi R4.1) (fi R4.2)) (.complex .f64 (fi Q4.1) (fi Q4.2)) 35 _ rfl
  have cW : Hid _ := Below.up c15 (Nat.le_refl _) bn
  clear bn
  generalize w15.alloc (.cells #[.complex .f64 (fi X4.1) (fi X4.2), .complex .f64 (fi Y4.1) (fi Y4.2), .complex .f64 (fi R4.1) (fi R4.2), .complex .f64 (fi Q4.1) (fi Q4.2)] 35) = W at *
  have HS : Hid (∀ x : World, Below W.heap.size W x → x.cell? ⟨w15.heap.size, 0, none⟩ = some (.complex .f64 (fi X4.1) (fi X4.2)) ∧ x.cell? ⟨w15.heap.size, 1, none⟩ = some (.complex .f64 (fi Y4.1) (fi Y4.2)) ∧ x.cell? ⟨w15.heap.size, 2, none⟩ = some (.complex .f64 (fi R4.1) (fi R4.2)) ∧ x.cell? ⟨w15.heap.size, 3, none⟩ = some (.complex .f64 (fi Q4.1) (fi Q4.2))) := fun x h => by
    have f := ff.below h (by rw [zf]; exact Nat.lt_succ_self _)
    exact ⟨f.1.1, f.2.1.1, f.2.2.1.1, f.2.2.2.1⟩
  have BW : Hid (Below W.heap.size W W.drew) := (Below.refl _ _).drew
  clear ff zf c15 c16 k1 k2 k3 k4 k5 k6 HT1 HT2 bx by' bx2 by2 bxy bxy0 e1 e2 e3 e4 e9 e5 e6 z1 z2
  generalize fi x.1 = ga_1 at *
  generalize fi x.2 = ga_2 at *
  generalize fi y.1 = gb_1 at *
  generalize fi y.2 = gb_2 at *
  generalize fi r.1 = gc_1 at *
  generalize fi r.2 = gc_2 at *
  generalize fi q.1 = gd_1 at *
  generalize fi q.2 = gd_2 at *
  generalize fi X4.1 = gA1 at *
  generalize fi X4.2 = gA2 at *
  generalize fi Y4.1 = gB1 at *
  generalize fi Y4.2 = gB2 at *
  generalize fi R4.1 = gC1 at *
  generalize fi R4.2 = gC2 at *
  generalize fi Q4.1 = gD1 at *
  generalize fi Q4.2 = gD2 at *
  refine wp_region_held_drew (S := (fun x => x.cell? ⟨w15.heap.size, 0, none⟩ = some (.complex .f64 gA1 gA2) ∧ x.cell? ⟨w15.heap.size, 1, none⟩ = some (.complex .f64 gB1 gB2) ∧ x.cell? ⟨w15.heap.size, 2, none⟩ = some (.complex .f64 gC1 gC2) ∧ x.cell? ⟨w15.heap.size, 3, none⟩ = some (.complex .f64 gD1 gD2))) (by kernel_rfl) (HS.out _ BW.out) (fun hHeld => ?_)
  refine takeW (i := 0) (v := .bool true) 89 rfl (by kernel_rfl) (by kernel_rfl) (by kernel_rfl) (fun _ _ _ h => h) (Or.inl ⟨by rfl, fun wS hSw => by dsimp only at hSw; go_simp⟩) hHeld rfl ?_
  try simp only [Act.put, List.setIfInBounds_toArray, List.set_cons_zero, List.set_cons_succ]
  refine takeW (i := 1) (v := .bool true) 90 rfl (by kernel_rfl) (by kernel_rfl) (by kernel_rfl) (fun _ _ _ h => h) (Or.inl ⟨by rfl, fun wS hSw => by dsimp only at hSw; go_simp⟩) hHeld rfl ?_
  try simp only [Act.put, List.setIfInBounds_toArray, List.set_cons_zero, List.set_cons_succ]
  refine takeW (i := 2) (v := .pointer (some ⟨w15.heap.size, 0, none⟩)) 91 rfl (by kernel_rfl) (by kernel_rfl) (by kernel_rfl) (fun _ _ _ h => h) (Or.inl ⟨by rfl, fun wS hSw => by dsimp only at hSw; go_simp⟩) hHeld rfl ?_
  try simp only [Act.put, List.setIfInBounds_toArray, List.set_cons_zero, List.set_cons_succ]
  refine takeW (i := 3) (v := .complex .f64 gA1 gA2) 92 rfl (by kernel_rfl) (by kernel_rfl) (by kernel_rfl) (fun _ _ _ h => h) (Or.inl ⟨by rfl, fun wS hSw => by dsimp only at hSw; go_simp⟩) hHeld rfl ?_
  try simp only [Act.put, List.setIfInBounds_toArray, List.set_cons_zero, List.set_cons_succ]
  refine takeW (i := 4) (v := .complex .f64 4616189618054758400 0) 93 rfl (by kernel_rfl) (by kernel_rfl) (by kernel_rfl) (fun _ _ _ h => h) (Or.inl ⟨by rfl, fun wS hSw => by dsimp only at hSw; go_simp⟩) hHeld rfl ?_
  try simp only [Act.put, List.setIfInBounds_toArray, List.set_cons_zero, List.set_cons_succ]
  refine takeW (i := 5) (v := .complex .f64 ga_1 ga_2) 94 rfl (by kernel_rfl) (by kernel_rfl) (by kernel_rfl) (fun _ _ _ h => h) (Or.inl ⟨by rfl, fun wS hSw => by dsimp only at hSw; go_simp⟩) hHeld rfl ?_
  try simp only [Act.put, List.setIfInBounds_toArray, List.set_cons_zero, List.set_cons_succ]
  refine wpAnyH_ready (rs := [6]) (by kernel_rfl) (by simp) ?_
  refine AllReadyH.cons rfl (fun K hK => ?_) AllReadyH.nil
  go_simp
  go_at_call 11; refine Calls.mono (F1.out _) ?_; rintro e u1 ⟨rfl, bb⟩; have BX := Below.up BW.out (Nat.le_refl _) bb; clear BW; have BW : Hid _ := BX; clear BX bb
  refine hK.out _ _ (HS.out _ BW.out) (fun hHeld2 => ?_)
  clear hK K hHeld
  have hHeld := hHeld2
  clear hHeld2
  try simp only [Act.put, List.setIfInBounds_toArray, List.set_cons_zero, List.set_cons_succ]
  refine takeW (i := 7) (v := .bool true) 96 rfl (by kernel_rfl) (by kernel_rfl) (by kernel_rfl) (fun _ _ _ h => h) (Or.inl ⟨by rfl, fun wS hSw => by dsimp only at hSw; go_simp⟩) hHeld rfl ?_
  try simp only [Act.put, List.setIfInBounds_toArray, List.set_cons_zero, List.set_cons_succ]
  refine takeW (i := 8) (v := .bool true) 97 rfl (by kernel_rfl) (by kernel_rfl) (by kernel_rfl) (fun _ _ _ h => h) (Or.inl ⟨by rfl, fun wS hSw => by dsimp only at hSw; go_simp⟩) hHeld rfl ?_
  try simp only [Act.put, List.setIfInBounds_toArray, List.set_cons_zero, List.set_cons_succ]
  refine takeW (i := 9) (v := .bool true) 98 rfl (by kernel_rfl) (by kernel_rfl) (by kernel_rfl) (fun _ _ _ h => h) (Or.inl ⟨by rfl, fun wS hSw => by dsimp only at hSw; go_simp⟩) hHeld rfl ?_
  try simp only [Act.put, List.setIfInBounds_toArray, List.set_cons_zero, List.set_cons_succ]
  refine takeW (i := 10) (v := .pointer (some ⟨w15.heap.size, 1, none⟩)) 99 rfl (by kernel_rfl) (by kernel_rfl) (by kernel_rfl) (fun _ _ _ h => h) (Or.inl ⟨by rfl, fun wS hSw => by dsimp only at hSw; go_simp⟩) hHeld rfl ?_
  try simp only [Act.put, List.setIfInBounds_toArray, List.set_cons_zero, List.set_cons_succ]
  refine takeW (i := 11) (v := .complex .f64 gB1 gB2) 100 rfl (by kernel_rfl) (by kernel_rfl) (by kernel_rfl) (fun _ _ _ h => h) (Or.inl ⟨by rfl, fun wS hSw => by dsimp only at hSw; go_simp⟩) hHeld rfl ?_
  try simp only [Act.put, List.setIfInBounds_toArray, List.set_cons_zero, List.set_cons_succ]
  refine takeW (i := 12) (v := .complex .f64 4616189618054758400 0) 101 rfl (by kernel_rfl) (by kernel_rfl) (by kernel_rfl) (fun _ _ _ h => h) (Or.inl ⟨by rfl, fun wS hSw => by dsimp only at hSw; go_simp⟩) hHeld rfl ?_
  try simp only [Act.put, List.setIfInBounds_toArray, List.set_cons_zero, List.set_cons_succ]
  refine takeW (i := 13) (v := .complex .f64 gb_1 gb_2) 102 rfl (by kernel_rfl) (by kernel_rfl) (by kernel_rfl) (fun _ _ _ h => h) (Or.inl ⟨by rfl, fun wS hSw => by dsimp only at hSw; go_simp⟩) hHeld rfl ?_
  try simp only [Act.put, List.setIfInBounds_toArray, List.set_cons_zero, List.set_cons_succ]
  refine wpAnyH_ready (rs := [14]) (by kernel_rfl) (by simp) ?_
  refine AllReadyH.cons rfl (fun K hK => ?_) AllReadyH.nil
  go_simp
  go_at_call 11; refine Calls.mono (F2.out _) ?_; rintro e u2 ⟨rfl, bb⟩; have BX := Below.up BW.out (Nat.le_refl _) bb; clear BW; have BW : Hid _ := BX; clear BX bb
  refine hK.out _ _ (HS.out _ BW.out) (fun hHeld2 => ?_)
  clear hK K hHeld
  have hHeld := hHeld2
  clear hHeld2
  try simp only [Act.put, List.setIfInBounds_toArray, List.set_cons_zero, List.set_cons_succ]
  refine takeW (i := 15) (v := .bool true) 104 rfl (by kernel_rfl) (by kernel_rfl) (by kernel_rfl) (fun _ _ _ h => h) (Or.inl ⟨by rfl, fun wS hSw => by dsimp only at hSw; go_simp⟩) hHeld rfl ?_
  try simp only [Act.put, List.setIfInBounds_toArray, List.set_cons_zero, List.set_cons_succ]
  refine takeW (i := 16) (v := .bool true) 105 rfl (by kernel_rfl) (by kernel_rfl) (by kernel_rfl) (fun _ _ _ h => h) (Or.inl ⟨by rfl, fun wS hSw => by dsimp only at hSw; go_simp⟩) hHeld rfl ?_
  try simp only [Act.put, List.setIfInBounds_toArray, List.set_cons_zero, List.set_cons_succ]
  refine takeW (i := 17) (v := .bool true) 106 rfl (by kernel_rfl) (by kernel_rfl) (by kernel_rfl) (fun _ _ _ h => h) (Or.inl ⟨by rfl, fun wS hSw => by dsimp only at hSw; go_simp⟩) hHeld rfl ?_
  try simp only [Act.put, List.setIfInBounds_toArray, List.set_cons_zero, List.set_cons_succ]
  refine takeW (i := 18) (v := .pointer (some ⟨w15.heap.size, 2, none⟩)) 107 rfl (by kernel_rfl) (by kernel_rfl) (by kernel_rfl) (fun _ _ _ h => h) (Or.inl ⟨by rfl, fun wS hSw => by dsimp only at hSw; go_simp⟩) hHeld rfl ?_
  try simp only [Act.put, List.setIfInBounds_toArray, List.set_cons_zero, List.set_cons_succ]
  refine takeW (i := 19) (v := .complex .f64 gC1 gC2) 108 rfl (by kernel_rfl) (by kernel_rfl) (by kernel_rfl) (fun _ _ _ h => h) (Or.inl ⟨by rfl, fun wS hSw => by dsimp only at hSw; go_simp⟩) hHeld rfl ?_
  try simp only [Act.put, List.setIfInBounds_toArray, List.set_cons_zero, List.set_cons_succ]
  refine takeW (i := 20) (v := .complex .f64 4616189618054758400 0) 109 rfl (by kernel_rfl) (by kernel_rfl) (by kernel_rfl) (fun _ _ _ h => h) (Or.inl ⟨by rfl, fun wS hSw => by dsimp only at hSw; go_simp⟩) hHeld rfl ?_
  try simp only [Act.put, List.setIfInBounds_toArray, List.set_cons_zero, List.set_cons_succ]
  refine takeW (i := 21) (v := .complex .f64 gc_1 gc_2) 110 rfl (by kernel_rfl) (by kernel_rfl) (by kernel_rfl) (fun _ _ _ h => h) (Or.inl ⟨by rfl, fun wS hSw => by dsimp only at hSw; go_simp⟩) hHeld rfl ?_
  try simp only [Act.put, List.setIfInBounds_toArray, List.set_cons_zero, List.set_cons_succ]
  refine wpAnyH_ready (rs := [22]) (by kernel_rfl) (by simp) ?_
  refine AllReadyH.cons rfl (fun K hK => ?_) AllReadyH.nil
  go_simp
  go_at_call 11; refine Calls.mono (F3.out _) ?_; rintro e u3 ⟨rfl, bb⟩; have BX := Below.up BW.out (Nat.le_refl _) bb; clear BW; have BW : Hid _ := BX; clear BX bb
  refine hK.out _ _ (HS.out _ BW.out) (fun hHeld2 => ?_)
  clear hK K hHeld
  have hHeld := hHeld2
  clear hHeld2
  try simp only [Act.put, List.setIfInBounds_toArray, List.set_cons_zero, List.set_cons_succ]
  refine takeW (i := 23) (v := .bool true) 112 rfl (by kernel_rfl) (by kernel_rfl) (by kernel_rfl) (fun _ _ _ h => h) (Or.inl ⟨by rfl, fun wS hSw => by dsimp only at hSw; go_simp⟩) hHeld rfl ?_
  try simp only [Act.put, List.setIfInBounds_toArray, List.set_cons_zero, List.set_cons_succ]
  refine takeW (i := 24) (v := .bool true) 113 rfl (by kernel_rfl) (by kernel_rfl) (by kernel_rfl) (fun _ _ _ h => h) (Or.inl ⟨by rfl, fun wS hSw => by dsimp only at hSw; go_simp⟩) hHeld rfl ?_
  try simp only [Act.put, List.setIfInBounds_toArray, List.set_cons_zero, List.set_cons_succ]
  refine takeW (i := 25) (v := .bool true) 114 rfl (by kernel_rfl) (by kernel_rfl) (by kernel_rfl) (fun _ _ _ h => h) (Or.inl ⟨by rfl, fun wS hSw => by dsimp only at hSw; go_simp⟩) hHeld rfl ?_
  try simp only [Act.put, List.setIfInBounds_toArray, List.set_cons_zero, List.set_cons_succ]
  refine takeW (i := 26) (v := .pointer (some ⟨w15.heap.size, 3, none⟩)) 115 rfl (by kernel_rfl) (by kernel_rfl) (by kernel_rfl) (fun _ _ _ h => h) (Or.inl ⟨by rfl, fun wS hSw => by dsimp only at hSw; go_simp⟩) hHeld rfl ?_
  try simp only [Act.put, List.setIfInBounds_toArray, List.set_cons_zero, List.set_cons_succ]
  refine takeW (i := 27) (v := .complex .f64 gD1 gD2) 116 rfl (by kernel_rfl) (by kernel_rfl) (by kernel_rfl) (fun _ _ _ h => h) (Or.inl ⟨by rfl, fun wS hSw => by dsimp only at hSw; go_simp⟩) hHeld rfl ?_
  try simp only [Act.put, List.setIfInBounds_toArray, List.set_cons_zero, List.set_cons_succ]
  refine takeW (i := 28) (v := .complex .f64 4616189618054758400 0) 117 rfl (by kernel_rfl) (by kernel_rfl) (by kernel_rfl) (fun _ _ _ h => h) (Or.inl ⟨by rfl, fun wS hSw => by dsimp only at hSw; go_simp⟩) hHeld rfl ?_
  try simp only [Act.put, List.setIfInBounds_toArray, List.set_cons_zero, List.set_cons_succ]
  refine takeW (i := 29) (v := .complex .f64 gd_1 gd_2) 118 rfl (by kernel_rfl) (by kernel_rfl) (by kernel_rfl) (fun _ _ _ h => h) (Or.inl ⟨by rfl, fun wS hSw => by dsimp only at hSw; go_simp⟩) hHeld rfl ?_
  try simp only [Act.put, List.setIfInBounds_toArray, List.set_cons_zero, List.set_cons_succ]
  refine wpAnyH_ready (rs := [30]) (by kernel_rfl) (by simp) ?_
  refine AllReadyH.cons rfl (fun K hK => ?_) AllReadyH.nil
  go_simp
  go_at_call 11; refine Calls.mono (F4.out _) ?_; rintro e u4 ⟨rfl, bb⟩; have BX := Below.up BW.out (Nat.le_refl _) bb; clear BW; have BW : Hid _ := BX; clear BX bb
  refine hK.out _ _ (HS.out _ BW.out) (fun hHeld2 => ?_)
  clear hK K hHeld
  have hHeld := hHeld2
  clear hHeld2
  try simp only [Act.put, List.setIfInBounds_toArray, List.set_cons_zero, List.set_cons_succ]
  refine takeW (i := 31) (v := .bool true) 120 rfl (by kernel_rfl) (by kernel_rfl) (by kernel_rfl) (fun _ _ _ h => h) (Or.inl ⟨by rfl, fun wS hSw => by dsimp only at hSw; go_simp⟩) hHeld rfl ?_
  try simp only [Act.put, List.setIfInBounds_toArray, List.set_cons_zero, List.set_cons_succ]
  refine takeW (i := 32) (v := .bool true) 121 rfl (by kernel_rfl) (by kernel_rfl) (by kernel_rfl) (fun _ _ _ h => h) (Or.inl ⟨by rfl, fun wS hSw => by dsimp only at hSw; go_simp⟩) hHeld rfl ?_
  try simp only [Act.put, List.setIfInBounds_toArray, List.set_cons_zero, List.set_cons_succ]
  refine wpAnyH_ready (rs := [33]) (by kernel_rfl) (by simp) ?_
  refine AllReadyH.cons rfl (fun K hK => ?_) AllReadyH.nil
  go_simp
  refine hK.out _ _ (HS.out _ BW.out) (fun hHeld2 => ?_)
  clear hK K hHeld
  have hHeld := hHeld2
  clear hHeld2
  try simp only [Act.put, List.setIfInBounds_toArray, List.set_cons_zero, List.set_cons_succ]
  refine wpAnyH_done (by kernel_rfl) ?_ _
  go_wp2
  go_ret
  exact ⟨rfl, Below.up cW.out (Nat.le_refl _) BW.out⟩

theorem gaussNorms_at (K : GaOk) (a b c d : Int) (w : World) : Calls Try.prog 4 #[.int .i64 a, .int .i64 b, .int .i64 c, .int .i64 d] w fun e w' => e = .returned (.bool true) ∧ Below w.heap.size w w' := by
  by_cases h : ((Int.tmod c 500, Int.tmod d 500) : Gz) = (0, 0)
  · exact gaussNorms_zero K a b c d w _ rfl h
  · exact gaussNorms_in K a b c d w _ rfl h
end Go.Proofs.Ytgkpcjopedleeaa
