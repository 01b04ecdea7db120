/- Package gauss as landed: nearest, Div, upright. -/
import Derived.Test.YtgkpcjopedleeaaGQ
import Derived.Test.YtgkpcjopedleeaaGY
namespace Go.Proofs.Ytgkpcjopedleeaa
open Go.RowKit
set_option linter.unusedVariables false

theorem nearest_any {u v : Nat} {n d : Int} (hu : IsF u n) (hv : IsF v d) (hn : n.natAbs ≤ 2 ^ 42) (d0 : 0 < d) (d1 : d ≤ 2 ^ 42) :
    ∃ r, IsF r (near n d) ∧ ∀ w, Calls Try.prog 22 #[.float .f64 u, .float .f64 v] w fun e w' => e = .returned (.float .f64 r) ∧ w' = w := by
  have f2 : IsF (fi 2) 2 := IsF.fi (by decide)
  obtain ⟨p, e1, f3⟩ := f2.mul hu (by omega)
  obtain ⟨q, e2, f4⟩ := f3.add hv (by omega)
  obtain ⟨t, e3, f5⟩ := f2.mul hv (by omega)
  obtain ⟨r, s, K, l, e4, e5, f6⟩ := f4.floorDiv f5 (by omega) (by omega)
  refine ⟨_, f6, fun w => ?_⟩
  have HF : Hid _ := fun w => floor_any ⟨s, K, l, e5, rfl⟩ w
  generalize Ieee.double.write ((Ieee.Datum.number s K l).integral .down) = R at HF
  have r1 := fun ty w => run_float_arith (P := Try.prog) (w := w) .mul ty .f64 (fi 2) u p e1
  have r2 := fun ty w => run_float_arith (P := Try.prog) (w := w) .add ty .f64 p v q e2
  have r3 := fun ty w => run_float_arith (P := Try.prog) (w := w) .mul ty .f64 (fi 2) v t e3
  have r4 := fun ty w => run_float_arith (P := Try.prog) (w := w) .quo ty .f64 q t r e4
  rw [fi2] at r1 r3
  clear hu hv hn d0 d1 f2 f3 f4 f5 f6 e1 e2 e3 e4 e5
  go_enter Try.func22, Try.ntmps22
  go_wp2_with fail
  refine Calls.mono (HF.out _) ?_
  rintro e w1 ⟨rfl, rfl⟩
  go_wp2
  go_ret
  exact ⟨rfl, rfl⟩

theorem div_zero (a : Gz) (w : World) : Calls Try.prog 13 #[gv a, gv (0, 0)] w fun e w' => e = .returned (.tuple #[gv (0, 0), gv (0, 0), .int .i64 7]) ∧ w' = w := by
  have z : FloatKind.f64.format.order 0 0 = some .eq := by decide +kernel
  unfold gv
  rw [fi0]
  go_enter Try.func13, Try.ntmps13
  go_wp2
  refine bodyPost_ret (v := .tuple #[.complex .f64 0 0, .complex .f64 0 0, .int .i64 7]) (by simp [results, Try.results13, go_sem]) rfl ⟨rfl, rfl⟩

theorem Wh.norm {a : Gz} (h : Wh a) : gn a ≤ 2 ^ 41 := by
  have h1 := sq_le (x := a.1) (n := 1048576) h.1
  have h2 := sq_le (x := a.2) (n := 1048576) h.2
  unfold gn
  omega
theorem Wh.conj {a : Gz} (h : Wh a) : Wh (gc a) := ⟨h.1, by show (-a.2).natAbs ≤ _; rw [Int.natAbs_neg]; exact h.2⟩
theorem Wh.mul {a b : Gz} (ha : Wh a) (hb : Wh b) : (gm a b).1.natAbs ≤ 2 ^ 41 ∧ (gm a b).2.natAbs ≤ 2 ^ 41 := by
  have h1 := prod_bd ha.1 hb.1
  have h2 := prod_bd ha.2 hb.2
  have h3 := prod_bd ha.1 hb.2
  have h4 := prod_bd ha.2 hb.1
  unfold gm
  constructor <;> dsimp only <;> omega

/-- A quotient's part by a part of what divides. -/
theorem quot_part {n d : Int} {b : Int} (hn : n.natAbs ≤ 2 ^ 41) (d0 : 0 < d) (d1 : d ≤ 2 ^ 41) (hb : b * b ≤ d) : (near n d * b).natAbs ≤ 2 ^ 43 ∧ (near n d).natAbs ≤ 2 ^ 43 := by
  obtain ⟨h1, h2⟩ := near_bd n d d0
  have hB : b.natAbs ≤ d.natAbs := by
    have : (b.natAbs * b.natAbs : Nat) ≤ d.natAbs := by
      have := abs_sq b
      omega
    rcases Nat.eq_zero_or_pos b.natAbs with h | h
    · omega
    · have := Nat.le_mul_of_pos_right b.natAbs h
      omega
  have e1 : (near n d * d).natAbs ≤ 2 ^ 43 := by
    generalize near n d * d = t at *
    omega
  rw [Int.natAbs_mul] at e1 ⊢
  have e2 := Nat.mul_le_mul_left (near n d).natAbs hB
  have e3 := Nat.le_mul_of_pos_right (near n d).natAbs (show 0 < d.natAbs by omega)
  omega

set_option maxHeartbeats 1600000 in
theorem div_any (a b : Gz) (w : World) (ha : Wh a) (hb : Wh b) (b0 : b ≠ (0, 0)) : Calls Try.prog 13 #[gv a, gv b] w fun e w' => e = .returned (.tuple #[gv (gq a b), gv (gs a (gm (gq a b) b)), .int .i64 0]) ∧ w' = w := by
  have z1 := eqz' hb.f1
  have z2 := eqz' hb.f2
  have zz : (decide (b.1 = 0) && decide (b.2 = 0)) = false := by
    by_cases h1 : b.1 = 0
    · by_cases h2 : b.2 = 0
      · exact absurd (gext h1 h2) b0
      · simp [h2]
    · simp [h1]
  have HC : Hid _ := fun w => conj_any b w hb
  have HM : Hid _ := fun w => mul_wh a (gc b) w ha hb.conj
  have HN : Hid _ := fun w => norm_any b w hb
  obtain ⟨t, ht⟩ : ∃ t, t = gm a (gc b) := ⟨_, rfl⟩
  have bt := ha.mul hb.conj
  have nb := hb.norm
  have np := gn_pos b0
  have eq : gq a b = (near t.1 (gn b), near t.2 (gn b)) := by rw [ht]; rfl
  rw [← ht] at bt HM
  have fd : IsF (fi (gn b)) (gn b) := IsF.fi (by omega)
  obtain ⟨r1, g1, K1⟩ := nearest_any (IsF.fi (x := t.1) (by omega)) fd (by omega) np (by omega)
  obtain ⟨r2, g2, K2⟩ := nearest_any (IsF.fi (x := t.2) (by omega)) fd (by omega) np (by omega)
  have N1 : Hid _ := K1
  have N2 : Hid _ := K2
  have HT : Hid _ := fun w => tidy_any g1 g2 w
  have s1 : b.1 * b.1 ≤ gn b := by unfold gn; have := sq_nonneg b.2; omega
  have s2 : b.2 * b.2 ≤ gn b := by unfold gn; have := sq_nonneg b.1; omega
  obtain ⟨p11, q1⟩ := quot_part (n := t.1) bt.1 np nb s1
  obtain ⟨p12, -⟩ := quot_part (n := t.1) bt.1 np nb s2
  obtain ⟨p21, q2⟩ := quot_part (n := t.2) bt.2 np nb s1
  obtain ⟨p22, -⟩ := quot_part (n := t.2) bt.2 np nb s2
  obtain ⟨q, hq⟩ : ∃ q : Gz, q = (near t.1 (gn b), near t.2 (gn b)) := ⟨_, rfl⟩
  have e1 : near t.1 (gn b) = q.1 := by rw [hq]
  have e2 : near t.2 (gn b) = q.2 := by rw [hq]
  rw [e1] at p11 p12 q1 HT
  rw [e2] at p21 p22 q2 HT
  rw [eq, ← hq]
  obtain ⟨x, y, e3, g3, g4⟩ := IsF.cmul (IsF.fi (x := q.1) (by omega)) (IsF.fi (x := q.2) (by omega)) hb.f1 hb.f2 (by omega) (by omega) (by omega) (by omega) (by omega) (by omega)
  have R1 := fun ty w => run_complex_mul (P := Try.prog) (w := w) ty _ _ _ _ x y e3
  obtain ⟨x', y', e4, g5, g6⟩ := IsF.csub ha.f1 ha.f2 g3 g4 (by have := ha.1; omega) (by have := ha.2; omega)
  have R2 := fun ty w => run_complex_sum (P := Try.prog) (w := w) .sub (.inr rfl) ty .f64 _ _ _ _ x' y' e4
  have HR : Hid _ := fun w => tidy_any g5 g6 w
  have eR : gs a (gm q b) = (a.1 - (q.1 * b.1 - q.2 * b.2), a.2 - (q.1 * b.2 + q.2 * b.1)) := rfl
  rw [eR]
  generalize a.1 - (q.1 * b.1 - q.2 * b.2) = S1 at *
  generalize a.2 - (q.1 * b.2 + q.2 * b.1) = S2 at *
  clear bt nb np fd g1 g2 g3 g4 g5 g6 K1 K2 s1 s2 p11 p12 p21 p22 q1 q2 e1 e2 e3 e4 eq eR ht hq ha hb b0
  unfold gv at HC HM HN ⊢
  go_enter Try.func13, Try.ntmps13
  go_wp2_with fail
  refine Calls.mono (HC.out _) ?_
  rintro e w1 ⟨rfl, rfl⟩
  go_wp2_with fail
  refine Calls.mono (HM.out _) ?_
  rintro e w1 ⟨rfl, rfl⟩
  go_wp2_with fail
  refine Calls.mono (HN.out _) ?_
  rintro e w1 ⟨rfl, rfl⟩
  go_wp2_with fail
  refine Calls.mono (N1.out _) ?_
  rintro e w1 ⟨rfl, rfl⟩
  go_wp2_with fail
  refine Calls.mono (N2.out _) ?_
  rintro e w1 ⟨rfl, rfl⟩
  go_wp2_with fail
  refine Calls.mono (HT.out _) ?_
  rintro e w1 ⟨rfl, rfl⟩
  go_wp2_with fail
  refine Calls.mono (HR.out _) ?_
  rintro e w1 ⟨rfl, rfl⟩
  go_wp2
  refine bodyPost_ret (v := .tuple #[.complex .f64 (fi q.1) (fi q.2), .complex .f64 (fi S1) (fi S2), .int .i64 0]) (by simp [results, Try.results13, go_sem]) rfl ⟨rfl, rfl⟩

theorem unit_i (z : Gz) : gm z (0, -1) = (z.2, -z.1) ∧ gm z (-1, 0) = (-z.1, -z.2) ∧ gm z (0, 1) = (-z.2, z.1) := by
  refine ⟨gext ?_ ?_, gext ?_ ?_, gext ?_ ?_⟩ <;> simp only [gm] <;> grind

/-- z turned until it stands upright. -/
theorem upright_any (z : Gz) (w : World) (hz : Wh z) : Calls Try.prog 23 #[gv z] w fun e w' => ∃ u, gn u = 1 ∧ First (gm z u) ∧ e = .returned (gv (gm z u)) ∧ w' = w := by
  have o1 := ford hz.f1 (IsF.fi (x := 0) (by decide))
  have o2 := ford hz.f2 (IsF.fi (x := 0) (by decide))
  rw [fi0] at o1 o2
  have M1 : Hid _ := fun w => mul_wh z (0, -1) w hz ⟨by decide, by decide⟩
  have M2 : Hid _ := fun w => mul_wh z (-1, 0) w hz ⟨by decide, by decide⟩
  have M3 : Hid _ := fun w => mul_wh z (0, 1) w hz ⟨by decide, by decide⟩
  unfold gv at M1 M2 M3 ⊢
  rw [fi0] at M1 M2 M3
  rw [fi1] at M3
  rw [fim1] at M1 M2
  clear hz
  rcases Int.lt_trichotomy z.1 0 with h1 | h1 | h1 <;> rcases Int.lt_trichotomy z.2 0 with h2 | h2 | h2
  · rw [Int.compare_eq_lt.2 h1] at o1
    rw [Int.compare_eq_lt.2 h2] at o2
    have D1 : Hid _ := h1
    have D2 : Hid _ := h2
    clear h1 h2
    go_enter Try.func23, Try.ntmps23
    go_wp2_with fail
    refine Calls.mono (M2.out _) ?_
    rintro e w1 ⟨rfl, rfl⟩
    go_wp2
    go_ret
    have h1 := D1.out
    have h2 := D2.out
    exact ⟨(-1, 0), by decide, by rw [(unit_i z).2.1]; exact .inr ⟨by show 0 < -z.1; omega, by show 0 ≤ -z.2; omega⟩, rfl, rfl⟩
  · rw [Int.compare_eq_lt.2 h1] at o1
    rw [Int.compare_eq_eq.2 h2] at o2
    have D1 : Hid _ := h1
    have D2 : Hid _ := h2
    clear h1 h2
    go_enter Try.func23, Try.ntmps23
    go_wp2_with fail
    refine Calls.mono (M2.out _) ?_
    rintro e w1 ⟨rfl, rfl⟩
    go_wp2
    go_ret
    have h1 := D1.out
    have h2 := D2.out
    exact ⟨(-1, 0), by decide, by rw [(unit_i z).2.1]; exact .inr ⟨by show 0 < -z.1; omega, by show 0 ≤ -z.2; omega⟩, rfl, rfl⟩
  · rw [Int.compare_eq_lt.2 h1] at o1
    rw [Int.compare_eq_gt.2 h2] at o2
    have D1 : Hid _ := h1
    have D2 : Hid _ := h2
    clear h1 h2
    go_enter Try.func23, Try.ntmps23
    go_wp2_with fail
    refine Calls.mono (M1.out _) ?_
    rintro e w1 ⟨rfl, rfl⟩
    go_wp2
    go_ret
    have h1 := D1.out
    have h2 := D2.out
    exact ⟨(0, -1), by decide, by rw [(unit_i z).1]; exact .inr ⟨by show 0 < z.2; omega, by show 0 ≤ -z.1; omega⟩, rfl, rfl⟩
  · rw [Int.compare_eq_eq.2 h1] at o1
    rw [Int.compare_eq_lt.2 h2] at o2
    have D1 : Hid _ := h1
    have D2 : Hid _ := h2
    clear h1 h2
    go_enter Try.func23, Try.ntmps23
    go_wp2_with fail
    refine Calls.mono (M3.out _) ?_
    rintro e w1 ⟨rfl, rfl⟩
    go_wp2
    go_ret
    have h1 := D1.out
    have h2 := D2.out
    exact ⟨(0, 1), by decide, by rw [(unit_i z).2.2]; exact .inr ⟨by show 0 < -z.2; omega, by show 0 ≤ z.1; omega⟩, rfl, rfl⟩
  · rw [Int.compare_eq_eq.2 h1] at o1
    rw [Int.compare_eq_eq.2 h2] at o2
    have D1 : Hid _ := h1
    have D2 : Hid _ := h2
    clear h1 h2
    go_enter Try.func23, Try.ntmps23
    go_wp2
    go_ret
    have h1 := D1.out
    have h2 := D2.out
    exact ⟨(1, 0), by decide, by rw [gm_one]; exact .inl (gext h1 h2), by rw [gm_one]; rfl, rfl⟩
  · rw [Int.compare_eq_eq.2 h1] at o1
    rw [Int.compare_eq_gt.2 h2] at o2
    have D1 : Hid _ := h1
    have D2 : Hid _ := h2
    clear h1 h2
    go_enter Try.func23, Try.ntmps23
    go_wp2_with fail
    refine Calls.mono (M1.out _) ?_
    rintro e w1 ⟨rfl, rfl⟩
    go_wp2
    go_ret
    have h1 := D1.out
    have h2 := D2.out
    exact ⟨(0, -1), by decide, by rw [(unit_i z).1]; exact .inr ⟨by show 0 < z.2; omega, by show 0 ≤ -z.1; omega⟩, rfl, rfl⟩
  · rw [Int.compare_eq_gt.2 h1] at o1
    rw [Int.compare_eq_lt.2 h2] at o2
    have D1 : Hid _ := h1
    have D2 : Hid _ := h2
    clear h1 h2
    go_enter Try.func23, Try.ntmps23
    go_wp2_with fail
    refine Calls.mono (M3.out _) ?_
    rintro e w1 ⟨rfl, rfl⟩
    go_wp2
    go_ret
    have h1 := D1.out
    have h2 := D2.out
    exact ⟨(0, 1), by decide, by rw [(unit_i z).2.2]; exact .inr ⟨by show 0 < -z.2; omega, by show 0 ≤ z.1; omega⟩, rfl, rfl⟩
  · rw [Int.compare_eq_gt.2 h1] at o1
    rw [Int.compare_eq_eq.2 h2] at o2
    have D1 : Hid _ := h1
    have D2 : Hid _ := h2
    clear h1 h2
    go_enter Try.func23, Try.ntmps23
    go_wp2
    go_ret
    have h1 := D1.out
    have h2 := D2.out
    exact ⟨(1, 0), by decide, by rw [gm_one]; exact .inr ⟨by omega, by omega⟩, by rw [gm_one]; rfl, rfl⟩
  · rw [Int.compare_eq_gt.2 h1] at o1
    rw [Int.compare_eq_gt.2 h2] at o2
    have D1 : Hid _ := h1
    have D2 : Hid _ := h2
    clear h1 h2
    go_enter Try.func23, Try.ntmps23
    go_wp2
    go_ret
    have h1 := D1.out
    have h2 := D2.out
    exact ⟨(1, 0), by decide, by rw [gm_one]; exact .inr ⟨by omega, by omega⟩, by rw [gm_one]; rfl, rfl⟩

end Go.Proofs.Ytgkpcjopedleeaa
