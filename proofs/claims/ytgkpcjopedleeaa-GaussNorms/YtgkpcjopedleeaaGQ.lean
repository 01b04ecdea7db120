/- Package gauss as landed: May, Mul, Add, Conj, Norm. -/
import Derived.Test.YtgkpcjopedleeaaGP
namespace Go.Proofs.Ytgkpcjopedleeaa
open Go.RowKit
set_option linter.unusedVariables false

theorem fi_2p20 : fi 1048576 = 4697254411347427328 := by decide +kernel
theorem fi_m2p20 : fi (-1048576) = 13920626448202203136 := by decide +kernel
theorem fi_2p31 : fi 2147483648 = 4746794007248502784 := by decide +kernel

theorem ford {u v : Nat} {x y : Int} (hu : IsF u x) (hv : IsF v y) : FloatKind.f64.format.order u v = some (compare x y) := IsF.order hu hv

theorem le_cmp {x y : Int} (h : x ≤ y) : compare x y = .lt ∨ compare x y = .eq := by
  rcases Int.lt_trichotomy x y with h1 | h1 | h1
  · exact .inl (Int.compare_eq_lt.2 h1)
  · exact .inr (Int.compare_eq_eq.2 h1)
  · omega

theorem mayPart_go (u : Nat) {o2 o3 : Ordering} (h2 : o2 = .lt ∨ o2 = .eq) (h3 : o3 = .lt ∨ o3 = .eq) (z1 : (FloatKind.f64.format.order u 0 == some .eq) = false)
    (z2 : FloatKind.f64.format.order 13920626448202203136 u = some o2) (z3 : FloatKind.f64.format.order u 4697254411347427328 = some o3) (z4 : FloatKind.f64.format.order u u = some .eq)
    (HT : Hid (∀ w, Calls Try.prog 31 #[.float .f64 u] w fun e w' => e = .returned (.float .f64 u) ∧ w' = w)) (w : World) : Calls Try.prog 24 #[.float .f64 u] w fun e w' => e = .returned (.bool true) ∧ w' = w := by
  rcases h2 with rfl | rfl <;> rcases h3 with rfl | rfl <;>
  · go_enter Try.func24, Try.ntmps24
    go_wp2_with fail
    refine Calls.mono (HT.out _) ?_
    rintro e w1 ⟨rfl, rfl⟩
    go_wp2
    go_ret
    exact ⟨rfl, rfl⟩

theorem mayPart_zero (w : World) : Calls Try.prog 24 #[.float .f64 0] w fun e w' => e = .returned (.bool true) ∧ w' = w := by
  have HT : Hid _ := fun w => trunc_any (IsF.fi (x := 0) (by decide)) w
  rw [fi0] at HT
  have HS : Hid _ := sign_zero
  have z1 : FloatKind.f64.format.order 0 0 = some .eq := by decide +kernel
  have z2 : FloatKind.f64.format.order 13920626448202203136 0 = some .lt := by decide +kernel
  have z3 : FloatKind.f64.format.order 0 4697254411347427328 = some .lt := by decide +kernel
  go_enter Try.func24, Try.ntmps24
  go_wp2_with fail
  refine Calls.mono (HS.out _) ?_
  rintro e w1 ⟨rfl, rfl⟩
  go_wp2_with fail
  refine Calls.mono (HT.out _) ?_
  rintro e w1 ⟨rfl, rfl⟩
  go_wp2
  go_ret
  exact ⟨rfl, rfl⟩

theorem mayPart_any (x : Int) (hx : x.natAbs ≤ 1048576) (w : World) : Calls Try.prog 24 #[.float .f64 (fi x)] w fun e w' => e = .returned (.bool true) ∧ w' = w := by
  have hF : IsF (fi x) x := IsF.fi (by omega)
  by_cases h0 : x = 0
  · subst h0
    rw [fi0]
    exact mayPart_zero w
  · have z1 := eqz' hF
    have z2 := ford (IsF.fi (x := -1048576) (by decide)) hF
    have z3 := ford hF (IsF.fi (x := 1048576) (by decide))
    have z4 := ford hF hF
    rw [fi_m2p20] at z2
    rw [fi_2p20] at z3
    rw [decide_eq_false h0] at z1
    rw [Int.compare_eq_eq.2 rfl] at z4
    exact mayPart_go (fi x) (le_cmp (by omega)) (le_cmp (by omega)) z1 z2 z3 z4 (fun w => trunc_any hF w) w

theorem may_any (a : Gz) (w : World) (ha : Wh a) : Calls Try.prog 17 #[gv a] w fun e w' => e = .returned (.bool true) ∧ w' = w := by
  have H1 : Hid _ := fun w => mayPart_any a.1 ha.1 w
  have H2 : Hid _ := fun w => mayPart_any a.2 ha.2 w
  clear ha
  unfold gv
  go_enter Try.func17, Try.ntmps17
  go_wp2_with fail
  refine Calls.mono (H1.out _) ?_
  rintro e w1 ⟨rfl, rfl⟩
  go_wp2_with fail
  refine Calls.mono (H2.out _) ?_
  rintro e w1 ⟨rfl, rfl⟩
  go_wp2
  go_ret
  exact ⟨rfl, rfl⟩

theorem may_half (w : World) : Calls Try.prog 17 #[.complex .f64 4602678819172646912 0] w fun e w' => e = .returned (.bool false) ∧ w' = w := by
  have HM : Hid (∀ w, Calls Try.prog 24 #[.float .f64 4602678819172646912] w fun e w' => e = .returned (.bool false) ∧ w' = w) := by
    intro w
    have HT : Hid (∀ w, Calls Try.prog 31 #[.float .f64 4602678819172646912] w fun e w' => e = .returned (.float .f64 0) ∧ w' = w) := by
      intro w
      have r := fun w => run_trunc (x := 4602678819172646912) (s := false) (K := 4503599627370496) (l := -53) (by decide +kernel) w
      rw [show Ieee.double.write ((Ieee.Datum.number false 4503599627370496 (-53)).integral .zero) = 0 by decide +kernel] at r
      go_enter Try.func31, Try.ntmps31
      go_wp2
      go_ret
      exact ⟨rfl, rfl⟩
    have z1 : FloatKind.f64.format.order 4602678819172646912 0 = some .gt := by decide +kernel
    have z2 : FloatKind.f64.format.order 13920626448202203136 4602678819172646912 = some .lt := by decide +kernel
    have z3 : FloatKind.f64.format.order 4602678819172646912 4697254411347427328 = some .lt := by decide +kernel
    go_enter Try.func24, Try.ntmps24
    go_wp2_with fail
    refine Calls.mono (HT.out _) ?_
    rintro e w1 ⟨rfl, rfl⟩
    go_wp2
    go_ret
    exact ⟨rfl, rfl⟩
  go_enter Try.func17, Try.ntmps17
  go_wp2_with fail
  refine Calls.mono (HM.out _) ?_
  rintro e w1 ⟨rfl, rfl⟩
  go_wp2
  go_ret
  exact ⟨rfl, rfl⟩

/-- The product of two. -/
theorem mul_any {p q r t : Nat} {a b : Gz} (h1 : IsF p a.1) (h2 : IsF q a.2) (h3 : IsF r b.1) (h4 : IsF t b.2)
    (b1 : (a.1 * b.1).natAbs < 2 ^ 52) (b2 : (a.2 * b.2).natAbs < 2 ^ 52) (b3 : (a.1 * b.2).natAbs < 2 ^ 52) (b4 : (a.2 * b.1).natAbs < 2 ^ 52) (w : World) :
    Calls Try.prog 11 #[.complex .f64 p q, .complex .f64 r t] w fun e w' => e = .returned (.complex .f64 (fi (gm a b).1) (fi (gm a b).2)) ∧ w' = w := by
  obtain ⟨x, y, e1, f1, f2⟩ := IsF.cmul h1 h2 h3 h4 (by omega) (by omega) (by omega) (by omega) (by omega) (by omega)
  have H : Hid _ := fun w => tidy_any f1 f2 w
  have R := fun ty w => run_complex_mul (P := Try.prog) (w := w) ty p q r t x y e1
  clear h1 h2 h3 h4 b1 b2 b3 b4 f1 f2 e1
  go_enter Try.func11, Try.ntmps11
  go_wp2_with fail
  refine Calls.mono (H.out _) ?_
  rintro e w1 ⟨rfl, rfl⟩
  go_wp2
  go_ret
  exact ⟨rfl, rfl⟩

theorem add_any {p q r t : Nat} {a b : Gz} (h1 : IsF p a.1) (h2 : IsF q a.2) (h3 : IsF r b.1) (h4 : IsF t b.2)
    (b1 : (a.1 + b.1).natAbs < 2 ^ 53) (b2 : (a.2 + b.2).natAbs < 2 ^ 53) (w : World) :
    Calls Try.prog 14 #[.complex .f64 p q, .complex .f64 r t] w fun e w' => e = .returned (.complex .f64 (fi (ga a b).1) (fi (ga a b).2)) ∧ w' = w := by
  obtain ⟨x, y, e1, f1, f2⟩ := IsF.cadd h1 h2 h3 h4 b1 b2
  have H : Hid _ := fun w => tidy_any f1 f2 w
  have R := fun ty w => run_complex_sum (P := Try.prog) (w := w) .add (.inl rfl) ty .f64 p q r t x y e1
  clear h1 h2 h3 h4 b1 b2 f1 f2 e1
  go_enter Try.func14, Try.ntmps14
  go_wp2_with fail
  refine Calls.mono (H.out _) ?_
  rintro e w1 ⟨rfl, rfl⟩
  go_wp2
  go_ret
  exact ⟨rfl, rfl⟩

theorem Wh.f1 {a : Gz} (h : Wh a) : IsF (fi a.1) a.1 := IsF.fi (by have := h.1; omega)
theorem Wh.f2 {a : Gz} (h : Wh a) : IsF (fi a.2) a.2 := IsF.fi (by have := h.2; omega)

theorem prod_bd {x y : Int} {m n : Nat} (hx : x.natAbs ≤ m) (hy : y.natAbs ≤ n) : (x * y).natAbs ≤ m * n := by
  rw [Int.natAbs_mul]; exact Nat.mul_le_mul hx hy

theorem mul_wh (a b : Gz) (w : World) (ha : Wh a) (hb : Wh b) : Calls Try.prog 11 #[gv a, gv b] w fun e w' => e = .returned (gv (gm a b)) ∧ w' = w :=
  mul_any ha.f1 ha.f2 hb.f1 hb.f2 (by have := prod_bd ha.1 hb.1; omega) (by have := prod_bd ha.2 hb.2; omega) (by have := prod_bd ha.1 hb.2; omega) (by have := prod_bd ha.2 hb.1; omega) w
theorem add_wh (a b : Gz) (w : World) (ha : Wh a) (hb : Wh b) : Calls Try.prog 14 #[gv a, gv b] w fun e w' => e = .returned (gv (ga a b)) ∧ w' = w :=
  add_any ha.f1 ha.f2 hb.f1 hb.f2 (by have := ha.1; have := hb.1; omega) (by have := ha.2; have := hb.2; omega) w

theorem xor_top {r : Nat} (h : r < 2 ^ 63) : r ^^^ 2 ^ 63 = 2 ^ 63 + r := by
  apply Nat.eq_of_testBit_eq
  intro i
  rw [Nat.testBit_xor, Nat.testBit_two_pow]
  rcases Nat.lt_trichotomy i 63 with h1 | h1 | h1
  · rw [Nat.testBit_two_pow_add_gt h1, decide_eq_false (by omega), Bool.xor_false]
  · subst h1
    rw [Nat.testBit_two_pow_add_eq, decide_eq_true rfl, Bool.xor_true]
  · have p1 : 2 ^ 64 ≤ 2 ^ i := Nat.pow_le_pow_right (by decide) (by omega)
    rw [Nat.testBit_lt_two_pow (Nat.lt_of_lt_of_le (by omega) p1), Nat.testBit_lt_two_pow (x := 2 ^ 63 + r) (Nat.lt_of_lt_of_le (by omega) p1), decide_eq_false (by omega)]
    rfl

/-- A float with the other sign. -/
theorem IsF.opp {u : Nat} {x : Int} (hu : IsF u x) : ∃ v, (∀ w : World, Sem.run Try.prog (Op.unary UnOp.neg (.float .f64 u)) w = .ok (.float .f64 v) w) ∧ IsF v (-x) := by
  refine ⟨u ^^^ 2 ^ 63, fun w => rfl, ?_⟩
  obtain ⟨s, a, rfl, rfl, ha⟩ := hu
  refine ⟨!s, a, ?_, sg_not s a, ha⟩
  obtain ⟨r, h1, h2, h3⟩ := fw_rung s a ha
  obtain ⟨r', h1', h2', h3'⟩ := fw_rung (!s) a ha
  obtain rfl : r = r' := h3.symm.trans h3'
  rw [h2, h2']
  unfold Ieee.Format.word
  rw [signWeight_eq]
  cases s
  · simp only [Bool.false_eq_true, if_false, Bool.not_false, if_true]
    exact xor_top h1
  · simp only [Bool.false_eq_true, if_false, Bool.not_true, if_true]
    rw [← xor_top h1, Nat.xor_assoc, Nat.xor_self, Nat.xor_zero]

theorem conj_any (a : Gz) (w : World) (ha : Wh a) : Calls Try.prog 12 #[gv a] w fun e w' => e = .returned (gv (gc a)) ∧ w' = w := by
  obtain ⟨v, R, hv⟩ := IsF.opp ha.f2
  have H : Hid _ := fun w => tidy_any ha.f1 hv w
  clear ha hv
  unfold gv gc
  go_enter Try.func12, Try.ntmps12
  go_wp2_with fail
  refine Calls.mono (H.out _) ?_
  rintro e w1 ⟨rfl, rfl⟩
  go_wp2
  go_ret
  exact ⟨rfl, rfl⟩

theorem norm_any (a : Gz) (w : World) (ha : Wh a) : Calls Try.prog 10 #[gv a] w fun e w' => e = .returned (.int .i64 (gn a)) ∧ w' = w := by
  have H1 : Hid _ := fun w => abs_any ha.f1 w
  have H2 : Hid _ := fun w => abs_any ha.f2 w
  obtain ⟨l1, l2⟩ := ha
  obtain ⟨m, hm⟩ : ∃ m, m = a.1.natAbs := ⟨_, rfl⟩
  obtain ⟨n, hn⟩ : ∃ n, n = a.2.natAbs := ⟨_, rfl⟩
  rw [← hm] at H1 l1
  rw [← hn] at H2 l2
  have fm : IsF (fi (m : Int)) (m : Int) := IsF.fi (by omega)
  have fn : IsF (fi (n : Int)) (n : Int) := IsF.fi (by omega)
  have z1 := ford fm (IsF.fi (x := 2147483648) (by decide))
  have z2 := ford fn (IsF.fi (x := 2147483648) (by decide))
  rw [fi_2p31, Int.compare_eq_lt.2 (by omega)] at z1 z2
  have c1 := fun w => run_convert_float_int (P := Try.prog) (w := w) 32 3 .f64 .i64 (fi (m : Int)) m (by kernel_rfl) (by kernel_rfl) fm.toInt
  have c2 := fun w => run_convert_float_int (P := Try.prog) (w := w) 32 3 .f64 .i64 (fi (n : Int)) n (by kernel_rfl) (by kernel_rfl) fn.toInt
  have bm := Nat.mul_le_mul l1 l1
  have bn := Nat.mul_le_mul l2 l2
  have eg : gn a = ((m * m : Nat) : Int) + ((n * n : Nat) : Int) := by
    rw [hm, hn]
    unfold gn
    rw [Int.natCast_mul, Int.natCast_mul, Int.natAbs_mul_self' a.1, Int.natAbs_mul_self' a.2]
  rw [eg]
  obtain ⟨M, hM⟩ : ∃ M, M = m * m := ⟨_, rfl⟩
  obtain ⟨N, hN⟩ : ∃ N, N = n * n := ⟨_, rfl⟩
  rw [← hM] at bm
  rw [← hN] at bn
  have g1 : IntKind.i64.wrap ((m : Int) * (m : Int)) = (M : Int) := by rw [← Int.natCast_mul, ← hM, IntKind.wrap_i64]; omega
  have g2 : IntKind.i64.wrap ((n : Int) * (n : Int)) = (N : Int) := by rw [← Int.natCast_mul, ← hN, IntKind.wrap_i64]; omega
  have g3 : IntKind.i64.wrap ((M : Int) + (N : Int)) = (M : Int) + (N : Int) := by rw [IntKind.wrap_i64]; omega
  rw [← hM, ← hN]
  clear fm fn l1 l2 bm bn eg hM hN hm hn
  unfold gv
  go_enter Try.func10, Try.ntmps10
  go_wp2_with fail
  refine Calls.mono (H1.out _) ?_
  rintro e w1 ⟨rfl, rfl⟩
  go_wp2_with fail
  refine Calls.mono (H2.out _) ?_
  rintro e w1 ⟨rfl, rfl⟩
  go_wp2
  go_ret
  exact ⟨rfl, rfl⟩
end Go.Proofs.Ytgkpcjopedleeaa
