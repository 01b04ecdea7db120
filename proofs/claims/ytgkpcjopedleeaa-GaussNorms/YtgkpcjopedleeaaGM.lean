/- Package gauss as landed: Two; and that it answers as it should (GaOk). -/
import Derived.Test.YtgkpcjopedleeaaGL
import Derived.Test.YtgkpcjopedleeaaGV2
namespace Go.Proofs.Ytgkpcjopedleeaa
open Go.RowKit
set_option linter.unusedVariables false

set_option maxRecDepth 20000 in
theorem two_arg (p : Int) (w : World) (h : p < 5 ∨ 1000000 ≤ p ∨ Int.tmod p 4 ≠ 1) : Calls Try.prog 7 #[.int .i64 p] w fun e w' => e = .returned (.tuple #[.int .i64 0, .int .i64 0, .int .i64 1]) ∧ w' = w := by
  by_cases c1 : p < 0
  · clear h
    go_enter Try.func7, Try.ntmps7
    go_wp2
    refine bodyPost_ret (v := .tuple #[.int .i64 0, .int .i64 0, .int .i64 1]) (by simp [results, Try.results7, go_sem]) rfl ⟨rfl, rfl⟩
  · by_cases c2 : p ≥ 1000000
    · clear h
      go_enter Try.func7, Try.ntmps7
      go_wp2
      refine bodyPost_ret (v := .tuple #[.int .i64 0, .int .i64 0, .int .i64 1]) (by simp [results, Try.results7, go_sem]) rfl ⟨rfl, rfl⟩
    · obtain ⟨n, rfl⟩ := Int.eq_ofNat_of_zero_le (show 0 ≤ p by omega)
      by_cases c3 : n = 1
      · subst c3
        clear h c1 c2
        have HP : Hid (∀ w, Calls Try.prog 18 #[.int .i64 1] w fun e w' => e = .returned (.bool false) ∧ w' = w) := by
          intro w
          go_enter Try.func18, Try.ntmps18
          go_wp2
          go_loopw [3] (fun i wr => i = .int .i64 3 ∧ wr = w) (fun i _ => 0)
          case atStart => exact ⟨rfl, rfl⟩
          case round =>
            obtain ⟨rfl, rfl⟩ := hrel
            go_wp2
            go_ret
            exact ⟨rfl, rfl⟩
        go_enter Try.func7, Try.ntmps7
        go_wp2_with fail
        refine Calls.mono (HP.out _) ?_
        rintro e w1 ⟨rfl, rfl⟩
        go_wp2
        refine bodyPost_ret (v := .tuple #[.int .i64 0, .int .i64 0, .int .i64 1]) (by simp [results, Try.results7, go_sem]) rfl ⟨rfl, rfl⟩
      · have c5 : ¬ Int.tmod (n : Int) 4 = 1 := by
          rcases h with h | h | h
          · rw [Int.tmod_eq_emod_of_nonneg (by omega)]; omega
          · omega
          · exact h
        have c4 : ¬ (n : Int) % 4 = 1 := by rw [Int.tmod_eq_emod_of_nonneg (by omega)] at c5; exact c5
        have c6 : (n : Int) % 4 = 1 → False := c4
        clear h
        go_enter Try.func7, Try.ntmps7
        go_wp2
        refine bodyPost_ret (v := .tuple #[.int .i64 0, .int .i64 0, .int .i64 1]) (by simp [results, Try.results7, go_sem]) rfl ⟨rfl, rfl⟩

/-- The two numbers out of what is shared. -/
theorem two_of {p x : Nat} (hc : ¬ Composed p) (h1 : 5 ≤ p) (xx : x * x % p = p - 1) {g : Gz} (hg : IsGcd g (p, 0) (x, 1)) (hf : First g) : ∃ a b : Nat, g = (↑a, ↑b) ∧ 0 < a ∧ 0 < b ∧ a * a + b * b = p := by
  have hp := pr_of (by omega) hc
  have hd : (p : Int) ∣ (x : Int) * x + 1 := by
    have h : p ∣ x * x + 1 := by
      refine Nat.dvd_of_mod_eq_zero ?_
      rw [Nat.add_mod, xx, Nat.mod_eq_of_lt (show 1 < p by omega), show p - 1 + 1 = p by omega, Nat.mod_self]
    have := Int.natCast_dvd_natCast.2 h
    rwa [Int.natCast_add, Int.natCast_mul] at this
  have hn := gcd_norm hp hd hg
  rcases hf with rfl | ⟨g1, g2⟩
  · exfalso
    have : gn (0, 0) = 0 := rfl
    omega
  · obtain ⟨u, v⟩ := g
    obtain ⟨a, rfl⟩ := Int.eq_ofNat_of_zero_le (show 0 ≤ u from Int.le_of_lt g1)
    obtain ⟨b, rfl⟩ := Int.eq_ofNat_of_zero_le (show 0 ≤ v from g2)
    have e : a * a + b * b = p := by
      have : ((a * a + b * b : Nat) : Int) = p := by rw [Int.natCast_add, Int.natCast_mul, Int.natCast_mul]; exact hn
      exact Int.ofNat.inj this
    refine ⟨a, b, rfl, by simpa using g1, ?_, e⟩
    rcases Nat.eq_zero_or_pos b with h | h
    · subst h
      exact absurd (by rw [← e]; omega) (fun h : a * a = p => not_square hp h)
    · exact h
theorem le_sq {a : Nat} : a ≤ a * a := by
  rcases Nat.eq_zero_or_pos a with h | h
  · omega
  · exact Nat.le_mul_of_pos_left a h

set_option maxRecDepth 20000 in
set_option maxHeartbeats 1600000 in
theorem two_in (p : Nat) (w : World) (h1 : 5 ≤ p) (h2 : p < 1000000) (h3 : p % 4 = 1) : Calls Try.prog 7 #[.int .i64 p] w fun e w' => TwoIs p e ∧ w' = w := by
  have c1 : ¬ (p : Int) < 0 := by omega
  have c2 : ¬ (p : Int) ≥ 1000000 := by omega
  have c3 : Int.tmod (p : Int) 4 = 1 := by rw [Int.tmod_eq_emod_of_nonneg (by omega)]; omega
  have HP : Hid _ := fun w => prime_any p w h1 h2 h3
  by_cases hc : Composed p
  · have HC : Hid _ := hc
    clear hc h1 h2 h3
    go_enter Try.func7, Try.ntmps7
    go_wp2_with fail
    refine Calls.mono (HP.out _) ?_
    rintro e w1 ⟨h, rfl⟩
    obtain rfl : e = .returned (.bool false) := by
      rcases h with h | h
      · exact h.2
      · exact absurd HC.out h.1
    clear h
    go_wp2
    refine bodyPost_ret (v := .tuple #[.int .i64 0, .int .i64 0, .int .i64 1]) (by simp [results, Try.results7, go_sem]) rfl ⟨.inl ⟨HC.out, rfl⟩, rfl⟩
  · have HC : Hid _ := hc
    have hp := pr_of (by omega) hc
    have HR : Hid _ := fun w => root_any p w h1 h2 (nonres hp (k := (p - 1) / 4) (by omega) (by omega))
    have G1 : Hid (∀ (x : Nat) (w : World), x < p → Calls Try.prog 16 #[.complex .f64 (fi p) 0, .complex .f64 (fi x) 4607182418800017408] w fun e w' => ∃ g, e = .returned (gv g) ∧ IsGcd g (p, 0) (x, 1) ∧ First g ∧ w' = w) := by
      intro x w hx
      have := gcd_any (p, 0) (x, 1) w ⟨by show (p : Int).natAbs ≤ _; omega, by show (0 : Int).natAbs ≤ _; decide⟩ ⟨by show (x : Int).natAbs ≤ _; omega, by show (1 : Int).natAbs ≤ _; decide⟩
      unfold gv at this
      rw [fi0, fi1] at this
      exact this
    have H2 : Hid _ := h2
    have H1 : Hid _ := h1
    clear hc h1 h2 h3 hp
    go_enter Try.func7, Try.ntmps7
    go_wp2_with fail
    refine Calls.mono (HP.out _) ?_
    rintro e w1 ⟨h, rfl⟩
    obtain rfl : e = .returned (.bool true) := by
      rcases h with h | h
      · exact absurd h.1 HC.out
      · exact h.2
    clear h
    go_wp2_with fail
    refine Calls.mono (HR.out _) ?_
    rintro e w1 ⟨x, rfl, xl, xx, rfl⟩
    have XL : Hid _ := xl
    have XX : Hid _ := xx
    have f1 : floatOfInt .f64 (p : Int) = fi p := rfl
    have f2 : floatOfInt .f64 (x : Int) = fi x := rfl
    clear xl xx
    go_wp2_with fail
    refine Calls.mono (G1.out x _ XL.out) ?_
    rintro e w2 ⟨g, rfl, hg, hf, rfl⟩
    obtain ⟨a, b, rfl, a0, b0, hab⟩ := two_of HC.out H1.out XX.out hg hf
    have la := le_sq (a := a)
    have lb := le_sq (a := b)
    have hp2 := H2.out
    have c4 := fun w => run_convert_float_int (P := Try.prog) (w := w) 32 3 .f64 .i64 (fi (a : Int)) a (by kernel_rfl) (by kernel_rfl) (IsF.fi (x := (a : Int)) (by omega)).toInt
    have c5 := fun w => run_convert_float_int (P := Try.prog) (w := w) 32 3 .f64 .i64 (fi (b : Int)) b (by kernel_rfl) (by kernel_rfl) (IsF.fi (x := (b : Int)) (by omega)).toInt
    have HA : Hid _ := a0
    have HB : Hid _ := b0
    have HAB : Hid _ := hab
    clear hg hf a0 b0 hab la lb hp2 XL XX G1 f1 f2 HP HR
    unfold gv
    dsimp only
    obtain ⟨u, hu⟩ : ∃ u, u = fi (a : Int) := ⟨_, rfl⟩
    obtain ⟨v, hv⟩ : ∃ v, v = fi (b : Int) := ⟨_, rfl⟩
    rw [← hu] at c4 ⊢
    rw [← hv] at c5 ⊢
    clear hu hv c1 c2 c3
    rcases Nat.lt_or_ge b a with h | h
    · have l1 : (b : Int) < (a : Int) := by omega
      have HL : Hid _ := h
      clear h
      go_wp2
      refine bodyPost_ret (v := .tuple #[.int .i64 b, .int .i64 a, .int .i64 0]) (by simp [results, Try.results7, go_sem]; try omega) rfl ⟨?_, rfl⟩
      exact twoIs_of HC.out (by have := H1.out; omega) HB.out (Nat.le_of_lt HL.out) (by rw [Nat.add_comm]; exact HAB.out)
    · have l1 : ¬ (b : Int) < (a : Int) := by omega
      have HL : Hid _ := h
      clear h
      go_wp2
      · refine bodyPost_ret (v := .tuple #[.int .i64 a, .int .i64 b, .int .i64 0]) (by simp [results, Try.results7, go_sem]; try omega) rfl ⟨?_, rfl⟩
        exact twoIs_of HC.out (by have := H1.out; omega) HA.out HL.out HAB.out
      · obtain rfl : a = b := by have := HL.out; omega
        refine bodyPost_ret (v := .tuple #[.int .i64 a, .int .i64 a, .int .i64 0]) (by simp [results, Try.results7, go_sem]; try omega) rfl ⟨?_, rfl⟩
        exact twoIs_of HC.out (by have := H1.out; omega) HA.out HL.out HAB.out

theorem Calls.belowOf {f : FuncId} {args : Array Value} {w : World} {Q : Ending → Prop} (h : Calls Try.prog f args w fun e w' => Q e ∧ w' = w) : Calls Try.prog f args w fun e w' => Q e ∧ Below w.heap.size w w' :=
  Calls.mono h fun e w' ⟨h1, h2⟩ => ⟨h1, by rw [h2]; exact Below.refl _ _⟩

/-- Package gauss answers as it should. -/
theorem gaOk : GaOk where
  may a w h := Calls.belowOf (may_any a w h)
  mayHalf w := Calls.belowOf (may_half w)
  norm a w h := Calls.belowOf (norm_any a w h)
  mul a b w h k := Calls.belowOf (mul_wh a b w h k)
  add a b w h k := Calls.belowOf (add_wh a b w h k)
  conj a w h := Calls.belowOf (conj_any a w h)
  div0 a w h := Calls.belowOf (div_zero a w)
  div a b w h k b0 := Calls.belowOf (div_any a b w h k b0)
  gcd a b w h k := Calls.mono (gcd_any a b w h k) fun e w' ⟨g, h1, h2, h3, h4⟩ => ⟨g, h1, h2, h3, by rw [h4]; exact Below.refl _ _⟩
  turn l back w h0 h1 h2 h3 := turn_any l back w h0 h1 h2 h3
  twoArg p w h := Calls.belowOf (two_arg p w h)
  two p w h1 h2 h3 := Calls.belowOf (two_in p w h1 h2 h3)
end Go.Proofs.Ytgkpcjopedleeaa
