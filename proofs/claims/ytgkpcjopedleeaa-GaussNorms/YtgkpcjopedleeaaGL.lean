/- Package gauss as landed: power, rootOfMinusOne, prime. -/
import Derived.Test.YtgkpcjopedleeaaGO
import Derived.Test.YtgkpcjopedleeaaGS
namespace Go.Proofs.Ytgkpcjopedleeaa
open Go.RowKit
set_option linter.unusedVariables false

theorem tdiv_nat (p d : Nat) : Int.tdiv (p : Int) (d : Int) = ((p / d : Nat) : Int) := by rw [Int.tdiv_eq_ediv_of_nonneg (by omega)]; omega
theorem wrap_nat {x : Nat} (h : x < 2 ^ 62) : IntKind.i64.wrap (x : Int) = (x : Int) := by rw [IntKind.wrap_i64]; omega
theorem wrap_mul {x y p : Nat} (hx : x < p) (hy : y < p) (hp : p < 1000000) : IntKind.i64.wrap ((x : Int) * (y : Int)) = ((x * y : Nat) : Int) := by
  rw [← Int.natCast_mul]
  refine wrap_nat ?_
  have := Nat.mul_le_mul (show x ≤ 1000000 by omega) (show y ≤ 1000000 by omega)
  omega

theorem pow_even (p o c n : Nat) : o * (c * c % p) ^ n % p = o * c ^ (2 * n) % p := by
  rw [Nat.mul_mod, ← Nat.pow_mod, ← Nat.mul_mod, ← Nat.pow_two, ← Nat.pow_mul]
theorem pow_odd (p o c n : Nat) : (o * c % p) * (c * c % p) ^ n % p = o * c ^ (2 * n + 1) % p := by
  rw [pow_even, Nat.mod_mul_mod, Nat.mul_assoc, Nat.pow_succ, Nat.mul_comm c]

theorem power_any (c n p : Nat) (w : World) (hp : 2 ≤ p) (p1 : p < 1000000) (hc : c < p) (hn : n < 1000000) : Calls Try.prog 25 #[.int .i64 c, .int .i64 n, .int .i64 p] w fun e w' => e = .returned (.int .i64 ((c ^ n % p : Nat) : Int)) ∧ w' = w := by
  obtain ⟨A, hA⟩ : ∃ A, A = c ^ n % p := ⟨_, rfl⟩
  rw [← hA]
  go_enter Try.func25, Try.ntmps25
  go_wp2
  go_loopw [0, 1, 7] (fun vc vn vo wr => ∃ c' n' o' : Nat, vc = .int .i64 c' ∧ vn = .int .i64 n' ∧ vo = .int .i64 o' ∧ c' < p ∧ n' < 1000000 ∧ o' < p ∧ o' * c' ^ n' % p = A ∧ wr = w) (fun _ vn _ _ => (intOf vn).toNat)
  case atStart => exact ⟨c, n, 1, rfl, rfl, rfl, hc, hn, by omega, by rw [Nat.one_mul]; exact hA.symm, rfl⟩
  case round =>
    clear hc hn hA
    obtain ⟨c', n', o', rfl, rfl, rfl, hc, hn, ho, hA, rfl⟩ := hrel
    by_cases h0 : n' = 0
    · subst h0
      rw [Nat.pow_zero, Nat.mul_one, Nat.mod_eq_of_lt ho] at hA
      subst hA
      clear hn hc ho hp p1
      go_wp2
      go_ret
      exact ⟨rfl, rfl⟩
    · have l0 : (n' : Int) > 0 := by omega
      have p0 : ¬ (p : Int) = 0 := by omega
      have d2 : Int.tmod (n' : Int) 2 = ((n' % 2 : Nat) : Int) := tmod_nat n' 2
      have d3 : Int.tdiv (n' : Int) 2 = ((n' / 2 : Nat) : Int) := tdiv_nat n' 2
      have m1 := wrap_mul ho hc p1
      have m2 := wrap_mul hc hc p1
      have t1 := tmod_nat (o' * c') p
      have t2 := tmod_nat (c' * c') p
      have b1 : o' * c' % p < p := Nat.mod_lt _ (by omega)
      have b2 : c' * c' % p < p := Nat.mod_lt _ (by omega)
      have B1 : Hid _ := b1
      have B2 : Hid _ := b2
      have B3 : Hid _ := ho
      have H0 : Hid _ := h0
      have HA : Hid _ := hA
      have HN : Hid _ := hn
      obtain ⟨r, hr⟩ : ∃ r, r = n' % 2 := ⟨_, rfl⟩
      have E := Nat.div_add_mod n' 2
      have hr1 : r = 0 ∨ r = 1 := by omega
      have w3 : IntKind.i64.wrap ((n' / 2 : Nat) : Int) = ((n' / 2 : Nat) : Int) := wrap_nat (by omega)
      rw [← hr] at d2 E
      obtain ⟨H, hH⟩ : ∃ H, H = n' / 2 := ⟨_, rfl⟩
      have HL : Hid (H < n') := by show _ < _; omega
      rw [← hH] at d3 E w3
      have HE : Hid _ := E
      clear b1 b2 ho h0 hA hn hr hH E hc hp p1
      obtain ⟨X, hX⟩ : ∃ X, X = o' * c' := ⟨_, rfl⟩
      rw [← hX] at m1 t1 B1
      have HX : Hid _ := hX
      clear hX
      rcases hr1 with rfl | rfl
      · go_wp2
        refine ⟨⟨c' * c' % p, H, o', by simp [Int.natCast_emod], rfl, rfl, B2.out, by have := HL.out; have := HN.out; omega, B3.out, ?_, trivial⟩, by simp only [intOf]; have := HL.out; omega⟩
        rw [pow_even, ← HA.out, ← HE.out]
        rfl
      · go_wp2
        refine ⟨⟨c' * c' % p, H, X % p, by simp [Int.natCast_emod], rfl, by simp [Int.natCast_emod], B2.out, by have := HL.out; have := HN.out; omega, B1.out, ?_, trivial⟩, by simp only [intOf]; have := HL.out; omega⟩
        rw [HX.out, pow_odd, ← HA.out, ← HE.out]

theorem root_any (p : Nat) (w : World) (hp : 5 ≤ p) (p1 : p < 1000000) (hx : ∃ c, c < p ∧ (c ^ ((p - 1) / 4) % p) * (c ^ ((p - 1) / 4) % p) % p = p - 1) :
    Calls Try.prog 19 #[.int .i64 p] w fun e w' => ∃ x : Nat, e = .returned (.int .i64 x) ∧ x < p ∧ x * x % p = p - 1 ∧ w' = w := by
  have KP : Hid (∀ (c : Nat) (w : World), c < p → Calls Try.prog 25 #[.int .i64 c, .int .i64 (((p - 1) / 4 : Nat) : Int), .int .i64 p] w fun e w' => e = .returned (.int .i64 ((c ^ ((p - 1) / 4) % p : Nat) : Int)) ∧ w' = w) := fun c w h => power_any c ((p - 1) / 4) p w (by omega) p1 h (by omega)
  have BX : Hid (∀ c : Nat, c ^ ((p - 1) / 4) % p < p) := fun c => Nat.mod_lt _ (by omega)
  have d1 : IntKind.i64.wrap ((p : Int) - 1) = ((p - 1 : Nat) : Int) := by rw [IntKind.wrap_i64]; omega
  have d2 : Int.tdiv ((p - 1 : Nat) : Int) 4 = (((p - 1) / 4 : Nat) : Int) := tdiv_nat (p - 1) 4
  have d3 : IntKind.i64.wrap (((p - 1) / 4 : Nat) : Int) = (((p - 1) / 4 : Nat) : Int) := wrap_nat (by omega)
  have d4 : ¬ (p : Int) = 0 := by omega
  have HX : Hid _ := hx
  have P1 : Hid _ := p1
  have P2 : Hid _ := hp
  clear hx p1 hp
  obtain ⟨N, hN⟩ : ∃ N, N = (p - 1) / 4 := ⟨_, rfl⟩
  rw [← hN] at KP BX HX d2 d3
  clear hN
  go_enter Try.func19, Try.ntmps19
  go_wp2
  go_loopw [6] (fun i wr => ∃ k : Nat, k ≤ p ∧ i = .int .i64 k ∧ (∀ c, c < k → (c ^ N % p) * (c ^ N % p) % p ≠ p - 1) ∧ wr = w) (fun i _ => p - (intOf i).toNat)
  case atStart => exact ⟨0, Nat.zero_le _, rfl, fun c h => by omega, rfl⟩
  case round =>
    obtain ⟨k, hk, rfl, hno, rfl⟩ := hrel
    have hlt : k < p := by
      rcases Nat.lt_or_ge k p with h | h
      · exact h
      · obtain ⟨c, c0, c1⟩ := HX.out
        exact absurd c1 (hno c (by omega))
    have l1 : (k : Int) < (p : Int) := by omega
    have HK : Hid _ := fun w => KP.out k w hlt
    have HN : Hid _ := hno
    have HL : Hid _ := hlt
    clear hno hk hlt
    go_wp2_with fail
    refine Calls.mono (HK.out _) ?_
    rintro e w1 ⟨rfl, rfl⟩
    have xl := BX.out k
    have HN1 := HN.out
    obtain ⟨x, hx⟩ : ∃ x, x = k ^ N % p := ⟨_, rfl⟩
    have KX : Hid (x * x % p ≠ p - 1 → ∀ c, c < k + 1 → (c ^ N % p) * (c ^ N % p) % p ≠ p - 1) := by
      intro h c hc
      rcases (show c < k ∨ c = k by omega) with h1 | h1
      · exact HN1 c h1
      · rw [h1, ← hx]; exact h
    rw [← hx] at xl ⊢
    have XL : Hid _ := xl
    have m1 := wrap_mul xl xl P1.out
    have t1 := tmod_nat (x * x) p
    obtain ⟨y, hy⟩ : ∃ y, y = x * x % p := ⟨_, rfl⟩
    have HY : Hid _ := hy
    have HQ := (show 5 ≤ p from P2.out)
    rw [← hy] at t1
    generalize x * x = X at m1 t1
    clear hx hy xl HN1
    have b1 : IntKind.i64.wrap ((k : Int) + 1) = (k : Int) + 1 := by have := HL.out; have := P1.out; rw [IntKind.wrap_i64]; omega
    by_cases h : y = p - 1
    · have l2 : (y : Int) = ((p - 1 : Nat) : Int) := by omega
      have HH : Hid _ := h
      clear h HQ
      go_wp2
      go_ret
      exact ⟨x, rfl, XL.out, by rw [← HY.out]; exact HH.out, rfl⟩
    · have l2 : ¬ (y : Int) = ((p - 1 : Nat) : Int) := by omega
      have HH : Hid _ := h
      clear h HQ
      go_wp2
      go_roundw
      case rel => exact ⟨k + 1, HL.out, by go_num, KX.out (by rw [← HY.out]; exact HH.out), trivial⟩
      case measure => simp [intOf]; have := HL.out; omega

theorem prime_any (p : Nat) (w : World) (hp : 5 ≤ p) (p1 : p < 1000000) (h3 : p % 4 = 1) : Calls Try.prog 18 #[.int .i64 p] w fun e w' => (Composed p ∧ e = .returned (.bool false) ∨ ¬ Composed p ∧ e = .returned (.bool true)) ∧ w' = w := by
  go_enter Try.func18, Try.ntmps18
  go_wp2
  have H3 : Hid (∀ d, p % d = 0 → d % 2 = 1) := by
    intro d h
    obtain ⟨k, hk⟩ := Nat.dvd_of_mod_eq_zero h
    rcases Nat.mod_two_eq_zero_or_one d with e | e
    · exfalso
      obtain ⟨j, hj⟩ := Nat.dvd_of_mod_eq_zero e
      rw [hj, Nat.mul_assoc] at hk
      omega
    · exact e
  have H5 : Hid _ := hp
  clear h3 hp
  go_loopw [3] (fun i wr => ∃ d : Nat, 3 ≤ d ∧ d % 2 = 1 ∧ d ≤ 1003 ∧ i = .int .i64 d ∧ (∀ e, 2 ≤ e → e < d → p % e ≠ 0) ∧ wr = w) (fun i _ => 2000 - (intOf i).toNat)
  case atStart => exact ⟨3, by omega, by omega, by omega, rfl, fun e h h' he => by have := H3.out e he; omega, rfl⟩
  case round =>
    obtain ⟨d, hd2, hd1, hd, rfl, hno, rfl⟩ := hrel
    have hs : d * d ≤ 1003 * 1003 := Nat.mul_le_mul hd hd
    have d1 : IntKind.i64.wrap ((d : Int) * (d : Int)) = ((d * d : Nat) : Int) := by rw [← Int.natCast_mul]; exact wrap_nat (by omega)
    have d2 : ¬ (d : Int) = 0 := by omega
    have d3 := tmod_nat p d
    have HN : Hid _ := hno
    obtain ⟨q, hq⟩ : ∃ q, q = d * d := ⟨_, rfl⟩
    have HQ : Hid _ := hq
    rw [← hq] at d1 hs
    clear hno hq
    by_cases hle : q ≤ p
    · have l1 : (q : Int) ≤ (p : Int) := by omega
      by_cases hz : p % d = 0
      · have HC : Hid (Composed p) := ⟨d, by omega, by rw [← HQ.out]; exact hle, hz⟩
        rw [hz] at d3
        clear hz
        go_wp2
        go_ret
        exact ⟨.inl ⟨HC.out, rfl⟩, rfl⟩
      · have l2 : ¬ ((p % d : Nat) : Int) = 0 := by omega
        have HZ : Hid _ := hz
        generalize p % d = r at d3 l2
        clear hz
        have d4 : IntKind.i64.wrap ((d : Int) + 2) = (d : Int) + 2 := wrap_small (by omega) (by omega)
        have HD : Hid (d + 2 ≤ 1003) := by
          have := HQ.out
          have : d * d ≤ 1000 * 1000 := by omega
          have := sq_mono this
          show _ ≤ _
          omega
        have H2 : Hid _ := hd2
        have H1 : Hid _ := hd1
        clear p1 hle hd hd2 HQ hs hd1
        go_wp2
        go_roundw
        case rel => exact ⟨d + 2, by have := H2.out; omega, by have := H1.out; omega, HD.out, by go_num, fun e e1 e2 => by rcases (show e < d ∨ e = d ∨ e = d + 1 by omega) with h | h | h; exact HN.out e e1 h; rw [h]; exact HZ.out; intro he; have := H3.out e he; have := H1.out; omega, trivial⟩
        case measure => simp [intOf]; have := HD.out; omega
    · have l1 : ¬ (q : Int) ≤ (p : Int) := by omega
      have HC : Hid (¬ Composed p) := by
        rintro ⟨e, e2, e3, e4⟩
        refine HN.out e e2 ?_ e4
        rcases Nat.lt_or_ge e d with h | h
        · exact h
        · have := Nat.mul_le_mul h h
          have := HQ.out
          omega
      have l5 : (p : Int) > 1 := by have := H5.out; omega
      clear HN HQ d2 d3 hd hd2 hd1 p1 hle hs
      go_wp2
      go_ret
      exact ⟨.inr ⟨HC.out, by simp⟩, rfl⟩
end Go.Proofs.Ytgkpcjopedleeaa
