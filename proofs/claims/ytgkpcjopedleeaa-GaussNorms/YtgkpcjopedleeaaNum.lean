/- Numbers: which are prime (trial division; Pocklington), and Fermat's little theorem. -/
namespace Go.Proofs.Ytgkpcjopedleeaa

/-- A prime. -/
def Pr (n : Nat) : Prop := 2 ≤ n ∧ ∀ d, d ∣ n → d = 1 ∨ d = n

theorem Pr.cop {p a : Nat} (hp : Pr p) (h : ¬ p ∣ a) : Nat.Coprime p a := by
  rcases hp.2 _ (Nat.gcd_dvd_left p a) with e | e
  · exact e
  · exact absurd (e ▸ Nat.gcd_dvd_right p a) h

theorem Pr.of_mul {p a b : Nat} (hp : Pr p) (h : p ∣ a * b) : p ∣ a ∨ p ∣ b := by
  by_cases ha : p ∣ a
  · exact .inl ha
  · exact .inr ((hp.cop ha).dvd_of_dvd_mul_left h)

theorem Pr.ex : ∀ (n : Nat), 2 ≤ n → ∃ q, Pr q ∧ q ∣ n := by
  intro n
  induction n using Nat.strongRecOn with
  | _ n ih =>
    intro h2
    by_cases hp : Pr n
    · exact ⟨n, hp, Nat.dvd_refl n⟩
    · have : ∃ d, d ∣ n ∧ ¬ (d = 1 ∨ d = n) := by
        apply Classical.byContradiction
        intro hn
        apply hp
        refine ⟨h2, fun d hd => ?_⟩
        apply Classical.byContradiction
        intro hc
        exact hn ⟨d, hd, hc⟩
      obtain ⟨d, hd, hc⟩ := this
      have hle := Nat.le_of_dvd (by omega) hd
      have h0 : d ≠ 0 := by rintro rfl; have := Nat.eq_zero_of_zero_dvd hd; omega
      obtain ⟨q, hq, hqd⟩ := ih d (by omega) (by omega)
      exact ⟨q, hq, Nat.dvd_trans hqd hd⟩

theorem Pr.big {n : Nat} (h2 : 2 ≤ n) (h : ∀ q, Pr q → q ∣ n → n < q * q) : Pr n := by
  refine ⟨h2, fun d hd => ?_⟩
  apply Classical.byContradiction
  intro hc
  obtain ⟨e, rfl⟩ := hd
  have hd0 : d ≠ 0 := by rintro rfl; simp at h2
  have he0 : e ≠ 0 := by rintro rfl; simp at h2
  have hd1 : d ≠ 1 := fun h => hc (.inl h)
  have he1 : e ≠ 1 := by rintro rfl; exact hc (.inr (by simp))
  obtain ⟨q, hq, hqd⟩ := Pr.ex d (by omega)
  obtain ⟨r, hr, hre⟩ := Pr.ex e (by omega)
  have a1 := h q hq (Nat.dvd_mul_right_of_dvd hqd e)
  have a2 := h r hr (Nat.dvd_mul_left_of_dvd hre d)
  have b1 := Nat.le_of_dvd (by omega) hqd
  have b2 := Nat.le_of_dvd (by omega) hre
  rcases Nat.le_total q r with c | c
  · have := Nat.mul_le_mul b1 (Nat.le_trans c b2); have := Nat.mul_le_mul_left q c
    have := Nat.mul_le_mul b1 (Nat.le_trans c b2); omega
  · have := Nat.mul_le_mul_right r c; have := Nat.mul_le_mul (Nat.le_trans c b1) b2; omega

/-- None of the numbers 2 to d + 1 divides n. -/
def td (n : Nat) : Nat → Bool
  | 0 => true
  | d + 1 => Nat.blt 0 (n % (d + 2)) && td n d

theorem td_no {n : Nat} : ∀ {k : Nat}, td n k = true → ∀ d, 2 ≤ d → d ≤ k + 1 → ¬ d ∣ n
  | 0, _, d, h1, h2, _ => by omega
  | k + 1, h, d, h1, h2, hd => by
    simp only [td, Bool.and_eq_true] at h
    by_cases e : d = k + 2
    · subst e
      have : 0 < n % (k + 2) := by simpa [Nat.blt_eq] using h.1
      have := Nat.mod_eq_zero_of_dvd hd
      omega
    · exact td_no h.2 d h1 (by omega) hd

theorem Pr.td {n k : Nat} (h : td n k = true) (h2 : 2 ≤ n) (hk : n < (k + 2) * (k + 2)) : Pr n := by
  refine Pr.big h2 fun q hq hqn => ?_
  have : ¬ q ≤ k + 1 := fun hle => td_no h q hq.1 hle hqn
  have := Nat.mul_le_mul (show k + 2 ≤ q by omega) (show k + 2 ≤ q by omega)
  omega

/-- a^e modulo m. -/
def pm (m a : Nat) : Nat → Nat → Nat
  | 0, _ => 1 % m
  | f + 1, e => (pm m a f (e / 2)) ^ 2 % m * a ^ (e % 2) % m

theorem pm_eq (m a : Nat) : ∀ (f e : Nat), e < 2 ^ f → pm m a f e = a ^ e % m
  | 0, e, h => by
    have : e = 0 := by simpa using h
    subst this; simp [pm]
  | f + 1, e, h => by
    have h' : e / 2 < 2 ^ f := by rw [Nat.pow_succ] at h; omega
    rw [pm, pm_eq m a f _ h', ← Nat.pow_mod, ← Nat.pow_mul, Nat.mod_mul_mod, ← Nat.pow_add]
    congr 2; omega

/-- Pascal's numbers. -/
def ch : Nat → Nat → Nat
  | _, 0 => 1
  | 0, _ + 1 => 0
  | n + 1, k + 1 => ch n k + ch n (k + 1)

theorem ch_zero (n : Nat) : ch n 0 = 1 := by cases n <;> rfl
theorem ch_succ (n k : Nat) : ch (n + 1) (k + 1) = ch n k + ch n (k + 1) := rfl
theorem ch_over : ∀ (n k : Nat), n < k → ch n k = 0
  | 0, 0, h => by omega
  | 0, _ + 1, _ => rfl
  | _ + 1, 0, h => by omega
  | n + 1, k + 1, h => by rw [ch_succ, ch_over n k (by omega), ch_over n (k + 1) (by omega)]
theorem ch_self : ∀ n, ch n n = 1
  | 0 => rfl
  | n + 1 => by rw [ch_succ, ch_self n, ch_over n (n + 1) (by omega)]
theorem ch_mul : ∀ n k, (k + 1) * ch (n + 1) (k + 1) = (n + 1) * ch n k
  | 0, 0 => rfl
  | 0, k + 1 => by rw [ch_succ, ch_over 0 (k + 1) (by omega), ch_over 0 (k + 2) (by omega)]; simp
  | n + 1, 0 => by
    have := ch_mul n 0
    rw [ch_succ, ch_zero]
    rw [ch_zero] at this
    omega
  | n + 1, k + 1 => by
    have h1 := ch_mul n k
    have h2 := ch_mul n (k + 1)
    rw [ch_succ (n + 1) (k + 1), Nat.mul_add, h2]
    have h3 : (k + 1 + 1) * ch (n + 1) (k + 1) = (k + 1) * ch (n + 1) (k + 1) + ch (n + 1) (k + 1) := by
      rw [Nat.add_mul (k + 1) 1, Nat.one_mul]
    rw [h3, h1, Nat.add_mul (n + 1) 1, Nat.one_mul]
    have h4 : (n + 1) * ch (n + 1) (k + 1) = (n + 1) * ch n k + (n + 1) * ch n (k + 1) := by
      rw [ch_succ, Nat.mul_add]
    omega

/-- The first k terms of (a + 1)^n. -/
def bs (n a : Nat) : Nat → Nat
  | 0 => 0
  | k + 1 => bs n a k + ch n k * a ^ k

theorem bs_succ (n a : Nat) : ∀ k, bs (n + 1) a (k + 1) = bs n a (k + 1) + a * bs n a k
  | 0 => by simp [bs, ch_zero]
  | k + 1 => by
    rw [bs, bs_succ n a k, bs, bs, bs, ch_succ, Nat.add_mul, Nat.mul_add a, Nat.pow_succ]
    have : a * (ch n k * a ^ k) = ch n k * (a ^ k * a) := by
      rw [Nat.mul_comm a, Nat.mul_assoc]
    rw [this]; omega

theorem binom (a : Nat) : ∀ n, (a + 1) ^ n = bs n a (n + 1)
  | 0 => by simp [bs, ch_zero]
  | n + 1 => by
    rw [bs_succ, bs, ch_over n (n + 1) (by omega), Nat.zero_mul, Nat.add_zero, ← binom a n, Nat.pow_succ,
      Nat.mul_add, Nat.mul_one, Nat.mul_comm a]
    omega

theorem bs_pr {p : Nat} (hp : Pr p) (a : Nat) : ∀ k, k < p → bs p a (k + 1) % p = 1 % p
  | 0, _ => by simp [bs, ch_zero]
  | k + 1, h => by
    have ih := bs_pr hp a k (by omega)
    have : p ∣ ch p (k + 1) := by
      obtain ⟨n, rfl⟩ : ∃ n, p = n + 1 := ⟨p - 1, by omega⟩
      have hm := ch_mul n k
      have hd : (n + 1) ∣ (k + 1) * ch (n + 1) (k + 1) := hm ▸ Nat.dvd_mul_right _ _
      rcases hp.of_mul hd with h1 | h1
      · have := Nat.le_of_dvd (by omega) h1; omega
      · exact h1
    obtain ⟨c, hc⟩ := this
    rw [bs, hc, Nat.mul_assoc, Nat.add_mul_mod_self_left, ih]

theorem dream {p : Nat} (hp : Pr p) (a : Nat) : (a + 1) ^ p % p = (a ^ p + 1) % p := by
  have h2 := hp.1
  rw [binom, bs, ch_self, Nat.one_mul]
  have := bs_pr hp a (p - 1) (by omega)
  rw [show p - 1 + 1 = p by omega] at this
  rw [Nat.add_mod, this, ← Nat.add_mod, Nat.add_comm]

theorem fermat' {p : Nat} (hp : Pr p) : ∀ a, a ^ p % p = a % p
  | 0 => by rw [Nat.zero_pow (by have := hp.1; omega)]
  | a + 1 => by rw [dream hp, Nat.add_mod, fermat' hp a, ← Nat.add_mod]

theorem dvd_sub_of_mod {p a b : Nat} (h : a % p = b % p) : p ∣ a - b := by
  have := Nat.sub_mod_eq_zero_of_mod_eq h
  exact Nat.dvd_of_mod_eq_zero this

theorem mod_of_dvd_sub {p a b : Nat} (h : p ∣ a - b) (hle : b ≤ a) : a % p = b % p := by
  obtain ⟨c, hc⟩ := h
  rw [show a = b + p * c by omega, Nat.add_mul_mod_self_left]

theorem fermat {p a : Nat} (hp : Pr p) (ha : ¬ p ∣ a) : a ^ (p - 1) % p = 1 := by
  have h2 := hp.1
  have h0 : 0 < a := Nat.pos_of_ne_zero (by rintro rfl; exact ha (Nat.dvd_zero p))
  have hpos : 1 ≤ a ^ (p - 1) := Nat.pow_pos h0
  have e : a ^ p = a * a ^ (p - 1) := by
    conv => lhs; rw [show p = (p - 1) + 1 by omega, Nat.pow_succ, Nat.mul_comm]
  have hd : p ∣ a * (a ^ (p - 1) - 1) := by
    rw [Nat.mul_sub, ← e, Nat.mul_one]
    exact dvd_sub_of_mod (fermat' hp a)
  rcases hp.of_mul hd with h | h
  · exact absurd h ha
  · rw [mod_of_dvd_sub h hpos, Nat.mod_eq_of_lt (by omega)]

theorem pow_one_mod {q a k : Nat} (h : a ^ k % q = 1 % q) (l : Nat) : a ^ (k * l) % q = 1 % q := by
  rw [Nat.pow_mul, Nat.pow_mod, h, ← Nat.pow_mod, Nat.one_pow]

theorem pow_gcd (q a : Nat) : ∀ k l, a ^ k % q = 1 % q → a ^ l % q = 1 % q → a ^ (Nat.gcd k l) % q = 1 % q := by
  intro k l
  induction k, l using Nat.gcd.induction with
  | H0 n => intro _ h; simpa using h
  | H1 m n hm ih =>
    intro h1 h2
    rw [Nat.gcd_rec]
    refine ih ?_ h1
    have h3 : a ^ n = a ^ (m * (n / m)) * a ^ (n % m) := by rw [← Nat.pow_add, Nat.div_add_mod]
    rw [h3, Nat.mul_mod, pow_one_mod h1, ← Nat.mul_mod, Nat.one_mul] at h2
    exact h2

theorem pock1 {n q p e a : Nat} (hq : Pr q) (hp : Pr p) (hF : p ^ e ∣ n - 1)
    (h1 : a ^ (n - 1) % q = 1 % q) (h2 : ¬ a ^ ((n - 1) / p) % q = 1 % q) (hn : 2 ≤ n) : p ^ e ∣ q - 1 := by
  have hqa : ¬ q ∣ a := by
    intro h
    have : q ∣ a ^ (n - 1) := Nat.dvd_trans h (by
      conv => lhs; rw [← Nat.pow_one a]
      exact Nat.pow_dvd_pow a (by omega))
    have := Nat.mod_eq_zero_of_dvd this
    rw [this, Nat.mod_eq_of_lt (by have := hq.1; omega)] at h1
    omega
  have hf : a ^ (q - 1) % q = 1 % q := by
    rw [fermat hq hqa, Nat.mod_eq_of_lt (by have := hq.1; omega)]
  have hg := pow_gcd q a _ _ h1 hf
  obtain ⟨h, hh⟩ := Nat.gcd_dvd_left (n - 1) (q - 1)
  have hph : ¬ p ∣ h := by
    rintro ⟨c, rfl⟩
    apply h2
    have hp0 : 0 < p := by have := hp.1; omega
    have : (n - 1) / p = Nat.gcd (n - 1) (q - 1) * c := by
      apply Nat.div_eq_of_eq_mul_left hp0
      conv => lhs; rw [hh]
      rw [Nat.mul_assoc, Nat.mul_comm p c]
    rw [this]
    exact pow_one_mod hg c
  have hc : Nat.Coprime (p ^ e) h := Nat.Coprime.pow_left e (hp.cop hph)
  have : p ^ e ∣ Nat.gcd (n - 1) (q - 1) := hc.dvd_of_dvd_mul_right (hh ▸ hF)
  exact Nat.dvd_trans this (Nat.gcd_dvd_right _ _)

/-- One prime power's part of a certificate: of p^e and a base a. -/
def cert (n f p e a : Nat) : Bool :=
  Nat.beq ((n - 1) % p ^ e) 0 && Nat.beq (pm n a f (n - 1)) 1 && Nat.beq (Nat.gcd (pm n a f ((n - 1) / p) + (n - 1)) n) 1

theorem cert_dvd {n f p e a q : Nat} (h : cert n f p e a = true) (hf : n < 2 ^ f) (hn : 2 ≤ n) (hp : Pr p) (hq : Pr q) (hqn : q ∣ n) : p ^ e ∣ q - 1 := by
  simp only [cert, Bool.and_eq_true, Nat.beq_eq] at h
  obtain ⟨⟨h1, h3⟩, h4⟩ := h
  rw [pm_eq _ _ _ _ (by omega)] at h3
  rw [pm_eq _ _ _ _ (by have := Nat.div_le_self (n - 1) p; omega)] at h4
  have hq2 := hq.1
  refine pock1 hq hp (Nat.dvd_of_mod_eq_zero h1) (a := a) ?_ ?_ hn
  · rw [← Nat.mod_mod_of_dvd _ hqn, h3]
  · intro hc
    have hd : q ∣ a ^ ((n - 1) / p) % n + (n - 1) := by
      apply Nat.dvd_of_mod_eq_zero
      obtain ⟨c, hc'⟩ := hqn
      have e1 : (a ^ ((n - 1) / p) % n) % q = 1 % q := by
        rw [Nat.mod_mod_of_dvd _ ⟨c, hc'⟩, hc]
      rw [Nat.add_mod, e1, ← Nat.add_mod, show 1 + (n - 1) = n by omega, hc', Nat.mul_mod_right]
    have := Nat.dvd_gcd hd hqn
    rw [h4] at this
    have := Nat.le_of_dvd (by omega) this
    omega

theorem Pr.of_F {n F : Nat} (hn : 2 ≤ n) (hF : n ≤ F * F) (h : ∀ q, Pr q → q ∣ n → F ∣ q - 1) : Pr n := by
  refine Pr.big hn fun q hq hqn => ?_
  have h2 := hq.1
  have := Nat.le_of_dvd (by omega) (h q hq hqn)
  have := Nat.mul_le_mul (show F + 1 ≤ q by omega) (show F + 1 ≤ q by omega)
  have : (F + 1) * (F + 1) = F * F + 2 * F + 1 := by rw [Nat.add_mul, Nat.mul_add]; omega
  omega

end Go.Proofs.Ytgkpcjopedleeaa
