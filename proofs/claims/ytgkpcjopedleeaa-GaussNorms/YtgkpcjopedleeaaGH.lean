/- Floats: the quotient of two whole numbers, made whole downwards; the sign's bit. No program is named here. -/
import Derived.Test.YtgkpcjopedleeaaGI
namespace Go.Proofs.Ytgkpcjopedleeaa

theorem cut_down (s : Bool) (n d : Nat) : Ieee.Toward.down.cut s n d = n / 2 ^ d + (s && n % 2 ^ d != 0).toNat := by
  unfold Ieee.Toward.cut
  dsimp only
  rw [Nat.one_shiftLeft]
  by_cases h : d ≤ n.log2 + 2
  · rw [Nat.min_eq_left h]
  · rw [Nat.min_eq_right (by omega)]
    have h1 : n < 2 ^ (n.log2 + 2) := Nat.lt_of_lt_of_le Nat.lt_log2_self (Nat.pow_le_pow_right (by decide) (by omega))
    have h2 : n < 2 ^ d := Nat.lt_of_lt_of_le h1 (Nat.pow_le_pow_right (by decide) (by omega))
    rw [Nat.div_eq_of_lt h1, Nat.div_eq_of_lt h2, Nat.mod_eq_of_lt h1, Nat.mod_eq_of_lt h2]

/-- What is rounded lies between the same two whole numbers. (P = 4 P' units are dropped, R of what is kept are one.) -/
theorem kept_core {a b k r Q t P' R low rest up : Nat} (ha : a < 2 ^ 50) (hP : 0 < P') (hR : 0 < R)
    (ek : a = k * b + r) (hr : r < b) (q1 : Q * b ≤ a * (R * (2 * P'))) (q2 : a * (R * (2 * P')) < (Q + 1) * b)
    (t1 : t ≤ 1) (tz : Q * b = a * (R * (2 * P')) → t = 0) (em : 2 * Q + t = 4 * P' * low + rest) (hrest : rest < 4 * P') (hL : 2 ^ 52 * (4 * P') ≤ 2 * Q + t)
    (hup : up ≤ 1) (u1 : up = 1 → 4 * P' ≤ 2 * rest) (u0 : up = 0 → 2 * rest ≤ 4 * P') :
    k * R ≤ low + up ∧ low + up < (k + 1) * R ∧ (r = 0 → low + up = k * R) ∧ (r ≠ 0 → k * R < low + up) := by
  have hb : 0 < b := by omega
  -- the facts on Q
  have f1 : k * (R * (2 * P')) ≤ Q := by
    have : k * (R * (2 * P')) * b < (Q + 1) * b := by
      refine Nat.lt_of_le_of_lt ?_ q2
      rw [show k * (R * (2 * P')) * b = (k * b) * (R * (2 * P')) by grind]
      exact Nat.mul_le_mul_right _ (by omega)
    have := Nat.lt_of_mul_lt_mul_right this
    omega
  have f2 : Q < (k + 1) * (R * (2 * P')) := by
    have h : a < (k + 1) * b := by rw [Nat.add_mul]; omega
    have hp : 0 < R * (2 * P') := Nat.mul_pos hR (by omega)
    have : Q * b < ((k + 1) * (R * (2 * P'))) * b := by
      refine Nat.lt_of_le_of_lt q1 ?_
      rw [show (k + 1) * (R * (2 * P')) * b = ((k + 1) * b) * (R * (2 * P')) by grind]
      exact Nat.mul_lt_mul_of_pos_right h hp
    exact Nat.lt_of_mul_lt_mul_right this
  have f3 : 2 ^ 52 * (2 * P') ≤ Q := by omega
  have f4 : 2 ^ 52 * b ≤ a * R := by
    have h1 := Nat.mul_le_mul_right b f3
    have h2 : (2 * P') * (2 ^ 52 * b) ≤ (2 * P') * (a * R) := by
      rw [show (2 * P') * (2 ^ 52 * b) = 2 ^ 52 * (2 * P') * b by grind, show (2 * P') * (a * R) = a * (R * (2 * P')) by grind]
      exact Nat.le_trans h1 q1
    exact Nat.le_of_mul_le_mul_left h2 (by omega)
  -- low
  have g1 : k * R ≤ low := by
    have h : 4 * P' * (k * R) ≤ 2 * Q + t := by
      rw [show 4 * P' * (k * R) = 2 * (k * (R * (2 * P'))) by grind]; omega
    have h2 : 4 * P' * (k * R) < 4 * P' * (low + 1) := by rw [Nat.mul_add]; omega
    have := Nat.lt_of_mul_lt_mul_left h2
    omega
  have g2 : low < (k + 1) * R := by
    have h : 2 * Q + t < 4 * P' * ((k + 1) * R) := by
      rw [show 4 * P' * ((k + 1) * R) = 2 * ((k + 1) * (R * (2 * P'))) by grind]; omega
    have h2 : 4 * P' * low < 4 * P' * ((k + 1) * R) := by omega
    exact Nat.lt_of_mul_lt_mul_left h2
  refine ⟨by omega, ?_, ?_, ?_⟩
  · rcases (show up = 0 ∨ up = 1 by omega) with hu | hu
    · omega
    · rcases Nat.lt_or_ge (low + up) ((k + 1) * R) with h | h
      · exact h
      · exfalso
        have el : low + 1 = (k + 1) * R := by omega
        have hh := u1 hu
        -- 4 P' (low + 1) - 2 P' ≤ 2 Q + t
        have e1 : 4 * P' * (low + 1) ≤ 2 * Q + t + 2 * P' := by rw [Nat.mul_add]; omega
        rw [el, show 4 * P' * ((k + 1) * R) = 2 * ((k + 1) * (R * (2 * P'))) by grind] at e1
        have e2 : (k + 1) * (R * (2 * P')) ≤ Q + P' := by omega
        have e3 := Nat.mul_le_mul_right b e2
        have e4 : (a + 1) * (R * (2 * P')) ≤ (k + 1) * (R * (2 * P')) * b := by
          rw [show (k + 1) * (R * (2 * P')) * b = ((k + 1) * b) * (R * (2 * P')) by grind]
          refine Nat.mul_le_mul_right _ ?_
          rw [Nat.add_mul]; omega
        rw [Nat.add_mul Q P' b] at e3
        rw [Nat.add_mul a 1] at e4
        have e5 : P' * (2 * R) ≤ P' * b := by
          rw [show P' * (2 * R) = 1 * (R * (2 * P')) by grind]
          omega
        have e6 := Nat.le_of_mul_le_mul_left e5 hP
        have e7 : R * 2 ^ 53 ≤ R * a := by
          have : 2 ^ 52 * (2 * R) ≤ 2 ^ 52 * b := Nat.mul_le_mul_left _ e6
          rw [Nat.mul_comm R a]
          omega
        have := Nat.le_of_mul_le_mul_left e7 hR
        omega
  · intro h0
    subst h0
    have hq : Q = k * (R * (2 * P')) := by
      have : Q * b ≤ (k * (R * (2 * P'))) * b := by
        rw [show k * (R * (2 * P')) * b = (k * b) * (R * (2 * P')) by grind]
        rw [Nat.add_zero] at ek
        rw [← ek]; exact q1
      have := Nat.le_of_mul_le_mul_right this hb
      omega
    have ht : t = 0 := tz (by
      rw [hq, show k * (R * (2 * P')) * b = (k * b) * (R * (2 * P')) by grind]
      rw [Nat.add_zero] at ek
      rw [← ek])
    rw [ht, hq, Nat.add_zero, show 2 * (k * (R * (2 * P'))) = 4 * P' * (k * R) by grind] at em
    have hlow : low = k * R := by
      have h2 : 4 * P' * low < 4 * P' * (k * R + 1) := by rw [Nat.mul_add]; omega
      have := Nat.lt_of_mul_lt_mul_left h2
      omega
    rw [hlow] at em
    have : rest = 0 := by omega
    rcases (show up = 0 ∨ up = 1 by omega) with hu | hu
    · omega
    · have := u1 hu; omega
  · intro h0
    rcases Nat.lt_or_ge (k * R) (low + up) with h | h
    · exact h
    · exfalso
      have hu : up = 0 := by omega
      have el : low = k * R := by omega
      have hh := u0 hu
      rw [el, show 4 * P' * (k * R) = 2 * (k * (R * (2 * P'))) by grind] at em
      have e2 : Q ≤ k * (R * (2 * P')) + P' := by omega
      have e3 : (Q + 1) * b ≤ (k * (R * (2 * P')) + P' + 1) * b := Nat.mul_le_mul_right _ (by omega)
      have e4 : (k * b + 1) * (R * (2 * P')) ≤ a * (R * (2 * P')) := Nat.mul_le_mul_right _ (by omega)
      rw [show (k * (R * (2 * P')) + P' + 1) * b = (k * b) * (R * (2 * P')) + (P' + 1) * b by grind] at e3
      rw [Nat.add_mul] at e4
      have e5 : P' * (2 * R) < P' * (2 * b) := by
        have : (P' + 1) * b ≤ (2 * P') * b := Nat.mul_le_mul_right _ (by omega)
        rw [show P' * (2 * R) = 1 * (R * (2 * P')) by grind, show P' * (2 * b) = 2 * P' * b by grind]
        omega
      have e6 := Nat.lt_of_mul_lt_mul_left e5
      have e7 : b * 2 ^ 52 ≤ b * a := by
        have : a * R ≤ a * b := Nat.mul_le_mul_left _ (by omega)
        rw [Nat.mul_comm b a]; omega
      have := Nat.le_of_mul_le_mul_left e7 hb
      omega

/-- A whole number's word is read as it, the place told. -/
theorem read_at (s : Bool) (n : Nat) (h0 : n ≠ 0) (h1 : n < 2 ^ 53) : Ieee.double.read (fw s n) = .number s (n * 2 ^ (52 - n.log2)) (-((52 - n.log2 : Nat) : Int)) := by
  obtain ⟨k, hk⟩ := read_whole s n h1
  rw [hk]
  have hb := top_bd h0 h1
  have hl := log2_le h0 h1
  rw [fw_pos s n h0 h1] at hk
  unfold Ieee.Format.read at hk
  have hr : rungOf n < 2 ^ 63 := by
    unfold rungOf
    generalize n * 2 ^ (52 - n.log2) = t at hb
    generalize n.log2 = l at hl
    omega
  obtain ⟨e1, e2⟩ := read_word s (rungOf n) hr
  dsimp only at hk
  rw [e1, e2, binade_eq, infRung_eq, leastPlace_eq] at hk
  have c1 : ¬ rungOf n < 2 ^ 52 := by
    unfold rungOf
    generalize n * 2 ^ (52 - n.log2) = t at hb
    generalize n.log2 = l at hl
    omega
  have c2 : rungOf n < 2047 * 2 ^ 52 := by
    unfold rungOf
    generalize n * 2 ^ (52 - n.log2) = t at hb
    generalize n.log2 = l at hl
    omega
  have c4 : rungOf n / 2 ^ 52 - 1 = n.log2 + 1022 := by
    unfold rungOf
    generalize n * 2 ^ (52 - n.log2) = t at hb
    generalize n.log2 = l at hl
    omega
  rw [if_neg c1, if_pos c2, c4] at hk
  have hp := (Ieee.Datum.number.inj hk).2.2
  have hk2 : k = 52 - n.log2 := by clear hk; omega
  rw [hk2]

theorem log2_top {m : Nat} (h1 : 2 ^ 52 ≤ m) (h2 : m < 2 ^ 53) : m.log2 = 52 := (Nat.log2_eq_iff (by omega)).2 ⟨h1, h2⟩

/-- The rung of something kept is read back. -/
theorem read_kept (s : Bool) (c kept : Nat) (hc : c < 2000) (h1 : 2 ^ 52 ≤ kept) (h2 : kept ≤ 2 ^ 53) :
    Ieee.double.read (Ieee.double.word s (c * 2 ^ 52 + kept)) = (if kept < 2 ^ 53 then .number s kept ((c : Int) - 1074) else .number s (2 ^ 52) ((c : Int) - 1073)) := by
  unfold Ieee.Format.read
  obtain ⟨e1, e2⟩ := read_word s (c * 2 ^ 52 + kept) (by omega)
  dsimp only
  rw [e1, e2, binade_eq, infRung_eq, leastPlace_eq, if_neg (by omega), if_pos (by omega)]
  by_cases h : kept < 2 ^ 53
  · rw [if_pos h, show 2 ^ 52 + (c * 2 ^ 52 + kept) % 2 ^ 52 = kept by omega, show (c * 2 ^ 52 + kept) / 2 ^ 52 - 1 = c by omega, show (-1074 : Int) + (c : Int) = (c : Int) - 1074 by omega]
  · rw [if_neg h, show 2 ^ 52 + (c * 2 ^ 52 + kept) % 2 ^ 52 = 2 ^ 52 by omega, show (c * 2 ^ 52 + kept) / 2 ^ 52 - 1 = c + 1 by omega, show (-1074 : Int) + ((c + 1 : Nat) : Int) = (c : Int) - 1073 by omega]

/-- a / b, then made whole downwards. -/
theorem div_floor (s : Bool) (a b : Nat) (a0 : a ≠ 0) (ha : a < 2 ^ 50) (b0 : b ≠ 0) (hb : b < 2 ^ 53) :
    ∃ r K l, floatBits .quo .f64 (fw s a) (fw false b) = some r ∧ Ieee.double.read r = .number s K l ∧ (Ieee.Datum.number s K l).integral .down = .number s (a / b + (s && a % b != 0).toNat) 0 := by
  have ra := read_at s a a0 (by omega)
  have rb := read_at false b b0 hb
  have ta := top_bd a0 (show a < 2 ^ 53 by omega)
  have tb := top_bd b0 hb
  have la : a.log2 ≤ 50 := by
    have := (Nat.log2_lt a0 (k := 50)).2 ha
    omega
  have lb := log2_le b0 hb
  have em : a * 2 ^ (52 - a.log2) * 2 ^ 54 = (a * 2 ^ (54 + b.log2 - a.log2)) * 2 ^ (52 - b.log2) := by
    rw [Nat.mul_assoc, Nat.mul_assoc, ← Nat.pow_add, ← Nat.pow_add]
    congr 2
    omega
  have pj : 0 < 2 ^ (52 - b.log2) := Nat.two_pow_pos _
  obtain ⟨Q, hQ⟩ : ∃ Q, Q = a * 2 ^ (54 + b.log2 - a.log2) / b := ⟨_, rfl⟩
  obtain ⟨t, ht⟩ : ∃ t, t = (a * 2 ^ (54 + b.log2 - a.log2) % b != 0).toNat := ⟨_, rfl⟩
  have e1 : a * 2 ^ (52 - a.log2) * 2 ^ 54 / (b * 2 ^ (52 - b.log2)) = Q := by
    rw [em, Nat.mul_div_mul_right _ _ pj, hQ]
  have e2 : (a * 2 ^ (52 - a.log2) * 2 ^ 54 % (b * 2 ^ (52 - b.log2)) != 0).toNat = t := by
    rw [em, Nat.mul_mod_mul_right, ht]
    congr 1
    rw [bne, bne]
    congr 1
    rw [Bool.eq_iff_iff, beq_iff_eq, beq_iff_eq]
    constructor
    · intro h
      rcases Nat.mul_eq_zero.1 h with h | h
      · exact h
      · omega
    · intro h; rw [h, Nat.zero_mul]
  have t1 : t ≤ 1 := by rw [ht]; exact Bool.toNat_le _
  have bp : 0 < b := Nat.pos_of_ne_zero b0
  have q1 : Q * b ≤ a * 2 ^ (54 + b.log2 - a.log2) := by rw [hQ]; exact Nat.div_mul_le_self _ _
  have q2 : a * 2 ^ (54 + b.log2 - a.log2) < (Q + 1) * b := by
    rw [hQ, Nat.mul_comm (_ + 1)]
    exact Nat.lt_mul_div_succ _ bp
  have tz : Q * b = a * 2 ^ (54 + b.log2 - a.log2) → t = 0 := by
    intro h
    have hm := Nat.div_add_mod (a * 2 ^ (54 + b.log2 - a.log2)) b
    rw [← hQ, Nat.mul_comm b Q, h] at hm
    rw [ht, show a * 2 ^ (54 + b.log2 - a.log2) % b = 0 by omega]
    rfl
  -- how great Q is
  have Qlo : 2 ^ 53 ≤ Q := by
    rw [← e1, Nat.le_div_iff_mul_le (Nat.mul_pos bp pj)]
    omega
  have Qhi : Q < 2 ^ 55 := by
    rw [← e1, Nat.div_lt_iff_lt_mul (Nat.mul_pos bp pj)]
    omega
  obtain ⟨mag, hmag⟩ : ∃ mag, mag = 2 * Q + t := ⟨_, rfl⟩
  have m0 : mag ≠ 0 := by omega
  obtain ⟨dr, hdr, hL⟩ : ∃ dr, (dr = 2 ∨ dr = 3) ∧ mag.log2 = dr + 52 := by
    rcases Nat.lt_or_ge mag (2 ^ 55) with h | h
    · exact ⟨2, .inl rfl, (Nat.log2_eq_iff m0).2 ⟨by omega, by omega⟩⟩
    · exact ⟨3, .inr rfl, (Nat.log2_eq_iff m0).2 ⟨by omega, by omega⟩⟩
  have hL1 : 2 ^ 52 * 2 ^ dr ≤ mag := by
    have := Nat.log2_self_le m0
    rw [hL, Nat.pow_add] at this
    rw [Nat.mul_comm]; exact this
  have hL2 : mag < 2 ^ 53 * 2 ^ dr := by
    have := @Nat.lt_log2_self mag
    rw [hL, show dr + 52 + 1 = dr + 53 by omega, Nat.pow_add] at this
    rw [Nat.mul_comm]; exact this
  obtain ⟨D, hD⟩ : ∃ D, D + dr = 55 + b.log2 - a.log2 := ⟨55 + b.log2 - a.log2 - dr, by omega⟩
  obtain ⟨up, hup⟩ : ∃ up, up = (decide (2 ^ dr < 2 * (mag % 2 ^ dr)) || (2 ^ dr == 2 * (mag % 2 ^ dr) && mag / 2 ^ dr % 2 == 1)).toNat := ⟨_, rfl⟩
  obtain ⟨kept, hkept⟩ : ∃ kept, kept = mag / 2 ^ dr + up := ⟨_, rfl⟩
  have hcut : Ieee.Toward.even.cut s mag dr = kept := by
    unfold Ieee.Toward.cut
    dsimp only
    rw [hL, Nat.min_eq_left (by omega), Nat.one_shiftLeft, hkept, hup]
  have up1 : up ≤ 1 := by rw [hup]; exact Bool.toNat_le _
  have dm := Nat.div_add_mod mag (2 ^ dr)
  have ml := Nat.mod_lt mag (Nat.two_pow_pos dr)
  -- the core
  obtain ⟨P', hP', pP, E⟩ : ∃ P', 2 ^ dr = 4 * P' ∧ 0 < P' ∧ 2 ^ (54 + b.log2 - a.log2) = 2 ^ D * (2 * P') := by
    refine ⟨2 ^ (dr - 2), ?_, Nat.two_pow_pos _, ?_⟩
    · rcases hdr with rfl | rfl <;> rfl
    · rw [show 54 + b.log2 - a.log2 = D + (1 + (dr - 2)) by omega, Nat.pow_add, Nat.pow_add]
  have core := kept_core (a := a) (b := b) (k := a / b) (r := a % b) (Q := Q) (t := t) (P' := P') (R := 2 ^ D) (low := mag / 2 ^ dr) (rest := mag % 2 ^ dr) (up := up) ha pP (Nat.two_pow_pos D)
    (by rw [Nat.mul_comm]; exact (Nat.div_add_mod a b).symm) (Nat.mod_lt a bp) (by rw [← E]; exact q1) (by rw [← E]; exact q2) t1 (by rw [← E]; exact tz)
    (by rw [← hP', ← hmag]; exact dm.symm) (by rw [← hP']; exact ml) (by rw [← hP', ← hmag]; exact hL1) up1
    (by
      intro h
      rw [hup] at h
      rw [← hP']
      by_cases h1 : 2 ^ dr < 2 * (mag % 2 ^ dr)
      · omega
      · by_cases h2 : 2 ^ dr = 2 * (mag % 2 ^ dr)
        · omega
        · rw [decide_eq_false h1, beq_eq_false_iff_ne.2 h2] at h; exact absurd h (by simp))
    (by
      intro h
      rw [hup] at h
      rw [← hP']
      by_cases h1 : 2 ^ dr < 2 * (mag % 2 ^ dr)
      · rw [decide_eq_true h1] at h; exact absurd h (by simp)
      · omega)
  rw [← hkept] at core
  obtain ⟨c1, c2, c3, c4⟩ := core
  have k1 : 2 ^ 52 ≤ kept := by
    have : 2 ^ 52 ≤ mag / 2 ^ dr := (Nat.le_div_iff_mul_le (Nat.two_pow_pos dr)).2 hL1
    omega
  have k2 : kept ≤ 2 ^ 53 := by
    have : mag / 2 ^ dr < 2 ^ 53 := (Nat.div_lt_iff_lt_mul (Nat.two_pow_pos dr)).2 hL2
    omega
  have hab : a / b ≤ a := Nat.div_le_self a b
  have D1 : 1 ≤ D := by
    rcases Nat.eq_zero_or_pos D with h | h
    · rw [h, Nat.pow_zero, Nat.mul_one] at c2; omega
    · exact h
  have hw : floatBits .quo .f64 (fw s a) (fw false b) = some (Ieee.double.word s ((1074 - D) * 2 ^ 52 + kept)) := by
    show Ieee.double.div _ _ = _
    unfold Ieee.Format.div
    rw [ra, rb]
    unfold Ieee.Datum.quotient
    dsimp only
    rw [if_neg (by omega), log2_top ta.1 ta.2, log2_top tb.1 tb.2, show Ieee.double.fractionBits + 2 + 52 - 52 = 54 from rfl, Nat.shiftLeft_eq, e1, e2, Option.map_some, ← hmag, Bool.xor_false]
    simp only [Ieee.Format.write]
    unfold Ieee.Format.nearest
    rw [if_neg m0]
    dsimp only
    rw [hL, leastPlace_eq, binade_eq, infRung_eq, show Ieee.double.fractionBits = 52 from rfl]
    have hlast : max (-((52 - a.log2 : Nat) : Int) - -((52 - b.log2 : Nat) : Int) - ((54 : Nat) : Int) - 1 + ((dr + 52 : Nat) : Int) - ((52 : Nat) : Int)) (-1074) = -(D : Int) := by omega
    rw [hlast]
    rw [show (-((52 - a.log2 : Nat) : Int) - -((52 - b.log2 : Nat) : Int) - ((54 : Nat) : Int) - 1 - -(D : Int)).toNat = 0 by omega, show (-(D : Int) - (-((52 - a.log2 : Nat) : Int) - -((52 - b.log2 : Nat) : Int) - ((54 : Nat) : Int) - 1)).toNat = dr by omega, Nat.shiftLeft_eq, Nat.pow_zero, Nat.mul_one, hcut, show (-(D : Int) - -1074).toNat = 1074 - D by omega, Nat.min_eq_left (by omega)]
  have hr := read_kept s (1074 - D) kept (by omega) k1 k2
  have hc : ((1074 - D : Nat) : Int) - 1074 = -(D : Int) := by omega
  have hc' : ((1074 - D : Nat) : Int) - 1073 = -((D - 1 : Nat) : Int) := by omega
  rw [hc, hc'] at hr
  -- the whole number
  have RP : 0 < 2 ^ D := Nat.two_pow_pos D
  have key : kept / 2 ^ D + (s && kept % 2 ^ D != 0).toNat = a / b + (s && a % b != 0).toNat := by
    have z : (kept % 2 ^ D != 0) = decide (a % b ≠ 0) ∧ (a % b = 0 ∨ s = false → kept / 2 ^ D = a / b) ∧ (a % b ≠ 0 → kept / 2 ^ D = a / b ) ∨ kept = (a / b + 1) * 2 ^ D := by
      left
      have hd : kept / 2 ^ D = a / b := by
        rw [Nat.div_eq_iff RP]
        constructor
        · exact c1
        · rw [Nat.add_mul] at c2; omega
      refine ⟨?_, fun _ => hd, fun _ => hd⟩
      have dm := Nat.div_add_mod kept (2 ^ D)
      rw [hd, Nat.mul_comm] at dm
      by_cases hz : a % b = 0
      · have := c3 hz
        rw [show kept % 2 ^ D = 0 by omega, hz]; rfl
      · have := c4 hz
        rw [decide_eq_true hz]
        have : kept % 2 ^ D ≠ 0 := by omega
        simp [this]
    rcases z with ⟨z1, z2, z3⟩ | z
    · rw [z1]
      by_cases hz : a % b = 0
      · rw [z2 (.inl hz), hz]; simp
      · rw [z3 hz, decide_eq_true hz, bne_iff_ne.2 hz]
    · rw [z] at c2; omega
  refine ⟨_, (if kept < 2 ^ 53 then kept else 2 ^ 52), (if kept < 2 ^ 53 then -(D : Int) else -((D - 1 : Nat) : Int)), hw, ?_, ?_⟩
  · rw [hr]
    by_cases h : kept < 2 ^ 53
    · rw [if_pos h, if_pos h, if_pos h]
    · rw [if_neg h, if_neg h, if_neg h]
  · unfold Ieee.Datum.integral
    dsimp only
    congr 1
    rw [cut_down, ← key]
    by_cases h : kept < 2 ^ 53
    · rw [if_pos h, if_pos h, show (-(D : Int)).toNat = 0 by omega, show (- -(D : Int)).toNat = D by omega, Nat.shiftLeft_eq, Nat.pow_zero, Nat.mul_one]
    · rw [if_neg h, if_neg h, show (-((D - 1 : Nat) : Int)).toNat = 0 by omega, show (- -((D - 1 : Nat) : Int)).toNat = D - 1 by omega, Nat.shiftLeft_eq, Nat.pow_zero, Nat.mul_one]
      have hk : kept = 2 ^ 52 * 2 := by omega
      have hD2 : 2 ^ D = 2 ^ (D - 1) * 2 := by rw [← Nat.pow_succ]; congr 1; omega
      rw [hk, hD2, Nat.mul_div_mul_right _ _ (by decide), Nat.mul_mod_mul_right]
      congr 3
      rw [bne, bne]
      congr 1
      rw [Bool.eq_iff_iff, beq_iff_eq, beq_iff_eq]
      generalize 2 ^ 52 % 2 ^ (D - 1) = y
      omega

theorem fw_rung (s : Bool) (n : Nat) (h : n < 2 ^ 53) : ∃ r, r < 2 ^ 63 ∧ fw s n = Ieee.double.word s r ∧ fw false n = r := by
  by_cases h0 : n = 0
  · subst h0
    exact ⟨0, by decide, fw_zero s, fw_zero false⟩
  · refine ⟨rungOf n, ?_, fw_pos s n h0 h, fw_pos false n h0 h⟩
    have hb := top_bd h0 h
    have hl := log2_le h0 h
    unfold rungOf
    generalize n * 2 ^ (52 - n.log2) = t at hb
    generalize n.log2 = l at hl
    omega

theorem fw_lt (s : Bool) (n : Nat) (h : n < 2 ^ 53) : fw s n < 2 ^ 64 ∧ fw s n % 2 ^ 63 = fw false n ∧ (2 ^ 63 ≤ fw s n ↔ s = true) := by
  obtain ⟨r, h1, h2, h3⟩ := fw_rung s n h
  rw [h2, h3]
  unfold Ieee.Format.word
  rw [signWeight_eq]
  cases s
  · simp only [Bool.false_eq_true, if_false]
    refine ⟨by omega, Nat.mod_eq_of_lt h1, ?_⟩
    constructor
    · intro h; omega
    · intro h; exact absurd h id
  · simp only [if_true]
    refine ⟨by omega, by omega, ?_⟩
    constructor
    · intro _; trivial
    · intro _; omega

/-- A whole number made whole is itself. -/
theorem trunc_whole (s : Bool) (n : Nat) (h : n < 2 ^ 53) : ∃ K l, Ieee.double.read (fw s n) = .number s K l ∧ Ieee.double.write ((Ieee.Datum.number s K l).integral .zero) = fw s n := by
  obtain ⟨k, hk⟩ := read_whole s n h
  refine ⟨_, _, hk, ?_⟩
  unfold Ieee.Datum.integral
  dsimp only
  rw [show (-(k : Int)).toNat = 0 by omega, Nat.shiftLeft_eq, Nat.pow_zero, Nat.mul_one, show (- -(k : Int)).toNat = k by omega, cut_zero_shift]
  rfl

theorem neg_floor (a b : Nat) (hb : 0 < b) : -((a / b + (true && a % b != 0).toNat : Nat) : Int) = -(a : Int) / (b : Int) := by
  have h1 := Nat.div_add_mod a b
  have h2 := Nat.mod_lt a hb
  have hbi : (0 : Int) < (b : Int) := by omega
  have e1 : (b : Int) * ((a / b : Nat) : Int) + ((a % b : Nat) : Int) = (a : Int) := by
    rw [← Int.natCast_mul]; omega
  by_cases hz : a % b = 0
  · have hz' : (true && a % b != 0).toNat = 0 := by rw [hz]; rfl
    rw [hz', Nat.add_zero]
    refine ((Int.ediv_emod_unique (r := 0) hbi).2 ⟨?_, by omega, by omega⟩).1.symm
    rw [hz] at e1
    rw [Int.mul_neg]
    omega
  · have hz' : (true && a % b != 0).toNat = 1 := by rw [bne_iff_ne.2 hz]; rfl
    rw [hz']
    refine ((Int.ediv_emod_unique (r := (b : Int) - ((a % b : Nat) : Int)) hbi).2 ⟨?_, by omega, by omega⟩).1.symm
    rw [Int.natCast_add, Int.mul_neg, Int.mul_add]
    omega

/-- x / d, made whole downwards. -/
theorem IsF.floorDiv {u v : Nat} {x d : Int} (hu : IsF u x) (hv : IsF v d) (hx : x.natAbs < 2 ^ 50) (hd : 0 < d) :
    ∃ r s K l, floatBits .quo .f64 u v = some r ∧ Ieee.double.read r = .number s K l ∧ IsF (Ieee.double.write ((Ieee.Datum.number s K l).integral .down)) (x / d) := by
  obtain ⟨s, a, rfl, rfl, ha⟩ := hu
  obtain ⟨t, b, rfl, rfl, hb⟩ := hv
  obtain rfl : t = false := by
    cases t
    · rfl
    · unfold sg at hd; simp at hd; omega
  have hb0 : 0 < b := by unfold sg at hd; simp at hd; exact hd
  rw [sg_abs] at hx
  by_cases h0 : a = 0
  · subst h0
    obtain ⟨k, hk⟩ := read_whole s 0 ha
    rw [Nat.zero_mul] at hk
    have rb := read_at false b (by omega) hb
    have tb := top_bd (show b ≠ 0 by omega) hb
    refine ⟨fw s 0, s, 0, -(k : Int), ?_, hk, ?_⟩
    · show Ieee.double.div _ _ = _
      unfold Ieee.Format.div
      rw [hk, rb]
      unfold Ieee.Datum.quotient
      dsimp only
      rw [if_neg (by omega), Nat.zero_shiftLeft, Nat.zero_div, Nat.zero_mod, Option.map_some, Bool.xor_false]
      simp only [Ieee.Format.write]
      rw [show 2 * 0 + ((0 : Nat) != 0).toNat = 0 from rfl, near_zero, fw_zero]
    · unfold Ieee.Datum.integral
      dsimp only
      rw [Nat.zero_shiftLeft, cut_down, Nat.zero_div, Nat.zero_mod]
      refine ⟨s, 0, ?_, ?_, by decide⟩
      · simp [Ieee.Format.write, fw]
      · have : sg s 0 = 0 := by cases s <;> rfl
        rw [this]
        simp
  · obtain ⟨r, K, l, h1, h2, h3⟩ := div_floor s a b h0 hx (by omega) hb
    refine ⟨r, s, K, l, h1, h2, ?_⟩
    rw [h3]
    have hle : a / b + (s && a % b != 0).toNat < 2 ^ 53 := by
      have := Nat.div_le_self a b
      have : (s && a % b != 0).toNat ≤ 1 := Bool.toNat_le _
      omega
    refine ⟨s, _, rfl, ?_, hle⟩
    cases s
    · unfold sg; simp
    · have := neg_floor a b hb0
      unfold sg
      rw [if_pos rfl, if_pos rfl, if_neg (by decide)]
      exact this
end Go.Proofs.Ytgkpcjopedleeaa
