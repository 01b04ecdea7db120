/- A prime is a sum of two squares in one way at most. No program is named here. -/
import Derived.Test.YtgkpcjopedleeaaGT
import Derived.Test.YtgkpcjopedleeaaNum
namespace Go.Proofs.Ytgkpcjopedleeaa

theorem pr_of {p : Nat} (h2 : 2 ≤ p) (h : ¬ Composed p) : Pr p := Pr.big h2 fun q hq hd => by
  rcases Nat.lt_or_ge p (q * q) with h1 | h1
  · exact h1
  · exact absurd ⟨q, hq.1, h1, Nat.mod_eq_zero_of_dvd hd⟩ h

theorem sq_inj {a b : Nat} (h : a * a = b * b) : a = b := Nat.le_antisymm (sq_mono (Nat.le_of_eq h)) (sq_mono (Nat.le_of_eq h.symm))

/-- Of two whole numbers of which p divides the product. -/
theorem pr_split {p : Nat} (hp : Pr p) {u v : Int} (h : (p : Int) ∣ u * v) : (p : Int) ∣ u ∨ (p : Int) ∣ v := by
  have h2 := Int.natAbs_dvd_natAbs.2 h
  rw [Int.natAbs_mul, Int.natAbs_natCast] at h2
  rcases hp.of_mul h2 with e | e
  · exact .inl (Int.natAbs_dvd_natAbs.1 (by rw [Int.natAbs_natCast]; exact e))
  · exact .inr (Int.natAbs_dvd_natAbs.1 (by rw [Int.natAbs_natCast]; exact e))

theorem sqr_nonneg (x : Int) : 0 ≤ x * x := by
  rcases Int.le_total 0 x with h | h
  · exact Int.mul_nonneg h h
  · have := Int.mul_nonneg (show 0 ≤ -x by omega) (show 0 ≤ -x by omega)
    rw [Int.neg_mul_neg] at this
    exact this

/-- x x + y y = p p and p divides y: y is 0 or x is. -/
theorem edge {p : Nat} {x y : Int} (h : x * x + y * y = (p : Int) * (p : Int)) (hd : (p : Int) ∣ y) : y = 0 ∨ x = 0 := by
  obtain ⟨k, rfl⟩ := hd
  rcases (show k = 0 ∨ 1 ≤ k ∨ k ≤ -1 by omega) with e | e | e
  · subst e; left; simp
  all_goals
    right
    have k1 : 1 ≤ k * k := by
      rcases Int.le_total 0 k with f | f
      · have := Int.mul_le_mul (show (1 : Int) ≤ k by omega) (show (1 : Int) ≤ k by omega) (by decide) (by omega); omega
      · have := Int.mul_le_mul (show (1 : Int) ≤ -k by omega) (show (1 : Int) ≤ -k by omega) (by decide) (by omega)
        rw [Int.neg_mul_neg] at this; omega
    have pp : 0 ≤ (p : Int) * (p : Int) := sqr_nonneg _
    have e1 : (p : Int) * k * ((p : Int) * k) = (p : Int) * (p : Int) * (k * k) := by grind
    have e2 := Int.mul_le_mul_of_nonneg_left k1 pp
    have e3 := sqr_nonneg x
    have e4 : x * x = 0 := by rw [e1] at h; omega
    rcases Int.mul_eq_zero.1 e4 with f | f <;> exact f

theorem two_one {p a b c d : Nat} (hp : Pr p) (h1 : a * a + b * b = p) (h2 : c * c + d * d = p) (a0 : 0 < a) (ab : a ≤ b) (c0 : 0 < c) (cd : c ≤ d) : a = c ∧ b = d := by
  have p0 : 0 < p := by have := hp.1; omega
  have H1 : (a : Int) * a + (b : Int) * b = p := by rw [← h1]; simp
  have H2 : (c : Int) * c + (d : Int) * d = p := by rw [← h2]; simp
  have A0 : (0 : Int) < a := by omega
  have B0 : (0 : Int) < b := by omega
  have C0 : (0 : Int) < c := by omega
  have D0 : (0 : Int) < d := by omega
  have main : (p : Int) ∣ ((a : Int) * d - (b : Int) * c) * ((a : Int) * d + (b : Int) * c) := by
    refine ⟨(a : Int) * a - (c : Int) * c, ?_⟩
    rw [← H1]
    have : (d : Int) * d = (a : Int) * a + (b : Int) * b - (c : Int) * c := by omega
    grind
  have key : a * a = c * c ∨ a * a = d * d := by
    rcases pr_split hp main with h | h
    · have e : ((a : Int) * c + (b : Int) * d) * ((a : Int) * c + (b : Int) * d) + ((a : Int) * d - (b : Int) * c) * ((a : Int) * d - (b : Int) * c) = (p : Int) * p := by
        have : (p : Int) * p = ((a : Int) * a + (b : Int) * b) * ((c : Int) * c + (d : Int) * d) := by rw [H1, H2]
        rw [this]; grind
      rcases edge e h with f | f
      · left
        have g : (p : Int) * ((a : Int) * a) = (p : Int) * ((c : Int) * c) := by
          have t : (a : Int) * d = (b : Int) * c := by omega
          have t2 : ((a : Int) * d) * ((a : Int) * d) = ((b : Int) * c) * ((b : Int) * c) := by rw [t]
          have u1 : (d : Int) * d = p - (c : Int) * c := by omega
          have u2 : (b : Int) * b = p - (a : Int) * a := by omega
          grind
        have := Int.eq_of_mul_eq_mul_left (show (p : Int) ≠ 0 by omega) g
        have : ((a * a : Nat) : Int) = ((c * c : Nat) : Int) := by simpa using this
        omega
      · have := Int.mul_pos A0 C0; have := Int.mul_pos B0 D0; omega
    · have e : ((a : Int) * c - (b : Int) * d) * ((a : Int) * c - (b : Int) * d) + ((a : Int) * d + (b : Int) * c) * ((a : Int) * d + (b : Int) * c) = (p : Int) * p := by
        have : (p : Int) * p = ((a : Int) * a + (b : Int) * b) * ((c : Int) * c + (d : Int) * d) := by rw [H1, H2]
        rw [this]; grind
      rcases edge e h with f | f
      · have := Int.mul_pos A0 D0; have := Int.mul_pos B0 C0; omega
      · right
        have g : (p : Int) * ((a : Int) * a) = (p : Int) * ((d : Int) * d) := by
          have t : (a : Int) * c = (b : Int) * d := by omega
          have t2 : ((a : Int) * c) * ((a : Int) * c) = ((b : Int) * d) * ((b : Int) * d) := by rw [t]
          have u1 : (c : Int) * c = p - (d : Int) * d := by omega
          have u2 : (b : Int) * b = p - (a : Int) * a := by omega
          grind
        have := Int.eq_of_mul_eq_mul_left (show (p : Int) ≠ 0 by omega) g
        have : ((a * a : Nat) : Int) = ((d * d : Nat) : Int) := by simpa using this
        omega
  rcases key with e | e
  · have := sq_inj e
    subst this
    exact ⟨rfl, sq_inj (by omega)⟩
  · have e1 := sq_inj e
    have e2 : b = c := sq_inj (by omega)
    omega
end Go.Proofs.Ytgkpcjopedleeaa
