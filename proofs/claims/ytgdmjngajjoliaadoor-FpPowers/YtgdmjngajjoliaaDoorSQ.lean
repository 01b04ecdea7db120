/- Squares modulo P: of a number and its opposite just one is one; the root of a square. No program is named here. -/
import Derived.Test.YtgdmjngajjoliaaDoorSB
namespace Go.Proofs.YtgdmjngajjoliaaDoor.fpn

theorem pow_mod (x : Int) (n : Nat) : (x % RI) ^ n % RI = x ^ n % RI := by
  induction n with
  | zero => rw [Int.pow_zero, Int.pow_zero]
  | succ n ih => rw [Int.pow_succ, Int.pow_succ, Int.mul_emod, ih, Int.emod_emod, ← Int.mul_emod]

/-- (P - 1) / 2. -/
def HP : Nat := (RN - 1) / 2
theorem SE_HP : SE + SE = HP + 1 := by decide +kernel
theorem HP_odd : HP = HP / 2 + HP / 2 + 1 := by decide +kernel
theorem HP_two : HP + HP = RN - 1 := by decide +kernel
theorem RI_odd : RI = 2 * (RI / 2) + 1 := by decide +kernel

theorem sq_sq (a : Int) : sq a * sq a % RI = a ^ (HP + 1) % RI := by
  unfold sq
  rw [← Int.mul_emod, ← Int.pow_add, SE_HP]

theorem pr_dvd {u v : Int} (h : u * v % RI = 0) : RN ∣ u.natAbs ∨ RN ∣ v.natAbs := by
  have h1 : (RN : Int) ∣ u * v := Int.dvd_of_emod_eq_zero (by rw [← RI_RN]; exact h)
  have h2 := Int.natAbs_dvd_natAbs.2 h1
  rw [Int.natAbs_mul, Int.natAbs_natCast] at h2
  exact pr_RN.of_mul h2

theorem two_roots {x a : Int} (x0 : 0 ≤ x) (x1 : x < RI) (a0 : 0 ≤ a) (a1 : a < RI) (h : x * x % RI = a * a % RI) : x = a ∨ x + a = RI := by
  have hd : (x - a) * (x + a) % RI = 0 := by
    rw [show (x - a) * (x + a) = x * x - a * a by grind]
    exact Int.emod_eq_zero_of_dvd (Int.dvd_of_emod_eq_zero (by rw [Int.sub_emod, h, Int.sub_self, Int.zero_emod]))
  have hr : RI = (RN : Int) := RI_RN
  rcases pr_dvd hd with h1 | h1
  · left
    rcases Nat.eq_zero_or_pos (x - a).natAbs with e | e
    · omega
    · have := Nat.le_of_dvd e h1; omega
  · rcases Nat.eq_zero_or_pos (x + a).natAbs with e | e
    · left; omega
    · obtain ⟨k, hk⟩ := h1
      have hk1 : ((x + a).natAbs : Int) = (RN : Int) * (k : Int) := by rw [hk, Int.natCast_mul]
      rcases (show k = 0 ∨ k = 1 ∨ 2 ≤ k by omega) with rfl | rfl | hk2
      · simp at hk; omega
      · right; rw [hr]; omega
      · exfalso
        have := Nat.mul_le_mul_left RN hk2
        omega

theorem chi {a : Int} (h0 : 0 ≤ a) (h1 : a ≠ 0) (h2 : a < RI) : a ^ HP % RI = 1 ∨ a ^ HP % RI = RI - 1 := by
  have f := fermatI h0 h1 h2
  rw [← HP_two, Int.pow_add] at f
  have hc : (a ^ HP % RI) * (a ^ HP % RI) % RI = 1 * 1 % RI := by rw [← Int.mul_emod, f]; decide
  have b := modR_bd (a ^ HP)
  rcases two_roots b.1 b.2 (by decide) (by decide) hc with e | e
  · exact .inl e
  · right; omega

theorem neg_odd (a : Int) (k : Nat) : (-a) ^ (k + k + 1) = -(a ^ (k + k + 1)) := by
  induction k with
  | zero => rw [show 0 + 0 + 1 = 0 + 1 from rfl, Int.pow_succ, Int.pow_succ, Int.pow_zero, Int.pow_zero, Int.one_mul, Int.one_mul]
  | succ k ih =>
    rw [show k + 1 + (k + 1) + 1 = (k + k + 1) + 1 + 1 by omega, Int.pow_succ, Int.pow_succ, ih, Int.pow_succ a (k + k + 1 + 1), Int.pow_succ a (k + k + 1)]
    grind

theorem neg_mod {a : Int} (h0 : 0 < a) (h1 : a < RI) : (0 - a) % RI = RI - a := by
  rw [← Int.add_emod_right (0 - a) RI, show 0 - a + RI = RI - a by omega]
  exact Int.emod_eq_of_lt (by omega) (by omega)

theorem chi_neg {a : Int} : (0 - a) ^ HP % RI = (0 - a ^ HP % RI) % RI := by
  rw [Int.zero_sub, HP_odd, neg_odd, Int.zero_sub, Int.neg_emod_eq_sub_emod, Int.neg_emod_eq_sub_emod, Int.sub_emod RI (a ^ _ % RI), Int.emod_emod, ← Int.sub_emod]

/-- What the root's square is. -/
theorem sq_one {a : Int} (h0 : 0 ≤ a) (h2 : a < RI) (hc : a ^ HP % RI = 1) : sq a * sq a % RI = a := by
  rw [sq_sq, Int.pow_succ, ← mul_mod_l, hc, Int.one_mul]; exact modR_self h0 h2
theorem sq_other {a : Int} (h0 : 0 < a) (h2 : a < RI) (hc : a ^ HP % RI = RI - 1) : sq a * sq a % RI = RI - a := by
  rw [sq_sq, Int.pow_succ, ← mul_mod_l, hc, show (RI - 1) * a = RI - a + RI * (a - 1) by grind, Int.add_mul_emod_self_left]
  exact Int.emod_eq_of_lt (by omega) (by omega)

/-- Of a number and its opposite just one is a square. -/
theorem just_one {a : Int} (h0 : 0 < a) (h2 : a < RI) : (sq a * sq a % RI = a ∧ sq ((0 - a) % RI) * sq ((0 - a) % RI) % RI ≠ (0 - a) % RI) ∨ (sq a * sq a % RI ≠ a ∧ sq ((0 - a) % RI) * sq ((0 - a) % RI) % RI = (0 - a) % RI) := by
  have hn := neg_mod h0 h2
  have ho := RI_odd
  have hb : 0 < (0 - a) % RI ∧ (0 - a) % RI < RI := by rw [hn]; omega
  have hc := chi (Int.le_of_lt h0) (by omega) h2
  have hm : ((0 - a) % RI) ^ HP % RI = (0 - a ^ HP % RI) % RI := by rw [pow_mod, chi_neg]
  rcases hc with e | e
  · left
    refine ⟨sq_one (Int.le_of_lt h0) h2 e, ?_⟩
    rw [e] at hm
    rw [sq_other hb.1 hb.2 (by rw [hm]; decide +kernel), hn]
    omega
  · right
    rw [e] at hm
    refine ⟨?_, sq_one (Int.le_of_lt hb.1) hb.2 (by rw [hm]; decide +kernel)⟩
    rw [sq_other h0 h2 e]
    omega

/-- A square's root. -/
theorem square_root {a : Int} (h0 : 0 ≤ a) (h2 : a < RI) : sq (a * a % RI) * sq (a * a % RI) % RI = a * a % RI := by
  rw [sq_sq, pow_mod]
  by_cases hz : a = 0
  · subst hz; rw [Int.mul_zero, Int.zero_pow (by omega)]
  · have f := fermatI h0 hz h2
    rw [Int.mul_pow, Int.pow_succ, show a ^ HP * a * (a ^ HP * a) = a ^ HP * a ^ HP * (a * a) by grind, ← Int.pow_add, HP_two, ← mul_mod_l, f, Int.one_mul]

theorem lesser_not (x : Int) (h0 : 0 ≤ x) (h1 : x < RI) : ¬ RI / 2 < lesser x := by
  have ho := RI_odd
  unfold lesser
  split
  · rw [neg_mod (by omega) h1]; omega
  · assumption

theorem lesser_two {x a : Int} (x0 : 0 ≤ x) (x1 : x < RI) (a0 : 0 ≤ a) (a1 : a < RI) (h : x * x % RI = a * a % RI) : lesser x = a ∨ lesser x = (0 - a) % RI := by
  have ho := RI_odd
  have hz : (0 - 0 : Int) % RI = 0 := by decide
  unfold lesser
  rcases two_roots x0 x1 a0 a1 h with e | e
  · subst e
    split
    · exact .inr rfl
    · exact .inl rfl
  · have ha : a ≠ 0 := by rintro rfl; omega
    split
    · left; rw [neg_mod (by omega) x1]; omega
    · right; rw [neg_mod (by omega) a1]; omega

theorem sq_bd (a : Int) : 0 ≤ sq a ∧ sq a < RI := modR_bd _

theorem root_is {a : Int} (h0 : 0 ≤ a) (h2 : a < RI) : lesser (sq (a * a % RI)) = a ∨ lesser (sq (a * a % RI)) = (0 - a) % RI :=
  lesser_two (sq_bd _).1 (sq_bd _).2 h0 h2 (square_root h0 h2)
theorem root_small (a : Int) : ¬ RI / 2 < lesser (sq a) := lesser_not _ (sq_bd _).1 (sq_bd _).2

theorem sq_zero : sq 0 * sq 0 % RI = 0 := by
  rw [sq_sq, Int.zero_pow (by omega)]; decide

theorem great_one {a : Int} (h0 : 0 < a) (h2 : a < RI) : decide (RI / 2 < a) ≠ decide (RI / 2 < (0 - a) % RI) := by
  have ho := RI_odd
  rw [neg_mod h0 h2]
  by_cases h : RI / 2 < a
  · rw [decide_eq_true h, decide_eq_false (by omega)]; decide
  · rw [decide_eq_false h, decide_eq_true (by omega)]; decide
end Go.Proofs.YtgdmjngajjoliaaDoor.fpn
