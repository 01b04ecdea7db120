/- Plain mathematics of Montgomery's product, limb by limb. No program is named here. -/
import Derived.Test.YtgdmjngajjoliaaDoorMem
namespace Go.Proofs.YtgdmjngajjoliaaDoor

theorem mul_mod_r (a b M : Int) : a * (b % M) % M = a * b % M := by rw [Int.mul_emod, Int.emod_emod, ← Int.mul_emod]
theorem mul_mod_l (a b M : Int) : (a % M) * b % M = a * b % M := by rw [Int.mul_comm, mul_mod_r, Int.mul_comm]

/-- Newton's way to an inverse modulo 2^64: one step. -/
def nw (m x : Int) : Int := x * ((2 - m * x % B64) % B64) % B64
def nwt (m : Int) : Nat → Int
  | 0 => m
  | j + 1 => nw m (nwt m j)

/-- The limb that makes the lowest one nought. -/
theorem q_zero {m0 t0 v : Int} (hv : v * m0 % B64 = 1) : (m0 * (t0 * (-v % B64) % B64) + t0) % B64 = 0 := by
  have e1 : m0 * (t0 * (-v % B64) % B64) % B64 = -t0 % B64 := by
    rw [mul_mod_r, ← Int.mul_assoc, mul_mod_r]
    have : m0 * t0 * -v = (v * m0) * -t0 := by rw [Int.mul_comm m0 t0, Int.mul_assoc, Int.mul_neg, Int.mul_comm m0 v, Int.mul_comm t0, Int.mul_neg, Int.neg_mul]
    rw [this, ← mul_mod_l, hv, Int.one_mul]
  rw [Int.add_emod, e1, ← Int.add_emod, Int.add_left_neg]; rfl

/-- How mont reckons one limb. -/
theorem mul_step2 {x k s c : Int} (hx : 0 ≤ x ∧ x < B64) (hk : 0 ≤ k ∧ k < B64) (hs : 0 ≤ s ∧ s < B64) (hc : 0 ≤ c ∧ c < B64) :
    ((s + x * k % B64) % B64 + c) % B64 = (k * x + s + c) % B64 ∧
    (((x * k / B64 + (s + x * k % B64) / B64) % B64 + ((s + x * k % B64) % B64 + c) / B64) % B64) = (k * x + s + c) / B64 := by
  have p0 := Int.mul_nonneg hx.1 hk.1
  have p1 := Int.mul_le_mul (show x ≤ B64 - 1 by omega) (show k ≤ B64 - 1 by omega) hk.1 (by have := B64_pos; omega)
  rw [Int.mul_comm k x]
  generalize x * k = p at *
  rw [B64_eq] at *
  refine ⟨by omega, by omega⟩
theorem mul_step1 {x k s : Int} (hx : 0 ≤ x ∧ x < B64) (hk : 0 ≤ k ∧ k < B64) (hs : 0 ≤ s ∧ s < B64) :
    (x * k / B64 + (s + x * k % B64) / B64) % B64 = (k * x + s) / B64 := by
  have p0 := Int.mul_nonneg hx.1 hk.1
  have p1 := Int.mul_le_mul (show x ≤ B64 - 1 by omega) (show k ≤ B64 - 1 by omega) hk.1 (by have := B64_pos; omega)
  rw [Int.mul_comm k x]
  generalize x * k = p at *
  rw [B64_eq] at *
  omega

/-- What a round makes of t: a times f's limbs added, then q times m's, and all a limb down. -/
def rd1 (t b : Nat → Int) (a : Int) (n : Nat) : Nat → Int := up (up (mix (tm t b a) t n) n ((t n + ct t b a n) % B64)) (n + 1) ((t n + ct t b a n) / B64)
def rd2 (t m : Nat → Int) (q : Int) (n : Nat) : Nat → Int := up (up (mix (sh (tm t m q) 1) t (n - 1)) (n - 1) ((t n + ct t m q n) % B64)) n (t (n + 1) + (t n + ct t m q n) / B64)

theorem ct_div {t b : Nat → Int} {a : Int} {n : Nat} (rt : Rg t (n + 1)) (rb : Rg b n) (ha : 0 ≤ a ∧ a < B64) : 0 ≤ (t n + ct t b a n) / B64 ∧ (t n + ct t b a n) / B64 ≤ 1 := by
  have c := ct_bd (rt.mono (Nat.le_succ n)) rb ha
  have r := rt n (by omega)
  rw [B64_eq] at *
  omega

theorem rd1_rg {t b : Nat → Int} {a : Int} {n : Nat} (rt : Rg t (n + 1)) (rb : Rg b n) (ha : 0 ≤ a ∧ a < B64) : Rg (rd1 t b a n) (n + 2) := fun i hi => by
  unfold rd1
  by_cases e1 : i = n + 1
  · subst e1; rw [up_at]; have := ct_div rt rb ha; rw [B64_eq] at *; omega
  · rw [up_ne e1]
    by_cases e2 : i = n
    · subst e2; rw [up_at]; rw [B64_eq]; omega
    · rw [up_ne e2, mix_lo (by omega)]; exact tm_rg _ _ _ (i + 1) i (by omega)
theorem rd1_top {t b : Nat → Int} {a : Int} {n : Nat} : rd1 t b a n (n + 1) = (t n + ct t b a n) / B64 := by unfold rd1; rw [up_at]

theorem rd1_val (t b : Nat → Int) (a : Int) (n : Nat) : val (rd1 t b a n) (n + 2) = val t (n + 1) + val b n * a := by
  have e := val_tm t b a n
  have d : (t n + ct t b a n) % B64 + B64 * ((t n + ct t b a n) / B64) = t n + ct t b a n := Int.emod_add_mul_ediv _ _
  rw [val, val]
  have e1 : val (rd1 t b a n) n = val (tm t b a) n := val_congr fun i hi => by
    unfold rd1; rw [up_ne (by omega), up_ne (by omega), mix_lo hi]
  have e2 : rd1 t b a n n = (t n + ct t b a n) % B64 := by unfold rd1; rw [up_ne (by omega), up_at]
  rw [e1, e2, rd1_top, val, pw]
  generalize (t n + ct t b a n) % B64 = x at *
  generalize (t n + ct t b a n) / B64 = y at *
  have e3 : y * (pw n * B64) = B64 * y * pw n := by rw [Int.mul_comm B64 y, Int.mul_assoc, Int.mul_comm (pw n)]
  have e4 : x * pw n + B64 * y * pw n = t n * pw n + ct t b a n * pw n := by rw [← Int.add_mul, d, Int.add_mul]
  rw [e3]; omega

theorem rd2_val {t m : Nat → Int} {q : Int} {n : Nat} (hn : 0 < n) (h0 : tm t m q 0 = 0) : val (rd2 t m q n) (n + 1) * B64 = val t (n + 2) + val m n * q := by
  obtain ⟨k, rfl⟩ : ∃ k, n = k + 1 := ⟨n - 1, by omega⟩
  have e := val_tm t m q (k + 1)
  have d : (t (k + 1) + ct t m q (k + 1)) % B64 + B64 * ((t (k + 1) + ct t m q (k + 1)) / B64) = t (k + 1) + ct t m q (k + 1) := Int.emod_add_mul_ediv _ _
  have s := val_sh (tm t m q) 1 k
  rw [Nat.add_comm 1 k] at s
  have s1 : val (tm t m q) 1 = 0 := by simp [val, pw, h0]
  have s2 : pw 1 = B64 := by simp [pw]
  rw [s1, s2, Int.zero_add] at s
  have e1 : val (rd2 t m q (k + 1)) k = val (sh (tm t m q) 1) k := val_congr fun i hi => by
    unfold rd2; rw [up_ne (by omega), up_ne (by omega), mix_lo (by omega)]
  have e2 : rd2 t m q (k + 1) k = (t (k + 1) + ct t m q (k + 1)) % B64 := by unfold rd2; rw [up_ne (by omega)]; exact up_at _ _ _
  have e3 : rd2 t m q (k + 1) (k + 1) = t (k + 1 + 1) + (t (k + 1) + ct t m q (k + 1)) / B64 := by unfold rd2; rw [up_at]
  rw [val, val, e1, e2, e3, show val t (k + 1 + 2) = val t (k + 1) + t (k + 1) * pw (k + 1) + t (k + 1 + 1) * pw (k + 1 + 1) from rfl]
  generalize (t (k + 1) + ct t m q (k + 1)) % B64 = x at *
  generalize (t (k + 1) + ct t m q (k + 1)) / B64 = y at *
  rw [s] at e
  have p1 : pw (k + 1) = pw k * B64 := rfl
  have p2 : pw (k + 1 + 1) = pw (k + 1) * B64 := rfl
  generalize val (sh (tm t m q) 1) k = V at *
  generalize t (k + 1 + 1) = u at *
  generalize t (k + 1) = z at *
  generalize ct t m q (k + 1) = C at *
  have a1 : (V + x * pw k + (u + y) * pw (k + 1)) * B64 = B64 * V + (x * pw (k + 1) + B64 * y * pw (k + 1)) + u * pw (k + 1 + 1) := by
    rw [Int.add_mul, Int.add_mul, Int.add_mul u y, Int.add_mul (u * _), p2, Int.mul_comm V, Int.mul_assoc x, ← p1, Int.mul_assoc u, Int.mul_assoc y, Int.mul_comm (pw (k + 1)) B64, ← Int.mul_assoc y, Int.mul_comm y B64]
    omega
  rw [a1, ← Int.add_mul, d, Int.add_mul]
  omega

theorem rd2_rg {t m : Nat → Int} {q : Int} {n : Nat} (hn : 0 < n) (rt : Rg t (n + 2)) (ht : t (n + 1) ≤ 1) (rm : Rg m n) (hq : 0 ≤ q ∧ q < B64) : Rg (rd2 t m q n) (n + 2) := fun i hi => by
  have c := ct_div (rt.mono (Nat.le_succ _)) rm hq
  have r := rt (n + 1) (by omega)
  unfold rd2
  by_cases e1 : i = n
  · subst e1; rw [up_at]; rw [B64_eq] at *; omega
  · rw [up_ne e1]
    by_cases e2 : i = n - 1
    · subst e2; rw [up_at, B64_eq]; omega
    · rw [up_ne e2]
      by_cases e3 : i < n - 1
      · rw [mix_lo e3]; exact tm_rg _ _ _ (1 + i + 1) (1 + i) (by omega)
      · rw [mix_hi (by omega)]; exact rt i hi

/-- A round's number. -/
theorem rd_inv {T T' A B M Q p a q : Int} (h : T * p = A * B + Q * M) (hT : T' * B64 = T + B * a + M * q) : T' * (p * B64) = (A + a * p) * B + (Q + q * p) * M := by
  have e : T' * (p * B64) = (T' * B64) * p := by rw [Int.mul_comm p, Int.mul_assoc]
  have e1 : B * a * p = a * p * B := by rw [Int.mul_comm B a, Int.mul_assoc, Int.mul_comm B p, Int.mul_assoc]
  have e2 : M * q * p = q * p * M := by rw [Int.mul_comm M q, Int.mul_assoc, Int.mul_comm M p, Int.mul_assoc]
  rw [e, hT, Int.add_mul, Int.add_mul, h, Int.add_mul, Int.add_mul, e1, e2]
  omega
theorem rd_q {Q p q : Int} (h0 : 0 ≤ Q) (h1 : Q < p) (q0 : 0 ≤ q) (q1 : q < B64) (hp : 0 < p) : 0 ≤ Q + q * p ∧ Q + q * p < p * B64 := by
  have a := Int.mul_nonneg q0 (Int.le_of_lt hp)
  have b := Int.mul_le_mul_of_nonneg_right (show q ≤ B64 - 1 by omega) (Int.le_of_lt hp)
  rw [Int.sub_mul, Int.one_mul, Int.mul_comm B64 p] at b
  omega
/-- At the end. -/
theorem mont_lt {T A B M Q p : Int} (h : T * p = A * B + Q * M) (hA : 0 ≤ A ∧ A < p) (hB : 0 ≤ B ∧ B < M) (hQ : 0 ≤ Q ∧ Q < p) : T < 2 * M := by
  have hp : 0 < p := by omega
  have hM : 0 < M := by omega
  have a : A * B ≤ p * M := Int.mul_le_mul (by omega) (by omega) hB.1 (by omega)
  have b : Q * M < p * M := Int.mul_lt_mul_of_pos_right hQ.2 hM
  apply Int.lt_of_mul_lt_mul_right (a := p) _ (Int.le_of_lt hp)
  rw [h, Int.mul_assoc, Int.mul_comm M p]
  omega
theorem mont_mod {T A B M Q p : Int} (h : T * p = A * B + Q * M) : T * p % M = A * B % M := by rw [h, Int.add_mul_emod_self_right]
theorem mont_mod_less {T M p : Int} : (T - M) * p % M = T * p % M := by rw [Int.sub_mul, Int.sub_emod, Int.mul_emod_right, Int.sub_zero, Int.emod_emod]
end Go.Proofs.YtgdmjngajjoliaaDoor
