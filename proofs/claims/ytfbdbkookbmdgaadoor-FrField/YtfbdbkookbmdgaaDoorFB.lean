/- Numbers modulo R: Fermat, inverses, the root of one. No program is named here. -/
import Derived.Test.YtfbdbkookbmdgaaDoorFA
import Derived.Test.YtfbdbkookbmdgaaDoorPrimes
namespace Go.Proofs.YtfbdbkookbmdgaaDoor

theorem pr_RN : Pr RN := pr_R

theorem cast_pow_mod (a e m : Nat) : ((a ^ e % m : Nat) : Int) = (a : Int) ^ e % (m : Int) := by
  rw [Int.natCast_emod, Int.natCast_pow]

theorem ndvd {A : Int} {a : Nat} (h : A = (a : Int)) (h0 : A ≠ 0) (h1 : A < RI) : ¬ RN ∣ a := fun hd => by
  rw [RI_RN] at h1
  have := Nat.le_of_dvd (by omega) hd
  omega

/-- Fermat. -/
theorem fermatI {A : Int} (hp : 0 ≤ A) (h0 : A ≠ 0) (h1 : A < RI) : A ^ (RN - 1) % RI = 1 := by
  obtain ⟨a, rfl⟩ := Int.eq_ofNat_of_zero_le hp
  have := fermat pr_RN (ndvd rfl h0 h1)
  rw [RI_RN, ← cast_pow_mod, this]; rfl

theorem invI {A : Int} (hp : 0 ≤ A) (h0 : A ≠ 0) (h1 : A < RI) : A * (A ^ (RN - 2) % RI) % RI = 1 := by
  rw [mul_mod_r, Int.mul_comm, ← Int.pow_succ, show (RN - 2).succ = RN - 1 by decide +kernel]
  exact fermatI hp h0 h1

theorem modR_bd (x : Int) : 0 ≤ x % RI ∧ x % RI < RI := ⟨Int.emod_nonneg _ (by decide), Int.emod_lt_of_pos _ (by decide)⟩
theorem modR_self {x : Int} (h0 : 0 ≤ x) (h1 : x < RI) : x % RI = x := Int.emod_eq_of_lt h0 h1

/-- The root's number. -/
def GN : Nat := 10238227357739495823651030575849232062558860180284477541189508159991286009131
theorem gL_val : val gL 4 = (GN : Int) := by decide +kernel
theorem root_pm (e k : Nat) (he : e < 2 ^ 33) (h : pm RN GN 33 e = k) : val gL 4 ^ e % RI = (k : Int) := by
  rw [gL_val, RI_RN, ← cast_pow_mod, ← pm_eq RN GN 33 e he, h]
theorem root31 : val gL 4 ^ (2 ^ 31) % RI = RI - 1 := (root_pm (2 ^ 31) (RN - 1) (by decide +kernel) (by decide +kernel)).trans (by decide +kernel)
theorem root32 : val gL 4 ^ (2 ^ 32) % RI = 1 := root_pm (2 ^ 32) 1 (by decide +kernel) (by decide +kernel)

/-- The powers of the root by powers of two: just the last is 1. -/
theorem root_not {e : Nat} (h : e ≤ 31) : val gL 4 ^ (2 ^ e) % RI ≠ 1 := fun hc => by
  have : val gL 4 ^ (2 ^ 31) % RI = 1 := by
    rw [show 31 = e + (31 - e) by omega, Nat.pow_add, Int.pow_mul]
    have h2 : ∀ (x : Int) (k : Nat), x % RI = 1 → x ^ k % RI = 1 := fun x k hx => by
      induction k with
      | zero => rw [Int.pow_zero]; decide
      | succ k ih => rw [Int.pow_succ, Int.mul_emod, ih, hx]; decide
    exact h2 _ _ hc
  rw [root31] at this
  exact absurd this (by decide)
end Go.Proofs.YtfbdbkookbmdgaaDoor
