/- Numbers modulo P: Fermat, inverses, roots. No program is named here. -/
import Derived.Test.YtgdmjngajjoliaaDoorSA
import Derived.Test.YtgdmjngajjoliaaDoorPrimes
namespace Go.Proofs.YtgdmjngajjoliaaDoor.fpn

theorem pr_RN : Pr RN := pr_P

theorem cast_pow_mod (a e m : Nat) : ((a ^ e % m : Nat) : Int) = (a : Int) ^ e % (m : Int) := by
  rw [Int.natCast_emod, Int.natCast_pow]

theorem ndvd {A : Int} {a : Nat} (h : A = (a : Int)) (h0 : A ≠ 0) (h1 : A < RI) : ¬ RN ∣ a := fun hd => by
  rw [RI_RN] at h1
  have := Nat.le_of_dvd (by omega) hd
  omega

/-- Fermat. -/
theorem fermatI {A : Int} (hp : 0 ≤ A) (h0 : A ≠ 0) (h1 : A < RI) : A ^ (RN - 1) % RI = 1 := by
  obtain ⟨a, rfl⟩ := Int.eq_ofNat_of_zero_le hp
  have := fermat pr_RN (ndvd rfl h0 h1)
  rw [RI_RN, ← cast_pow_mod, this]; rfl

theorem invI {A : Int} (hp : 0 ≤ A) (h0 : A ≠ 0) (h1 : A < RI) : A * (A ^ (RN - 2) % RI) % RI = 1 := by
  rw [mul_mod_r, Int.mul_comm, ← Int.pow_succ, show (RN - 2).succ = RN - 1 by decide +kernel]
  exact fermatI hp h0 h1

theorem modR_bd (x : Int) : 0 ≤ x % RI ∧ x % RI < RI := ⟨Int.emod_nonneg _ (by decide), Int.emod_lt_of_pos _ (by decide)⟩
theorem modR_self {x : Int} (h0 : 0 ≤ x) (h1 : x < RI) : x % RI = x := Int.emod_eq_of_lt h0 h1

theorem zero_pow_R : (0 : Int) ^ (RN - 1) % RI = 0 := by
  rw [Int.zero_pow (by decide +kernel)]; decide

/-- Four's root is two. -/
theorem sq_four : sq 4 = RI - 2 ∨ sq 4 = 2 := by
  have h : sq 4 = ((pm RN 4 384 SE : Nat) : Int) := by
    unfold sq
    rw [RI_RN, show (4 : Int) = ((4 : Nat) : Int) from rfl, ← cast_pow_mod, pm_eq RN 4 384 SE (by decide +kernel)]
  rw [h]
  decide +kernel
end Go.Proofs.YtgdmjngajjoliaaDoor.fpn
