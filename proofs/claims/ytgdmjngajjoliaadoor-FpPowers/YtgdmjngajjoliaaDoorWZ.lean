/- What the document's PowR answers: powers modulo R. -/
import Derived.Test.YtgdmjngajjoliaaDoorWY
namespace Go.Proofs.YtgdmjngajjoliaaDoor
open Go.RowKit
attribute [local go_sem ↓] Go.wp_at_zero Go.wp_at_succ
set_option linter.unusedVariables false

/-- One step of a power. -/
theorem pow_sq {A H : Int} {q : Nat} (h : H = A ^ q % RI) : H * H % RI = A ^ (2 * q) % RI := by
  rw [h, mul_mod_l, mul_mod_r, ← Int.pow_add, Nat.two_mul]
theorem pow_sq1 {A H : Int} {q : Nat} (h : H = A ^ (2 * q) % RI) : H * A % RI = A ^ (2 * q + 1) % RI := by
  rw [h, mul_mod_l, ← Int.pow_succ]

theorem nat_bit {g : Nat → Int} {n E j : Nat} (rg : Rg g n) (hE : val g n = (E : Int)) (hj : j < 64 * n) : g (j / 64) / 2 ^ (j % 64) % 2 = ((E / 2 ^ j % 2 : Nat) : Int) := by
  rw [← bit_of rg hj, hE]; norm_cast
theorem nat_half (E j : Nat) : E / 2 ^ j = 2 * (E / 2 ^ (j + 1)) + E / 2 ^ j % 2 := by
  rw [Nat.pow_succ, ← Nat.div_div_eq_div_mul]; omega
theorem nat_top {g : Nat → Int} {n E : Nat} (rg : Rg g n) (hE : val g n = (E : Int)) : E / 2 ^ (64 * n) = 0 := by
  apply Nat.div_eq_of_lt
  have h := (val_bd rg).2
  rw [hE, ← two_pow_64] at h
  exact_mod_cast h

end Go.Proofs.YtgdmjngajjoliaaDoor
