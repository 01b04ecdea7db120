/- A digest by whole blocks and what is left: no program is named here. -/
import Derived.Test.YtklddcicfeakfaaDM
namespace Go.Proofs.Ytklddcicfeakfaa.fpn
open Go.RowKit Pl
set_option linter.unusedVariables false
set_option linter.unusedSimpArgs false

theorem wst_congr {c c' : Nat → Int} {n : Nat} (h : ∀ i, i < n → c i = c' i) : ∀ m, m ≤ n → wst c m = wst c' m
  | 0, _ => by rw [wst_0, wst_0]
  | m + 1, hm => by rw [wst_s, wst_s, wst_congr h m (by omega), h m (by omega)]
/-- Only the 64 bytes of a block count. -/
theorem blk_bytes {h k : Nat → BitVec 32} {c c' : Nat → Int} (e : ∀ i, i < 64 → c i = c' i) : blk h c k = blk h c' k := by
  unfold blk; rw [wst_congr e 64 (Nat.le_refl _)]
theorem padN_q (n : Nat) : padN n / 64 = if n % 64 < 56 then n / 64 + 1 else n / 64 + 2 := by
  unfold padN; split <;> omega
/-- The byte of the length that lies i-th in a block. -/
def lnb (n i : Nat) : Int := ((n * 8 / 2 ^ (8 * (63 - i)) % 256 : Nat) : Int)
theorem pd_whole (g : Nat → Int) {n j i : Nat} (h : j < n / 64) (hi : i < 64) : pd g n (64 * j + i) = g (64 * j + i) := pd_b g (by omega)
/-- The last block, all in one. -/
theorem pd_one (g : Nat → Int) {n i : Nat} (h : n % 64 < 56) (hi : i < 64) : pd g n (64 * (n / 64) + i) = if i < n % 64 then g (64 * (n / 64) + i) else if i = n % 64 then 128 else if i < 56 then 0 else lnb n i := by
  have hp : padN n = 64 * (n / 64) + 64 := by unfold padN; omega
  by_cases h1 : i < n % 64
  · rw [if_pos h1, pd_b g (by omega)]
  · rw [if_neg h1]
    by_cases h2 : i = n % 64
    · rw [if_pos h2, show 64 * (n / 64) + i = n by omega, pd_1]
    · rw [if_neg h2]
      by_cases h3 : i < 56
      · rw [if_pos h3, pd_0 g (by omega) (by omega)]
      · have := pd_l g (n := n) (q := i - 56) (by omega)
        rw [if_neg h3]
        unfold lnb
        rw [show padN n - 8 + (i - 56) = 64 * (n / 64) + i by omega, show 7 - (i - 56) = 63 - i by omega] at this
        exact this
/-- The last two blocks. -/
theorem pd_two (g : Nat → Int) {n i : Nat} (h : 56 ≤ n % 64) (hi : i < 64) : pd g n (64 * (n / 64) + i) = if i < n % 64 then g (64 * (n / 64) + i) else if i = n % 64 then 128 else 0 := by
  have hp : padN n = 64 * (n / 64) + 128 := by unfold padN; omega
  by_cases h1 : i < n % 64
  · rw [if_pos h1, pd_b g (by omega)]
  · rw [if_neg h1]
    by_cases h2 : i = n % 64
    · rw [if_pos h2, show 64 * (n / 64) + i = n by omega, pd_1]
    · rw [if_neg h2, pd_0 g (by omega) (by omega)]
theorem pd_end2 (g : Nat → Int) {n i : Nat} (h : 56 ≤ n % 64) (hi : i < 64) : pd g n (64 * (n / 64 + 1) + i) = if i < 56 then 0 else lnb n i := by
  have hp : padN n = 64 * (n / 64) + 128 := by unfold padN; omega
  by_cases h3 : i < 56
  · rw [if_pos h3, pd_0 g (by omega) (by omega)]
  · have := pd_l g (n := n) (q := i - 56) (by omega)
    rw [if_neg h3]
    unfold lnb
    rw [show padN n - 8 + (i - 56) = 64 * (n / 64 + 1) + i by omega, show 7 - (i - 56) = 63 - i by omega] at this
    exact this
/-- The state behind the whole blocks. -/
theorem hsx_whole (g : Nat → Int) {n j : Nat} (h : j < n / 64) : hsx g n (j + 1) = blk (hsx g n j) (fun i => g (64 * j + i)) (hz true 64) := by
  rw [hsx_s]; exact blk_bytes fun i hi => pd_whole g h hi
/-- A digest whose end lies in one block. -/
theorem dig_one (g : Nat → Int) {n : Nat} (h : n % 64 < 56) {c : Nat → Int} (hc : ∀ i, i < 64 → c i = if i < n % 64 then g (64 * (n / 64) + i) else if i = n % 64 then 128 else if i < 56 then 0 else lnb n i) : dig g n = ob (blk (hsx g n (n / 64)) c (hz true 64)) := by
  unfold dig
  rw [padN_q, if_pos h, hsx_s, blk_bytes fun i hi => (pd_one g h hi).trans (hc i hi).symm]
/-- .. in two. -/
theorem dig_two (g : Nat → Int) {n : Nat} (h : 56 ≤ n % 64) {c d : Nat → Int} (hc : ∀ i, i < 64 → c i = if i < n % 64 then g (64 * (n / 64) + i) else if i = n % 64 then 128 else 0) (hd : ∀ i, i < 64 → d i = if i < 56 then 0 else lnb n i) : dig g n = ob (blk (blk (hsx g n (n / 64)) c (hz true 64)) d (hz true 64)) := by
  unfold dig
  rw [padN_q, if_neg (by omega), hsx_s, blk_bytes fun i hi => (pd_end2 g h hi).trans (hd i hi).symm, hsx_s, blk_bytes fun i hi => (pd_two g h hi).trans (hc i hi).symm]
end Go.Proofs.Ytklddcicfeakfaa.fpn
