/- Words by other bits' ways: choices, majorities, four bytes at once. No program is named here. -/
import Derived.Test.YtklddcicfeakfaaDC
namespace Go.Proofs.Ytklddcicfeakfaa.Pl
open Go
set_option linter.unusedSimpArgs false
set_option linter.unusedVariables false
theorem bits_eq {a b : BitVec 32} (h : ∀ i, i < 32 → a.getLsbD i = b.getLsbD i) : a = b := BitVec.eq_of_getLsbD_eq fun i hi => h i hi
theorem ch_or (e f g : BitVec 32) : e &&& f ||| ~~~e &&& g = e &&& f ^^^ ~~~e &&& g := bits_eq fun i hi => by
  simp only [BitVec.getLsbD_or, BitVec.getLsbD_and, BitVec.getLsbD_xor, BitVec.getLsbD_not, BitVec.getLsbD_shiftLeft, BitVec.getLsbD_ushiftRight, BitVec.getLsbD_zero, hi, decide_true, Bool.true_and]; cases e.getLsbD i <;> cases f.getLsbD i <;> cases g.getLsbD i <;> rfl
theorem ch_add (e f g : BitVec 32) : e &&& f ^^^ ~~~e &&& g = (e &&& f) + (~~~e &&& g) := by
  rw [← ch_or]
  refine (BitVec.add_eq_or_of_and_eq_zero _ _ (bits_eq fun i hi => ?_)).symm
  simp only [BitVec.getLsbD_or, BitVec.getLsbD_and, BitVec.getLsbD_xor, BitVec.getLsbD_not, BitVec.getLsbD_shiftLeft, BitVec.getLsbD_ushiftRight, BitVec.getLsbD_zero, hi, decide_true, Bool.true_and]; cases e.getLsbD i <;> cases f.getLsbD i <;> cases g.getLsbD i <;> rfl
theorem ch_x (e f g : BitVec 32) : g ^^^ e &&& (f ^^^ g) = e &&& f ^^^ ~~~e &&& g := bits_eq fun i hi => by
  simp only [BitVec.getLsbD_or, BitVec.getLsbD_and, BitVec.getLsbD_xor, BitVec.getLsbD_not, BitVec.getLsbD_shiftLeft, BitVec.getLsbD_ushiftRight, BitVec.getLsbD_zero, hi, decide_true, Bool.true_and]; cases e.getLsbD i <;> cases f.getLsbD i <;> cases g.getLsbD i <;> rfl
theorem maj_or (a b c : BitVec 32) : a &&& b ||| a &&& c ||| b &&& c = a &&& b ^^^ a &&& c ^^^ b &&& c := bits_eq fun i hi => by
  simp only [BitVec.getLsbD_or, BitVec.getLsbD_and, BitVec.getLsbD_xor, BitVec.getLsbD_not, BitVec.getLsbD_shiftLeft, BitVec.getLsbD_ushiftRight, BitVec.getLsbD_zero, hi, decide_true, Bool.true_and]; cases a.getLsbD i <;> cases b.getLsbD i <;> cases c.getLsbD i <;> rfl
theorem maj_o2 (a b c : BitVec 32) : a &&& b ||| c &&& (a ||| b) = a &&& b ^^^ a &&& c ^^^ b &&& c := bits_eq fun i hi => by
  simp only [BitVec.getLsbD_or, BitVec.getLsbD_and, BitVec.getLsbD_xor, BitVec.getLsbD_not, BitVec.getLsbD_shiftLeft, BitVec.getLsbD_ushiftRight, BitVec.getLsbD_zero, hi, decide_true, Bool.true_and]; cases a.getLsbD i <;> cases b.getLsbD i <;> cases c.getLsbD i <;> rfl
theorem maj_o3 (a b c : BitVec 32) : a &&& (b ||| c) ||| b &&& c = a &&& b ^^^ a &&& c ^^^ b &&& c := bits_eq fun i hi => by
  simp only [BitVec.getLsbD_or, BitVec.getLsbD_and, BitVec.getLsbD_xor, BitVec.getLsbD_not, BitVec.getLsbD_shiftLeft, BitVec.getLsbD_ushiftRight, BitVec.getLsbD_zero, hi, decide_true, Bool.true_and]; cases a.getLsbD i <;> cases b.getLsbD i <;> cases c.getLsbD i <;> rfl
theorem maj_x2 (a b c : BitVec 32) : a &&& (b ^^^ c) ^^^ b &&& c = a &&& b ^^^ a &&& c ^^^ b &&& c := bits_eq fun i hi => by
  simp only [BitVec.getLsbD_or, BitVec.getLsbD_and, BitVec.getLsbD_xor, BitVec.getLsbD_not, BitVec.getLsbD_shiftLeft, BitVec.getLsbD_ushiftRight, BitVec.getLsbD_zero, hi, decide_true, Bool.true_and]; cases a.getLsbD i <;> cases b.getLsbD i <;> cases c.getLsbD i <;> rfl
/-- A turn to the left is one to the right. -/
theorem rot_left (x : BitVec 32) (n : Nat) : x <<< (32 - n) ||| x >>> n = rot x n := by unfold rot; exact BitVec.or_comm _ _
theorem rot_xor (x : BitVec 32) (n : Nat) (h : 0 < n) (h2 : n < 32) : x >>> n ^^^ x <<< (32 - n) = rot x n := bits_eq fun i hi => by
  unfold rot
  simp only [BitVec.getLsbD_or, BitVec.getLsbD_and, BitVec.getLsbD_xor, BitVec.getLsbD_not, BitVec.getLsbD_shiftLeft, BitVec.getLsbD_ushiftRight, BitVec.getLsbD_zero, hi, decide_true, Bool.true_and]
  by_cases h3 : i < 32 - n
  · simp [h3]
  · have : x.getLsbD (n + i) = false := BitVec.getLsbD_of_ge _ _ (by omega)
    simp [this]
theorem rot_add (x : BitVec 32) (n : Nat) (h : 0 < n) (h2 : n < 32) : x >>> n + x <<< (32 - n) = rot x n := by
  unfold rot
  refine BitVec.add_eq_or_of_and_eq_zero _ _ (bits_eq fun i hi => ?_)
  simp only [BitVec.getLsbD_or, BitVec.getLsbD_and, BitVec.getLsbD_xor, BitVec.getLsbD_not, BitVec.getLsbD_shiftLeft, BitVec.getLsbD_ushiftRight, BitVec.getLsbD_zero, hi, decide_true, Bool.true_and]
  by_cases h4 : i < 32 - n
  · simp [h4]
  · have : x.getLsbD (n + i) = false := BitVec.getLsbD_of_ge _ _ (by omega)
    simp [this]
theorem low8 {y : BitVec 32} (hy : y.toNat < 256) (i : Nat) (h : 8 ≤ i) : y.getLsbD i = false := by
  show y.toNat.testBit i = false
  exact Nat.testBit_lt_two_pow (Nat.lt_of_lt_of_le hy (Nat.pow_le_pow_right (by decide) h : 2 ^ 8 ≤ 2 ^ i))
theorem shl_or8 (a y : BitVec 32) (hy : y.toNat < 256) : a <<< 8 ||| y = a <<< 8 + y := by
  refine (BitVec.add_eq_or_of_and_eq_zero _ _ (bits_eq fun i hi => ?_)).symm
  simp only [BitVec.getLsbD_or, BitVec.getLsbD_and, BitVec.getLsbD_xor, BitVec.getLsbD_not, BitVec.getLsbD_shiftLeft, BitVec.getLsbD_ushiftRight, BitVec.getLsbD_zero, hi, decide_true, Bool.true_and]
  by_cases h : i < 8
  · simp [h]
  · rw [low8 hy i (by omega)]; simp
/-- Four bytes of a word, at once. -/
theorem word4 (x y z t : BitVec 32) (hy : y.toNat < 256) (hz : z.toNat < 256) (ht : t.toNat < 256) : x <<< 24 ||| y <<< 16 ||| z <<< 8 ||| t = ((((0 : BitVec 32) <<< 8 + x) <<< 8 + y) <<< 8 + z) <<< 8 + t := by
  rw [show ((0 : BitVec 32) <<< 8 + x) = x by simp, ← shl_or8 _ y hy, ← shl_or8 _ z hz, ← shl_or8 _ t ht]
  refine bits_eq fun i hi => ?_
  simp only [BitVec.getLsbD_or, BitVec.getLsbD_shiftLeft]
  by_cases h1 : i < 8
  · simp [h1, show i < 16 by omega, show i < 24 by omega]
  · by_cases h2 : i < 16
    · simp [h1, h2, hi, show i - 8 < 8 by omega, show i < 24 by omega, show i - 8 < 16 by omega]
    · by_cases h3 : i < 24
      · simp [h1, h2, h3, hi, show ¬ i - 8 < 8 by omega, show i - 8 - 8 < 8 by omega, show i - 8 - 8 = i - 16 by omega, show i - 8 < 32 by omega, show i - 16 < 8 by omega]
      · simp [h1, h2, h3, hi, show ¬ i - 8 < 8 by omega, show ¬ i - 8 - 8 < 8 by omega, show i - 8 - 8 = i - 16 by omega, show i - 8 - 8 - 8 = i - 24 by omega, show i - 8 < 32 by omega, show i - 16 < 32 by omega, show i - 16 - 8 = i - 24 by omega, show ¬ i - 16 < 8 by omega]
theorem zx_lt (a : Int) (h0 : 0 ≤ a) (h1 : a < 256) : (zx a).toNat < 256 := by
  unfold zx
  rw [BitVec.toNat_ofInt]
  omega
/-- The first sixteen words, one by one. -/
theorem wst_word (c : Nat → Int) (i : Nat) : ∀ m, wst c (4 * m) i = 0 ∨ i < m := fun m => by
  induction m with
  | zero => left; rw [Nat.mul_zero, wst_0]
  | succ m ih =>
    rw [show 4 * (m + 1) = 4 * m + 1 + 1 + 1 + 1 by omega, wst_s, wst_s, wst_s, wst_s, show (4 * m + 1 + 1 + 1) / 4 = m by omega, show (4 * m + 1 + 1) / 4 = m by omega, show (4 * m + 1) / 4 = m by omega, show 4 * m / 4 = m by omega]
    rcases ih with ih | ih
    · by_cases e : i = m
      · right; omega
      · left; rw [wup_ne e, wup_ne e, wup_ne e, wup_ne e]; exact ih
    · right; omega
theorem wst_4 (c : Nat → Int) (m : Nat) : wst c (4 * (m + 1)) = wup (wst c (4 * m)) m (((((0 : BitVec 32) <<< 8 + zx (c (4 * m))) <<< 8 + zx (c (4 * m + 1))) <<< 8 + zx (c (4 * m + 2))) <<< 8 + zx (c (4 * m + 3))) := by
  have h0 : wst c (4 * m) m = 0 := by
    rcases wst_word c m m with h | h
    · exact h
    · omega
  rw [show 4 * (m + 1) = 4 * m + 1 + 1 + 1 + 1 by omega, wst_s, wst_s, wst_s, wst_s, show (4 * m + 1 + 1 + 1) / 4 = m by omega, show (4 * m + 1 + 1) / 4 = m by omega, show (4 * m + 1) / 4 = m by omega, show 4 * m / 4 = m by omega]
  funext i
  by_cases e : i = m
  · subst e; simp only [wup_at, h0]
  · rw [wup_ne e, wup_ne e, wup_ne e, wup_ne e, wup_ne e]
theorem wst_o (c : Nat → Int) (hc : ∀ i, i < 64 → 0 ≤ c i ∧ c i < 256) (m : Nat) (hm : m < 16) : wst c (4 * (m + 1)) = wup (wst c (4 * m)) m (zx (c (4 * m)) <<< 24 ||| zx (c (4 * m + 1)) <<< 16 ||| zx (c (4 * m + 2)) <<< 8 ||| zx (c (4 * m + 3))) := by
  have b := fun i hi => zx_lt (c i) (hc i hi).1 (hc i hi).2
  rw [wst_4, word4 _ _ _ _ (b (4 * m + 1) (by omega)) (b (4 * m + 2) (by omega)) (b (4 * m + 3) (by omega))]
end Go.Proofs.Ytklddcicfeakfaa.Pl
