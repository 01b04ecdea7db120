/- Floats that are whole numbers: how they are written and read, what they sum up to, come to and how they compare. No program is named here. -/
import Derived.Laws.ComplexArith
namespace Go.Proofs.Ytgkpcjopedleeaa

/-- A sign and a magnitude as a number. -/
def sg (s : Bool) (n : Nat) : Int := if s then -(n : Int) else (n : Int)
/-- The word of a whole number with its sign (nought has two). -/
def fw (s : Bool) (n : Nat) : Nat := Ieee.double.nearest s n 0

theorem log2_shift {n : Nat} (h : n ≠ 0) (k : Nat) : (n * 2 ^ k).log2 = n.log2 + k := by
  have hp : 0 < 2 ^ k := Nat.two_pow_pos k
  rw [Nat.log2_eq_iff (Nat.mul_ne_zero h (Nat.ne_of_gt hp))]
  have h1 := Nat.log2_self_le h
  have h2 := @Nat.lt_log2_self n
  refine ⟨?_, ?_⟩
  · rw [Nat.pow_add]; exact Nat.mul_le_mul_right _ h1
  · rw [show n.log2 + k + 1 = (n.log2 + 1) + k by omega, Nat.pow_add]; exact Nat.mul_lt_mul_of_pos_right h2 hp

theorem cut_shift (s : Bool) (a d : Nat) (h : a ≠ 0) : Ieee.Toward.even.cut s (a * 2 ^ d) d = a := by
  have hp : 0 < 2 ^ d := Nat.two_pow_pos d
  unfold Ieee.Toward.cut
  dsimp only
  rw [log2_shift h, Nat.min_eq_left (by omega), Nat.one_shiftLeft, Nat.mul_div_cancel _ hp, Nat.mul_mod_left]
  have e1 : decide (2 ^ d < 2 * 0) = false := by simp
  have e2 : (2 ^ d == 2 * 0) = false := by simp
  rw [e1, e2]
  rfl

theorem cut_none (w : Ieee.Toward) (s : Bool) (a : Nat) : w.cut s a 0 = a := by
  unfold Ieee.Toward.cut
  dsimp only
  rw [Nat.zero_min, Nat.one_shiftLeft]
  cases w <;> simp [Nat.mod_one]

/-- The rung of a whole number. -/
def rungOf (n : Nat) : Nat := (n.log2 + 1022) * 2 ^ 52 + n * 2 ^ (52 - n.log2)

theorem log2_le {n : Nat} (h0 : n ≠ 0) (h1 : n < 2 ^ 53) : n.log2 ≤ 52 := by
  have := (Nat.log2_lt h0 (k := 53)).2 h1
  omega

theorem top_bd {n : Nat} (h0 : n ≠ 0) (h1 : n < 2 ^ 53) : 2 ^ 52 ≤ n * 2 ^ (52 - n.log2) ∧ n * 2 ^ (52 - n.log2) < 2 ^ 53 := by
  have hl := log2_le h0 h1
  have a := Nat.log2_self_le h0
  have b := @Nat.lt_log2_self n
  have hp : 0 < 2 ^ (52 - n.log2) := Nat.two_pow_pos _
  have c := Nat.mul_le_mul_right (2 ^ (52 - n.log2)) a
  have d := Nat.mul_lt_mul_of_pos_right b hp
  rw [← Nat.pow_add, show n.log2 + (52 - n.log2) = 52 by omega] at c
  rw [← Nat.pow_add, show n.log2 + 1 + (52 - n.log2) = 53 by omega] at d
  exact ⟨c, d⟩

theorem leastPlace_eq : Ieee.double.leastPlace = -1074 := by decide
theorem binade_eq : Ieee.double.binade = 2 ^ 52 := rfl
theorem infRung_eq : Ieee.double.infRung = 2047 * 2 ^ 52 := by decide
theorem signWeight_eq : Ieee.double.signWeight = 2 ^ 63 := rfl

/-- A whole number below 2^53 is written as it is, however it is told. -/
theorem near_whole (s : Bool) (n k : Nat) (h0 : n ≠ 0) (h1 : n < 2 ^ 53) : Ieee.double.nearest s (n * 2 ^ k) (-(k : Int)) = Ieee.double.word s (rungOf n) := by
  have hl := log2_le h0 h1
  have hb := top_bd h0 h1
  have hm : n * 2 ^ k ≠ 0 := Nat.mul_ne_zero h0 (Nat.ne_of_gt (Nat.two_pow_pos k))
  unfold Ieee.Format.nearest
  rw [if_neg hm]
  dsimp only
  rw [log2_shift h0, leastPlace_eq, binade_eq, infRung_eq]
  have e1 : max (-(k : Int) + ((n.log2 + k : Nat) : Int) - ((Ieee.double.fractionBits : Nat) : Int)) (-1074) = (n.log2 : Int) - 52 := by
    rw [show Ieee.double.fractionBits = 52 from rfl]
    omega
  rw [e1]
  have e2 : ((n.log2 : Int) - 52 - -1074).toNat = n.log2 + 1022 := by omega
  rw [e2]
  have e3 : Ieee.Toward.even.cut s ((n * 2 ^ k) <<< (-(k : Int) - ((n.log2 : Int) - 52)).toNat) ((n.log2 : Int) - 52 - -(k : Int)).toNat = n * 2 ^ (52 - n.log2) := by
    by_cases hk : k + n.log2 ≤ 52
    · rw [show (-(k : Int) - ((n.log2 : Int) - 52)).toNat = 52 - n.log2 - k by omega, show ((n.log2 : Int) - 52 - -(k : Int)).toNat = 0 by omega, cut_none, Nat.shiftLeft_eq, Nat.mul_assoc, ← Nat.pow_add]
      congr 2
      omega
    · rw [show (-(k : Int) - ((n.log2 : Int) - 52)).toNat = 0 by omega, Nat.shiftLeft_eq, Nat.pow_zero, Nat.mul_one, show ((n.log2 : Int) - 52 - -(k : Int)).toNat = k + n.log2 - 52 by omega]
      rw [show n * 2 ^ k = n * 2 ^ (52 - n.log2) * 2 ^ (k + n.log2 - 52) by rw [Nat.mul_assoc, ← Nat.pow_add]; congr 2; omega]
      exact cut_shift s _ _ (Nat.mul_ne_zero h0 (Nat.ne_of_gt (Nat.two_pow_pos _)))
  rw [e3, Nat.min_eq_left ?_]
  · rfl
  · generalize n * 2 ^ (52 - n.log2) = t at hb
    generalize n.log2 = l at hl
    omega

theorem fw_pos (s : Bool) (n : Nat) (h0 : n ≠ 0) (h1 : n < 2 ^ 53) : fw s n = Ieee.double.word s (rungOf n) := by
  have := near_whole s n 0 h0 h1
  rw [Nat.pow_zero, Nat.mul_one] at this
  exact this
theorem near_zero (s : Bool) (p : Int) : Ieee.double.nearest s 0 p = Ieee.double.word s 0 := by
  unfold Ieee.Format.nearest
  rw [if_pos rfl]
theorem fw_zero (s : Bool) : fw s 0 = Ieee.double.word s 0 := near_zero s 0

theorem write_whole (s : Bool) (n k : Nat) (h1 : n < 2 ^ 53) : Ieee.double.nearest s (n * 2 ^ k) (-(k : Int)) = fw s n := by
  by_cases h0 : n = 0
  · subst h0; rw [Nat.zero_mul, near_zero, fw_zero]
  · rw [near_whole s n k h0 h1, fw_pos s n h0 h1]

theorem read_word (s : Bool) (r : Nat) (h : r < 2 ^ 63) : (Ieee.double.word s r / Ieee.double.signWeight % 2 == 1) = s ∧ Ieee.double.word s r % Ieee.double.signWeight = r := by
  unfold Ieee.Format.word
  rw [signWeight_eq]
  cases s
  · simp only [Bool.false_eq_true, if_false]
    refine ⟨?_, Nat.mod_eq_of_lt h⟩
    rw [Nat.div_eq_of_lt h]; rfl
  · simp only [if_true]
    refine ⟨?_, ?_⟩
    · rw [Nat.add_div_left _ (by decide), Nat.div_eq_of_lt h]; rfl
    · rw [Nat.add_mod_left]; exact Nat.mod_eq_of_lt h

/-- A whole number's word is read as it. -/
theorem read_whole (s : Bool) (n : Nat) (h1 : n < 2 ^ 53) : ∃ k : Nat, Ieee.double.read (fw s n) = .number s (n * 2 ^ k) (-(k : Int)) := by
  by_cases h0 : n = 0
  · subst h0
    obtain ⟨K, hK⟩ : ∃ K : Nat, K = 1074 := ⟨_, rfl⟩
    refine ⟨K, ?_⟩
    rw [fw_zero]
    unfold Ieee.Format.read
    obtain ⟨e1, e2⟩ := read_word s 0 (by decide)
    dsimp only
    rw [e1, e2, if_pos (by rw [binade_eq]; decide), leastPlace_eq, Nat.zero_mul, show (-1074 : Int) = -(K : Int) by omega]
  · refine ⟨52 - n.log2, ?_⟩
    have hl := log2_le h0 h1
    have hb := top_bd h0 h1
    rw [fw_pos s n h0 h1]
    unfold Ieee.Format.read
    have hr : rungOf n < 2 ^ 63 := by
      unfold rungOf
      generalize n * 2 ^ (52 - n.log2) = t at hb
      generalize n.log2 = l at hl
      omega
    obtain ⟨e1, e2⟩ := read_word s (rungOf n) hr
    dsimp only
    rw [e1, e2, binade_eq, infRung_eq, leastPlace_eq]
    have c1 : ¬ rungOf n < 2 ^ 52 := by
      unfold rungOf
      generalize n * 2 ^ (52 - n.log2) = t at hb
      generalize n.log2 = l at hl
      omega
    have c2 : rungOf n < 2047 * 2 ^ 52 := by
      unfold rungOf
      generalize n * 2 ^ (52 - n.log2) = t at hb
      generalize n.log2 = l at hl
      omega
    have c3 : 2 ^ 52 + rungOf n % 2 ^ 52 = n * 2 ^ (52 - n.log2) := by
      unfold rungOf
      generalize n * 2 ^ (52 - n.log2) = t at hb
      generalize n.log2 = l at hl
      omega
    have c4 : rungOf n / 2 ^ 52 - 1 = n.log2 + 1022 := by
      unfold rungOf
      generalize n * 2 ^ (52 - n.log2) = t at hb
      generalize n.log2 = l at hl
      omega
    rw [if_neg c1, if_pos c2, c3, c4, show (-1074 : Int) + ((n.log2 + 1022 : Nat) : Int) = -((52 - n.log2 : Nat) : Int) by omega]

theorem signed_shift (s : Bool) (n k j : Nat) : Ieee.signed s (n * 2 ^ k) j = sg s n * (2 : Int) ^ (k + j) := by
  unfold Ieee.signed sg
  rw [Nat.shiftLeft_eq, Nat.mul_assoc, ← Nat.pow_add]
  cases s <;> simp [Int.natCast_mul, Int.natCast_pow, Int.neg_mul]

theorem two_pow_pos (k : Nat) : (0 : Int) < 2 ^ k := Int.pow_pos (by decide)

theorem natAbs_shift (x : Int) (k : Nat) : (x * (2 : Int) ^ k).natAbs = x.natAbs * 2 ^ k := by
  rw [Int.natAbs_mul, Int.natAbs_pow]; rfl

theorem sum_whole (s t : Bool) (a b : Nat) (i j : Nat) (h : (sg s a + sg t b).natAbs < 2 ^ 53) :
    ((Ieee.Datum.number s (a * 2 ^ i) (-(i : Int))).sum (.number t (b * 2 ^ j) (-(j : Int)))).map Ieee.double.write = some (fw (if sg s a + sg t b = 0 then s && t else decide (sg s a + sg t b < 0)) (sg s a + sg t b).natAbs) := by
  unfold Ieee.Datum.sum
  dsimp only
  have hm : min (-(i : Int)) (-(j : Int)) = -((max i j : Nat) : Int) := by omega
  rw [hm, signed_shift, signed_shift]
  rw [show i + (-(i : Int) - -((max i j : Nat) : Int)).toNat = max i j by omega, show j + (-(j : Int) - -((max i j : Nat) : Int)).toNat = max i j by omega, ← Int.add_mul, natAbs_shift]
  generalize max i j = k
  have hp := two_pow_pos k
  have z : (sg s a + sg t b) * (2 : Int) ^ k = 0 ↔ sg s a + sg t b = 0 := by
    constructor
    · intro e
      rcases Int.mul_eq_zero.1 e with e | e
      · exact e
      · omega
    · intro e; rw [e, Int.zero_mul]
  have l : (sg s a + sg t b) * (2 : Int) ^ k < 0 ↔ sg s a + sg t b < 0 := by
    have := Int.mul_lt_mul_right (a := (2 : Int) ^ k) (b := sg s a + sg t b) (c := 0) hp
    rw [Int.zero_mul] at this
    exact this
  simp only [z, l, Option.map_some, Ieee.Format.write]
  rw [write_whole _ _ _ h]

/-- A sum's sign and magnitude. -/
theorem add_whole (s t : Bool) (a b : Nat) (ha : a < 2 ^ 53) (hb : b < 2 ^ 53) (h : (sg s a + sg t b).natAbs < 2 ^ 53) :
    floatBits .add .f64 (fw s a) (fw t b) = some (fw (if sg s a + sg t b = 0 then s && t else decide (sg s a + sg t b < 0)) (sg s a + sg t b).natAbs) := by
  obtain ⟨i, hi⟩ := read_whole s a ha
  obtain ⟨j, hj⟩ := read_whole t b hb
  show Ieee.double.add _ _ = _
  unfold Ieee.Format.add
  rw [hi, hj]
  exact sum_whole s t a b i j h

theorem sg_not (t : Bool) (b : Nat) : sg (!t) b = -sg t b := by cases t <;> simp [sg]

theorem sub_whole (s t : Bool) (a b : Nat) (ha : a < 2 ^ 53) (hb : b < 2 ^ 53) (h : (sg s a - sg t b).natAbs < 2 ^ 53) :
    floatBits .sub .f64 (fw s a) (fw t b) = some (fw (if sg s a - sg t b = 0 then s && !t else decide (sg s a - sg t b < 0)) (sg s a - sg t b).natAbs) := by
  obtain ⟨i, hi⟩ := read_whole s a ha
  obtain ⟨j, hj⟩ := read_whole t b hb
  show Ieee.double.sub _ _ = _
  unfold Ieee.Format.sub
  rw [hi, hj]
  have := sum_whole s (!t) a b i j (by rw [sg_not, ← Int.sub_eq_add_neg]; exact h)
  rw [sg_not, ← Int.sub_eq_add_neg] at this
  exact this

theorem mul_whole (s t : Bool) (a b : Nat) (ha : a < 2 ^ 53) (hb : b < 2 ^ 53) (h : a * b < 2 ^ 53) :
    floatBits .mul .f64 (fw s a) (fw t b) = some (fw (s ^^ t) (a * b)) := by
  obtain ⟨i, hi⟩ := read_whole s a ha
  obtain ⟨j, hj⟩ := read_whole t b hb
  show Ieee.double.mul _ _ = _
  unfold Ieee.Format.mul
  rw [hi, hj]
  unfold Ieee.Datum.product
  simp only [Option.map_some, Ieee.Format.write]
  rw [show a * 2 ^ i * (b * 2 ^ j) = a * b * 2 ^ (i + j) by rw [Nat.pow_add]; simp only [Nat.mul_assoc, Nat.mul_left_comm], show -(i : Int) + -(j : Int) = -((i + j : Nat) : Int) by omega]
  rw [write_whole _ _ _ h]

theorem compare_shift (x y : Int) (k : Nat) : compare (x * (2 : Int) ^ k) (y * (2 : Int) ^ k) = compare x y := by
  have hp := two_pow_pos k
  have l1 := Int.mul_lt_mul_right (a := (2 : Int) ^ k) (b := x) (c := y) hp
  rcases Int.lt_trichotomy x y with h | h | h
  · rw [Int.compare_eq_lt.2 h, Int.compare_eq_lt.2 (l1.2 h)]
  · subst h; simp
  · rw [Int.compare_eq_gt.2 h, Int.compare_eq_gt.2 ((Int.mul_lt_mul_right hp).2 h)]

theorem order_whole (s t : Bool) (a b : Nat) (ha : a < 2 ^ 53) (hb : b < 2 ^ 53) : Ieee.double.order (fw s a) (fw t b) = some (compare (sg s a) (sg t b)) := by
  obtain ⟨i, hi⟩ := read_whole s a ha
  obtain ⟨j, hj⟩ := read_whole t b hb
  unfold Ieee.Format.order
  rw [hi, hj]
  unfold Ieee.Datum.order
  dsimp only
  have hm : min (-(i : Int)) (-(j : Int)) = -((max i j : Nat) : Int) := by omega
  rw [hm, signed_shift, signed_shift]
  rw [show i + (-(i : Int) - -((max i j : Nat) : Int)).toNat = max i j by omega, show j + (-(j : Int) - -((max i j : Nat) : Int)).toNat = max i j by omega, compare_shift]

theorem cut_zero_shift (s : Bool) (a d : Nat) : Ieee.Toward.zero.cut s (a * 2 ^ d) d = a := by
  have hp : 0 < 2 ^ d := Nat.two_pow_pos d
  unfold Ieee.Toward.cut
  dsimp only
  by_cases h : a = 0
  · subst h; simp
  · rw [log2_shift h, Nat.min_eq_left (by omega), Nat.one_shiftLeft, Nat.mul_div_cancel _ hp]; rfl

theorem toInt_whole (s : Bool) (a : Nat) (ha : a < 2 ^ 53) : floatToIntVal .f64 (fw s a) .i64 = some (sg s a) := by
  obtain ⟨i, hi⟩ := read_whole s a ha
  unfold floatToIntVal
  have e : ((FloatKind.f64.decode (fw s a)).toInt .zero) = some (sg s a) := by
    show (Ieee.double.read (fw s a)).toInt .zero = _
    rw [hi]
    unfold Ieee.Datum.toInt Ieee.Datum.integral
    dsimp only
    rw [show (-(i : Int)).toNat = 0 by omega, Nat.shiftLeft_eq, Nat.pow_zero, Nat.mul_one, show (- -(i : Int)).toNat = i by omega, cut_zero_shift]
    have := signed_shift s a 0 0
    rw [Nat.pow_zero, Nat.mul_one] at this
    rw [this]
    simp
  rw [e]
  dsimp only
  have m1 : IntKind.i64.min = -9223372036854775808 := by decide
  have m2 : IntKind.i64.max = 9223372036854775807 := by decide
  rw [if_pos]
  rw [m1, m2]
  unfold sg
  cases s
  · rw [if_neg (by decide)]; omega
  · rw [if_pos rfl]; omega

/-- float64(n). -/
theorem ofInt_whole (n : Int) : floatOfInt .f64 n = fw (decide (n < 0)) n.natAbs := rfl

theorem sg_natAbs (n : Int) : sg (decide (n < 0)) n.natAbs = n := by
  unfold sg
  by_cases h : n < 0
  · rw [decide_eq_true h, if_pos rfl]; omega
  · rw [decide_eq_false h, if_neg (by decide)]; omega
end Go.Proofs.Ytgkpcjopedleeaa
