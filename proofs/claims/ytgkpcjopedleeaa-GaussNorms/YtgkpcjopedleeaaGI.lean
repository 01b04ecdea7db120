/- Words that stand for whole numbers, nought with either sign: sums, products, orders. No program is named here. -/
import Derived.Test.YtgkpcjopedleeaaGF
namespace Go.Proofs.Ytgkpcjopedleeaa

/-- float64(n). -/
def fi (n : Int) : Nat := fw (decide (n < 0)) n.natAbs
/-- The word stands for x (nought with either sign). -/
def IsF (u : Nat) (x : Int) : Prop := ∃ s n, u = fw s n ∧ sg s n = x ∧ n < 2 ^ 53

theorem sg_abs (s : Bool) (n : Nat) : (sg s n).natAbs = n := by cases s <;> simp [sg]
theorem IsF.lt {u : Nat} {x : Int} (h : IsF u x) : x.natAbs < 2 ^ 53 := by
  obtain ⟨s, n, -, rfl, hn⟩ := h; rw [sg_abs]; exact hn
theorem IsF.fi {x : Int} (h : x.natAbs < 2 ^ 53) : IsF (fi x) x := ⟨_, _, rfl, sg_natAbs x, h⟩
/-- But for nought's sign there is one word. -/
theorem IsF.one {u : Nat} {x : Int} (h : IsF u x) (h0 : x ≠ 0) : u = Go.Proofs.Ytgkpcjopedleeaa.fi x := by
  obtain ⟨s, n, rfl, rfl, hn⟩ := h
  unfold Go.Proofs.Ytgkpcjopedleeaa.fi
  rw [sg_abs]
  congr 1
  unfold sg at *
  cases s <;> simp only [Bool.false_eq_true, if_false, if_true] at * <;> simp <;> omega

theorem IsF.add {u v : Nat} {x y : Int} (hu : IsF u x) (hv : IsF v y) (h : (x + y).natAbs < 2 ^ 53) : ∃ r, floatBits .add .f64 u v = some r ∧ IsF r (x + y) := by
  obtain ⟨s, a, rfl, rfl, ha⟩ := hu
  obtain ⟨t, b, rfl, rfl, hb⟩ := hv
  refine ⟨_, add_whole s t a b ha hb h, _, _, rfl, ?_, h⟩
  by_cases hz : sg s a + sg t b = 0
  · rw [if_pos hz, hz]; cases (s && t) <;> rfl
  · rw [if_neg hz, sg_natAbs]

theorem IsF.sub {u v : Nat} {x y : Int} (hu : IsF u x) (hv : IsF v y) (h : (x - y).natAbs < 2 ^ 53) : ∃ r, floatBits .sub .f64 u v = some r ∧ IsF r (x - y) := by
  obtain ⟨s, a, rfl, rfl, ha⟩ := hu
  obtain ⟨t, b, rfl, rfl, hb⟩ := hv
  refine ⟨_, sub_whole s t a b ha hb h, _, _, rfl, ?_, h⟩
  by_cases hz : sg s a - sg t b = 0
  · rw [if_pos hz, hz]; cases (s && !t) <;> rfl
  · rw [if_neg hz, sg_natAbs]

theorem sg_mul (s t : Bool) (a b : Nat) : sg (s ^^ t) (a * b) = sg s a * sg t b := by
  cases s <;> cases t <;> simp [sg, Int.natCast_mul, Int.neg_mul, Int.mul_neg]

theorem IsF.mul {u v : Nat} {x y : Int} (hu : IsF u x) (hv : IsF v y) (h : (x * y).natAbs < 2 ^ 53) : ∃ r, floatBits .mul .f64 u v = some r ∧ IsF r (x * y) := by
  obtain ⟨s, a, rfl, rfl, ha⟩ := hu
  obtain ⟨t, b, rfl, rfl, hb⟩ := hv
  have hm : a * b < 2 ^ 53 := by rw [Int.natAbs_mul, sg_abs, sg_abs] at h; exact h
  exact ⟨_, mul_whole s t a b ha hb hm, _, _, rfl, sg_mul s t a b, hm⟩

theorem fi_zero : fi 0 = fw false 0 := rfl

/-- x + 0 has no nought below 0. -/
theorem IsF.plain {u : Nat} {x : Int} (hu : IsF u x) : floatBits .add .f64 u (Go.Proofs.Ytgkpcjopedleeaa.fi 0) = some (Go.Proofs.Ytgkpcjopedleeaa.fi x) ∧ floatBits .add .f64 (Go.Proofs.Ytgkpcjopedleeaa.fi 0) u = some (Go.Proofs.Ytgkpcjopedleeaa.fi x) := by
  obtain ⟨s, a, rfl, rfl, ha⟩ := hu
  have z : sg false 0 = 0 := rfl
  rw [fi_zero]
  have h1 := add_whole s false a 0 ha (by decide) (by rw [z, Int.add_zero, sg_abs]; exact ha)
  have h2 := add_whole false s 0 a (by decide) ha (by rw [z, Int.zero_add, sg_abs]; exact ha)
  rw [z, Int.add_zero] at h1
  rw [z, Int.zero_add] at h2
  rw [h1, h2]
  unfold Go.Proofs.Ytgkpcjopedleeaa.fi
  by_cases hz : sg s a = 0
  · rw [hz]; simp
  · rw [if_neg hz, if_neg hz]; exact ⟨rfl, rfl⟩

/-- 0 - x has no nought below 0. -/
theorem IsF.neg {u : Nat} {x : Int} (hu : IsF u x) : floatBits .sub .f64 (Go.Proofs.Ytgkpcjopedleeaa.fi 0) u = some (Go.Proofs.Ytgkpcjopedleeaa.fi (-x)) := by
  obtain ⟨s, a, rfl, rfl, ha⟩ := hu
  have z : sg false 0 = 0 := rfl
  rw [fi_zero]
  have h2 := sub_whole false s 0 a (by decide) ha (by rw [z, Int.zero_sub, Int.natAbs_neg, sg_abs]; exact ha)
  rw [z, Int.zero_sub] at h2
  rw [h2]
  unfold Go.Proofs.Ytgkpcjopedleeaa.fi
  by_cases hz : -sg s a = 0
  · rw [hz]; simp
  · rw [if_neg hz]

theorem IsF.order {u v : Nat} {x y : Int} (hu : IsF u x) (hv : IsF v y) : Ieee.double.order u v = some (compare x y) := by
  obtain ⟨s, a, rfl, rfl, ha⟩ := hu
  obtain ⟨t, b, rfl, rfl, hb⟩ := hv
  exact order_whole s t a b ha hb

theorem IsF.eq {u v : Nat} {x y : Int} (hu : IsF u x) (hv : IsF v y) : (Ieee.double.order u v == some .eq) = decide (x = y) := by
  rw [IsF.order hu hv]
  rcases Int.lt_trichotomy x y with h | h | h
  · rw [Int.compare_eq_lt.2 h, decide_eq_false (by omega)]; rfl
  · rw [h, Int.compare_eq_eq.2 rfl, decide_eq_true rfl]; rfl
  · rw [Int.compare_eq_gt.2 h, decide_eq_false (by omega)]; rfl
theorem IsF.gt {u v : Nat} {x y : Int} (hu : IsF u x) (hv : IsF v y) : (Ieee.double.order u v == some .gt) = decide (y < x) := by
  rw [IsF.order hu hv]
  rcases Int.lt_trichotomy x y with h | h | h
  · rw [Int.compare_eq_lt.2 h, decide_eq_false (by omega)]; rfl
  · rw [h, Int.compare_eq_eq.2 rfl, decide_eq_false (by omega)]; rfl
  · rw [Int.compare_eq_gt.2 h, decide_eq_true h]; rfl
theorem IsF.lss {u v : Nat} {x y : Int} (hu : IsF u x) (hv : IsF v y) : (Ieee.double.order u v == some .lt) = decide (x < y) := by
  rw [IsF.order hu hv]
  rcases Int.lt_trichotomy x y with h | h | h
  · rw [Int.compare_eq_lt.2 h, decide_eq_true h]; rfl
  · rw [h, Int.compare_eq_eq.2 rfl, decide_eq_false (by omega)]; rfl
  · rw [Int.compare_eq_gt.2 h, decide_eq_false (by omega)]; rfl

theorem IsF.toInt {u : Nat} {x : Int} (hu : IsF u x) : floatToIntVal .f64 u .i64 = some x := by
  obtain ⟨s, a, rfl, rfl, ha⟩ := hu
  exact toInt_whole s a ha

/-- The product of two whole complex numbers; nought may have either sign. -/
theorem IsF.cmul {a b c d : Nat} {x y z t : Int} (ha : IsF a x) (hb : IsF b y) (hc : IsF c z) (hd : IsF d t)
    (h1 : (x * z).natAbs < 2 ^ 53) (h2 : (y * t).natAbs < 2 ^ 53) (h3 : (x * t).natAbs < 2 ^ 53) (h4 : (y * z).natAbs < 2 ^ 53) (h5 : (x * z - y * t).natAbs < 2 ^ 53) (h6 : (x * t + y * z).natAbs < 2 ^ 53) :
    ∃ r i, cMulBits a b c d = some (r, i) ∧ IsF r (x * z - y * t) ∧ IsF i (x * t + y * z) := by
  obtain ⟨p1, e1, f1⟩ := ha.mul hc h1
  obtain ⟨p2, e2, f2⟩ := hb.mul hd h2
  obtain ⟨p3, e3, f3⟩ := ha.mul hd h3
  obtain ⟨p4, e4, f4⟩ := hb.mul hc h4
  obtain ⟨r, e5, f5⟩ := f1.sub f2 h5
  obtain ⟨i, e6, f6⟩ := f3.add f4 h6
  refine ⟨r, i, ?_, f5, f6⟩
  unfold cMulBits
  rw [e1, e2, e3, e4]
  simp only [Option.bind_some]
  rw [e5, e6]
  rfl

theorem IsF.cadd {a b c d : Nat} {x y z t : Int} (ha : IsF a x) (hb : IsF b y) (hc : IsF c z) (hd : IsF d t) (h1 : (x + z).natAbs < 2 ^ 53) (h2 : (y + t).natAbs < 2 ^ 53) :
    ∃ r i, cSumBits .add .f64 a b c d = some (r, i) ∧ IsF r (x + z) ∧ IsF i (y + t) := by
  obtain ⟨r, e1, f1⟩ := ha.add hc h1
  obtain ⟨i, e2, f2⟩ := hb.add hd h2
  refine ⟨r, i, ?_, f1, f2⟩
  unfold cSumBits
  rw [e1, e2]; rfl
theorem IsF.csub {a b c d : Nat} {x y z t : Int} (ha : IsF a x) (hb : IsF b y) (hc : IsF c z) (hd : IsF d t) (h1 : (x - z).natAbs < 2 ^ 53) (h2 : (y - t).natAbs < 2 ^ 53) :
    ∃ r i, cSumBits .sub .f64 a b c d = some (r, i) ∧ IsF r (x - z) ∧ IsF i (y - t) := by
  obtain ⟨r, e1, f1⟩ := ha.sub hc h1
  obtain ⟨i, e2, f2⟩ := hb.sub hd h2
  refine ⟨r, i, ?_, f1, f2⟩
  unfold cSumBits
  rw [e1, e2]; rfl

/-- 1 / 0: an infinity with nought's sign. -/
theorem one_over (s : Bool) : ∃ r, floatBits .quo .f64 (fi 1) (fw s 0) = some r ∧ (Ieee.double.order r (fi 0) == some .gt) = !s := by
  cases s
  · exact ⟨_, rfl, by decide +kernel⟩
  · exact ⟨_, rfl, by decide +kernel⟩
end Go.Proofs.Ytgkpcjopedleeaa
