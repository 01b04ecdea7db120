/- Numbers of the base field, as values: P, six limbs in a block, how two are compared. -/
import Derived.Test.YtgdmjngajjoliaaDoorBA
import Derived.Test.YtgdmjngajjoliaaDoorWV
import Derived.Laws.StructEq
import Derived.Test.YtgdmjngajjoliaaDoorSV6
import Derived.Test.YtgdmjngajjoliaaDoorFV
namespace Go.Proofs.YtgdmjngajjoliaaDoor.fpn
open Go.RowKit
attribute [local go_sem ↓] Go.wp_at_zero Go.wp_at_succ
set_option linter.unusedVariables false

/-- R. -/
def RI : Int := 4002409555221667393417789825735904156556882819939007885332058136124031650490837864442687629129015664037894272559787
/-- R's limbs. -/
def rL : Nat → Int
  | 0 => 13402431016077863595
  | 1 => 2210141511517208575
  | 2 => 7435674573564081700
  | 3 => 7239337960414712511
  | 4 => 5412103778470702295
  | 5 => 1873798617647539866
  | _ => 0
theorem rL_rg : Rg rL 6 := fun i hi => by
  rcases (show i = 0 ∨ i = 1 ∨ i = 2 ∨ i = 3 ∨ i = 4 ∨ i = 5 by omega) with rfl | rfl | rfl | rfl | rfl | rfl <;> rw [B64_eq] <;> decide
theorem rL_val : val rL 6 = RI := by decide +kernel
/-- Four limbs as an array. -/
def frv (f : Nat → Int) : Value := .agg #[.int .u64 (f 0), .int .u64 (f 1), .int .u64 (f 2), .int .u64 (f 3), .int .u64 (f 4), .int .u64 (f 5)]
theorem mut_four (w : World) (f : Nat → Int) (t : TypeId) : Mut (w.alloc (.cells #[.int .u64 (f 0), .int .u64 (f 1), .int .u64 (f 2), .int .u64 (f 3), .int .u64 (f 4), .int .u64 (f 5)] t)) w.heap.size 0 6 f := fun j hj => by
  rcases (show j = 0 ∨ j = 1 ∨ j = 2 ∨ j = 3 ∨ j = 4 ∨ j = 5 by omega) with rfl | rfl | rfl | rfl | rfl | rfl <;> simp
theorem mut_noughts (w : World) (t : TypeId) : Mut (w.alloc (.cells #[.int .u64 0, .int .u64 0, .int .u64 0, .int .u64 0, .int .u64 0, .int .u64 0] t)) w.heap.size 0 6 Z := mut_four w Z t
/-- Two arrays of noughts. -/
theorem mut_two (w : World) (t t' : TypeId) : Mut ((w.alloc (.cells #[.int .u64 0, .int .u64 0, .int .u64 0, .int .u64 0, .int .u64 0, .int .u64 0] t)).alloc (.cells #[.int .u64 0, .int .u64 0, .int .u64 0, .int .u64 0, .int .u64 0, .int .u64 0] t')) (w.heap.size + 1) 0 6 Z ∧
    Mut ((w.alloc (.cells #[.int .u64 0, .int .u64 0, .int .u64 0, .int .u64 0, .int .u64 0, .int .u64 0] t)).alloc (.cells #[.int .u64 0, .int .u64 0, .int .u64 0, .int .u64 0, .int .u64 0, .int .u64 0] t')) w.heap.size 0 6 Z := by
  refine ⟨?_, (mut_noughts w t).below (B := (w.alloc (.cells #[.int .u64 0, .int .u64 0, .int .u64 0, .int .u64 0, .int .u64 0, .int .u64 0] t)).heap.size) (below_one _ _) (by rw [World.size_alloc]; omega)⟩
  have := mut_noughts (w.alloc (.cells #[.int .u64 0, .int .u64 0, .int .u64 0, .int .u64 0, .int .u64 0, .int .u64 0] t)) t'
  rwa [World.size_alloc] at this
theorem below_set6 {B b : Nat} {w x : World} (h : Below B w x) (hb : B ≤ b) (v0 v1 v2 v3 v4 v5 : Value) :
    Below B w ((((((x.setCell ⟨b, 0, none⟩ v0).setCell ⟨b, 1, none⟩ v1).setCell ⟨b, 2, none⟩ v2).setCell ⟨b, 3, none⟩ v3).setCell ⟨b, 4, none⟩ v4).setCell ⟨b, 5, none⟩ v5) := (((((h.setCell hb _).setCell hb _).setCell hb _).setCell hb _).setCell hb _).setCell hb _
/-- Four limbs from a slice of four. -/
theorem frv_lm (f : Nat → Int) : frv (lm f 6) = frv f := by
  unfold frv; rw [lm_in (by omega), lm_in (by omega), lm_in (by omega), lm_in (by omega), lm_in (by omega), lm_in (by omega)]
/-- The value is a scalar, the number x. -/
def IsFr (v : Value) (x : Int) : Prop := ∃ f, v = .agg #[.int .u64 (f 0), .int .u64 (f 1), .int .u64 (f 2), .int .u64 (f 3), .int .u64 (f 4), .int .u64 (f 5)] ∧ Rg f 6 ∧ val f 6 = x
/-- One array that came in, and one for the answer. -/
def pair (w : World) (f : Nat → Int) (t : TypeId) : World :=
  (w.alloc (.cells #[.int .u64 (f 0), .int .u64 (f 1), .int .u64 (f 2), .int .u64 (f 3), .int .u64 (f 4), .int .u64 (f 5)] t)).alloc (.cells #[.int .u64 0, .int .u64 0, .int .u64 0, .int .u64 0, .int .u64 0, .int .u64 0] t)
theorem pair_all (w : World) (f : Nat → Int) (t : TypeId) : Below w.heap.size w (pair w f t) ∧ (pair w f t).heap.size = w.heap.size + 2 ∧ Mut (pair w f t) w.heap.size 0 6 f ∧ Mut (pair w f t) (w.heap.size + 1) 0 6 Z := by
  unfold pair
  have m1 := mut_four w f t
  have m3 := mut_noughts (w.alloc (.cells #[.int .u64 (f 0), .int .u64 (f 1), .int .u64 (f 2), .int .u64 (f 3), .int .u64 (f 4), .int .u64 (f 5)] t)) t
  rw [World.size_alloc] at m3
  refine ⟨below_two _ _ _, by simp [World.size_alloc], ?_, m3⟩
  exact m1.below (below_one _ _) (by rw [World.size_alloc]; omega)
/-- Two arrays that came in, and one for the answer. -/
def three (w : World) (f g : Nat → Int) (t : TypeId) : World :=
  ((w.alloc (.cells #[.int .u64 (f 0), .int .u64 (f 1), .int .u64 (f 2), .int .u64 (f 3), .int .u64 (f 4), .int .u64 (f 5)] t)).alloc (.cells #[.int .u64 (g 0), .int .u64 (g 1), .int .u64 (g 2), .int .u64 (g 3), .int .u64 (g 4), .int .u64 (g 5)] t)).alloc (.cells #[.int .u64 0, .int .u64 0, .int .u64 0, .int .u64 0, .int .u64 0, .int .u64 0] t)
theorem three_all (w : World) (f g : Nat → Int) (t : TypeId) : Below w.heap.size w (three w f g t) ∧ (three w f g t).heap.size = w.heap.size + 3 ∧ At (three w f g t) (some ⟨w.heap.size, 0, none⟩) 6 f ∧ At (three w f g t) (some ⟨w.heap.size + 1, 0, none⟩) 6 g ∧ Mut (three w f g t) (w.heap.size + 2) 0 6 Z := by
  unfold three
  have m1 := mut_four w f t
  have m2 := mut_four (w.alloc (.cells #[.int .u64 (f 0), .int .u64 (f 1), .int .u64 (f 2), .int .u64 (f 3), .int .u64 (f 4), .int .u64 (f 5)] t)) g t
  rw [World.size_alloc] at m2
  have m3 := mut_noughts ((w.alloc (.cells #[.int .u64 (f 0), .int .u64 (f 1), .int .u64 (f 2), .int .u64 (f 3), .int .u64 (f 4), .int .u64 (f 5)] t)).alloc (.cells #[.int .u64 (g 0), .int .u64 (g 1), .int .u64 (g 2), .int .u64 (g 3), .int .u64 (g 4), .int .u64 (g 5)] t)) t
  rw [World.size_alloc, World.size_alloc] at m3
  refine ⟨Below.up (below_two _ _ _) (Nat.le_refl _) (below_one _ _), by simp [World.size_alloc], ?_, ?_, m3⟩
  · exact (m1.at.below (below_one _ _)).below (below_one _ _)
  · exact m2.at.below (below_one _ _)
theorem RI_pos : 0 < RI := by decide
theorem modR_lt (x : Int) : x % RI < RI := Int.emod_lt_of_pos _ RI_pos
theorem mut_set6 {w : World} {b : Nat} {f : Nat → Int} (h : Mut w b 0 6 f) (g : Nat → Int) :
    Mut ((((((w.setCell ⟨b, 0, none⟩ (.int .u64 (g 0))).setCell ⟨b, 1, none⟩ (.int .u64 (g 1))).setCell ⟨b, 2, none⟩ (.int .u64 (g 2))).setCell ⟨b, 3, none⟩ (.int .u64 (g 3))).setCell ⟨b, 4, none⟩ (.int .u64 (g 4))).setCell ⟨b, 5, none⟩ (.int .u64 (g 5))) b 0 6 g := by
  refine MutK.congr ((((((h.set0 (i := 0) (by omega) (g 0)).set0 (i := 1) (by omega) (g 1)).set0 (i := 2) (by omega) (g 2)).set0 (i := 3) (by omega) (g 3)).set0 (i := 4) (by omega) (g 4)).set0 (i := 5) (by omega) (g 5)) fun j hj => ?_
  rcases (show j = 0 ∨ j = 1 ∨ j = 2 ∨ j = 3 ∨ j = 4 ∨ j = 5 by omega) with rfl | rfl | rfl | rfl | rfl | rfl <;> simp [up]
/-- 2^512 modulo R, its limbs. -/
def cL : Nat → Int
  | 0 => 17644856173732828998
  | 1 => 754043588434789617
  | 2 => 10224657059481499349
  | 3 => 7488229067341005760
  | 4 => 11130996698012816685
  | 5 => 1267921511277847466
  | _ => 0
theorem cL_rg : Rg cL 6 := fun i hi => by
  rcases (show i = 0 ∨ i = 1 ∨ i = 2 ∨ i = 3 ∨ i = 4 ∨ i = 5 by omega) with rfl | rfl | rfl | rfl | rfl | rfl <;> rw [B64_eq] <;> decide
theorem cL_lt : val cL 6 < val rL 6 := by decide +kernel
theorem cL_val : val cL 6 % RI = pw 6 * pw 6 % RI := by decide +kernel
/-- The inverse of 2^256 modulo R. -/
def uI : Int := 3231460744492646417066832100176244795738767926513225105051837195607029917124509527734802654356338138714468589979680
theorem eqFr (a b c d p q a' b' c' d' p' q' : Int) (w : World) : (Op.equalIn 10000 24 (.agg #[.int .u64 a, .int .u64 b, .int .u64 c, .int .u64 d, .int .u64 p, .int .u64 q]) (.agg #[.int .u64 a', .int .u64 b', .int .u64 c', .int .u64 d', .int .u64 p', .int .u64 q'])).run Tryd.prog w = .ok (a == a' && (b == b' && (c == c' && (d == d' && (p == p' && q == q'))))) w := by
  have u3 := Tryd.underlying22
  have a3 := Tryd.isAgg22
  have z3 := Tryd.sizeOf22
  rw [show (10000 : Nat) = 9999 + 1 from rfl, Op.equalIn]
  simp only [Sem.run_bind, run_underlying Tryd.underlying24, Result.andThen_ok]
  simp only [Std.Legacy.Range.forIn_eq_forIn_range', Std.Legacy.Range.size, Nat.sub_zero, Nat.add_sub_cancel, Nat.div_one, List.range'_succ, List.range'_zero, List.forIn_cons, List.forIn_nil]
  go_simp
  by_cases h1 : a = a'
  · by_cases h2 : b = b'
    · by_cases h3 : c = c'
      · by_cases h4 : d = d'
        · by_cases h5 : p = p'
          · by_cases h6 : q = q' <;> simp [h1, h2, h3, h4, h5, h6]
          · simp [h1, h2, h3, h4, h5]
        · simp [h1, h2, h3, h4]
      · simp [h1, h2, h3]
    · simp [h1, h2]
  · simp [h1]
theorem eqFr_run (f g : Nat → Int) (rf : Rg f 6) (rg : Rg g 6) (w : World) : (Op.equalIn 10000 24 (.agg #[.int .u64 (f 0), .int .u64 (f 1), .int .u64 (f 2), .int .u64 (f 3), .int .u64 (f 4), .int .u64 (f 5)]) (.agg #[.int .u64 (g 0), .int .u64 (g 1), .int .u64 (g 2), .int .u64 (g 3), .int .u64 (g 4), .int .u64 (g 5)])).run Tryd.prog w = .ok (decide (val f 6 = val g 6)) w := by
  rw [eqFr]
  congr 1
  by_cases h : val f 6 = val g 6
  · have d := digits rf rg h
    rw [d 0 (by omega), d 1 (by omega), d 2 (by omega), d 3 (by omega), d 4 (by omega), d 5 (by omega)]; simp [h]
  · rw [decide_eq_false h]
    rw [Bool.eq_false_iff]
    intro hc
    simp only [Bool.and_eq_true, beq_iff_eq] at hc
    apply h
    exact val_congr fun i hi => by
      rcases (show i = 0 ∨ i = 1 ∨ i = 2 ∨ i = 3 ∨ i = 4 ∨ i = 5 by omega) with rfl | rfl | rfl | rfl | rfl | rfl
      · exact hc.1
      · exact hc.2.1
      · exact hc.2.2.1
      · exact hc.2.2.2.1
      · exact hc.2.2.2.2.1
      · exact hc.2.2.2.2.2
/-- R, a natural number. -/
def RN : Nat := 4002409555221667393417789825735904156556882819939007885332058136124031650490837864442687629129015664037894272559787
theorem RI_RN : RI = (RN : Int) := rfl
theorem val_one4 (x : Int) : val (one x) 6 = x := by simp [val, one, pw]
end Go.Proofs.YtgdmjngajjoliaaDoor.fpn
