/- Scalars as numbers and as values: R, four limbs in a block, how two are compared. -/
import Derived.Test.YtgdmjngajjoliaaDoorBA
import Derived.Test.YtgdmjngajjoliaaDoorWV
import Derived.Laws.StructEq
namespace Go.Proofs.YtgdmjngajjoliaaDoor
open Go.RowKit
attribute [local go_sem ↓] Go.wp_at_zero Go.wp_at_succ
set_option linter.unusedVariables false

/-- R. -/
def RI : Int := 52435875175126190479447740508185965837690552500527637822603658699938581184513
/-- R's limbs. -/
def rL : Nat → Int
  | 0 => 18446744069414584321
  | 1 => 6034159408538082302
  | 2 => 3691218898639771653
  | 3 => 8353516859464449352
  | _ => 0
theorem rL_rg : Rg rL 4 := fun i hi => by
  rcases (show i = 0 ∨ i = 1 ∨ i = 2 ∨ i = 3 by omega) with rfl | rfl | rfl | rfl <;> rw [B64_eq] <;> decide
theorem rL_val : val rL 4 = RI := by decide +kernel
/-- Four limbs as an array. -/
def frv (f : Nat → Int) : Value := .agg #[.int .u64 (f 0), .int .u64 (f 1), .int .u64 (f 2), .int .u64 (f 3)]
theorem mut_four (w : World) (f : Nat → Int) (t : TypeId) : Mut (w.alloc (.cells #[.int .u64 (f 0), .int .u64 (f 1), .int .u64 (f 2), .int .u64 (f 3)] t)) w.heap.size 0 4 f := fun j hj => by
  rcases (show j = 0 ∨ j = 1 ∨ j = 2 ∨ j = 3 by omega) with rfl | rfl | rfl | rfl <;> simp
theorem below_drew {w x : World} (h : Below w.drew.heap.size w.drew x) : Below w.heap.size w x := (show Below w.heap.size w w.drew from ⟨rfl, rfl, rfl, Nat.le_refl _, fun _ _ => rfl⟩).trans h
theorem mut_noughts (w : World) (t : TypeId) : Mut (w.alloc (.cells #[.int .u64 0, .int .u64 0, .int .u64 0, .int .u64 0] t)) w.heap.size 0 4 Z := mut_four w Z t
/-- Two arrays of noughts. -/
theorem mut_two (w : World) (t t' : TypeId) : Mut ((w.alloc (.cells #[.int .u64 0, .int .u64 0, .int .u64 0, .int .u64 0] t)).alloc (.cells #[.int .u64 0, .int .u64 0, .int .u64 0, .int .u64 0] t')) (w.heap.size + 1) 0 4 Z ∧
    Mut ((w.alloc (.cells #[.int .u64 0, .int .u64 0, .int .u64 0, .int .u64 0] t)).alloc (.cells #[.int .u64 0, .int .u64 0, .int .u64 0, .int .u64 0] t')) w.heap.size 0 4 Z := by
  refine ⟨?_, (mut_noughts w t).below (B := (w.alloc (.cells #[.int .u64 0, .int .u64 0, .int .u64 0, .int .u64 0] t)).heap.size) (below_one _ _) (by rw [World.size_alloc]; omega)⟩
  have := mut_noughts (w.alloc (.cells #[.int .u64 0, .int .u64 0, .int .u64 0, .int .u64 0] t)) t'
  rwa [World.size_alloc] at this
theorem MutK.cells4 {k : IntKind} {w : World} {b : Nat} {f : Nat → Int} (h : MutK k w b 0 4 f) :
    w.cell? ⟨b, 0, none⟩ = some (.int k (f 0)) ∧ w.cell? ⟨b, 1, none⟩ = some (.int k (f 1)) ∧ w.cell? ⟨b, 2, none⟩ = some (.int k (f 2)) ∧ w.cell? ⟨b, 3, none⟩ = some (.int k (f 3)) :=
  ⟨(h 0 (by omega)).1, (h 1 (by omega)).1, (h 2 (by omega)).1, (h 3 (by omega)).1⟩
theorem MutK.free4 {k : IntKind} {w : World} {b : Nat} {f : Nat → Int} (h : MutK k w b 0 4 f) :
    w.frozen? ⟨b, 0, none⟩ = false ∧ w.frozen? ⟨b, 1, none⟩ = false ∧ w.frozen? ⟨b, 2, none⟩ = false ∧ w.frozen? ⟨b, 3, none⟩ = false :=
  ⟨(h 0 (by omega)).2, (h 1 (by omega)).2, (h 2 (by omega)).2, (h 3 (by omega)).2⟩
theorem below_set4 {B b : Nat} {w x : World} (h : Below B w x) (hb : B ≤ b) (v0 v1 v2 v3 : Value) :
    Below B w ((((x.setCell ⟨b, 0, none⟩ v0).setCell ⟨b, 1, none⟩ v1).setCell ⟨b, 2, none⟩ v2).setCell ⟨b, 3, none⟩ v3) := (((h.setCell hb _).setCell hb _).setCell hb _).setCell hb _
theorem size64 : (Tryd.prog.info? 22).map (·.size) = some 1 := by kernel_rfl
/-- Four limbs from a slice of four. -/
theorem frv_lm (f : Nat → Int) : frv (lm f 4) = frv f := by
  unfold frv; rw [lm_in (by omega), lm_in (by omega), lm_in (by omega), lm_in (by omega)]
/-- The value is a scalar, the number x. -/
def IsFr (v : Value) (x : Int) : Prop := ∃ f, v = .agg #[.int .u64 (f 0), .int .u64 (f 1), .int .u64 (f 2), .int .u64 (f 3)] ∧ Rg f 4 ∧ val f 4 = x
theorem val_Z (n : Nat) : val Z n = 0 := val_zero fun _ _ => rfl
theorem Z_rg (n : Nat) : Rg Z n := fun _ _ => ⟨Int.le_refl _, B64_pos⟩
/-- One array that came in, and one for the answer. -/
def pair (w : World) (f : Nat → Int) (t : TypeId) : World :=
  (w.alloc (.cells #[.int .u64 (f 0), .int .u64 (f 1), .int .u64 (f 2), .int .u64 (f 3)] t)).alloc (.cells #[.int .u64 0, .int .u64 0, .int .u64 0, .int .u64 0] t)
theorem pair_all (w : World) (f : Nat → Int) (t : TypeId) : Below w.heap.size w (pair w f t) ∧ (pair w f t).heap.size = w.heap.size + 2 ∧ Mut (pair w f t) w.heap.size 0 4 f ∧ Mut (pair w f t) (w.heap.size + 1) 0 4 Z := by
  unfold pair
  have m1 := mut_four w f t
  have m3 := mut_noughts (w.alloc (.cells #[.int .u64 (f 0), .int .u64 (f 1), .int .u64 (f 2), .int .u64 (f 3)] t)) t
  rw [World.size_alloc] at m3
  refine ⟨below_two _ _ _, by simp [World.size_alloc], ?_, m3⟩
  exact m1.below (below_one _ _) (by rw [World.size_alloc]; omega)
/-- Two arrays that came in, and one for the answer. -/
def three (w : World) (f g : Nat → Int) (t : TypeId) : World :=
  ((w.alloc (.cells #[.int .u64 (f 0), .int .u64 (f 1), .int .u64 (f 2), .int .u64 (f 3)] t)).alloc (.cells #[.int .u64 (g 0), .int .u64 (g 1), .int .u64 (g 2), .int .u64 (g 3)] t)).alloc (.cells #[.int .u64 0, .int .u64 0, .int .u64 0, .int .u64 0] t)
theorem three_all (w : World) (f g : Nat → Int) (t : TypeId) : Below w.heap.size w (three w f g t) ∧ (three w f g t).heap.size = w.heap.size + 3 ∧ At (three w f g t) (some ⟨w.heap.size, 0, none⟩) 4 f ∧ At (three w f g t) (some ⟨w.heap.size + 1, 0, none⟩) 4 g ∧ Mut (three w f g t) (w.heap.size + 2) 0 4 Z := by
  unfold three
  have m1 := mut_four w f t
  have m2 := mut_four (w.alloc (.cells #[.int .u64 (f 0), .int .u64 (f 1), .int .u64 (f 2), .int .u64 (f 3)] t)) g t
  rw [World.size_alloc] at m2
  have m3 := mut_noughts ((w.alloc (.cells #[.int .u64 (f 0), .int .u64 (f 1), .int .u64 (f 2), .int .u64 (f 3)] t)).alloc (.cells #[.int .u64 (g 0), .int .u64 (g 1), .int .u64 (g 2), .int .u64 (g 3)] t)) t
  rw [World.size_alloc, World.size_alloc] at m3
  refine ⟨Below.up (below_two _ _ _) (Nat.le_refl _) (below_one _ _), by simp [World.size_alloc], ?_, ?_, m3⟩
  · exact (m1.at.below (below_one _ _)).below (below_one _ _)
  · exact m2.at.below (below_one _ _)
theorem RI_pos : 0 < RI := by decide
theorem modR_lt (x : Int) : x % RI < RI := Int.emod_lt_of_pos _ RI_pos
theorem mut_set4 {w : World} {b : Nat} {f : Nat → Int} (h : Mut w b 0 4 f) (g : Nat → Int) :
    Mut ((((w.setCell ⟨b, 0, none⟩ (.int .u64 (g 0))).setCell ⟨b, 1, none⟩ (.int .u64 (g 1))).setCell ⟨b, 2, none⟩ (.int .u64 (g 2))).setCell ⟨b, 3, none⟩ (.int .u64 (g 3))) b 0 4 g := by
  refine MutK.congr ((((h.set0 (i := 0) (by omega) (g 0)).set0 (i := 1) (by omega) (g 1)).set0 (i := 2) (by omega) (g 2)).set0 (i := 3) (by omega) (g 3)) fun j hj => ?_
  rcases (show j = 0 ∨ j = 1 ∨ j = 2 ∨ j = 3 by omega) with rfl | rfl | rfl | rfl <;> simp [up]
/-- 2^512 modulo R, its limbs. -/
def cL : Nat → Int
  | 0 => 14526898881837571181
  | 1 => 3129137299524312099
  | 2 => 419701826671360399
  | 3 => 524908885293268753
  | _ => 0
theorem cL_rg : Rg cL 4 := fun i hi => by
  rcases (show i = 0 ∨ i = 1 ∨ i = 2 ∨ i = 3 by omega) with rfl | rfl | rfl | rfl <;> rw [B64_eq] <;> decide
theorem cL_lt : val cL 4 < val rL 4 := by decide +kernel
theorem cL_val : val cL 4 % RI = pw 4 * pw 4 % RI := by decide +kernel
/-- The inverse of 2^256 modulo R. -/
def uI : Int := 12549076656233958353659347336803947287922716146853412054870763148006372261952
/-- R, a natural number. -/
def RN : Nat := 52435875175126190479447740508185965837690552500527637822603658699938581184513
theorem RI_RN : RI = (RN : Int) := rfl
/-- 7^((R - 1) / 2^32) modulo R, its limbs. -/
def gL : Nat → Int
  | 0 => 4046931900703378731
  | 1 => 13129826145616953529
  | 2 => 15031722638446171060
  | 3 => 1631043718794977056
  | _ => 0
theorem gL_rg : Rg gL 4 := fun i hi => by
  rcases (show i = 0 ∨ i = 1 ∨ i = 2 ∨ i = 3 by omega) with rfl | rfl | rfl | rfl <;> rw [B64_eq] <;> decide
theorem val_one4 (x : Int) : val (one x) 4 = x := by simp [val, one, pw]
end Go.Proofs.YtgdmjngajjoliaaDoor
