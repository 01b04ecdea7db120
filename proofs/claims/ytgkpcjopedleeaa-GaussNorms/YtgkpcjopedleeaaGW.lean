/- What is asked of package gauss: each of its functions answers the document's number, in new memory alone; that the statements begin; the walk of GaussTwo. -/
import Derived.Test.YtgkpcjopedleeaaGN
import Derived.Test.YtgkpcjopedleeaaGT
import Derived.Test.YtgkpcjopedleeaaGZ
import Derived.Deep.RegionHeld3
import Derived.Below
namespace Go.Proofs.Ytgkpcjopedleeaa
open Go.RowKit
set_option linter.unusedVariables false

theorem Below.up {B : Nat} {w x y : World} (h : Below B w x) (hB : B ≤ w.heap.size) (k : Below x.heap.size x y) : Below B w y := h.trans (k.mono (Nat.le_trans hB h.size))

/-- Parts of 2^20 at most. -/
def Wh (a : Gz) : Prop := a.1.natAbs ≤ 1048576 ∧ a.2.natAbs ≤ 1048576
/-- A whole complex number. -/
def gv (a : Gz) : Value := .complex .f64 (fi a.1) (fi a.2)
/-- To the nearest, halves up. -/
def near (n d : Int) : Int := (2 * n + d) / (2 * d)
/-- The quotient. -/
def gq (a b : Gz) : Gz := (near (gm a (gc b)).1 (gn b), near (gm a (gc b)).2 (gn b))

/-- Four numbers turned. -/
def tu (l : Gz × Gz × Gz × Gz) (i : Gz) : Gz × Gz × Gz × Gz :=
  (ga (ga l.1 l.2.1) (ga l.2.2.1 l.2.2.2), ga (ga l.1 (gm l.2.1 i)) (ga (gm l.2.2.1 (-1, 0)) (gm l.2.2.2 (gm i (-1, 0)))), ga (ga l.1 (gm l.2.1 (-1, 0))) (ga l.2.2.1 (gm l.2.2.2 (-1, 0))), ga (ga l.1 (gm l.2.1 (gm i (-1, 0)))) (ga (gm l.2.2.1 (-1, 0)) (gm l.2.2.2 i)))
/-- Four numbers as an array. -/
def gv4 (l : Gz × Gz × Gz × Gz) : Value := .agg #[.complex .f64 (fi l.1.1) (fi l.1.2), .complex .f64 (fi l.2.1.1) (fi l.2.1.2), .complex .f64 (fi l.2.2.1.1) (fi l.2.2.1.2), .complex .f64 (fi l.2.2.2.1) (fi l.2.2.2.2)]

/-- The answers of package gauss. -/
structure GaOk : Prop where
  may : ∀ (a : Gz) (w : World), Wh a → Calls Try.prog 17 #[gv a] w fun e w' => e = .returned (.bool true) ∧ Below w.heap.size w w'
  mayHalf : ∀ (w : World), Calls Try.prog 17 #[.complex .f64 4602678819172646912 0] w fun e w' => e = .returned (.bool false) ∧ Below w.heap.size w w'
  norm : ∀ (a : Gz) (w : World), Wh a → Calls Try.prog 10 #[gv a] w fun e w' => e = .returned (.int .i64 (gn a)) ∧ Below w.heap.size w w'
  mul : ∀ (a b : Gz) (w : World), Wh a → Wh b → Calls Try.prog 11 #[gv a, gv b] w fun e w' => e = .returned (gv (gm a b)) ∧ Below w.heap.size w w'
  add : ∀ (a b : Gz) (w : World), Wh a → Wh b → Calls Try.prog 14 #[gv a, gv b] w fun e w' => e = .returned (gv (ga a b)) ∧ Below w.heap.size w w'
  conj : ∀ (a : Gz) (w : World), Wh a → Calls Try.prog 12 #[gv a] w fun e w' => e = .returned (gv (gc a)) ∧ Below w.heap.size w w'
  div0 : ∀ (a : Gz) (w : World), Wh a → Calls Try.prog 13 #[gv a, gv (0, 0)] w fun e w' => e = .returned (.tuple #[gv (0, 0), gv (0, 0), .int .i64 7]) ∧ Below w.heap.size w w'
  div : ∀ (a b : Gz) (w : World), Wh a → Wh b → b ≠ (0, 0) → Calls Try.prog 13 #[gv a, gv b] w fun e w' => e = .returned (.tuple #[gv (gq a b), gv (gs a (gm (gq a b) b)), .int .i64 0]) ∧ Below w.heap.size w w'
  gcd : ∀ (a b : Gz) (w : World), Wh a → Wh b → Calls Try.prog 16 #[gv a, gv b] w fun e w' => ∃ g, e = .returned (gv g) ∧ IsGcd g a b ∧ First g ∧ Below w.heap.size w w'
  turn : ∀ (l : Gz × Gz × Gz × Gz) (back : Bool) (w : World), Wh l.1 → Wh l.2.1 → Wh l.2.2.1 → Wh l.2.2.2 → Calls Try.prog 15 #[gv4 l, .bool back] w fun e w' => e = .returned (gv4 (tu l (if back then (0, -1) else (0, 1)))) ∧ Below w.heap.size w w'
  twoArg : ∀ (p : Int) (w : World), p < 5 ∨ 1000000 ≤ p ∨ Int.tmod p 4 ≠ 1 → Calls Try.prog 7 #[.int .i64 p] w fun e w' => e = .returned (.tuple #[.int .i64 0, .int .i64 0, .int .i64 1]) ∧ Below w.heap.size w w'
  two : ∀ (p : Nat) (w : World), 5 ≤ p → p < 1000000 → p % 4 = 1 → Calls Try.prog 7 #[.int .i64 p] w fun e w' => TwoIs p e ∧ Below w.heap.size w w'

theorem TwoIs.form {p : Nat} {e : Ending} (h : TwoIs p e) : ∃ a b c : Int, e = .returned (.tuple #[.int .i64 a, .int .i64 b, .int .i64 c]) := by
  rcases h with ⟨_, h⟩ | ⟨_, a, b, _, _, _, _, h⟩ | ⟨_, _, h⟩ <;> exact ⟨_, _, _, h⟩
theorem TwoIs.det {p : Nat} {e e' : Ending} (h : TwoIs p e) (h' : TwoIs p e') : e = e' := by
  rcases h with ⟨c, rfl⟩ | ⟨c, a, b, a0, a1, a2, a3, rfl⟩ | ⟨c, n, rfl⟩ <;> rcases h' with ⟨c', rfl⟩ | ⟨c', a', b', a0', a1', a2', a3', rfl⟩ | ⟨c', n', rfl⟩
  · rfl
  · exact absurd c c'
  · exact absurd c c'
  · exact absurd c' c
  · obtain rfl : a = a' := by
      rcases Nat.lt_trichotomy a a' with h | h | h
      · exact absurd a2 (a3' a b a0 h)
      · exact h
      · exact absurd a2' (a3 a' b' a0' h)
    obtain rfl : b = b' := by
      have e : b * b = b' * b' := by omega
      exact Nat.le_antisymm (sq_mono (Nat.le_of_eq e)) (sq_mono (Nat.le_of_eq e.symm))
    rfl
  · exact absurd a2 (n' a b a0 a1)
  · exact absurd c' c
  · exact absurd a2' (n a' b' a0' a1')
  · rfl

/-- Thirteen. -/
theorem two13 {e : Ending} (h : TwoIs 13 e) : e = .returned (.tuple #[.int .i64 2, .int .i64 3, .int .i64 0]) := by
  refine h.det (.inr (.inl ⟨?_, 2, 3, by decide, by decide, by decide, ?_, rfl⟩))
  · rintro ⟨d, h1, h2, h3⟩
    have : d ≤ 3 := by
      rcases Nat.lt_or_ge 3 d with h | h
      · have := Nat.mul_le_mul h h; omega
      · exact h
    rcases (show d = 2 ∨ d = 3 by omega) with rfl | rfl <;> simp at h3
  · intro a b h0 h1 h2
    obtain rfl : a = 1 := by omega
    have : b ≤ 3 := by
      rcases Nat.lt_or_ge 3 b with h | h
      · have := Nat.mul_le_mul h h; omega
      · exact h
    rcases (show b = 0 ∨ b = 1 ∨ b = 2 ∨ b = 3 by omega) with rfl | rfl | rfl | rfl <;> simp at h2

theorem fi7 : fi 7 = 4619567317775286272 := by decide +kernel
theorem fi1 : fi 1 = 4607182418800017408 := by decide +kernel
theorem fi2 : fi 2 = 4611686018427387904 := by decide +kernel
theorem fi0 : fi 0 = 0 := by decide +kernel
theorem fi4 : fi 4 = 4616189618054758400 := by decide +kernel
theorem fi3 : fi 3 = 4613937818241073152 := by decide +kernel
theorem fim1 : fi (-1) = 13830554455654793216 := by decide +kernel
theorem gq72 : gq (7, 1) (2, 0) = (4, 1) := by decide
theorem gr72 : gs (7, 1) (gm (4, 1) (2, 0)) = (-1, -1) := by decide
theorem gn34 : gn (3, 4) = 25 := by decide

set_option maxRecDepth 8000 in
set_option maxHeartbeats 1600000 in
theorem gaBegun (K : GaOk) (w : World) : Calls Try.prog 6 #[] w fun e w' => e = .returned (.bool true) ∧ Below w.heap.size w w' := by
  have KD := fun w => K.div (7, 1) (2, 0) w ⟨by decide, by decide⟩ ⟨by decide, by decide⟩ (by decide)
  rw [gq72, gr72] at KD
  simp only [gv, fi7, fi1, fi2, fi0, fi4, fim1] at KD
  have KT := fun w => K.two 13 w (by decide) (by decide) (by decide)
  have KM := fun w => K.may (1, 2) w ⟨by decide, by decide⟩
  simp only [gv, fi1, fi2] at KM
  have KN := fun w => K.norm (3, 4) w ⟨by decide, by decide⟩
  rw [gn34] at KN
  simp only [gv, fi3, fi4] at KN
  have HD : Hid _ := KD
  have HT : Hid _ := KT
  have HM : Hid _ := KM
  have HH : Hid _ := K.mayHalf
  have HN : Hid _ := KN
  have q1 : (Ieee.double.order 4616189618054758400 4616189618054758400 == some .eq) = true := by decide +kernel
  have q2 : (Ieee.double.order 4607182418800017408 4607182418800017408 == some .eq) = true := by decide +kernel
  have q3 : (Ieee.double.order 13830554455654793216 13830554455654793216 == some .eq) = true := by decide +kernel
  clear KD KT KM KN K
  go_enter Try.func6, Try.ntmps6
  go_wp2_with fail
  refine Calls.mono (HD.out _) ?_
  rintro e w1 ⟨rfl, b1⟩
  go_wp2_with fail
  refine Calls.mono (HT.out _) ?_
  rintro e w2 ⟨t2, b2⟩
  obtain rfl := two13 t2
  have c2 := Below.up b1 (Nat.le_refl _) b2
  clear b1 b2 t2 HD HT
  go_wp2_with fail
  refine Calls.mono (HM.out _) ?_
  rintro e w3 ⟨rfl, b3⟩
  have c3 := Below.up c2 (Nat.le_refl _) b3
  clear c2 b3 HM
  go_wp2_with fail
  refine Calls.mono (HH.out _) ?_
  rintro e w4 ⟨rfl, b4⟩
  have c4 := Below.up c3 (Nat.le_refl _) b4
  clear c3 b4 HH
  go_wp2_with fail
  refine Calls.mono (HN.out _) ?_
  rintro e w5 ⟨rfl, b5⟩
  have C5 : Hid _ := Below.up c4 (Nat.le_refl _) b5
  clear c4 b5 HN
  go_wp2
  go_ret
  exact ⟨rfl, C5.out⟩

set_option maxRecDepth 8000 in
theorem gaussTwo_walk (K : GaOk) (p : Int) (w : World) : Calls Try.prog 3 #[.int .i64 p] w fun e w' => e = .returned (.bool true) ∧ Below w.heap.size w w' := by
  have key : ∃ a b c : Int, (∀ w, Calls Try.prog 7 #[.int .i64 p] w fun e w' => e = .returned (.tuple #[.int .i64 a, .int .i64 b, .int .i64 c]) ∧ Below w.heap.size w w') ∧ (∀ w, Calls Try.prog 8 #[.int .i64 p] w fun e w' => e = .returned (.tuple #[.int .i64 a, .int .i64 b, .int .i64 c]) ∧ w' = w) := by
    by_cases h : p < 5 ∨ 1000000 ≤ p ∨ Int.tmod p 4 ≠ 1
    · exact ⟨0, 0, 1, fun w => K.twoArg p w h, fun w => twoC_arg p w h⟩
    · obtain ⟨n, rfl⟩ := Int.eq_ofNat_of_zero_le (show 0 ≤ p by omega)
      have h1 : 5 ≤ n := by omega
      have h2 : n < 1000000 := by omega
      have h3 : n % 4 = 1 := by
        have h4 : Int.tmod (n : Int) 4 = 1 := Classical.byContradiction fun hc => h (.inr (.inr hc))
        rw [Int.tmod_eq_emod_of_nonneg (by omega)] at h4
        omega
      by_cases hx : ∃ e, TwoIs n e
      · obtain ⟨e, he⟩ := hx
        obtain ⟨a, b, c, hf⟩ := he.form
        refine ⟨a, b, c, fun w => Calls.mono (K.two n w h1 h2 h3) ?_, fun w => Calls.mono (twoC_in n w h1 h2 h3) ?_⟩
        · rintro e' w' ⟨t, bb⟩; exact ⟨(t.det he).trans hf, bb⟩
        · rintro e' w' ⟨t, bb⟩; exact ⟨(t.det he).trans hf, bb⟩
      · refine ⟨0, 0, 0, fun w => Calls.mono (K.two n w h1 h2 h3) ?_, fun w => Calls.mono (twoC_in n w h1 h2 h3) ?_⟩
        · rintro e' w' ⟨t, bb⟩; exact absurd ⟨e', t⟩ hx
        · rintro e' w' ⟨t, bb⟩; exact absurd ⟨e', t⟩ hx
  obtain ⟨a, b, c, k1, k2⟩ := key
  have H1 : Hid _ := k1
  have H2 : Hid _ := k2
  have HB : Hid _ := gaBegun K
  clear k1 k2 K
  go_enter Try.func3, Try.ntmps3
  go_wp2_with fail
  refine Calls.mono (HB.out _) ?_
  rintro e w1 ⟨rfl, b1⟩
  go_wp2_with fail
  refine Calls.mono (H1.out _) ?_
  rintro e w2 ⟨rfl, b2⟩
  go_wp2_with fail
  refine Calls.mono (H2.out _) ?_
  rintro e w3 ⟨rfl, rfl⟩
  have B2 : Hid _ := Below.up b1 (Nat.le_refl _) b2
  clear b1 b2
  go_wp2
  go_ret
  exact ⟨rfl, B2.out⟩
end Go.Proofs.Ytgkpcjopedleeaa
