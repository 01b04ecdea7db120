/- Package gauss as landed: Turn, as numbers. -/
import Derived.Test.YtgkpcjopedleeaaGV
namespace Go.Proofs.Ytgkpcjopedleeaa
open Go.RowKit
set_option linter.unusedVariables false

theorem Tells.of {f : FuncId} {args : Array Value} {p q : Nat} (h : ∀ w, Calls Try.prog f args w fun e w' => e = .returned (.complex .f64 p q) ∧ w' = w) : Hid (Tells f args p q) := h

/-- A difference of two. -/
theorem less_any {p q r t : Nat} {a b : Gz} (h1 : IsF p a.1) (h2 : IsF q a.2) (h3 : IsF r b.1) (h4 : IsF t b.2) (b1 : (gs a b).1.natAbs < 2 ^ 53) (b2 : (gs a b).2.natAbs < 2 ^ 53) :
    ∃ x y, Less p q r t x y ∧ IsF x (gs a b).1 ∧ IsF y (gs a b).2 := by
  obtain ⟨x, y, e, g1, g2⟩ := IsF.csub h1 h2 h3 h4 b1 b2
  exact ⟨x, y, fun ty w => run_complex_sum (P := Try.prog) (w := w) .sub (.inr rfl) ty .f64 p q r t x y e, g1, g2⟩

theorem Wh.bd {a : Gz} (h : Wh a) : (-1048576 ≤ a.1 ∧ a.1 ≤ 1048576) ∧ -1048576 ≤ a.2 ∧ a.2 ≤ 1048576 := by
  have := h.1; have := h.2
  exact ⟨by omega, by omega⟩
theorem fp0 : IsF 0 0 := by rw [← fi0]; exact IsF.fi (by decide)

theorem turn_any (l : Gz × Gz × Gz × Gz) (back : Bool) (w : World) (h0 : Wh l.1) (h1 : Wh l.2.1) (h2 : Wh l.2.2.1) (h3 : Wh l.2.2.2) :
    Calls Try.prog 15 #[gv4 l, .bool back] w fun e w' => e = .returned (gv4 (tu l (if back then (0, -1) else (0, 1)))) ∧ Below w.heap.size w w' := by
  obtain ⟨⟨k0, m0⟩, ⟨k1, m1⟩, ⟨k2, m2⟩, ⟨k3, m3⟩⟩ := l
  simp only at h0 h1 h2 h3
  have v0 := h0.bd; have v1 := h1.bd; have v2 := h2.bd; have v3 := h3.bd
  simp only at v0 v1 v2 v3
  obtain ⟨rt, hrt⟩ : ∃ rt : Nat, rt = if back then 13830554455654793216 else 4607182418800017408 := ⟨_, rfl⟩
  obtain ⟨g, hg⟩ : ∃ g : Int, g = if back then -1 else 1 := ⟨_, rfl⟩
  have fr : IsF rt g := by
    rw [hrt, hg]
    cases back
    · simp only [Bool.false_eq_true, if_false]
      rw [← fi1]; exact IsF.fi (by decide)
    · simp only [if_true]
      rw [← fim1]; exact IsF.fi (by decide)
  have g1 : g = 1 ∨ g = -1 := by rw [hg]; cases back <;> simp
  have hi : (if back then ((0, -1) : Gz) else (0, 1)) = (0, g) := by rw [hg]; cases back <;> rfl
  rw [hi]
  have HRT : Hid _ := hrt
  clear hrt hg hi
  obtain ⟨x1, y1, R1, u1, u2⟩ := less_any (a := (k0, m0)) (b := (k2, m2)) h0.f1 h0.f2 h2.f1 h2.f2 (by show (k0 - k2).natAbs < _; omega) (by show (m0 - m2).natAbs < _; omega)
  obtain ⟨x2, y2, R2, u3, u4⟩ := less_any (a := (k1, m1)) (b := (k3, m3)) h1.f1 h1.f2 h3.f1 h3.f2 (by show (k1 - k3).natAbs < _; omega) (by show (m1 - m3).natAbs < _; omega)
  have s0 : IsF (fi (k0 + k2)) (k0 + k2) := IsF.fi (by omega)
  have s1 : IsF (fi (m0 + m2)) (m0 + m2) := IsF.fi (by omega)
  have s2 : IsF (fi (k1 + k3)) (k1 + k3) := IsF.fi (by omega)
  have s3 : IsF (fi (m1 + m3)) (m1 + m3) := IsF.fi (by omega)
  have s4 : IsF (fi (k0 - k2)) (k0 - k2) := IsF.fi (by omega)
  have s5 : IsF (fi (m0 - m2)) (m0 - m2) := IsF.fi (by omega)
  obtain ⟨T, hT⟩ : ∃ T : Gz, T = gm (gs (k1, m1) (k3, m3)) (0, g) := ⟨_, rfl⟩
  have bT : (-2097152 ≤ T.1 ∧ T.1 ≤ 2097152) ∧ -2097152 ≤ T.2 ∧ T.2 ≤ 2097152 := by
    rw [hT]
    simp only [gm, gs]
    rcases g1 with rfl | rfl <;> constructor <;> omega
  have s6 : IsF (fi T.1) T.1 := IsF.fi (by omega)
  have s7 : IsF (fi T.2) T.2 := IsF.fi (by omega)
  obtain ⟨x3, y3, R3, u5, u6⟩ := less_any (a := (k0 + k2, m0 + m2)) (b := (k1 + k3, m1 + m3)) s0 s1 s2 s3 (by show (k0 + k2 - (k1 + k3)).natAbs < _; omega) (by show (m0 + m2 - (m1 + m3)).natAbs < _; omega)
  obtain ⟨x4, y4, R4, u7, u8⟩ := less_any (a := (k0 - k2, m0 - m2)) (b := T) s4 s5 s6 s7 (by show (k0 - k2 - T.1).natAbs < _; omega) (by show (m0 - m2 - T.2).natAbs < _; omega)
  have A4 := Tells.of fun w => mul_any (a := gs (k1, m1) (k3, m3)) (b := (0, g)) u3 u4 fp0 fr (by simp) (by show ((m1 - m3) * g).natAbs < _; rcases g1 with rfl | rfl <;> omega) (by show ((k1 - k3) * g).natAbs < _; rcases g1 with rfl | rfl <;> omega) (by simp) w
  rw [← hT] at A4
  have F := turn_go back (fi k0) (fi m0) (fi k1) (fi m1) (fi k2) (fi m2) (fi k3) (fi m3) rt _ _ _ _ x1 y1 _ _ x2 y2 _ _ _ _ _ _ x3 y3 _ _ x4 y4 _ _ w HRT.out
    (Tells.of fun w => add_any (a := (k0, m0)) (b := (k2, m2)) h0.f1 h0.f2 h2.f1 h2.f2 (by show (k0 + k2).natAbs < _; omega) (by show (m0 + m2).natAbs < _; omega) w)
    (Tells.of fun w => add_any (a := (k1, m1)) (b := (k3, m3)) h1.f1 h1.f2 h3.f1 h3.f2 (by show (k1 + k3).natAbs < _; omega) (by show (m1 + m3).natAbs < _; omega) w)
    R1 (Tells.of fun w => tidy_any u1 u2 w) R2 A4
    (Tells.of fun w => add_any (a := (k0 + k2, m0 + m2)) (b := (k1 + k3, m1 + m3)) s0 s1 s2 s3 (by show (k0 + k2 + (k1 + k3)).natAbs < _; omega) (by show (m0 + m2 + (m1 + m3)).natAbs < _; omega) w)
    (Tells.of fun w => add_any (a := (k0 - k2, m0 - m2)) (b := T) s4 s5 s6 s7 (by show (k0 - k2 + T.1).natAbs < _; omega) (by show (m0 - m2 + T.2).natAbs < _; omega) w)
    R3 (Tells.of fun w => tidy_any u5 u6 w) R4 (Tells.of fun w => tidy_any u7 u8 w)
  have e : gv4 (tu ((k0, m0), (k1, m1), (k2, m2), (k3, m3)) (0, g)) = gv4 (ga (k0 + k2, m0 + m2) (k1 + k3, m1 + m3), ga (k0 - k2, m0 - m2) T, gs (k0 + k2, m0 + m2) (k1 + k3, m1 + m3), gs (k0 - k2, m0 - m2) T) := by
    rw [hT]
    congr 1
    simp only [tu, ga, gm, gs]
    refine Prod.ext (gext ?_ ?_) (Prod.ext (gext ?_ ?_) (Prod.ext (gext ?_ ?_) (gext ?_ ?_))) <;> rcases g1 with rfl | rfl <;> dsimp only <;> omega
  rw [e]
  exact F
end Go.Proofs.Ytgkpcjopedleeaa
