/- VL VM VN. -/
import Derived.Test.YthnfgmhehfombaaGreatDoorGJ
import Derived.Test.YthnfgmhehfombaaGreatDoorGE
/- Lines of a curve at its points: two ways round, and reciprocity. No program is named here. -/
namespace Go.Proofs.YthnfgmhehfombaaGreatDoor.fpn.EC
open Rn
set_option linter.unusedVariables false
set_option linter.unusedSectionVars false

section
variable {α : Type} [Add α] [Mul α] [Neg α] [Sub α] [OfNat α 0] [OfNat α 1] [CR α]
theorem we0 (p q a l m B w s X Y : α) : ((Y - ((l * X) + m)) * (Y - w)) = (((((((X - a) * (((s * ((l * X) + m)) - (s * Y)) + ((X - p) * (X - q)))) + (1 * ((Y * Y) - (((X * X) * X) + B)))) + ((X * X) * (((p + q) + a) - (l * l)))) + ((-X) * ((((p * q) + (q * a)) + (p * a)) - ((-(l * m)) - (l * m))))) + (1 * (((p * q) * a) - ((m * m) - B)))) + ((((l * X) + m) - Y) * ((((l * X) + m) + w) - (s * (X - a))))) := ring [p, q, a, l, m, B, w, s, X, Y] (.m (.s (.v 9) (.a (.m (.v 3) (.v 8)) (.v 4))) (.s (.v 9) (.v 6))) (.a (.a (.a (.a (.a (.m (.s (.v 8) (.v 2)) (.a (.s (.m (.v 7) (.a (.m (.v 3) (.v 8)) (.v 4))) (.m (.v 7) (.v 9))) (.m (.s (.v 8) (.v 0)) (.s (.v 8) (.v 1))))) (.m .o (.s (.m (.v 9) (.v 9)) (.a (.m (.m (.v 8) (.v 8)) (.v 8)) (.v 5))))) (.m (.m (.v 8) (.v 8)) (.s (.a (.a (.v 0) (.v 1)) (.v 2)) (.m (.v 3) (.v 3))))) (.m (.n (.v 8)) (.s (.a (.a (.m (.v 0) (.v 1)) (.m (.v 1) (.v 2))) (.m (.v 0) (.v 2))) (.s (.n (.m (.v 3) (.v 4))) (.m (.v 3) (.v 4)))))) (.m .o (.s (.m (.m (.v 0) (.v 1)) (.v 2)) (.s (.m (.v 4) (.v 4)) (.v 5))))) (.m (.s (.a (.m (.v 3) (.v 8)) (.v 4)) (.v 9)) (.s (.a (.a (.m (.v 3) (.v 8)) (.v 4)) (.v 6)) (.m (.v 7) (.s (.v 8) (.v 2)))))) (by kernel_rfl)
theorem we1 (p q r l m u n s X Y : α) : (((s * ((l * X) + m)) - (s * Y)) + ((X - p) * (X - q))) = (((((s * ((u * X) + n)) - (s * Y)) + ((X - q) * (X - r))) + ((-(X - q)) * ((s * (u - l)) - (r - p)))) + ((-s) * (((u - l) * q) - (m - n)))) := ring [p, q, r, l, m, u, n, s, X, Y] (.a (.s (.m (.v 7) (.a (.m (.v 3) (.v 8)) (.v 4))) (.m (.v 7) (.v 9))) (.m (.s (.v 8) (.v 0)) (.s (.v 8) (.v 1)))) (.a (.a (.a (.s (.m (.v 7) (.a (.m (.v 5) (.v 8)) (.v 6))) (.m (.v 7) (.v 9))) (.m (.s (.v 8) (.v 1)) (.s (.v 8) (.v 2)))) (.m (.n (.s (.v 8) (.v 1))) (.s (.m (.v 7) (.s (.v 5) (.v 3))) (.s (.v 2) (.v 0))))) (.m (.n (.v 7)) (.s (.m (.s (.v 5) (.v 3)) (.v 1)) (.s (.v 4) (.v 6))))) (by kernel_rfl)
theorem we2 (p r a b l u k : α) : (((l + u) + k) * (u - l)) = (((r - p) + (1 * (((u - l) * (u + l)) - (((r + b) - p) - a)))) + (1 * (((u - l) * k) - (a - b)))) := ring [p, r, a, b, l, u, k] (.m (.a (.a (.v 4) (.v 5)) (.v 6)) (.s (.v 5) (.v 4))) (.a (.a (.s (.v 1) (.v 0)) (.m .o (.s (.m (.s (.v 5) (.v 4)) (.a (.v 5) (.v 4))) (.s (.s (.a (.v 1) (.v 3)) (.v 0)) (.v 2))))) (.m .o (.s (.m (.s (.v 5) (.v 4)) (.v 6)) (.s (.v 2) (.v 3))))) (by kernel_rfl)
theorem we3 (r a l m u n k X : α) : (((l * X) + m) + (((u + k) * X) + (n - (k * r)))) = ((((l + u) + k) * (X - a)) + (1 * (((((u + k) * a) + (n - (k * r))) + ((l * a) + m)) - 0))) := ring [r, a, l, m, u, n, k, X] (.a (.a (.m (.v 2) (.v 7)) (.v 3)) (.a (.m (.a (.v 4) (.v 6)) (.v 7)) (.s (.v 5) (.m (.v 6) (.v 0))))) (.a (.m (.a (.a (.v 2) (.v 4)) (.v 6)) (.s (.v 7) (.v 1))) (.m .o (.s (.a (.a (.m (.a (.v 4) (.v 6)) (.v 1)) (.s (.v 5) (.m (.v 6) (.v 0)))) (.a (.m (.v 2) (.v 1)) (.v 3))) (.k 0)))) (by kernel_rfl)
theorem we4 (p b l m u n k X : α) : (((u * X) + n) + (((l + k) * X) + (m - (k * p)))) = ((((l + u) + k) * (X - b)) + (1 * (((((l + k) * b) + (m - (k * p))) + ((u * b) + n)) - 0))) := ring [p, b, l, m, u, n, k, X] (.a (.a (.m (.v 4) (.v 7)) (.v 5)) (.a (.m (.a (.v 2) (.v 6)) (.v 7)) (.s (.v 3) (.m (.v 6) (.v 0))))) (.a (.m (.a (.a (.v 2) (.v 4)) (.v 6)) (.s (.v 7) (.v 1))) (.m .o (.s (.a (.a (.m (.a (.v 2) (.v 6)) (.v 1)) (.s (.v 3) (.m (.v 6) (.v 0)))) (.a (.m (.v 4) (.v 1)) (.v 5))) (.k 0)))) (by kernel_rfl)
theorem we5 (q l m u n : α) : ((u - l) * q) = ((m - n) + ((-1) * (((l * q) + m) - ((u * q) + n)))) := ring [q, l, m, u, n] (.m (.s (.v 3) (.v 1)) (.v 0)) (.a (.s (.v 2) (.v 4)) (.m (.n .o) (.s (.a (.m (.v 1) (.v 0)) (.v 2)) (.a (.m (.v 3) (.v 0)) (.v 4))))) (by kernel_rfl)
theorem we6 (l m u n B X1 X2 X3 : α) : (((((u * X1) + n) - ((l * X1) + m)) * (((u * X2) + n) - ((l * X2) + m))) * (((u * X3) + n) - ((l * X3) + m))) = ((((((((((u - l) * (u - l)) * (u - l)) * ((n * n) - B)) + ((((u - l) * (u - l)) * (n - m)) * ((-(u * n)) - (u * n)))) + ((((u - l) * (n - m)) * (n - m)) * (u * u))) + (((n - m) * (n - m)) * (n - m))) + ((((u - l) * (n - m)) * (n - m)) * (((X1 + X2) + X3) - (u * u)))) + ((((u - l) * (u - l)) * (n - m)) * ((((X1 * X2) + (X2 * X3)) + (X1 * X3)) - ((-(u * n)) - (u * n))))) + ((((u - l) * (u - l)) * (u - l)) * (((X1 * X2) * X3) - ((n * n) - B)))) := ring [l, m, u, n, B, X1, X2, X3] (.m (.m (.s (.a (.m (.v 2) (.v 5)) (.v 3)) (.a (.m (.v 0) (.v 5)) (.v 1))) (.s (.a (.m (.v 2) (.v 6)) (.v 3)) (.a (.m (.v 0) (.v 6)) (.v 1)))) (.s (.a (.m (.v 2) (.v 7)) (.v 3)) (.a (.m (.v 0) (.v 7)) (.v 1)))) (.a (.a (.a (.a (.a (.a (.m (.m (.m (.s (.v 2) (.v 0)) (.s (.v 2) (.v 0))) (.s (.v 2) (.v 0))) (.s (.m (.v 3) (.v 3)) (.v 4))) (.m (.m (.m (.s (.v 2) (.v 0)) (.s (.v 2) (.v 0))) (.s (.v 3) (.v 1))) (.s (.n (.m (.v 2) (.v 3))) (.m (.v 2) (.v 3))))) (.m (.m (.m (.s (.v 2) (.v 0)) (.s (.v 3) (.v 1))) (.s (.v 3) (.v 1))) (.m (.v 2) (.v 2)))) (.m (.m (.s (.v 3) (.v 1)) (.s (.v 3) (.v 1))) (.s (.v 3) (.v 1)))) (.m (.m (.m (.s (.v 2) (.v 0)) (.s (.v 3) (.v 1))) (.s (.v 3) (.v 1))) (.s (.a (.a (.v 5) (.v 6)) (.v 7)) (.m (.v 2) (.v 2))))) (.m (.m (.m (.s (.v 2) (.v 0)) (.s (.v 2) (.v 0))) (.s (.v 3) (.v 1))) (.s (.a (.a (.m (.v 5) (.v 6)) (.m (.v 6) (.v 7))) (.m (.v 5) (.v 7))) (.s (.n (.m (.v 2) (.v 3))) (.m (.v 2) (.v 3)))))) (.m (.m (.m (.s (.v 2) (.v 0)) (.s (.v 2) (.v 0))) (.s (.v 2) (.v 0))) (.s (.m (.m (.v 5) (.v 6)) (.v 7)) (.s (.m (.v 3) (.v 3)) (.v 4))))) (by kernel_rfl)
theorem we7 (l m u n B : α) : (((((((u - l) * (u - l)) * (u - l)) * ((n * n) - B)) + ((((u - l) * (u - l)) * (n - m)) * ((-(u * n)) - (u * n)))) + ((((u - l) * (n - m)) * (n - m)) * (u * u))) + (((n - m) * (n - m)) * (n - m))) = (-(((((((l - u) * (l - u)) * (l - u)) * ((m * m) - B)) + ((((l - u) * (l - u)) * (m - n)) * ((-(l * m)) - (l * m)))) + ((((l - u) * (m - n)) * (m - n)) * (l * l))) + (((m - n) * (m - n)) * (m - n)))) := ring [l, m, u, n, B] (.a (.a (.a (.m (.m (.m (.s (.v 2) (.v 0)) (.s (.v 2) (.v 0))) (.s (.v 2) (.v 0))) (.s (.m (.v 3) (.v 3)) (.v 4))) (.m (.m (.m (.s (.v 2) (.v 0)) (.s (.v 2) (.v 0))) (.s (.v 3) (.v 1))) (.s (.n (.m (.v 2) (.v 3))) (.m (.v 2) (.v 3))))) (.m (.m (.m (.s (.v 2) (.v 0)) (.s (.v 3) (.v 1))) (.s (.v 3) (.v 1))) (.m (.v 2) (.v 2)))) (.m (.m (.s (.v 3) (.v 1)) (.s (.v 3) (.v 1))) (.s (.v 3) (.v 1)))) (.n (.a (.a (.a (.m (.m (.m (.s (.v 0) (.v 2)) (.s (.v 0) (.v 2))) (.s (.v 0) (.v 2))) (.s (.m (.v 1) (.v 1)) (.v 4))) (.m (.m (.m (.s (.v 0) (.v 2)) (.s (.v 0) (.v 2))) (.s (.v 1) (.v 3))) (.s (.n (.m (.v 0) (.v 1))) (.m (.v 0) (.v 1))))) (.m (.m (.m (.s (.v 0) (.v 2)) (.s (.v 1) (.v 3))) (.s (.v 1) (.v 3))) (.m (.v 0) (.v 0)))) (.m (.m (.s (.v 1) (.v 3)) (.s (.v 1) (.v 3))) (.s (.v 1) (.v 3))))) (by kernel_rfl)
theorem we8 (l m B x1 x2 x3 X Y : α) : ((Y - ((l * X) + m)) * ((-Y) - ((l * X) + m))) = (((((-(((X - x1) * (X - x2)) * (X - x3))) + ((-1) * ((Y * Y) - (((X * X) * X) + B)))) + ((-(X * X)) * (((x1 + x2) + x3) - (l * l)))) + (X * ((((x1 * x2) + (x2 * x3)) + (x1 * x3)) - ((-(l * m)) - (l * m))))) + ((-1) * (((x1 * x2) * x3) - ((m * m) - B)))) := ring [l, m, B, x1, x2, x3, X, Y] (.m (.s (.v 7) (.a (.m (.v 0) (.v 6)) (.v 1))) (.s (.n (.v 7)) (.a (.m (.v 0) (.v 6)) (.v 1)))) (.a (.a (.a (.a (.n (.m (.m (.s (.v 6) (.v 3)) (.s (.v 6) (.v 4))) (.s (.v 6) (.v 5)))) (.m (.n .o) (.s (.m (.v 7) (.v 7)) (.a (.m (.m (.v 6) (.v 6)) (.v 6)) (.v 2))))) (.m (.n (.m (.v 6) (.v 6))) (.s (.a (.a (.v 3) (.v 4)) (.v 5)) (.m (.v 0) (.v 0))))) (.m (.v 6) (.s (.a (.a (.m (.v 3) (.v 4)) (.m (.v 4) (.v 5))) (.m (.v 3) (.v 5))) (.s (.n (.m (.v 0) (.v 1))) (.m (.v 0) (.v 1)))))) (.m (.n .o) (.s (.m (.m (.v 3) (.v 4)) (.v 5)) (.s (.m (.v 1) (.v 1)) (.v 2))))) (by kernel_rfl)
theorem we9 (l m X Y : α) : (Y - (((-l) * X) + (-m))) = (-((-Y) - ((l * X) + m))) := ring [l, m, X, Y] (.s (.v 3) (.a (.m (.n (.v 0)) (.v 2)) (.n (.v 1)))) (.n (.s (.n (.v 3)) (.a (.m (.v 0) (.v 2)) (.v 1)))) (by kernel_rfl)
theorem we10 (l m x1 X : α) : (((l * x1) + m) + (l * (X - x1))) = ((l * X) + m) := ring [l, m, x1, X] (.a (.a (.m (.v 0) (.v 2)) (.v 1)) (.m (.v 0) (.s (.v 3) (.v 2)))) (.a (.m (.v 0) (.v 3)) (.v 1)) (by kernel_rfl)
theorem wSide {p q a l m B w s X Y : α} (c : (Y * Y) = (((X * X) * X) + B)) (e1 : ((p + q) + a) = (l * l)) (e2 : (((p * q) + (q * a)) + (p * a)) = ((-(l * m)) - (l * m))) (e3 : ((p * q) * a) = ((m * m) - B)) (t : (((l * X) + m) + w) = (s * (X - a))) : ((Y - ((l * X) + m)) * (Y - w)) = ((X - a) * (((s * ((l * X) + m)) - (s * Y)) + ((X - p) * (X - q)))) := (lc5 c e1 e2 e3 t (we0 (p) (q) (a) (l) (m) (B) (w) (s) (X) (Y)))
theorem wBoth {p q r l m u n s X Y : α} (hs : (s * (u - l)) = (r - p)) (hq : ((u - l) * q) = (m - n)) : (((s * ((l * X) + m)) - (s * Y)) + ((X - p) * (X - q))) = (((s * ((u * X) + n)) - (s * Y)) + ((X - q) * (X - r))) := (lc2 hs hq (we1 (p) (q) (r) (l) (m) (u) (n) (s) (X) (Y)))
theorem wS {p r a b l u k : α} (E1 : ((u - l) * (u + l)) = (((r + b) - p) - a)) (hk : ((u - l) * k) = (a - b)) : (((l + u) + k) * (u - l)) = (r - p) := (lc2 E1 hk (we2 (p) (r) (a) (b) (l) (u) (k)))
theorem wT1 {r a l m u n k X : α} (S1 : ((((u + k) * a) + (n - (k * r))) + ((l * a) + m)) = 0) : (((l * X) + m) + (((u + k) * X) + (n - (k * r)))) = (((l + u) + k) * (X - a)) := (lc1 S1 (we3 (r) (a) (l) (m) (u) (n) (k) (X)))
theorem wT2 {p b l m u n k X : α} (S1 : ((((l + k) * b) + (m - (k * p))) + ((u * b) + n)) = 0) : (((u * X) + n) + (((l + k) * X) + (m - (k * p)))) = (((l + u) + k) * (X - b)) := (lc1 S1 (we4 (p) (b) (l) (m) (u) (n) (k) (X)))
theorem wHq {q l m u n : α} (hq : ((l * q) + m) = ((u * q) + n)) : ((u - l) * q) = (m - n) := (lc1 hq (we5 (q) (l) (m) (u) (n)))
theorem wR1 {l m u n B X1 X2 X3 : α} (g1 : ((X1 + X2) + X3) = (u * u)) (g2 : (((X1 * X2) + (X2 * X3)) + (X1 * X3)) = ((-(u * n)) - (u * n))) (g3 : ((X1 * X2) * X3) = ((n * n) - B)) : (((((u * X1) + n) - ((l * X1) + m)) * (((u * X2) + n) - ((l * X2) + m))) * (((u * X3) + n) - ((l * X3) + m))) = (((((((u - l) * (u - l)) * (u - l)) * ((n * n) - B)) + ((((u - l) * (u - l)) * (n - m)) * ((-(u * n)) - (u * n)))) + ((((u - l) * (n - m)) * (n - m)) * (u * u))) + (((n - m) * (n - m)) * (n - m))) := (lc3 g1 g2 g3 (we6 (l) (m) (u) (n) (B) (X1) (X2) (X3)))
theorem wR2 {l m u n B : α}  : (((((((u - l) * (u - l)) * (u - l)) * ((n * n) - B)) + ((((u - l) * (u - l)) * (n - m)) * ((-(u * n)) - (u * n)))) + ((((u - l) * (n - m)) * (n - m)) * (u * u))) + (((n - m) * (n - m)) * (n - m))) = (-(((((((l - u) * (l - u)) * (l - u)) * ((m * m) - B)) + ((((l - u) * (l - u)) * (m - n)) * ((-(l * m)) - (l * m)))) + ((((l - u) * (m - n)) * (m - n)) * (l * l))) + (((m - n) * (m - n)) * (m - n)))) := (we7 (l) (m) (u) (n) (B))
theorem wN {l m B x1 x2 x3 X Y : α} (c : (Y * Y) = (((X * X) * X) + B)) (f1 : ((x1 + x2) + x3) = (l * l)) (f2 : (((x1 * x2) + (x2 * x3)) + (x1 * x3)) = ((-(l * m)) - (l * m))) (f3 : ((x1 * x2) * x3) = ((m * m) - B)) : ((Y - ((l * X) + m)) * ((-Y) - ((l * X) + m))) = (-(((X - x1) * (X - x2)) * (X - x3))) := (lc4 c f1 f2 f3 (we8 (l) (m) (B) (x1) (x2) (x3) (X) (Y)))
theorem wO {l m X Y : α}  : (Y - (((-l) * X) + (-m))) = (-((-Y) - ((l * X) + m))) := (we9 (l) (m) (X) (Y))
theorem wY {l m x1 X : α}  : (((l * x1) + m) + (l * (X - x1))) = ((l * X) + m) := (we10 (l) (m) (x1) (X))
variable [DecidableEq α]
instance cm : Std.Commutative (α := α) (· * ·) := ⟨CR.mul_comm⟩
instance am : Std.Associative (α := α) (· * ·) := ⟨CR.mul_assoc⟩
def lv (iv : α → α) : Pt α → Pt α → Pt α → α
  | .aff x1 y1, .aff x2 y2, .aff X Y => if x1 = x2 ∧ y1 + y2 = 0 then 1 else Y - (y1 + slope iv x1 y1 x2 y2 * (X - x1))
  | _, _, _ => 1
variable {iv : α → α} {B : α}
theorem lv_inf1 (Q T : Pt α) : lv iv .inf Q T = 1 := rfl
theorem lv_inf2 (Q T : Pt α) : lv iv Q .inf T = 1 := by cases Q <;> rfl
theorem lv_inf3 (Q R : Pt α) : lv iv Q R .inf = 1 := by cases Q <;> cases R <;> rfl
theorem lv_v {x1 y1 x2 y2 : α} (h : x1 = x2 ∧ y1 + y2 = 0) (T : Pt α) : lv iv (.aff x1 y1) (.aff x2 y2) T = 1 := by
  cases T with
  | inf => rfl
  | aff X Y => exact if_pos h
structure Fd (iv : α → α) : Prop where
  one : (1 : α) ≠ 0
  iv : ∀ a : α, a ≠ 0 → a * iv a = 1
theorem Fd.cancel (C : Fd iv) {d x : α} (hd : d ≠ 0) (h : d * x = 0) : x = 0 := by
  have e : (d * iv d) * x = iv d * (d * x) := by rw [CR.mul_comm d, CR.mul_assoc]
  rw [C.iv d hd, h, Rn.mul_zero, CR.one_mul] at e
  exact e
theorem Fd.back (C : Fd iv) {d x : α} (hd : d ≠ 0) : x * d * iv d = x := by rw [CR.mul_assoc, C.iv d hd, Rn.mul_one]
theorem Fd.ne_mul (C : Fd iv) {a b : α} (ha : a ≠ 0) (hb : b ≠ 0) : a * b ≠ 0 := fun h => hb (C.cancel ha h)
theorem ln_at (C : Fd iv) {x1 y1 x2 y2 : α} (h1 : y1 * y1 = x1 * x1 * x1 + B) (h2 : y2 * y2 = x2 * x2 * x2 + B) (hne : ¬ (x1 = x2 ∧ y1 + y2 = 0)) :
    ∃ x3 l m : α, y1 = l * x1 + m ∧ y2 = l * x2 + m ∧ Ln B x1 x2 x3 l m := by
  by_cases e : x1 = x2
  · subst e
    have hy : y1 + y2 ≠ 0 := fun h0 => hne ⟨rfl, h0⟩
    have e2 : y1 = y2 := dz (C.cancel hy ((CR.mul_comm _ _).trans (sq2 h1 h2)))
    subst e2
    have hl : (x1 * x1 + x1 * x1 + x1 * x1) * iv (y1 + y1) * (y1 + y1) = x1 * x1 + x1 * x1 + x1 * x1 := by rw [CR.mul_assoc, CR.mul_comm (iv _), C.iv _ hy, Rn.mul_one]
    generalize (x1 * x1 + x1 * x1 + x1 * x1) * iv (y1 + y1) = l at hl
    exact ⟨l * l - x1 - x1, l, y1 - l * x1, lin1, lin1, x3sum, cTe2 hl, cE3 h1 (cTe2 hl)⟩
  · have hd : x2 - x1 ≠ 0 := fun h0 => e (dz h0).symm
    have hl : (y2 - y1) * iv (x2 - x1) * (x2 - x1) = y2 - y1 := by rw [CR.mul_assoc, CR.mul_comm (iv _), C.iv _ hd, Rn.mul_one]
    generalize (y2 - y1) * iv (x2 - x1) = l at hl
    have e2 := zsub (C.cancel hd (cCh h1 h2 hl))
    exact ⟨l * l - x1 - x2, l, y1 - l * x1, lin1, lin2 hl, x3sum, e2, cE3 h1 e2⟩
theorem heart (C : Fd iv) {p q r a b l m u n k : α} (h1 : Ln B p q a l m) (h2 : Ln B q r b u n) (hq : l * q + m = u * q + n) (hd : u - l ≠ 0) (hk : (u - l) * k = a - b) :
    Ln B r a ((u + k) * (u + k) - r - a) (u + k) (n - k * r) ∧ -(l * a + m) = (u + k) * a + (n - k * r) := by
  have E1 := cE1 h1.e1 h2.e1
  have Hq := cHq hq
  have E2 := cE2 h1.e2 h2.e2 E1 Hq
  have S1 := C.cancel hd (cS1 E1 E2 hk)
  have Q0 := cQ0 h2.e1 hk Hq S1
  exact ⟨⟨cL1, cL2 h2.e1 h2.e2 Q0, cL3 h2.e3 Q0⟩, S1y S1⟩
theorem Ln.slope (C : Fd iv) {x1 x2 x3 l m : α} (h : Ln B x1 x2 x3 l m) (hne : ¬ (x1 = x2 ∧ (l * x1 + m) + (l * x2 + m) = 0)) : EC.slope iv x1 (l * x1 + m) x2 (l * x2 + m) = l := by
  unfold EC.slope
  by_cases e : x1 = x2
  · rw [if_pos e]
    subst e
    have hy : (l * x1 + m) + (l * x1 + m) ≠ 0 := fun h0 => hne ⟨rfl, h0⟩
    rw [cTan h.e1 h.e2, C.back hy]
  · rw [if_neg e, dy, C.back (fun h0 => e (dz h0).symm)]
theorem Ln.lv (C : Fd iv) {x1 x2 x3 l m : α} (h : Ln B x1 x2 x3 l m) (hne : ¬ (x1 = x2 ∧ (l * x1 + m) + (l * x2 + m) = 0)) (X Y : α) : EC.lv iv (.aff x1 (l * x1 + m)) (.aff x2 (l * x2 + m)) (.aff X Y) = Y - (l * X + m) := by
  show (if _ then _ else _) = _
  rw [if_neg hne, h.slope C hne, wY]
theorem Ln.sum (C : Fd iv) {x1 x2 x3 l m : α} (h : Ln B x1 x2 x3 l m) (hne : ¬ (x1 = x2 ∧ (l * x1 + m) + (l * x2 + m) = 0)) :
    EC.add iv (.aff x1 (l * x1 + m)) (.aff x2 (l * x2 + m)) = .aff x3 (-(l * x3 + m)) := by
  rw [add_n iv hne, h.slope C hne]
  unfold chord
  rw [x3of h.e1, chy]
structure Kil (S : α → Prop) : Prop where
  one : S 1
  mul : ∀ {a b}, S a → S b → S (a * b)
  neg : ∀ {a}, S a → S (-a)
  nz : ∀ {a}, S a → a ≠ 0
def eqv (S : α → Prop) (a b : α) : Prop := ∃ s t, S s ∧ S t ∧ a * s = b * t
section
variable {S : α → Prop} 
theorem eqv.refl (K : Kil S) (a : α) : eqv S a a := ⟨1, 1, K.one, K.one, rfl⟩
theorem eqv.of (K : Kil S) {a b : α} (h : a = b) : eqv S a b := h ▸ eqv.refl K a
theorem eqv.trans (K : Kil S) {a b c : α} (h : eqv S a b) (h' : eqv S b c) : eqv S a c := by
  obtain ⟨s, t, hs, ht, e⟩ := h
  obtain ⟨s', t', hs', ht', e'⟩ := h'
  refine ⟨s * s', t * t', K.mul hs hs', K.mul ht ht', ?_⟩
  calc a * (s * s') = (a * s) * s' := by ac_rfl
    _ = (b * s') * t := by rw [e]; ac_rfl
    _ = c * (t * t') := by rw [e']; ac_rfl
theorem eqv.mul (K : Kil S) {a b c d : α} (h : eqv S a b) (h' : eqv S c d) : eqv S (a * c) (b * d) := by
  obtain ⟨s, t, hs, ht, e⟩ := h
  obtain ⟨s', t', hs', ht', e'⟩ := h'
  refine ⟨s * s', t * t', K.mul hs hs', K.mul ht ht', ?_⟩
  calc a * c * (s * s') = (a * s) * (c * s') := by ac_rfl
    _ = b * d * (t * t') := by rw [e, e']; ac_rfl
theorem eqv.kil (K : Kil S) {a : α} (h : S a) : eqv S a 1 := ⟨1, a, K.one, h, by ac_rfl⟩
end
theorem eqv.symm {S : α → Prop} {a b : α} (h : eqv S a b) : eqv S b a := by
  obtain ⟨s, t, hs, ht, e⟩ := h
  exact ⟨t, s, ht, hs, e.symm⟩
theorem eqv.cancel {S : α → Prop} (C : Fd iv) {a b c : α} (hc : c ≠ 0) (h : eqv S (a * c) (b * c)) : eqv S a b := by
  obtain ⟨s, t, hs, ht, e⟩ := h
  refine ⟨s, t, hs, ht, ?_⟩
  have e2 : c * (a * s) = c * (b * t) := by rw [show c * (a * s) = a * c * s by ac_rfl, e]; ac_rfl
  have e3 : c * (a * s) * iv c = c * (b * t) * iv c := by rw [e2]
  rw [CR.mul_comm c, C.back hc, CR.mul_comm c, C.back hc] at e3
  exact e3
structure Geo (iv : α → α) (B : α) (S : α → Prop) (A P : Pt α → Prop) : Prop where
  fd : Fd iv
  kil : Kil S
  aOn : ∀ {Q}, A Q → On B Q
  aAdd : ∀ {Q R}, A Q → A R → A (add iv Q R)
  aNeg : ∀ {Q}, A Q → A (neg Q)
  aCom : ∀ {Q R}, A Q → A R → add iv Q R = add iv R Q
  aAsc : ∀ {Q R W}, A Q → A R → A W → add iv (add iv Q R) W = add iv Q (add iv R W)
  aOdd : ∀ {x y}, A (.aff x y) → y + y ≠ 0
  pOn : ∀ {Q}, P Q → On B Q
  pAdd : ∀ {Q R}, P Q → P R → P (add iv Q R)
  pNeg : ∀ {Q}, P Q → P (neg Q)
  pCom : ∀ {Q R}, P Q → P R → add iv Q R = add iv R Q
  pAsc : ∀ {Q R W}, P Q → P R → P W → add iv (add iv Q R) W = add iv Q (add iv R W)
  pOdd : ∀ {x y}, P (.aff x y) → y + y ≠ 0
  dif : ∀ {x y X Y}, A (.aff x y) → P (.aff X Y) → S (X - x)
  anz : ∀ {Q R T}, A Q → A R → P T → lv iv Q R T ≠ 0
  pnz : ∀ {Q R T}, P Q → P R → A T → lv iv Q R T ≠ 0
theorem sub_neg' {a b : α} : -(a - b) = b - a := by rw [CR.sub_eq, CR.sub_eq, neg_add', Rn.neg_neg, CR.add_comm]
theorem Geo.swap {S : α → Prop} {A P : Pt α → Prop} (G : Geo iv B S A P) : Geo iv B S P A :=
  ⟨G.fd, G.kil, G.pOn, G.pAdd, G.pNeg, G.pCom, G.pAsc, G.pOdd, G.aOn, G.aAdd, G.aNeg, G.aCom, G.aAsc, G.aOdd, fun h h' => by rw [← sub_neg']; exact G.kil.neg (G.dif h' h), G.pnz, G.anz⟩
section
variable {S : α → Prop} {A P : Pt α → Prop}
theorem Geo.opp (G : Geo iv B S A P) {Q R T : Pt α} (hQ : A Q) (hR : A R) (hT : P T) : eqv S (lv iv Q R T * lv iv Q R (neg T)) 1 := by
  have C := G.fd; have K := G.kil
  cases Q with
  | inf => exact eqv.of K (by rw [lv_inf1, lv_inf1, Rn.mul_one])
  | aff p yp =>
  cases R with
  | inf => exact eqv.of K (by rw [lv_inf2, lv_inf2, Rn.mul_one])
  | aff q yq =>
  cases T with
  | inf => exact eqv.of K (by show lv iv _ _ .inf * lv iv _ _ .inf = 1; rw [lv_inf3, Rn.mul_one])
  | aff X Y =>
    by_cases v : p = q ∧ yp + yq = 0
    · exact eqv.of K (by rw [lv_v v, lv_v v, Rn.mul_one])
    · obtain ⟨a, l, m, rfl, rfl, h⟩ := ln_at C (G.aOn hQ) (G.aOn hR) v
      have hs := G.aAdd hQ hR
      rw [h.sum C v] at hs
      show eqv S (lv iv _ _ (.aff X Y) * lv iv _ _ (.aff X (-Y))) 1
      rw [h.lv C v, h.lv C v, wN (G.pOn hT) h.e1 h.e2 h.e3]
      exact eqv.kil K (K.neg (K.mul (K.mul (G.dif hQ hT) (G.dif hR hT)) (G.dif hs hT)))
theorem Geo.neg (G : Geo iv B S A P) {Q R T : Pt α} (hQ : A Q) (hR : A R) (hT : P T) : eqv S (lv iv (EC.neg Q) (EC.neg R) T) (lv iv Q R (EC.neg T)) := by
  have C := G.fd; have K := G.kil
  cases Q with
  | inf => exact eqv.of K (by show lv iv .inf _ _ = _; rw [lv_inf1, lv_inf1])
  | aff p yp =>
  cases R with
  | inf => exact eqv.of K (by show lv iv _ .inf _ = _; rw [lv_inf2, lv_inf2])
  | aff q yq =>
  cases T with
  | inf => exact eqv.of K (by show lv iv _ _ .inf = lv iv _ _ .inf; rw [lv_inf3, lv_inf3])
  | aff X Y =>
    by_cases v : p = q ∧ yp + yq = 0
    · have v' : p = q ∧ -yp + -yq = 0 := ⟨v.1, by rw [← neg_add', v.2, neg_zero]⟩
      exact eqv.of K (by show lv iv (.aff _ _) (.aff _ _) _ = _; rw [lv_v v, lv_v v'])
    · obtain ⟨a, l, m, rfl, rfl, h⟩ := ln_at C (G.aOn hQ) (G.aOn hR) v
      have v' : ¬ (p = q ∧ (-l * p + -m) + (-l * q + -m) = 0) := fun h' => v ⟨h'.1, by
        have h0 := h'.2
        rw [← ngy, ← ngy] at h0
        exact dneg h0⟩
      show eqv S (lv iv (.aff p (-(l * p + m))) (.aff q (-(l * q + m))) (.aff X Y)) (lv iv _ _ (.aff X (-Y)))
      rw [ngy, ngy, h.ng.lv C v', h.lv C v, wO]
      exact ⟨-1, 1, K.neg K.one, K.one, by rw [Rn.mul_one, CR.mul_comm, neg_mul, CR.one_mul, Rn.neg_neg]⟩
theorem Geo.negs (G : Geo iv B S A P) {Q R T : Pt α} (hQ : A Q) (hR : A R) (hT : P T) : eqv S (lv iv (EC.neg Q) (EC.neg R) T * lv iv Q R T) 1 := by
  refine eqv.trans G.kil (eqv.mul G.kil (G.neg hQ hR hT) (eqv.refl G.kil _)) ?_
  rw [CR.mul_comm]
  exact G.opp hQ hR hT
theorem Geo.comm (G : Geo iv B S A P) {Q R T : Pt α} (hQ : A Q) (hR : A R) : lv iv Q R T = lv iv R Q T := by
  have C := G.fd
  cases Q with
  | inf => rw [lv_inf1, lv_inf2]
  | aff p yp =>
  cases R with
  | inf => rw [lv_inf1, lv_inf2]
  | aff q yq =>
  cases T with
  | inf => rw [lv_inf3, lv_inf3]
  | aff X Y =>
    by_cases v : p = q ∧ yp + yq = 0
    · rw [lv_v v, lv_v ⟨v.1.symm, (CR.add_comm _ _).trans v.2⟩]
    · obtain ⟨a, l, m, rfl, rfl, h⟩ := ln_at C (G.aOn hQ) (G.aOn hR) v
      rw [h.lv C v, h.s12.lv C (fun h' => v ⟨h'.1.symm, (CR.add_comm _ _).trans h'.2⟩)]
theorem Geo.two (G : Geo iv B S A P) {Q R W T : Pt α} (hQ : A Q) (hR : A R) (hW : A W) (hT : P T) : eqv S (lv iv Q R T * lv iv (add iv Q R) W T) (lv iv R W T * lv iv Q (add iv R W) T) := by
  have C := G.fd; have K := G.kil
  cases T with
  | inf => exact eqv.of K (by simp only [lv_inf3])
  | aff X Y =>
  cases Q with
  | inf => exact eqv.of K (by rw [lv_inf1, lv_inf1, inf_add, CR.mul_comm])
  | aff p yp =>
  cases R with
  | inf => exact eqv.of K (by rw [lv_inf1, lv_inf2, inf_add, add_inf])
  | aff q yq =>
  cases W with
  | inf => exact eqv.of K (by rw [lv_inf2, lv_inf2, add_inf, CR.mul_comm])
  | aff r yr =>
  have oQ := G.aOn hQ; have oR := G.aOn hR; have oW := G.aOn hW
  have key : ∀ {x1 x2 x3 l m : α}, Ln B x1 x2 x3 l m → A (.aff x1 (l * x1 + m)) → A (.aff x2 (l * x2 + m)) → ¬ (x1 = x2 ∧ (l * x1 + m) + (l * x2 + m) = 0) → eqv S ((Y - (l * X + m)) * (Y - (-l * X + -m))) 1 := by
    intro x1 x2 x3 l m h a1 a2 v
    have a3 := G.aAdd a1 a2
    rw [h.sum C v] at a3
    rw [wO, CR.mul_comm, neg_mul, CR.mul_comm, wN (G.pOn hT) h.e1 h.e2 h.e3]
    exact eqv.kil K (K.neg (K.neg (K.mul (K.mul (G.dif a1 hT) (G.dif a2 hT)) (G.dif a3 hT))))
  by_cases v1 : p = q ∧ yp + yq = 0
  · rw [lv_v v1, add_v iv v1, lv_inf1]
    obtain ⟨rfl, v1⟩ := v1
    by_cases v2 : p = r ∧ yq + yr = 0
    · rw [lv_v v2, add_v iv v2, lv_inf2]; exact eqv.refl K _
    · obtain ⟨b, u, n, rfl, rfl, h⟩ := ln_at C oR oW v2
      have hne : ¬ (p = b ∧ (-u * p + -n) + (-u * b + -n) = 0) := by
        rintro ⟨rfl, h0⟩
        rw [← ngy] at h0
        exact G.aOdd hR (dneg h0)
      rw [h.sum C v2, zn v1, ngy, ngy, h.lv C v2, h.s23.ng.lv C hne, Rn.mul_one]
      exact (key h hR hW v2).symm
  · obtain ⟨a, l, m, rfl, rfl, h1⟩ := ln_at C oQ oR v1
    by_cases v2 : q = r ∧ (l * q + m) + yr = 0
    · rw [lv_v v2, add_v iv v2, lv_inf2, h1.sum C v1]
      obtain ⟨rfl, v2⟩ := v2
      have hne : ¬ (a = q ∧ (-l * a + -m) + (-l * q + -m) = 0) := by
        rintro ⟨rfl, h0⟩
        rw [← ngy] at h0
        exact G.aOdd hR (dneg h0)
      rw [zn ((CR.add_comm _ _).trans v2), ngy, ngy, h1.lv C v1, h1.s12.s23.s12.ng.lv C hne, Rn.mul_one]
      exact key h1 hQ hR v1
    · obtain ⟨b, u, n, hq, rfl, h2⟩ := ln_at C oR oW v2
      by_cases w1 : a = r ∧ -(l * a + m) + (u * r + n) = 0
      · rw [h1.sum C v1, lv_v w1]
        obtain ⟨rfl, w1⟩ := w1
        have e := zy w1
        rw [e] at v2 ⊢
        rw [h1.s12.s23.sum C v2, lv_v ⟨rfl, Rn.add_neg _⟩, h1.lv C v1, h1.s12.s23.lv C v2]
        exact eqv.refl K _
      · by_cases w2 : p = b ∧ (l * p + m) + -(u * b + n) = 0
        · have hv2 := v2
          rw [hq] at hv2
          have hs := h2.sum C hv2
          have hl := h2.lv C hv2 X Y
          rw [← hq] at hs hl
          rw [hs, lv_v w2, hl]
          obtain ⟨rfl, w2⟩ := w2
          have e := zy2 w2
          rw [hq, e] at v1 ⊢
          rw [h2.s23.s12.sum C v1, lv_v ⟨rfl, CR.neg_add _⟩, h2.s23.s12.lv C v1]
          exact eqv.refl K _
        · have hv2 := v2
          rw [hq] at hv2
          have hs := h2.sum C hv2
          have hl := h2.lv C hv2 X Y
          rw [← hq] at hs hl
          by_cases hul : u = l
          · subst hul
            have hm := mn hq
            subst hm
            rcases (Classical.em (p - r = 0)) with h0 | h0
            · have := dz h0
              subst this
              rw [G.aCom hR hQ, G.comm hR hQ, G.comm (G.aAdd hQ hR) hQ]
              exact eqv.refl K _
            · have := dz (C.cancel h0 (cSame h1.e1 h2.e1 h1.e2 h2.e2))
              subst this
              exact absurd ⟨rfl, Rn.add_neg _⟩ w2
          · have hd : u - l ≠ 0 := fun h0 => hul (dz h0)
            have hd' : l - u ≠ 0 := fun h0 => hul (dz h0).symm
            obtain ⟨k, hk⟩ : ∃ k, (u - l) * k = a - b := ⟨iv (u - l) * (a - b), by rw [← CR.mul_assoc, C.iv _ hd, CR.one_mul]⟩
            obtain ⟨k1, k2⟩ := heart C h1 h2 hq hd hk
            obtain ⟨k3, k4⟩ := heart C h2.s12 h1.s12 hq.symm hd' (kneg hk)
            have eA : u * r + n = (u + k) * r + (n - k * r) := yl
            have eP : l * p + m = (l + k) * p + (m - k * p) := yl
            have E1 := cE1 h1.e1 h2.e1
            have Hq := wHq hq
            have aQR := G.aAdd hQ hR
            rw [h1.sum C v1] at aQR
            have aRW := G.aAdd hR hW
            rw [hs] at aRW
            have lA := k1.s12.lv C (fun h' => w1 (by rw [k2, eA]; exact h')) X Y
            have lB := k3.lv C (fun h' => w2 (by rw [k4, eP]; exact h')) X Y
            have cT := G.pOn hT
            have s1 : (u + k) * a + (n - k * r) + (l * a + m) = 0 := by rw [← k2, CR.neg_add]
            have s2 : (l + k) * b + (m - k * p) + (u * b + n) = 0 := by rw [← k4, CR.neg_add]
            have i1 := wSide cT h1.e1 h1.e2 h1.e3 (wT1 s1)
            have i2 := wSide cT h2.e1 h2.e2 h2.e3 (wT2 s2)
            rw [h1.sum C v1, hs, h1.lv C v1, hl, k2, eA, lA, k4, eP, lB]
            refine ⟨X - b, X - a, G.dif aRW hT, G.dif aQR hT, ?_⟩
            have hb := wBoth (X := X) (Y := Y) (wS E1 hk) Hq
            rw [i1, i2, hb]
            ac_rfl
theorem Geo.recip (G : Geo iv B S A P) {Q R T U : Pt α} (hQ : A Q) (hR : A R) (hT : P T) (hU : P U) : eqv S (lv iv Q R T * lv iv Q R U * lv iv T U (add iv Q R)) (lv iv T U Q * lv iv T U R * lv iv Q R (add iv T U)) := by
  have C := G.fd; have K := G.kil; have G' := G.swap
  cases Q with
  | inf => exact eqv.of K (by rw [lv_inf1, lv_inf1, lv_inf1, inf_add, lv_inf3]; ac_rfl)
  | aff p yp =>
  cases R with
  | inf => exact eqv.of K (by rw [lv_inf2, lv_inf2, lv_inf2, add_inf, lv_inf3]; ac_rfl)
  | aff q yq =>
  cases T with
  | inf => exact eqv.of K (by rw [lv_inf1, lv_inf1, lv_inf1, inf_add, lv_inf3]; ac_rfl)
  | aff t yt =>
  cases U with
  | inf => exact eqv.of K (by rw [lv_inf2, lv_inf2, lv_inf2, add_inf, lv_inf3]; ac_rfl)
  | aff u yu =>
  by_cases v1 : p = q ∧ yp + yq = 0
  · rw [lv_v v1, lv_v v1, lv_v v1, add_v iv v1, lv_inf3, Rn.mul_one, Rn.mul_one, Rn.mul_one]
    obtain ⟨rfl, v1⟩ := v1
    have e : yq = -yp := zn ((CR.add_comm _ _).trans v1)
    subst e
    exact (G'.opp hT hU hQ).symm
  by_cases v2 : t = u ∧ yt + yu = 0
  · rw [lv_v v2, lv_v v2, lv_v v2, add_v iv v2, lv_inf3, Rn.mul_one, Rn.mul_one, Rn.mul_one]
    obtain ⟨rfl, v2⟩ := v2
    have e : yu = -yt := zn ((CR.add_comm _ _).trans v2)
    subst e
    exact G.opp hQ hR hT
  obtain ⟨a, l, m, rfl, rfl, h⟩ := ln_at C (G.aOn hQ) (G.aOn hR) v1
  obtain ⟨b, k, n, rfl, rfl, g⟩ := ln_at C (G.pOn hT) (G.pOn hU) v2
  have aS := G.aAdd hQ hR
  have pS := G.pAdd hT hU
  have oA := G'.opp hT hU aS
  have oP := G.opp hQ hR pS
  have nA := G.pnz hT hU (G.aNeg aS)
  have nP := G.anz hQ hR (G.pNeg pS)
  rw [h.sum C v1] at aS oA nA ⊢
  rw [g.sum C v2] at pS oP nP ⊢
  have eA : EC.neg (.aff a (-(l * a + m))) = .aff a (l * a + m) := by show Pt.aff a (- -(l * a + m)) = _; rw [Rn.neg_neg]
  have eP : EC.neg (.aff b (-(k * b + n))) = .aff b (k * b + n) := by show Pt.aff b (- -(k * b + n)) = _; rw [Rn.neg_neg]
  rw [eA] at oA nA
  rw [eP] at oP nP
  -- the two products
  have c1 := wR1 (l := l) (m := m) g.e1 g.e2 g.e3
  have c2 := wR1 (l := k) (m := n) h.e1 h.e2 h.e3
  rw [wR2] at c1
  rw [← h.lv C v1, ← h.lv C v1, ← h.lv C v1] at c1
  rw [← g.lv C v2, ← g.lv C v2, ← g.lv C v2] at c2
  rw [← c2] at c1
  refine eqv.cancel C (C.ne_mul nA nP) ?_
  generalize lv iv (.aff p (l * p + m)) (.aff q (l * q + m)) (.aff t (k * t + n)) = L1 at *
  generalize lv iv (.aff p (l * p + m)) (.aff q (l * q + m)) (.aff u (k * u + n)) = L2 at *
  generalize lv iv (.aff p (l * p + m)) (.aff q (l * q + m)) (.aff b (k * b + n)) = L3 at *
  generalize lv iv (.aff p (l * p + m)) (.aff q (l * q + m)) (.aff b (-(k * b + n))) = L4 at *
  generalize lv iv (.aff t (k * t + n)) (.aff u (k * u + n)) (.aff p (l * p + m)) = M1 at *
  generalize lv iv (.aff t (k * t + n)) (.aff u (k * u + n)) (.aff q (l * q + m)) = M2 at *
  generalize lv iv (.aff t (k * t + n)) (.aff u (k * u + n)) (.aff a (l * a + m)) = M3 at *
  generalize lv iv (.aff t (k * t + n)) (.aff u (k * u + n)) (.aff a (-(l * a + m))) = M4 at *
  have e1 : L1 * L2 * M4 * (M3 * L3) = (L1 * L2 * L3) * (M4 * M3) := by ac_rfl
  have e2 : M1 * M2 * L4 * (M3 * L3) = (M1 * M2 * M3) * (L4 * L3) := by ac_rfl
  rw [e1, e2, c1]
  exact eqv.mul K ⟨-1, 1, K.neg K.one, K.one, by rw [Rn.mul_one, CR.mul_comm, neg_mul, CR.one_mul, Rn.neg_neg]⟩ (eqv.trans K oA oP.symm)
end
end
end Go.Proofs.YthnfgmhehfombaaGreatDoor.fpn.EC

/- Miller's products: what they are of sums, on either side. No program is named here. -/
namespace Go.Proofs.YthnfgmhehfombaaGreatDoor.fpn.EC
open Rn
set_option linter.unusedVariables false
set_option linter.unusedSectionVars false

section
variable {α : Type} [Add α] [Mul α] [Neg α] [Sub α] [OfNat α 0] [OfNat α 1] [CR α] [DecidableEq α] {iv : α → α} {B : α} {S : α → Prop} {A P : Pt α → Prop}
def fm (iv : α → α) (Q T : Pt α) : Nat → α
  | 0 => 1
  | n + 1 => fm iv Q T n * lv iv (mul iv n Q) Q T
theorem Geo.aMul (G : Geo iv B S A P) {Q : Pt α} (hQ : A Q) : ∀ n, A (mul iv n Q) ∨ mul iv n Q = .inf
  | 0 => .inr rfl
  | n + 1 => by
    rcases G.aMul hQ n with h | h
    · exact .inl (G.aAdd h hQ)
    · left
      show A (add iv (mul iv n Q) Q)
      rw [h, inf_add]; exact hQ
theorem Geo.aMul' (G : Geo iv B S A P) (hA : A .inf) {Q : Pt α} (hQ : A Q) (n : Nat) : A (mul iv n Q) := by
  rcases G.aMul hQ n with h | h
  · exact h
  · rw [h]; exact hA
theorem Geo.mulAdd (G : Geo iv B S A P) (hA : A .inf) {Q : Pt α} (hQ : A Q) (m : Nat) : ∀ n, mul iv (m + n) Q = add iv (mul iv m Q) (mul iv n Q)
  | 0 => (add_inf iv _).symm
  | n + 1 => by
    show add iv (mul iv (m + n) Q) Q = add iv _ (add iv (mul iv n Q) Q)
    rw [G.mulAdd hA hQ m n, G.aAsc (G.aMul' hA hQ m) (G.aMul' hA hQ n) hQ]
theorem Geo.mulSum (G : Geo iv B S A P) (hA : A .inf) {Q R : Pt α} (hQ : A Q) (hR : A R) : ∀ n, mul iv n (add iv Q R) = add iv (mul iv n Q) (mul iv n R)
  | 0 => rfl
  | n + 1 => by
    have a := G.aMul' hA hQ n
    have b := G.aMul' hA hR n
    show add iv (mul iv n (add iv Q R)) (add iv Q R) = add iv (add iv (mul iv n Q) Q) (add iv (mul iv n R) R)
    rw [G.mulSum hA hQ hR n, ← G.aAsc (G.aAdd a b) hQ hR, G.aAsc a b hQ, G.aCom b hQ, ← G.aAsc a hQ b, G.aAsc (G.aAdd a hQ) b hR]
theorem Geo.fm_add (G : Geo iv B S A P) (hA : A .inf) {Q T : Pt α} (hQ : A Q) (hT : P T) (m : Nat) : ∀ n, eqv S (fm iv Q T (m + n)) (fm iv Q T m * fm iv Q T n * lv iv (mul iv m Q) (mul iv n Q) T)
  | 0 => eqv.of G.kil (by show fm iv Q T m = fm iv Q T m * 1 * lv iv (mul iv m Q) .inf T; rw [lv_inf2, Rn.mul_one, Rn.mul_one])
  | n + 1 => by
    have K := G.kil
    have ih := G.fm_add hA hQ hT m n
    have t := G.two (G.aMul' hA hQ m) (G.aMul' hA hQ n) hQ hT
    rw [← G.mulAdd hA hQ] at t
    show eqv S (fm iv Q T (m + n) * lv iv (mul iv (m + n) Q) Q T) (fm iv Q T m * (fm iv Q T n * lv iv (mul iv n Q) Q T) * lv iv (mul iv m Q) (add iv (mul iv n Q) Q) T)
    refine eqv.trans K (eqv.mul K ih (eqv.refl K _)) ?_
    have := eqv.mul K (eqv.refl K (fm iv Q T m * fm iv Q T n)) t
    refine eqv.trans K (eqv.of K ?_) (eqv.trans K this (eqv.of K ?_)) <;> ac_rfl
theorem Geo.four (G : Geo iv B S A P) (hA : A .inf) {Q R V W T : Pt α} (hQ : A Q) (hR : A R) (hV : A V) (hW : A W) (hT : P T) :
    eqv S (lv iv Q R T * lv iv (add iv Q R) (add iv V W) T * lv iv V W T) (lv iv Q V T * lv iv R W T * lv iv (add iv Q V) (add iv R W) T) := by
  have K := G.kil; have C := G.fd
  have a1 := G.two hQ hR (G.aAdd hV hW) hT
  have a2 := G.two hR hW hV hT
  have a3 := G.two hQ hV (G.aAdd hR hW) hT
  rw [G.aCom hW hV] at a2
  have e : add iv (add iv R W) V = add iv R (add iv V W) := by rw [G.aAsc hR hW hV, G.aCom hW hV]
  have e3 : add iv V (add iv R W) = add iv R (add iv V W) := by rw [G.aCom hV (G.aAdd hR hW), e]
  rw [e3] at a3
  -- both sides times lv (R + W) V
  have nz := G.anz (G.aAdd hR hW) hV hT
  refine eqv.cancel C nz ?_
  have s1 : eqv S (lv iv Q R T * lv iv (add iv Q R) (add iv V W) T * lv iv V W T * lv iv (add iv R W) V T) ((lv iv R (add iv V W) T * lv iv Q (add iv R (add iv V W)) T) * (lv iv V W T * lv iv (add iv R W) V T)) :=
    eqv.trans K (eqv.of K (by ac_rfl)) (eqv.mul K a1 (eqv.refl K (lv iv V W T * lv iv (add iv R W) V T)))
  refine eqv.trans K s1 ?_
  have s2 : eqv S ((lv iv R (add iv V W) T * lv iv V W T) * (lv iv Q (add iv R (add iv V W)) T * lv iv (add iv R W) V T)) ((lv iv R W T * lv iv (add iv R W) V T) * (lv iv Q V T * lv iv (add iv Q V) (add iv R W) T)) := by
    refine eqv.mul K ?_ ?_
    · rw [G.comm hV hW, CR.mul_comm]; exact a2.symm
    · rw [G.comm (G.aAdd hR hW) hV, CR.mul_comm]; exact a3.symm
  refine eqv.trans K (eqv.of K ?_) (eqv.trans K s2 (eqv.of K ?_)) <;> ac_rfl
theorem Geo.fm_sum (G : Geo iv B S A P) (hA : A .inf) {Q R T : Pt α} (hQ : A Q) (hR : A R) (hT : P T) : ∀ n, eqv S (fm iv (add iv Q R) T n * npw (lv iv Q R T) n) (fm iv Q T n * fm iv R T n * lv iv (mul iv n Q) (mul iv n R) T)
  | 0 => eqv.of G.kil (by show (1 : α) * 1 = 1 * 1 * lv iv .inf .inf T; rw [lv_inf1, Rn.mul_one, Rn.mul_one])
  | n + 1 => by
    have K := G.kil; have C := G.fd
    have ih := G.fm_sum hA hQ hR hT n
    have f := G.four hA (G.aMul' hA hQ n) (G.aMul' hA hR n) hQ hR hT
    rw [← G.mulSum hA hQ hR] at f
    show eqv S (fm iv (add iv Q R) T n * lv iv (mul iv n (add iv Q R)) (add iv Q R) T * (npw (lv iv Q R T) n * lv iv Q R T)) (fm iv Q T n * lv iv (mul iv n Q) Q T * (fm iv R T n * lv iv (mul iv n R) R T) * lv iv (add iv (mul iv n Q) Q) (add iv (mul iv n R) R) T)
    have s1 := eqv.mul K ih (eqv.refl K (lv iv (mul iv n (add iv Q R)) (add iv Q R) T * lv iv Q R T))
    have s2 := eqv.mul K (eqv.refl K (fm iv Q T n * fm iv R T n)) f
    refine eqv.trans K (eqv.of K ?_) (eqv.trans K s1 (eqv.trans K (eqv.of K ?_) (eqv.trans K s2 (eqv.of K ?_)))) <;> ac_rfl
theorem Geo.fm_at (G : Geo iv B S A P) (hA : A .inf) {Q T U : Pt α} (hQ : A Q) (hT : P T) (hU : P U) : ∀ n, eqv S (fm iv Q T n * fm iv Q U n * lv iv T U (mul iv n Q)) (npw (lv iv T U Q) n * fm iv Q (add iv T U) n)
  | 0 => eqv.of G.kil (by show (1 : α) * 1 * lv iv T U .inf = 1 * 1; rw [lv_inf3, Rn.mul_one, Rn.mul_one])
  | n + 1 => by
    have K := G.kil
    have ih := G.fm_at hA hQ hT hU n
    have r := G.recip (G.aMul' hA hQ n) hQ hT hU
    show eqv S (fm iv Q T n * lv iv (mul iv n Q) Q T * (fm iv Q U n * lv iv (mul iv n Q) Q U) * lv iv T U (add iv (mul iv n Q) Q)) (npw (lv iv T U Q) n * lv iv T U Q * (fm iv Q (add iv T U) n * lv iv (mul iv n Q) Q (add iv T U)))
    have s1 := eqv.mul K (eqv.refl K (fm iv Q T n * fm iv Q U n)) r
    have s2 := eqv.mul K ih (eqv.refl K (lv iv T U Q * lv iv (mul iv n Q) Q (add iv T U)))
    refine eqv.trans K (eqv.of K ?_) (eqv.trans K s1 (eqv.trans K (eqv.of K ?_) (eqv.trans K s2 (eqv.of K ?_)))) <;> ac_rfl
end
end Go.Proofs.YthnfgmhehfombaaGreatDoor.fpn.EC

/- A pairing out of Miller's products: it multiplies on either side. No program is named here. -/
namespace Go.Proofs.YthnfgmhehfombaaGreatDoor.fpn.EC
open Rn
set_option linter.unusedVariables false
set_option linter.unusedSectionVars false

section
variable {α : Type} [Add α] [Mul α] [Neg α] [Sub α] [OfNat α 0] [OfNat α 1] [CR α] [DecidableEq α] {iv : α → α} {B : α} {S : α → Prop} {A P : Pt α → Prop}
def pm (f : α → α) : Pt α → Pt α
  | .inf => .inf
  | .aff x y => .aff (f x) (f y)
theorem pm_neg {f : α → α} (hn : ∀ a, f (-a) = -f a) (Q : Pt α) : pm f (neg Q) = neg (pm f Q) := by
  cases Q with
  | inf => rfl
  | aff x y => show Pt.aff _ _ = Pt.aff _ _; rw [hn]
structure Hom (f : α → α) : Prop where
  add : ∀ a b, f (a + b) = f a + f b
  mul : ∀ a b, f (a * b) = f a * f b
  one : f 1 = 1
  inj : ∀ {a b}, f a = f b → a = b
theorem Hom.zero {f : α → α} (h : Hom f) : f 0 = 0 := by
  have := h.add 0 0
  rw [CR.zero_add] at this
  exact (Rn.cancel (a := f 0) (by rw [Rn.add_zero]; exact this)).symm
theorem Hom.neg {f : α → α} (h : Hom f) (a : α) : f (-a) = -f a := Rn.neg_uniq (by rw [← h.add, Rn.add_neg, h.zero])
theorem Hom.sub {f : α → α} (h : Hom f) (a b : α) : f (a - b) = f a - f b := by rw [CR.sub_eq, h.add, h.neg, CR.sub_eq]
theorem Hom.inv {f : α → α} (h : Hom f) (C : Fd iv) {d : α} (hd : d ≠ 0) : f (iv d) = iv (f d) := by
  have hf : f d ≠ 0 := fun e => hd (h.inj (by rw [e, h.zero]))
  have e : f (iv d) * f d = 1 := by rw [← h.mul, CR.mul_comm, C.iv d hd, h.one]
  have := C.back (x := f (iv d)) hf
  rw [e, CR.one_mul] at this
  exact this.symm
theorem Hom.lv {f : α → α} (h : Hom f) (C : Fd iv) (Q R T : Pt α) : lv iv (pm f Q) (pm f R) (pm f T) = f (lv iv Q R T) := by
  cases Q with
  | inf => exact h.one.symm
  | aff x1 y1 =>
  cases R with
  | inf => exact h.one.symm
  | aff x2 y2 =>
  cases T with
  | inf => exact h.one.symm
  | aff X Y =>
    show (if f x1 = f x2 ∧ f y1 + f y2 = 0 then 1 else _) = f (if x1 = x2 ∧ y1 + y2 = 0 then 1 else _)
    by_cases v : x1 = x2 ∧ y1 + y2 = 0
    · rw [if_pos v, if_pos ⟨by rw [v.1], by rw [← h.add, v.2, h.zero]⟩, h.one]
    · rw [if_neg v, if_neg (fun e => v ⟨h.inj e.1, h.inj (by rw [h.add, e.2, h.zero])⟩)]
      have hs : slope iv (f x1) (f y1) (f x2) (f y2) = f (slope iv x1 y1 x2 y2) := by
        unfold slope
        by_cases e : x1 = x2
        · have hy : y1 + y2 ≠ 0 := fun h0 => v ⟨e, h0⟩
          rw [if_pos (by rw [e]), if_pos e, h.mul, h.add, h.add, h.mul, h.inv C hy, h.add]
        · have hx : x2 - x1 ≠ 0 := fun h0 => e (dz h0).symm
          rw [if_neg (fun e' => e (h.inj e')), if_neg e, h.mul, h.sub, h.inv C hx, h.sub]
      rw [hs, h.sub, h.add, h.mul, h.sub]
structure Mil (iv : α → α) (B : α) (S : α → Prop) (A P : Pt α → Prop) (n : Nat) (f ex : α → α) : Prop where
  geo : Geo iv B S A P
  ainf : A .inf
  pinf : P .inf
  hom : Hom f
  tw : ∀ {Q}, A Q → mul iv n Q = neg (pm f Q)
  fix : ∀ {T}, P T → pm f T = T
  exm : ∀ a b, ex (a * b) = ex a * ex b
  exs : ∀ {a}, S a → ex a = 1
  exk : ∀ {a}, a ≠ 0 → ex (npw a n * f a) = 1
variable {n : Nat} {f ex : α → α}
theorem Mil.eqv (M : Mil iv B S A P n f ex) {a b : α} (h : eqv S a b) : ex a = ex b := by
  obtain ⟨s, t, hs, ht, e⟩ := h
  have := congrArg ex e
  rw [M.exm, M.exm, M.exs hs, M.exs ht, Rn.mul_one, Rn.mul_one] at this
  exact this
theorem Mil.phi (M : Mil iv B S A P n f ex) {Q : Pt α} (hQ : A Q) : pm f Q = EC.neg (mul iv n Q) := by rw [M.tw hQ, EC.neg_neg]
theorem Mil.aphi (M : Mil iv B S A P n f ex) {Q : Pt α} (hQ : A Q) : A (pm f Q) := by rw [M.phi hQ]; exact M.geo.aNeg (M.geo.aMul' M.ainf hQ n)
theorem Mil.one (M : Mil iv B S A P n f ex) : ex 1 = 1 := M.exs M.geo.kil.one
theorem Mil.sum1 (M : Mil iv B S A P n f ex) {Q R T : Pt α} (hQ : A Q) (hR : A R) (hT : P T) : ex (fm iv (add iv Q R) T n) = ex (fm iv Q T n) * ex (fm iv R T n) := by
  have G := M.geo; have K := G.kil; have C := G.fd
  have h := G.fm_sum M.ainf hQ hR hT n
  rw [M.tw hQ, M.tw hR] at h
  have g := G.negs (M.aphi hQ) (M.aphi hR) hT
  have e := M.hom.lv C Q R T
  rw [M.fix hT] at e
  rw [e] at g
  have nz := G.anz hQ hR hT
  have s := M.eqv (EC.eqv.trans K (EC.eqv.mul K h (EC.eqv.refl K (f (lv iv Q R T)))) (EC.eqv.of K (CR.mul_assoc _ _ _)))
  have s2 := M.eqv (EC.eqv.mul K (EC.eqv.refl K (fm iv Q T n * fm iv R T n)) g)
  rw [s2, CR.mul_assoc, M.exm, M.exk nz, Rn.mul_one, Rn.mul_one, M.exm] at s
  exact s
theorem Mil.sum2 (M : Mil iv B S A P n f ex) {Q T U : Pt α} (hQ : A Q) (hT : P T) (hU : P U) : ex (fm iv Q (add iv T U) n) = ex (fm iv Q T n) * ex (fm iv Q U n) := by
  have G := M.geo; have K := G.kil; have C := G.fd
  have h := G.fm_at M.ainf hQ hT hU n
  rw [M.tw hQ] at h
  have g := G.swap.opp hT hU (M.aphi hQ)
  have e := M.hom.lv C T U Q
  rw [M.fix hT, M.fix hU] at e
  rw [e] at g
  have nz := G.pnz hT hU hQ
  have s := M.eqv (EC.eqv.mul K h (EC.eqv.refl K (f (lv iv T U Q))))
  have s2 := M.eqv (EC.eqv.mul K (EC.eqv.refl K (fm iv Q T n * fm iv Q U n)) g)
  have e1 : fm iv Q T n * fm iv Q U n * lv iv T U (EC.neg (pm f Q)) * f (lv iv T U Q) = fm iv Q T n * fm iv Q U n * (f (lv iv T U Q) * lv iv T U (EC.neg (pm f Q))) := by ac_rfl
  have e2 : npw (lv iv T U Q) n * fm iv Q (add iv T U) n * f (lv iv T U Q) = fm iv Q (add iv T U) n * (npw (lv iv T U Q) n * f (lv iv T U Q)) := by ac_rfl
  rw [e1, s2, e2, M.exm _ (npw _ _ * _), M.exk nz, Rn.mul_one, Rn.mul_one, M.exm] at s
  exact s.symm
theorem fm_inf1 (T : Pt α) : ∀ k, fm iv .inf T k = 1
  | 0 => rfl
  | k + 1 => by
    show fm iv .inf T k * lv iv (mul iv k .inf) .inf T = 1
    rw [fm_inf1 T k, mul_inf, lv_inf1, Rn.mul_one]
theorem fm_inf2 (Q : Pt α) : ∀ k, fm iv Q .inf k = 1
  | 0 => rfl
  | k + 1 => by
    show fm iv Q .inf k * lv iv (mul iv k Q) Q .inf = 1
    rw [fm_inf2 Q k, lv_inf3, Rn.mul_one]
theorem Mil.mul1 (M : Mil iv B S A P n f ex) {Q T : Pt α} (hQ : A Q) (hT : P T) : ∀ a, ex (fm iv (mul iv a Q) T n) = npw (ex (fm iv Q T n)) a
  | 0 => by show ex (fm iv .inf T n) = 1; rw [fm_inf1, M.one]
  | a + 1 => by
    show ex (fm iv (add iv (mul iv a Q) Q) T n) = npw (ex (fm iv Q T n)) a * ex (fm iv Q T n)
    rw [M.sum1 (M.geo.aMul' M.ainf hQ a) hQ hT, M.mul1 hQ hT a]
theorem Mil.mul2 (M : Mil iv B S A P n f ex) {Q T : Pt α} (hQ : A Q) (hT : P T) : ∀ a, ex (fm iv Q (mul iv a T) n) = npw (ex (fm iv Q T n)) a
  | 0 => by show ex (fm iv Q .inf n) = 1; rw [fm_inf2, M.one]
  | a + 1 => by
    show ex (fm iv Q (add iv (mul iv a T) T) n) = npw (ex (fm iv Q T n)) a * ex (fm iv Q T n)
    rw [M.sum2 hQ (M.geo.swap.aMul' M.pinf hT a) hT, M.mul2 hQ hT a]
theorem Mil.both (M : Mil iv B S A P n f ex) {Q T : Pt α} (hQ : A Q) (hT : P T) (a b : Nat) : ex (fm iv (mul iv b Q) (mul iv a T) n) = npw (ex (fm iv Q T n)) (a * b) := by
  rw [M.mul1 hQ (M.geo.swap.aMul' M.pinf hT a), M.mul2 hQ hT, ← npw_exp]
end
end Go.Proofs.YthnfgmhehfombaaGreatDoor.fpn.EC
