/- VP VQ VR VS VT. -/
import Derived.Test.YthnfgmhehfombaaGreatDoorNA
import Derived.Test.YthnfgmhehfombaaGreatDoorGJ
/- Sixes of pairs: what lies where; points of pairs go up. No program is named here. -/
namespace Go.Proofs.YthnfgmhehfombaaGreatDoor.fpn.F12
open Rn EC
set_option linter.unusedVariables false
set_option linter.unusedSimpArgs false

noncomputable def xin : F2 := xi.inv
theorem xi_xin : xi * xin = 1 := F2.inv_mul (by decide +kernel)
theorem k6_mul0 (x y : F6) : (x * y).c0 = x.c0 * y.c0 + xi * (x.c1 * y.c2 + x.c2 * y.c1) := rfl
theorem k6_mul1 (x y : F6) : (x * y).c1 = x.c0 * y.c1 + x.c1 * y.c0 + xi * (x.c2 * y.c2) := rfl
theorem k6_mul2 (x y : F6) : (x * y).c2 = x.c0 * y.c2 + x.c1 * y.c1 + x.c2 * y.c0 := rfl
theorem k6_add0 (x y : F6) : (x + y).c0 = x.c0 + y.c0 := rfl
theorem k6_add1 (x y : F6) : (x + y).c1 = x.c1 + y.c1 := rfl
theorem k6_add2 (x y : F6) : (x + y).c2 = x.c2 + y.c2 := rfl
theorem k6_up0 (x : F6) : x.up.c0 = x.c2 * xi := rfl
theorem k6_up1 (x : F6) : x.up.c1 = x.c0 := rfl
theorem k6_up2 (x : F6) : x.up.c2 = x.c1 := rfl
theorem k6_z0 : (0 : F6).c0 = 0 := rfl
theorem k6_z1 : (0 : F6).c1 = 0 := rfl
theorem k6_z2 : (0 : F6).c2 = 0 := rfl
theorem k12_mul0 (x y : F12) : (x * y).c0 = x.c0 * y.c0 + (x.c1 * y.c1).up := rfl
theorem k12_mul1 (x y : F12) : (x * y).c1 = x.c0 * y.c1 + x.c1 * y.c0 := rfl
theorem k12_add0 (x y : F12) : (x + y).c0 = x.c0 + y.c0 := rfl
theorem k12_add1 (x y : F12) : (x + y).c1 = x.c1 + y.c1 := rfl
theorem k12_sub1 (x y : F12) : (x - y).c1 = x.c1 - y.c1 := rfl
theorem k12_neg0 (x : F12) : (-x).c0 = -x.c0 := rfl
theorem k12_neg1 (x : F12) : (-x).c1 = -x.c1 := rfl
noncomputable def mx (a : F2) : F12 := ⟨⟨0, 0, xin * a⟩, 0⟩
noncomputable def my (a : F2) : F12 := ⟨0, ⟨0, xin * a, 0⟩⟩
noncomputable def ml (a : F2) : F12 := ⟨0, ⟨0, 0, xin * a⟩⟩
noncomputable def m4 (a : F2) : F12 := ⟨⟨0, xin * a, 0⟩, 0⟩
theorem ex6 {x y : F12} (h0 : x.c0.c0 = y.c0.c0) (h1 : x.c0.c1 = y.c0.c1) (h2 : x.c0.c2 = y.c0.c2) (h3 : x.c1.c0 = y.c1.c0) (h4 : x.c1.c1 = y.c1.c1) (h5 : x.c1.c2 = y.c1.c2) : x = y := ext' (F6.ext' h0 h1 h2) (F6.ext' h3 h4 h5)
theorem xk (a b : F2) : xi * (xin * a * (xin * b)) = xin * (a * b) := by
  rw [show xi * (xin * a * (xin * b)) = (xi * xin) * (xin * (a * b)) by ac_rfl, xi_xin, CR.one_mul]
theorem xk2 (a b : F2) : xin * a * (xin * b) * xi = xin * (a * b) := by rw [CR.mul_comm, xk]
theorem ml_ml (a b : F2) : ml a * ml b = mx (a * b) := by
  refine ex6 ?_ ?_ ?_ ?_ ?_ ?_ <;> simp only [k12_mul0, k12_mul1, k6_mul0, k6_mul1, k6_mul2, k6_add0, k6_add1, k6_add2, k6_up0, k6_up1, k6_up2, k6_z0, k6_z1, k6_z2, ml, mx, my, m4, Rn.zero_mul, Rn.mul_zero, CR.zero_add, Rn.add_zero, xk, xk2]
theorem ml_mx (a b : F2) : ml a * mx b = my (a * b) := by
  refine ex6 ?_ ?_ ?_ ?_ ?_ ?_ <;> simp only [k12_mul0, k12_mul1, k6_mul0, k6_mul1, k6_mul2, k6_add0, k6_add1, k6_add2, k6_up0, k6_up1, k6_up2, k6_z0, k6_z1, k6_z2, ml, mx, my, m4, Rn.zero_mul, Rn.mul_zero, CR.zero_add, Rn.add_zero, xk, xk2]
theorem mx_mx (a b : F2) : mx a * mx b = m4 (a * b) := by
  refine ex6 ?_ ?_ ?_ ?_ ?_ ?_ <;> simp only [k12_mul0, k12_mul1, k6_mul0, k6_mul1, k6_mul2, k6_add0, k6_add1, k6_add2, k6_up0, k6_up1, k6_up2, k6_z0, k6_z1, k6_z2, ml, mx, my, m4, Rn.zero_mul, Rn.mul_zero, CR.zero_add, Rn.add_zero, xk, xk2]
theorem ml_my (a b : F2) : ml a * my b = m4 (a * b) := by
  refine ex6 ?_ ?_ ?_ ?_ ?_ ?_ <;> simp only [k12_mul0, k12_mul1, k6_mul0, k6_mul1, k6_mul2, k6_add0, k6_add1, k6_add2, k6_up0, k6_up1, k6_up2, k6_z0, k6_z1, k6_z2, ml, mx, my, m4, Rn.zero_mul, Rn.mul_zero, CR.zero_add, Rn.add_zero, xk, xk2]
theorem my_my (a b : F2) : my a * my b = emb (xin * (a * b)) := by
  refine ex6 ?_ ?_ ?_ ?_ ?_ ?_ <;> simp only [k12_mul0, k12_mul1, k6_mul0, k6_mul1, k6_mul2, k6_add0, k6_add1, k6_add2, k6_up0, k6_up1, k6_up2, k6_z0, k6_z1, k6_z2, emb, mx, my, m4, Rn.zero_mul, Rn.mul_zero, CR.zero_add, Rn.add_zero, xk, xk2]
theorem m4_mx (a b : F2) : m4 a * mx b = emb (xin * (a * b)) := by
  refine ex6 ?_ ?_ ?_ ?_ ?_ ?_ <;> simp only [k12_mul0, k12_mul1, k6_mul0, k6_mul1, k6_mul2, k6_add0, k6_add1, k6_add2, k6_up0, k6_up1, k6_up2, k6_z0, k6_z1, k6_z2, emb, mx, my, m4, Rn.zero_mul, Rn.mul_zero, CR.zero_add, Rn.add_zero, xk, xk2]
theorem mx_add (a b : F2) : mx a + mx b = mx (a + b) := by
  refine ex6 ?_ ?_ ?_ ?_ ?_ ?_ <;> simp only [k12_add0, k12_add1, k6_add0, k6_add1, k6_add2, k6_z0, k6_z1, k6_z2, mx, CR.zero_add, Rn.mul_add]
theorem my_add (a b : F2) : my a + my b = my (a + b) := by
  refine ex6 ?_ ?_ ?_ ?_ ?_ ?_ <;> simp only [k12_add0, k12_add1, k6_add0, k6_add1, k6_add2, k6_z0, k6_z1, k6_z2, my, CR.zero_add, Rn.mul_add]
theorem m4_add (a b : F2) : m4 a + m4 b = m4 (a + b) := by
  refine ex6 ?_ ?_ ?_ ?_ ?_ ?_ <;> simp only [k12_add0, k12_add1, k6_add0, k6_add1, k6_add2, k6_z0, k6_z1, k6_z2, m4, CR.zero_add, Rn.mul_add]
theorem mx_sub (a b : F2) : mx a - mx b = mx (a - b) := by
  rw [CR.sub_eq, CR.sub_eq, ← mx_add]
  congr 1
  refine ex6 ?_ ?_ ?_ ?_ ?_ ?_ <;> simp only [k12_neg0, k12_neg1, mx] <;> first | exact Rn.neg_zero | exact (Rn.neg_uniq (by rw [← Rn.mul_add, Rn.add_neg, Rn.mul_zero])).symm
theorem my_neg (a : F2) : -my a = my (-a) := by
  refine ex6 ?_ ?_ ?_ ?_ ?_ ?_ <;> simp only [k12_neg0, k12_neg1, my] <;> first | exact Rn.neg_zero | exact (Rn.neg_uniq (by rw [← Rn.mul_add, Rn.add_neg, Rn.mul_zero])).symm
theorem my_sub (a b : F2) : my a - my b = my (a - b) := by rw [CR.sub_eq, my_neg, my_add, ← CR.sub_eq]
theorem xin_inj {a b : F2} (h : xin * a = xin * b) : a = b := by
  have e : xi * (xin * a) = xi * (xin * b) := by rw [h]
  rw [← CR.mul_assoc, ← CR.mul_assoc, xi_xin, CR.one_mul, CR.one_mul] at e
  exact e
theorem mx_inj {a b : F2} (h : mx a = mx b) : a = b := xin_inj (congrArg (fun z => z.c0.c2) h)
theorem my_inj {a b : F2} (h : my a = my b) : a = b := xin_inj (congrArg (fun z => z.c1.c1) h)
theorem mx_zero : mx 0 = 0 := by unfold mx; rw [Rn.mul_zero]; rfl
theorem my_zero : my 0 = 0 := by unfold my; rw [Rn.mul_zero]; rfl
noncomputable def upp : Pt F2 → Pt F12
  | .inf => .inf
  | .aff x y => .aff (mx x) (my y)
theorem fd12 : EC.Fd F12.inv := ⟨by decide +kernel, fun a h => inv_mul h⟩
def b12 : F12 := emb ⟨4, 0⟩
theorem b2_xi : b2 = xi * ⟨4, 0⟩ := by decide +kernel
theorem xin_b2 : xin * b2 = ⟨4, 0⟩ := by rw [b2_xi, ← CR.mul_assoc, CR.mul_comm xin, xi_xin, CR.one_mul]
theorem upp_on {Q : Pt F2} (h : On b2 Q) : On b12 (upp Q) := by
  cases Q with
  | inf => trivial
  | aff x y =>
    have h : y * y = x * x * x + b2 := h
    show my y * my y = mx x * mx x * mx x + b12
    rw [my_my, mx_mx, m4_mx, h, Rn.mul_add, xin_b2, ← emb_add]; rfl
theorem upp_neg (Q : Pt F2) : upp (EC.neg Q) = EC.neg (upp Q) := by
  cases Q with
  | inf => rfl
  | aff x y => show Pt.aff (mx x) (my (-y)) = Pt.aff (mx x) (-my y); rw [my_neg]
theorem upp_slope {x1 y1 x2 y2 : F2} (h : ¬ (x1 = x2 ∧ y1 + y2 = 0)) : slope F12.inv (mx x1) (my y1) (mx x2) (my y2) = ml (slope F2.inv x1 y1 x2 y2) := by
  have D := fd12
  unfold slope
  by_cases e : x1 = x2
  · subst e
    have hy : y1 + y2 ≠ 0 := fun h0 => h ⟨rfl, h0⟩
    have hy' : my (y1 + y2) ≠ 0 := fun h0 => hy (my_inj (h0.trans my_zero.symm))
    rw [if_pos rfl, if_pos rfl, my_add, mx_mx, m4_add, m4_add]
    have e : m4 (x1 * x1 + x1 * x1 + x1 * x1) = ml ((x1 * x1 + x1 * x1 + x1 * x1) * F2.inv (y1 + y2)) * my (y1 + y2) := by
      rw [ml_my, CR.mul_assoc, CR.mul_comm (F2.inv _), F2.inv_mul hy, Rn.mul_one]
    rw [e, D.back hy']
  · have hx : x2 - x1 ≠ 0 := fun h0 => e (dz h0).symm
    have hx' : mx (x2 - x1) ≠ 0 := fun h0 => hx (mx_inj (h0.trans mx_zero.symm))
    rw [if_neg (fun h' => e (mx_inj h')), if_neg e, mx_sub, my_sub]
    have e : my (y2 - y1) = ml ((y2 - y1) * F2.inv (x2 - x1)) * mx (x2 - x1) := by
      rw [ml_mx, CR.mul_assoc, CR.mul_comm (F2.inv _), F2.inv_mul hx, Rn.mul_one]
    rw [e, D.back hx']
theorem upp_add (Q R : Pt F2) : EC.add F12.inv (upp Q) (upp R) = upp (EC.add F2.inv Q R) := by
  cases Q with
  | inf => rfl
  | aff x1 y1 =>
  cases R with
  | inf => rfl
  | aff x2 y2 =>
    by_cases v : x1 = x2 ∧ y1 + y2 = 0
    · rw [add_v F2.inv v]
      exact add_v F12.inv ⟨by rw [v.1], by rw [my_add, v.2, my_zero]⟩
    · rw [add_n F2.inv v]
      show EC.add F12.inv (.aff (mx x1) (my y1)) (.aff (mx x2) (my y2)) = _
      rw [add_n F12.inv (fun h => v ⟨mx_inj h.1, my_inj (by rw [← my_add, h.2, my_zero])⟩), upp_slope v]
      generalize slope F2.inv x1 y1 x2 y2 = l
      unfold chord
      show Pt.aff _ _ = Pt.aff (mx _) (my _)
      rw [ml_ml, mx_sub, mx_sub, mx_sub, ml_mx, my_sub]
theorem upp_mul (Q : Pt F2) : ∀ n, EC.mul F12.inv n (upp Q) = upp (EC.mul F2.inv n Q)
  | 0 => rfl
  | n + 1 => by
    show EC.add F12.inv (EC.mul F12.inv n (upp Q)) (upp Q) = upp (EC.add F2.inv (EC.mul F2.inv n Q) Q)
    rw [upp_mul Q n, upp_add]
end Go.Proofs.YthnfgmhehfombaaGreatDoor.fpn.F12

/- The power by P on sixes of pairs and on points; points of numbers go up. No program is named here. -/
namespace Go.Proofs.YthnfgmhehfombaaGreatDoor.fpn.F12
open Rn EC
set_option linter.unusedVariables false
set_option linter.unusedSimpArgs false

def e1 (x : F) : F12 := emb (F2.lift x)
theorem e1_add (a b : F) : e1 a + e1 b = e1 (a + b) := by unfold e1; rw [emb_add]; exact congrArg emb (F2.ext' rfl (show (0 : F) + 0 = 0 by kernel_rfl))
theorem e1_mul (a b : F) : e1 a * e1 b = e1 (a * b) := by unfold e1; rw [emb_mul, F2.lift_mul]
theorem e1_inj {a b : F} (h : e1 a = e1 b) : a = b := congrArg (fun z => z.c0.c0.c0) h
theorem e1_zero : e1 0 = 0 := rfl
theorem e1_neg (a : F) : e1 (-a) = -e1 a := Rn.neg_uniq (by rw [e1_add, Rn.add_neg]; rfl)
theorem e1_sub (a b : F) : e1 a - e1 b = e1 (a - b) := by rw [CR.sub_eq, CR.sub_eq, ← e1_neg, e1_add]
theorem e1_inv {d : F} (hd : d ≠ 0) : F12.inv (e1 d) = e1 (finv d) := by
  have hd' : e1 d ≠ 0 := fun h => hd (e1_inj (h.trans e1_zero.symm))
  have e : e1 (finv d) * e1 d = 1 := by rw [e1_mul, CR.mul_comm, crv1.iv d hd]; rfl
  have := fd12.back (x := e1 (finv d)) hd'
  rw [e, CR.one_mul] at this
  exact this
def low : Pt F → Pt F12
  | .inf => .inf
  | .aff x y => .aff (e1 x) (e1 y)
theorem low_on {Q : Pt F} (h : On (4 : F) Q) : On b12 (low Q) := by
  cases Q with
  | inf => trivial
  | aff x y =>
    have h : y * y = x * x * x + 4 := h
    show e1 y * e1 y = e1 x * e1 x * e1 x + b12
    rw [e1_mul, e1_mul, e1_mul, h, ← e1_add]; rfl
theorem low_neg (Q : Pt F) : low (EC.neg Q) = EC.neg (low Q) := by
  cases Q with
  | inf => rfl
  | aff x y => show Pt.aff (e1 x) (e1 (-y)) = Pt.aff (e1 x) (-e1 y); rw [e1_neg]
theorem low_slope {x1 y1 x2 y2 : F} (h : ¬ (x1 = x2 ∧ y1 + y2 = 0)) : slope F12.inv (e1 x1) (e1 y1) (e1 x2) (e1 y2) = e1 (slope finv x1 y1 x2 y2) := by
  unfold slope
  by_cases e : x1 = x2
  · subst e
    have hy : y1 + y2 ≠ 0 := fun h0 => h ⟨rfl, h0⟩
    rw [if_pos rfl, if_pos rfl, e1_mul, e1_add, e1_add, e1_add, e1_inv hy, e1_mul]
  · have hx : x2 - x1 ≠ 0 := fun h0 => e (dz h0).symm
    rw [if_neg (fun h' => e (e1_inj h')), if_neg e, e1_sub, e1_sub, e1_inv hx, e1_mul]
theorem low_add (Q R : Pt F) : EC.add F12.inv (low Q) (low R) = low (EC.add finv Q R) := by
  cases Q with
  | inf => rfl
  | aff x1 y1 =>
  cases R with
  | inf => rfl
  | aff x2 y2 =>
    by_cases v : x1 = x2 ∧ y1 + y2 = 0
    · rw [add_v finv v]
      exact add_v F12.inv ⟨by rw [v.1], by rw [e1_add, v.2, e1_zero]⟩
    · rw [add_n finv v]
      show EC.add F12.inv (.aff (e1 x1) (e1 y1)) (.aff (e1 x2) (e1 y2)) = _
      rw [add_n F12.inv (fun h => v ⟨e1_inj h.1, e1_inj (by rw [← e1_add, h.2, e1_zero])⟩), low_slope v]
      generalize slope finv x1 y1 x2 y2 = l
      unfold chord
      show Pt.aff _ _ = Pt.aff (e1 _) (e1 _)
      rw [e1_mul, e1_sub, e1_sub, e1_sub, e1_mul, e1_sub]
theorem low_mul (Q : Pt F) : ∀ n, EC.mul F12.inv n (low Q) = low (EC.mul finv n Q)
  | 0 => rfl
  | n + 1 => by
    show EC.add F12.inv (EC.mul F12.inv n (low Q)) (low Q) = low (EC.add finv (EC.mul finv n Q) Q)
    rw [low_mul Q n, low_add]
noncomputable def fr (x : F12) : F12 := npw x RN
theorem npw_ones : ∀ n, npw (1 : F12) n = 1
  | 0 => rfl
  | n + 1 => by rw [npw, npw_ones n, CR.one_mul]
theorem fr_add (x y : F12) : fr (x + y) = fr x + fr y := nfrob nc_P x y (has_inv y)
theorem fr_mul (x y : F12) : fr (x * y) = fr x * fr y := npw_mul x y _
theorem fr_one : fr 1 = 1 := npw_ones _
theorem fr_zero : fr 0 = 0 := by unfold fr; rw [show RN = (RN - 1) + 1 by decide +kernel]; exact npw_zero _
theorem fr_inj {a b : F12} (h : fr a = fr b) : a = b := by
  by_cases e : a - b = 0
  · exact dz e
  · exfalso
    have h1 : fr (a - b) * fr (F12.inv (a - b)) = 1 := by rw [← fr_mul, inv_mul e, fr_one]
    have h2 : fr b + fr (-b) = 0 := by rw [← fr_add, Rn.add_neg, fr_zero]
    rw [CR.sub_eq, fr_add, h, h2, Rn.zero_mul] at h1
    exact fd12.one h1.symm
theorem frHom : Hom fr := ⟨fr_add, fr_mul, fr_one, fun h => fr_inj h⟩
theorem fr_emb (c : F2) : fr (emb c) = emb c.conj := by unfold fr; rw [emb_pw, F2.frob]
theorem fr_e1 (x : F) : fr (e1 x) = e1 x := by
  unfold e1; rw [fr_emb]
  exact congrArg emb (F2.ext' rfl (show -(0 : F) = 0 by kernel_rfl))
theorem fr_low (T : Pt F) : EC.pm fr (low T) = low T := by
  cases T with
  | inf => rfl
  | aff x y => show Pt.aff (fr (e1 x)) (fr (e1 y)) = Pt.aff (e1 x) (e1 y); rw [fr_e1, fr_e1]
def bpw {α : Type} [Mul α] [OfNat α 1] (x : α) : Nat → Nat → α
  | 0, _ => 1
  | f + 1, e => bif Nat.beq (e % 2) 1 then (bpw x f (e / 2) * bpw x f (e / 2)) * x else bpw x f (e / 2) * bpw x f (e / 2)
theorem bpw_eq {α : Type} [Add α] [Mul α] [Neg α] [Sub α] [OfNat α 0] [OfNat α 1] [CR α] (x : α) : ∀ (f e : Nat), e < 2 ^ f → bpw x f e = npw x e
  | 0, e, h => by
    obtain rfl : e = 0 := by have : e < 1 := h; omega
    rfl
  | f + 1, e, h => by
    have he : e / 2 < 2 ^ f := by rw [Nat.pow_succ] at h; omega
    have ih := bpw_eq x f (e / 2) he
    have h2 : npw x (2 * (e / 2)) = npw x (e / 2) * npw x (e / 2) := npw_two x (e / 2)
    rw [bpw, ih]
    by_cases hb : e % 2 = 1
    · rw [show Nat.beq (e % 2) 1 = true by rw [hb]; rfl]
      show npw x (e / 2) * npw x (e / 2) * x = _
      rw [← h2]
      conv => rhs; rw [show e = 2 * (e / 2) + 1 by omega]
      rfl
    · rw [show Nat.beq (e % 2) 1 = false by rw [show e % 2 = 0 by omega]; rfl]
      show npw x (e / 2) * npw x (e / 2) = _
      rw [← h2]
      conv => rhs; rw [show e = 2 * (e / 2) by omega]
theorem npw_pw2 (x : F2) : ∀ n, npw x n = F2.pw2 x n
  | 0 => rfl
  | n + 1 => by rw [npw, npw_pw2 x n]; rfl
def gi : F2 := ⟨⟨0x5b2cfd9013a5fd8df47fa6b48b1e045f39816240c0b8fee8beadf4d8e9c0566c63a3e6e257f87329b18fae980078116, by decide +kernel⟩, ⟨0x5b2cfd9013a5fd8df47fa6b48b1e045f39816240c0b8fee8beadf4d8e9c0566c63a3e6e257f87329b18fae980078116, by decide +kernel⟩⟩
set_option maxRecDepth 100000 in
theorem gi_xi : gi * npw xi ((RN - 1) / 6) = 1 := by
  rw [← bpw_eq xi 381 ((RN - 1) / 6) (by decide +kernel)]
  decide +kernel
theorem xin_pw : npw xin ((RN - 1) / 6) = gi := by
  have h : npw xi ((RN - 1) / 6) * npw xin ((RN - 1) / 6) = 1 := by
    rw [← npw_mul, xi_xin]
    generalize (RN - 1) / 6 = k
    induction k with
    | zero => rfl
    | succ k ih => rw [npw, ih, CR.one_mul]
  have e : gi * (npw xi ((RN - 1) / 6) * npw xin ((RN - 1) / 6)) = npw xin ((RN - 1) / 6) := by rw [← CR.mul_assoc, gi_xi, CR.one_mul]
  rw [← e, h, Rn.mul_one]
end Go.Proofs.YthnfgmhehfombaaGreatDoor.fpn.F12

/- The two groups' points above: what the power by P does to them; the pairing's geometry and its power. No program is named here. -/
namespace Go.Proofs.YthnfgmhehfombaaGreatDoor.fpn
set_option linter.unusedVariables false
set_option linter.unusedSimpArgs false
set_option linter.unusedSectionVars false
namespace EC
open Rn
section
variable {α : Type} [Add α] [Mul α] [Neg α] [Sub α] [OfNat α 0] [OfNat α 1] [CR α] [DecidableEq α] {iv : α → α}
theorem npw6 (a : α) : npw a 6 = (a * a * a) * (a * a * a) := by
  have e : npw a (3 + 3) = npw a 3 * npw a 3 := npw_add a 3 3
  have e3 : npw a 3 = a * a * a := by show 1 * a * a * a = _; rw [CR.one_mul]
  rw [show (6 : Nat) = 3 + 3 from rfl, e, e3]
theorem Hom.plus {f : α → α} (h : Hom f) (C : Fd iv) (Q R : Pt α) : EC.pm f (EC.add iv Q R) = EC.add iv (EC.pm f Q) (EC.pm f R) := by
  cases Q with
  | inf => rfl
  | aff x1 y1 =>
  cases R with
  | inf => rfl
  | aff x2 y2 =>
    by_cases v : x1 = x2 ∧ y1 + y2 = 0
    · rw [add_v iv v]
      exact (add_v iv ⟨by rw [v.1], by rw [← h.add, v.2, h.zero]⟩).symm
    · have hs : slope iv (f x1) (f y1) (f x2) (f y2) = f (slope iv x1 y1 x2 y2) := by
        unfold slope
        by_cases e : x1 = x2
        · have hy : y1 + y2 ≠ 0 := fun h0 => v ⟨e, h0⟩
          rw [if_pos (by rw [e]), if_pos e, h.mul, h.add, h.add, h.mul, h.inv C hy, h.add]
        · have hx : x2 - x1 ≠ 0 := fun h0 => e (dz h0).symm
          rw [if_neg (fun e' => e (h.inj e')), if_neg e, h.mul, h.sub, h.inv C hx, h.sub]
      rw [add_n iv v]
      show _ = EC.add iv (.aff (f x1) (f y1)) (.aff (f x2) (f y2))
      rw [add_n iv (fun e => v ⟨h.inj e.1, h.inj (by rw [h.add, e.2, h.zero])⟩), hs]
      unfold chord
      show Pt.aff _ _ = Pt.aff _ _
      rw [h.sub, h.sub, h.mul, h.sub, h.mul, h.sub, h.sub, h.sub, h.mul]
end
end EC
namespace F12
open Rn EC
theorem emb_ml (a b : F2) : emb a * ml b = ml (a * b) := by
  refine ex6 ?_ ?_ ?_ ?_ ?_ ?_ <;> simp only [emb, k12_mul0, k12_mul1, k6_mul0, k6_mul1, k6_mul2, k6_add0, k6_add1, k6_add2, k6_up0, k6_up1, k6_up2, k6_z0, k6_z1, k6_z2, ml, Rn.zero_mul, Rn.mul_zero, CR.zero_add, Rn.add_zero]
  ac_rfl
theorem emb_mx (a b : F2) : emb a * mx b = mx (a * b) := by
  rw [show mx b = ml 1 * ml b by rw [ml_ml, CR.one_mul], ← CR.mul_assoc, emb_ml, ml_ml, Rn.mul_one]
theorem emb_my (a b : F2) : emb a * my b = my (a * b) := by
  rw [show my b = ml b * mx 1 by rw [ml_mx, Rn.mul_one], ← CR.mul_assoc, emb_ml, ml_mx, Rn.mul_one]
theorem ml6 : npw (ml 1) 6 = emb xin := by
  have e2 : ml 1 * ml 1 * ml 1 = my 1 := by rw [ml_ml, CR.mul_comm, ml_mx, Rn.mul_one, Rn.mul_one]
  rw [npw6, e2, my_my, Rn.mul_one, Rn.mul_one]
theorem fr_ml : fr (ml 1) = ml 1 * emb gi := by
  have e : RN = 6 * ((RN - 1) / 6) + 1 := by decide +kernel
  have h : ∀ k, npw (ml 1) (6 * k + 1) = ml 1 * emb (npw xin k) := fun k => by
    rw [npw, npw_exp, ml6, emb_pw, ← npw_pw2, CR.mul_comm]
  have x := xin_pw
  revert e x
  generalize (RN - 1) / 6 = k
  intro e x
  exact (congrArg (npw (ml 1)) e).trans ((h k).trans (by rw [x]))
theorem fr_mx (a : F2) : fr (mx a) = mx (a.conj * (gi * gi)) := by
  rw [show mx a = emb a * (ml 1 * ml 1) by rw [ml_ml, emb_mx, Rn.mul_one, Rn.mul_one], fr_mul, fr_mul, fr_ml, fr_emb]
  rw [show emb a.conj * (ml 1 * emb gi * (ml 1 * emb gi)) = emb a.conj * (emb gi * emb gi) * (ml 1 * ml 1) by ac_rfl, emb_mul, emb_mul, ml_ml, emb_mx, Rn.mul_one, Rn.mul_one]
theorem fr_my (a : F2) : fr (my a) = my (a.conj * (gi * gi * gi)) := by
  rw [show my a = mx a * ml 1 by rw [CR.mul_comm, ml_mx, CR.one_mul], fr_mul, fr_mx, fr_ml]
  rw [show mx (a.conj * (gi * gi)) * (ml 1 * emb gi) = emb gi * (ml 1 * mx (a.conj * (gi * gi))) by ac_rfl, ml_mx, emb_my, CR.one_mul]
  exact congrArg my (by ac_rfl)
def psi : Pt F2 → Pt F2
  | .inf => .inf
  | .aff x y => .aff (x.conj * (gi * gi)) (y.conj * (gi * gi * gi))
theorem fr_upp (Q : Pt F2) : EC.pm fr (upp Q) = upp (psi Q) := by
  cases Q with
  | inf => rfl
  | aff x y => show Pt.aff (fr (mx x)) (fr (my y)) = Pt.aff (mx _) (my _); rw [fr_mx, fr_my]
theorem upp_inj {Q R : Pt F2} (h : upp Q = upp R) : Q = R := by
  cases Q with
  | inf =>
    cases R with
    | inf => rfl
    | aff x y => exact absurd h (fun e => by injection e)
  | aff x y =>
    cases R with
    | inf => exact absurd h (fun e => by injection e)
    | aff x' y' =>
      have h : Pt.aff (mx x) (my y) = Pt.aff (mx x') (my y') := h
      injection h with h1 h2
      rw [mx_inj h1, my_inj h2]
theorem psi_add (Q R : Pt F2) : psi (EC.add F2.inv Q R) = EC.add F2.inv (psi Q) (psi R) :=
  upp_inj (by rw [← fr_upp, ← upp_add, frHom.plus fd12, fr_upp, fr_upp, upp_add])
theorem psi_neg (Q : Pt F2) : psi (EC.neg Q) = EC.neg (psi Q) :=
  upp_inj (by rw [← fr_upp, upp_neg, pm_neg (fun a => frHom.neg a), fr_upp, upp_neg])
@[irreducible] def mN : Nat := 0xd201000000010000
theorem rep_aff {Q : Pt F2} {X Y Z a b : F2} (h : Rep Q X Y Z) (hz : Z ≠ 0) (hx : X = a * Z) (hy : Y = b * Z) : Q = .aff a b := by
  obtain ⟨c, hc, h⟩ := h
  cases Q with
  | inf => exact absurd (h.2.2.trans (Rn.mul_zero c)) hz
  | aff x y =>
    obtain ⟨h1, h2, h3⟩ := h
    have h3 : Z = c := h3.trans (Rn.mul_one c)
    subst h3
    have k : ∀ {u v w : F2}, w = Z * u → w = v * Z → Z * (u - v) = 0 := fun {u v w} hu hv => by
      rw [CR.mul_comm, CR.sub_eq, CR.add_mul, Rn.neg_mul, ← hv, hu, CR.mul_comm, Rn.add_neg]
    have kx := k h1 hx
    have ky := k h2 hy
    rw [dz (crv2.cancel hc kx), dz (crv2.cancel hc ky)]
set_option maxRecDepth 100000 in
theorem gen2_tw : EC.mul F2.inv mN gen2 = EC.neg (psi gen2) := by
  have l := lad_rep crv2 gen2_on (Rep.aff crv2 g2x g2y) 64 mN (by decide +kernel)
  exact rep_aff l (by decide +kernel) (by decide +kernel) (by decide +kernel)
def PA (Q : Pt F12) : Prop := ∃ V, On b2 V ∧ EC.mul F2.inv mN V = EC.neg (psi V) ∧ Q = upp V
def PB (T : Pt F12) : Prop := ∃ V, On (4 : F) V ∧ T = low V
def PS (z : F12) : Prop := z.c1 = 0 ∧ z ≠ 0
theorem PA.gen : PA (upp gen2) := ⟨_, gen2_on, gen2_tw, rfl⟩
theorem neg_plus {Q R : Pt F2} (hQ : On b2 Q) (hR : On b2 R) : EC.neg (EC.add F2.inv Q R) = EC.add F2.inv (EC.neg Q) (EC.neg R) := by
  refine (EC.neg_uniq crv2 (add_on crv2 hQ hR) (add_on crv2 (neg_on hQ) (neg_on hR)) ?_).symm
  have c := EC.add_comm crv2 (neg_on hQ) (neg_on hR)
  rw [c, EC.add_assoc crv2 hQ hR (add_on crv2 (neg_on hR) (neg_on hQ)), ← EC.add_assoc crv2 hR (neg_on hR) (neg_on hQ), EC.add_neg, inf_add, EC.add_neg]
theorem neg_mul {Q : Pt F2} (hQ : On b2 Q) : ∀ n, EC.mul F2.inv n (EC.neg Q) = EC.neg (EC.mul F2.inv n Q)
  | 0 => rfl
  | n + 1 => by
    show EC.add F2.inv (EC.mul F2.inv n (EC.neg Q)) (EC.neg Q) = EC.neg (EC.add F2.inv (EC.mul F2.inv n Q) Q)
    rw [neg_mul hQ n, neg_plus (mul_on crv2 hQ n) hQ]
theorem PA.plus {Q R : Pt F12} (h : PA Q) (h' : PA R) : PA (EC.add F12.inv Q R) := by
  obtain ⟨V, hV, tV, rfl⟩ := h
  obtain ⟨W, hW, tW, rfl⟩ := h'
  have pV : On b2 (psi V) := by have := mul_on crv2 hV mN; rw [tV] at this; have := neg_on this; rwa [EC.neg_neg] at this
  have pW : On b2 (psi W) := by have := mul_on crv2 hW mN; rw [tW] at this; have := neg_on this; rwa [EC.neg_neg] at this
  exact ⟨_, add_on crv2 hV hW, by rw [mul_sum crv2 hV hW, tV, tW, psi_add, neg_plus pV pW], upp_add V W⟩
theorem PA.opp {Q : Pt F12} (h : PA Q) : PA (EC.neg Q) := by
  obtain ⟨V, hV, tV, rfl⟩ := h
  exact ⟨_, neg_on hV, by rw [neg_mul hV, tV, psi_neg], (upp_neg V).symm⟩
theorem PA.inf : PA .inf := ⟨.inf, trivial, mul_inf _, rfl⟩
theorem PA.y_ne {x y : F12} (h : PA (.aff x y)) : ∃ a b : F2, x = mx a ∧ y = my b ∧ b + b ≠ 0 := by
  obtain ⟨V, hV, -, e⟩ := h
  cases V with
  | inf => exact absurd e (fun e => by injection e)
  | aff a b =>
    have e : Pt.aff x y = Pt.aff (mx a) (my b) := e
    injection e with e1 e2
    exact ⟨a, b, e1, e2, crv2.odd a b hV⟩
theorem PB.y_ne {x y : F12} (h : PB (.aff x y)) : ∃ a b : F, x = e1 a ∧ y = e1 b ∧ b + b ≠ 0 := by
  obtain ⟨V, hV, e⟩ := h
  cases V with
  | inf => exact absurd e (fun e => by injection e)
  | aff a b =>
    have e : Pt.aff x y = Pt.aff (e1 a) (e1 b) := e
    injection e with e1 e2
    exact ⟨a, b, e1, e2, crv1.odd a b hV⟩
theorem PA.on {Q : Pt F12} (h : PA Q) : On b12 Q := by obtain ⟨V, hV, -, rfl⟩ := h; exact upp_on hV
theorem PB.on {Q : Pt F12} (h : PB Q) : On b12 Q := by obtain ⟨V, hV, rfl⟩ := h; exact low_on hV
theorem half_ne {a : F2} (h : a + a ≠ 0) : a ≠ 0 := fun e => h (by rw [e]; exact CR.zero_add 0)
theorem half_ne1 {a : F} (h : a + a ≠ 0) : a ≠ 0 := fun e => h (by rw [e]; exact CR.zero_add 0)
theorem kil : Kil PS where
  one := ⟨rfl, fd12.one⟩
  mul := fun {a b} ha hb => ⟨by rw [k12_mul1, ha.1, hb.1, Rn.mul_zero, Rn.zero_mul, Rn.add_zero], fd12.ne_mul ha.2 hb.2⟩
  neg := fun {a} ha => ⟨by rw [k12_neg1, ha.1]; exact Rn.neg_zero, fun e => ha.2 (by rw [← Rn.neg_neg a, e]; exact Rn.neg_zero)⟩
  nz := fun h => h.2
theorem dif {x y X Y : F12} (h : PA (.aff x y)) (h' : PB (.aff X Y)) : PS (X - x) := by
  have o := h.on
  have o' := h'.on
  obtain ⟨a, b, rfl, rfl, hb⟩ := h.y_ne
  obtain ⟨c, d, rfl, rfl, hd⟩ := h'.y_ne
  refine ⟨by show (0 : F6) - 0 = 0; rw [CR.sub_eq]; exact Rn.add_neg _, fun e => ?_⟩
  have e := dz e
  have o : my b * my b = mx a * mx a * mx a + b12 := o
  have o' : e1 d * e1 d = e1 c * e1 c * e1 c + b12 := o'
  rw [e, ← o] at o'
  have s := sq2 o' rfl
  by_cases z : e1 d - my b = 0
  · exact half_ne1 hd (congrArg (fun z => z.c0.c0.c0) (dz z))
  · have z := fd12.cancel z s
    have z : d + 0 = 0 := congrArg (fun z => z.c0.c0.c0) z
    rw [Rn.add_zero] at z
    exact half_ne1 hd z
end F12
end Go.Proofs.YthnfgmhehfombaaGreatDoor.fpn

/- The pairing's geometry, its power: what is killed, what it is of sums. No program is named here. -/
namespace Go.Proofs.YthnfgmhehfombaaGreatDoor.fpn.F12
set_option linter.unusedVariables false
set_option linter.unusedSimpArgs false
open Rn EC
theorem ev_sub {x y : F12} (h : x.c1 = 0) (h' : y.c1 = 0) : (x - y).c1 = 0 := by rw [k12_sub1, h, h', CR.sub_eq]; exact Rn.add_neg _
theorem ev_add {x y : F12} (h : x.c1 = 0) (h' : y.c1 = 0) : (x + y).c1 = 0 := by rw [k12_add1, h, h', CR.zero_add]
theorem ev_mul {x y : F12} (h : x.c1 = 0) (h' : y.c1 = 0) : (x * y).c1 = 0 := by rw [k12_mul1, h, h', Rn.mul_zero, Rn.zero_mul, CR.zero_add]
theorem up_zero : (0 : F6).up = 0 := F6.ext' (Rn.zero_mul _) rfl rfl
theorem od_mul {x y : F12} (h : x.c0 = 0) (h' : y.c1 = 0) : (x * y).c0 = 0 := by rw [k12_mul0, h, h', Rn.zero_mul, Rn.mul_zero, up_zero, CR.zero_add]
theorem od_add {x y : F12} (h : x.c0 = 0) (h' : y.c0 = 0) : (x + y).c0 = 0 := by rw [k12_add0, h, h', CR.zero_add]
theorem PA.anz {Q R T : Pt F12} (hQ : PA Q) (hR : PA R) (hT : PB T) : EC.lv F12.inv Q R T ≠ 0 := by
  obtain ⟨V, -, -, rfl⟩ := hQ
  obtain ⟨W, -, -, rfl⟩ := hR
  cases V with
  | inf => exact fun e => fd12.one e
  | aff x1 y1 =>
  cases W with
  | inf => exact fun e => fd12.one e
  | aff x2 y2 =>
  cases T with
  | inf => exact fun e => fd12.one e
  | aff X Y =>
    obtain ⟨c, d, rfl, rfl, hd⟩ := hT.y_ne
    show (if mx x1 = mx x2 ∧ my y1 + my y2 = 0 then (1 : F12) else e1 d - (my y1 + slope F12.inv (mx x1) (my y1) (mx x2) (my y2) * (e1 c - mx x1))) ≠ 0
    by_cases v : mx x1 = mx x2 ∧ my y1 + my y2 = 0
    · rw [if_pos v]; exact fd12.one
    · rw [if_neg v, upp_slope (fun h => v ⟨by rw [h.1], by rw [my_add, h.2, my_zero]⟩)]
      intro e
      have o : (my y1 + ml (slope F2.inv x1 y1 x2 y2) * (e1 c - mx x1)).c0 = 0 := od_add rfl (od_mul rfl (ev_sub rfl rfl))
      have e := congrArg F12.c0 (dz e)
      rw [o] at e
      exact half_ne1 hd (congrArg (fun z => z.c0.c0) e)
theorem PB.pnz {Q R T : Pt F12} (hQ : PB Q) (hR : PB R) (hT : PA T) : EC.lv F12.inv Q R T ≠ 0 := by
  obtain ⟨V, -, rfl⟩ := hQ
  obtain ⟨W, -, rfl⟩ := hR
  cases V with
  | inf => exact fun e => fd12.one e
  | aff x1 y1 =>
  cases W with
  | inf => exact fun e => fd12.one e
  | aff x2 y2 =>
  cases T with
  | inf => exact fun e => fd12.one e
  | aff X Y =>
    obtain ⟨c, d, rfl, rfl, hd⟩ := hT.y_ne
    show (if e1 x1 = e1 x2 ∧ e1 y1 + e1 y2 = 0 then (1 : F12) else my d - (e1 y1 + slope F12.inv (e1 x1) (e1 y1) (e1 x2) (e1 y2) * (mx c - e1 x1))) ≠ 0
    by_cases v : e1 x1 = e1 x2 ∧ e1 y1 + e1 y2 = 0
    · rw [if_pos v]; exact fd12.one
    · rw [if_neg v, low_slope (fun h => v ⟨by rw [h.1], by rw [e1_add, h.2, e1_zero]⟩)]
      intro e
      have o : (e1 y1 + e1 (slope finv x1 y1 x2 y2) * (mx c - e1 x1)).c1 = 0 := ev_add rfl (ev_mul rfl (ev_sub rfl rfl))
      have e := congrArg F12.c1 (dz e)
      rw [o] at e
      have e : xin * d = 0 := congrArg F6.c1 e
      exact half_ne hd (xin_inj (e.trans (Rn.mul_zero _).symm))
theorem geo : Geo F12.inv b12 PS PA PB where
  fd := fd12
  kil := kil
  aOn := PA.on
  aAdd := PA.plus
  aNeg := PA.opp
  aCom := fun {Q R} h h' => by
    obtain ⟨V, hV, -, rfl⟩ := h
    obtain ⟨W, hW, -, rfl⟩ := h'
    rw [upp_add, upp_add, EC.add_comm crv2 hV hW]
  aAsc := fun {Q R S} h h' h'' => by
    obtain ⟨V, hV, -, rfl⟩ := h
    obtain ⟨W, hW, -, rfl⟩ := h'
    obtain ⟨U, hU, -, rfl⟩ := h''
    rw [upp_add, upp_add, upp_add, upp_add, EC.add_assoc crv2 hV hW hU]
  aOdd := fun {x y} h => by
    obtain ⟨a, b, rfl, rfl, hb⟩ := h.y_ne
    rw [my_add]
    exact fun e => hb (my_inj (e.trans my_zero.symm))
  pOn := PB.on
  pAdd := fun {Q R} h h' => by
    obtain ⟨V, hV, rfl⟩ := h
    obtain ⟨W, hW, rfl⟩ := h'
    exact ⟨_, add_on crv1 hV hW, low_add V W⟩
  pNeg := fun {Q} h => by
    obtain ⟨V, hV, rfl⟩ := h
    exact ⟨_, neg_on hV, (low_neg V).symm⟩
  pCom := fun {Q R} h h' => by
    obtain ⟨V, hV, rfl⟩ := h
    obtain ⟨W, hW, rfl⟩ := h'
    rw [low_add, low_add, EC.add_comm crv1 hV hW]
  pAsc := fun {Q R S} h h' h'' => by
    obtain ⟨V, hV, rfl⟩ := h
    obtain ⟨W, hW, rfl⟩ := h'
    obtain ⟨U, hU, rfl⟩ := h''
    rw [low_add, low_add, low_add, low_add, EC.add_assoc crv1 hV hW hU]
  pOdd := fun {x y} h => by
    obtain ⟨a, b, rfl, rfl, hb⟩ := h.y_ne
    rw [e1_add]
    exact fun e => hb (e1_inj (e.trans e1_zero.symm))
  dif := dif
  anz := PA.anz
  pnz := PB.pnz
theorem gi3 : (gi * gi.conj) * (gi * gi.conj) * (gi * gi.conj) = -1 := by decide +kernel
theorem fr2_fr (z : F12) : fr2 z = fr (fr z) := fr2_eq z
theorem fr2_ml : fr2 (ml 1) = ml 1 * emb (gi * gi.conj) := by
  rw [fr2_fr, fr_ml, fr_mul, fr_ml, fr_emb, CR.mul_assoc, emb_mul]
noncomputable def p6 (z : F12) : F12 := fr2 (fr2 (fr2 z))
theorem p6_mul (x y : F12) : p6 (x * y) = p6 x * p6 y := by unfold p6; rw [fr2_mul, fr2_mul, fr2_mul]
theorem p6_add (x y : F12) : p6 (x + y) = p6 x + p6 y := by unfold p6; rw [fr2_add, fr2_add, fr2_add]
theorem p6_emb (c : F2) : p6 (emb c) = (emb c).conj := by
  unfold p6; rw [fr2_emb, fr2_emb, fr2_emb]
  exact ext' rfl Rn.neg_zero.symm
theorem p6_ml1 : p6 (ml 1) = (ml 1).conj := by
  unfold p6
  rw [fr2_ml, fr2_mul, fr2_ml, fr2_emb, fr2_mul, fr2_mul, fr2_ml, fr2_emb, CR.mul_assoc, CR.mul_assoc, emb_mul, emb_mul, ← CR.mul_assoc, gi3, CR.mul_comm, emb_ml, Rn.mul_one]
  refine ex6 ?_ ?_ ?_ ?_ ?_ ?_
  · rfl
  · rfl
  · rfl
  · exact Rn.neg_zero.symm
  · exact Rn.neg_zero.symm
  · show xin * -1 = -(xin * 1)
    rw [CR.mul_comm, Rn.neg_mul, CR.one_mul, Rn.mul_one]
theorem conj_add (x y : F12) : (x + y).conj = x.conj + y.conj := ext' rfl (Rn.neg_add' _ _ |>.trans rfl)
def C6 (z : F12) : Prop := p6 z = z.conj
theorem C6.mul {x y : F12} (h : C6 x) (h' : C6 y) : C6 (x * y) := by unfold C6 at *; rw [p6_mul, h, h', conj_mul]
theorem C6.add {x y : F12} (h : C6 x) (h' : C6 y) : C6 (x + y) := by unfold C6 at *; rw [p6_add, h, h', conj_add]
theorem c6_ml (a : F2) : C6 (ml a) := by rw [show ml a = emb a * ml 1 by rw [emb_ml, Rn.mul_one]]; exact C6.mul (p6_emb a) p6_ml1
theorem c6_mx (a : F2) : C6 (mx a) := by rw [show mx a = ml a * ml 1 by rw [ml_ml, Rn.mul_one]]; exact C6.mul (c6_ml a) (c6_ml 1)
theorem c6_my (a : F2) : C6 (my a) := by rw [show my a = ml a * mx 1 by rw [ml_mx, Rn.mul_one]]; exact C6.mul (c6_ml a) (c6_mx 1)
theorem c6_m4 (a : F2) : C6 (m4 a) := by rw [show m4 a = mx a * mx 1 by rw [mx_mx, Rn.mul_one]]; exact C6.mul (c6_mx a) (c6_mx 1)
def mw (a : F2) : F12 := ⟨0, ⟨a, 0, 0⟩⟩
theorem xin_xi (a : F2) : xin * (xi * a) = a := by rw [← CR.mul_assoc, CR.mul_comm xin, xi_xin, CR.one_mul]
theorem mw_eq (a : F2) : mw a = m4 (xi * a) * ml 1 := by
  refine ex6 ?_ ?_ ?_ ?_ ?_ ?_ <;> simp only [mw, k12_mul0, k12_mul1, k6_mul0, k6_mul1, k6_mul2, k6_add0, k6_add1, k6_add2, k6_up0, k6_up1, k6_up2, k6_z0, k6_z1, k6_z2, ml, m4, Rn.zero_mul, Rn.mul_zero, CR.zero_add, Rn.add_zero, xin_xi, Rn.mul_one]
  exact (show a = xi * (a * xin) by rw [show xi * (a * xin) = xin * (xi * a) by ac_rfl, xin_xi])
theorem c6_mw (a : F2) : C6 (mw a) := by rw [mw_eq]; exact C6.mul (c6_m4 _) (c6_ml 1)
theorem parts (z : F12) : z = emb z.c0.c0 + m4 (xi * z.c0.c1) + mx (xi * z.c0.c2) + (mw z.c1.c0 + my (xi * z.c1.c1) + ml (xi * z.c1.c2)) := by
  refine ex6 ?_ ?_ ?_ ?_ ?_ ?_ <;> simp only [k12_add0, k12_add1, k6_add0, k6_add1, k6_add2, k6_z0, k6_z1, k6_z2, emb, m4, mx, mw, my, ml, xin_xi, CR.zero_add, Rn.add_zero]
theorem p6_conj (z : F12) : p6 z = z.conj := by
  have h : C6 (emb z.c0.c0 + m4 (xi * z.c0.c1) + mx (xi * z.c0.c2) + (mw z.c1.c0 + my (xi * z.c1.c1) + ml (xi * z.c1.c2))) :=
    C6.add (C6.add (C6.add (p6_emb _) (c6_m4 _)) (c6_mx _)) (C6.add (C6.add (c6_mw _) (c6_my _)) (c6_ml _))
  rw [← parts z] at h
  exact h
@[irreducible] def P6 : Nat := RN * RN * (RN * RN) * (RN * RN)
theorem npw_P6 (z : F12) : npw z P6 = z.conj := by
  rw [← p6_conj]
  unfold p6 fr2 P6
  rw [npw_exp z (RN * RN * (RN * RN)) (RN * RN), npw_exp z (RN * RN) (RN * RN)]
@[irreducible] def MM : Nat := (P6 + 1) / ordR
@[irreducible] def EE : Nat := (P6 * P6 - 1) / ordR
theorem MM_eq : MM * ordR = P6 + 1 := by decide +kernel
theorem EE_eq : EE = (P6 - 1) * MM := by decide +kernel
theorem EE_R : EE * ordR = (P6 - 1) * (P6 + 1) := by rw [EE_eq, Nat.mul_assoc, MM_eq]
theorem P6_pos : P6 = (P6 - 1) + 1 := by decide +kernel
theorem P6_more : P6 * P6 = (P6 - 1) * (P6 + 1) + 1 := by decide +kernel
theorem can {a b : F12} (ha : a ≠ 0) (h : b * a = a) : b = 1 := by
  have := fd12.back (x := b) ha
  rw [h, fd12.iv a ha] at this
  exact this.symm
theorem even_one {z : F12} (h : PS z) : npw z (P6 - 1) = 1 := by
  refine can h.2 ?_
  have e : npw z ((P6 - 1) + 1) = npw z P6 := by rw [← P6_pos]
  rw [npw_P6] at e
  refine Eq.trans e (ext' rfl ?_)
  show -z.c1 = z.c1
  rw [h.1]; exact Rn.neg_zero
theorem all_one {z : F12} (h : z ≠ 0) : npw z ((P6 - 1) * (P6 + 1)) = 1 := by
  refine can h ?_
  have e : npw z ((P6 - 1) * (P6 + 1) + 1) = npw z (P6 * P6) := by rw [← P6_more]
  rw [npw_exp, npw_P6, npw_P6, conj_conj] at e
  exact e
noncomputable def ex (z : F12) : F12 := npw z EE
theorem ex_mul (a b : F12) : ex (a * b) = ex a * ex b := npw_mul a b _
theorem ex_even {a : F12} (h : PS a) : ex a = 1 := by
  unfold ex; rw [EE_eq, npw_exp, even_one h]; exact npw_ones _
theorem ex_R {a : F12} (h : a ≠ 0) : npw (ex a) ordR = 1 := by
  unfold ex; rw [← npw_exp, EE_R]; exact all_one h
@[irreducible] def nP : Nat := (mN + RN) / ordR
theorem nP_eq : mN + RN = nP * ordR := by decide +kernel
theorem ex_kill {a : F12} (h : a ≠ 0) : ex (npw a mN * fr a) = 1 := by
  have e : npw a mN * fr a = npw (npw a nP) ordR := by unfold fr; rw [← npw_add, ← npw_exp, ← nP_eq]
  have n : npw a nP ≠ 0 := by
    intro e0
    have h1 := all_one h
    have : ∀ k, npw a k ≠ 0 := fun k => by
      induction k with
      | zero => exact fd12.one
      | succ k ih => exact fd12.ne_mul ih h
    exact this _ e0
  rw [e]
  have c : ∀ (z : F12) (m k : Nat), npw (npw z m) k = npw (npw z k) m := fun z m k => by rw [← npw_exp, ← npw_exp, Nat.mul_comm]
  unfold ex; rw [c]
  exact ex_R n
theorem mil : Mil F12.inv b12 PS PA PB mN fr ex where
  geo := geo
  ainf := PA.inf
  pinf := ⟨.inf, trivial, rfl⟩
  hom := frHom
  tw := fun {Q} h => by
    obtain ⟨V, hV, tV, rfl⟩ := h
    rw [upp_mul, tV, upp_neg, fr_upp]
  fix := fun {T} h => by
    obtain ⟨V, hV, rfl⟩ := h
    exact fr_low V
  exm := ex_mul
  exs := ex_even
  exk := ex_kill
end Go.Proofs.YthnfgmhehfombaaGreatDoor.fpn.F12

/- Miller's loop by bits; the generators' pairing, to be reckoned out. No program is named here. -/
namespace Go.Proofs.YthnfgmhehfombaaGreatDoor.fpn
set_option linter.unusedVariables false
set_option linter.unusedSimpArgs false
set_option linter.unusedSectionVars false
namespace EC
open Rn
section
variable {α : Type} [Add α] [Mul α] [Neg α] [Sub α] [OfNat α 0] [OfNat α 1] [CR α] [DecidableEq α] {iv : α → α} {B : α} {S : α → Prop} {A P : Pt α → Prop}
def ms (iv : α → α) (Q T : Pt α) (e : Nat) : α × Pt α → α × Pt α
  | (g, W) => match (g * g * lv iv W W T, EC.add iv W W) with
      | (g2, W2) => if e % 2 = 1 then (g2 * lv iv W2 Q T, EC.add iv W2 Q) else (g2, W2)
def mb (iv : α → α) (Q T : Pt α) : Nat → Nat → α × Pt α
  | 0, _ => (1, .inf)
  | f + 1, e => ms iv Q T e (mb iv Q T f (e / 2))
theorem mb_s (iv : α → α) (Q T : Pt α) (f e : Nat) : mb iv Q T (f + 1) e = ms iv Q T e (mb iv Q T f (e / 2)) := rfl
theorem Geo.loop (G : Geo iv B S A P) (hA : A .inf) {Q T : Pt α} (hQ : A Q) (hT : P T) : ∀ (f e : Nat), e < 2 ^ f → (mb iv Q T f e).2 = EC.mul iv e Q ∧ eqv S (fm iv Q T e) (mb iv Q T f e).1
  | 0, e, he => by
    have : e = 0 := by simpa using he
    subst this
    exact ⟨rfl, eqv.refl G.kil _⟩
  | f + 1, e, he => by
    have K := G.kil
    have he' : e / 2 < 2 ^ f := by rw [Nat.pow_succ] at he; omega
    obtain ⟨h1, h2⟩ := G.loop hA hQ hT f (e / 2) he'
    have a := G.fm_add hA hQ hT (e / 2) (e / 2)
    have d := eqv.trans K a (eqv.mul K (eqv.mul K h2 h2) (eqv.refl K (lv iv (EC.mul iv (e / 2) Q) (EC.mul iv (e / 2) Q) T)))
    have t : EC.mul iv (e / 2 + e / 2) Q = EC.add iv (EC.mul iv (e / 2) Q) (EC.mul iv (e / 2) Q) := G.mulAdd hA hQ _ _
    rw [← h1] at d
    rw [mb_s]
    unfold ms
    by_cases hb : e % 2 = 1
    · simp only [hb, if_true]
      have k : e = (e / 2 + e / 2) + 1 := by omega
      constructor
      · rw [h1, ← t]
        conv => rhs; rw [k]
        rfl
      · have x : fm iv Q T e = fm iv Q T (e / 2 + e / 2) * lv iv (EC.mul iv (e / 2 + e / 2) Q) Q T := by
          conv => lhs; rw [k]
          rfl
        rw [x, t, ← h1]
        exact eqv.mul K d (eqv.refl K _)
    · simp only [hb, if_false]
      have k : e = e / 2 + e / 2 := by omega
      constructor
      · rw [h1, ← t, ← k]
      · have x : fm iv Q T e = fm iv Q T (e / 2 + e / 2) := by rw [← k]
        rw [x]
        exact d
end
end EC
namespace F12
open Rn EC
theorem npw_val (a : F) : ∀ n, (npw a n).val = a.val ^ n % RN
  | 0 => rfl
  | n + 1 => by rw [npw, Fin.val_mul, npw_val a n, Nat.pow_succ, Nat.mod_mul_mod]
theorem finv_bpw (a : F) : finv a = bpw a 381 (RN - 2) := by
  rw [bpw_eq a 381 (RN - 2) (by decide +kernel), finv_eq]
  exact Fin.ext (npw_val a _).symm
def civ (x : F2) : F2 := match bpw x.norm 381 (RN - 2) with | i => ⟨x.c0 * i, -x.c1 * i⟩
theorem inv_civ : F2.inv = civ := funext fun x => by
  unfold F2.inv civ
  rw [finv_bpw]
def xic : F2 := ⟨⟨0xd0088f51cbff34d258dd3db21a5d66bb23ba5c279c2895fb39869507b587b120f55ffff58a9ffffdcff7fffffffd556, by decide +kernel⟩, ⟨0xd0088f51cbff34d258dd3db21a5d66bb23ba5c279c2895fb39869507b587b120f55ffff58a9ffffdcff7fffffffd555, by decide +kernel⟩⟩
theorem xin_xic : xin = xic := by
  have e : xi * xic = 1 := by decide +kernel
  have h : xic * (xi * xin) = xin := by rw [← CR.mul_assoc, CR.mul_comm xic, e, CR.one_mul]
  rw [← h, xi_xin, Rn.mul_one]
def lw : Pt F2 → Pt F2 → Pt F → F12
  | .aff x1 y1, .aff x2 y2, .aff X Y => if x1 = x2 ∧ y1 + y2 = 0 then 1 else match slope civ x1 y1 x2 y2 with
    | l => ⟨⟨F2.lift Y, 0, 0⟩, ⟨0, xic * (l * x1 - y1), -(xic * (l * F2.lift X))⟩⟩
  | _, _, _ => 1
theorem lw_eq (V W : Pt F2) (T : Pt F) : EC.lv F12.inv (upp V) (upp W) (low T) = lw V W T := by
  cases V with
  | inf => rfl
  | aff x1 y1 =>
  cases W with
  | inf => rfl
  | aff x2 y2 =>
  cases T with
  | inf => rfl
  | aff X Y =>
    show (if mx x1 = mx x2 ∧ my y1 + my y2 = 0 then (1 : F12) else e1 Y - (my y1 + slope F12.inv (mx x1) (my y1) (mx x2) (my y2) * (e1 X - mx x1))) = if x1 = x2 ∧ y1 + y2 = 0 then 1 else _
    by_cases v : x1 = x2 ∧ y1 + y2 = 0
    · rw [if_pos v, if_pos ⟨by rw [v.1], by rw [my_add, v.2, my_zero]⟩]
    · rw [if_neg v, if_neg (fun h => v ⟨mx_inj h.1, my_inj (by rw [← my_add, h.2, my_zero])⟩), upp_slope v, ← inv_civ, ← xin_xic]
      generalize slope F2.inv x1 y1 x2 y2 = l
      have s : ml l * (e1 X - mx x1) = ml (l * F2.lift X) + my (-(l * x1)) := by
        rw [CR.sub_eq, Rn.mul_add, CR.mul_comm, CR.mul_comm _ (-_), Rn.neg_mul, CR.mul_comm (mx x1), ml_mx, my_neg]
        unfold e1; rw [emb_ml, CR.mul_comm]
      have t : my y1 + (ml (l * F2.lift X) + my (-(l * x1))) = ml (l * F2.lift X) + my (y1 - l * x1) := by
        rw [CR.sub_eq, ← my_add, ← CR.add_assoc, CR.add_comm (my y1) (ml _), CR.add_assoc]
      rw [s, t]
      refine ex6 ?_ ?_ ?_ ?_ ?_ ?_
      · show F2.lift Y - (0 + 0) = F2.lift Y
        rw [CR.zero_add, CR.sub_eq, Rn.neg_zero, Rn.add_zero]
      · show (0 : F2) - (0 + 0) = 0
        rw [CR.zero_add, CR.sub_eq, CR.zero_add, Rn.neg_zero]
      · show (0 : F2) - (0 + 0) = 0
        rw [CR.zero_add, CR.sub_eq, CR.zero_add, Rn.neg_zero]
      · show (0 : F2) - (0 + 0) = 0
        rw [CR.zero_add, CR.sub_eq, CR.zero_add, Rn.neg_zero]
      · show 0 - (0 + xin * (y1 - l * x1)) = xin * (l * x1 - y1)
        rw [CR.zero_add, CR.sub_eq, CR.zero_add, ← EC.sub_neg' (a := y1), CR.mul_comm xin (-_), Rn.neg_mul, CR.mul_comm xin]
      · show 0 - (xin * (l * F2.lift X) + 0) = -(xin * (l * F2.lift X))
        rw [Rn.add_zero, CR.sub_eq, CR.zero_add]
def cs (Q : Pt F2) (T : Pt F) (e : Nat) : F12 × Pt F2 → F12 × Pt F2
  | (g, W) => match (g * g * lw W W T, EC.add civ W W) with
      | (g2, W2) => if e % 2 = 1 then (g2 * lw W2 Q T, EC.add civ W2 Q) else (g2, W2)
theorem cs_eq (Q : Pt F2) (T : Pt F) (e : Nat) (g : F12) (W : Pt F2) : EC.ms F12.inv (upp Q) (low T) e (g, upp W) = ((cs Q T e (g, W)).1, upp (cs Q T e (g, W)).2) := by
  unfold EC.ms cs
  by_cases hb : e % 2 = 1
  · simp only [if_pos hb]
    rw [lw_eq, upp_add, lw_eq, upp_add, inv_civ]
  · simp only [if_neg hb]
    rw [lw_eq, upp_add, inv_civ]
def mc (Q : Pt F2) (T : Pt F) : Nat → Nat → F12 × Pt F2
  | 0, _ => (1, .inf)
  | f + 1, e => cs Q T e (mc Q T f (e / 2))
theorem mc_s (Q : Pt F2) (T : Pt F) (f e : Nat) : mc Q T (f + 1) e = cs Q T e (mc Q T f (e / 2)) := rfl
theorem mc_eq (Q : Pt F2) (T : Pt F) : ∀ f e, EC.mb F12.inv (upp Q) (low T) f e = ((mc Q T f e).1, upp (mc Q T f e).2)
  | 0, e => rfl
  | f + 1, e => by rw [EC.mb_s, mc_eq Q T f (e / 2), cs_eq, mc_s]
def z0 : F12 := (mc gen2 gen1 64 mN).1
end F12
end Go.Proofs.YthnfgmhehfombaaGreatDoor.fpn
