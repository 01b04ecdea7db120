/- VU VX VY UG UH. -/
import Derived.Test.YthnfgmhehfombaaGreatDoorNB
import Derived.Test.YthnfgmhehfombaaGreatDoorGB
/- The generators' pairing is not 1: reckoned out. No program is named here. -/
namespace Go.Proofs.YthnfgmhehfombaaGreatDoor.fpn
section
open Rn
variable {α : Type} [Add α] [Mul α] [Neg α] [Sub α] [OfNat α 0] [OfNat α 1] [CR α]
set_option linter.unusedSectionVars false in
theorem npw3 (a : α) : npw a 3 = a * a * a := by show 1 * a * a * a = _; rw [CR.one_mul]
end
namespace F12
set_option linter.unusedVariables false
set_option linter.unusedSimpArgs false
open Rn EC
theorem m4_ml (a b : F2) : m4 a * ml b = mw (xin * (a * b)) := by
  refine ex6 ?_ ?_ ?_ ?_ ?_ ?_ <;> simp only [mw, k12_mul0, k12_mul1, k6_mul0, k6_mul1, k6_mul2, k6_add0, k6_add1, k6_add2, k6_up0, k6_up1, k6_up2, k6_z0, k6_z1, k6_z2, ml, m4, Rn.zero_mul, Rn.mul_zero, CR.zero_add, Rn.add_zero, xk]
theorem fr_ml' (a : F2) : fr (ml a) = ml (a.conj * gi) := by
  rw [show ml a = emb a * ml 1 by rw [emb_ml, Rn.mul_one], fr_mul, fr_emb, fr_ml, CR.mul_comm (ml 1), ← CR.mul_assoc, emb_mul, emb_ml, Rn.mul_one]
theorem fr_m4 (a : F2) : fr (m4 a) = m4 (a.conj * (gi * gi) * (gi * gi)) := by
  rw [show m4 a = mx a * mx 1 by rw [mx_mx, Rn.mul_one], fr_mul, fr_mx, fr_mx, mx_mx, show (1 : F2).conj = 1 by decide, CR.one_mul]
theorem fr_mw (a : F2) : fr (mw a) = mw (xin * ((xi * a).conj * (gi * gi) * (gi * gi) * gi)) := by
  rw [mw_eq, fr_mul, fr_m4, fr_ml', m4_ml, show (1 : F2).conj = 1 by decide, CR.one_mul]
def frc (z : F12) : F12 := ⟨⟨z.c0.c0.conj, xic * ((xi * z.c0.c1).conj * (gi * gi) * (gi * gi)), xic * ((xi * z.c0.c2).conj * (gi * gi))⟩, ⟨xic * ((xi * z.c1.c0).conj * (gi * gi) * (gi * gi) * gi), xic * ((xi * z.c1.c1).conj * (gi * gi * gi)), xic * ((xi * z.c1.c2).conj * gi)⟩⟩
theorem fr_frc (z : F12) : fr z = frc z := by
  have h : fr (emb z.c0.c0 + m4 (xi * z.c0.c1) + mx (xi * z.c0.c2) + (mw z.c1.c0 + my (xi * z.c1.c1) + ml (xi * z.c1.c2))) = frc z := by
    rw [fr_add, fr_add, fr_add, fr_add, fr_add, fr_emb, fr_m4, fr_mx, fr_mw, fr_my, fr_ml']
    unfold frc
    rw [← xin_xic]
    refine ex6 ?_ ?_ ?_ ?_ ?_ ?_ <;> simp only [k12_add0, k12_add1, k6_add0, k6_add1, k6_add2, k6_z0, k6_z1, k6_z2, emb, m4, mx, mw, my, ml, CR.zero_add, Rn.add_zero]
  rwa [← parts z] at h
theorem npw_suc (x : F12) (n : Nat) : npw x (n + 1) = npw x n * x := rfl
noncomputable def ps (z : F12) : F12 := npw z (P6 - 1)
theorem ps_mul (x y : F12) : ps (x * y) = ps x * ps y := npw_mul x y _
theorem npw_swap (z : F12) (m k : Nat) : npw (npw z m) k = npw (npw z k) m := by rw [← npw_exp, ← npw_exp, Nat.mul_comm]
theorem ps_npw (x : F12) (n : Nat) : ps (npw x n) = npw (ps x) n := npw_swap _ _ _
theorem ps_conj {x : F12} (h : x ≠ 0) : ps x.conj * ps x = 1 := by
  rw [← ps_mul]
  refine even_one ⟨?_, fd12.ne_mul (fun e => h ?_) h⟩
  · rw [k12_mul1]
    show x.c0 * x.c1 + -x.c1 * x.c0 = 0
    rw [Rn.neg_mul, CR.mul_comm]; exact Rn.add_neg _
  · rw [← conj_conj x, e]
    exact ext' rfl Rn.neg_zero
theorem npw_ne {a : F12} (h : a ≠ 0) : ∀ k, npw a k ≠ 0
  | 0 => fd12.one
  | k + 1 => fd12.ne_mul (npw_ne h k) h
theorem canr {a b c : F12} (ha : a ≠ 0) (h : b * a = c * a) : b = c := by
  have := fd12.back (x := b) ha
  rw [h, fd12.back ha] at this
  exact this.symm
@[irreducible] def KK : Nat := MM / (RN * RN + 1)
theorem KK_eq : MM = (RN * RN + 1) * KK := by decide +kernel
@[irreducible] def QQ : Nat := mN * mN + RN * RN - 1
@[irreducible] def RR : Nat := RN - mN
theorem QQ_eq : mN * mN + RN * RN = QQ + 1 := by decide +kernel
theorem RR_eq : RR + mN = RN := by decide +kernel
theorem KK_3 : KK * 3 = (mN + 1) * (mN + 1) * QQ * RR + 3 := by decide +kernel
def wa (z : F12) : F12 := frc (frc z) * z
def wc (n : Nat) (a : F12) : F12 := bpw (bpw a 64 (n + 1)) 64 (n + 1)
def wb (n : Nat) (c : F12) : F12 := bpw (bpw c 64 n) 64 n * frc (frc c) * c.conj
def wx (n : Nat) (a b : F12) : F12 := frc b * (a * a * a) * (bpw b 64 n).conj
theorem conj_ne {x : F12} (h : x ≠ 0) : x.conj ≠ 0 := fun e => h (by rw [← conj_conj x, e]; exact ext' rfl Rn.neg_zero)
theorem b64 (x : F12) {e : Nat} (h : e < 2 ^ 64) : bpw x 64 e = npw x e := bpw_eq x 64 e h
theorem bb64 (x : F12) {e : Nat} (h : e < 2 ^ 64) : bpw (bpw x 64 e) 64 e = npw x (e * e) :=
  (b64 _ h).trans ((congrArg (fun y => npw y e) (b64 x h)).trans (npw_exp x e e).symm)
theorem wc_eq {n : Nat} (hn : n + 1 < 2 ^ 64) (a : F12) : wc n a = npw a ((n + 1) * (n + 1)) := bb64 a hn
theorem ff_eq {p : Nat} (hp : ∀ z, frc z = npw z p) (c : F12) : frc (frc c) = npw c (p * p) :=
  (hp _).trans ((congrArg (fun y => npw y p) (hp c)).trans (npw_exp c p p).symm)
theorem wa_eq {p : Nat} (hp : ∀ z, frc z = npw z p) (z : F12) : wa z = npw z (p * p + 1) :=
  congrArg (fun y => y * z) (ff_eq hp z)
theorem wb_eq {n p : Nat} (hn : n < 2 ^ 64) (hp : ∀ z, frc z = npw z p) (c : F12) : wb n c = npw c (n * n) * npw c (p * p) * c.conj :=
  congrArg (fun y => y * c.conj) ((congrArg (fun y => y * frc (frc c)) (bb64 c hn)).trans (congrArg (fun y => npw c (n * n) * y) (ff_eq hp c)))
theorem wx_eq {n p : Nat} (hn : n < 2 ^ 64) (hp : ∀ z, frc z = npw z p) (a b : F12) : wx n a b = npw b p * (a * a * a) * (npw b n).conj := by
  have e := b64 b hn
  unfold wx
  generalize bpw b 64 n = y at e ⊢
  rw [e, hp b]
theorem ps_ne {x : F12} (h : x ≠ 0) : ps x ≠ 0 := npw_ne h _
theorem pb_eq {n p q : Nat} (hq : n * n + p * p = q + 1) {c b : F12} (c0 : c ≠ 0) (hb : b = npw c (n * n) * npw c (p * p) * c.conj) : ps b = npw (ps c) q := by
  refine canr (ps_ne c0) ?_
  have e : npw (ps c) q * ps c = npw (ps c) (n * n + p * p) := by rw [hq, npw_suc]
  rw [e, hb, ps_mul, ps_mul, CR.mul_assoc, ps_conj c0, Rn.mul_one, ps_npw, ps_npw, ← npw_add]
theorem px_eq {n p r : Nat} (hr : r + n = p) {a b x : F12} (b0 : b ≠ 0) (hx : x = npw b p * (a * a * a) * (npw b n).conj) : ps x = npw (ps b) r * npw (ps a) 3 := by
  refine canr (ps_ne (npw_ne b0 n)) ?_
  rw [hx, ps_mul, ps_mul, CR.mul_assoc, ps_conj (npw_ne b0 _), Rn.mul_one, ps_npw, ps_npw, ps_mul, ps_mul, ← hr, npw_add, npw3, CR.mul_assoc, CR.mul_comm (npw (ps b) n), ← CR.mul_assoc]
theorem even_of {x : F12} (one : ps x = 1) : x.c1 = 0 := by
  have e : npw x ((P6 - 1) + 1) = npw x P6 := by rw [← P6_pos]
  rw [npw_P6] at e
  have e : ps x * x = x.conj := e
  rw [one, CR.one_mul] at e
  have e : x.c1 = -x.c1 := congrArg F12.c1 e
  have s : x.c1 + x.c1 = 0 := by
    conv => lhs; rhs; rw [e]
    exact Rn.add_neg _
  have d : ∀ {y : F2}, y + y = 0 → y = 0 := fun {y} h => F2.ext' (F.double (congrArg F2.c0 h)) (F.double (congrArg F2.c1 h))
  exact F6.ext' (d (congrArg F6.c0 s)) (d (congrArg F6.c1 s)) (d (congrArg F6.c2 s))
theorem last' {n p q r k : Nat} (hn : n + 1 < 2 ^ 64) (hp : ∀ z, frc z = npw z p) (hq : n * n + p * p = q + 1) (hr : r + n = p) (hk : k * 3 = (n + 1) * (n + 1) * q * r + 3)
    {z : F12} (hz : z ≠ 0) (h : npw (ps z) ((p * p + 1) * k) = 1) : (wx n (wa z) (wb n (wc n (wa z)))).c1 = 0 := by
  have hn' : n < 2 ^ 64 := Nat.lt_of_succ_lt hn
  have ha := wa_eq hp z
  generalize wa z = a at ha ⊢
  have a0 : a ≠ 0 := by rw [ha]; exact npw_ne hz _
  have hG : npw (ps a) k = 1 := by rw [ha, ps_npw, ← npw_exp]; exact h
  have hc := wc_eq hn a
  generalize wc n a = c at hc ⊢
  have c0 : c ≠ 0 := by rw [hc]; exact npw_ne a0 _
  have hb := wb_eq hn' hp c
  generalize wb n c = b at hb ⊢
  have b0 : b ≠ 0 := by rw [hb]; exact fd12.ne_mul (fd12.ne_mul (npw_ne c0 _) (npw_ne c0 _)) (conj_ne c0)
  have hx := wx_eq hn' hp a b
  generalize wx n a b = x at hx ⊢
  refine even_of ?_
  rw [px_eq hr b0 hx, pb_eq hq c0 hb, hc, ps_npw, ← npw_exp, ← npw_exp, ← Nat.mul_assoc, ← npw_add, ← hk, npw_exp, hG]
  exact npw_ones 3
theorem last {z : F12} (hz : z ≠ 0) (h : ex z = 1) : (wx mN (wa z) (wb mN (wc mN (wa z)))).c1 = 0 := by
  refine last' (by decide +kernel) (fun z => (fr_frc z).symm) QQ_eq RR_eq KK_3 hz ?_
  rw [← KK_eq]
  have h : npw z EE = 1 := h
  rw [EE_eq, npw_exp] at h
  exact h
end F12
end Go.Proofs.YthnfgmhehfombaaGreatDoor.fpn

/- The generators' pairing is not 1: reckoned out. No program is named here. -/
namespace Go.Proofs.YthnfgmhehfombaaGreatDoor.fpn.F12
set_option linter.unusedVariables false
set_option linter.unusedSimpArgs false
open Rn EC
def z1 : F12 := ⟨⟨⟨⟨0x144abb1a97a3d65527f2a479175a569855eeda1a0e616cfdc258bdb1c8b9fa096ad09965fd55f9801343d28e92e6640b, by decide +kernel⟩, ⟨0x13413bd2925a9e1b08112f7f4e35d5813c459301afd9b9fbc9764fa22aa315cc2dce1b336faff13a4d7f97b73a87a737, by decide +kernel⟩⟩, ⟨⟨0x1061bed179b9d8d27ccb35aeb12e95b39e524f50fa674db41c90542ffa28c661a2f75846365765403354400ca26e00f2, by decide +kernel⟩, ⟨0x1927491641e856fb775de263f806a58db114870fe05a58c85edfce0b8378c53c486244480d13fee441ebbe35dde4520e, by decide +kernel⟩⟩, ⟨⟨0x1a542de4684f6373e2a21d822117173950bff0915eb782c284b2afa32c9ffed3a168c2ac29c427e095a2f06f209db39, by decide +kernel⟩, ⟨0x170e1174852d019b09b0da3c14841d6cdd4b79171b9e3e6a1e7efbd5d2a6de5e2cd8853e4f98d0e32156c3319c9f3191, by decide +kernel⟩⟩⟩, ⟨⟨⟨0x111758fd4779b9d7eda010f36caabfea0c08b6703f38849acf110661c09aa1d870d747518e310505f3342294588fb886, by decide +kernel⟩, ⟨0x13dd0d23fe6b205afc16bd7f54193917adb5a1faff0b2f7ed7f786357f5ae1eace5bd97858230cc0352b88c97bbef640, by decide +kernel⟩⟩, ⟨⟨0x315d01b5d309e53bc4b7533c57146890a33c101cca9d8675fc099f9b80a6f8e25c61610c25299ea9ab42c9ea16eabb0, by decide +kernel⟩, ⟨0xcbccf94f2a6bcc12d54395ad34d72e308d2b753adce82cd21e864d7bdbc5dfdd093caa671baba5189ceb2764a4664ff, by decide +kernel⟩⟩, ⟨⟨0xced20608aa7112c205ee7a703c2e77f96d1aef6fd865caafcb4a363d2f9de8ecc3acf61f888c8eedb1483397ba6438b, by decide +kernel⟩, ⟨0x10c839fd7d6519131e14836b595789b7121ba39388491a972b713f92f9c75d3612a4758fe5614d7877cdaf2292b7dcf2, by decide +kernel⟩⟩⟩⟩
set_option maxRecDepth 100000 in
theorem z0_z1 : z0 = z1 := by decide +kernel
set_option maxRecDepth 100000 in
theorem z1_last : ¬ (wx mN (wa z1) (wb mN (wc mN (wa z1)))).c1 = 0 := by decide +kernel
theorem non : ex (EC.fm F12.inv (upp gen2) (low gen1) mN) ≠ 1 := by
  have b : PB (low gen1) := ⟨_, gen1_on, rfl⟩
  have l := (geo.loop PA.inf PA.gen b 64 mN (by decide +kernel)).2
  rw [mc_eq] at l
  have l := mil.eqv l
  rw [l]
  show ex z0 ≠ 1
  rw [z0_z1]
  exact fun h => z1_last (last (by decide +kernel) h)
noncomputable def gt : F12 := ex (EC.fm F12.inv (upp gen2) (low gen1) mN)
theorem fm_ne {Q T : Pt F12} (hQ : PA Q) (hT : PB T) : ∀ n, EC.fm F12.inv Q T n ≠ 0
  | 0 => fd12.one
  | n + 1 => fd12.ne_mul (fm_ne hQ hT n) (geo.anz (geo.aMul' PA.inf hQ n) hQ hT)
theorem gt_R : npw gt ordR = 1 := ex_R (fm_ne PA.gen ⟨_, gen1_on, rfl⟩ _)
theorem gt_both (a b : Nat) : ex (EC.fm F12.inv (upp (EC.mul F2.inv b gen2)) (low (EC.mul finv a gen1)) mN) = npw gt (a * b) := by
  have h := mil.both (Q := upp gen2) (T := low gen1) PA.gen ⟨_, gen1_on, rfl⟩ a b
  rw [upp_mul, low_mul] at h
  exact h
end Go.Proofs.YthnfgmhehfombaaGreatDoor.fpn.F12

/- Orders: what powers of the generators' pairing are 1; multiples that are not Inf, nor in one line. No program is named here. -/
namespace Go.Proofs.YthnfgmhehfombaaGreatDoor
theorem Pr.inv {p : Nat} (hp : Pr p) {k : Nat} (h : ¬ p ∣ k) : ∃ u, (k * u) % p = 1 := by
  refine ⟨k ^ (p - 2), ?_⟩
  have h2 := hp.1
  have f := fermat hp h
  rw [show p - 1 = (p - 2) + 1 by omega, Nat.pow_succ, Nat.mul_comm] at f
  exact f
namespace fpn
set_option linter.unusedVariables false
set_option linter.unusedSectionVars false
open Rn EC
section
variable {α : Type} [Add α] [Mul α] [Neg α] [Sub α] [OfNat α 0] [OfNat α 1] [CR α]
theorem npw_1s : ∀ n, npw (1 : α) n = 1
  | 0 => rfl
  | n + 1 => by rw [npw, npw_1s n, CR.one_mul]
theorem npw_mod {x : α} {r : Nat} (hx : npw x r = 1) (n : Nat) : npw x (n % r) = npw x n := by
  conv => rhs; rw [← Nat.div_add_mod n r]
  rw [npw_add, npw_exp, hx, npw_1s, CR.one_mul]
theorem npw_ord {x : α} {r : Nat} (hr : Pr r) (hx : npw x r = 1) {k : Nat} (h : npw x k = 1) : x = 1 ∨ r ∣ k := by
  by_cases d : r ∣ k
  · exact .inr d
  · left
    obtain ⟨u, hu⟩ := hr.inv d
    have e := npw_mod hx (k * u)
    rw [hu, npw_exp, h, npw_1s, npw_one] at e
    exact e
variable [DecidableEq α] {iv : α → α} {B : α}
theorem EC.mul_ord (C : Crv iv B) {V : Pt α} (hV : On B V) {r : Nat} (hr : Pr r) (hR : EC.mul iv r V = .inf) {k : Nat} (h : EC.mul iv k V = .inf) : V = .inf ∨ r ∣ k := by
  by_cases d : r ∣ k
  · exact .inr d
  · left
    obtain ⟨u, hu⟩ := hr.inv d
    have e := mul_order C hV hR (k * u)
    rw [hu, mul_mul C hV, h, mul_inf, EC.mul_one] at e
    exact e
theorem EC.nd_ne (C : Crv iv B) {V : Pt α} (hV : On B V) {r : Nat} (hr : Pr r) (hR : EC.mul iv r V = .inf) (hn : V ≠ .inf) {k : Nat} (h0 : 0 < k) (hk : k < r) : EC.mul iv k V ≠ .inf := fun h => by
  rcases EC.mul_ord C hV hr hR h with e | e
  · exact hn e
  · exact absurd (Nat.le_of_dvd h0 e) (by omega)
theorem EC.nd_x (C : Crv iv B) {V : Pt α} (hV : On B V) {r : Nat} (hr : Pr r) (hR : EC.mul iv r V = .inf) {m : Nat} (h0 : 2 ≤ m) (hk : m + 1 < r) {x1 y1 x2 y2 : α}
    (e1 : EC.mul iv m V = .aff x1 y1) (e2 : V = .aff x2 y2) : x1 ≠ x2 := by
  intro hx
  have hn : V ≠ .inf := by rw [e2]; exact fun h => by injection h
  have o1 : On B (.aff x1 y1) := by rw [← e1]; exact mul_on C hV m
  have o2 : On B (.aff x2 y2) := by rw [← e2]; exact hV
  have o1 : y1 * y1 = x1 * x1 * x1 + B := o1
  have o2 : y2 * y2 = x2 * x2 * x2 + B := o2
  rw [hx, ← o2] at o1
  have s := sq2 o1 rfl
  by_cases z : y1 - y2 = 0
  · have z := dz z
    have e : EC.mul iv m V = V := by rw [e1, e2, hx, z]
    have e' : EC.add iv (EC.mul iv (m - 1) V) V = V := by
      conv at e => lhs; rw [show m = (m - 1) + 1 by omega]
      exact e
    have o := mul_on C hV (m - 1)
    have a := EC.add_assoc C o hV (neg_on hV)
    rw [e', EC.add_neg, add_inf] at a
    exact EC.nd_ne C hV hr hR hn (k := m - 1) (by omega) (by omega) a.symm
  · have z := C.cancel z s
    have e : EC.mul iv (m + 1) V = .inf := by
      show EC.add iv (EC.mul iv m V) V = .inf
      rw [e1, e2]
      exact add_v iv ⟨hx, z⟩
    exact EC.nd_ne C hV hr hR hn (k := m + 1) (by omega) hk e
end
namespace F12
theorem pr_o : Pr ordR := pr_R
theorem gt_ne : gt ≠ 1 := non
theorem gt_iff (k : Nat) : npw gt k = 1 ↔ k % ordR = 0 := by
  constructor
  · intro h
    rcases npw_ord pr_o gt_R h with e | e
    · exact absurd e gt_ne
    · exact Nat.mod_eq_zero_of_dvd e
  · intro h
    rw [← npw_mod gt_R, h]; rfl
end F12
end fpn
end Go.Proofs.YthnfgmhehfombaaGreatDoor

/- Miller's loop with its lines left out that go straight up, the last power by parts: what both tell. No program is named here. -/
namespace Go.Proofs.YthnfgmhehfombaaGreatDoor.fpn.F12
set_option linter.unusedVariables false
set_option linter.unusedSimpArgs false
open Rn EC
def tw : F2 := ⟨⟨0x1904d3bf02bb0667c231beb4202c0d1f0fd603fd3cbd5f4f7b2443d784bab9c4f67ea53d63e7813d8d0775ed92235fb8, by decide +kernel⟩, ⟨0x00fc3e2b36c4e03288e9e902231f9fb854a14787b6c7b36fec0c8ec971f63c5f282d5ac14d6c7ec22cf78a126ddc4af3, by decide +kernel⟩⟩
theorem fr_w : fr (mw 1) = mw tw := by
  have e : xic * ((xi * 1 : F2).conj * (gi * gi) * (gi * gi) * gi) = tw := by decide +kernel
  rw [fr_mw, xin_xic, e]
def fh (x : F12) (c : F2) : F12 := x * mw tw + emb c.conj
theorem fr_step (x : F12) (c : F2) : fr (x * mw 1 + emb c) = fh (fr x) c := by
  unfold fh
  rw [fr_add, fr_mul, fr_w, fr_emb]
theorem hstep (p0 p1 p2 q0 q1 q2 c : F2) : (⟨⟨p0, p1, p2⟩, ⟨q0, q1, q2⟩⟩ : F12) * mw 1 + emb c = ⟨⟨q2 * xi + c, q0, q1⟩, ⟨p0, p1, p2⟩⟩ := by
  refine ex6 ?_ ?_ ?_ ?_ ?_ ?_ <;> simp only [mw, emb, k12_mul0, k12_mul1, k12_add0, k12_add1, k6_mul0, k6_mul1, k6_mul2, k6_add0, k6_add1, k6_add2, k6_up0, k6_up1, k6_up2, k6_z0, k6_z1, k6_z2, Rn.zero_mul, Rn.mul_zero, CR.zero_add, Rn.add_zero, Rn.mul_one]
theorem hfirst (c : F2) : (0 : F12) * mw 1 + emb c = ⟨⟨c, 0, 0⟩, ⟨0, 0, 0⟩⟩ := by rw [Rn.zero_mul, CR.zero_add]; rfl
theorem horner (a : F12) : (((((0 * mw 1 + emb a.c1.c2) * mw 1 + emb a.c0.c2) * mw 1 + emb a.c1.c1) * mw 1 + emb a.c0.c1) * mw 1 + emb a.c1.c0) * mw 1 + emb a.c0.c0 = a := by
  rw [hfirst, hstep, hstep, hstep, hstep, hstep]
  simp only [Rn.zero_mul, CR.zero_add]
theorem fr_rounds (a : F12) : fh (fh (fh (fh (fh (fh 0 a.c1.c2) a.c0.c2) a.c1.c1) a.c0.c1) a.c1.c0) a.c0.c0 = fr a := by
  conv => rhs; rw [← horner a]
  rw [fr_step, fr_step, fr_step, fr_step, fr_step, fr_step, fr_zero]
def cf (a : F12) : Nat → F2
  | 0 => a.c0.c0
  | 1 => a.c1.c0
  | 2 => a.c0.c1
  | 3 => a.c1.c1
  | 4 => a.c0.c2
  | _ => a.c1.c2
def mt (t : F2) : F12 := ⟨0, ⟨t, 0, 0⟩⟩
def fhs (t : F2) (a : F12) : Nat → F12 → F12
  | 0, y => y
  | n + 1, y => fhs t a n (y * mt t + emb (cf a n).conj)
theorem fhs_s (t : F2) (a : F12) (n : Nat) (y : F12) : fhs t a (n + 1) y = fhs t a n (y * mt t + emb (cf a n).conj) := rfl
theorem cf_0 (a : F12) : cf a 0 = a.c0.c0 := rfl
theorem cf_1 (a : F12) : cf a 1 = a.c1.c0 := rfl
theorem cf_2 (a : F12) : cf a 2 = a.c0.c1 := rfl
theorem cf_3 (a : F12) : cf a 3 = a.c1.c1 := rfl
theorem cf_4 (a : F12) : cf a 4 = a.c0.c2 := rfl
theorem cf_5 (a : F12) : cf a 5 = a.c1.c2 := rfl
theorem fhs_0 (t : F2) (a : F12) (y : F12) : fhs t a 0 y = y := rfl
theorem fhs_all {t : F2} (ht : t = tw) (a : F12) : fhs t a 6 0 = fr a := by
  rw [fhs_s t a 5, cf_5, fhs_s t a 4, cf_4, fhs_s t a 3, cf_3, fhs_s t a 2, cf_2, fhs_s t a 1, cf_1, fhs_s t a 0, cf_0, fhs_0]
  have h := fr_rounds a
  have m : mw tw = mt t := by rw [ht]; rfl
  simp only [fh, m] at h
  exact h
theorem emb_part (a : F2) : emb ⟨a.c0, 0⟩ - emb ⟨0, a.c1⟩ = emb a.conj := by
  have z : (0 : F2) - 0 = 0 := by rw [CR.sub_eq]; exact Rn.add_neg _
  refine ex6 (F2.ext' ?_ ?_) z z z z z
  · show a.c0 - 0 = a.c0
    rw [CR.sub_eq]; exact (congrArg (fun x => a.c0 + x) Rn.neg_zero).trans (Rn.add_zero _)
  · show 0 - a.c1 = -a.c1
    rw [CR.sub_eq, CR.zero_add]
theorem ne_norm {x : F12} (h : x ≠ 0) : x.norm ≠ 0 := F12.norm_ne h
noncomputable def pE (z : F12) : F12 := fr (fr (z.conj * z.inv)) * (z.conj * z.inv)
theorem pE_eq {z : F12} (h : z ≠ 0) : pE z = npw z ((P6 - 1) * (RN * RN + 1)) := by
  have e : z.conj * z.inv = npw z (P6 - 1) := by
    have e : npw z ((P6 - 1) + 1) = npw z P6 := by rw [← P6_pos]
    rw [npw_P6] at e
    rw [← e]
    show npw z (P6 - 1) * z * z.inv = _
    exact fd12.back h
  unfold pE fr
  rw [e, npw_exp z (P6 - 1), npw_add, npw_one, npw_exp _ RN RN]
noncomputable def pb (n m : Nat) (a : F12) : F12 := npw (npw a m) (n + 1)
noncomputable def pc (n : Nat) (b : F12) : F12 := fr b * (npw b n).conj
noncomputable def pd (n : Nat) (c : F12) : F12 := npw (npw c n) n * (fr (fr c) * c.conj)
noncomputable def pH (n m : Nat) (a : F12) : F12 := pd n (pc n (pb n m a)) * a
def xH (n m : Nat) : Nat := m * (n + 1) * (RN + n * P6) * (n * n + (RN * RN + P6)) + 1
theorem pc_eq (n : Nat) (b : F12) : pc n b = npw b (RN + n * P6) := by
  unfold pc fr
  rw [← npw_P6, ← npw_exp, npw_add]
theorem pd_eq (n : Nat) (c : F12) : pd n c = npw c (n * n + (RN * RN + P6)) := by
  unfold pd fr
  rw [← npw_P6, ← npw_exp c n n, npw_add, npw_add, npw_exp c RN RN]
theorem pH_eq (n m : Nat) (a : F12) : pH n m a = npw a (xH n m) := by
  unfold pH xH
  rw [pd_eq, pc_eq, npw_suc, npw_exp a (m * (n + 1) * (RN + n * P6)), npw_exp a (m * (n + 1)), npw_exp a m, pb]
theorem exps : ((P6 - 1) * (RN * RN + 1) * xH mN 5044125407647214251) % ((P6 - 1) * (P6 + 1)) = EE % ((P6 - 1) * (P6 + 1)) := by decide +kernel
theorem pow_ex {z : F12} (h : z ≠ 0) : pH mN 5044125407647214251 (pE z) = ex z := by
  rw [pH_eq, pE_eq h, ← npw_exp, ← npw_mod (all_one h), exps, npw_mod (all_one h)]; rfl
theorem mb_at {Q T : Pt F12} (hQ : PA Q) (hT : PB T) : ∀ (f e : Nat), (EC.mb F12.inv Q T f e).1 ≠ 0 ∧ PA (EC.mb F12.inv Q T f e).2
  | 0, e => ⟨fd12.one, PA.inf⟩
  | f + 1, e => by
    obtain ⟨h1, h2⟩ := mb_at hQ hT f (e / 2)
    have a := fd12.ne_mul (fd12.ne_mul h1 h1) (PA.anz h2 h2 hT)
    have b := PA.plus h2 h2
    rw [EC.mb_s]
    unfold EC.ms
    by_cases hb : e % 2 = 1
    · simp only [if_pos hb]
      exact ⟨fd12.ne_mul a (PA.anz b hQ hT), PA.plus b hQ⟩
    · simp only [if_neg hb]
      exact ⟨a, b⟩
theorem mb_inf1 (T : Pt F12) : ∀ (f e : Nat), EC.mb F12.inv .inf T f e = (1, .inf)
  | 0, e => rfl
  | f + 1, e => by
    rw [EC.mb_s, mb_inf1 T f (e / 2)]
    unfold EC.ms
    by_cases hb : e % 2 = 1
    · simp only [if_pos hb]
      show (1 * 1 * EC.lv F12.inv .inf .inf T * EC.lv F12.inv .inf .inf T, Pt.inf) = ((1 : F12), Pt.inf)
      rw [EC.lv_inf1, CR.one_mul, CR.one_mul, CR.one_mul]
    · simp only [if_neg hb]
      show (1 * 1 * EC.lv F12.inv .inf .inf T, Pt.inf) = ((1 : F12), Pt.inf)
      rw [EC.lv_inf1, CR.one_mul, CR.one_mul]
theorem mb_inf2 (Q : Pt F12) : ∀ (f e : Nat), (EC.mb F12.inv Q .inf f e).1 = 1
  | 0, e => rfl
  | f + 1, e => by
    rw [EC.mb_s]
    unfold EC.ms
    have h := mb_inf2 Q f (e / 2)
    by_cases hb : e % 2 = 1
    · simp only [if_pos hb]
      rw [EC.lv_inf3, EC.lv_inf3, h, CR.one_mul, CR.one_mul, CR.one_mul]
    · simp only [if_neg hb]
      rw [EC.lv_inf3, h, CR.one_mul, CR.one_mul]
noncomputable def sv (P : Pt F) (Q : Pt F2) : F12 := (EC.mb F12.inv (upp Q) (low P) 64 mN).1
theorem sv_inf1 (Q : Pt F2) : sv .inf Q = 1 := mb_inf2 _ _ _
theorem sv_inf2 (P : Pt F) : sv P .inf = 1 := congrArg Prod.fst (mb_inf1 (low P) 64 mN)
theorem pa_mul (b : Nat) : PA (upp (EC.mul F2.inv b gen2)) := by
  rw [← upp_mul]
  exact geo.aMul' PA.inf PA.gen b
theorem pb_mul (a : Nat) : PB (low (EC.mul finv a gen1)) := ⟨_, EC.mul_on crv1 gen1_on a, rfl⟩
theorem sv_ne (a b : Nat) : sv (EC.mul finv a gen1) (EC.mul F2.inv b gen2) ≠ 0 := (mb_at (pa_mul b) (pb_mul a) 64 mN).1
theorem sv_ex (a b : Nat) : ex (sv (EC.mul finv a gen1) (EC.mul F2.inv b gen2)) = npw gt (a * b) := by
  rw [← gt_both]
  exact (mil.eqv (geo.loop PA.inf (pa_mul b) (pb_mul a) 64 mN (by decide +kernel)).2).symm
end Go.Proofs.YthnfgmhehfombaaGreatDoor.fpn.F12

/- Miller's loop, a round after the other. No program is named here. -/
namespace Go.Proofs.YthnfgmhehfombaaGreatDoor.fpn
set_option linter.unusedVariables false
set_option linter.unusedSimpArgs false
open Rn EC F12
structure Plc where
  x : F12
  y : F12
namespace F12
noncomputable def sT (a : Plc) : F12 := (a.x * a.x + a.x * a.x + a.x * a.x) * F12.inv (a.y + a.y)
noncomputable def sN (a b : Plc) : F12 := (b.y - a.y) * F12.inv (b.x - a.x)
def ln (a : Plc) (s : F12) (p : Plc) : F12 := (p.y - a.y) - s * (p.x - a.x)
def sm (a b : Plc) (s : F12) : Plc := ⟨s * s - a.x - b.x, s * (a.x - (s * s - a.x - b.x)) - a.y⟩
def pt (a : Plc) : Pt F12 := .aff a.x a.y
theorem ln_eq (a : Plc) (s : F12) (p : Plc) : p.y - (a.y + s * (p.x - a.x)) = ln a s p := by
  unfold ln
  generalize s * (p.x - a.x) = c
  rw [CR.sub_eq, CR.sub_eq, CR.sub_eq p.y, Rn.neg_add', CR.add_assoc]
theorem lv_T {a : Plc} (h : a.y + a.y ≠ 0) (p : Plc) : EC.lv F12.inv (pt a) (pt a) (pt p) = ln a (sT a) p := by
  show (if a.x = a.x ∧ a.y + a.y = 0 then (1 : F12) else p.y - (a.y + slope F12.inv a.x a.y a.x a.y * (p.x - a.x))) = _
  rw [if_neg (fun e => h e.2), ← ln_eq]
  unfold slope
  rw [if_pos rfl]; rfl
theorem add_T {a : Plc} (h : a.y + a.y ≠ 0) : EC.add F12.inv (pt a) (pt a) = pt (sm a a (sT a)) := by
  unfold pt
  rw [add_n F12.inv (fun e => h e.2)]
  unfold slope
  rw [if_pos rfl]; rfl
theorem lv_N {a b : Plc} (h : a.x ≠ b.x) (p : Plc) : EC.lv F12.inv (pt a) (pt b) (pt p) = ln a (sN a b) p := by
  show (if a.x = b.x ∧ a.y + b.y = 0 then (1 : F12) else p.y - (a.y + slope F12.inv a.x a.y b.x b.y * (p.x - a.x))) = _
  rw [if_neg (fun e => h e.1), ← ln_eq]
  unfold slope
  rw [if_neg h]; rfl
theorem add_N {a b : Plc} (h : a.x ≠ b.x) : EC.add F12.inv (pt a) (pt b) = pt (sm a b (sN a b)) := by
  unfold pt
  rw [add_n F12.inv (fun e => h e.1)]
  unfold slope
  rw [if_neg h]; rfl
def MI (P : Pt F) (Q : Pt F2) (L : Nat) (g : F12) (a : Plc) : Prop := EC.mb F12.inv (upp Q) (low P) (64 - L) (mN / 2 ^ L) = (g, pt a)
structure MQ (P : Pt F) (Q : Pt F2) (p q : Plc) : Prop where
  hA : PA (upp Q)
  hB : PB (low P)
  on : On b2 Q
  ord : EC.mul F2.inv ordR Q = .inf
  ep : low P = pt p
  eq : upp Q = pt q
theorem MQ.start {P : Pt F} {Q : Pt F2} {p q : Plc} (M : MQ P Q p q) : MI P Q 63 1 q := by
  unfold MI
  rw [show 64 - 63 = 0 + 1 from rfl, EC.mb_s]
  show EC.ms F12.inv (upp Q) (low P) (mN / 2 ^ 63) (1, .inf) = _
  rw [show mN / 2 ^ 63 = 1 by decide +kernel, ← M.eq]
  unfold EC.ms
  show (1 * 1 * EC.lv F12.inv .inf .inf (low P) * EC.lv F12.inv .inf (upp Q) (low P), EC.add F12.inv .inf (upp Q)) = _
  rw [EC.lv_inf1, EC.lv_inf1, CR.one_mul, CR.one_mul, CR.one_mul]; rfl
theorem MI.last {P : Pt F} {Q : Pt F2} {g : F12} {a : Plc} (h : MI P Q 0 g a) : g = sv P Q := by
  unfold MI at h
  rw [Nat.pow_zero, Nat.div_one] at h
  exact (congrArg Prod.fst h).symm
theorem MI.odd {P : Pt F} {Q : Pt F2} {p q a : Plc} {g : F12} {L : Nat} (M : MQ P Q p q) (h : MI P Q L g a) : a.y + a.y ≠ 0 := by
  have k := (mb_at M.hA M.hB (64 - L) (mN / 2 ^ L)).2
  unfold MI at h
  rw [h] at k
  exact geo.aOdd k
theorem mN_lt : mN < 2 ^ 64 := by decide +kernel
theorem mN_top : 2 ^ 63 ≤ mN := by decide +kernel
theorem half_N (m : Nat) : mN / 2 ^ m / 2 = mN / 2 ^ (m + 1) := by rw [Nat.pow_succ, Nat.div_div_eq_div_mul]
theorem big_N {m : Nat} (h : m < 63) : 2 ≤ mN / 2 ^ m := by
  refine (Nat.le_div_iff_mul_le (Nat.two_pow_pos m)).2 ?_
  have e : 2 * 2 ^ m = 2 ^ (m + 1) := by rw [Nat.pow_succ, Nat.mul_comm]
  rw [e]
  exact Nat.le_trans (Nat.pow_le_pow_right (by decide) (by omega)) mN_top
theorem MI.dbl {P : Pt F} {Q : Pt F2} {p q a : Plc} {g : F12} {m : Nat} (M : MQ P Q p q) (hm : m < 63) (h : MI P Q (m + 1) g a) : EC.mb F12.inv (upp Q) (low P) (64 - m) (mN / 2 ^ m) =
    if mN / 2 ^ m % 2 = 1 then (g * g * ln a (sT a) p * EC.lv F12.inv (pt (sm a a (sT a))) (upp Q) (low P), EC.add F12.inv (pt (sm a a (sT a))) (upp Q)) else (g * g * ln a (sT a) p, pt (sm a a (sT a))) := by
  have o := h.odd M
  unfold MI at h
  rw [show 64 - m = (64 - (m + 1)) + 1 by omega, EC.mb_s, half_N, h]
  unfold EC.ms
  show (if mN / 2 ^ m % 2 = 1 then (g * g * EC.lv F12.inv (pt a) (pt a) (low P) * EC.lv F12.inv (EC.add F12.inv (pt a) (pt a)) (upp Q) (low P), EC.add F12.inv (EC.add F12.inv (pt a) (pt a)) (upp Q)) else (g * g * EC.lv F12.inv (pt a) (pt a) (low P), EC.add F12.inv (pt a) (pt a))) = _
  rw [add_T o]
  conv => lhs; rw [M.ep, lv_T o]
  rw [← M.ep]
theorem MI.even {P : Pt F} {Q : Pt F2} {p q a : Plc} {g : F12} {m : Nat} (M : MQ P Q p q) (hm : m < 63) (h : MI P Q (m + 1) g a) (hb : mN / 2 ^ m % 2 = 0) : MI P Q m (g * g * ln a (sT a) p) (sm a a (sT a)) := by
  unfold MI
  rw [h.dbl M hm, if_neg (by omega)]
theorem MI.far {P : Pt F} {Q : Pt F2} {p q a : Plc} {g : F12} {m : Nat} (M : MQ P Q p q) (hm : m < 63) (h : MI P Q (m + 1) g a) : (sm a a (sT a)).x ≠ q.x := by
  have l := (geo.loop PA.inf M.hA M.hB (64 - (m + 1)) (mN / 2 ^ (m + 1)) ?_).1
  · have o := h.odd M
    unfold MI at h
    rw [h, upp_mul] at l
    have l : pt a = upp (EC.mul F2.inv (mN / 2 ^ (m + 1)) Q) := l
    have t := add_T o
    rw [l, upp_add, ← EC.mul_add crv2 M.on] at t
    generalize hk : mN / 2 ^ (m + 1) + mN / 2 ^ (m + 1) = k at t
    have k2 : 2 ≤ k := by have := big_N hm; have := half_N m; omega
    have kR : k + 1 < ordR := by
      have : mN / 2 ^ (m + 1) ≤ mN := Nat.div_le_self _ _
      have := mN_lt
      have : 2 ^ 65 + 1 < ordR := by decide +kernel
      omega
    have eQ := M.eq
    cases hQ : Q with
    | inf => rw [hQ] at eQ; exact fun _ => by injection eQ
    | aff x2 y2 =>
      cases hV : EC.mul F2.inv k Q with
      | inf => rw [hV] at t; exact fun _ => by injection t
      | aff x1 y1 =>
        have n := EC.nd_x crv2 M.on pr_o M.ord k2 kR hV hQ
        rw [hV] at t
        rw [hQ] at eQ
        have t1 : mx x1 = (sm a a (sT a)).x := by injection t
        have t2 : mx x2 = q.x := by injection eQ
        rw [← t1, ← t2]
        exact fun e => n (mx_inj e)
  · refine Nat.div_lt_of_lt_mul ?_
    rw [← Nat.pow_add, show m + 1 + (64 - (m + 1)) = 64 by omega]
    exact mN_lt
theorem MI.both {P : Pt F} {Q : Pt F2} {p q a : Plc} {g : F12} {m : Nat} (M : MQ P Q p q) (hm : m < 63) (h : MI P Q (m + 1) g a) (hb : mN / 2 ^ m % 2 = 1) : MI P Q m (g * g * ln a (sT a) p * ln (sm a a (sT a)) (sN (sm a a (sT a)) q) p) (sm (sm a a (sT a)) q (sN (sm a a (sT a)) q)) := by
  have n := h.far M hm
  unfold MI
  rw [h.dbl M hm, if_pos hb, M.eq, M.ep, lv_N n, add_N n]
end F12
end Go.Proofs.YthnfgmhehfombaaGreatDoor.fpn
