/- The walk of GaussNorms, package gauss answering as it should. -/
import Derived.Test.YtgkpcjopedleeaaGX
namespace Go.Proofs.Ytgkpcjopedleeaa
open Go.RowKit
set_option linter.unusedVariables false

theorem turn_back (x y r q : Gz) : tu (tu (x, y, r, q) (0, 1)) (0, -1) = (gm (4, 0) x, gm (4, 0) y, gm (4, 0) r, gm (4, 0) q) := by
  simp only [tu]
  refine Prod.ext (gext ?_ ?_) (Prod.ext (gext ?_ ?_) (Prod.ext (gext ?_ ?_) (gext ?_ ?_))) <;> simp only [ga, gm] <;> grind

/-- Parts of 499 at most. -/
def Md (a : Gz) : Prop := a.1.natAbs ≤ 499 ∧ a.2.natAbs ≤ 499
theorem tmod_mid (a : Int) : (Int.tmod a 500).natAbs ≤ 499 := by
  rw [Int.natAbs_tmod]
  have := Nat.mod_lt a.natAbs (show (500 : Int).natAbs > 0 by decide)
  have e : (500 : Int).natAbs = 500 := rfl
  omega
theorem Md.wh {a : Gz} (h : Md a) : Wh a := ⟨by have := h.1; omega, by have := h.2; omega⟩
theorem Md.norm {a : Gz} (h : Md a) : gn a ≤ 498002 := by
  have h1 := sq_le h.1; have h2 := sq_le h.2
  show a.1 * a.1 + a.2 * a.2 ≤ _
  omega
theorem Md.mul {a b : Gz} (ha : Md a) (hb : Md b) : gn (gm a b) ≤ 498002 * 498002 ∧ Wh (gm a b) := by
  have e : gn (gm a b) ≤ 498002 * 498002 := by
    rw [gn_mul]
    exact Int.mul_le_mul ha.norm hb.norm (gn_nonneg b) (by decide)
  have := part_le (n := 498002) e
  exact ⟨e, by have := this.1; omega, by have := this.2; omega⟩
theorem Md.conj {a : Gz} (h : Md a) : Md (gc a) := ⟨h.1, by show (-a.2).natAbs ≤ _; rw [Int.natAbs_neg]; exact h.2⟩

theorem near_bd (n d : Int) (hd : 0 < d) : 2 * (n - near n d * d) ≤ d ∧ -d ≤ 2 * (n - near n d * d) := by
  unfold near
  have h1 := Int.emod_add_mul_ediv (2 * n + d) (2 * d)
  have h2 := Int.emod_nonneg (2 * n + d) (show 2 * d ≠ 0 by omega)
  have h3 := Int.emod_lt_of_pos (2 * n + d) (show 0 < 2 * d by omega)
  generalize (2 * n + d) / (2 * d) = q at *
  have e : 2 * d * q = 2 * (q * d) := by grind
  omega

theorem rest_half (a b : Gz) (hb : b ≠ (0, 0)) : 2 * gn (gs a (gm (gq a b) b)) ≤ gn b := rest_small (near_bd _ _ (gn_pos hb)) (near_bd _ _ (gn_pos hb)) (gn_pos hb)

theorem para (a b : Gz) : gn (gs a b) ≤ 2 * (gn a + gn b) := by
  have h1 := sq_nonneg (a.1 + b.1); have h2 := sq_nonneg (a.2 + b.2)
  have e : gn (gs a b) + ((a.1 + b.1) * (a.1 + b.1) + (a.2 + b.2) * (a.2 + b.2)) = 2 * (gn a + gn b) := by simp only [gn, gs]; grind
  omega

theorem quot_bd {a b : Gz} (ha : Md a) (hb : Md b) (h0 : b ≠ (0, 0)) : gn (gq a b) ≤ 1494006 := by
  have h1 := rest_half a b h0
  have h2 := para a (gs a (gm (gq a b) b))
  have e : gs a (gs a (gm (gq a b) b)) = gm (gq a b) b := by apply gext <;> simp only [gs] <;> omega
  rw [e, gn_mul] at h2
  have h3 := ha.norm; have h4 := hb.norm
  have h5 := gn_pos h0
  have h6 := Int.mul_le_mul_of_nonneg_left (show (1 : Int) ≤ gn b by omega) (gn_nonneg (gq a b))
  omega
theorem turned_wh {x y r q : Gz} (hx : Wh x) (hx' : x.1.natAbs ≤ 5000 ∧ x.2.natAbs ≤ 5000) (hy' : y.1.natAbs ≤ 5000 ∧ y.2.natAbs ≤ 5000) (hr' : r.1.natAbs ≤ 5000 ∧ r.2.natAbs ≤ 5000) (hq' : q.1.natAbs ≤ 5000 ∧ q.2.natAbs ≤ 5000) :
    Wh (tu (x, y, r, q) (0, 1)).1 ∧ Wh (tu (x, y, r, q) (0, 1)).2.1 ∧ Wh (tu (x, y, r, q) (0, 1)).2.2.1 ∧ Wh (tu (x, y, r, q) (0, 1)).2.2.2 := by
  obtain ⟨x1, x2⟩ := x
  obtain ⟨y1, y2⟩ := y
  obtain ⟨r1, r2⟩ := r
  obtain ⟨q1, q2⟩ := q
  simp only at hx' hy' hr' hq'
  have a1 : -5000 ≤ x1 ∧ x1 ≤ 5000 := by omega
  have a2 : -5000 ≤ x2 ∧ x2 ≤ 5000 := by omega
  have b1 : -5000 ≤ y1 ∧ y1 ≤ 5000 := by omega
  have b2 : -5000 ≤ y2 ∧ y2 ≤ 5000 := by omega
  have c1 : -5000 ≤ r1 ∧ r1 ≤ 5000 := by omega
  have c2 : -5000 ≤ r2 ∧ r2 ≤ 5000 := by omega
  have d1 : -5000 ≤ q1 ∧ q1 ≤ 5000 := by omega
  have d2 : -5000 ≤ q2 ∧ q2 ≤ 5000 := by omega
  clear hx hx' hy' hr' hq'
  simp only [tu, ga, gm, Wh]
  refine ⟨⟨?_, ?_⟩, ⟨?_, ?_⟩, ⟨?_, ?_⟩, ⟨?_, ?_⟩⟩ <;> omega
end Go.Proofs.Ytgkpcjopedleeaa
