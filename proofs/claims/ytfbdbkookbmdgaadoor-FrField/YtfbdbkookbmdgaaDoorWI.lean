/- What the statements' own helpers same and begun answer. -/
import Derived.Test.YtfbdbkookbmdgaaDoorWH
import Derived.Laws.BytesArg
namespace Go.Proofs.YtfbdbkookbmdgaaDoor
open Go.RowKit

theorem below_draws {B : Nat} {a w : World} (h : Below B a w) (n : Nat) : Below B a (w.drewN n) := h.trans ⟨rfl, rfl, rfl, Nat.le_refl _, fun _ _ => rfl⟩


/-- A number of one limb. -/
def one (x : Int) : Nat → Int := fun i => if i = 0 then x else 0
theorem one_rg {x : Int} (h : 0 ≤ x ∧ x < B64) (n : Nat) : Rg (one x) n := fun i _ => by
  unfold one; split
  · exact h
  · exact ⟨Int.le_refl _, B64_pos⟩
theorem val_one (x : Int) : val (one x) 1 = x := by simp [val, pw, one]
theorem nm_one {x : Int} (h : x ≠ 0) : Nm (one x) 1 := Or.inr (by simpa [one] using h)
theorem one_of {h : Nat → Int} {n : Nat} {x : Int} (hr : Rg h n) (hn : Nm h n) (hv : val h n = x) (hx : 0 < x ∧ x < B64) : n = 1 ∧ h 0 = x := by
  have := uniq hr (one_rg ⟨by omega, hx.2⟩ 1) hn (nm_one (by omega)) (by rw [hv, val_one])
  refine ⟨this.1, ?_⟩
  rw [this.2 0 (by omega)]; rfl
theorem two_of {h : Nat → Int} {n : Nat} (hr : Rg h n) (hn : Nm h n) (hv : val h n = B64) : n = 2 := by
  refine (uniq hr (g := fun i => if i = 1 then 1 else 0) (m := 2) (fun i _ => ?_) hn (Or.inr (by simp)) ?_).1
  · dsimp only; split
    · exact ⟨by decide, by rw [B64_eq]; decide⟩
    · exact ⟨Int.le_refl _, B64_pos⟩
  · rw [hv]; simp [val, pw]

theorem at_one (w : World) (x : Int) (t : TypeId) : At (w.alloc (.cells #[.int .u64 x] t)) (some ⟨w.heap.size, 0, none⟩) 1 (one x) := fun _ => ⟨w.heap.size, 0, rfl, fun j hj => by
  have e : j = 0 := by omega
  subst e
  simp [one]⟩

theorem at_next {w : World} {x : Int} {t : TypeId} {o : Obj} : At ((w.alloc o).alloc (.cells #[.int .u64 x] t)) (some ⟨w.heap.size + 1, 0, none⟩) 1 (one x) := by
  have := at_one (w.alloc o) x t
  rwa [World.size_alloc] at this
theorem at_prev {w : World} {x : Int} {t : TypeId} {o : Obj} : At ((w.alloc (.cells #[.int .u64 x] t)).alloc o) (some ⟨w.heap.size, 0, none⟩) 1 (one x) :=
  (at_one w x t).below ((Below.refl _ _).alloc (Nat.le_refl _) _)
theorem below_one (w : World) (o : Obj) : Below w.heap.size w (w.alloc o) := (Below.refl _ _).alloc (Nat.le_refl _) _
theorem below_two (w : World) (o o' : Obj) : Below w.heap.size w ((w.alloc o).alloc o') := (below_one w o).alloc (by rw [World.size_alloc]; omega) _
theorem Below.up {B : Nat} {w x y : World} (h : Below B w x) (hB : B ≤ w.heap.size) (k : Below x.heap.size x y) : Below B w y := h.trans (k.mono (Nat.le_trans hB h.size))

end Go.Proofs.YtfbdbkookbmdgaaDoor
