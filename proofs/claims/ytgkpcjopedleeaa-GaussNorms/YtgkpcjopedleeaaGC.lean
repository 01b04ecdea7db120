/- The store of a complex number into a cell; boxes of four. -/
import Derived.Test.YtgkpcjopedleeaaGW
namespace Go.Proofs.Ytgkpcjopedleeaa
open Go.RowKit

theorem run_store_complex (P : Program) (w : World) (a : Addr) (m : Mode) (k : FloatKind) (p q : Nat) : (store a (.complex k p q) m).run P w = stored P w a (.complex k p q) m := run_store P w a _ m rfl

/-- Four cells in block b. -/
def Fours (w : World) (b : Nat) (v0 v1 v2 v3 : Value) : Prop :=
  (w.cell? ⟨b, 0, none⟩ = some v0 ∧ w.frozen? ⟨b, 0, none⟩ = false) ∧ (w.cell? ⟨b, 1, none⟩ = some v1 ∧ w.frozen? ⟨b, 1, none⟩ = false) ∧
    (w.cell? ⟨b, 2, none⟩ = some v2 ∧ w.frozen? ⟨b, 2, none⟩ = false) ∧ w.cell? ⟨b, 3, none⟩ = some v3 ∧ w.frozen? ⟨b, 3, none⟩ = false

theorem fours_new (w : World) (v0 v1 v2 v3 : Value) (t : TypeId) : ∀ W, W = w.alloc (.cells #[v0, v1, v2, v3] t) → W.heap.size = w.heap.size + 1 ∧ Below w.heap.size w W ∧ Fours W w.heap.size v0 v1 v2 v3 := by
  rintro W rfl
  have hh : (w.alloc (.cells #[v0, v1, v2, v3] t)).heap[w.heap.size]? = some (.cells #[v0, v1, v2, v3] t) := by
    show (w.heap.push _)[w.heap.size]? = _
    simp
  refine ⟨World.size_alloc _ _, (Below.refl _ _).alloc (Nat.le_refl _) _, ⟨?_, ?_⟩, ⟨?_, ?_⟩, ⟨?_, ?_⟩, ?_, ?_⟩ <;>
  first
  | (unfold World.cell?; simp only [hh]; rfl)
  | (unfold World.frozen?; simp only [hh]; simp)
theorem Fours.below {w x : World} {b B : Nat} {v0 v1 v2 v3 : Value} (h : Fours w b v0 v1 v2 v3) (hb : Below B w x) (hB : b < B) : Fours x b v0 v1 v2 v3 :=
  ⟨⟨(hb.cell (p := ⟨b, 0, none⟩) hB).trans h.1.1, (hb.frozen (p := ⟨b, 0, none⟩) hB).trans h.1.2⟩, ⟨(hb.cell (p := ⟨b, 1, none⟩) hB).trans h.2.1.1, (hb.frozen (p := ⟨b, 1, none⟩) hB).trans h.2.1.2⟩,
    ⟨(hb.cell (p := ⟨b, 2, none⟩) hB).trans h.2.2.1.1, (hb.frozen (p := ⟨b, 2, none⟩) hB).trans h.2.2.1.2⟩, (hb.cell (p := ⟨b, 3, none⟩) hB).trans h.2.2.2.1, (hb.frozen (p := ⟨b, 3, none⟩) hB).trans h.2.2.2.2⟩
/-- An operation is taken first, its slot told. -/
theorem takeW {P : Program} {ops : Array Oper} {Q : Exit → Act → World → Prop} {md : Region.Mode} {S : World → Prop} {i : Nat} {oi : Oper} {v : Value} {fuel : Nat} {listed : Array Bool} {a : Act} {w : World} (d : Tmp) (hi : ops[i]? = some oi)
    (hs : Region.noSelect ops = true) (hf : Region.free md ops listed i = true) (hr : (Region.ready md ops listed).contains i = true)
    (hQ : ∀ c a w, Q (.panic c) (a.put oi.dst v) w → Q (.panic c) a w) (hy : YieldsIf P ops S oi v a) (hS : S w) (hd : oi.dst = some d)
    (h : wpAnyH P md ops Q S fuel (listed.setIfInBounds i true) (a.put (some d) v) w) : wpAnyH P md ops Q S (fuel + 1) listed a w :=
  wpAnyH_take hi hs hf hr hQ hy hS (by rw [hd]; exact h)

end Go.Proofs.Ytgkpcjopedleeaa
