/- Six cells of a block. -/
import Derived.Test.YtgdmjngajjoliaaDoorWU
namespace Go.Proofs.YtgdmjngajjoliaaDoor
open Go.RowKit

theorem MutK.cells6 {k : IntKind} {w : World} {b : Nat} {f : Nat → Int} (h : MutK k w b 0 6 f) :
    w.cell? ⟨b, 0, none⟩ = some (.int k (f 0)) ∧ w.cell? ⟨b, 1, none⟩ = some (.int k (f 1)) ∧ w.cell? ⟨b, 2, none⟩ = some (.int k (f 2)) ∧ w.cell? ⟨b, 3, none⟩ = some (.int k (f 3)) ∧ w.cell? ⟨b, 4, none⟩ = some (.int k (f 4)) ∧ w.cell? ⟨b, 5, none⟩ = some (.int k (f 5)) :=
  ⟨(h 0 (by omega)).1, (h 1 (by omega)).1, (h 2 (by omega)).1, (h 3 (by omega)).1, (h 4 (by omega)).1, (h 5 (by omega)).1⟩
theorem MutK.free6 {k : IntKind} {w : World} {b : Nat} {f : Nat → Int} (h : MutK k w b 0 6 f) :
    w.frozen? ⟨b, 0, none⟩ = false ∧ w.frozen? ⟨b, 1, none⟩ = false ∧ w.frozen? ⟨b, 2, none⟩ = false ∧ w.frozen? ⟨b, 3, none⟩ = false ∧ w.frozen? ⟨b, 4, none⟩ = false ∧ w.frozen? ⟨b, 5, none⟩ = false :=
  ⟨(h 0 (by omega)).2, (h 1 (by omega)).2, (h 2 (by omega)).2, (h 3 (by omega)).2, (h 4 (by omega)).2, (h 5 (by omega)).2⟩
theorem Fix.fp6 {w w' : World} {v : Value} {x : Int} (h : Fix w w' v 6 x) : Below w.heap.size w w' ∧ ∃ p cap f, v = .slice p 6 cap ∧ At w' p 6 f ∧ Rg f 6 ∧ val f 6 = x := by
  obtain ⟨h1, b, off, c, f, rfl, -, -, -, -, hm, hr, hv⟩ := h
  exact ⟨h1, _, c, f, rfl, hm.at, hr, hv⟩
end Go.Proofs.YtgdmjngajjoliaaDoor
