/- What the document's answers to the scalars are, as numbers: R, fr, MayR, AddR, SubR, NegR, MulR, OfR. -/
import Derived.Test.YtgdmjngajjoliaaDoorWW
import Derived.Test.YtgdmjngajjoliaaDoorFV
namespace Go.Proofs.YtgdmjngajjoliaaDoor
open Go.RowKit
attribute [local go_sem ↓] Go.wp_at_zero Go.wp_at_succ
set_option linter.unusedVariables false

theorem rL_inv : nwt (rL 0) 6 * rL 0 % B64 = 1 := by decide +kernel

theorem Fix.fr {w w' : World} {v : Value} {x : Int} (h : Fix w w' v 4 x) : Below w.heap.size w w' ∧ ∃ p cap f, v = .slice p 4 cap ∧ At w' p 4 f ∧ Rg f 4 ∧ val f 4 = x := by
  obtain ⟨h1, b, off, c, f, rfl, -, -, -, -, hm, hr, hv⟩ := h
  exact ⟨h1, _, c, f, rfl, hm.at, hr, hv⟩

end Go.Proofs.YtgdmjngajjoliaaDoor
