/- What the document's WideR, PutR, TakeR answer. -/
import Derived.Test.YtgdmjngajjoliaaDoorRA
import Derived.Test.YtgdmjngajjoliaaDoorWQ
namespace Go.Proofs.YtgdmjngajjoliaaDoor.fpn
open Go.RowKit
attribute [local go_sem ↓] Go.wp_at_zero Go.wp_at_succ
set_option linter.unusedVariables false

theorem addR_agg (f g : Nat → Int) (w : World) (rf : Rg f 6) (rg : Rg g 6) (lf : val f 6 < RI) (lg : val g 6 < RI) :
    Calls Tryd.prog 13 #[.agg #[.int .u64 (f 0), .int .u64 (f 1), .int .u64 (f 2), .int .u64 (f 3), .int .u64 (f 4), .int .u64 (f 5)], .agg #[.int .u64 (g 0), .int .u64 (g 1), .int .u64 (g 2), .int .u64 (g 3), .int .u64 (g 4), .int .u64 (g 5)]] w fun e w' => ∃ h, e = .returned (.agg #[.int .u64 (h 0), .int .u64 (h 1), .int .u64 (h 2), .int .u64 (h 3), .int .u64 (h 4), .int .u64 (h 5)]) ∧ Rg h 6 ∧ val h 6 = (val f 6 + val g 6) % RI ∧ Below w.heap.size w w' := by
  refine Calls.mono (addR_any f g w rf rg lf lg) ?_
  rintro e w' ⟨v, rfl, ⟨h, rfl, r, v⟩, b⟩
  exact ⟨h, rfl, r, v, b⟩

end Go.Proofs.YtgdmjngajjoliaaDoor.fpn
