/- The statement FpSquares's walk, package fp answering as it should: cases. -/
import Derived.Test.YtgdmjngajjoliaaDoorTB
import Derived.Test.YtgdmjngajjoliaaDoorTC
import Derived.Test.YtgdmjngajjoliaaDoorTD
import Derived.Test.YtgdmjngajjoliaaDoorTE
namespace Go.Proofs.YtgdmjngajjoliaaDoor.fpn
open Go.RowKit
attribute [local go_sem ↓] Go.wp_at_zero Go.wp_at_succ
set_option linter.unusedVariables false
set_option linter.unusedSimpArgs false

theorem fpSquares_walk {G : World → Prop} (K : FpOk G) (f : Nat → Int) (w : World) (hg : G w) (rf : Rg f 6) : Calls Tryd.prog 7 #[frv f] w fun e w' => e = .returned (.bool true) ∧ Below w.heap.size w w' := by
  by_cases lf : val f 6 < RI
  · have f0 := (val_bd rf).1
    by_cases hz : val f 6 = 0
    · exact fpSquares_zeroSG K f w hg rf lf hz (by rcases root_is f0 lf with e | e; exact e; rw [e, hz]; decide)
    · have fp : 0 < val f 6 := by omega
      have hgr := great_one fp lf
      by_cases hn : lesser (sq (val f 6 * val f 6 % RI)) = val f 6
      · by_cases hga : RI / 2 < val f 6
        · have hgb : ¬ RI / 2 < (0 - val f 6) % RI := fun h => hgr (by rw [decide_eq_true hga, decide_eq_true h])
          rcases just_one fp lf with ⟨hx, hy⟩ | ⟨hx, hy⟩
          · exact fpSquares_plusSG K f w hg rf lf hz hx hy hn hga hgb
          · exact fpSquares_minusSG K f w hg rf lf hz hx hy hn hga hgb
        · have hgb : RI / 2 < (0 - val f 6) % RI := Classical.byContradiction fun h => hgr (by rw [decide_eq_false hga, decide_eq_false h])
          rcases just_one fp lf with ⟨hx, hy⟩ | ⟨hx, hy⟩
          · exact fpSquares_plusSL K f w hg rf lf hz hx hy hn hga hgb
          · exact fpSquares_minusSL K f w hg rf lf hz hx hy hn hga hgb
      · have ho := (root_is f0 lf).resolve_left hn
        by_cases hga : RI / 2 < val f 6
        · have hgb : ¬ RI / 2 < (0 - val f 6) % RI := fun h => hgr (by rw [decide_eq_true hga, decide_eq_true h])
          rcases just_one fp lf with ⟨hx, hy⟩ | ⟨hx, hy⟩
          · exact fpSquares_plusOG K f w hg rf lf hz hx hy hn ho hga hgb
          · exact fpSquares_minusOG K f w hg rf lf hz hx hy hn ho hga hgb
        · have hgb : RI / 2 < (0 - val f 6) % RI := Classical.byContradiction fun h => hgr (by rw [decide_eq_false hga, decide_eq_false h])
          rcases just_one fp lf with ⟨hx, hy⟩ | ⟨hx, hy⟩
          · exact fpSquares_plusOL K f w hg rf lf hz hx hy hn ho hga hgb
          · exact fpSquares_minusOL K f w hg rf lf hz hx hy hn ho hga hgb
  · exact fpSquares_not K f w hg rf (by omega)
end Go.Proofs.YtgdmjngajjoliaaDoor.fpn
