/- The statement FpField's walk. -/
import Derived.Test.YtgdmjngajjoliaaDoorPE
import Derived.Test.YtgdmjngajjoliaaDoorPF
namespace Go.Proofs.YtgdmjngajjoliaaDoor.fpn
open Go.RowKit

theorem fpField_walk {G : World → Prop} (K : FpOk G) (f g h : Nat → Int) (w : World) (hg : G w) (rf : Rg f 6) (rg : Rg g 6) (rh : Rg h 6) : Calls Tryd.prog 6 #[frv f, frv g, frv h] w fun e w' => e = .returned (.bool true) ∧ Below w.heap.size w w' := by
  by_cases la : val f 6 < RI
  · by_cases lb : val g 6 < RI
    · by_cases lc : val h 6 < RI
      · by_cases hz : val f 6 = 0
        · exact fpField_zero K f g h w hg rf rg rh la lb lc hz
        · exact fpField_in K f g h w hg rf rg rh la lb lc hz
      · exact fpField_nc K f g h w hg rf rg rh la lb (by omega)
    · exact fpField_nb K f g h w hg rf rg rh la (by omega)
  · exact fpField_na K f g h w hg rf rg rh (by omega)
end Go.Proofs.YtgdmjngajjoliaaDoor.fpn
