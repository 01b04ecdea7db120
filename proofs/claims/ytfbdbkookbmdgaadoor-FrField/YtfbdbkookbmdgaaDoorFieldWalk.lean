/- The statement FrField's walk. -/
import Derived.Test.YtfbdbkookbmdgaaDoorFE
import Derived.Test.YtfbdbkookbmdgaaDoorFF
namespace Go.Proofs.YtfbdbkookbmdgaaDoor
open Go.RowKit

theorem frField_walk {G : World → Prop} (K : FrOk G) (f g h : Nat → Int) (w : World) (hg : G w) (rf : Rg f 4) (rg : Rg g 4) (rh : Rg h 4) : Calls Tryd.prog 6 #[frv f, frv g, frv h] w fun e w' => e = .returned (.bool true) ∧ Below w.heap.size w w' := by
  by_cases la : val f 4 < RI
  · by_cases lb : val g 4 < RI
    · by_cases lc : val h 4 < RI
      · by_cases hz : val f 4 = 0
        · exact frField_zero K f g h w hg rf rg rh la lb lc hz
        · exact frField_in K f g h w hg rf rg rh la lb lc hz
      · exact frField_nc K f g h w hg rf rg rh la lb (by omega)
    · exact frField_nb K f g h w hg rf rg rh la (by omega)
  · exact frField_na K f g h w hg rf rg rh (by omega)
end Go.Proofs.YtfbdbkookbmdgaaDoor
