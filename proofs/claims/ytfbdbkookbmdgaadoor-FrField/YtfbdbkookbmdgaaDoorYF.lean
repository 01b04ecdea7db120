/- Package fr answers as the document asks. -/
import Derived.Test.YtfbdbkookbmdgaaDoorFA
import Derived.Test.YtfbdbkookbmdgaaDoorYE
namespace Go.Proofs.YtfbdbkookbmdgaaDoor
open Go.RowKit

theorem frOk : FrOk Gl where
  stay := fun h b => h.stay b
  add := fun f g w _ rf rg lf lg => frAdd_any f g w rf rg lf lg
  sub := fun f g w _ rf rg lf lg => frSub_any f g w rf rg lf lg
  mul := fun f g w hg rf rg _ lg => frMul_any f g w hg rf rg lg
  neg := fun f w _ rf lf => frNeg_any f w rf lf
  of := fun x w _ hx => frOf_any x w hx
  inv0 := fun f w _ rf hz => frInv_zero f w rf hz
  inv := fun f w hg rf _ hz => frInv_any f w hg rf hz
  pow := fun f p n c g E w hg rf _ hn _ _ he rg hE => frPow_any f p n c g E w hg rf hn he rg hE
  may := fun f w _ rf => frMay_any f w rf
  r := fun w _ => frR_any w
  put := fun f w _ rf _ => frPut_any f w rf
  takeShort := fun p n c _ w _ _ _ _ hn => frTake_short p n c w hn
  takeLong := fun p n c _ w _ _ _ _ hn => frTake_long p n c w hn
  takeBig := fun p c g w _ hc _ h hg hl => frTake_big p c g w hc h hg hl
  take := fun p c g w _ hc _ h hg hl => frTake_ok p c g w hc h hg hl
  wide := fun p n c g w _ hn _ h hg hN => frWide_any p n c g w hn h hg hN
  rootOut := fun L w _ _ hL => frRoot_out L w hL
  root := fun L w hg hL => frRoot_any L w hg hL
end Go.Proofs.YtfbdbkookbmdgaaDoor
