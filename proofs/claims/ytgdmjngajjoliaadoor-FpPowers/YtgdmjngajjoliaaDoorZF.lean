/- Package fp answers as the document asks. -/
import Derived.Test.YtgdmjngajjoliaaDoorSA
import Derived.Test.YtgdmjngajjoliaaDoorZE
import Derived.Test.YtgdmjngajjoliaaDoorZG
namespace Go.Proofs.YtgdmjngajjoliaaDoor.fpn
open Go.RowKit

theorem fpOk : FpOk Gl where
  stay := fun h b => h.stay b
  add := fun f g w _ rf rg lf lg => frAdd_any f g w rf rg lf lg
  sub := fun f g w _ rf rg lf lg => frSub_any f g w rf rg lf lg
  mul := fun f g w hg rf rg _ _ => frMul_any f g w hg rf rg
  neg := fun f w _ rf lf => frNeg_any f w rf lf
  of := fun x w _ hx => frOf_any x w hx
  inv0 := fun f w _ rf hz => frInv_zero f w rf hz
  inv := fun f w hg rf _ hz => frInv_any f w hg rf hz
  pow := fun f p n c g E w hg rf _ hn _ _ he rg hE => frPow_any f p n c g E w hg rf hn he rg hE
  may := fun f w _ rf => frMay_any f w rf
  great := fun f w hg rf _ => frGreat_any f w hg rf
  sqrtNo := fun f w hg rf lf hn => frSqrt_no f w hg rf lf hn
  sqrtYes := fun f w hg rf lf hn => frSqrt_yes f w hg rf lf hn
  r := fun w _ => frR_any w
  put := fun f w _ rf _ => frPut_any f w rf
  takeShort := fun p n c _ w _ _ _ _ hn => frTake_short p n c w hn
  takeLong := fun p n c _ w _ _ _ _ hn => frTake_long p n c w hn
  takeBig := fun p c g w _ hc _ h hg hl => frTake_big p c g w hc h hg hl
  take := fun p c g w _ hc _ h hg hl => frTake_ok p c g w hc h hg hl
end Go.Proofs.YtgdmjngajjoliaaDoor.fpn
