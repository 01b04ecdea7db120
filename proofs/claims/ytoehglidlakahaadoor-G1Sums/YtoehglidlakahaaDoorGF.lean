/- IA IC. -/
import Derived.Test.YtoehglidlakahaaDoorGE
/- Package fp2: sums, products and what is made of them. -/
namespace Go.Proofs.YtoehglidlakahaaDoor.fpn
open Go.RowKit Pl
set_option linter.unusedVariables false
set_option linter.unusedSimpArgs false
set_option maxRecDepth 4000

end Go.Proofs.YtoehglidlakahaaDoor.fpn

/- Package fp2: roots. -/
namespace Go.Proofs.YtoehglidlakahaaDoor.fpn
open Go.RowKit Pl
set_option linter.unusedVariables false
set_option linter.unusedSimpArgs false
set_option maxRecDepth 4000

/-- 1 / 2. -/
def hf : F := ⟨(RN + 1) / 2, by decide +kernel⟩
end Go.Proofs.YtoehglidlakahaaDoor.fpn
