/- What the law's number answers: a whole complex number out of two integers. -/
import Derived.Test.YtgkpcjopedleeaaGI
import Derived.Test.YtgkpcjopedleeaaMem
import Derived.Test.YtgkpcjopedleeaaChecked
import Derived.Deep.QuietTactic
import Derived.BigQuiet
import Derived.WalkLawsBesides
import Derived.Laws.AppendOwnNone
import Derived.Deep.RegionWith
namespace Go.Proofs.Ytgkpcjopedleeaa
open Go.RowKit
set_option linter.unusedVariables false

/-- A whole complex number. -/
def cx (x y : Int) : Value := .complex .f64 (fi x) (fi y)

theorem number_any (a b : Int) (w : World) : Calls Try.prog 9 #[.int .i64 a, .int .i64 b] w fun e w' => e = .returned (cx (Int.tmod a 500) (Int.tmod b 500)) ∧ w' = w := by
  go_enter Try.func9, Try.ntmps9
  go_wp2
  go_ret
  exact ⟨rfl, rfl⟩
end Go.Proofs.Ytgkpcjopedleeaa
