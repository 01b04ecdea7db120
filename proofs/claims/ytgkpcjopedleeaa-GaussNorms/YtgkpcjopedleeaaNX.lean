/- GaussNorms's walk, over the landed package. -/
import Derived.Test.YtgkpcjopedleeaaNW
import Derived.Test.YtgkpcjopedleeaaGM
namespace Go.Proofs.Ytgkpcjopedleeaa
open Go.RowKit
theorem gaussNorms_all (a b c d : Int) (w : World) : Calls Try.prog 4 #[.int .i64 a, .int .i64 b, .int .i64 c, .int .i64 d] w fun e w' => e = .returned (.bool true) ∧ Below w.heap.size w w' := gaussNorms_at gaOk a b c d w
end Go.Proofs.Ytgkpcjopedleeaa
