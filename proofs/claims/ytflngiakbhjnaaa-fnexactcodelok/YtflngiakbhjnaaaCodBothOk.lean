/- The model's and the program's CodelOk answer the same, at all arguments; nothing that was there turns. -/
import Derived.Test.YtflngiakbhjnaaaRows
import Derived.WalkKit
import Derived.Test.YtflngiakbhjnaaaListKit
import Derived.Test.YtflngiakbhjnaaaHoldKit
import Derived.Test.YtflngiakbhjnaaaIntKit
import Derived.Test.YtflngiakbhjnaaaCodKit
import Derived.Test.YtflngiakbhjnaaaCodOks
import Derived.Test.YtflngiakbhjnaaaCodOkI
namespace Go.Proofs.Ytflngiakbhjnaaa.CodBothOk
open Go.RowKit ListKit HoldKit CodKit
open CodOks CodOkI
theorem both_codelok (x0 x1 x2 : Int) (x3 : Bool) (x4 x5 : Int) : ∃ B : Bool,
    (∀ w, Calls Try.prog 8 #[.agg #[.int .i64 x0, .int .i64 x1, .int .i64 x2, .bool x3, .int .i64 x4, .int .i64 x5]] w fun e w' => e = .returned (.bool B) ∧ Below w.heap.size w w') ∧
    (∀ w, Calls Try.prog 10 #[.agg #[.int .i64 x0, .int .i64 x1, .int .i64 x2, .bool x3, .int .i64 x4, .int .i64 x5]] w fun e w' => e = .returned (.bool B) ∧ Below w.heap.size w w') :=
  ⟨codOk ⟨x0, x1, x2, x3, x4, x5⟩, fun w => spec_codelok x0 x1 x2 x3 x4 x5 w, fun w => impl_codelok x0 x1 x2 x3 x4 x5 w⟩
end Go.Proofs.Ytflngiakbhjnaaa.CodBothOk
