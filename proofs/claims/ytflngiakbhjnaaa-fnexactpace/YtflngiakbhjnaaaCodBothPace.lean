/- The model's and the program's Pace answer the same, at all arguments; nothing that was there turns. -/
import Derived.Test.YtflngiakbhjnaaaRows
import Derived.WalkKit
import Derived.Test.YtflngiakbhjnaaaListKit
import Derived.Test.YtflngiakbhjnaaaHoldKit
import Derived.Test.YtflngiakbhjnaaaIntKit
import Derived.Test.YtflngiakbhjnaaaCodKit
import Derived.Test.YtflngiakbhjnaaaCodPaceS
import Derived.Test.YtflngiakbhjnaaaCodPaceI
namespace Go.Proofs.Ytflngiakbhjnaaa.CodBothPace
open Go.RowKit ListKit HoldKit CodKit
open CodPaceS CodPaceI
theorem both_pace (e c : Int) : ∃ q : Int,
    (∀ w, Calls Try.prog 14 #[.int .i64 e, .int .i64 c] w fun e w' => e = .returned (.int .i64 q) ∧ Below w.heap.size w w') ∧
    (∀ w, Calls Try.prog 15 #[.int .i64 e, .int .i64 c] w fun e w' => e = .returned (.int .i64 q) ∧ Below w.heap.size w w') :=
  ⟨pace e c, fun w => (spec_pace e c w).mono fun _ _ h => ⟨h.1, h.2 ▸ Below.refl _ _⟩, fun w => impl_pace e c w⟩
end Go.Proofs.Ytflngiakbhjnaaa.CodBothPace
