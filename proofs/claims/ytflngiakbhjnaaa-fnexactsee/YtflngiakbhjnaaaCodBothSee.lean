/- The model's and the program's See answer the same, at all arguments; nothing that was there turns. -/
import Derived.Test.YtflngiakbhjnaaaRows
import Derived.WalkKit
import Derived.Test.YtflngiakbhjnaaaListKit
import Derived.Test.YtflngiakbhjnaaaHoldKit
import Derived.Test.YtflngiakbhjnaaaIntKit
import Derived.Test.YtflngiakbhjnaaaCodKit
import Derived.Test.YtflngiakbhjnaaaCodSeeS
import Derived.Test.YtflngiakbhjnaaaCodSeeI
namespace Go.Proofs.Ytflngiakbhjnaaa.CodBothSee
open Go.RowKit ListKit HoldKit CodKit
open CodSeeS CodSeeI
theorem both_see (x0 x1 x2 : Int) (x3 : Bool) (x4 x5 : Int) (now wt : Int) : ∃ (q0 q1 q2 : Int) (q3 : Bool) (q4 q5 : Int) (B : Bool),
    (∀ w, Calls Try.prog 16 #[.agg #[.int .i64 x0, .int .i64 x1, .int .i64 x2, .bool x3, .int .i64 x4, .int .i64 x5], .int .i64 now, .int .i64 wt] w fun e w' => e = .returned (.tuple #[.agg #[.int .i64 q0, .int .i64 q1, .int .i64 q2, .bool q3, .int .i64 q4, .int .i64 q5], .bool B]) ∧ Below w.heap.size w w') ∧
    (∀ w, Calls Try.prog 17 #[.agg #[.int .i64 x0, .int .i64 x1, .int .i64 x2, .bool x3, .int .i64 x4, .int .i64 x5], .int .i64 now, .int .i64 wt] w fun e w' => e = .returned (.tuple #[.agg #[.int .i64 q0, .int .i64 q1, .int .i64 q2, .bool q3, .int .i64 q4, .int .i64 q5], .bool B]) ∧ Below w.heap.size w w') := by
  obtain ⟨⟨q0, q1, q2, q3, q4, q5⟩, hq⟩ : ∃ q, (if seeOk ⟨x0, x1, x2, x3, x4, x5⟩ now wt = true then (see ⟨x0, x1, x2, x3, x4, x5⟩ now wt).1 else zero) = q := ⟨_, rfl⟩
  have hS := fun w => spec_see x0 x1 x2 x3 x4 x5 now wt w
  have hI := fun w => impl_see x0 x1 x2 x3 x4 x5 now wt w
  rw [hq] at hS hI
  exact ⟨q0, q1, q2, q3, q4, q5, _, hS, hI⟩
end Go.Proofs.Ytflngiakbhjnaaa.CodBothSee
