/- The model's and the program's CodelNew answer the same, at all arguments; nothing that was there turns. -/
import Derived.Test.YtflngiakbhjnaaaRows
import Derived.WalkKit
import Derived.Test.YtflngiakbhjnaaaListKit
import Derived.Test.YtflngiakbhjnaaaHoldKit
import Derived.Test.YtflngiakbhjnaaaIntKit
import Derived.Test.YtflngiakbhjnaaaCodKit
import Derived.Test.YtflngiakbhjnaaaCodSeeS
import Derived.Test.YtflngiakbhjnaaaCodSeeI
namespace Go.Proofs.Ytflngiakbhjnaaa.CodBothNew
open Go.RowKit ListKit HoldKit CodKit
open CodSeeS CodSeeI
theorem both_codelnew (t v : Int) : ∃ (q0 q1 q2 : Int) (q3 : Bool) (q4 q5 : Int) (B : Bool),
    (∀ w, Calls Try.prog 11 #[.int .i64 t, .int .i64 v] w fun e w' => e = .returned (.tuple #[.agg #[.int .i64 q0, .int .i64 q1, .int .i64 q2, .bool q3, .int .i64 q4, .int .i64 q5], .bool B]) ∧ Below w.heap.size w w') ∧
    (∀ w, Calls Try.prog 12 #[.int .i64 t, .int .i64 v] w fun e w' => e = .returned (.tuple #[.agg #[.int .i64 q0, .int .i64 q1, .int .i64 q2, .bool q3, .int .i64 q4, .int .i64 q5], .bool B]) ∧ Below w.heap.size w w') := by
  obtain ⟨⟨q0, q1, q2, q3, q4, q5⟩, hq⟩ : ∃ q, (if newOk t v = true then (⟨t, v, 0, false, 0, 0⟩ : Cod) else zero) = q := ⟨_, rfl⟩
  have hS := fun w => spec_codelnew t v w
  have hI := fun w => impl_codelnew t v w
  rw [hq] at hS hI
  exact ⟨q0, q1, q2, q3, q4, q5, newOk t v, hS, hI⟩
end Go.Proofs.Ytflngiakbhjnaaa.CodBothNew
