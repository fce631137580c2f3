/- QueueNew of the model and of the program, with the same answer. -/
import Derived.Test.YtiodnkehfeigoaaRows
import Derived.WalkKit
import Derived.WalkSmall
import Derived.BigQuiet
import Derived.Deep.RegionWith
import Derived.Deep.DeepCutAuto
import Derived.Test.YtiodnkehfeigoaaListKit
import Derived.Test.YtiodnkehfeigoaaHoldKit
import Derived.Test.YtiodnkehfeigoaaReqKit
import Derived.Test.YtiodnkehfeigoaaIntKit
import Derived.Test.YtiodnkehfeigoaaQueMath
import Derived.Test.YtiodnkehfeigoaaQueMiscS
import Derived.Test.YtiodnkehfeigoaaQueNewI
namespace Go.Proofs.Ytiodnkehfeigoaa.QueBothNew
open Go.RowKit ListKit HoldKit
set_option maxRecDepth 8000
set_option linter.unusedVariables false
set_option linter.unusedSimpArgs false
theorem both_queuenew (n : Int)  : ∃ (y : Int) (M : List ReqKit.Req) (B : Bool),
    (∀ w, Calls Try.prog 16 #[.int .i64 n] w fun e w' => ∃ a2 c2, e = .returned (.tuple #[.agg #[.int .i64 y, .slice a2 M.length c2], .bool B]) ∧ M.length ≤ c2 ∧ Holds w' w.heap.size [⟨a2, 39, 6, M.map ReqKit.cells⟩] ∧ Below w.heap.size w w') ∧
    (∀ w, Calls Try.prog 17 #[.int .i64 n] w fun e w' => ∃ a2 c2, e = .returned (.tuple #[.agg #[.int .i64 y, .slice a2 M.length c2], .bool B]) ∧ M.length ≤ c2 ∧ Holds w' w.heap.size [⟨a2, 39, 6, M.map ReqKit.cells⟩] ∧ Below w.heap.size w w') ∧ M.length ≤ 1048577 := by
  exact ⟨QueMiscS.newRoom n, [], QueMiscS.roomOk n, fun w => QueMiscS.spec_queuenew n w, fun w => QueNewI.impl_queuenew n w, by simp⟩
end Go.Proofs.Ytiodnkehfeigoaa.QueBothNew
