/- QueueOk of the model and of the program, with the same answer. -/
import Derived.Test.YtiodnkehfeigoaaRows
import Derived.WalkKit
import Derived.WalkSmall
import Derived.BigQuiet
import Derived.Deep.RegionWith
import Derived.Deep.DeepCutAuto
import Derived.Test.YtiodnkehfeigoaaListKit
import Derived.Test.YtiodnkehfeigoaaHoldKit
import Derived.Test.YtiodnkehfeigoaaReqKit
import Derived.Test.YtiodnkehfeigoaaIntKit
import Derived.Test.YtiodnkehfeigoaaQueMath
import Derived.Test.YtiodnkehfeigoaaQueOkS
import Derived.Test.YtiodnkehfeigoaaQueStandI
namespace Go.Proofs.Ytiodnkehfeigoaa.QueBothOk
open Go.RowKit ListKit HoldKit
set_option maxRecDepth 8000
set_option linter.unusedVariables false
set_option linter.unusedSimpArgs false
theorem both_queueok (x : Int) (L : List ReqKit.Req) (h : L.length ≤ 1048576) : ∃ B : Bool,
    (∀ a c w, Own 39 6 ReqKit.cells w a L → L.length ≤ c → Calls Try.prog 12 #[.agg #[.int .i64 x, .slice a L.length c]] w fun e w' => e = .returned (.bool B) ∧ Below w.heap.size w w') ∧
    (∀ a c w, Own 39 6 ReqKit.cells w a L → L.length ≤ c → Calls Try.prog 14 #[.agg #[.int .i64 x, .slice a L.length c]] w fun e w' => e = .returned (.bool B) ∧ Below w.heap.size w w') := by
  obtain ⟨B, hB⟩ : ∃ B : Bool, B = true ↔ QueMath.QueOk x L := ⟨@decide _ (Classical.propDecidable _), @decide_eq_true_iff _ (Classical.propDecidable _)⟩
  exact ⟨B, fun a c w h1 hc => QueOkS.spec_queueok x a c L B w h1 (by omega) hc hB, fun a c w h1 hc => QueStandI.impl_queueok x a c L B w h1 (by omega) hc hB⟩
end Go.Proofs.Ytiodnkehfeigoaa.QueBothOk
