/- Heads of the model and of the program, with the same answer. -/
import Derived.Test.YtiodnkehfeigoaaRows
import Derived.WalkKit
import Derived.WalkSmall
import Derived.BigQuiet
import Derived.Deep.RegionWith
import Derived.Deep.DeepCutAuto
import Derived.Test.YtiodnkehfeigoaaListKit
import Derived.Test.YtiodnkehfeigoaaHoldKit
import Derived.Test.YtiodnkehfeigoaaReqKit
import Derived.Test.YtiodnkehfeigoaaIntKit
import Derived.Test.YtiodnkehfeigoaaQueMath
import Derived.Test.YtiodnkehfeigoaaQueHeadS
import Derived.Test.YtiodnkehfeigoaaQueHeadI
namespace Go.Proofs.Ytiodnkehfeigoaa.QueBothHeads
open Go.RowKit ListKit HoldKit
set_option maxRecDepth 8000
set_option linter.unusedVariables false
set_option linter.unusedSimpArgs false
theorem both_heads (x : Int) (L : List ReqKit.Req) (h : L.length ≤ 1048576) : ∃ (M : List ReqKit.Req),
    (∀ a c w, Own 39 6 ReqKit.cells w a L → L.length ≤ c → Calls Try.prog 31 #[.agg #[.int .i64 x, .slice a L.length c]] w fun e w' => ∃ a2 c2, e = .returned (.slice a2 M.length c2) ∧ M.length ≤ c2 ∧ Holds w' w.heap.size [⟨a2, 39, 6, M.map ReqKit.cells⟩] ∧ Below w.heap.size w w') ∧
    (∀ a c w, Own 39 6 ReqKit.cells w a L → L.length ≤ c → Calls Try.prog 32 #[.agg #[.int .i64 x, .slice a L.length c]] w fun e w' => ∃ a2 c2, e = .returned (.slice a2 M.length c2) ∧ M.length ≤ c2 ∧ Holds w' w.heap.size [⟨a2, 39, 6, M.map ReqKit.cells⟩] ∧ Below w.heap.size w w') ∧ M.length ≤ 1048577 := by
  obtain ⟨B, hB⟩ : ∃ B : Bool, B = true ↔ QueMath.QueOk x L := ⟨@decide _ (Classical.propDecidable _), @decide_eq_true_iff _ (Classical.propDecidable _)⟩
  exact ⟨QueHeadS.headsTo L B 4, fun a c w h1 hc => QueHeadS.spec_heads x a c L B w h1 (by omega) hc hB, fun a c w h1 hc => QueHeadI.impl_heads x a c L B w h1 (by omega) hc hB, Nat.le_trans (QueHeadS.heads_len L B 4) (by omega)⟩
end Go.Proofs.Ytiodnkehfeigoaa.QueBothHeads
