/- OfTier of the model and of the program, with the same answer. -/
import Derived.Test.YtiodnkehfeigoaaRows
import Derived.WalkKit
import Derived.WalkSmall
import Derived.BigQuiet
import Derived.Deep.RegionWith
import Derived.Deep.DeepCutAuto
import Derived.Test.YtiodnkehfeigoaaListKit
import Derived.Test.YtiodnkehfeigoaaHoldKit
import Derived.Test.YtiodnkehfeigoaaReqKit
import Derived.Test.YtiodnkehfeigoaaIntKit
import Derived.Test.YtiodnkehfeigoaaQueMath
import Derived.Test.YtiodnkehfeigoaaQueTierS
import Derived.Test.YtiodnkehfeigoaaQueTierI
namespace Go.Proofs.Ytiodnkehfeigoaa.QueBothTier
open Go.RowKit ListKit HoldKit
set_option maxRecDepth 8000
set_option linter.unusedVariables false
set_option linter.unusedSimpArgs false
theorem both_oftier (x : Int) (L : List ReqKit.Req) (n : Int) (hw : (Lit.int .i64 n).wf = true) (h : L.length ≤ 1048576) : ∃ M : List ReqKit.Req,
    (∀ a c w, Own 39 6 ReqKit.cells w a L → L.length ≤ c → Calls Try.prog 26 #[.agg #[.int .i64 x, .slice a L.length c], .int .i64 n] w fun e w' => ∃ a2 c2, e = .returned (.slice a2 M.length c2) ∧ M.length ≤ c2 ∧ Holds w' w.heap.size [⟨a2, 39, 6, M.map ReqKit.cells⟩] ∧ Below w.heap.size w w') ∧
    (∀ a c w, Own 39 6 ReqKit.cells w a L → L.length ≤ c → Calls Try.prog 27 #[.agg #[.int .i64 x, .slice a L.length c], .int .i64 n] w fun e w' => ∃ a2 c2, e = .returned (.slice a2 M.length c2) ∧ M.length ≤ c2 ∧ Holds w' w.heap.size [⟨a2, 39, 6, M.map ReqKit.cells⟩] ∧ Below w.heap.size w w') ∧ M.length ≤ 1048577 := by
  obtain ⟨B, hB⟩ : ∃ B : Bool, B = true ↔ QueMath.QueOk x L := ⟨@decide _ (Classical.propDecidable _), @decide_eq_true_iff _ (Classical.propDecidable _)⟩
  exact ⟨QueTierS.tierOf L n B, fun a c w h1 hc => QueTierS.spec_oftier x a c L n B w h1 (by omega) hc hB, fun a c w h1 hc => QueTierI.impl_oftier x a c L n B w h1 (by omega) hc hw hB, Nat.le_trans (List.length_filter_le _ _) (by omega)⟩
end Go.Proofs.Ytiodnkehfeigoaa.QueBothTier
