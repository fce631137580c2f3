/- Pull of the model and of the program, with the same answer. -/
import Derived.Test.YtiodnkehfeigoaaRows
import Derived.WalkKit
import Derived.WalkSmall
import Derived.BigQuiet
import Derived.Deep.RegionWith
import Derived.Deep.DeepCutAuto
import Derived.Test.YtiodnkehfeigoaaListKit
import Derived.Test.YtiodnkehfeigoaaHoldKit
import Derived.Test.YtiodnkehfeigoaaReqKit
import Derived.Test.YtiodnkehfeigoaaIntKit
import Derived.Test.YtiodnkehfeigoaaQueMath
import Derived.Test.YtiodnkehfeigoaaQueOutS
import Derived.Test.YtiodnkehfeigoaaQuePullS
import Derived.Test.YtiodnkehfeigoaaQuePullI
namespace Go.Proofs.Ytiodnkehfeigoaa.QueBothPull
open Go.RowKit ListKit HoldKit
set_option maxRecDepth 8000
set_option linter.unusedVariables false
set_option linter.unusedSimpArgs false
theorem both_pull (x : Int) (L : List ReqKit.Req) (n : Int) (h : L.length ≤ 1048576) : ∃ (y : Int) (M : List ReqKit.Req) (s0 s1 s2 s3 s4 s5 : Int) (B : Bool),
    (∀ a c w, Own 39 6 ReqKit.cells w a L → L.length ≤ c → Calls Try.prog 24 #[.agg #[.int .i64 x, .slice a L.length c], .int .i64 n] w fun e w' => ∃ a2 c2, e = .returned (.tuple #[.agg #[.int .i64 y, .slice a2 M.length c2], .agg #[.int .i64 s0, .int .i64 s1, .int .i64 s2, .int .i64 s3, .int .i64 s4, .int .i64 s5], .bool B]) ∧ M.length ≤ c2 ∧ Holds w' w.heap.size [⟨a2, 39, 6, M.map ReqKit.cells⟩] ∧ Below w.heap.size w w') ∧
    (∀ a c w, Own 39 6 ReqKit.cells w a L → L.length ≤ c → Calls Try.prog 25 #[.agg #[.int .i64 x, .slice a L.length c], .int .i64 n] w fun e w' => ∃ a2 c2, e = .returned (.tuple #[.agg #[.int .i64 y, .slice a2 M.length c2], .agg #[.int .i64 s0, .int .i64 s1, .int .i64 s2, .int .i64 s3, .int .i64 s4, .int .i64 s5], .bool B]) ∧ M.length ≤ c2 ∧ Holds w' w.heap.size [⟨a2, 39, 6, M.map ReqKit.cells⟩] ∧ Below w.heap.size w w') ∧ M.length ≤ 1048577 := by
  obtain ⟨B, hB⟩ : ∃ B : Bool, B = true ↔ QueMath.QueOk x L := ⟨@decide _ (Classical.propDecidable _), @decide_eq_true_iff _ (Classical.propDecidable _)⟩
  obtain ⟨r, hr⟩ := QueMath.at_ex L n
  refine ⟨(if B = true then x else 0), QuePullS.pullL L r B, (QuePullS.pullR L r B).x0, (QuePullS.pullR L r B).x1, (QuePullS.pullR L r B).x2, (QuePullS.pullR L r B).x3, (QuePullS.pullR L r B).x4, (QuePullS.pullR L r B).x5, (B && decide (0 ≤ r)), fun a c w h1 hc => QuePullS.spec_pull x a c L n r B w h1 (by omega) hc hB hr, fun a c w h1 hc => QuePullI.impl_pull x a c L n r B w h1 (by omega) hc hB hr, ?_⟩
  unfold QuePullS.pullL
  split
  · split
    · omega
    · exact Nat.le_trans (QueOutS.out_len L r L.length) (by omega)
  · exact Nat.zero_le _
end Go.Proofs.Ytiodnkehfeigoaa.QueBothPull
