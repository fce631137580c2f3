/- First of the model and of the program, with the same answer. -/
import Derived.Test.YtiodnkehfeigoaaRows
import Derived.WalkKit
import Derived.WalkSmall
import Derived.BigQuiet
import Derived.Deep.RegionWith
import Derived.Deep.DeepCutAuto
import Derived.Test.YtiodnkehfeigoaaListKit
import Derived.Test.YtiodnkehfeigoaaHoldKit
import Derived.Test.YtiodnkehfeigoaaReqKit
import Derived.Test.YtiodnkehfeigoaaIntKit
import Derived.Test.YtiodnkehfeigoaaQueMath
import Derived.Test.YtiodnkehfeigoaaQueFirstS
import Derived.Test.YtiodnkehfeigoaaQueFirstI
namespace Go.Proofs.Ytiodnkehfeigoaa.QueBothFirst
open Go.RowKit ListKit HoldKit
set_option maxRecDepth 8000
set_option linter.unusedVariables false
set_option linter.unusedSimpArgs false
theorem both_first (x : Int) (L : List ReqKit.Req) (fl : List Int) (n : Int) (hf : ∀ (k : Nat) (h : k < fl.length), (Lit.int .i64 fl[k]).wf = true) (h : L.length ≤ 1048576) (h2 : fl.length ≤ 1048576) : ∃ (s0 s1 s2 s3 s4 s5 : Int) (B : Bool),
    (∀ a c b d w, Own 39 6 ReqKit.cells w a L → L.length ≤ c → Own 3 1 IntKit.cells w b fl → fl.length ≤ d → Calls Try.prog 35 #[.agg #[.int .i64 x, .slice a L.length c], .slice b fl.length d, .int .i64 n] w fun e w' => e = .returned (.tuple #[.agg #[.int .i64 s0, .int .i64 s1, .int .i64 s2, .int .i64 s3, .int .i64 s4, .int .i64 s5], .bool B]) ∧ Below w.heap.size w w') ∧
    (∀ a c b d w, Own 39 6 ReqKit.cells w a L → L.length ≤ c → Own 3 1 IntKit.cells w b fl → fl.length ≤ d → Calls Try.prog 37 #[.agg #[.int .i64 x, .slice a L.length c], .slice b fl.length d, .int .i64 n] w fun e w' => e = .returned (.tuple #[.agg #[.int .i64 s0, .int .i64 s1, .int .i64 s2, .int .i64 s3, .int .i64 s4, .int .i64 s5], .bool B]) ∧ Below w.heap.size w w') := by
  obtain ⟨B, hB⟩ : ∃ B : Bool, B = true ↔ QueMath.QueOk x L := ⟨@decide _ (Classical.propDecidable _), @decide_eq_true_iff _ (Classical.propDecidable _)⟩
  obtain ⟨R, hR⟩ : ∃ R, QueFirstS.firstOf L B fl n = R := ⟨_, rfl⟩
  refine ⟨(R.getD ReqKit.zero).x0, (R.getD ReqKit.zero).x1, (R.getD ReqKit.zero).x2, (R.getD ReqKit.zero).x3, (R.getD ReqKit.zero).x4, (R.getD ReqKit.zero).x5, R.isSome, fun a c b d w h1 hc h3 hd => ?_, fun a c b d w h1 hc h3 hd => ?_⟩
  · have h9 := QueFirstS.spec_first x a c L b d fl n B w h1 (by omega) hc h3 (by omega) hd hB
    rw [hR] at h9
    exact h9
  · have h9 := QueFirstI.impl_first x a c L b d fl n B w h1 (by omega) hc h3 (by omega) hd hf hB
    rw [hR] at h9
    exact h9
end Go.Proofs.Ytiodnkehfeigoaa.QueBothFirst
