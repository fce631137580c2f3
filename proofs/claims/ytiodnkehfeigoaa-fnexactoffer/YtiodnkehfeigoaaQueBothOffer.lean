/- Offer of the model and of the program, with the same answer. -/
import Derived.Test.YtiodnkehfeigoaaRows
import Derived.WalkKit
import Derived.WalkSmall
import Derived.BigQuiet
import Derived.Deep.RegionWith
import Derived.Deep.DeepCutAuto
import Derived.Test.YtiodnkehfeigoaaListKit
import Derived.Test.YtiodnkehfeigoaaHoldKit
import Derived.Test.YtiodnkehfeigoaaReqKit
import Derived.Test.YtiodnkehfeigoaaIntKit
import Derived.Test.YtiodnkehfeigoaaQueMath
import Derived.Test.YtiodnkehfeigoaaQueOutS
import Derived.Test.YtiodnkehfeigoaaQueOfferS
import Derived.Test.YtiodnkehfeigoaaQueOfferI
namespace Go.Proofs.Ytiodnkehfeigoaa.QueBothOffer
open Go.RowKit ListKit HoldKit
set_option maxRecDepth 8000
set_option linter.unusedVariables false
set_option linter.unusedSimpArgs false
theorem both_offer (x : Int) (L : List ReqKit.Req) (r0 r1 r2 r3 r4 r5 : Int) (h : L.length ≤ 1048576) : ∃ (y : Int) (M : List ReqKit.Req) (s0 s1 s2 s3 s4 s5 : Int) (B : Bool),
    (∀ a c w, Own 39 6 ReqKit.cells w a L → L.length ≤ c → Calls Try.prog 20 #[.agg #[.int .i64 x, .slice a L.length c], .agg #[.int .i64 r0, .int .i64 r1, .int .i64 r2, .int .i64 r3, .int .i64 r4, .int .i64 r5]] w fun e w' => ∃ a2 c2, e = .returned (.tuple #[.agg #[.int .i64 y, .slice a2 M.length c2], .agg #[.int .i64 s0, .int .i64 s1, .int .i64 s2, .int .i64 s3, .int .i64 s4, .int .i64 s5], .bool B]) ∧ M.length ≤ c2 ∧ Holds w' w.heap.size [⟨a2, 39, 6, M.map ReqKit.cells⟩] ∧ Below w.heap.size w w') ∧
    (∀ a c w, Own 39 6 ReqKit.cells w a L → L.length ≤ c → Calls Try.prog 22 #[.agg #[.int .i64 x, .slice a L.length c], .agg #[.int .i64 r0, .int .i64 r1, .int .i64 r2, .int .i64 r3, .int .i64 r4, .int .i64 r5]] w fun e w' => ∃ a2 c2, e = .returned (.tuple #[.agg #[.int .i64 y, .slice a2 M.length c2], .agg #[.int .i64 s0, .int .i64 s1, .int .i64 s2, .int .i64 s3, .int .i64 s4, .int .i64 s5], .bool B]) ∧ M.length ≤ c2 ∧ Holds w' w.heap.size [⟨a2, 39, 6, M.map ReqKit.cells⟩] ∧ Below w.heap.size w w') ∧ M.length ≤ 1048577 := by
  obtain ⟨B, hB⟩ : ∃ B : Bool, B = true ↔ QueMath.QueOk x L := ⟨@decide _ (Classical.propDecidable _), @decide_eq_true_iff _ (Classical.propDecidable _)⟩
  obtain ⟨t, ht⟩ := QueMath.at_ex L r0
  obtain ⟨G, hG⟩ : ∃ G, QueOfferS.goes B t L ⟨r0, r1, r2, r3, r4, r5⟩ = G := ⟨_, rfl⟩
  obtain ⟨R, hR⟩ : ∃ R, QueOfferS.offR x L ⟨r0, r1, r2, r3, r4, r5⟩ G = R := ⟨_, rfl⟩
  refine ⟨(if G = true then x else 0), QueOfferS.offL x L ⟨r0, r1, r2, r3, r4, r5⟩ G, R.x0, R.x1, R.x2, R.x3, R.x4, R.x5, G, fun a c w h1 hc => ?_, fun a c w h1 hc => ?_, ?_⟩
  · have h9 := QueOfferS.spec_offer x a c L r0 r1 r2 r3 r4 r5 t B w h1 h hc hB ht
    rw [hG, hR] at h9
    exact h9
  · have h9 := QueOfferI.impl_offer x a c L r0 r1 r2 r3 r4 r5 t B w h1 h hc hB ht
    rw [hG, hR] at h9
    exact h9
  · unfold QueOfferS.offL
    split
    · split
      · rw [List.length_append, List.length_singleton]; omega
      · exact Nat.le_trans (QueOutS.out_len _ _ _) (by rw [List.length_append, List.length_singleton]; omega)
    · exact Nat.zero_le _
end Go.Proofs.Ytiodnkehfeigoaa.QueBothOffer
