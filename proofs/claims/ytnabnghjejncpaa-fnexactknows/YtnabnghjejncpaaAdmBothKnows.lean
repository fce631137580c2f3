/- The model's and the program's Knows answer the same, at all arguments; nothing that was there turns. -/
import Derived.Test.YtnabnghjejncpaaRows
import Derived.WalkKit
import Derived.Test.YtnabnghjejncpaaListKit
import Derived.Test.YtnabnghjejncpaaHoldKit
import Derived.Test.YtnabnghjejncpaaIntKit
import Derived.Test.YtnabnghjejncpaaSlotKit
import Derived.Test.YtnabnghjejncpaaSampleKit
import Derived.Test.YtnabnghjejncpaaReqKit
import Derived.Test.YtnabnghjejncpaaCodelKit
import Derived.Test.YtnabnghjejncpaaAdmSmallS
import Derived.Test.YtnabnghjejncpaaAdmSmallI
namespace Go.Proofs.Ytnabnghjejncpaa.AdmBothKnows
open Go.RowKit ListKit HoldKit
set_option linter.unusedVariables false
set_option maxRecDepth 8000
set_option maxHeartbeats 2000000 in
theorem both_knows (pa0 : Int) (pa1 : Int) (pa2 : Int) (pa3 : Int) (pa4 : Int) (pa5 : Int) (pa6 : Int) (pa7 : Int) (pa8 : Int) (pa9 : Int) (pa10 : Int) (pa11 : Int) (pa12 : Int) (pa13 : Int) (pa14 : Int) (pa15 : Int) (pa16 : Int) (pa17 : Int) (pa18 : Int) (pa19 : Int) (pa20 : Int) (pa21 : Int) (pa22 : Int) (pa23 : Int) (paL24 : List SampleKit.Sample) (paL25 : List SlotKit.Slot) (pa26 : Int) (paL27 : List ReqKit.Req) (paL28 : List CodelKit.Codel) (pa29 : Int) (pa30 : Int) (pa31 : Int) (pa32 : Int) (paL33 : List Int) (i1 : Int) (pah24 : paL24.length ≤ 1048576) (pah25 : paL25.length ≤ 1048576) (pah27 : paL27.length ≤ 1048576) (pah28 : paL28.length ≤ 1048576) (pah33 : paL33.length ≤ 1048576)  : ∃ (qa : Bool),
    (∀ paA24 paC24 paA25 paC25 paA27 paC27 paA28 paC28 paA33 paC33 w, Own 170 2 SampleKit.cells w paA24 paL24 → paL24.length ≤ paC24 → Own 105 5 SlotKit.cells w paA25 paL25 → paL25.length ≤ paC25 → Own 161 6 ReqKit.cells w paA27 paL27 → paL27.length ≤ paC27 → Own 87 6 CodelKit.cells w paA28 paL28 → paL28.length ≤ paC28 → Own 3 1 IntKit.cells w paA33 paL33 → paL33.length ≤ paC33 → Calls Try.prog 26 #[.agg #[.int .i64 pa0, .int .i64 pa1, .int .i64 pa2, .int .i64 pa3, .int .i64 pa4, .int .i64 pa5, .int .i64 pa6, .int .i64 pa7, .int .i64 pa8, .int .i64 pa9, .int .i64 pa10, .int .i64 pa11, .int .i64 pa12, .int .i64 pa13, .int .i64 pa14, .int .i64 pa15, .int .i64 pa16, .int .i64 pa17, .int .i64 pa18, .int .i64 pa19, .int .i64 pa20, .int .i64 pa21, .int .i64 pa22, .int .i64 pa23, .slice paA24 paL24.length paC24, .slice paA25 paL25.length paC25, .int .i64 pa26, .slice paA27 paL27.length paC27, .slice paA28 paL28.length paC28, .int .i64 pa29, .int .i64 pa30, .int .i64 pa31, .int .i64 pa32, .slice paA33 paL33.length paC33], .int .i64 i1] w fun e w' => e = .returned (.bool qa) ∧ Below w.heap.size w w') ∧
    (∀ paA24 paC24 paA25 paC25 paA27 paC27 paA28 paC28 paA33 paC33 w, Own 170 2 SampleKit.cells w paA24 paL24 → paL24.length ≤ paC24 → Own 105 5 SlotKit.cells w paA25 paL25 → paL25.length ≤ paC25 → Own 161 6 ReqKit.cells w paA27 paL27 → paL27.length ≤ paC27 → Own 87 6 CodelKit.cells w paA28 paL28 → paL28.length ≤ paC28 → Own 3 1 IntKit.cells w paA33 paL33 → paL33.length ≤ paC33 → Calls Try.prog 28 #[.agg #[.int .i64 pa0, .int .i64 pa1, .int .i64 pa2, .int .i64 pa3, .int .i64 pa4, .int .i64 pa5, .int .i64 pa6, .int .i64 pa7, .int .i64 pa8, .int .i64 pa9, .int .i64 pa10, .int .i64 pa11, .int .i64 pa12, .int .i64 pa13, .int .i64 pa14, .int .i64 pa15, .int .i64 pa16, .int .i64 pa17, .int .i64 pa18, .int .i64 pa19, .int .i64 pa20, .int .i64 pa21, .int .i64 pa22, .int .i64 pa23, .slice paA24 paL24.length paC24, .slice paA25 paL25.length paC25, .int .i64 pa26, .slice paA27 paL27.length paC27, .slice paA28 paL28.length paC28, .int .i64 pa29, .int .i64 pa30, .int .i64 pa31, .int .i64 pa32, .slice paA33 paL33.length paC33], .int .i64 i1] w fun e w' => e = .returned (.bool qa) ∧ Below w.heap.size w w') := by
  obtain ⟨B, hB⟩ : ∃ B : Bool, (B = true ↔ i1 ∈ paL33) := ⟨decide (i1 ∈ paL33), by simp⟩
  refine ⟨B, fun paA24 paC24 paA25 paC25 paA27 paC27 paA28 paC28 paA33 paC33 w h24 hc24 h25 hc25 h27 hc27 h28 hc28 h33 hc33 => by
    obtain ⟨vs, hvs⟩ : ∃ vs : List Value, vs = [.int .i64 pa0, .int .i64 pa1, .int .i64 pa2, .int .i64 pa3, .int .i64 pa4, .int .i64 pa5, .int .i64 pa6, .int .i64 pa7, .int .i64 pa8, .int .i64 pa9, .int .i64 pa10, .int .i64 pa11, .int .i64 pa12, .int .i64 pa13, .int .i64 pa14, .int .i64 pa15, .int .i64 pa16, .int .i64 pa17, .int .i64 pa18, .int .i64 pa19, .int .i64 pa20, .int .i64 pa21, .int .i64 pa22, .int .i64 pa23, .slice paA24 paL24.length paC24, .slice paA25 paL25.length paC25, .int .i64 pa26, .slice paA27 paL27.length paC27, .slice paA28 paL28.length paC28, .int .i64 pa29, .int .i64 pa30, .int .i64 pa31, .int .i64 pa32, .slice paA33 paL33.length paC33] := ⟨_, rfl⟩
    have e33 : vs[33]? = some (.slice paA33 paL33.length paC33) := by rw [hvs]; rfl
    have H := AdmSmallS.spec_knows vs paA33 paC33 paL33 i1 B w e33 h33 (by omega) hB
    rw [hvs] at H
    exact H, fun paA24 paC24 paA25 paC25 paA27 paC27 paA28 paC28 paA33 paC33 w h24 hc24 h25 hc25 h27 hc27 h28 hc28 h33 hc33 => by
    obtain ⟨vs, hvs⟩ : ∃ vs : List Value, vs = [.int .i64 pa0, .int .i64 pa1, .int .i64 pa2, .int .i64 pa3, .int .i64 pa4, .int .i64 pa5, .int .i64 pa6, .int .i64 pa7, .int .i64 pa8, .int .i64 pa9, .int .i64 pa10, .int .i64 pa11, .int .i64 pa12, .int .i64 pa13, .int .i64 pa14, .int .i64 pa15, .int .i64 pa16, .int .i64 pa17, .int .i64 pa18, .int .i64 pa19, .int .i64 pa20, .int .i64 pa21, .int .i64 pa22, .int .i64 pa23, .slice paA24 paL24.length paC24, .slice paA25 paL25.length paC25, .int .i64 pa26, .slice paA27 paL27.length paC27, .slice paA28 paL28.length paC28, .int .i64 pa29, .int .i64 pa30, .int .i64 pa31, .int .i64 pa32, .slice paA33 paL33.length paC33] := ⟨_, rfl⟩
    have e33 : vs[33]? = some (.slice paA33 paL33.length paC33) := by rw [hvs]; rfl
    have H := AdmSmallI.impl_knows vs paA33 paC33 paL33 i1 B w e33 h33 (by omega) hB
    rw [hvs] at H
    exact H⟩
end Go.Proofs.Ytnabnghjejncpaa.AdmBothKnows
