/- The model's and the program's Room answer the same, at all arguments; nothing that was there turns. -/
import Derived.Test.YtnabnghjejncpaaRows
import Derived.WalkKit
import Derived.Test.YtnabnghjejncpaaListKit
import Derived.Test.YtnabnghjejncpaaHoldKit
import Derived.Test.YtnabnghjejncpaaIntKit
import Derived.Test.YtnabnghjejncpaaSlotKit
import Derived.Test.YtnabnghjejncpaaSampleKit
import Derived.Test.YtnabnghjejncpaaReqKit
import Derived.Test.YtnabnghjejncpaaCodelKit
import Derived.Test.YtnabnghjejncpaaAdmPure
import Derived.Test.YtnabnghjejncpaaLedCount
import Derived.Test.YtnabnghjejncpaaAdmSmallS
import Derived.Test.YtnabnghjejncpaaAdmRoomI
namespace Go.Proofs.Ytnabnghjejncpaa.AdmBothRoom
open Go.RowKit ListKit HoldKit
set_option linter.unusedVariables false
set_option maxRecDepth 8000
set_option maxHeartbeats 2000000 in
theorem both_room (pa0 : Int) (pa1 : Int) (pa2 : Int) (pa3 : Int) (pa4 : Int) (pa5 : Int) (pa6 : Int) (pa7 : Int) (pa8 : Int) (pa9 : Int) (pa10 : Int) (pa11 : Int) (pa12 : Int) (pa13 : Int) (pa14 : Int) (pa15 : Int) (pa16 : Int) (pa17 : Int) (pa18 : Int) (pa19 : Int) (pa20 : Int) (pa21 : Int) (pa22 : Int) (pa23 : Int) (paL24 : List SampleKit.Sample) (paL25 : List SlotKit.Slot) (pa26 : Int) (paL27 : List ReqKit.Req) (paL28 : List CodelKit.Codel) (pa29 : Int) (pa30 : Int) (pa31 : Int) (pa32 : Int) (paL33 : List Int) (pah24 : paL24.length ≤ 1048576) (pah25 : paL25.length ≤ 1048576) (pah27 : paL27.length ≤ 1048576) (pah28 : paL28.length ≤ 1048576) (pah33 : paL33.length ≤ 1048576) (hw : -9223372036854775808 ≤ pa20 ∧ pa20 ≤ 9223372036854775807) : ∃ (qa : Int),
    (∀ paA24 paC24 paA25 paC25 paA27 paC27 paA28 paC28 paA33 paC33 w, Own 170 2 SampleKit.cells w paA24 paL24 → paL24.length ≤ paC24 → Own 105 5 SlotKit.cells w paA25 paL25 → paL25.length ≤ paC25 → Own 161 6 ReqKit.cells w paA27 paL27 → paL27.length ≤ paC27 → Own 87 6 CodelKit.cells w paA28 paL28 → paL28.length ≤ paC28 → Own 3 1 IntKit.cells w paA33 paL33 → paL33.length ≤ paC33 → Calls Try.prog 29 #[.agg #[.int .i64 pa0, .int .i64 pa1, .int .i64 pa2, .int .i64 pa3, .int .i64 pa4, .int .i64 pa5, .int .i64 pa6, .int .i64 pa7, .int .i64 pa8, .int .i64 pa9, .int .i64 pa10, .int .i64 pa11, .int .i64 pa12, .int .i64 pa13, .int .i64 pa14, .int .i64 pa15, .int .i64 pa16, .int .i64 pa17, .int .i64 pa18, .int .i64 pa19, .int .i64 pa20, .int .i64 pa21, .int .i64 pa22, .int .i64 pa23, .slice paA24 paL24.length paC24, .slice paA25 paL25.length paC25, .int .i64 pa26, .slice paA27 paL27.length paC27, .slice paA28 paL28.length paC28, .int .i64 pa29, .int .i64 pa30, .int .i64 pa31, .int .i64 pa32, .slice paA33 paL33.length paC33]] w fun e w' => e = .returned (.int .i64 qa) ∧ Below w.heap.size w w') ∧
    (∀ paA24 paC24 paA25 paC25 paA27 paC27 paA28 paC28 paA33 paC33 w, Own 170 2 SampleKit.cells w paA24 paL24 → paL24.length ≤ paC24 → Own 105 5 SlotKit.cells w paA25 paL25 → paL25.length ≤ paC25 → Own 161 6 ReqKit.cells w paA27 paL27 → paL27.length ≤ paC27 → Own 87 6 CodelKit.cells w paA28 paL28 → paL28.length ≤ paC28 → Own 3 1 IntKit.cells w paA33 paL33 → paL33.length ≤ paC33 → Calls Try.prog 30 #[.agg #[.int .i64 pa0, .int .i64 pa1, .int .i64 pa2, .int .i64 pa3, .int .i64 pa4, .int .i64 pa5, .int .i64 pa6, .int .i64 pa7, .int .i64 pa8, .int .i64 pa9, .int .i64 pa10, .int .i64 pa11, .int .i64 pa12, .int .i64 pa13, .int .i64 pa14, .int .i64 pa15, .int .i64 pa16, .int .i64 pa17, .int .i64 pa18, .int .i64 pa19, .int .i64 pa20, .int .i64 pa21, .int .i64 pa22, .int .i64 pa23, .slice paA24 paL24.length paC24, .slice paA25 paL25.length paC25, .int .i64 pa26, .slice paA27 paL27.length paC27, .slice paA28 paL28.length paC28, .int .i64 pa29, .int .i64 pa30, .int .i64 pa31, .int .i64 pa32, .slice paA33 paL33.length paC33]] w fun e w' => e = .returned (.int .i64 qa) ∧ Below w.heap.size w w') := by
  refine ⟨AdmPure.roomI pa20 (LedCount.cnt LedCount.isUsed paL25 paL25.length : Int), fun paA24 paC24 paA25 paC25 paA27 paC27 paA28 paC28 paA33 paC33 w h24 hc24 h25 hc25 h27 hc27 h28 hc28 h33 hc33 => by
    obtain ⟨vs, hvs⟩ : ∃ vs : List Value, vs = [.int .i64 pa0, .int .i64 pa1, .int .i64 pa2, .int .i64 pa3, .int .i64 pa4, .int .i64 pa5, .int .i64 pa6, .int .i64 pa7, .int .i64 pa8, .int .i64 pa9, .int .i64 pa10, .int .i64 pa11, .int .i64 pa12, .int .i64 pa13, .int .i64 pa14, .int .i64 pa15, .int .i64 pa16, .int .i64 pa17, .int .i64 pa18, .int .i64 pa19, .int .i64 pa20, .int .i64 pa21, .int .i64 pa22, .int .i64 pa23, .slice paA24 paL24.length paC24, .slice paA25 paL25.length paC25, .int .i64 pa26, .slice paA27 paL27.length paC27, .slice paA28 paL28.length paC28, .int .i64 pa29, .int .i64 pa30, .int .i64 pa31, .int .i64 pa32, .slice paA33 paL33.length paC33] := ⟨_, rfl⟩
    have e20 : vs[20]? = some (.int .i64 pa20) := by rw [hvs]; rfl
    have e25 : vs[25]? = some (.slice paA25 paL25.length paC25) := by rw [hvs]; rfl
    have H := AdmSmallS.spec_room vs pa20 paA25 paC25 paL25 w hw e20 e25 h25 (by omega)
    rw [hvs] at H
    exact H, fun paA24 paC24 paA25 paC25 paA27 paC27 paA28 paC28 paA33 paC33 w h24 hc24 h25 hc25 h27 hc27 h28 hc28 h33 hc33 => AdmRoomI.impl_room pa0 pa1 pa2 pa3 pa4 pa5 pa6 pa7 pa8 pa9 pa10 pa11 pa12 pa13 pa14 pa15 pa16 pa17 pa18 pa19 pa20 pa21 pa22 pa23 pa26 pa29 pa30 pa31 pa32 paA24 paA25 paA27 paA28 paA33 paL24.length paC24 paL27.length paC27 paL28.length paC28 paL33.length paC33 paC25 paL25 w hw h25 (by omega)⟩
end Go.Proofs.Ytnabnghjejncpaa.AdmBothRoom
