/- The model's and the program's AdmOk answer the same, at all machines; nothing that was there turns. -/
import Derived.Test.YtnabnghjejncpaaGreatRows
import Derived.WalkKit
import Derived.Test.YtnabnghjejncpaaGreatListKit
import Derived.Test.YtnabnghjejncpaaGreatHoldKit
import Derived.Test.YtnabnghjejncpaaGreatIntKit
import Derived.Test.YtnabnghjejncpaaGreatSlotKit
import Derived.Test.YtnabnghjejncpaaGreatSampleKit
import Derived.Test.YtnabnghjejncpaaGreatReqKit
import Derived.Test.YtnabnghjejncpaaGreatCodelKit
import Derived.Test.YtnabnghjejncpaaGreatAdmOkS
import Derived.Test.YtnabnghjejncpaaGreatAdmOkI
import Derived.Test.YtnabnghjejncpaaGreatAdmEqP
namespace Go.Proofs.YtnabnghjejncpaaGreat.AdmBothOk
open Go.RowKit ListKit HoldKit
set_option linter.unusedVariables false
set_option maxHeartbeats 2000000 in
theorem both_admok (pa0 : Int) (pa1 : Int) (pa2 : Int) (pa3 : Int) (pa4 : Int) (pa5 : Int) (pa6 : Int) (pa7 : Int) (pa8 : Int) (pa9 : Int) (pa10 : Int) (pa11 : Int) (pa12 : Int) (pa13 : Int) (pa14 : Int) (pa15 : Int) (pa16 : Int) (pa17 : Int) (pa18 : Int) (pa19 : Int) (pa20 : Int) (pa21 : Int) (pa22 : Int) (pa23 : Int) (paL24 : List SampleKit.Sample) (paL25 : List SlotKit.Slot) (pa26 : Int) (paL27 : List ReqKit.Req) (paL28 : List CodelKit.Codel) (pa29 : Int) (pa30 : Int) (pa31 : Int) (pa32 : Int) (paL33 : List Int) (pah24 : paL24.length ≤ 1048576) (pah25 : paL25.length ≤ 1048576) (pah27 : paL27.length ≤ 1048576) (pah28 : paL28.length ≤ 1048576) (pah33 : paL33.length ≤ 1048576) : ∃ (qa : Bool),
    (∀ paA24 paC24 paA25 paC25 paA27 paC27 paA28 paC28 paA33 paC33 w, Own 155 2 SampleKit.cells w paA24 paL24 → paL24.length ≤ paC24 → Own 75 5 SlotKit.cells w paA25 paL25 → paL25.length ≤ paC25 → Own 72 6 ReqKit.cells w paA27 paL27 → paL27.length ≤ paC27 → Own 106 6 CodelKit.cells w paA28 paL28 → paL28.length ≤ paC28 → Own 3 1 IntKit.cells w paA33 paL33 → paL33.length ≤ paC33 → Calls Tryz.prog 5 #[.agg #[.int .i64 pa0, .int .i64 pa1, .int .i64 pa2, .int .i64 pa3, .int .i64 pa4, .int .i64 pa5, .int .i64 pa6, .int .i64 pa7, .int .i64 pa8, .int .i64 pa9, .int .i64 pa10, .int .i64 pa11, .int .i64 pa12, .int .i64 pa13, .int .i64 pa14, .int .i64 pa15, .int .i64 pa16, .int .i64 pa17, .int .i64 pa18, .int .i64 pa19, .int .i64 pa20, .int .i64 pa21, .int .i64 pa22, .int .i64 pa23, .slice paA24 paL24.length paC24, .slice paA25 paL25.length paC25, .int .i64 pa26, .slice paA27 paL27.length paC27, .slice paA28 paL28.length paC28, .int .i64 pa29, .int .i64 pa30, .int .i64 pa31, .int .i64 pa32, .slice paA33 paL33.length paC33]] w fun e w' => e = .returned (.bool qa) ∧ Below w.heap.size w w') ∧
    (∀ paA24 paC24 paA25 paC25 paA27 paC27 paA28 paC28 paA33 paC33 w, Own 155 2 SampleKit.cells w paA24 paL24 → paL24.length ≤ paC24 → Own 75 5 SlotKit.cells w paA25 paL25 → paL25.length ≤ paC25 → Own 72 6 ReqKit.cells w paA27 paL27 → paL27.length ≤ paC27 → Own 106 6 CodelKit.cells w paA28 paL28 → paL28.length ≤ paC28 → Own 3 1 IntKit.cells w paA33 paL33 → paL33.length ≤ paC33 → Calls Tryz.prog 7 #[.agg #[.int .i64 pa0, .int .i64 pa1, .int .i64 pa2, .int .i64 pa3, .int .i64 pa4, .int .i64 pa5, .int .i64 pa6, .int .i64 pa7, .int .i64 pa8, .int .i64 pa9, .int .i64 pa10, .int .i64 pa11, .int .i64 pa12, .int .i64 pa13, .int .i64 pa14, .int .i64 pa15, .int .i64 pa16, .int .i64 pa17, .int .i64 pa18, .int .i64 pa19, .int .i64 pa20, .int .i64 pa21, .int .i64 pa22, .int .i64 pa23, .slice paA24 paL24.length paC24, .slice paA25 paL25.length paC25, .int .i64 pa26, .slice paA27 paL27.length paC27, .slice paA28 paL28.length paC28, .int .i64 pa29, .int .i64 pa30, .int .i64 pa31, .int .i64 pa32, .slice paA33 paL33.length paC33]] w fun e w' => e = .returned (.bool qa) ∧ Below w.heap.size w w') := by
  obtain ⟨B, HB⟩ := AdmPartS.flag (AdmOkP.admOk pa0 pa1 pa2 pa3 pa4 pa5 pa6 pa7 pa8 pa9 pa10 pa11 pa12 pa13 pa14 pa15 pa16 pa17 pa18 pa19 pa20 pa21 pa22 pa23 pa26 pa29 pa30 pa31 pa32 paL24 paL25 paL27 paL28 paL33)
  have HI : Hid (B = true ↔ AdmEqP.implOk pa0 pa1 pa2 pa3 pa4 pa5 pa6 pa7 pa8 pa9 pa10 pa11 pa12 pa13 pa14 pa15 pa16 pa17 pa18 pa19 pa20 pa21 pa22 pa23 pa26 pa29 pa30 pa31 pa32 paL24 paL25 paL27 paL28 paL33) := by
    show _ ↔ _
    rw [AdmEqP.same]
    exact HB.out
  exact ⟨B, fun paA24 paC24 paA25 paC25 paA27 paC27 paA28 paC28 paA33 paC33 w h24 q24 h25 q25 h27 q27 h28 q28 h33 q33 => AdmOkS.spec_admok pa0 pa1 pa2 pa3 pa4 pa5 pa6 pa7 pa8 pa9 pa10 pa11 pa12 pa13 pa14 pa15 pa16 pa17 pa18 pa19 pa20 pa21 pa22 pa23 pa26 pa29 pa30 pa31 pa32 paL24 paL25 paL27 paL28 paL33 paA24 paC24 paA25 paC25 paA27 paC27 paA28 paC28 paA33 paC33 B w h24 h25 h27 h28 h33 (by omega) (by omega) (by omega) (by omega) (by omega) q25 q27 HB, fun paA24 paC24 paA25 paC25 paA27 paC27 paA28 paC28 paA33 paC33 w h24 q24 h25 q25 h27 q27 h28 q28 h33 q33 => AdmOkI.impl_admok pa0 pa1 pa2 pa3 pa4 pa5 pa6 pa7 pa8 pa9 pa10 pa11 pa12 pa13 pa14 pa15 pa16 pa17 pa18 pa19 pa20 pa21 pa22 pa23 pa26 pa29 pa30 pa31 pa32 paL24 paL25 paL27 paL28 paL33 paA24 paC24 paA25 paC25 paA27 paC27 paA28 paC28 paA33 paC33 B w h24 h25 h27 h28 h33 (by omega) (by omega) (by omega) (by omega) (by omega) q25 q27 HI⟩
end Go.Proofs.YtnabnghjejncpaaGreat.AdmBothOk
