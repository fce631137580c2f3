/- The model's and the program's Clients answer the same, at all arguments; nothing that was there turns. -/
import Derived.Test.YtnabnghjejncpaaRows
import Derived.WalkKit
import Derived.Test.YtnabnghjejncpaaListKit
import Derived.Test.YtnabnghjejncpaaHoldKit
import Derived.Test.YtnabnghjejncpaaIntKit
import Derived.Test.YtnabnghjejncpaaSlotKit
import Derived.Test.YtnabnghjejncpaaAdmCliP
import Derived.Test.YtnabnghjejncpaaAdmCliS
import Derived.Test.YtnabnghjejncpaaAdmCliI
namespace Go.Proofs.Ytnabnghjejncpaa.AdmBothCli
open Go.RowKit ListKit HoldKit
set_option linter.unusedVariables false
set_option maxRecDepth 8000
set_option maxHeartbeats 2000000 in
theorem both_clients (paL0 : List SlotKit.Slot) (pah0 : paL0.length ≤ 1048576)  : ∃ (qaL0 : List Int),
    (∀ paA0 paC0 w, Own 105 5 SlotKit.cells w paA0 paL0 → paL0.length ≤ paC0 → Calls Try.prog 17 #[.agg #[.slice paA0 paL0.length paC0]] w fun e w' => ∃ qaA0 qaC0, e = .returned (.slice qaA0 qaL0.length qaC0) ∧ qaL0.length ≤ qaC0 ∧ Holds w' w.heap.size [⟨qaA0, 3, 1, (qaL0).map IntKit.cells⟩] ∧ Below w.heap.size w w') ∧
    (∀ paA0 paC0 w, Own 105 5 SlotKit.cells w paA0 paL0 → paL0.length ≤ paC0 → Calls Try.prog 19 #[.agg #[.slice paA0 paL0.length paC0]] w fun e w' => ∃ qaA0 qaC0, e = .returned (.slice qaA0 qaL0.length qaC0) ∧ qaL0.length ≤ qaC0 ∧ Holds w' w.heap.size [⟨qaA0, 3, 1, (qaL0).map IntKit.cells⟩] ∧ Below w.heap.size w w') ∧ qaL0.length ≤ 1048577 := by
  exact ⟨AdmCliP.clientsOf paL0, fun a c w h hc => AdmCliS.spec_clients a c paL0 w h (by omega) hc, fun a c w h hc => AdmCliI.impl_clients a c paL0 w h (by omega) hc, by have := AdmCliP.clients_le paL0; omega⟩
end Go.Proofs.Ytnabnghjejncpaa.AdmBothCli
