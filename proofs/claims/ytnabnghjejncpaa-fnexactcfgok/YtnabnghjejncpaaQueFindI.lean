/- Where the first request of a number stands, as the program looks for it; which rooms are right; nothing else turns; no condition but those written in each. -/
import Derived.Test.YtnabnghjejncpaaRows
import Derived.WalkKit
import Derived.WalkSmall
import Derived.BigQuiet
import Derived.Deep.RegionWith
import Derived.Deep.DeepCutAuto
import Derived.Test.YtnabnghjejncpaaListKit
import Derived.Test.YtnabnghjejncpaaHoldKit
import Derived.Test.YtnabnghjejncpaaReqKit
import Derived.Test.YtnabnghjejncpaaReqOks
import Derived.Test.YtnabnghjejncpaaQueMath
import Derived.Test.YtnabnghjejncpaaQueMiscS
namespace Go.Proofs.Ytnabnghjejncpaa.QueFindI
open Go.RowKit ListKit HoldKit QueMath QueMiscS
set_option maxRecDepth 8000
set_option linter.unusedVariables false
set_option linter.unusedSimpArgs false

theorem impl_room (n : Int) (w : World) : Calls Try.prog 80 #[.int .i64 n] w fun e w' => e = .returned (.bool (roomOk n)) ∧ w' = w := by
  by_cases h1 : 0 ≤ n
  · have d1 : decide (0 ≤ n) = true := by simpa using h1
    by_cases h2 : n ≤ 50
    · have d2 : decide (n ≤ 50) = true := by simpa using h2
      have e0 : roomOk n = true := by simp [roomOk, h1, h2]
      have e : Hid (roomOk n = true) := e0
      clear h1 h2 e0
      go_enter Try.func80, Try.ntmps80
      go_wp2
      go_ret
      exact ⟨by rw [e.out]; rfl, rfl⟩
    · have d2 : decide (n ≤ 50) = false := by simpa using h2
      have e0 : roomOk n = false := by simp [roomOk]; omega
      have e : Hid (roomOk n = false) := e0
      clear h1 h2 e0
      go_enter Try.func80, Try.ntmps80
      go_wp2
      go_ret
      exact ⟨by rw [e.out]; rfl, rfl⟩
  · have d1 : decide (0 ≤ n) = false := by simpa using h1
    have e0 : roomOk n = false := by simp [roomOk]; omega
    have e : Hid (roomOk n = false) := e0
    clear h1 e0
    go_enter Try.func80, Try.ntmps80
    go_wp2
    go_ret
    exact ⟨by rw [e.out]; rfl, rfl⟩
end Go.Proofs.Ytnabnghjejncpaa.QueFindI
