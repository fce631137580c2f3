/- What the program's QueueNew answers; nothing else turns. -/
import Derived.Test.YtnabnghjejncpaaRows
import Derived.WalkKit
import Derived.WalkSmall
import Derived.BigQuiet
import Derived.Deep.RegionWith
import Derived.Deep.DeepCutAuto
import Derived.Test.YtnabnghjejncpaaListKit
import Derived.Test.YtnabnghjejncpaaHoldKit
import Derived.Test.YtnabnghjejncpaaReqKit
import Derived.Test.YtnabnghjejncpaaQueMiscS
import Derived.Test.YtnabnghjejncpaaQueMath
import Derived.Test.YtnabnghjejncpaaQueFindI
namespace Go.Proofs.Ytnabnghjejncpaa.QueNewI
open Go.RowKit ListKit HoldKit QueMiscS
set_option maxRecDepth 8000
set_option linter.unusedVariables false
set_option linter.unusedSimpArgs false

set_option maxHeartbeats 1000000 in
theorem impl_queuenew (n : Int) (w : World) :
    Calls Try.prog 38 #[.int .i64 n] w (NewAns w (newRoom n) (roomOk n)) := by
  have HB : Hid (∀ o : Obj, Holds (w.alloc o) w.heap.size [⟨none, 161, 6, ([] : List ReqKit.Req).map ReqKit.cells⟩]) := fun o => (new_list w).below (n1 _ _)
  have HRM := fun W => QueFindI.impl_room n W
  obtain ⟨rm, hrm⟩ : ∃ rm, roomOk n = rm := ⟨_, rfl⟩
  rw [hrm] at HRM ⊢
  have HR : Hid (newRoom n = if rm = true then n else 0) := by show newRoom n = _; unfold newRoom; rw [hrm]
  clear hrm
  rw [HR.out]
  cases rm with
  | true =>
    go_enter Try.func38, Try.ntmps38
    go_wp2_with (go_at_call 80; refine (HRM _).mono ?_; rintro e w9 ⟨rfl, hw9⟩; rw [hw9]; clear hw9 w9)
    exact bodyPost_ret (v := .tuple #[.agg #[.int .i64 n, .slice none 0 0], .bool true]) (by simp [results, Try.results38, go_sem]) rfl ⟨none, 0, rfl, Nat.le_refl _, HB.out _, n1 _ _⟩
  | false =>
    go_enter Try.func38, Try.ntmps38
    go_wp2_with (go_at_call 80; refine (HRM _).mono ?_; rintro e w9 ⟨rfl, hw9⟩; rw [hw9]; clear hw9 w9)
    exact bodyPost_ret (v := .tuple #[.agg #[.int .i64 0, .slice none 0 0], .bool false]) (by simp [results, Try.results38, go_sem]) rfl ⟨none, 0, rfl, Nat.le_refl _, HB.out _, n1 _ _⟩
end Go.Proofs.Ytnabnghjejncpaa.QueNewI
