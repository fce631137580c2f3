/- What the model's QueueNew answers, and how often a number stands in a list, as the model counts; nothing else turns. -/
import Derived.Test.YtnabnghjejncpaaRows
import Derived.WalkKit
import Derived.WalkSmall
import Derived.BigQuiet
import Derived.Deep.RegionWith
import Derived.Deep.DeepCutAuto
import Derived.Test.YtnabnghjejncpaaListKit
import Derived.Test.YtnabnghjejncpaaHoldKit
import Derived.Test.YtnabnghjejncpaaReqKit
import Derived.Test.YtnabnghjejncpaaIntKit
namespace Go.Proofs.Ytnabnghjejncpaa.QueMiscS
open Go.RowKit ListKit HoldKit
set_option maxRecDepth 8000
set_option linter.unusedVariables false
set_option linter.unusedSimpArgs false

def roomOk (n : Int) : Bool := decide (0 ≤ n ∧ n ≤ 50)
def newRoom (n : Int) : Int := if roomOk n = true then n else 0
theorem new_list (w : World) : Holds w w.heap.size [⟨none, 161, 6, ([] : List ReqKit.Req).map ReqKit.cells⟩] := Holds.own (f := ReqKit.cells) (L := []) (Or.inl rfl) (fun b hb => by simp [blkL] at hb)
def NewAns (w : World) (y : Int) (B : Bool) (e : Ending) (w' : World) : Prop := ∃ a2 c2, e = .returned (.tuple #[.agg #[.int .i64 y, .slice a2 ([] : List ReqKit.Req).length c2], .bool B]) ∧ ([] : List ReqKit.Req).length ≤ c2 ∧ Holds w' w.heap.size [⟨a2, 161, 6, ([] : List ReqKit.Req).map ReqKit.cells⟩] ∧ Below w.heap.size w w'
set_option maxHeartbeats 1000000 in
theorem spec_queuenew (n : Int) (w : World) :
    Calls Try.prog 32 #[.int .i64 n] w (NewAns w (newRoom n) (roomOk n)) := by
  have HB : Hid (∀ o : Obj, Holds (w.alloc o) w.heap.size [⟨none, 161, 6, ([] : List ReqKit.Req).map ReqKit.cells⟩]) := fun o => (new_list w).below (n1 _ _)
  by_cases h1 : n < 0
  · have e : roomOk n = false := by simp [roomOk]; omega
    rw [show newRoom n = 0 by unfold newRoom; rw [e]; rfl, e]
    go_enter Try.func32, Try.ntmps32
    go_wp2
    exact bodyPost_ret (v := .tuple #[.agg #[.int .i64 0, .slice none 0 0], .bool false]) (by simp [results, Try.results32, go_sem]) rfl ⟨none, 0, rfl, Nat.le_refl _, HB.out _, n1 _ _⟩
  · by_cases h2 : n ≤ 50
    · have e : roomOk n = true := by simp [roomOk]; omega
      have d : decide (50 < n) = false := by simp; omega
      rw [show newRoom n = n by unfold newRoom; rw [e]; rfl, e]
      go_enter Try.func32, Try.ntmps32
      go_wp2
      exact bodyPost_ret (v := .tuple #[.agg #[.int .i64 n, .slice none 0 0], .bool true]) (by simp [results, Try.results32, go_sem]) rfl ⟨none, 0, rfl, Nat.le_refl _, HB.out _, n1 _ _⟩
    · have e : roomOk n = false := by simp [roomOk]; omega
      have d : decide (50 < n) = true := by simp; omega
      rw [show newRoom n = 0 by unfold newRoom; rw [e]; rfl, e]
      go_enter Try.func32, Try.ntmps32
      go_wp2
      exact bodyPost_ret (v := .tuple #[.agg #[.int .i64 0, .slice none 0 0], .bool false]) (by simp [results, Try.results32, go_sem]) rfl ⟨none, 0, rfl, Nat.le_refl _, HB.out _, n1 _ _⟩
end Go.Proofs.Ytnabnghjejncpaa.QueMiscS
