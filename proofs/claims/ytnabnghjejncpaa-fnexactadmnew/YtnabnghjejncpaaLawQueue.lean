/- What the laws' helpers on the struct Queue do: it is copied into new memory, found equal to its like, marked and found marked, and measured; nothing else turns; no condition but those written in each. -/
import Derived.Test.YtnabnghjejncpaaRows
import Derived.WalkKit
import Derived.WalkSmall
import Derived.BigQuiet
import Derived.Deep.RegionWith
import Derived.Deep.DeepCutAuto
import Derived.Test.YtnabnghjejncpaaListKit
import Derived.Test.YtnabnghjejncpaaHoldKit
import Derived.Test.YtnabnghjejncpaaHoldMore
import Derived.Test.YtnabnghjejncpaaReqKit
import Derived.Test.YtnabnghjejncpaaReqRows
namespace Go.Proofs.Ytnabnghjejncpaa.LawQueue
open Go.RowKit ListKit HoldKit HoldMore
set_option maxRecDepth 8000
set_option linter.unusedVariables false
set_option linter.unusedSimpArgs false

set_option maxHeartbeats 4000000 in
theorem eq_queue (x0 : Int) (a1 : Option Addr) (c1 : Nat) (L1 : List ReqKit.Req) (b1 : Option Addr) (d1 : Nat) (w : World) (h1 : Own 161 6 ReqKit.cells w a1 L1) (k1 : Own 161 6 ReqKit.cells w b1 L1) (l1 : L1.length ≤ 1048577) :
    Calls Try.prog 45 #[.agg #[.int .i64 x0, .slice a1 L1.length c1], .agg #[.int .i64 x0, .slice b1 L1.length d1]] w fun e w' => e = .returned (.bool true) ∧ Below w.heap.size w w' := by
  have H1 : Hid (Own 161 6 ReqKit.cells w a1 L1) := h1
  have K1 : Hid (Own 161 6 ReqKit.cells w b1 L1) := k1
  clear h1 k1
  have t0 : (x0 != x0) = false := by simp
  go_enter Try.func45, Try.ntmps45
  go_wp2_with fail
  refine (ReqRows.eq_any a1 b1 c1 d1 L1 _ (H1.out.below (n2 w _ _)) (K1.out.below (n2 w _ _)) l1).mono ?_
  rintro e w1 ⟨rfl, hb1⟩
  have E1 : Hid (Eq2 w w1 #[.int .i64 x0, .slice a1 L1.length c1] 42 #[.int .i64 x0, .slice b1 L1.length d1] 42) := Eq2.start hb1
  clear hb1
  have p0 := cellB E1.out.a 0
  have q0 := cellB E1.out.b 0
  have p1 := cellB E1.out.a 1
  have q1 := cellB E1.out.b 1
  go_wp2
  go_ret
  exact ⟨rfl, E1.out.bel⟩
set_option maxHeartbeats 4000000 in
theorem mark_queue (x0 : Int) (a1 : Option Addr) (c1 : Nat) (L1 : List ReqKit.Req) (k lo : Nat) (kI : Int) (w : World) (h : Holds w lo [⟨a1, 161, 6, (L1).map ReqKit.cells⟩]) (l1 : L1.length ≤ 1048577) (hk : k ≤ 500000000) (hkI : kI = (k : Int)) :
    Calls Try.prog 49 #[.agg #[.int .i64 x0, .slice a1 L1.length c1], .int .i64 kI] w fun e w' => e = .returned (.int .i64 (kI + 6 * (L1.length : Int))) ∧ Holds w' lo [⟨a1, 161, 6, ((ReqRows.marks (k) L1.length)).map ReqKit.cells⟩] ∧ Turn [⟨a1, 161, 6, (L1).map ReqKit.cells⟩] w w' := by
  subst hkI
  have O : Hid (Off w.heap.size [⟨a1, 161, 6, (L1).map ReqKit.cells⟩]) := Off.above h (Nat.le_refl _)
  have E0 : Hid (Mk w (w.alloc (.cells #[.int .i64 x0, .slice a1 L1.length c1] 42)) #[.int .i64 x0, .slice a1 L1.length c1] 42 lo [⟨a1, 161, 6, (L1).map ReqKit.cells⟩] [⟨a1, 161, 6, (L1).map ReqKit.cells⟩]) := Mk.start h _ _
  clear h
  go_enter Try.func49, Try.ntmps49
  go_wp2_with fail
  refine (ReqRows.mark_any a1 c1 (k) L1 _ (E0.out.holds.get (by simp)) l1 (by omega)).mono ?_
  rintro e w1 ⟨rfl, ho1, hg1⟩
  have E1 : Hid (Mk w w1 #[.int .i64 x0, .slice a1 L1.length c1] 42 lo [⟨a1, 161, 6, ((ReqRows.marks (k) L1.length)).map ReqKit.cells⟩] [⟨a1, 161, 6, (L1).map ReqKit.cells⟩]) := Mk.next (l1 := []) (l2 := []) (i := ⟨a1, 161, 6, (L1).map ReqKit.cells⟩) (i' := ⟨a1, 161, 6, ((ReqRows.marks (k) L1.length)).map ReqKit.cells⟩) E0.out (own_cells ho1) (blk_len (by rw [List.length_map, List.length_map, ReqRows.marks_length])) (Turn.one hg1) (by simp) O.out
  clear ho1 hg1 E0
  go_wp2
  go_ret
  exact ⟨rfl, E1.out.holds, E1.out.turn⟩
set_option maxHeartbeats 4000000 in
theorem held_queue (x0 : Int) (a1 : Option Addr) (c1 : Nat) (L1 : List ReqKit.Req) (k lo : Nat) (kI : Int) (w : World) (h : Holds w lo [⟨a1, 161, 6, ((ReqRows.marks (k) L1.length)).map ReqKit.cells⟩]) (l1 : L1.length ≤ 1048577) (hk : k ≤ 500000000) (hkI : kI = (k : Int)) :
    Calls Try.prog 53 #[.agg #[.int .i64 x0, .slice a1 L1.length c1], .int .i64 kI] w fun e w' => e = .returned (.int .i64 (kI + 6 * (L1.length : Int))) ∧ Below w.heap.size w w' := by
  subst hkI
  have H : Hid (Holds (w.alloc (.cells #[.int .i64 x0, .slice a1 L1.length c1] 42)) lo [⟨a1, 161, 6, ((ReqRows.marks (k) L1.length)).map ReqKit.cells⟩]) := h.below (n1 _ _)
  clear h
  go_enter Try.func53, Try.ntmps53
  go_wp2_with fail
  refine (ReqRows.held_any a1 c1 (k) L1.length _ (H.out.get (by simp)) l1 (by omega)).mono ?_
  rintro e w1 ⟨rfl, rfl⟩
  have z1 : ¬ ((k : Int) + 6 * (L1.length : Int)) < 0 := by omega
  go_wp2
  go_ret
  exact ⟨rfl, n1 _ _⟩
end Go.Proofs.Ytnabnghjejncpaa.LawQueue
