/- What the laws' helpers on the struct Ledger do: it is copied into new memory, found equal to its like, marked and found marked, and measured; nothing else turns; no condition but those written in each. -/
import Derived.Test.YtnabnghjejncpaaRows
import Derived.WalkKit
import Derived.WalkSmall
import Derived.BigQuiet
import Derived.Deep.RegionWith
import Derived.Deep.DeepCutAuto
import Derived.Test.YtnabnghjejncpaaListKit
import Derived.Test.YtnabnghjejncpaaHoldKit
import Derived.Test.YtnabnghjejncpaaHoldMore
import Derived.Test.YtnabnghjejncpaaSlotKit
import Derived.Test.YtnabnghjejncpaaSlotRows
namespace Go.Proofs.Ytnabnghjejncpaa.LawLedger
open Go.RowKit ListKit HoldKit HoldMore
set_option maxRecDepth 8000
set_option linter.unusedVariables false
set_option linter.unusedSimpArgs false

set_option maxHeartbeats 4000000 in
theorem eq_ledger  (a0 : Option Addr) (c0 : Nat) (L0 : List SlotKit.Slot) (b0 : Option Addr) (d0 : Nat) (w : World) (h0 : Own 105 5 SlotKit.cells w a0 L0) (k0 : Own 105 5 SlotKit.cells w b0 L0) (l0 : L0.length ≤ 1048577) :
    Calls Try.prog 21 #[.agg #[.slice a0 L0.length c0], .agg #[.slice b0 L0.length d0]] w fun e w' => e = .returned (.bool true) ∧ Below w.heap.size w w' := by
  have H0 : Hid (Own 105 5 SlotKit.cells w a0 L0) := h0
  have K0 : Hid (Own 105 5 SlotKit.cells w b0 L0) := k0
  clear h0 k0
  go_enter Try.func21, Try.ntmps21
  go_wp2_with fail
  refine (SlotRows.eq_any a0 b0 c0 d0 L0 _ (H0.out.below (n2 w _ _)) (K0.out.below (n2 w _ _)) l0).mono ?_
  rintro e w1 ⟨rfl, hb1⟩
  have E1 : Hid (Eq2 w w1 #[.slice a0 L0.length c0] 39 #[.slice b0 L0.length d0] 39) := Eq2.start hb1
  clear hb1
  have p0 := cellB E1.out.a 0
  have q0 := cellB E1.out.b 0
  go_wp2
  go_ret
  exact ⟨rfl, E1.out.bel⟩
set_option maxHeartbeats 4000000 in
theorem mark_ledger  (a0 : Option Addr) (c0 : Nat) (L0 : List SlotKit.Slot) (k lo : Nat) (kI : Int) (w : World) (h : Holds w lo [⟨a0, 105, 5, (L0).map SlotKit.cells⟩]) (l0 : L0.length ≤ 1048577) (hk : k ≤ 500000000) (hkI : kI = (k : Int)) :
    Calls Try.prog 22 #[.agg #[.slice a0 L0.length c0], .int .i64 kI] w fun e w' => e = .returned (.int .i64 (kI + 5 * (L0.length : Int))) ∧ Holds w' lo [⟨a0, 105, 5, ((SlotRows.marks (k) L0.length)).map SlotKit.cells⟩] ∧ Turn [⟨a0, 105, 5, (L0).map SlotKit.cells⟩] w w' := by
  subst hkI
  have O : Hid (Off w.heap.size [⟨a0, 105, 5, (L0).map SlotKit.cells⟩]) := Off.above h (Nat.le_refl _)
  have E0 : Hid (Mk w (w.alloc (.cells #[.slice a0 L0.length c0] 39)) #[.slice a0 L0.length c0] 39 lo [⟨a0, 105, 5, (L0).map SlotKit.cells⟩] [⟨a0, 105, 5, (L0).map SlotKit.cells⟩]) := Mk.start h _ _
  clear h
  go_enter Try.func22, Try.ntmps22
  go_wp2_with fail
  refine (SlotRows.mark_any a0 c0 (k) L0 _ (E0.out.holds.get (by simp)) l0 (by omega)).mono ?_
  rintro e w1 ⟨rfl, ho1, hg1⟩
  have E1 : Hid (Mk w w1 #[.slice a0 L0.length c0] 39 lo [⟨a0, 105, 5, ((SlotRows.marks (k) L0.length)).map SlotKit.cells⟩] [⟨a0, 105, 5, (L0).map SlotKit.cells⟩]) := Mk.next (l1 := []) (l2 := []) (i := ⟨a0, 105, 5, (L0).map SlotKit.cells⟩) (i' := ⟨a0, 105, 5, ((SlotRows.marks (k) L0.length)).map SlotKit.cells⟩) E0.out (own_cells ho1) (blk_len (by rw [List.length_map, List.length_map, SlotRows.marks_length])) (Turn.one hg1) (by simp) O.out
  clear ho1 hg1 E0
  go_wp2
  go_ret
  exact ⟨rfl, E1.out.holds, E1.out.turn⟩
set_option maxHeartbeats 4000000 in
theorem held_ledger  (a0 : Option Addr) (c0 : Nat) (L0 : List SlotKit.Slot) (k lo : Nat) (kI : Int) (w : World) (h : Holds w lo [⟨a0, 105, 5, ((SlotRows.marks (k) L0.length)).map SlotKit.cells⟩]) (l0 : L0.length ≤ 1048577) (hk : k ≤ 500000000) (hkI : kI = (k : Int)) :
    Calls Try.prog 52 #[.agg #[.slice a0 L0.length c0], .int .i64 kI] w fun e w' => e = .returned (.int .i64 (kI + 5 * (L0.length : Int))) ∧ Below w.heap.size w w' := by
  subst hkI
  have H : Hid (Holds (w.alloc (.cells #[.slice a0 L0.length c0] 39)) lo [⟨a0, 105, 5, ((SlotRows.marks (k) L0.length)).map SlotKit.cells⟩]) := h.below (n1 _ _)
  clear h
  go_enter Try.func52, Try.ntmps52
  go_wp2_with fail
  refine (SlotRows.held_any a0 c0 (k) L0.length _ (H.out.get (by simp)) l0 (by omega)).mono ?_
  rintro e w1 ⟨rfl, rfl⟩
  have z1 : ¬ ((k : Int) + 5 * (L0.length : Int)) < 0 := by omega
  go_wp2
  go_ret
  exact ⟨rfl, n1 _ _⟩
end Go.Proofs.Ytnabnghjejncpaa.LawLedger
