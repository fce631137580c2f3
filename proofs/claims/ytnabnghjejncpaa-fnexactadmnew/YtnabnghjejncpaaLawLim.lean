/- What the laws' helpers on the struct Lim do: it is copied into new memory, found equal to its like, marked and found marked, and measured; nothing else turns; no condition but those written in each. -/
import Derived.Test.YtnabnghjejncpaaRows
import Derived.WalkKit
import Derived.WalkSmall
import Derived.BigQuiet
import Derived.Deep.RegionWith
import Derived.Deep.DeepCutAuto
import Derived.Test.YtnabnghjejncpaaListKit
import Derived.Test.YtnabnghjejncpaaHoldKit
import Derived.Test.YtnabnghjejncpaaHoldMore
import Derived.Test.YtnabnghjejncpaaSampleKit
import Derived.Test.YtnabnghjejncpaaSampleRows
import Derived.Test.YtnabnghjejncpaaFlatLimCfg
import Derived.Test.YtnabnghjejncpaaLawWindow
namespace Go.Proofs.Ytnabnghjejncpaa.LawLim
open Go.RowKit ListKit HoldKit HoldMore
set_option maxRecDepth 8000
set_option linter.unusedVariables false
set_option linter.unusedSimpArgs false

set_option maxHeartbeats 4000000 in
theorem eq_lim (x0 : Int) (x1 : Int) (x2 : Int) (x3 : Int) (x4 : Int) (x5 : Int) (x6 : Int) (x7 : Int) (x8 : Int) (a9 : Option Addr) (c9 : Nat) (L9 : List SampleKit.Sample) (b9 : Option Addr) (d9 : Nat) (w : World) (h9 : Own 170 2 SampleKit.cells w a9 L9) (k9 : Own 170 2 SampleKit.cells w b9 L9) (l9 : L9.length ≤ 1048577) :
    Calls Try.prog 44 #[.agg #[.int .i64 x0, .int .i64 x1, .int .i64 x2, .int .i64 x3, .int .i64 x4, .int .i64 x5, .int .i64 x6, .int .i64 x7, .int .i64 x8, .slice a9 L9.length c9], .agg #[.int .i64 x0, .int .i64 x1, .int .i64 x2, .int .i64 x3, .int .i64 x4, .int .i64 x5, .int .i64 x6, .int .i64 x7, .int .i64 x8, .slice b9 L9.length d9]] w fun e w' => e = .returned (.bool true) ∧ Below w.heap.size w w' := by
  have H9 : Hid (Own 170 2 SampleKit.cells w a9 L9) := h9
  have K9 : Hid (Own 170 2 SampleKit.cells w b9 L9) := k9
  clear h9 k9
  have t0 : (x0 != x0) = false := by simp
  have t1 : (x1 != x1) = false := by simp
  have t2 : (x2 != x2) = false := by simp
  have t3 : (x3 != x3) = false := by simp
  have t4 : (x4 != x4) = false := by simp
  have t5 : (x5 != x5) = false := by simp
  have t6 : (x6 != x6) = false := by simp
  have t7 : (x7 != x7) = false := by simp
  have t8 : (x8 != x8) = false := by simp
  go_enter Try.func44, Try.ntmps44
  go_wp2_with fail
  refine (FlatLimCfg.eq_one x0 x1 x2 x3 x4 _).mono ?_
  rintro e w1 ⟨rfl, hb1⟩
  have E1 : Hid (Eq2 w w1 #[.int .i64 x0, .int .i64 x1, .int .i64 x2, .int .i64 x3, .int .i64 x4, .int .i64 x5, .int .i64 x6, .int .i64 x7, .int .i64 x8, .slice a9 L9.length c9] 36 #[.int .i64 x0, .int .i64 x1, .int .i64 x2, .int .i64 x3, .int .i64 x4, .int .i64 x5, .int .i64 x6, .int .i64 x7, .int .i64 x8, .slice b9 L9.length d9] 36) := Eq2.start hb1
  clear hb1
  have p0 := cellB E1.out.a 0
  have q0 := cellB E1.out.b 0
  have p1 := cellB E1.out.a 1
  have q1 := cellB E1.out.b 1
  have p2 := cellB E1.out.a 2
  have q2 := cellB E1.out.b 2
  have p3 := cellB E1.out.a 3
  have q3 := cellB E1.out.b 3
  have p4 := cellB E1.out.a 4
  have q4 := cellB E1.out.b 4
  have p5 := cellB E1.out.a 5
  have q5 := cellB E1.out.b 5
  have p6 := cellB E1.out.a 6
  have q6 := cellB E1.out.b 6
  have p7 := cellB E1.out.a 7
  have q7 := cellB E1.out.b 7
  have p8 := cellB E1.out.a 8
  have q8 := cellB E1.out.b 8
  have p9 := cellB E1.out.a 9
  have q9 := cellB E1.out.b 9
  go_wp2_with fail
  refine (LawWindow.eq_window x8 a9 c9 L9 b9 d9 _ (H9.out.below (E1.out.bel)) (K9.out.below (E1.out.bel)) l9).mono ?_
  rintro e w2 ⟨rfl, hb2⟩
  have E2 : Hid (Eq2 w w2 #[.int .i64 x0, .int .i64 x1, .int .i64 x2, .int .i64 x3, .int .i64 x4, .int .i64 x5, .int .i64 x6, .int .i64 x7, .int .i64 x8, .slice a9 L9.length c9] 36 #[.int .i64 x0, .int .i64 x1, .int .i64 x2, .int .i64 x3, .int .i64 x4, .int .i64 x5, .int .i64 x6, .int .i64 x7, .int .i64 x8, .slice b9 L9.length d9] 36) := E1.out.next hb2
  clear hb2 E1 p0 q0 p1 q1 p2 q2 p3 q3 p4 q4 p5 q5 p6 q6 p7 q7 p8 q8 p9 q9
  have p0 := cellB E2.out.a 0
  have q0 := cellB E2.out.b 0
  have p1 := cellB E2.out.a 1
  have q1 := cellB E2.out.b 1
  have p2 := cellB E2.out.a 2
  have q2 := cellB E2.out.b 2
  have p3 := cellB E2.out.a 3
  have q3 := cellB E2.out.b 3
  have p4 := cellB E2.out.a 4
  have q4 := cellB E2.out.b 4
  have p5 := cellB E2.out.a 5
  have q5 := cellB E2.out.b 5
  have p6 := cellB E2.out.a 6
  have q6 := cellB E2.out.b 6
  have p7 := cellB E2.out.a 7
  have q7 := cellB E2.out.b 7
  have p8 := cellB E2.out.a 8
  have q8 := cellB E2.out.b 8
  have p9 := cellB E2.out.a 9
  have q9 := cellB E2.out.b 9
  go_wp2
  go_ret
  exact ⟨rfl, E2.out.bel⟩
set_option maxHeartbeats 4000000 in
theorem mark_lim (x0 : Int) (x1 : Int) (x2 : Int) (x3 : Int) (x4 : Int) (x5 : Int) (x6 : Int) (x7 : Int) (x8 : Int) (a9 : Option Addr) (c9 : Nat) (L9 : List SampleKit.Sample) (k lo : Nat) (kI : Int) (w : World) (h : Holds w lo [⟨a9, 170, 2, (L9).map SampleKit.cells⟩]) (l9 : L9.length ≤ 1048577) (hk : k ≤ 400000000) (hkI : kI = (k : Int)) :
    Calls Try.prog 48 #[.agg #[.int .i64 x0, .int .i64 x1, .int .i64 x2, .int .i64 x3, .int .i64 x4, .int .i64 x5, .int .i64 x6, .int .i64 x7, .int .i64 x8, .slice a9 L9.length c9], .int .i64 kI] w fun e w' => e = .returned (.int .i64 (kI + 2 * (L9.length : Int))) ∧ Holds w' lo [⟨a9, 170, 2, ((SampleRows.marks (k) L9.length)).map SampleKit.cells⟩] ∧ Turn [⟨a9, 170, 2, (L9).map SampleKit.cells⟩] w w' := by
  subst hkI
  have O : Hid (Off w.heap.size [⟨a9, 170, 2, (L9).map SampleKit.cells⟩]) := Off.above h (Nat.le_refl _)
  have E0 : Hid (Mk w (w.alloc (.cells #[.int .i64 x0, .int .i64 x1, .int .i64 x2, .int .i64 x3, .int .i64 x4, .int .i64 x5, .int .i64 x6, .int .i64 x7, .int .i64 x8, .slice a9 L9.length c9] 36)) #[.int .i64 x0, .int .i64 x1, .int .i64 x2, .int .i64 x3, .int .i64 x4, .int .i64 x5, .int .i64 x6, .int .i64 x7, .int .i64 x8, .slice a9 L9.length c9] 36 lo [⟨a9, 170, 2, (L9).map SampleKit.cells⟩] [⟨a9, 170, 2, (L9).map SampleKit.cells⟩]) := Mk.start h _ _
  clear h
  go_enter Try.func48, Try.ntmps48
  go_wp2_with fail
  refine (LawWindow.mark_window x8 a9 c9 L9 k lo _ _ (Holds.mid (l1 := []) (ms := [⟨a9, 170, 2, (L9).map SampleKit.cells⟩]) (l2 := []) E0.out.holds) l9 (by omega) rfl).mono ?_
  rintro e w1 ⟨rfl, hh1, tt1⟩
  have E1 : Hid (Mk w w1 #[.int .i64 x0, .int .i64 x1, .int .i64 x2, .int .i64 x3, .int .i64 x4, .int .i64 x5, .int .i64 x6, .int .i64 x7, .int .i64 x8, .slice a9 L9.length c9] 36 lo [⟨a9, 170, 2, ((SampleRows.marks k L9.length)).map SampleKit.cells⟩] [⟨a9, 170, 2, (L9).map SampleKit.cells⟩]) := Mk.seg (l1 := []) (ms := [⟨a9, 170, 2, (L9).map SampleKit.cells⟩]) (ms' := [⟨a9, 170, 2, ((SampleRows.marks k L9.length)).map SampleKit.cells⟩]) (l2 := []) E0.out hh1 (segC (blk_len (by rw [List.length_map, List.length_map, SampleRows.marks_length])) rfl) tt1 (by simp) O.out
  clear hh1 tt1 E0
  go_wp2
  go_ret
  exact ⟨rfl, E1.out.holds, E1.out.turn⟩
set_option maxHeartbeats 4000000 in
theorem held_lim (x0 : Int) (x1 : Int) (x2 : Int) (x3 : Int) (x4 : Int) (x5 : Int) (x6 : Int) (x7 : Int) (x8 : Int) (a9 : Option Addr) (c9 : Nat) (L9 : List SampleKit.Sample) (k lo : Nat) (kI : Int) (w : World) (h : Holds w lo [⟨a9, 170, 2, ((SampleRows.marks (k) L9.length)).map SampleKit.cells⟩]) (l9 : L9.length ≤ 1048577) (hk : k ≤ 400000000) (hkI : kI = (k : Int)) :
    Calls Try.prog 51 #[.agg #[.int .i64 x0, .int .i64 x1, .int .i64 x2, .int .i64 x3, .int .i64 x4, .int .i64 x5, .int .i64 x6, .int .i64 x7, .int .i64 x8, .slice a9 L9.length c9], .int .i64 kI] w fun e w' => e = .returned (.int .i64 (kI + 2 * (L9.length : Int))) ∧ Below w.heap.size w w' := by
  subst hkI
  have E0 : Hid (Hd w (w.alloc (.cells #[.int .i64 x0, .int .i64 x1, .int .i64 x2, .int .i64 x3, .int .i64 x4, .int .i64 x5, .int .i64 x6, .int .i64 x7, .int .i64 x8, .slice a9 L9.length c9] 36)) #[.int .i64 x0, .int .i64 x1, .int .i64 x2, .int .i64 x3, .int .i64 x4, .int .i64 x5, .int .i64 x6, .int .i64 x7, .int .i64 x8, .slice a9 L9.length c9] 36 lo [⟨a9, 170, 2, ((SampleRows.marks k L9.length)).map SampleKit.cells⟩]) := Hd.start h _ _
  clear h
  go_enter Try.func51, Try.ntmps51
  go_wp2_with fail
  refine (LawWindow.held_window x8 a9 c9 L9 k lo _ _ (Holds.mid (l1 := []) (ms := [⟨a9, 170, 2, ((SampleRows.marks k L9.length)).map SampleKit.cells⟩]) (l2 := []) E0.out.holds) l9 (by omega) rfl).mono ?_
  rintro e w1 ⟨rfl, hb1⟩
  have E1 : Hid (Hd w w1 #[.int .i64 x0, .int .i64 x1, .int .i64 x2, .int .i64 x3, .int .i64 x4, .int .i64 x5, .int .i64 x6, .int .i64 x7, .int .i64 x8, .slice a9 L9.length c9] 36 lo [⟨a9, 170, 2, ((SampleRows.marks k L9.length)).map SampleKit.cells⟩]) := E0.out.next hb1
  clear hb1 E0
  have z1 : ¬ ((k : Int) + 2 * (L9.length : Int)) < 0 := by omega
  go_wp2
  go_ret
  exact ⟨rfl, E1.out.bel⟩
end Go.Proofs.Ytnabnghjejncpaa.LawLim
