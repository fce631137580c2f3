/- Several texts laid into one: what the functions named in their own remarks answer; no condition but those written in each. -/
import Derived.Test.YtnabnghjejncpaaGreatRows
import Derived.WalkKit
import Derived.WalkSmall
import Derived.BigQuiet
import Derived.Deep.RegionWith
import Derived.Deep.DeepCutAuto
import Derived.Test.YtnabnghjejncpaaGreatListKit
import Derived.Test.YtnabnghjejncpaaGreatHoldKit
import Derived.Test.YtnabnghjejncpaaGreatHoldMore
import Derived.Test.YtnabnghjejncpaaGreatSampleKit
import Derived.Test.YtnabnghjejncpaaGreatRowsAll
import Derived.Test.YtnabnghjejncpaaGreatFlatAll
import Derived.Test.YtnabnghjejncpaaGreatSlotKit
import Derived.Test.YtnabnghjejncpaaGreatReqKit

section
namespace Go.Proofs.YtnabnghjejncpaaGreat.LawWindow
open Go.RowKit ListKit HoldKit HoldMore
set_option maxRecDepth 8000
set_option linter.unusedVariables false
set_option linter.unusedSimpArgs false

set_option maxHeartbeats 4000000 in
theorem to_window (x0 : Int) (a1 : Option Addr) (c1 : Nat) (L1 : List SampleKit.Sample) (w : World) (h1 : SampleRows.Arg w a1 L1) (l1 : L1.length ≤ 1048577) :
    Calls Tryz.prog 50 #[.agg #[.int .i64 x0, .slice a1 L1.length c1]] w fun e w' => ∃ g1, e = .returned (.agg #[.int .i64 x0, .slice (some ⟨g1, 0, none⟩) L1.length L1.length]) ∧ Holds w' w.heap.size [⟨some ⟨g1, 0, none⟩, 155, 2, (L1).map SampleKit.cells⟩] ∧ Below w.heap.size w w' := by
  have H1 : Hid (SampleRows.Arg w a1 L1) := h1
  clear h1
  go_enter Tryz.func50, Tryz.ntmps50
  go_wp2_with fail
  refine (SampleRows.to_rows a1 c1 L1 _ (H1.out.below (n3 w _ _ _)) l1).mono ?_
  rintro e w1 ⟨g1, rfl, hg1, hr1, hb1⟩
  have E1 : Hid (Cp w w1 #[.int .i64 x0, .slice a1 L1.length c1] 28 #[.int .i64 0, .slice none 0 0] #[.int .i64 x0, .slice none 0 0] 50 [⟨some ⟨g1, 0, none⟩, 155, 2, (L1).map SampleKit.cells⟩]) := Cp.start hb1 (Holds.row hr1 hg1)
  clear hb1 hg1 hr1
  have uc0 := cellB (E1.out).c 0
  have uf0 := fzB (E1.out).c 0
  have uc1 := cellB (E1.out).c 1
  have uf1 := fzB (E1.out).c 1
  have ua0 := cellB (E1.out).a 0
  have ua1 := cellB (E1.out).a 1
  go_upto_region 4 with fail
  have F1 : Hid (Cp w (w1.setCell ⟨w.heap.size + 1 + 1, 1, none⟩ (.slice (some ⟨g1, 0, none⟩) L1.length L1.length)) #[.int .i64 x0, .slice a1 L1.length c1] 28 #[.int .i64 0, .slice none 0 0] #[.int .i64 x0, .slice (some ⟨g1, 0, none⟩) L1.length L1.length] 50 [⟨some ⟨g1, 0, none⟩, 155, 2, (L1).map SampleKit.cells⟩]) := (E1.out).set 1 (.slice (some ⟨g1, 0, none⟩) L1.length L1.length)
  generalize (w1.setCell ⟨w.heap.size + 1 + 1, 1, none⟩ (.slice (some ⟨g1, 0, none⟩) L1.length L1.length)) = v1 at *
  clear E1 uc0 uf0 ua0 uc1 uf1 ua1
  have uc0 := cellB (F1.out).c 0
  have uf0 := fzB (F1.out).c 0
  have uc1 := cellB (F1.out).c 1
  have uf1 := fzB (F1.out).c 1
  have ua0 := cellB (F1.out).a 0
  have ua1 := cellB (F1.out).a 1
  have ud0 := cellB (F1.out).z 0
  have ue0 := fzB (F1.out).z 0
  have ud1 := cellB (F1.out).z 1
  have ue1 := fzB (F1.out).z 1
  go_wp2
  have G : Hid (Cp w ((v1.setCell ⟨w.heap.size + 1, 0, none⟩ (.int .i64 x0)).setCell ⟨w.heap.size + 1, 1, none⟩ (.slice (some ⟨g1, 0, none⟩) L1.length L1.length)) #[.int .i64 x0, .slice a1 L1.length c1] 28 #[.int .i64 x0, .slice (some ⟨g1, 0, none⟩) L1.length L1.length] #[.int .i64 x0, .slice (some ⟨g1, 0, none⟩) L1.length L1.length] 50 [⟨some ⟨g1, 0, none⟩, 155, 2, (L1).map SampleKit.cells⟩]) := ((F1.out).ans 0 (.int .i64 x0)).ans 1 (.slice (some ⟨g1, 0, none⟩) L1.length L1.length)
  generalize ((v1.setCell ⟨w.heap.size + 1, 0, none⟩ (.int .i64 x0)).setCell ⟨w.heap.size + 1, 1, none⟩ (.slice (some ⟨g1, 0, none⟩) L1.length L1.length)) = vz at *
  clear F1 uc0 uf0 ua0 uc1 uf1 ua1 ud0 ue0 ud1 ue1
  have ud0 := cellB G.out.z 0
  have ud1 := cellB G.out.z 1
  exact bodyPost_ret (v := .agg #[.int .i64 x0, .slice (some ⟨g1, 0, none⟩) L1.length L1.length]) (by simp [results, Tryz.results50, go_sem, ud0, ud1]) rfl ⟨g1, rfl, G.out.holds.low (Nat.le_add_right _ 3), G.out.bel⟩
set_option maxHeartbeats 4000000 in
theorem eq_window (x0 : Int) (a1 : Option Addr) (c1 : Nat) (L1 : List SampleKit.Sample) (b1 : Option Addr) (d1 : Nat) (w : World) (h1 : Own 155 2 SampleKit.cells w a1 L1) (k1 : Own 155 2 SampleKit.cells w b1 L1) (l1 : L1.length ≤ 1048577) :
    Calls Tryz.prog 70 #[.agg #[.int .i64 x0, .slice a1 L1.length c1], .agg #[.int .i64 x0, .slice b1 L1.length d1]] w fun e w' => e = .returned (.bool true) ∧ Below w.heap.size w w' := by
  have H1 : Hid (Own 155 2 SampleKit.cells w a1 L1) := h1
  have K1 : Hid (Own 155 2 SampleKit.cells w b1 L1) := k1
  clear h1 k1
  have t0 : (x0 != x0) = false := by simp
  go_enter Tryz.func70, Tryz.ntmps70
  go_wp2_with fail
  refine (SampleRows.eq_any a1 b1 c1 d1 L1 _ (H1.out.below (n2 w _ _)) (K1.out.below (n2 w _ _)) l1).mono ?_
  rintro e w1 ⟨rfl, hb1⟩
  have E1 : Hid (Eq2 w w1 #[.int .i64 x0, .slice a1 L1.length c1] 50 #[.int .i64 x0, .slice b1 L1.length d1] 50) := Eq2.start hb1
  clear hb1
  have p0 := cellB E1.out.a 0
  have q0 := cellB E1.out.b 0
  have p1 := cellB E1.out.a 1
  have q1 := cellB E1.out.b 1
  go_wp2
  go_ret
  exact ⟨rfl, E1.out.bel⟩
set_option maxHeartbeats 4000000 in
theorem sz_window (x0 : Int) (a1 : Option Addr) (c1 : Nat) (len1 : Nat) (k : Int) (w : World) (hn1 : (len1 : Int) ≤ 9223372036854775807) (h0 : 0 ≤ k) (h1 : k ≤ 1048576) :
    Calls Tryz.prog 38 #[.agg #[.int .i64 x0, .slice a1 len1 c1], .int .i64 k] w fun e w' => e = .returned (.int .i64 (if (len1 : Int) ≤ k then k - ((len1 : Int)) else -1)) ∧ Below w.heap.size w w' := by
  by_cases s0 : (len1 : Int) ≤ k
  · have u0 : ¬ (k - (len1 : Int)) < 0 := by omega
    rw [if_pos (by omega)]
    go_enter Tryz.func38, Tryz.ntmps38
    go_wp2_with (first | (go_at_call 74; refine (SampleRows.sz_rows a1 c1 len1 k _ hn1 (by omega) (by omega)).mono ?_; rintro e w1 ⟨rfl, rfl⟩; rw [if_pos s0]))
    go_ret
    exact ⟨rfl, n1 _ _⟩
  · rw [if_neg (by omega)]
    go_enter Tryz.func38, Tryz.ntmps38
    go_wp2_with (first | (go_at_call 74; refine (SampleRows.sz_rows a1 c1 len1 k _ hn1 (by omega) (by omega)).mono ?_; rintro e w1 ⟨rfl, rfl⟩; rw [if_neg s0]))
    go_ret
    exact ⟨rfl, n1 _ _⟩
end Go.Proofs.YtnabnghjejncpaaGreat.LawWindow
end

section
namespace Go.Proofs.YtnabnghjejncpaaGreat.LawLim
open Go.RowKit ListKit HoldKit HoldMore
set_option maxRecDepth 8000
set_option linter.unusedVariables false
set_option linter.unusedSimpArgs false

set_option maxHeartbeats 4000000 in
theorem to_lim (x0 : Int) (x1 : Int) (x2 : Int) (x3 : Int) (x4 : Int) (x5 : Int) (x6 : Int) (x7 : Int) (x8 : Int) (a9 : Option Addr) (c9 : Nat) (L9 : List SampleKit.Sample) (w : World) (h9 : SampleRows.Arg w a9 L9) (l9 : L9.length ≤ 1048577) :
    Calls Tryz.prog 20 #[.agg #[.int .i64 x0, .int .i64 x1, .int .i64 x2, .int .i64 x3, .int .i64 x4, .int .i64 x5, .int .i64 x6, .int .i64 x7, .int .i64 x8, .slice a9 L9.length c9]] w fun e w' => ∃ g9, e = .returned (.agg #[.int .i64 x0, .int .i64 x1, .int .i64 x2, .int .i64 x3, .int .i64 x4, .int .i64 x5, .int .i64 x6, .int .i64 x7, .int .i64 x8, .slice (some ⟨g9, 0, none⟩) L9.length L9.length]) ∧ Holds w' w.heap.size [⟨some ⟨g9, 0, none⟩, 155, 2, (L9).map SampleKit.cells⟩] ∧ Below w.heap.size w w' := by
  have H9 : Hid (SampleRows.Arg w a9 L9) := h9
  clear h9
  go_enter Tryz.func20, Tryz.ntmps20
  go_wp2_with fail
  refine (FlatLimCfg.to_one x0 x1 x2 x3 x4 _).mono ?_
  rintro e w1 ⟨rfl, hb1⟩
  have E1 : Hid (Cp w w1 #[.int .i64 x0, .int .i64 x1, .int .i64 x2, .int .i64 x3, .int .i64 x4, .int .i64 x5, .int .i64 x6, .int .i64 x7, .int .i64 x8, .slice a9 L9.length c9] 30 #[.int .i64 0, .int .i64 0, .int .i64 0, .int .i64 0, .int .i64 0, .int .i64 0, .int .i64 0, .int .i64 0, .int .i64 0, .slice none 0 0] #[.int .i64 0, .int .i64 0, .int .i64 0, .int .i64 0, .int .i64 0, .int .i64 0, .int .i64 0, .int .i64 0, .int .i64 0, .slice none 0 0] 52 []) := Cp.start hb1 (Holds.nil _ _)
  clear hb1
  have uc0 := cellB (E1.out).c 0
  have uf0 := fzB (E1.out).c 0
  have uc1 := cellB (E1.out).c 1
  have uf1 := fzB (E1.out).c 1
  have uc2 := cellB (E1.out).c 2
  have uf2 := fzB (E1.out).c 2
  have uc3 := cellB (E1.out).c 3
  have uf3 := fzB (E1.out).c 3
  have uc4 := cellB (E1.out).c 4
  have uf4 := fzB (E1.out).c 4
  have uc5 := cellB (E1.out).c 5
  have uf5 := fzB (E1.out).c 5
  have uc6 := cellB (E1.out).c 6
  have uf6 := fzB (E1.out).c 6
  have uc7 := cellB (E1.out).c 7
  have uf7 := fzB (E1.out).c 7
  have uc8 := cellB (E1.out).c 8
  have uf8 := fzB (E1.out).c 8
  have uc9 := cellB (E1.out).c 9
  have uf9 := fzB (E1.out).c 9
  have ua0 := cellB (E1.out).a 0
  have ua1 := cellB (E1.out).a 1
  have ua2 := cellB (E1.out).a 2
  have ua3 := cellB (E1.out).a 3
  have ua4 := cellB (E1.out).a 4
  have ua5 := cellB (E1.out).a 5
  have ua6 := cellB (E1.out).a 6
  have ua7 := cellB (E1.out).a 7
  have ua8 := cellB (E1.out).a 8
  have ua9 := cellB (E1.out).a 9
  go_upto_region 3 with fail
  have Sset0 : Hid _ := (E1.out).set 0 (.int .i64 x0)
  have Sset1 : Hid _ := (Sset0.out).set 1 (.int .i64 x1)
  have Sset2 : Hid _ := (Sset1.out).set 2 (.int .i64 x2)
  have Sset3 : Hid _ := (Sset2.out).set 3 (.int .i64 x3)
  have Sset4 : Hid _ := (Sset3.out).set 4 (.int .i64 x4)
  have F1 : Hid (Cp w (((((w1.setCell ⟨w.heap.size + 1 + 1, 0, none⟩ (.int .i64 x0)).setCell ⟨w.heap.size + 1 + 1, 1, none⟩ (.int .i64 x1)).setCell ⟨w.heap.size + 1 + 1, 2, none⟩ (.int .i64 x2)).setCell ⟨w.heap.size + 1 + 1, 3, none⟩ (.int .i64 x3)).setCell ⟨w.heap.size + 1 + 1, 4, none⟩ (.int .i64 x4)) #[.int .i64 x0, .int .i64 x1, .int .i64 x2, .int .i64 x3, .int .i64 x4, .int .i64 x5, .int .i64 x6, .int .i64 x7, .int .i64 x8, .slice a9 L9.length c9] 30 #[.int .i64 0, .int .i64 0, .int .i64 0, .int .i64 0, .int .i64 0, .int .i64 0, .int .i64 0, .int .i64 0, .int .i64 0, .slice none 0 0] #[.int .i64 x0, .int .i64 x1, .int .i64 x2, .int .i64 x3, .int .i64 x4, .int .i64 0, .int .i64 0, .int .i64 0, .int .i64 0, .slice none 0 0] 52 []) := by have h9 := Sset4.out; simp only [List.setIfInBounds_toArray, List.set_cons_zero, List.set_cons_succ] at h9; exact h9
  generalize (((((w1.setCell ⟨w.heap.size + 1 + 1, 0, none⟩ (.int .i64 x0)).setCell ⟨w.heap.size + 1 + 1, 1, none⟩ (.int .i64 x1)).setCell ⟨w.heap.size + 1 + 1, 2, none⟩ (.int .i64 x2)).setCell ⟨w.heap.size + 1 + 1, 3, none⟩ (.int .i64 x3)).setCell ⟨w.heap.size + 1 + 1, 4, none⟩ (.int .i64 x4)) = v1 at *
  clear E1 uc0 uf0 ua0 uc1 uf1 ua1 uc2 uf2 ua2 uc3 uf3 ua3 uc4 uf4 ua4 uc5 uf5 ua5 uc6 uf6 ua6 uc7 uf7 ua7 uc8 uf8 ua8 uc9 uf9 ua9 Sset0 Sset1 Sset2 Sset3 Sset4
  have uc0 := cellB (F1.out).c 0
  have uf0 := fzB (F1.out).c 0
  have uc1 := cellB (F1.out).c 1
  have uf1 := fzB (F1.out).c 1
  have uc2 := cellB (F1.out).c 2
  have uf2 := fzB (F1.out).c 2
  have uc3 := cellB (F1.out).c 3
  have uf3 := fzB (F1.out).c 3
  have uc4 := cellB (F1.out).c 4
  have uf4 := fzB (F1.out).c 4
  have uc5 := cellB (F1.out).c 5
  have uf5 := fzB (F1.out).c 5
  have uc6 := cellB (F1.out).c 6
  have uf6 := fzB (F1.out).c 6
  have uc7 := cellB (F1.out).c 7
  have uf7 := fzB (F1.out).c 7
  have uc8 := cellB (F1.out).c 8
  have uf8 := fzB (F1.out).c 8
  have uc9 := cellB (F1.out).c 9
  have uf9 := fzB (F1.out).c 9
  have ua0 := cellB (F1.out).a 0
  have ua1 := cellB (F1.out).a 1
  have ua2 := cellB (F1.out).a 2
  have ua3 := cellB (F1.out).a 3
  have ua4 := cellB (F1.out).a 4
  have ua5 := cellB (F1.out).a 5
  have ua6 := cellB (F1.out).a 6
  have ua7 := cellB (F1.out).a 7
  have ua8 := cellB (F1.out).a 8
  have ua9 := cellB (F1.out).a 9
  have Sset5 : Hid _ := (F1.out).set 5 (.int .i64 x5)
  have Sset6 : Hid _ := (Sset5.out).set 6 (.int .i64 x6)
  have Sset7 : Hid _ := (Sset6.out).set 7 (.int .i64 x7)
  go_wp2_with fail
  have Z1 := (Sset7.out).bel
  have Z2_9 := H9.out.below Z1
  have Z3 := LawWindow.to_window x8 a9 c9 L9 _ Z2_9 l9
  refine Z3.mono ?_
  clear Z1 Z3 Z2_9
  rintro e w2 ⟨g9, rfl, hh2, hb2⟩
  have E2 : Hid (Cp w w2 #[.int .i64 x0, .int .i64 x1, .int .i64 x2, .int .i64 x3, .int .i64 x4, .int .i64 x5, .int .i64 x6, .int .i64 x7, .int .i64 x8, .slice a9 L9.length c9] 30 #[.int .i64 0, .int .i64 0, .int .i64 0, .int .i64 0, .int .i64 0, .int .i64 0, .int .i64 0, .int .i64 0, .int .i64 0, .slice none 0 0] #[.int .i64 x0, .int .i64 x1, .int .i64 x2, .int .i64 x3, .int .i64 x4, .int .i64 x5, .int .i64 x6, .int .i64 x7, .int .i64 0, .slice none 0 0] 52 [⟨some ⟨g9, 0, none⟩, 155, 2, (L9).map SampleKit.cells⟩]) := (Sset7.out).next hb2 (hh2)
  clear hb2 hh2 F1 uc0 uf0 ua0 uc1 uf1 ua1 uc2 uf2 ua2 uc3 uf3 ua3 uc4 uf4 ua4 uc5 uf5 ua5 uc6 uf6 ua6 uc7 uf7 ua7 uc8 uf8 ua8 uc9 uf9 ua9 Sset5 Sset6 Sset7
  have uc0 := cellB (E2.out).c 0
  have uf0 := fzB (E2.out).c 0
  have uc1 := cellB (E2.out).c 1
  have uf1 := fzB (E2.out).c 1
  have uc2 := cellB (E2.out).c 2
  have uf2 := fzB (E2.out).c 2
  have uc3 := cellB (E2.out).c 3
  have uf3 := fzB (E2.out).c 3
  have uc4 := cellB (E2.out).c 4
  have uf4 := fzB (E2.out).c 4
  have uc5 := cellB (E2.out).c 5
  have uf5 := fzB (E2.out).c 5
  have uc6 := cellB (E2.out).c 6
  have uf6 := fzB (E2.out).c 6
  have uc7 := cellB (E2.out).c 7
  have uf7 := fzB (E2.out).c 7
  have uc8 := cellB (E2.out).c 8
  have uf8 := fzB (E2.out).c 8
  have uc9 := cellB (E2.out).c 9
  have uf9 := fzB (E2.out).c 9
  have ua0 := cellB (E2.out).a 0
  have ua1 := cellB (E2.out).a 1
  have ua2 := cellB (E2.out).a 2
  have ua3 := cellB (E2.out).a 3
  have ua4 := cellB (E2.out).a 4
  have ua5 := cellB (E2.out).a 5
  have ua6 := cellB (E2.out).a 6
  have ua7 := cellB (E2.out).a 7
  have ua8 := cellB (E2.out).a 8
  have ua9 := cellB (E2.out).a 9
  go_upto_region 7 with fail
  have Sset8 : Hid _ := (E2.out).set 8 (.int .i64 x8)
  have Sset9 : Hid _ := (Sset8.out).set 9 (.slice (some ⟨g9, 0, none⟩) L9.length L9.length)
  have F2 : Hid (Cp w ((w2.setCell ⟨w.heap.size + 1 + 1, 8, none⟩ (.int .i64 x8)).setCell ⟨w.heap.size + 1 + 1, 9, none⟩ (.slice (some ⟨g9, 0, none⟩) L9.length L9.length)) #[.int .i64 x0, .int .i64 x1, .int .i64 x2, .int .i64 x3, .int .i64 x4, .int .i64 x5, .int .i64 x6, .int .i64 x7, .int .i64 x8, .slice a9 L9.length c9] 30 #[.int .i64 0, .int .i64 0, .int .i64 0, .int .i64 0, .int .i64 0, .int .i64 0, .int .i64 0, .int .i64 0, .int .i64 0, .slice none 0 0] #[.int .i64 x0, .int .i64 x1, .int .i64 x2, .int .i64 x3, .int .i64 x4, .int .i64 x5, .int .i64 x6, .int .i64 x7, .int .i64 x8, .slice (some ⟨g9, 0, none⟩) L9.length L9.length] 52 [⟨some ⟨g9, 0, none⟩, 155, 2, (L9).map SampleKit.cells⟩]) := Sset9.out
  generalize ((w2.setCell ⟨w.heap.size + 1 + 1, 8, none⟩ (.int .i64 x8)).setCell ⟨w.heap.size + 1 + 1, 9, none⟩ (.slice (some ⟨g9, 0, none⟩) L9.length L9.length)) = v2 at *
  clear E2 uc0 uf0 ua0 uc1 uf1 ua1 uc2 uf2 ua2 uc3 uf3 ua3 uc4 uf4 ua4 uc5 uf5 ua5 uc6 uf6 ua6 uc7 uf7 ua7 uc8 uf8 ua8 uc9 uf9 ua9 Sset8 Sset9
  have uc0 := cellB (F2.out).c 0
  have uf0 := fzB (F2.out).c 0
  have uc1 := cellB (F2.out).c 1
  have uf1 := fzB (F2.out).c 1
  have uc2 := cellB (F2.out).c 2
  have uf2 := fzB (F2.out).c 2
  have uc3 := cellB (F2.out).c 3
  have uf3 := fzB (F2.out).c 3
  have uc4 := cellB (F2.out).c 4
  have uf4 := fzB (F2.out).c 4
  have uc5 := cellB (F2.out).c 5
  have uf5 := fzB (F2.out).c 5
  have uc6 := cellB (F2.out).c 6
  have uf6 := fzB (F2.out).c 6
  have uc7 := cellB (F2.out).c 7
  have uf7 := fzB (F2.out).c 7
  have uc8 := cellB (F2.out).c 8
  have uf8 := fzB (F2.out).c 8
  have uc9 := cellB (F2.out).c 9
  have uf9 := fzB (F2.out).c 9
  have ua0 := cellB (F2.out).a 0
  have ua1 := cellB (F2.out).a 1
  have ua2 := cellB (F2.out).a 2
  have ua3 := cellB (F2.out).a 3
  have ua4 := cellB (F2.out).a 4
  have ua5 := cellB (F2.out).a 5
  have ua6 := cellB (F2.out).a 6
  have ua7 := cellB (F2.out).a 7
  have ua8 := cellB (F2.out).a 8
  have ua9 := cellB (F2.out).a 9
  have ud0 := cellB (F2.out).z 0
  have ue0 := fzB (F2.out).z 0
  have ud1 := cellB (F2.out).z 1
  have ue1 := fzB (F2.out).z 1
  have ud2 := cellB (F2.out).z 2
  have ue2 := fzB (F2.out).z 2
  have ud3 := cellB (F2.out).z 3
  have ue3 := fzB (F2.out).z 3
  have ud4 := cellB (F2.out).z 4
  have ue4 := fzB (F2.out).z 4
  have ud5 := cellB (F2.out).z 5
  have ue5 := fzB (F2.out).z 5
  have ud6 := cellB (F2.out).z 6
  have ue6 := fzB (F2.out).z 6
  have ud7 := cellB (F2.out).z 7
  have ue7 := fzB (F2.out).z 7
  have ud8 := cellB (F2.out).z 8
  have ue8 := fzB (F2.out).z 8
  have ud9 := cellB (F2.out).z 9
  have ue9 := fzB (F2.out).z 9
  go_wp2
  have Sans0 : Hid _ := (F2.out).ans 0 (.int .i64 x0)
  have Sans1 : Hid _ := (Sans0.out).ans 1 (.int .i64 x1)
  have Sans2 : Hid _ := (Sans1.out).ans 2 (.int .i64 x2)
  have Sans3 : Hid _ := (Sans2.out).ans 3 (.int .i64 x3)
  have Sans4 : Hid _ := (Sans3.out).ans 4 (.int .i64 x4)
  have Sans5 : Hid _ := (Sans4.out).ans 5 (.int .i64 x5)
  have Sans6 : Hid _ := (Sans5.out).ans 6 (.int .i64 x6)
  have Sans7 : Hid _ := (Sans6.out).ans 7 (.int .i64 x7)
  have Sans8 : Hid _ := (Sans7.out).ans 8 (.int .i64 x8)
  have Sans9 : Hid _ := (Sans8.out).ans 9 (.slice (some ⟨g9, 0, none⟩) L9.length L9.length)
  have G : Hid (Cp w ((((((((((v2.setCell ⟨w.heap.size + 1, 0, none⟩ (.int .i64 x0)).setCell ⟨w.heap.size + 1, 1, none⟩ (.int .i64 x1)).setCell ⟨w.heap.size + 1, 2, none⟩ (.int .i64 x2)).setCell ⟨w.heap.size + 1, 3, none⟩ (.int .i64 x3)).setCell ⟨w.heap.size + 1, 4, none⟩ (.int .i64 x4)).setCell ⟨w.heap.size + 1, 5, none⟩ (.int .i64 x5)).setCell ⟨w.heap.size + 1, 6, none⟩ (.int .i64 x6)).setCell ⟨w.heap.size + 1, 7, none⟩ (.int .i64 x7)).setCell ⟨w.heap.size + 1, 8, none⟩ (.int .i64 x8)).setCell ⟨w.heap.size + 1, 9, none⟩ (.slice (some ⟨g9, 0, none⟩) L9.length L9.length)) #[.int .i64 x0, .int .i64 x1, .int .i64 x2, .int .i64 x3, .int .i64 x4, .int .i64 x5, .int .i64 x6, .int .i64 x7, .int .i64 x8, .slice a9 L9.length c9] 30 #[.int .i64 x0, .int .i64 x1, .int .i64 x2, .int .i64 x3, .int .i64 x4, .int .i64 x5, .int .i64 x6, .int .i64 x7, .int .i64 x8, .slice (some ⟨g9, 0, none⟩) L9.length L9.length] #[.int .i64 x0, .int .i64 x1, .int .i64 x2, .int .i64 x3, .int .i64 x4, .int .i64 x5, .int .i64 x6, .int .i64 x7, .int .i64 x8, .slice (some ⟨g9, 0, none⟩) L9.length L9.length] 52 [⟨some ⟨g9, 0, none⟩, 155, 2, (L9).map SampleKit.cells⟩]) := by have h9 := Sans9.out; simp only [List.setIfInBounds_toArray, List.set_cons_zero, List.set_cons_succ] at h9; exact h9
  generalize ((((((((((v2.setCell ⟨w.heap.size + 1, 0, none⟩ (.int .i64 x0)).setCell ⟨w.heap.size + 1, 1, none⟩ (.int .i64 x1)).setCell ⟨w.heap.size + 1, 2, none⟩ (.int .i64 x2)).setCell ⟨w.heap.size + 1, 3, none⟩ (.int .i64 x3)).setCell ⟨w.heap.size + 1, 4, none⟩ (.int .i64 x4)).setCell ⟨w.heap.size + 1, 5, none⟩ (.int .i64 x5)).setCell ⟨w.heap.size + 1, 6, none⟩ (.int .i64 x6)).setCell ⟨w.heap.size + 1, 7, none⟩ (.int .i64 x7)).setCell ⟨w.heap.size + 1, 8, none⟩ (.int .i64 x8)).setCell ⟨w.heap.size + 1, 9, none⟩ (.slice (some ⟨g9, 0, none⟩) L9.length L9.length)) = vz at *
  clear F2 uc0 uf0 ua0 uc1 uf1 ua1 uc2 uf2 ua2 uc3 uf3 ua3 uc4 uf4 ua4 uc5 uf5 ua5 uc6 uf6 ua6 uc7 uf7 ua7 uc8 uf8 ua8 uc9 uf9 ua9 Sans0 Sans1 Sans2 Sans3 Sans4 Sans5 Sans6 Sans7 Sans8 Sans9 ud0 ue0 ud1 ue1 ud2 ue2 ud3 ue3 ud4 ue4 ud5 ue5 ud6 ue6 ud7 ue7 ud8 ue8 ud9 ue9
  have ud0 := cellB G.out.z 0
  have ud1 := cellB G.out.z 1
  have ud2 := cellB G.out.z 2
  have ud3 := cellB G.out.z 3
  have ud4 := cellB G.out.z 4
  have ud5 := cellB G.out.z 5
  have ud6 := cellB G.out.z 6
  have ud7 := cellB G.out.z 7
  have ud8 := cellB G.out.z 8
  have ud9 := cellB G.out.z 9
  exact bodyPost_ret (v := .agg #[.int .i64 x0, .int .i64 x1, .int .i64 x2, .int .i64 x3, .int .i64 x4, .int .i64 x5, .int .i64 x6, .int .i64 x7, .int .i64 x8, .slice (some ⟨g9, 0, none⟩) L9.length L9.length]) (by simp [results, Tryz.results20, go_sem, ud0, ud1, ud2, ud3, ud4, ud5, ud6, ud7, ud8, ud9]) rfl ⟨g9, rfl, G.out.holds.low (Nat.le_add_right _ 3), G.out.bel⟩
set_option maxHeartbeats 4000000 in
theorem eq_lim (x0 : Int) (x1 : Int) (x2 : Int) (x3 : Int) (x4 : Int) (x5 : Int) (x6 : Int) (x7 : Int) (x8 : Int) (a9 : Option Addr) (c9 : Nat) (L9 : List SampleKit.Sample) (b9 : Option Addr) (d9 : Nat) (w : World) (h9 : Own 155 2 SampleKit.cells w a9 L9) (k9 : Own 155 2 SampleKit.cells w b9 L9) (l9 : L9.length ≤ 1048577) :
    Calls Tryz.prog 32 #[.agg #[.int .i64 x0, .int .i64 x1, .int .i64 x2, .int .i64 x3, .int .i64 x4, .int .i64 x5, .int .i64 x6, .int .i64 x7, .int .i64 x8, .slice a9 L9.length c9], .agg #[.int .i64 x0, .int .i64 x1, .int .i64 x2, .int .i64 x3, .int .i64 x4, .int .i64 x5, .int .i64 x6, .int .i64 x7, .int .i64 x8, .slice b9 L9.length d9]] w fun e w' => e = .returned (.bool true) ∧ Below w.heap.size w w' := by
  have H9 : Hid (Own 155 2 SampleKit.cells w a9 L9) := h9
  have K9 : Hid (Own 155 2 SampleKit.cells w b9 L9) := k9
  clear h9 k9
  have t0 : (x0 != x0) = false := by simp
  have t1 : (x1 != x1) = false := by simp
  have t2 : (x2 != x2) = false := by simp
  have t3 : (x3 != x3) = false := by simp
  have t4 : (x4 != x4) = false := by simp
  have t5 : (x5 != x5) = false := by simp
  have t6 : (x6 != x6) = false := by simp
  have t7 : (x7 != x7) = false := by simp
  have t8 : (x8 != x8) = false := by simp
  go_enter Tryz.func32, Tryz.ntmps32
  go_wp2_with fail
  refine (FlatLimCfg.eq_one x0 x1 x2 x3 x4 _).mono ?_
  rintro e w1 ⟨rfl, hb1⟩
  have E1 : Hid (Eq2 w w1 #[.int .i64 x0, .int .i64 x1, .int .i64 x2, .int .i64 x3, .int .i64 x4, .int .i64 x5, .int .i64 x6, .int .i64 x7, .int .i64 x8, .slice a9 L9.length c9] 52 #[.int .i64 x0, .int .i64 x1, .int .i64 x2, .int .i64 x3, .int .i64 x4, .int .i64 x5, .int .i64 x6, .int .i64 x7, .int .i64 x8, .slice b9 L9.length d9] 52) := Eq2.start hb1
  clear hb1
  have p0 := cellB E1.out.a 0
  have q0 := cellB E1.out.b 0
  have p1 := cellB E1.out.a 1
  have q1 := cellB E1.out.b 1
  have p2 := cellB E1.out.a 2
  have q2 := cellB E1.out.b 2
  have p3 := cellB E1.out.a 3
  have q3 := cellB E1.out.b 3
  have p4 := cellB E1.out.a 4
  have q4 := cellB E1.out.b 4
  have p5 := cellB E1.out.a 5
  have q5 := cellB E1.out.b 5
  have p6 := cellB E1.out.a 6
  have q6 := cellB E1.out.b 6
  have p7 := cellB E1.out.a 7
  have q7 := cellB E1.out.b 7
  have p8 := cellB E1.out.a 8
  have q8 := cellB E1.out.b 8
  have p9 := cellB E1.out.a 9
  have q9 := cellB E1.out.b 9
  go_wp2_with fail
  refine (LawWindow.eq_window x8 a9 c9 L9 b9 d9 _ (H9.out.below (E1.out.bel)) (K9.out.below (E1.out.bel)) l9).mono ?_
  rintro e w2 ⟨rfl, hb2⟩
  have E2 : Hid (Eq2 w w2 #[.int .i64 x0, .int .i64 x1, .int .i64 x2, .int .i64 x3, .int .i64 x4, .int .i64 x5, .int .i64 x6, .int .i64 x7, .int .i64 x8, .slice a9 L9.length c9] 52 #[.int .i64 x0, .int .i64 x1, .int .i64 x2, .int .i64 x3, .int .i64 x4, .int .i64 x5, .int .i64 x6, .int .i64 x7, .int .i64 x8, .slice b9 L9.length d9] 52) := E1.out.next hb2
  clear hb2 E1 p0 q0 p1 q1 p2 q2 p3 q3 p4 q4 p5 q5 p6 q6 p7 q7 p8 q8 p9 q9
  have p0 := cellB E2.out.a 0
  have q0 := cellB E2.out.b 0
  have p1 := cellB E2.out.a 1
  have q1 := cellB E2.out.b 1
  have p2 := cellB E2.out.a 2
  have q2 := cellB E2.out.b 2
  have p3 := cellB E2.out.a 3
  have q3 := cellB E2.out.b 3
  have p4 := cellB E2.out.a 4
  have q4 := cellB E2.out.b 4
  have p5 := cellB E2.out.a 5
  have q5 := cellB E2.out.b 5
  have p6 := cellB E2.out.a 6
  have q6 := cellB E2.out.b 6
  have p7 := cellB E2.out.a 7
  have q7 := cellB E2.out.b 7
  have p8 := cellB E2.out.a 8
  have q8 := cellB E2.out.b 8
  have p9 := cellB E2.out.a 9
  have q9 := cellB E2.out.b 9
  go_wp2
  go_ret
  exact ⟨rfl, E2.out.bel⟩
set_option maxHeartbeats 4000000 in
theorem sz_lim (x0 : Int) (x1 : Int) (x2 : Int) (x3 : Int) (x4 : Int) (x5 : Int) (x6 : Int) (x7 : Int) (x8 : Int) (a9 : Option Addr) (c9 : Nat) (len9 : Nat) (k : Int) (w : World) (hn9 : (len9 : Int) ≤ 9223372036854775807) (h0 : 0 ≤ k) (h1 : k ≤ 1048576) :
    Calls Tryz.prog 9 #[.agg #[.int .i64 x0, .int .i64 x1, .int .i64 x2, .int .i64 x3, .int .i64 x4, .int .i64 x5, .int .i64 x6, .int .i64 x7, .int .i64 x8, .slice a9 len9 c9], .int .i64 k] w fun e w' => e = .returned (.int .i64 (if (len9 : Int) ≤ k then k - ((len9 : Int)) else -1)) ∧ Below w.heap.size w w' := by
  have E0 : Hid (Sz w (w.alloc (.cells #[.int .i64 x0, .int .i64 x1, .int .i64 x2, .int .i64 x3, .int .i64 x4, .int .i64 x5, .int .i64 x6, .int .i64 x7, .int .i64 x8, .slice a9 len9 c9] 30)) #[.int .i64 x0, .int .i64 x1, .int .i64 x2, .int .i64 x3, .int .i64 x4, .int .i64 x5, .int .i64 x6, .int .i64 x7, .int .i64 x8, .slice a9 len9 c9] 30) := Sz.start _ _ _
  by_cases s0 : (len9 : Int) ≤ k
  · obtain ⟨m1, hm1⟩ : ∃ m : Int, k - (len9 : Int) = m := ⟨_, rfl⟩
    have u0 : ¬ m1 < 0 := by omega
    rw [if_pos (by omega), show k - ((len9 : Int)) = m1 by omega]
    go_enter Tryz.func9, Tryz.ntmps9
    go_wp2_with (first | (go_at_call 38; refine (LawWindow.sz_window x8 a9 c9 len9 k _ hn9 (by omega) (by omega)).mono ?_; rintro e w1 ⟨rfl, hb1⟩; have E1 : Hid (Sz w w1 #[.int .i64 x0, .int .i64 x1, .int .i64 x2, .int .i64 x3, .int .i64 x4, .int .i64 x5, .int .i64 x6, .int .i64 x7, .int .i64 x8, .slice a9 len9 c9] 30) := E0.out.next hb1; clear hb1 E0; rw [if_pos s0, hm1]))
    go_ret
    exact ⟨rfl, E1.out.bel⟩
  · rw [if_neg (by omega)]
    go_enter Tryz.func9, Tryz.ntmps9
    go_wp2_with (first | (go_at_call 38; refine (LawWindow.sz_window x8 a9 c9 len9 k _ hn9 (by omega) (by omega)).mono ?_; rintro e w1 ⟨rfl, hb1⟩; have E1 : Hid (Sz w w1 #[.int .i64 x0, .int .i64 x1, .int .i64 x2, .int .i64 x3, .int .i64 x4, .int .i64 x5, .int .i64 x6, .int .i64 x7, .int .i64 x8, .slice a9 len9 c9] 30) := E0.out.next hb1; clear hb1 E0; rw [if_neg (by omega)]))
    go_ret
    exact ⟨rfl, E1.out.bel⟩
end Go.Proofs.YtnabnghjejncpaaGreat.LawLim
end

section
namespace Go.Proofs.YtnabnghjejncpaaGreat.LawLedger
open Go.RowKit ListKit HoldKit HoldMore
set_option maxRecDepth 8000
set_option linter.unusedVariables false
set_option linter.unusedSimpArgs false

set_option maxHeartbeats 4000000 in
theorem to_ledger  (a0 : Option Addr) (c0 : Nat) (L0 : List SlotKit.Slot) (w : World) (h0 : SlotRows.Arg w a0 L0) (l0 : L0.length ≤ 1048577) :
    Calls Tryz.prog 21 #[.agg #[.slice a0 L0.length c0]] w fun e w' => ∃ g0, e = .returned (.agg #[.slice (some ⟨g0, 0, none⟩) L0.length L0.length]) ∧ Holds w' w.heap.size [⟨some ⟨g0, 0, none⟩, 75, 5, (L0).map SlotKit.cells⟩] ∧ Below w.heap.size w w' := by
  have H0 : Hid (SlotRows.Arg w a0 L0) := h0
  clear h0
  go_enter Tryz.func21, Tryz.ntmps21
  go_wp2_with fail
  refine (SlotRows.to_rows a0 c0 L0 _ (H0.out.below (n3 w _ _ _)) l0).mono ?_
  rintro e w1 ⟨g0, rfl, hg1, hr1, hb1⟩
  have E1 : Hid (Cp w w1 #[.slice a0 L0.length c0] 33 #[.slice none 0 0] #[.slice none 0 0] 55 [⟨some ⟨g0, 0, none⟩, 75, 5, (L0).map SlotKit.cells⟩]) := Cp.start hb1 (Holds.row hr1 hg1)
  clear hb1 hg1 hr1
  have uc0 := cellB (E1.out).c 0
  have uf0 := fzB (E1.out).c 0
  have ua0 := cellB (E1.out).a 0
  go_upto_region 3 with fail
  have F1 : Hid (Cp w (w1.setCell ⟨w.heap.size + 1 + 1, 0, none⟩ (.slice (some ⟨g0, 0, none⟩) L0.length L0.length)) #[.slice a0 L0.length c0] 33 #[.slice none 0 0] #[.slice (some ⟨g0, 0, none⟩) L0.length L0.length] 55 [⟨some ⟨g0, 0, none⟩, 75, 5, (L0).map SlotKit.cells⟩]) := (E1.out).set 0 (.slice (some ⟨g0, 0, none⟩) L0.length L0.length)
  generalize (w1.setCell ⟨w.heap.size + 1 + 1, 0, none⟩ (.slice (some ⟨g0, 0, none⟩) L0.length L0.length)) = v1 at *
  clear E1 uc0 uf0 ua0
  have uc0 := cellB (F1.out).c 0
  have uf0 := fzB (F1.out).c 0
  have ua0 := cellB (F1.out).a 0
  have ud0 := cellB (F1.out).z 0
  have ue0 := fzB (F1.out).z 0
  go_wp2
  have G : Hid (Cp w (v1.setCell ⟨w.heap.size + 1, 0, none⟩ (.slice (some ⟨g0, 0, none⟩) L0.length L0.length)) #[.slice a0 L0.length c0] 33 #[.slice (some ⟨g0, 0, none⟩) L0.length L0.length] #[.slice (some ⟨g0, 0, none⟩) L0.length L0.length] 55 [⟨some ⟨g0, 0, none⟩, 75, 5, (L0).map SlotKit.cells⟩]) := (F1.out).ans 0 (.slice (some ⟨g0, 0, none⟩) L0.length L0.length)
  generalize (v1.setCell ⟨w.heap.size + 1, 0, none⟩ (.slice (some ⟨g0, 0, none⟩) L0.length L0.length)) = vz at *
  clear F1 uc0 uf0 ua0 ud0 ue0
  have ud0 := cellB G.out.z 0
  exact bodyPost_ret (v := .agg #[.slice (some ⟨g0, 0, none⟩) L0.length L0.length]) (by simp [results, Tryz.results21, go_sem, ud0]) rfl ⟨g0, rfl, G.out.holds.low (Nat.le_add_right _ 3), G.out.bel⟩
set_option maxHeartbeats 4000000 in
theorem eq_ledger  (a0 : Option Addr) (c0 : Nat) (L0 : List SlotKit.Slot) (b0 : Option Addr) (d0 : Nat) (w : World) (h0 : Own 75 5 SlotKit.cells w a0 L0) (k0 : Own 75 5 SlotKit.cells w b0 L0) (l0 : L0.length ≤ 1048577) :
    Calls Tryz.prog 33 #[.agg #[.slice a0 L0.length c0], .agg #[.slice b0 L0.length d0]] w fun e w' => e = .returned (.bool true) ∧ Below w.heap.size w w' := by
  have H0 : Hid (Own 75 5 SlotKit.cells w a0 L0) := h0
  have K0 : Hid (Own 75 5 SlotKit.cells w b0 L0) := k0
  clear h0 k0
  go_enter Tryz.func33, Tryz.ntmps33
  go_wp2_with fail
  refine (SlotRows.eq_any a0 b0 c0 d0 L0 _ (H0.out.below (n2 w _ _)) (K0.out.below (n2 w _ _)) l0).mono ?_
  rintro e w1 ⟨rfl, hb1⟩
  have E1 : Hid (Eq2 w w1 #[.slice a0 L0.length c0] 55 #[.slice b0 L0.length d0] 55) := Eq2.start hb1
  clear hb1
  have p0 := cellB E1.out.a 0
  have q0 := cellB E1.out.b 0
  go_wp2
  go_ret
  exact ⟨rfl, E1.out.bel⟩
set_option maxHeartbeats 4000000 in
theorem sz_ledger  (a0 : Option Addr) (c0 : Nat) (len0 : Nat) (k : Int) (w : World) (hn0 : (len0 : Int) ≤ 9223372036854775807) (h0 : 0 ≤ k) (h1 : k ≤ 1048576) :
    Calls Tryz.prog 10 #[.agg #[.slice a0 len0 c0], .int .i64 k] w fun e w' => e = .returned (.int .i64 (if (len0 : Int) ≤ k then k - ((len0 : Int)) else -1)) ∧ Below w.heap.size w w' := by
  by_cases s0 : (len0 : Int) ≤ k
  · have u0 : ¬ (k - (len0 : Int)) < 0 := by omega
    rw [if_pos (by omega)]
    go_enter Tryz.func10, Tryz.ntmps10
    go_wp2_with (first | (go_at_call 39; refine (SlotRows.sz_rows a0 c0 len0 k _ hn0 (by omega) (by omega)).mono ?_; rintro e w1 ⟨rfl, rfl⟩; rw [if_pos s0]))
    go_ret
    exact ⟨rfl, n1 _ _⟩
  · rw [if_neg (by omega)]
    go_enter Tryz.func10, Tryz.ntmps10
    go_wp2_with (first | (go_at_call 39; refine (SlotRows.sz_rows a0 c0 len0 k _ hn0 (by omega) (by omega)).mono ?_; rintro e w1 ⟨rfl, rfl⟩; rw [if_neg s0]))
    go_ret
    exact ⟨rfl, n1 _ _⟩
end Go.Proofs.YtnabnghjejncpaaGreat.LawLedger
end

section
namespace Go.Proofs.YtnabnghjejncpaaGreat.LawQueue
open Go.RowKit ListKit HoldKit HoldMore
set_option maxRecDepth 8000
set_option linter.unusedVariables false
set_option linter.unusedSimpArgs false

set_option maxHeartbeats 4000000 in
theorem to_queue (x0 : Int) (a1 : Option Addr) (c1 : Nat) (L1 : List ReqKit.Req) (w : World) (h1 : ReqRows.Arg w a1 L1) (l1 : L1.length ≤ 1048577) :
    Calls Tryz.prog 22 #[.agg #[.int .i64 x0, .slice a1 L1.length c1]] w fun e w' => ∃ g1, e = .returned (.agg #[.int .i64 x0, .slice (some ⟨g1, 0, none⟩) L1.length L1.length]) ∧ Holds w' w.heap.size [⟨some ⟨g1, 0, none⟩, 72, 6, (L1).map ReqKit.cells⟩] ∧ Below w.heap.size w w' := by
  have H1 : Hid (ReqRows.Arg w a1 L1) := h1
  clear h1
  go_enter Tryz.func22, Tryz.ntmps22
  go_wp2_with fail
  refine (ReqRows.to_rows a1 c1 L1 _ (H1.out.below (n3 w _ _ _)) l1).mono ?_
  rintro e w1 ⟨g1, rfl, hg1, hr1, hb1⟩
  have E1 : Hid (Cp w w1 #[.int .i64 x0, .slice a1 L1.length c1] 36 #[.int .i64 0, .slice none 0 0] #[.int .i64 x0, .slice none 0 0] 58 [⟨some ⟨g1, 0, none⟩, 72, 6, (L1).map ReqKit.cells⟩]) := Cp.start hb1 (Holds.row hr1 hg1)
  clear hb1 hg1 hr1
  have uc0 := cellB (E1.out).c 0
  have uf0 := fzB (E1.out).c 0
  have uc1 := cellB (E1.out).c 1
  have uf1 := fzB (E1.out).c 1
  have ua0 := cellB (E1.out).a 0
  have ua1 := cellB (E1.out).a 1
  go_upto_region 4 with fail
  have F1 : Hid (Cp w (w1.setCell ⟨w.heap.size + 1 + 1, 1, none⟩ (.slice (some ⟨g1, 0, none⟩) L1.length L1.length)) #[.int .i64 x0, .slice a1 L1.length c1] 36 #[.int .i64 0, .slice none 0 0] #[.int .i64 x0, .slice (some ⟨g1, 0, none⟩) L1.length L1.length] 58 [⟨some ⟨g1, 0, none⟩, 72, 6, (L1).map ReqKit.cells⟩]) := (E1.out).set 1 (.slice (some ⟨g1, 0, none⟩) L1.length L1.length)
  generalize (w1.setCell ⟨w.heap.size + 1 + 1, 1, none⟩ (.slice (some ⟨g1, 0, none⟩) L1.length L1.length)) = v1 at *
  clear E1 uc0 uf0 ua0 uc1 uf1 ua1
  have uc0 := cellB (F1.out).c 0
  have uf0 := fzB (F1.out).c 0
  have uc1 := cellB (F1.out).c 1
  have uf1 := fzB (F1.out).c 1
  have ua0 := cellB (F1.out).a 0
  have ua1 := cellB (F1.out).a 1
  have ud0 := cellB (F1.out).z 0
  have ue0 := fzB (F1.out).z 0
  have ud1 := cellB (F1.out).z 1
  have ue1 := fzB (F1.out).z 1
  go_wp2
  have G : Hid (Cp w ((v1.setCell ⟨w.heap.size + 1, 0, none⟩ (.int .i64 x0)).setCell ⟨w.heap.size + 1, 1, none⟩ (.slice (some ⟨g1, 0, none⟩) L1.length L1.length)) #[.int .i64 x0, .slice a1 L1.length c1] 36 #[.int .i64 x0, .slice (some ⟨g1, 0, none⟩) L1.length L1.length] #[.int .i64 x0, .slice (some ⟨g1, 0, none⟩) L1.length L1.length] 58 [⟨some ⟨g1, 0, none⟩, 72, 6, (L1).map ReqKit.cells⟩]) := ((F1.out).ans 0 (.int .i64 x0)).ans 1 (.slice (some ⟨g1, 0, none⟩) L1.length L1.length)
  generalize ((v1.setCell ⟨w.heap.size + 1, 0, none⟩ (.int .i64 x0)).setCell ⟨w.heap.size + 1, 1, none⟩ (.slice (some ⟨g1, 0, none⟩) L1.length L1.length)) = vz at *
  clear F1 uc0 uf0 ua0 uc1 uf1 ua1 ud0 ue0 ud1 ue1
  have ud0 := cellB G.out.z 0
  have ud1 := cellB G.out.z 1
  exact bodyPost_ret (v := .agg #[.int .i64 x0, .slice (some ⟨g1, 0, none⟩) L1.length L1.length]) (by simp [results, Tryz.results22, go_sem, ud0, ud1]) rfl ⟨g1, rfl, G.out.holds.low (Nat.le_add_right _ 3), G.out.bel⟩
set_option maxHeartbeats 4000000 in
theorem eq_queue (x0 : Int) (a1 : Option Addr) (c1 : Nat) (L1 : List ReqKit.Req) (b1 : Option Addr) (d1 : Nat) (w : World) (h1 : Own 72 6 ReqKit.cells w a1 L1) (k1 : Own 72 6 ReqKit.cells w b1 L1) (l1 : L1.length ≤ 1048577) :
    Calls Tryz.prog 34 #[.agg #[.int .i64 x0, .slice a1 L1.length c1], .agg #[.int .i64 x0, .slice b1 L1.length d1]] w fun e w' => e = .returned (.bool true) ∧ Below w.heap.size w w' := by
  have H1 : Hid (Own 72 6 ReqKit.cells w a1 L1) := h1
  have K1 : Hid (Own 72 6 ReqKit.cells w b1 L1) := k1
  clear h1 k1
  have t0 : (x0 != x0) = false := by simp
  go_enter Tryz.func34, Tryz.ntmps34
  go_wp2_with fail
  refine (ReqRows.eq_any a1 b1 c1 d1 L1 _ (H1.out.below (n2 w _ _)) (K1.out.below (n2 w _ _)) l1).mono ?_
  rintro e w1 ⟨rfl, hb1⟩
  have E1 : Hid (Eq2 w w1 #[.int .i64 x0, .slice a1 L1.length c1] 58 #[.int .i64 x0, .slice b1 L1.length d1] 58) := Eq2.start hb1
  clear hb1
  have p0 := cellB E1.out.a 0
  have q0 := cellB E1.out.b 0
  have p1 := cellB E1.out.a 1
  have q1 := cellB E1.out.b 1
  go_wp2
  go_ret
  exact ⟨rfl, E1.out.bel⟩
set_option maxHeartbeats 4000000 in
theorem sz_queue (x0 : Int) (a1 : Option Addr) (c1 : Nat) (len1 : Nat) (k : Int) (w : World) (hn1 : (len1 : Int) ≤ 9223372036854775807) (h0 : 0 ≤ k) (h1 : k ≤ 1048576) :
    Calls Tryz.prog 11 #[.agg #[.int .i64 x0, .slice a1 len1 c1], .int .i64 k] w fun e w' => e = .returned (.int .i64 (if (len1 : Int) ≤ k then k - ((len1 : Int)) else -1)) ∧ Below w.heap.size w w' := by
  by_cases s0 : (len1 : Int) ≤ k
  · have u0 : ¬ (k - (len1 : Int)) < 0 := by omega
    rw [if_pos (by omega)]
    go_enter Tryz.func11, Tryz.ntmps11
    go_wp2_with (first | (go_at_call 40; refine (ReqRows.sz_rows a1 c1 len1 k _ hn1 (by omega) (by omega)).mono ?_; rintro e w1 ⟨rfl, rfl⟩; rw [if_pos s0]))
    go_ret
    exact ⟨rfl, n1 _ _⟩
  · rw [if_neg (by omega)]
    go_enter Tryz.func11, Tryz.ntmps11
    go_wp2_with (first | (go_at_call 40; refine (ReqRows.sz_rows a1 c1 len1 k _ hn1 (by omega) (by omega)).mono ?_; rintro e w1 ⟨rfl, rfl⟩; rw [if_neg s0]))
    go_ret
    exact ⟨rfl, n1 _ _⟩
end Go.Proofs.YtnabnghjejncpaaGreat.LawQueue
end
