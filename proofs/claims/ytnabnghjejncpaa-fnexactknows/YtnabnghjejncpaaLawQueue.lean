/- What the laws' helpers on the struct Queue do: it is copied into new memory, found equal to its like, marked and found marked, and measured; nothing else turns; no condition but those written in each. -/
import Derived.Test.YtnabnghjejncpaaRows
import Derived.WalkKit
import Derived.WalkSmall
import Derived.BigQuiet
import Derived.Deep.RegionWith
import Derived.Deep.DeepCutAuto
import Derived.Test.YtnabnghjejncpaaListKit
import Derived.Test.YtnabnghjejncpaaHoldKit
import Derived.Test.YtnabnghjejncpaaHoldMore
import Derived.Test.YtnabnghjejncpaaReqKit
import Derived.Test.YtnabnghjejncpaaReqRows
namespace Go.Proofs.Ytnabnghjejncpaa.LawQueue
open Go.RowKit ListKit HoldKit HoldMore
set_option maxRecDepth 8000
set_option linter.unusedVariables false
set_option linter.unusedSimpArgs false

set_option maxHeartbeats 4000000 in
theorem to_queue (x0 : Int) (a1 : Option Addr) (c1 : Nat) (L1 : List ReqKit.Req) (w : World) (h1 : ReqRows.Arg w a1 L1) (l1 : L1.length ≤ 1048577) :
    Calls Try.prog 65 #[.agg #[.int .i64 x0, .slice a1 L1.length c1]] w fun e w' => ∃ g1, e = .returned (.agg #[.int .i64 x0, .slice (some ⟨g1, 0, none⟩) L1.length L1.length]) ∧ Holds w' w.heap.size [⟨some ⟨g1, 0, none⟩, 161, 6, (L1).map ReqKit.cells⟩] ∧ Below w.heap.size w w' := by
  have H1 : Hid (ReqRows.Arg w a1 L1) := h1
  clear h1
  go_enter Try.func65, Try.ntmps65
  go_wp2_with fail
  refine (ReqRows.to_rows a1 c1 L1 _ (H1.out.below (n3 w _ _ _)) l1).mono ?_
  rintro e w1 ⟨g1, rfl, hg1, hr1, hb1⟩
  have E1 : Hid (Cp w w1 #[.int .i64 x0, .slice a1 L1.length c1] 71 #[.int .i64 0, .slice none 0 0] #[.int .i64 x0, .slice none 0 0] 42 [⟨some ⟨g1, 0, none⟩, 161, 6, (L1).map ReqKit.cells⟩]) := Cp.start hb1 (Holds.row hr1 hg1)
  clear hb1 hg1 hr1
  have uc0 := cellB (E1.out).c 0
  have uf0 := fzB (E1.out).c 0
  have uc1 := cellB (E1.out).c 1
  have uf1 := fzB (E1.out).c 1
  have ua0 := cellB (E1.out).a 0
  have ua1 := cellB (E1.out).a 1
  go_upto_region 4 with fail
  have F1 : Hid (Cp w (w1.setCell ⟨w.heap.size + 1 + 1, 1, none⟩ (.slice (some ⟨g1, 0, none⟩) L1.length L1.length)) #[.int .i64 x0, .slice a1 L1.length c1] 71 #[.int .i64 0, .slice none 0 0] #[.int .i64 x0, .slice (some ⟨g1, 0, none⟩) L1.length L1.length] 42 [⟨some ⟨g1, 0, none⟩, 161, 6, (L1).map ReqKit.cells⟩]) := (E1.out).set 1 (.slice (some ⟨g1, 0, none⟩) L1.length L1.length)
  generalize (w1.setCell ⟨w.heap.size + 1 + 1, 1, none⟩ (.slice (some ⟨g1, 0, none⟩) L1.length L1.length)) = v1 at *
  clear E1 uc0 uf0 ua0 uc1 uf1 ua1
  have uc0 := cellB (F1.out).c 0
  have uf0 := fzB (F1.out).c 0
  have uc1 := cellB (F1.out).c 1
  have uf1 := fzB (F1.out).c 1
  have ua0 := cellB (F1.out).a 0
  have ua1 := cellB (F1.out).a 1
  have ud0 := cellB (F1.out).z 0
  have ue0 := fzB (F1.out).z 0
  have ud1 := cellB (F1.out).z 1
  have ue1 := fzB (F1.out).z 1
  go_wp2
  have G : Hid (Cp w ((v1.setCell ⟨w.heap.size + 1, 0, none⟩ (.int .i64 x0)).setCell ⟨w.heap.size + 1, 1, none⟩ (.slice (some ⟨g1, 0, none⟩) L1.length L1.length)) #[.int .i64 x0, .slice a1 L1.length c1] 71 #[.int .i64 x0, .slice (some ⟨g1, 0, none⟩) L1.length L1.length] #[.int .i64 x0, .slice (some ⟨g1, 0, none⟩) L1.length L1.length] 42 [⟨some ⟨g1, 0, none⟩, 161, 6, (L1).map ReqKit.cells⟩]) := ((F1.out).ans 0 (.int .i64 x0)).ans 1 (.slice (some ⟨g1, 0, none⟩) L1.length L1.length)
  generalize ((v1.setCell ⟨w.heap.size + 1, 0, none⟩ (.int .i64 x0)).setCell ⟨w.heap.size + 1, 1, none⟩ (.slice (some ⟨g1, 0, none⟩) L1.length L1.length)) = vz at *
  clear F1 uc0 uf0 ua0 uc1 uf1 ua1 ud0 ue0 ud1 ue1
  have ud0 := cellB G.out.z 0
  have ud1 := cellB G.out.z 1
  exact bodyPost_ret (v := .agg #[.int .i64 x0, .slice (some ⟨g1, 0, none⟩) L1.length L1.length]) (by simp [results, Try.results65, go_sem, ud0, ud1]) rfl ⟨g1, rfl, G.out.holds.low (Nat.le_add_right _ 3), G.out.bel⟩
set_option maxHeartbeats 4000000 in
theorem eq_queue (x0 : Int) (a1 : Option Addr) (c1 : Nat) (L1 : List ReqKit.Req) (b1 : Option Addr) (d1 : Nat) (w : World) (h1 : Own 161 6 ReqKit.cells w a1 L1) (k1 : Own 161 6 ReqKit.cells w b1 L1) (l1 : L1.length ≤ 1048577) :
    Calls Try.prog 45 #[.agg #[.int .i64 x0, .slice a1 L1.length c1], .agg #[.int .i64 x0, .slice b1 L1.length d1]] w fun e w' => e = .returned (.bool true) ∧ Below w.heap.size w w' := by
  have H1 : Hid (Own 161 6 ReqKit.cells w a1 L1) := h1
  have K1 : Hid (Own 161 6 ReqKit.cells w b1 L1) := k1
  clear h1 k1
  have t0 : (x0 != x0) = false := by simp
  go_enter Try.func45, Try.ntmps45
  go_wp2_with fail
  refine (ReqRows.eq_any a1 b1 c1 d1 L1 _ (H1.out.below (n2 w _ _)) (K1.out.below (n2 w _ _)) l1).mono ?_
  rintro e w1 ⟨rfl, hb1⟩
  have E1 : Hid (Eq2 w w1 #[.int .i64 x0, .slice a1 L1.length c1] 42 #[.int .i64 x0, .slice b1 L1.length d1] 42) := Eq2.start hb1
  clear hb1
  have p0 := cellB E1.out.a 0
  have q0 := cellB E1.out.b 0
  have p1 := cellB E1.out.a 1
  have q1 := cellB E1.out.b 1
  go_wp2
  go_ret
  exact ⟨rfl, E1.out.bel⟩
set_option maxHeartbeats 4000000 in
theorem mark_queue (x0 : Int) (a1 : Option Addr) (c1 : Nat) (L1 : List ReqKit.Req) (k lo : Nat) (kI : Int) (w : World) (h : Holds w lo [⟨a1, 161, 6, (L1).map ReqKit.cells⟩]) (l1 : L1.length ≤ 1048577) (hk : k ≤ 500000000) (hkI : kI = (k : Int)) :
    Calls Try.prog 49 #[.agg #[.int .i64 x0, .slice a1 L1.length c1], .int .i64 kI] w fun e w' => e = .returned (.int .i64 (kI + 6 * (L1.length : Int))) ∧ Holds w' lo [⟨a1, 161, 6, ((ReqRows.marks (k) L1.length)).map ReqKit.cells⟩] ∧ Turn [⟨a1, 161, 6, (L1).map ReqKit.cells⟩] w w' := by
  subst hkI
  have O : Hid (Off w.heap.size [⟨a1, 161, 6, (L1).map ReqKit.cells⟩]) := Off.above h (Nat.le_refl _)
  have E0 : Hid (Mk w (w.alloc (.cells #[.int .i64 x0, .slice a1 L1.length c1] 42)) #[.int .i64 x0, .slice a1 L1.length c1] 42 lo [⟨a1, 161, 6, (L1).map ReqKit.cells⟩] [⟨a1, 161, 6, (L1).map ReqKit.cells⟩]) := Mk.start h _ _
  clear h
  go_enter Try.func49, Try.ntmps49
  go_wp2_with fail
  refine (ReqRows.mark_any a1 c1 (k) L1 _ (E0.out.holds.get (by simp)) l1 (by omega)).mono ?_
  rintro e w1 ⟨rfl, ho1, hg1⟩
  have E1 : Hid (Mk w w1 #[.int .i64 x0, .slice a1 L1.length c1] 42 lo [⟨a1, 161, 6, ((ReqRows.marks (k) L1.length)).map ReqKit.cells⟩] [⟨a1, 161, 6, (L1).map ReqKit.cells⟩]) := Mk.next (l1 := []) (l2 := []) (i := ⟨a1, 161, 6, (L1).map ReqKit.cells⟩) (i' := ⟨a1, 161, 6, ((ReqRows.marks (k) L1.length)).map ReqKit.cells⟩) E0.out (own_cells ho1) (blk_len (by rw [List.length_map, List.length_map, ReqRows.marks_length])) (Turn.one hg1) (by simp) O.out
  clear ho1 hg1 E0
  go_wp2
  go_ret
  exact ⟨rfl, E1.out.holds, E1.out.turn⟩
set_option maxHeartbeats 4000000 in
theorem held_queue (x0 : Int) (a1 : Option Addr) (c1 : Nat) (L1 : List ReqKit.Req) (k lo : Nat) (kI : Int) (w : World) (h : Holds w lo [⟨a1, 161, 6, ((ReqRows.marks (k) L1.length)).map ReqKit.cells⟩]) (l1 : L1.length ≤ 1048577) (hk : k ≤ 500000000) (hkI : kI = (k : Int)) :
    Calls Try.prog 53 #[.agg #[.int .i64 x0, .slice a1 L1.length c1], .int .i64 kI] w fun e w' => e = .returned (.int .i64 (kI + 6 * (L1.length : Int))) ∧ Below w.heap.size w w' := by
  subst hkI
  have H : Hid (Holds (w.alloc (.cells #[.int .i64 x0, .slice a1 L1.length c1] 42)) lo [⟨a1, 161, 6, ((ReqRows.marks (k) L1.length)).map ReqKit.cells⟩]) := h.below (n1 _ _)
  clear h
  go_enter Try.func53, Try.ntmps53
  go_wp2_with fail
  refine (ReqRows.held_any a1 c1 (k) L1.length _ (H.out.get (by simp)) l1 (by omega)).mono ?_
  rintro e w1 ⟨rfl, rfl⟩
  have z1 : ¬ ((k : Int) + 6 * (L1.length : Int)) < 0 := by omega
  go_wp2
  go_ret
  exact ⟨rfl, n1 _ _⟩
set_option maxHeartbeats 4000000 in
theorem sz_queue (x0 : Int) (a1 : Option Addr) (c1 : Nat) (len1 : Nat) (k : Int) (w : World) (hn1 : (len1 : Int) ≤ 9223372036854775807) (h0 : 0 ≤ k) (h1 : k ≤ 1048576) :
    Calls Try.prog 60 #[.agg #[.int .i64 x0, .slice a1 len1 c1], .int .i64 k] w fun e w' => e = .returned (.int .i64 (if (len1 : Int) ≤ k then k - ((len1 : Int)) else -1)) ∧ Below w.heap.size w w' := by
  by_cases s0 : (len1 : Int) ≤ k
  · have u0 : ¬ (k - (len1 : Int)) < 0 := by omega
    rw [if_pos (by omega)]
    go_enter Try.func60, Try.ntmps60
    go_wp2_with (first | (go_at_call 96; refine (ReqRows.sz_rows a1 c1 len1 k _ hn1 (by omega) (by omega)).mono ?_; rintro e w1 ⟨rfl, rfl⟩; rw [if_pos s0]))
    go_ret
    exact ⟨rfl, n1 _ _⟩
  · rw [if_neg (by omega)]
    go_enter Try.func60, Try.ntmps60
    go_wp2_with (first | (go_at_call 96; refine (ReqRows.sz_rows a1 c1 len1 k _ hn1 (by omega) (by omega)).mono ?_; rintro e w1 ⟨rfl, rfl⟩; rw [if_neg s0]))
    go_ret
    exact ⟨rfl, n1 _ _⟩
end Go.Proofs.Ytnabnghjejncpaa.LawQueue
