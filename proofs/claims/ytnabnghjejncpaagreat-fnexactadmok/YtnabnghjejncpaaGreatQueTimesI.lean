/- How often each number stands in a list, as the program counts them in a map; nothing else turns. -/
import Derived.Test.YtnabnghjejncpaaGreatRows
import Derived.WalkKit
import Derived.WalkSmall
import Derived.BigQuiet
import Derived.Deep.RegionWith
import Derived.Deep.DeepCutAuto
import Derived.Test.YtnabnghjejncpaaGreatListKit
import Derived.Test.YtnabnghjejncpaaGreatHoldKit
import Derived.Test.YtnabnghjejncpaaGreatGrowKit
import Derived.Test.YtnabnghjejncpaaGreatMapKit
import Derived.Test.YtnabnghjejncpaaGreatIntKit
import Derived.Test.YtnabnghjejncpaaGreatReqKit
import Derived.Test.YtnabnghjejncpaaGreatQueAll
namespace Go.Proofs.YtnabnghjejncpaaGreat.QueTimesI
open Go.RowKit ListKit HoldKit GrowKit MapKit QueMiscS
set_option maxRecDepth 8000
set_option linter.unusedVariables false
set_option linter.unusedSimpArgs false

theorem zero_int (w : World) : (zeroValue 3).run Tryz.prog w = .ok (.int .i64 0) w := by kernel_rfl
theorem times_push (l : List Int) (k : Nat) (h : k < l.length) (t : Int) : timesOf (l.take (k + 1)) t = if t = l[k] then timesOf (l.take k) l[k] + 1 else timesOf (l.take k) t := by
  rw [times_take l t k h]
  by_cases e : t = l[k]
  · subst e; simp
  · rw [if_neg e, if_neg (by simpa using fun h => e h.symm)]
    rfl
theorem any_times (l : List Int) (k : Nat) (h : k < l.length) (t : Int) : (l.take (k + 1)).any (· == t) = (decide (t = l[k]) || (l.take k).any (· == t)) := by
  rw [List.take_add_one, List.getElem?_eq_getElem h, List.any_append, Bool.or_comm]
  congr 1
  simp
  by_cases e : t = l[k]
  · simp [e]
  · rw [decide_eq_false e, beq_eq_false_iff_ne]
    exact fun h => e h.symm
set_option maxHeartbeats 4000000 in
theorem times_map (a : Option Addr) (c : Nat) (l : List Int) (w : World) (h : Own 3 1 IntKit.cells w a l) (hl : l.length ≤ 1048577) (hc : l.length ≤ c) (hw : ∀ (k : Nat) (h : k < l.length), wf l[k]) :
    Calls Tryz.prog 100 #[.slice a l.length c] w fun e w' => e = .returned (.map (some w.heap.size)) ∧ IM Tryz.prog 3 w' w.heap.size l.length (.int .i64 0) (fun t => .int .i64 (timesOf l t : Nat)) (fun t => l.any (· == t)) ∧ Below w.heap.size w w' := by
  have HA : Hid (Own 3 1 IntKit.cells w a l) := h
  have HWF : Hid (∀ (k : Nat) (h : k < l.length), wf l[k]) := hw
  clear h hw
  obtain ⟨n, hn⟩ : ∃ n, l.length = n := ⟨_, rfl⟩
  have HN : Hid (l.length = n) := hn
  rw [hn] at hl hc ⊢
  clear hn
  have b0 : Hid (IM Tryz.prog 3 (w.alloc (.map #[] 0)) w.heap.size 0 (.int .i64 0) (fun t => .int .i64 (timesOf (l.take 0) t : Nat)) (fun t => (l.take 0).any (· == t)) ∧ Below w.heap.size w (w.alloc (.map #[] 0))) := ⟨(IM.made w _ _ _).cong fun t _ => ⟨rfl, rfl⟩, (Below.refl _ _).alloc (Nat.le_refl _) _⟩
  have hmm := @run_makeMap Tryz.prog
  go_enter Tryz.func100, Tryz.ntmps100
  go_wp2
  go_loopw [5, 9] (fun t5 i wr => ∃ k : Nat, k ≤ n ∧ i = .int .i64 (k : Int) ∧ Hid (IM Tryz.prog 3 wr w.heap.size k (.int .i64 0) (fun t => .int .i64 (timesOf (l.take k) t : Nat)) (fun t => (l.take k).any (· == t)) ∧ Below w.heap.size w wr)) (fun _ i _ => n - (intOf i).toNat)
  case atStart => exact ⟨0, by omega, rfl, b0⟩
  case round =>
    obtain ⟨k, hk, rfl, HW⟩ := hrel
    clear b0
    by_cases hlt : k < n
    · have hlt2 : k < l.length := by rw [HN.out]; exact hlt
      rcases HA.out with hnil | ⟨g, o, rfl, hrw⟩
      · rw [hnil] at hlt2; simp at hlt2
      · have hwx := HWF.out k hlt2
        have hr1 : Row 3 1 IntKit.cells wr g o l := hrw.below HW.out.2
        obtain ⟨y, hy⟩ : ∃ y, l[k] = y := ⟨_, rfl⟩
        have p0 : wr.cell? ⟨g, o + k, none⟩ = some (.int .i64 y) := by
          have h9 := hr1.cell k hlt2 0 (by omega)
          rw [hy, Nat.mul_one] at h9
          exact h9
        rw [hy] at hwx
        have hli : (k : Int) < (n : Int) := by omega
        have hkc : (k : Int) < (c : Int) := by omega
        obtain ⟨u, hu⟩ : ∃ u, timesOf (l.take k) y = u := ⟨_, rfl⟩
        have huk : u ≤ k := by rw [← hu]; exact times_le l y k
        have hlk := HW.out.1.look (m := 148) (e := 3) Tryz.underlying3 Tryz.underlying148 (zero_int wr) hwx
        rw [hu] at hlk
        obtain ⟨w2, hup, him, hgr⟩ := HW.out.1.put (m := 148) (e := 3) Tryz.underlying3 Tryz.underlying148 (by unfold maxLen; omega) hwx (.int .i64 ((u + 1 : Nat) : Int))
        have hw1 : IntKind.i64.wrap ((u : Int) + 1) = ((u + 1 : Nat) : Int) := by rw [IntKind.wrap_i64]; omega
        have hbl := HW.out.1.lt
        have HE : Hid (IM Tryz.prog 3 w2 w.heap.size (k + 1) (.int .i64 0) (fun t => .int .i64 (timesOf (l.take (k + 1)) t : Nat)) (fun t => (l.take (k + 1)).any (· == t)) ∧ Below w.heap.size w w2) := ⟨him.cong fun t _ => ⟨by
            rw [times_push l k hlt2 t, hy]
            by_cases e : t = y
            · rw [if_pos e, if_pos e, hu]
            · rw [if_neg e, if_neg e], by
            rw [any_times l k hlt2 t, hy]⟩, HW.out.2.grown hgr HW.out.2.size (fun q hq => by injection hq with hq; omega)⟩
        clear hr1 hrw hy him hgr hwx hu
        go_wp2_with (at_mapUpdate; refine wpList_put _ rfl _ _ _ 148 rfl (.map (some w.heap.size)) (.int .i64 y) (.int .i64 ((u + 1 : Nat) : Int)) w2 rfl rfl (by first | rfl | (simp [Act.eval]; try omega)) hup ?_)
        go_roundw
        case rel => exact ⟨k + 1, by omega, by go_num, HE⟩
        case measure => simp [intOf]; omega
    · obtain rfl : k = n := by omega
      have hfull : Hid (l.take k = l) := by
        show _ = _
        rw [← HN.out, List.take_length]
      rw [hfull.out] at HW
      go_wp2
      go_ret
      exact ⟨rfl, HW.out.1, HW.out.2⟩
end Go.Proofs.YtnabnghjejncpaaGreat.QueTimesI
