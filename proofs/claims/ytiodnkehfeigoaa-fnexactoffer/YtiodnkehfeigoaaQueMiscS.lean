/- What the model's QueueNew answers, and how often a number stands in a list, as the model counts; nothing else turns. -/
import Derived.Test.YtiodnkehfeigoaaRows
import Derived.WalkKit
import Derived.WalkSmall
import Derived.BigQuiet
import Derived.Deep.RegionWith
import Derived.Deep.DeepCutAuto
import Derived.Test.YtiodnkehfeigoaaListKit
import Derived.Test.YtiodnkehfeigoaaHoldKit
import Derived.Test.YtiodnkehfeigoaaReqKit
import Derived.Test.YtiodnkehfeigoaaIntKit
namespace Go.Proofs.Ytiodnkehfeigoaa.QueMiscS
open Go.RowKit ListKit HoldKit
set_option maxRecDepth 8000
set_option linter.unusedVariables false
set_option linter.unusedSimpArgs false

def roomOk (n : Int) : Bool := decide (0 ≤ n ∧ n ≤ 50)
def newRoom (n : Int) : Int := if roomOk n = true then n else 0
/-- How often n stands in the list. -/
def timesOf (l : List Int) (n : Int) : Nat := (l.filter (fun y => y == n)).length
theorem times_take (l : List Int) (n : Int) (k : Nat) (h : k < l.length) : timesOf (l.take (k + 1)) n = timesOf (l.take k) n + (if (l[k] == n) = true then 1 else 0) := by
  unfold timesOf
  rw [List.take_add_one, List.getElem?_eq_getElem h, List.filter_append, List.length_append]
  congr 1
  simp [List.filter]
  split <;> simp_all
theorem times_le (l : List Int) (n : Int) (k : Nat) : timesOf (l.take k) n ≤ k := Nat.le_trans (List.length_filter_le _ _) (by rw [List.length_take]; omega)
theorem new_list (w : World) : Holds w w.heap.size [⟨none, 39, 6, ([] : List ReqKit.Req).map ReqKit.cells⟩] := Holds.own (f := ReqKit.cells) (L := []) (Or.inl rfl) (fun b hb => by simp [blkL] at hb)
def NewAns (w : World) (y : Int) (B : Bool) (e : Ending) (w' : World) : Prop := ∃ a2 c2, e = .returned (.tuple #[.agg #[.int .i64 y, .slice a2 ([] : List ReqKit.Req).length c2], .bool B]) ∧ ([] : List ReqKit.Req).length ≤ c2 ∧ Holds w' w.heap.size [⟨a2, 39, 6, ([] : List ReqKit.Req).map ReqKit.cells⟩] ∧ Below w.heap.size w w'
set_option maxHeartbeats 1000000 in
theorem spec_queuenew (n : Int) (w : World) :
    Calls Try.prog 16 #[.int .i64 n] w (NewAns w (newRoom n) (roomOk n)) := by
  have HB : Hid (∀ o : Obj, Holds (w.alloc o) w.heap.size [⟨none, 39, 6, ([] : List ReqKit.Req).map ReqKit.cells⟩]) := fun o => (new_list w).below (n1 _ _)
  by_cases h1 : n < 0
  · have e : roomOk n = false := by simp [roomOk]; omega
    rw [show newRoom n = 0 by unfold newRoom; rw [e]; rfl, e]
    go_enter Try.func16, Try.ntmps16
    go_wp2
    exact bodyPost_ret (v := .tuple #[.agg #[.int .i64 0, .slice none 0 0], .bool false]) (by simp [results, Try.results16, go_sem]) rfl ⟨none, 0, rfl, Nat.le_refl _, HB.out _, n1 _ _⟩
  · by_cases h2 : n ≤ 50
    · have e : roomOk n = true := by simp [roomOk]; omega
      have d : decide (50 < n) = false := by simp; omega
      rw [show newRoom n = n by unfold newRoom; rw [e]; rfl, e]
      go_enter Try.func16, Try.ntmps16
      go_wp2
      exact bodyPost_ret (v := .tuple #[.agg #[.int .i64 n, .slice none 0 0], .bool true]) (by simp [results, Try.results16, go_sem]) rfl ⟨none, 0, rfl, Nat.le_refl _, HB.out _, n1 _ _⟩
    · have e : roomOk n = false := by simp [roomOk]; omega
      have d : decide (50 < n) = true := by simp; omega
      rw [show newRoom n = 0 by unfold newRoom; rw [e]; rfl, e]
      go_enter Try.func16, Try.ntmps16
      go_wp2
      exact bodyPost_ret (v := .tuple #[.agg #[.int .i64 0, .slice none 0 0], .bool false]) (by simp [results, Try.results16, go_sem]) rfl ⟨none, 0, rfl, Nat.le_refl _, HB.out _, n1 _ _⟩
set_option maxHeartbeats 2000000 in
theorem spec_times (a : Option Addr) (c : Nat) (l : List Int) (x : Int) (w : World) (h : Own 3 1 IntKit.cells w a l) (hl : l.length ≤ 1048577) (hc : l.length ≤ c) :
    Calls Try.prog 57 #[.slice a l.length c, .int .i64 x] w fun e w' => e = .returned (.int .i64 (timesOf l x : Int)) ∧ w' = w := by
  have HA : Hid (Own 3 1 IntKit.cells w a l) := h
  clear h
  obtain ⟨n, hn⟩ : ∃ n, l.length = n := ⟨_, rfl⟩
  have HN : Hid (l.length = n) := hn
  rw [hn] at hl hc ⊢
  clear hn
  go_enter Try.func57, Try.ntmps57
  go_wp2
  go_loop [5, 7, 10] (fun s y i => ∃ k t : Nat, k ≤ n ∧ t ≤ k ∧ s = .int .i64 (t : Int) ∧ i = .int .i64 (k : Int) ∧ Hid (t = timesOf (l.take k) x)) (fun _ _ i => n - (intOf i).toNat)
  case atStart => exact ⟨0, 0, by omega, by omega, rfl, rfl, (rfl : 0 = timesOf [] x)⟩
  case round =>
    obtain ⟨k, t, hk, htk, rfl, rfl, HT⟩ := hrel
    by_cases hlt : k < n
    · have hlt2 : k < l.length := by rw [HN.out]; exact hlt
      rcases HA.out with hnil | ⟨g, o, rfl, hrw⟩
      · rw [hnil] at hlt2; simp at hlt2
      · obtain ⟨y, hy⟩ : ∃ y, l[k] = y := ⟨_, rfl⟩
        have p0 : w.cell? ⟨g, o + k, none⟩ = some (.int .i64 y) := by
          have h9 := hrw.cell k hlt2 0 (by omega)
          rw [hy] at h9
          simpa [IntKit.cells] using h9
        have hli : (k : Int) < (n : Int) := by omega
        have hkc : (k : Int) < (c : Int) := by omega
        have HS := times_take l x k hlt2
        rw [hy, ← HT.out] at HS
        clear hrw hy
        by_cases e : y = x
        · have e1 : (y == x) = true := by simpa using e
          have HT2 : Hid (t + 1 = timesOf (l.take (k + 1)) x) := by
            show t + 1 = _
            rw [HS, e1]
            rfl
          clear e HS HT
          go_wp2
          go_round
          case rel => exact ⟨k + 1, t + 1, by omega, by omega, by go_num, by go_num, HT2⟩
          case measure => simp [intOf]; omega
        · have e1 : (y == x) = false := by simpa using e
          have HT2 : Hid (t = timesOf (l.take (k + 1)) x) := by
            show t = _
            rw [HS, e1]
            rfl
          clear e HS HT
          go_wp2
          go_round
          case rel => exact ⟨k + 1, t, by omega, by omega, rfl, by go_num, HT2⟩
          case measure => simp [intOf]; omega
    · obtain rfl : k = n := by omega
      have HE : Hid (t = timesOf l x) := by
        show t = _
        rw [HT.out, ← HN.out, List.take_length]
      go_wp2
      go_ret
      exact ⟨by rw [HE.out]; rfl, rfl⟩
end Go.Proofs.Ytiodnkehfeigoaa.QueMiscS
