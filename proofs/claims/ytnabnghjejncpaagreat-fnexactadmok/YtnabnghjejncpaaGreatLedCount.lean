/- How many slots of a ledger are used, and how many of one client: the model's and the program's counts; nothing else turns. -/
import Derived.Test.YtnabnghjejncpaaGreatRows
import Derived.WalkKit
import Derived.WalkSmall
import Derived.BigQuiet
import Derived.Deep.RegionWith
import Derived.Test.YtnabnghjejncpaaGreatListKit
import Derived.Test.YtnabnghjejncpaaGreatSlotKit
namespace Go.Proofs.YtnabnghjejncpaaGreat.LedCount
open Go.RowKit ListKit SlotKit
set_option maxRecDepth 8000
set_option linter.unusedVariables false
set_option linter.unusedSimpArgs false

/-- A used slot of this client. -/
def isBy (cl : Int) (s : Slot) : Bool := s.x1 && (s.x3 == cl)
/-- How many of the first k have a property. -/
def cnt (p : Slot → Bool) (L : List Slot) (k : Nat) : Nat := (L.take k).countP p
theorem cnt_zero (p : Slot → Bool) (L : List Slot) : cnt p L 0 = 0 := by simp [cnt]
theorem cnt_all (p : Slot → Bool) (L : List Slot) : cnt p L L.length = L.countP p := by simp [cnt]
theorem cnt_le (p : Slot → Bool) (L : List Slot) (k : Nat) : cnt p L k ≤ k := by
  have h := List.countP_le_length (p := p) (l := L.take k)
  have h2 : (L.take k).length ≤ k := by simp; omega
  unfold cnt; omega
theorem cnt_yes {p : Slot → Bool} {L : List Slot} {k : Nat} (h : k < L.length) (hp : p L[k] = true) : cnt p L (k + 1) = cnt p L k + 1 := by
  unfold cnt
  rw [List.take_succ_eq_append_getElem h, List.countP_append]
  simp [hp]
theorem cnt_no {p : Slot → Bool} {L : List Slot} {k : Nat} (h : k < L.length) (hp : p L[k] = false) : cnt p L (k + 1) = cnt p L k := by
  unfold cnt
  rw [List.take_succ_eq_append_getElem h, List.countP_append]
  simp [hp]
theorem blk_cell {w : World} {b : Nat} {v : Value} {t : TypeId} (h : w.heap[b]? = some (.cells #[v] t (0, 0))) : w.cell? ⟨b, 0, none⟩ = some v ∧ b < w.heap.size := ⟨by simp [World.cell?, h], (Array.getElem?_eq_some_iff.1 h).1⟩

set_option maxHeartbeats 4000000 in
theorem spec_flyingof (a : Option Addr) (c : Nat) (L : List Slot) (cl : Int) (w : World) (h : Own 75 5 cells w a L) (hl : (L.length : Int) ≤ 1048577) :
    Calls Tryz.prog 18 #[.agg #[.slice a L.length c], .int .i64 cl] w fun e w' => e = .returned (.int .i64 (cnt (isBy cl) L L.length : Int)) ∧ Below w.heap.size w w' := by
  have HA : Hid (Own 75 5 cells w a L) := h
  clear h
  obtain ⟨n, hn⟩ : ∃ n, L.length = n := ⟨_, rfl⟩
  have HN : Hid (L.length = n) := hn
  rw [hn] at hl ⊢
  clear hn

  have HB0 : Hid (Below w.heap.size w (w.alloc (.cells #[.slice a n c] 55))) := (Below.refl _ _).alloc (Nat.le_refl _) _
  go_enter Tryz.func18, Tryz.ntmps18
  go_wp2
  go_loopw [5, 11] (fun m i wr => ∃ k q : Nat, k ≤ n ∧ Hid (q = cnt (isBy cl) L k) ∧ q ≤ 1048577 ∧ m = .int .i64 q ∧ i = .int .i64 k ∧ Hid (Below w.heap.size w wr)) (fun _ i _ => n - (intOf i).toNat)
  case atStart => exact ⟨0, 0, by omega, (cnt_zero _ _).symm, by omega, rfl, rfl, HB0⟩
  case round =>
    obtain ⟨k, q, hk, HQ, hq, rfl, rfl, HW⟩ := hrel
    by_cases hlt : k < n
    · have hlt2 : k < L.length := by rw [HN.out]; exact hlt
      rcases HA.out with hnil | ⟨g, o, rfl, hr⟩
      · rw [hnil] at hlt2; simp at hlt2
      · have hr1 : Row 75 5 cells wr g o L := hr.below HW.out
        obtain ⟨sx, hsx⟩ : ∃ s, L[k] = s := ⟨_, rfl⟩
        obtain ⟨x0, x1, x2, x3, x4⟩ := sx
        have u9 := fun j hj => (hr1).cell k hlt2 j hj
        have p0 : wr.cell? ⟨g, o + k * 5, none⟩ = some (.int .i64 x0) := by have h9 := u9 0 (by omega); rw [hsx] at h9; exact h9
        have p1 : wr.cell? ⟨g, o + k * 5 + 1, none⟩ = some (.bool x1) := by have h9 := u9 1 (by omega); rw [hsx] at h9; exact h9
        have p2 : wr.cell? ⟨g, o + k * 5 + 2, none⟩ = some (.int .i64 x2) := by have h9 := u9 2 (by omega); rw [hsx] at h9; exact h9
        have p3 : wr.cell? ⟨g, o + k * 5 + 3, none⟩ = some (.int .i64 x3) := by have h9 := u9 3 (by omega); rw [hsx] at h9; exact h9
        have p4 : wr.cell? ⟨g, o + k * 5 + 4, none⟩ = some (.int .i64 x4) := by have h9 := u9 4 (by omega); rw [hsx] at h9; exact h9
        clear u9
        have hli : (k : Int) < (n : Int) := by omega
        have hqk : q ≤ k := by rw [HQ.out]; exact cnt_le _ _ _
        have HS : Hid (L[k] = ⟨x0, x1, x2, x3, x4⟩) := hsx
        have HG : Hid (Below w.heap.size w (wr.alloc (.cells #[.int .i64 x0, .bool x1, .int .i64 x2, .int .i64 x3, .int .i64 x4] 75))) := HW.out.alloc HW.out.size _
        clear hr hr1 hsx
        cases x1 with
        | false =>
          have HQ2 : Hid (q = cnt (isBy cl) L (k + 1)) := by show _ = _; rw [cnt_no hlt2 (by rw [HS.out]; rfl), HQ.out]
          go_wp2
          go_roundw
          case rel => exact ⟨k + 1, q, by omega, HQ2, by omega, rfl, by go_num, HG⟩
          case measure => simp [intOf]; omega
        | true =>
          by_cases e : x3 = cl
          · have e1 : (x3 == cl) = true := by simpa using e
            have HQ2 : Hid (q + 1 = cnt (isBy cl) L (k + 1)) := by show _ = _; rw [cnt_yes hlt2 (by rw [HS.out]; simp [isBy, e]), HQ.out]
            clear e; go_wp2
            go_roundw
            case rel => exact ⟨k + 1, q + 1, by omega, HQ2, by omega, by go_num, by go_num, HG⟩
            case measure => simp [intOf]; omega
          · have e1 : (x3 == cl) = false := by simpa using e
            have HQ2 : Hid (q = cnt (isBy cl) L (k + 1)) := by show _ = _; rw [cnt_no hlt2 (by rw [HS.out]; simp [isBy, e]), HQ.out]
            go_wp2
            go_roundw
            case rel => exact ⟨k + 1, q, by omega, HQ2, by omega, rfl, by go_num, HG⟩
            case measure => simp [intOf]; omega
    · obtain rfl : k = n := by omega
      have hqe := HQ.out
      subst hqe
      go_wp2
      go_ret
      exact ⟨rfl, HW.out⟩

end Go.Proofs.YtnabnghjejncpaaGreat.LedCount
