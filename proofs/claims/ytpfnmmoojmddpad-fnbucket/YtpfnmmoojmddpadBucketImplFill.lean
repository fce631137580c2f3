/- What filling the program's bucket behind a pointer does to it, and to nothing else, and what it answers behind a pointer; at every right bucket and time. -/
import Derived.Test.YtpfnmmoojmddpadRows
import Derived.WalkKit
import Derived.WalkSmall
import Derived.BigQuiet
import Derived.StillTailTactics
import Derived.Test.YtpfnmmoojmddpadBucketMath
import Derived.Test.YtpfnmmoojmddpadBucketBase
namespace Go.Proofs.Ytpfnmmoojmddpad.BucketImpl
open Go.RowKit BucketMath BucketBase

theorem below_drew {B : Nat} {a w : World} (h : Below B a w) : Below B a w.drew := h.trans ⟨rfl, rfl, rfl, Nat.le_refl _, fun _ _ => rfl⟩

theorem fill_end {w : World} {g : Nat} {b r h t : Int} (F T : Int) (hg : w.heap[g]? = some (.cells #[.int .i64 b, .int .i64 r, .int .i64 h, .int .i64 t] 39 (0, 0))) :
    ((w.setCell ⟨g, 2, none⟩ (.int .i64 F)).setCell ⟨g, 3, none⟩ (.int .i64 T)).drew.heap[g]? = some (.cells #[.int .i64 b, .int .i64 r, .int .i64 F, .int .i64 T] 39 (0, 0)) ∧ Below g w ((w.setCell ⟨g, 2, none⟩ (.int .i64 F)).setCell ⟨g, 3, none⟩ (.int .i64 T)).drew ∧ ((w.setCell ⟨g, 2, none⟩ (.int .i64 F)).setCell ⟨g, 3, none⟩ (.int .i64 T)).drew.heap.size = w.heap.size ∧ ∀ k, k ≠ g → ((w.setCell ⟨g, 2, none⟩ (.int .i64 F)).setCell ⟨g, 3, none⟩ (.int .i64 T)).drew.heap[k]? = w.heap[k]? := by
  refine ⟨?_, below_drew (((Below.refl g w).setCell (p := ⟨g, 2, none⟩) (Nat.le_refl g) _).setCell (p := ⟨g, 3, none⟩) (Nat.le_refl g) _), ?_, fun k hk => ?_⟩
  · have h1 := heap_setCell_same w g 2 _ _ (.int .i64 F) hg
    have h2 := heap_setCell_same _ g 3 _ _ (.int .i64 T) h1
    exact h2
  · show (World.setCell _ _ _).heap.size = _
    rw [World.size_setCell, World.size_setCell]
  · show (World.setCell _ _ _).heap[k]? = _
    rw [Below.heap_setCell _ _ _ _ hk, Below.heap_setCell _ _ _ _ hk]

theorem has_token (g : Nat) (h : Int) (B : Bool) (w : World) (c2 : w.cell? ⟨g, 2, none⟩ = some (.int .i64 h)) (hB : decide (1000 ≤ h) = B) :
    Calls Try.prog 33 #[.pointer (some ⟨g, 0, none⟩)] w fun e w' => e = .returned (.bool B) ∧ w' = w := by
  go_enter Try.func33, Try.ntmps33
  go_wp2
  go_ret
  exact ⟨rfl, rfl⟩

set_option maxHeartbeats 2000000 in
theorem fill_at (g : Nat) (b r h t now : Int) (w : World) (hg : w.heap[g]? = some (.cells #[.int .i64 b, .int .i64 r, .int .i64 h, .int .i64 t] 39 (0, 0))) (hk : bOk b r h t) (hn : isT now) :
    Calls Try.prog 31 #[.pointer (some ⟨g, 0, none⟩), .func (.func 32) #[.int .i64 now] #[]] w fun e w' => e = .returned (.tuple #[]) ∧ w'.heap[g]? = some (.cells #[.int .i64 b, .int .i64 r, .int .i64 (fillH b r h t now), .int .i64 (fillT t now)] 39 (0, 0)) ∧ Below g w w' ∧ w'.heap.size = w.heap.size ∧ ∀ k, k ≠ g → w'.heap[k]? = w.heap[k]? := by
  unfold isT at hn
  unfold bOk at hk
  by_cases hlt : t < now
  · have hc := come_le (r := r) (t := t) (now := now) (by omega) (by omega) (by omega) (by omega)
    have e1 : fillT t now = now := if_pos hlt
    have e2 : fillH b r h t now = if 1000 * b < h + r * (now - t) then 1000 * b else h + r * (now - t) := if_pos hlt
    rw [e1, e2]
    have w1e : IntKind.i64.wrap (now - t) = now - t := by rw [IntKind.wrap_i64]; omega
    have w2e : IntKind.i64.wrap (r * (now - t)) = r * (now - t) := by rw [IntKind.wrap_i64]; omega
    have w3e : IntKind.i64.wrap (h + r * (now - t)) = h + r * (now - t) := by rw [IntKind.wrap_i64]; omega
    have w4e : IntKind.i64.wrap (1000 * b) = 1000 * b := by rw [IntKind.wrap_i64]; omega
    have q0 := cell_blk (w := w.drew) hg 0
    have q1 := cell_blk (w := w.drew) hg 1
    have q2 := cell_blk (w := w.drew) hg 2
    have q3 := cell_blk (w := w.drew) hg 3
    have p3 := cell_blk hg 3
    have HM := most_at g b (1000 * b) w.drew q0 w4e
    have f2 := fz_blk (w := w.drew) hg 2
    have nle : ¬ now ≤ t := by omega
    by_cases hm : h + r * (now - t) < 1000 * b
    · rw [if_neg (by omega)]
      have h2 := heap_setCell_same w g 2 _ _ (.int .i64 (h + r * (now - t))) hg
      have c3 := cell_blk (w := (w.setCell ⟨g, 2, none⟩ (.int .i64 (h + r * (now - t)))).drew) h2 3
      have f3 := fz_blk (w := (w.setCell ⟨g, 2, none⟩ (.int .i64 (h + r * (now - t)))).drew) h2 3
      have HE : Hid _ := fill_end (h + r * (now - t)) now hg
      clear hg e1 e2 hc hk hn h2
      go_enter Try.func31, Try.ntmps31
      go_wp2
      refine wp_region_still_tail 22 (by kernel_rfl) (by kernel_rfl) ?_
      simp only [List.take_succ_cons, List.take_zero, List.drop_succ_cons, List.drop_zero]
      repeat still_step
      still_call HM
      repeat still_step
      refine wpStill_nil ?_
      go_wp2
      exact bodyPost_end (v := .tuple #[]) (by simp [results, Try.results31]) rfl ⟨rfl, HE.out⟩
    · rw [show (if 1000 * b < h + r * (now - t) then 1000 * b else h + r * (now - t)) = 1000 * b from by split <;> omega]
      have h2 := heap_setCell_same w g 2 _ _ (.int .i64 (1000 * b)) hg
      have c3 := cell_blk (w := (w.setCell ⟨g, 2, none⟩ (.int .i64 (1000 * b))).drew) h2 3
      have f3 := fz_blk (w := (w.setCell ⟨g, 2, none⟩ (.int .i64 (1000 * b))).drew) h2 3
      have HE : Hid _ := fill_end (1000 * b) now hg
      clear hg e1 e2 hc hk hn h2
      go_enter Try.func31, Try.ntmps31
      go_wp2
      refine wp_region_still_tail 22 (by kernel_rfl) (by kernel_rfl) ?_
      simp only [List.take_succ_cons, List.take_zero, List.drop_succ_cons, List.drop_zero]
      repeat still_step
      still_call HM
      repeat still_step
      refine wpStill_nil ?_
      go_wp2
      exact bodyPost_end (v := .tuple #[]) (by simp [results, Try.results31]) rfl ⟨rfl, HE.out⟩
  · have e1 : fillT t now = t := if_neg hlt
    have e2 : fillH b r h t now = h := if_neg hlt
    rw [e1, e2]
    have p3 := cell_blk hg 3
    have HG : Hid (w.heap[g]? = some (.cells #[.int .i64 b, .int .i64 r, .int .i64 h, .int .i64 t] 39 (0, 0))) := hg
    have nle : now ≤ t := by omega
    clear hg e1 e2 hk hn
    go_enter Try.func31, Try.ntmps31
    go_wp2
    exact bodyPost_ret (v := .tuple #[]) (by simp [results, Try.results31]) rfl ⟨rfl, HG.out, Below.refl _ _, rfl, fun _ _ => rfl⟩

theorem wait_none (g : Nat) (b r : Int) (w : World) (c0 : w.cell? ⟨g, 0, none⟩ = some (.int .i64 b)) (c1 : w.cell? ⟨g, 1, none⟩ = some (.int .i64 r)) (h : b = 0 ∨ r = 0) :
    Calls Try.prog 34 #[.pointer (some ⟨g, 0, none⟩)] w fun e w' => e = .returned (.tuple #[.int .i64 0, .bool false]) ∧ w' = w := by
  by_cases h0 : b = 0
  · have d0 : (b == 0) = true := by simpa using h0
    clear h h0
    go_enter Try.func34, Try.ntmps34
    go_wp2
    go_ret2
    exact ⟨rfl, rfl⟩
  · have d0 : (b == 0) = false := by simpa using h0
    have d1 : (r == 0) = true := by rcases h with h | h; exact absurd h h0; simpa using h
    clear h h0
    go_enter Try.func34, Try.ntmps34
    go_wp2
    go_ret2
    exact ⟨rfl, rfl⟩

theorem wait_some (g : Nat) (b r F x : Int) (w : World) (c0 : w.cell? ⟨g, 0, none⟩ = some (.int .i64 b)) (c1 : w.cell? ⟨g, 1, none⟩ = some (.int .i64 r)) (c2 : w.cell? ⟨g, 2, none⟩ = some (.int .i64 F)) (k0 : ¬ b = 0) (k1 : ¬ r = 0)
    (u1 : IntKind.i64.wrap (1000 - F) = 1000 - F) (u2 : IntKind.i64.wrap (1000 - F + r) = 1000 - F + r) (u3 : IntKind.i64.wrap (1000 - F + r - 1) = 1000 - F + r - 1) (u4 : IntKind.i64.wrap ((1000 - F + r - 1).tdiv r) = x) :
    Calls Try.prog 34 #[.pointer (some ⟨g, 0, none⟩)] w fun e w' => e = .returned (.tuple #[.int .i64 x, .bool true]) ∧ ∃ n, w' = w.drewN n := by
  have d0 : (b == 0) = false := by simpa using k0
  have d1 : (r == 0) = false := by simpa using k1
  go_enter Try.func34, Try.ntmps34
  go_wp2
  go_quiet (fail)
  go_wp2
  go_ret2
  exact ⟨rfl, _, rfl⟩
end Go.Proofs.Ytpfnmmoojmddpad.BucketImpl
