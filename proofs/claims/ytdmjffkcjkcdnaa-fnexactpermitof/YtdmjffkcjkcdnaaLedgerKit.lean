/- What the laws' helpers on ledgers and permits do: a ledger is copied, found equal to its like, marked and found marked; nothing else turns; no condition but those written in each. -/
import Derived.Test.YtdmjffkcjkcdnaaRows
import Derived.WalkKit
import Derived.WalkSmall
import Derived.BigQuiet
import Derived.Test.YtdmjffkcjkcdnaaListKit
import Derived.Test.YtdmjffkcjkcdnaaSlotKit
import Derived.Test.YtdmjffkcjkcdnaaSlotRows
namespace Go.Proofs.Ytdmjffkcjkcdnaa.LedgerKit
open Go.RowKit ListKit SlotKit SlotRows
set_option maxRecDepth 8000
set_option linter.unusedVariables false
set_option linter.unusedSimpArgs false

theorem box1 {w w1 : World} {A : Obj} (hb : Below (w.alloc A).heap.size (w.alloc A) w1) : Hid (w1.heap[w.heap.size]? = some A ∧ Below w.heap.size w w1 ∧ w.heap.size < w1.heap.size) := by
  have hs := hb.size
  simp at hs
  exact ⟨(hb.block _ (by simp)).trans (heap_alloc_new w A), ((Below.refl _ _).alloc (Nat.le_refl _) _).trans (hb.mono (by simp)), by omega⟩

set_option maxHeartbeats 1000000 in
theorem to_ledger (a : Option Addr) (cap : Nat) (L : List Slot) (w : World) (ha : SlotRows.Arg w a L) (hl : L.length ≤ 1048577) :
    Calls Try.prog 14 #[.agg #[.slice a L.length cap]] w fun e w' => ∃ g, e = .returned (.agg #[.slice (some ⟨g, 0, none⟩) L.length L.length]) ∧ w.heap.size ≤ g ∧ Row 25 5 cells w' g 0 L ∧ Below w.heap.size w w' := by
  have HA : Hid (SlotRows.Arg w a L) := ha
  clear ha
  go_enter Try.func14, Try.ntmps14
  go_wp2_with fail
  refine (to_rows a cap L _ (HA.out.below ((((Below.refl _ _).alloc (Nat.le_refl _) _).alloc (by simp) _).alloc (by simp; omega) _)) hl).mono ?_
  rintro e w1 ⟨g, rfl, hg, hr, hb⟩
  have h3 : Hid (w1.heap[w.heap.size + 1 + 1]? = some (.cells #[.slice none 0 0] 35 (0, 0)) ∧ w1.heap[w.heap.size + 1]? = some (.cells #[.slice none 0 0] 35 (0, 0))) := by
    refine ⟨?_, ?_⟩
    · rw [hb.block _ (by simp)]
      have := heap_alloc_new ((w.alloc (.cells #[.slice a L.length cap] 30)).alloc (.cells #[.slice none 0 0] 35)) (.cells #[.slice none 0 0] 35)
      simpa using this
    · rw [hb.block _ (by simp), Below.heap_alloc _ _ _ (by simp)]
      have := heap_alloc_new (w.alloc (.cells #[.slice a L.length cap] 30)) (.cells #[.slice none 0 0] 35)
      simpa using this
  have HR : Hid (Row 25 5 cells w1 g 0 L ∧ w.heap.size + 1 + 1 < g) := ⟨hr, by simp at hg; omega⟩
  have HB : Hid (Below w.heap.size w w1) := ((((Below.refl _ _).alloc (Nat.le_refl _) _).alloc (by simp) _).alloc (by simp; omega) _).trans (hb.mono (by simp; omega))
  have c0 := cellB h3.out.1 0
  have f0 := fzB h3.out.1 0
  have d0 := cellB h3.out.2 0
  have e0 := fzB h3.out.2 0
  clear hg hr hb h3
  go_wp2
  refine bodyPost_ret (v := .agg #[.slice (some ⟨g, 0, none⟩) L.length L.length]) (by simp [results, Try.results14, go_sem, c0, d0]) rfl ⟨g, rfl, by have := HR.out.2; omega, ?_, ?_⟩
  · exact ((HR.out.1).set (by show g ≠ w.heap.size + 1 + 1; have := HR.out.2; omega) _).set (by show g ≠ w.heap.size + 1; have := HR.out.2; omega) _
  · exact ((HB.out).setCell (Nat.le_add_right _ 2) _).setCell (Nat.le_add_right _ 1) _

theorem eq_ledger (a1 a2 : Option Addr) (c1 c2 : Nat) (L : List Slot) (w : World) (h1 : Own 25 5 cells w a1 L) (h2 : Own 25 5 cells w a2 L) (hl : L.length ≤ 1048577) :
    Calls Try.prog 16 #[.agg #[.slice a1 L.length c1], .agg #[.slice a2 L.length c2]] w fun e w' => e = .returned (.bool true) ∧ Below w.heap.size w w' := by
  have hb : ∀ A B : Obj, Below w.heap.size w ((w.alloc A).alloc B) := fun A B => ((Below.refl _ _).alloc (Nat.le_refl _) _).alloc (by simp) _
  have H := fun A B => eq_any a1 a2 c1 c2 L ((w.alloc A).alloc B) (h1.below (hb A B)) (h2.below (hb A B)) hl
  have HB : Hid (∀ A B : Obj, Below w.heap.size w ((w.alloc A).alloc B)) := hb
  clear h1 h2 hb
  go_enter Try.func16, Try.ntmps16
  go_wp2_with (go_at_call 36; refine (H _ _).mono ?_; rintro e w1 ⟨rfl, b1⟩; have B1 : Hid (Below w.heap.size w w1) := (HB.out _ _).trans (b1.mono (HB.out _ _).size); clear b1)
  go_ret
  exact ⟨rfl, B1.out⟩

theorem mark_ledger (a : Option Addr) (c : Nat) (L : List Slot) (w : World) (h : Own 25 5 cells w a L) (hl : L.length ≤ 1048577) :
    Calls Try.prog 24 #[.agg #[.slice a L.length c], .int .i64 1] w fun e w' => e = .returned (.int .i64 (1 + 5 * (L.length : Int))) ∧ Own 25 5 cells w' a (marks 1 L.length) ∧ w.grownBy w' (blkL a L) := by
  have H := fun A => mark_any a c 1 L (w.alloc A) (h.below ((Below.refl _ _).alloc (Nat.le_refl _) _)) hl (by omega)
  clear h
  go_enter Try.func24, Try.ntmps24
  go_wp2_with fail
  refine (H _).mono ?_
  rintro e w1 ⟨rfl, hr, hg⟩
  have HR : Hid (Own 25 5 cells w1 a (marks 1 L.length)) := hr
  have HG : Hid (w.grownBy w1 (blkL a L)) := by
    have hs := hg.size
    exact ⟨hg.os, hg.tape, hg.output, by simp at hs; omega, fun k hk hne => (hg.block k (by simp; omega) hne).trans (Below.heap_alloc w _ k hk)⟩
  clear hr hg
  go_wp2
  go_ret
  exact ⟨rfl, HR.out, HG.out⟩

theorem held_ledger (a : Option Addr) (c n : Nat) (w : World) (h : Own 25 5 cells w a (marks 1 n)) (hl : n ≤ 1048577) :
    Calls Try.prog 25 #[.agg #[.slice a n c], .int .i64 1] w fun e w' => e = .returned (.int .i64 (1 + 5 * (n : Int))) ∧ Below w.heap.size w w' := by
  have H := fun A => held_any a c 1 n (w.alloc A) (h.below ((Below.refl _ _).alloc (Nat.le_refl _) _)) hl (by omega)
  have t1 : ¬ 1 + 5 * (n : Int) < 0 := by omega
  clear h
  go_enter Try.func25, Try.ntmps25
  go_wp2_with fail
  refine (H _).mono ?_
  rintro e w1 ⟨rfl, hw⟩
  rw [hw]
  clear hw
  go_wp2
  go_ret
  exact ⟨rfl, (Below.refl _ _).alloc (Nat.le_refl _) _⟩

theorem sz_ledger (a : Option Addr) (c n : Nat) (w : World) (hn : (n : Int) ≤ 9223372036854775807) :
    Calls Try.prog 12 #[.agg #[.slice a n c], .int .i64 1048576] w fun e w' => e = .returned (.int .i64 (if (n : Int) ≤ 1048576 then 1048576 - (n : Int) else -1)) ∧ Below w.heap.size w w' := by
  have H := fun A => sz_rows a c n 1048576 (w.alloc A) hn (by omega) (by omega)
  by_cases h : (n : Int) ≤ 1048576
  · rw [if_pos h] at *
    have t1 : ¬ 1048576 - (n : Int) < 0 := by omega
    go_enter Try.func12, Try.ntmps12
    go_wp2_with (go_at_call 33; refine (H _).mono ?_; rintro e w1 ⟨rfl, hw⟩; rw [hw]; clear hw)
    go_ret
    exact ⟨rfl, (Below.refl _ _).alloc (Nat.le_refl _) _⟩
  · rw [if_neg h] at *
    go_enter Try.func12, Try.ntmps12
    go_wp2_with (go_at_call 33; refine (H _).mono ?_; rintro e w1 ⟨rfl, hw⟩; rw [hw]; clear hw)
    go_ret
    exact ⟨rfl, (Below.refl _ _).alloc (Nat.le_refl _) _⟩

theorem eq_permit (x y : Int) (w : World) : Calls Try.prog 23 #[.agg #[.int .i64 x, .int .i64 y], .agg #[.int .i64 x, .int .i64 y]] w fun e w' => e = .returned (.bool true) ∧ Below w.heap.size w w' := by
  have h1 : (x != x) = false := by simp
  have h2 : (y != y) = false := by simp
  go_enter Try.func23, Try.ntmps23
  go_wp2
  go_ret
  exact ⟨rfl, ((Below.refl _ _).alloc (Nat.le_refl _) _).alloc (by simp) _⟩

end Go.Proofs.Ytdmjffkcjkcdnaa.LedgerKit
