/- What the model's copy of a limit is: the same numbers, and the same samples in new memory; nothing else turns. -/
import Derived.Test.YtbdkepnjhcdpnaaRows
import Derived.WalkKit
import Derived.WalkSmall
import Derived.BigQuiet
import Derived.Deep.AppendSrc
import Derived.Laws.AppendOwn
import Derived.Test.YtbdkepnjhcdpnaaPairWalks
import Derived.Test.YtbdkepnjhcdpnaaWinOk
import Derived.Test.YtbdkepnjhcdpnaaLimKit
namespace Go.Proofs.Ytbdkepnjhcdpnaa.LimCopy
open Go.RowKit PairWalks WinOk LimKit

theorem app_nil (a : Option Addr) (W : World) (b c : Nat) (ty : TypeId) : (Builtin.append_ #[25, 25] ty #[.slice (some ⟨b, 0, none⟩) 0 0, .slice a 0 c]).run Try.prog W = .ok (.slice (some ⟨b, 0, none⟩) 0 0) W := by
  obtain ⟨i, hi, hz, hs, hb⟩ := info_parts info31
  have hsrc : Src Try.prog i.size 25 (.slice a 0 c) 0 [] W := by
    cases a with
    | none => exact Src.ofNil W Try.underlying25 c
    | some ad => exact Src.ofSlice W Try.underlying25 ad 0 c [] (by simp) (fun j u hu => by simp at hu) (fun u hu => by cases hu)
  have h := run_append_room_src (P := Try.prog) W 25 25 ty 64 i Try.underlying25 hi b 0 0 0 (.slice a 0 c) 0 [] hsrc (by omega) (fun j hj => by simp at hj) (fun j hj => by simp at hj)
  simpa [World.setCells] using h

set_option maxHeartbeats 2000000 in
theorem copy_none (k mn mx sp sl li gd av ws : Int) (c : Nat) (w : World) :
    Calls Try.prog 42 #[.agg #[.int .i64 k, .int .i64 mn, .int .i64 mx, .int .i64 sp, .int .i64 sl, .int .i64 li, .int .i64 gd, .int .i64 av, .int .i64 ws, .slice none 0 c]] w fun e w' => ∃ g, e = .returned (.agg #[.int .i64 k, .int .i64 mn, .int .i64 mx, .int .i64 sp, .int .i64 sl, .int .i64 li, .int .i64 gd, .int .i64 av, .int .i64 ws, .slice (some ⟨g, 0, none⟩) 0 0]) ∧ w.heap.size ≤ g ∧ Below w.heap.size w w' := by
  have hap := app_nil none
  go_enter Try.func42, Try.ntmps42
  go_wp2
  refine bodyPost_ret (v := .agg #[.int .i64 k, .int .i64 mn, .int .i64 mx, .int .i64 sp, .int .i64 sl, .int .i64 li, .int .i64 gd, .int .i64 av, .int .i64 ws, .slice (some ⟨w.heap.size + 1 + 1, 0, none⟩) 0 0]) (by simp [results, Try.results42, go_sem]) rfl ⟨w.heap.size + 1 + 1, rfl, by omega, ?_⟩
  exact (((Below.refl _ _).alloc (Nat.le_refl _) _).alloc (by simp) _).alloc (by simp; omega) _

/-- The cells of samples, one behind the other. -/
def flat (L : List (Int × Int)) : List Value := L.flatMap fun q => [.int .i64 q.1, .int .i64 q.2]
theorem flat_len (L : List (Int × Int)) : (flat L).length = L.length * 2 := by
  induction L with
  | nil => rfl
  | cons q L ih => simp [flat] at ih ⊢; omega
theorem flat_get (L : List (Int × Int)) (i : Nat) (h : i < L.length) : (flat L)[i * 2]? = some (.int .i64 L[i].1) ∧ (flat L)[i * 2 + 1]? = some (.int .i64 L[i].2) := by
  induction L generalizing i with
  | nil => simp at h
  | cons q L ih =>
    cases i with
    | zero => simp [flat]
    | succ i =>
      have := ih i (by simpa using h)
      simp [flat, Nat.succ_mul] at this ⊢
      exact this
theorem flat_one (L : List (Int × Int)) : ∀ u ∈ flat L, u.oneCell' = true := by
  intro u hu
  simp [flat] at hu
  obtain ⟨a, b, _, h⟩ := hu
  rcases h with rfl | rfl <;> rfl
theorem flat_at (L : List (Int × Int)) (j : Nat) (u : Value) (h : (flat L)[j]? = some u) : ∃ i, ∃ hi : i < L.length, (j = i * 2 ∧ u = .int .i64 L[i].1) ∨ (j = i * 2 + 1 ∧ u = .int .i64 L[i].2) := by
  have hj : j < L.length * 2 := by
    have := (List.getElem?_eq_some_iff.1 h).1
    rw [flat_len] at this
    exact this
  have hi : j / 2 < L.length := by omega
  refine ⟨j / 2, hi, ?_⟩
  obtain ⟨h0, h1⟩ := flat_get L (j / 2) hi
  rcases Nat.mod_two_eq_zero_or_one j with hm | hm
  · left
    have e : j = j / 2 * 2 := by omega
    rw [e, h0] at h
    exact ⟨e, (Option.some.inj h).symm⟩
  · right
    have e : j = j / 2 * 2 + 1 := by omega
    rw [e, h1] at h
    exact ⟨e, (Option.some.inj h).symm⟩

/-- A row of the call's own, as a list of samples. -/
theorem own_wok {w : World} {B : Nat} {v : Value} {L : List (Int × Int)} (h : w.ownsRow B 64 2 v L.length (flat L)) (hL : v ≠ .slice none 0 0) : ∃ g cap, v = .slice (some ⟨g, 0, none⟩) L.length cap ∧ B ≤ g ∧ PRow w g 0 L := by
  obtain ⟨hl, ⟨hv, _⟩ | ⟨g, cap, cur, hv, hb, hg, hc, hm, hs, ht⟩⟩ := h
  · exact absurd hv hL
  · refine ⟨g, cap, hv, hb, cur, hg, ?_, fun i hi => ?_⟩
    · rw [hs]
      have := Nat.mul_le_mul_right 2 hc
      omega
    · obtain ⟨h0, h1⟩ := flat_get L i hi
      rw [← ht, List.getElem?_take] at h0 h1
      rw [if_pos (by omega)] at h0 h1
      simpa using And.intro h0 h1

theorem not_nil {v : Value} {m : Nat} {a : Addr} {n c : Nat} (h : v = .slice none 0 0 ↔ Value.slice (some a) n c = .slice none 0 0 ∧ m = 0) : v ≠ .slice none 0 0 := fun e => by
  have := (h.1 e).1
  simp at this

theorem two_kept {w w1 : World} {A B C : Obj} {r : Option Nat} (hgr : (((w.alloc A).alloc B).alloc C).grownBy w1 r) (hr : ∀ n, r = some n → w.heap.size + 2 ≤ n) : w1.heap[w.heap.size]? = some A ∧ w1.heap[w.heap.size + 1]? = some B := by
  have hblk : ∀ n, n < w.heap.size + 2 → w1.heap[n]? = (((w.alloc A).alloc B).alloc C).heap[n]? := fun n hn => hgr.block n (by simp; omega) (fun e => by have := hr n e.symm; omega)
  refine ⟨?_, ?_⟩
  · rw [hblk _ (by omega), Below.heap_alloc _ _ _ (by simp; omega), Below.heap_alloc _ _ _ (by simp)]
    exact heap_alloc_new w _
  · rw [hblk _ (by omega), Below.heap_alloc _ _ _ (by simp)]
    have h2 := heap_alloc_new (w.alloc A) B
    rw [World.size_alloc] at h2
    exact h2

set_option maxHeartbeats 2000000 in
set_option maxRecDepth 8000 in
theorem copy_some (k mn mx sp sl li gd av ws : Int) (ad : Addr) (c : Nat) (L : List (Int × Int)) (w : World) (hr : WOk w (some ad) L) (hl : L.length ≤ 1048577) :
    Calls Try.prog 42 #[.agg #[.int .i64 k, .int .i64 mn, .int .i64 mx, .int .i64 sp, .int .i64 sl, .int .i64 li, .int .i64 gd, .int .i64 av, .int .i64 ws, .slice (some ad) L.length c]] w fun e w' => ∃ b cap, e = .returned (.agg #[.int .i64 k, .int .i64 mn, .int .i64 mx, .int .i64 sp, .int .i64 sl, .int .i64 li, .int .i64 gd, .int .i64 av, .int .i64 ws, .slice (some ⟨b, 0, none⟩) L.length cap]) ∧ w.heap.size ≤ b ∧ PRow w' b 0 L ∧ Below w.heap.size w w' := by
  obtain ⟨i0, hi, hz0, hz1, hz2⟩ := info_parts info31
  have B3 : Below w.heap.size w (((w.alloc (.cells #[.int .i64 k, .int .i64 mn, .int .i64 mx, .int .i64 sp, .int .i64 sl, .int .i64 li, .int .i64 gd, .int .i64 av, .int .i64 ws, .slice (some ad) L.length c] 29)).alloc (.cells #[.int .i64 0, .int .i64 0, .int .i64 0, .int .i64 0, .int .i64 0, .int .i64 0, .int .i64 0, .int .i64 0, .int .i64 0, .slice none 0 0] 29)).alloc (.cells #[] 64)) := (((Below.refl _ _).alloc (Nat.le_refl _) _).alloc (by simp) _).alloc (by simp; omega) _
  have hr3 : WOk (((w.alloc (.cells #[.int .i64 k, .int .i64 mn, .int .i64 mx, .int .i64 sp, .int .i64 sl, .int .i64 li, .int .i64 gd, .int .i64 av, .int .i64 ws, .slice (some ad) L.length c] 29)).alloc (.cells #[.int .i64 0, .int .i64 0, .int .i64 0, .int .i64 0, .int .i64 0, .int .i64 0, .int .i64 0, .int .i64 0, .int .i64 0, .slice none 0 0] 29)).alloc (.cells #[] 64)) (some ad) L := hr.below B3
  have ho : (((w.alloc (.cells #[.int .i64 k, .int .i64 mn, .int .i64 mx, .int .i64 sp, .int .i64 sl, .int .i64 li, .int .i64 gd, .int .i64 av, .int .i64 ws, .slice (some ad) L.length c] 29)).alloc (.cells #[.int .i64 0, .int .i64 0, .int .i64 0, .int .i64 0, .int .i64 0, .int .i64 0, .int .i64 0, .int .i64 0, .int .i64 0, .slice none 0 0] 29)).alloc (.cells #[] 64)).ownsRow (w.heap.size + 2) 64 2 (.slice (some ⟨w.heap.size + 1 + 1, 0, none⟩) 0 0) 0 [] := by
    have := World.ownsRow_made (base := w.heap.size + 2) (e := 64) (size := 2) ((w.alloc (.cells #[.int .i64 k, .int .i64 mn, .int .i64 mx, .int .i64 sp, .int .i64 sl, .int .i64 li, .int .i64 gd, .int .i64 av, .int .i64 ws, .slice (some ad) L.length c] 29)).alloc (.cells #[.int .i64 0, .int .i64 0, .int .i64 0, .int .i64 0, .int .i64 0, .int .i64 0, .int .i64 0, .int .i64 0, .int .i64 0, .slice none 0 0] 29)) #[] 0 (by simp) (by simp [maxLen]) (by simp)
    simpa using this
  have hcell : ∀ j u, (flat L)[j]? = some u → (((w.alloc (.cells #[.int .i64 k, .int .i64 mn, .int .i64 mx, .int .i64 sp, .int .i64 sl, .int .i64 li, .int .i64 gd, .int .i64 av, .int .i64 ws, .slice (some ad) L.length c] 29)).alloc (.cells #[.int .i64 0, .int .i64 0, .int .i64 0, .int .i64 0, .int .i64 0, .int .i64 0, .int .i64 0, .int .i64 0, .int .i64 0, .slice none 0 0] 29)).alloc (.cells #[] 64)).cell? (ad.add j) = some u := fun j u hu => by
    obtain ⟨i, hi2, hu2⟩ := flat_at L j u hu
    rcases hr3 with hr3 | ⟨g, p, e, hr3⟩
    · subst hr3; simp at hi2
    · injection e with e
      subst e
      rcases hu2 with ⟨rfl, rfl⟩ | ⟨rfl, rfl⟩
      · rw [Addr.add_lit]; exact hr3.c0 i hi2
      · rw [Addr.add_lit]; exact hr3.c1 i hi2
  have own2 : ∀ n, (Value.slice (some ⟨w.heap.size + 1 + 1, 0, none⟩) 0 0).ownBlock = some n → w.heap.size + 2 ≤ n := fun n hn => by simp [Value.ownBlock] at hn; omega
  have own0 : ∀ n, (Value.slice (some ⟨w.heap.size + 1 + 1, 0, none⟩) 0 0).ownBlock = some n → w.heap.size ≤ n := fun n hn => by have := own2 n hn; omega
  have HB3 : Hid (Below w.heap.size w (((w.alloc (.cells #[.int .i64 k, .int .i64 mn, .int .i64 mx, .int .i64 sp, .int .i64 sl, .int .i64 li, .int .i64 gd, .int .i64 av, .int .i64 ws, .slice (some ad) L.length c] 29)).alloc (.cells #[.int .i64 0, .int .i64 0, .int .i64 0, .int .i64 0, .int .i64 0, .int .i64 0, .int .i64 0, .int .i64 0, .int .i64 0, .slice none 0 0] 29)).alloc (.cells #[] 64))) := B3
  clear hr3 B3 hr
  go_enter Try.func42, Try.ntmps42
  go_wp2_with (at_builtin; refine wpList_append_own _ rfl (.tmp 3) (.tmp 6) 25 rfl (w.heap.size + 2) 64 i0 (.agg #[.int .i64 0, .int .i64 0]) 2 16 Try.underlying25 hi hz0 hz1 hz2 rfl (by decide) _ 0 [] rfl ho ad L.length c (flat L) rfl (flat_len L) hcell (flat_one L) (by unfold maxLen; omega) (by omega) (by simp) ?_; intro v1 w1 hown hgr hnn; rw [Nat.zero_add, List.nil_append] at hown; obtain ⟨b, cap, rfl, hb, hrow⟩ := own_wok hown (not_nil hnn); obtain ⟨q0, q1⟩ := two_kept hgr own2; have B1 : Hid (Below w.heap.size w w1) := HB3.out.grown hgr HB3.out.size own0; have HR : Hid (PRow w1 b 0 L) := hrow; have f9 := fz_blk q0 9; have c0 := cell_blk q0 0; have c1 := cell_blk q0 1; have c2 := cell_blk q0 2; have c3 := cell_blk q0 3; have c4 := cell_blk q0 4; have c5 := cell_blk q0 5; have c6 := cell_blk q0 6; have c7 := cell_blk q0 7; have c8 := cell_blk q0 8; have c9 := cell_blk q0 9; have d0 := cell_blk q1 0; have e0 := fz_blk q1 0; have d1 := cell_blk q1 1; have e1 := fz_blk q1 1; have d2 := cell_blk q1 2; have e2 := fz_blk q1 2; have d3 := cell_blk q1 3; have e3 := fz_blk q1 3; have d4 := cell_blk q1 4; have e4 := fz_blk q1 4; have d5 := cell_blk q1 5; have e5 := fz_blk q1 5; have d6 := cell_blk q1 6; have e6 := fz_blk q1 6; have d7 := cell_blk q1 7; have e7 := fz_blk q1 7; have d8 := cell_blk q1 8; have e8 := fz_blk q1 8; have d9 := cell_blk q1 9; have e9 := fz_blk q1 9; simp only [List.getElem?_toArray, List.getElem?_cons_zero, List.getElem?_cons_succ] at c0 d0 c1 d1 c2 d2 c3 d3 c4 d4 c5 d5 c6 d6 c7 d7 c8 d8 c9 d9; clear hown hgr hrow q0 q1)
  refine bodyPost_ret (v := .agg #[.int .i64 k, .int .i64 mn, .int .i64 mx, .int .i64 sp, .int .i64 sl, .int .i64 li, .int .i64 gd, .int .i64 av, .int .i64 ws, .slice (some ⟨b, 0, none⟩) L.length cap]) (by simp [results, Try.results42, go_sem, d0, d1, d2, d3, d4, d5, d6, d7, d8, d9]) rfl ⟨b, cap, rfl, by omega, ?_, ?_⟩
  · exact (((((((((((HR.out).set (by show b ≠ w.heap.size; omega) _).set (by show b ≠ w.heap.size + 1; omega) _).set (by show b ≠ w.heap.size + 1; omega) _).set (by show b ≠ w.heap.size + 1; omega) _).set (by show b ≠ w.heap.size + 1; omega) _).set (by show b ≠ w.heap.size + 1; omega) _).set (by show b ≠ w.heap.size + 1; omega) _).set (by show b ≠ w.heap.size + 1; omega) _).set (by show b ≠ w.heap.size + 1; omega) _).set (by show b ≠ w.heap.size + 1; omega) _).set (by show b ≠ w.heap.size + 1; omega) _
  · exact (((((((((((B1.out).setCell (Nat.le_refl _) _).setCell (Nat.le_add_right _ 1) _).setCell (Nat.le_add_right _ 1) _).setCell (Nat.le_add_right _ 1) _).setCell (Nat.le_add_right _ 1) _).setCell (Nat.le_add_right _ 1) _).setCell (Nat.le_add_right _ 1) _).setCell (Nat.le_add_right _ 1) _).setCell (Nat.le_add_right _ 1) _).setCell (Nat.le_add_right _ 1) _).setCell (Nat.le_add_right _ 1) _

/-- What answers a limit: its numbers, and its samples in new memory; nothing else turns. -/
def LAns (w : World) (k mn mx sp sl li gd av ws : Int) (L : List (Int × Int)) (e : Ending) (w' : World) : Prop := ∃ (a : Option Addr) (c : Nat), e = .returned (.agg #[.int .i64 k, .int .i64 mn, .int .i64 mx, .int .i64 sp, .int .i64 sl, .int .i64 li, .int .i64 gd, .int .i64 av, .int .i64 ws, .slice a L.length c]) ∧ WOk w' a L ∧ (∀ b, blk a = some b → w.heap.size ≤ b) ∧ Below w.heap.size w w'

theorem spec_copy (k mn mx sp sl li gd av ws : Int) (a : Option Addr) (c : Nat) (L : List (Int × Int)) (w : World) (ha : WOk w a L) (hl : L.length ≤ 1048577) :
    Calls Try.prog 42 #[.agg #[.int .i64 k, .int .i64 mn, .int .i64 mx, .int .i64 sp, .int .i64 sl, .int .i64 li, .int .i64 gd, .int .i64 av, .int .i64 ws, .slice a L.length c]] w (LAns w k mn mx sp sl li gd av ws L) := by
  cases a with
  | none =>
    have hL : L = [] := by
      rcases ha with h | ⟨g, o, h, _⟩
      · exact h
      · cases h
    subst hL
    exact (copy_none k mn mx sp sl li gd av ws c w).mono fun e w' ⟨g, he, hg, hb⟩ => ⟨some ⟨g, 0, none⟩, 0, he, Or.inl rfl, fun b h => by simp [blk] at h; omega, hb⟩
  | some ad => exact (copy_some k mn mx sp sl li gd av ws ad c L w ha hl).mono fun e w' ⟨b, cap, he, hb, hrow, hB⟩ => ⟨some ⟨b, 0, none⟩, cap, he, Or.inr ⟨b, 0, rfl, hrow⟩, fun k h => by simp [blk] at h; omega, hB⟩
end Go.Proofs.Ytbdkepnjhcdpnaa.LimCopy
