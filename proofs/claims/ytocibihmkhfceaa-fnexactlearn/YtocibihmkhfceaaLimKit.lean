/- What the laws' helpers on limits do: a limit is copied whole, found equal to its like, marked and found marked; nothing else turns; no condition but those written in each. -/
import Derived.Test.YtocibihmkhfceaaRows
import Derived.WalkKit
import Derived.WalkSmall
import Derived.BigQuiet
import Derived.Test.YtocibihmkhfceaaPairWalks
import Derived.Test.YtocibihmkhfceaaMarkKit
namespace Go.Proofs.Ytocibihmkhfceaa.LimKit
open Go.RowKit PairWalks MarkKit

theorem bcell {W w1 : World} (hb : Below W.heap.size W w1) : (∀ b o, b < W.heap.size → w1.cell? ⟨b, o, none⟩ = W.cell? ⟨b, o, none⟩) ∧ (∀ b o, b < W.heap.size → w1.frozen? ⟨b, o, none⟩ = W.frozen? ⟨b, o, none⟩) :=
  ⟨fun b o h => hb.cell (p := ⟨b, o, none⟩) h, fun b o h => hb.frozen (p := ⟨b, o, none⟩) h⟩

theorem _root_.Go.Proofs.Ytocibihmkhfceaa.PairWalks.PRow.set {w : World} {g o : Nat} {L : List (Int × Int)} {p : Addr} (h : PRow w g o L) (hne : g ≠ p.block) (v : Value) : PRow (w.setCell p v) g o L := h.same (Below.heap_setCell _ _ _ _ hne)

theorem to_cfg (k mn mx sp sl : Int) (w : World) :
    Calls Try.prog 11 #[.agg #[.int .i64 k, .int .i64 mn, .int .i64 mx, .int .i64 sp, .int .i64 sl]] w fun e w' => e = .returned (.agg #[.int .i64 k, .int .i64 mn, .int .i64 mx, .int .i64 sp, .int .i64 sl]) ∧ Below w.heap.size w w' := by
  go_enter Try.func11, Try.ntmps11
  go_wp2
  exact bodyPost_ret (v := .agg #[.int .i64 k, .int .i64 mn, .int .i64 mx, .int .i64 sp, .int .i64 sl]) (by simp [results, Try.results11, go_sem]) rfl ⟨rfl, (((Below.refl _ _).alloc (Nat.le_refl _) _).alloc (by simp) _).alloc (by simp; omega) _⟩

set_option maxHeartbeats 1000000 in
theorem eq_cfg (k mn mx sp sl : Int) (w : World) :
    Calls Try.prog 37 #[.agg #[.int .i64 k, .int .i64 mn, .int .i64 mx, .int .i64 sp, .int .i64 sl], .agg #[.int .i64 k, .int .i64 mn, .int .i64 mx, .int .i64 sp, .int .i64 sl]] w fun e w' => e = .returned (.bool true) ∧ Below w.heap.size w w' := by
  have h1 : (k != k) = false := by simp
  have h2 : (mn != mn) = false := by simp
  have h3 : (mx != mx) = false := by simp
  have h4 : (sp != sp) = false := by simp
  have h5 : (sl != sl) = false := by simp
  go_enter Try.func37, Try.ntmps37
  go_wp2
  go_ret
  exact ⟨rfl, ((Below.refl _ _).alloc (Nat.le_refl _) _).alloc (by simp) _⟩

set_option maxHeartbeats 2000000 in
theorem to_lim (k mn mx sp sl li gd av ws : Int) (a : Option Addr) (cap : Nat) (L : List (Int × Int)) (w : World) (ha : L = [] ∨ ∃ b o, a = some ⟨b, o, none⟩ ∧ PArg w b o L) (hl : L.length ≤ 1048577) :
    Calls Try.prog 15 #[.agg #[.int .i64 k, .int .i64 mn, .int .i64 mx, .int .i64 sp, .int .i64 sl, .int .i64 li, .int .i64 gd, .int .i64 av, .int .i64 ws, .slice a L.length cap]] w fun e w' => ∃ g, e = .returned (.agg #[.int .i64 k, .int .i64 mn, .int .i64 mx, .int .i64 sp, .int .i64 sl, .int .i64 li, .int .i64 gd, .int .i64 av, .int .i64 ws, .slice (some ⟨g, 0, none⟩) L.length L.length]) ∧ w.heap.size ≤ g ∧ PRow w' g 0 L ∧ Below w.heap.size w w' := by
  have HA : Hid (∀ W : World, Below w.heap.size w W → (L = [] ∨ ∃ b o, a = some ⟨b, o, none⟩ ∧ PArg W b o L)) := fun W hW => by
    rcases ha with h | ⟨b, o, h1, h2⟩
    · exact Or.inl h
    · exact Or.inr ⟨b, o, h1, h2.below hW⟩
  clear ha
  go_enter Try.func15, Try.ntmps15
  go_wp2_with fail
  refine (to_cfg k mn mx sp sl _).mono ?_
  rintro e w1 ⟨rfl, hb1⟩
  obtain ⟨hc1, hf1⟩ := bcell hb1
  have hz1 : w.heap.size + 1 + 1 < w1.heap.size := by have := hb1.size; simp at this; omega
  have hy1 : w.heap.size + 1 < w1.heap.size := by omega
  have hx1 : w.heap.size < w1.heap.size := by omega
  have B1 : Hid (Below w.heap.size w w1) := ((((Below.refl _ _).alloc (Nat.le_refl _) _).alloc (by simp) _).alloc (by simp; omega) _).trans (hb1.mono (by simp; omega))
  clear hb1
  go_wp2_with fail
  refine (to_window ws a cap L _ (HA.out _ (((((((((B1.out).setCell (Nat.le_add_right _ 2) _).setCell (Nat.le_add_right _ 2) _).setCell (Nat.le_add_right _ 2) _).setCell (Nat.le_add_right _ 2) _).setCell (Nat.le_add_right _ 2) _).setCell (Nat.le_add_right _ 2) _).setCell (Nat.le_add_right _ 2) _).setCell (Nat.le_add_right _ 2) _)) hl).mono ?_
  rintro e w2 ⟨g, rfl, hg, hr, hb2⟩
  obtain ⟨hc2, hf2⟩ := bcell hb2
  have hz2 : w.heap.size + 1 + 1 < w2.heap.size := by have := hb2.size; simp at this; omega
  have hy2 : w.heap.size + 1 < w2.heap.size := by omega
  have hx2 : w.heap.size < w2.heap.size := by omega
  have hg2 : w.heap.size + 1 + 1 < g := by simp at hg; omega
  have HR : Hid (PRow w2 g 0 L) := hr
  have B2 : Hid (Below w.heap.size w w2) := (((((((((B1.out).setCell (Nat.le_add_right _ 2) _).setCell (Nat.le_add_right _ 2) _).setCell (Nat.le_add_right _ 2) _).setCell (Nat.le_add_right _ 2) _).setCell (Nat.le_add_right _ 2) _).setCell (Nat.le_add_right _ 2) _).setCell (Nat.le_add_right _ 2) _).setCell (Nat.le_add_right _ 2) _).trans (hb2.mono (by simp; omega))
  clear hb2 hg hr
  go_wp2
  refine bodyPost_ret (v := .agg #[.int .i64 k, .int .i64 mn, .int .i64 mx, .int .i64 sp, .int .i64 sl, .int .i64 li, .int .i64 gd, .int .i64 av, .int .i64 ws, .slice (some ⟨g, 0, none⟩) L.length L.length]) (by simp [results, Try.results15, go_sem, hc1, hc2, hy1]) rfl ⟨g, rfl, by omega, ?_, ?_⟩
  · exact ((((((((((((HR.out).set (Nat.ne_of_gt hg2) _).set (Nat.ne_of_gt hg2) _).set (by show g ≠ w.heap.size + 1; omega) _).set (by show g ≠ w.heap.size + 1; omega) _).set (by show g ≠ w.heap.size + 1; omega) _).set (by show g ≠ w.heap.size + 1; omega) _).set (by show g ≠ w.heap.size + 1; omega) _).set (by show g ≠ w.heap.size + 1; omega) _).set (by show g ≠ w.heap.size + 1; omega) _).set (by show g ≠ w.heap.size + 1; omega) _).set (by show g ≠ w.heap.size + 1; omega) _).set (by show g ≠ w.heap.size + 1; omega) _
  · exact ((((((((((((B2.out).setCell (Nat.le_add_right _ 2) _).setCell (Nat.le_add_right _ 2) _).setCell (Nat.le_add_right _ 1) _).setCell (Nat.le_add_right _ 1) _).setCell (Nat.le_add_right _ 1) _).setCell (Nat.le_add_right _ 1) _).setCell (Nat.le_add_right _ 1) _).setCell (Nat.le_add_right _ 1) _).setCell (Nat.le_add_right _ 1) _).setCell (Nat.le_add_right _ 1) _).setCell (Nat.le_add_right _ 1) _).setCell (Nat.le_add_right _ 1) _

set_option maxHeartbeats 2000000 in
theorem eq_lim (k mn mx sp sl li gd av ws : Int) (a1 a2 : Option Addr) (c1 c2 : Nat) (L : List (Int × Int)) (w : World) (h1 : WOk w a1 L) (h2 : WOk w a2 L) (hl : L.length ≤ 1048577) :
    Calls Try.prog 17 #[.agg #[.int .i64 k, .int .i64 mn, .int .i64 mx, .int .i64 sp, .int .i64 sl, .int .i64 li, .int .i64 gd, .int .i64 av, .int .i64 ws, .slice a1 L.length c1], .agg #[.int .i64 k, .int .i64 mn, .int .i64 mx, .int .i64 sp, .int .i64 sl, .int .i64 li, .int .i64 gd, .int .i64 av, .int .i64 ws, .slice a2 L.length c2]] w fun e w' => e = .returned (.bool true) ∧ Below w.heap.size w w' := by
  have H1 : Hid (WOk w a1 L) := h1
  have H2 : Hid (WOk w a2 L) := h2
  clear h1 h2
  have t5 : (li != li) = false := by simp
  have t6 : (gd != gd) = false := by simp
  have t7 : (av != av) = false := by simp
  go_enter Try.func17, Try.ntmps17
  go_wp2_with fail
  refine (eq_cfg k mn mx sp sl _).mono ?_
  rintro e w1 ⟨rfl, hb1⟩
  obtain ⟨hc1, hf1⟩ := bcell hb1
  have hy1 : w.heap.size + 1 < w1.heap.size := by have := hb1.size; simp at this; omega
  have hx1 : w.heap.size < w1.heap.size := by omega
  have B1 : Hid (Below w.heap.size w w1) := (((Below.refl _ _).alloc (Nat.le_refl _) _).alloc (by simp) _).trans (hb1.mono (by simp; omega))
  clear hb1
  go_wp2_with fail
  refine (eq_window ws a1 a2 c1 c2 L _ (H1.out.below B1.out) (H2.out.below B1.out) hl).mono ?_
  rintro e w2 ⟨rfl, hb2⟩
  have B2 : Hid (Below w.heap.size w w2) := B1.out.trans (hb2.mono (by omega))
  clear hb2
  go_wp2
  go_ret
  exact ⟨rfl, B2.out⟩

set_option maxHeartbeats 1000000 in
theorem mark_lim (k mn mx sp sl li gd av ws : Int) (a : Option Addr) (c : Nat) (L : List (Int × Int)) (w : World) (h : WOk w a L) (hl : L.length ≤ 1048577) :
    Calls Try.prog 20 #[.agg #[.int .i64 k, .int .i64 mn, .int .i64 mx, .int .i64 sp, .int .i64 sl, .int .i64 li, .int .i64 gd, .int .i64 av, .int .i64 ws, .slice a L.length c], .int .i64 1] w fun e w' => e = .returned (.int .i64 (1 + 2 * (L.length : Int))) ∧ WOk w' a (pmarks 1 L.length) ∧ w.grownBy w' (blkL a L) := by
  have H1 : Hid (WOk w a L) := h
  clear h
  go_enter Try.func20, Try.ntmps20
  go_wp2_with fail
  have B1 : ∀ A : Obj, Below w.heap.size w (w.alloc A) := fun A => (Below.refl _ _).alloc (Nat.le_refl _) _
  refine (mark_list ws a c L _ (H1.out.below (B1 _)) hl).mono ?_
  rintro e w1 ⟨rfl, hr, hg⟩
  have HR : Hid (WOk w1 a (pmarks 1 L.length)) := hr
  have HG : Hid (w.grownBy w1 (blkL a L)) := by
    have hs := hg.size
    exact ⟨hg.os, hg.tape, hg.output, by simp at hs; omega, fun k hk hne => (hg.block k (by simp; omega) hne).trans (Below.heap_alloc w _ k hk)⟩
  clear hr hg B1
  go_wp2
  go_ret
  exact ⟨rfl, HR.out, HG.out⟩

set_option maxHeartbeats 1000000 in
theorem held_lim (k mn mx sp sl li gd av ws : Int) (a : Option Addr) (c n : Nat) (w : World) (h : WOk w a (pmarks 1 n)) (hl : n ≤ 1048577) :
    Calls Try.prog 21 #[.agg #[.int .i64 k, .int .i64 mn, .int .i64 mx, .int .i64 sp, .int .i64 sl, .int .i64 li, .int .i64 gd, .int .i64 av, .int .i64 ws, .slice a n c], .int .i64 1] w fun e w' => e = .returned (.int .i64 (1 + 2 * (n : Int))) ∧ Below w.heap.size w w' := by
  have H1 : Hid (WOk w a (pmarks 1 n)) := h
  clear h
  go_enter Try.func21, Try.ntmps21
  go_wp2_with fail
  have B1 : ∀ A : Obj, Below w.heap.size w (w.alloc A) := fun A => (Below.refl _ _).alloc (Nat.le_refl _) _
  refine (held_window ws a c n _ (H1.out.below (B1 _)) hl).mono ?_
  rintro e w1 ⟨rfl, hb⟩
  have t1 : ¬ 1 + 2 * (n : Int) < 0 := by omega
  have HB : Hid (Below w.heap.size w w1) := (B1 _).trans (hb.mono (by simp))
  clear hb
  go_wp2
  go_ret
  exact ⟨rfl, HB.out⟩

theorem sz_lim (k mn mx sp sl li gd av ws : Int) (a : Option Addr) (c n : Nat) (w : World) (hn : (n : Int) ≤ 9223372036854775807) :
    Calls Try.prog 13 #[.agg #[.int .i64 k, .int .i64 mn, .int .i64 mx, .int .i64 sp, .int .i64 sl, .int .i64 li, .int .i64 gd, .int .i64 av, .int .i64 ws, .slice a n c], .int .i64 1048576] w fun e w' => e = .returned (.int .i64 (if (n : Int) ≤ 1048576 then 1048576 - (n : Int) else -1)) ∧ Below w.heap.size w w' := by
  by_cases h : (n : Int) ≤ 1048576
  · have HS := fun W => sz_window ws a c n W hn
    rw [if_pos h] at HS ⊢
    go_enter Try.func13, Try.ntmps13
    go_wp2_with (go_at_call 33; refine (HS _).mono ?_; rintro e w1 ⟨rfl, hb⟩)
    go_ret
    exact ⟨rfl, ((Below.refl _ _).alloc (Nat.le_refl _) _).trans (hb.mono (by simp))⟩
  · have HS := fun W => sz_window ws a c n W hn
    rw [if_neg h] at HS ⊢
    go_enter Try.func13, Try.ntmps13
    go_wp2_with (go_at_call 33; refine (HS _).mono ?_; rintro e w1 ⟨rfl, hb⟩)
    go_ret
    exact ⟨rfl, ((Below.refl _ _).alloc (Nat.le_refl _) _).trans (hb.mono (by simp))⟩

end Go.Proofs.Ytocibihmkhfceaa.LimKit
