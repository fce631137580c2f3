/- What the program's own copy of a window is, and what its Back answers, at every limit; nothing else turns. -/
import Derived.Test.YtbdkepnjhcdpnaaRows
import Derived.WalkKit
import Derived.WalkSmall
import Derived.BigQuiet
import Derived.Deep.RegionWith
import Derived.Test.YtbdkepnjhcdpnaaPairWalks
import Derived.Test.YtbdkepnjhcdpnaaWinOk
import Derived.Test.YtbdkepnjhcdpnaaTrimWalks
import Derived.Test.YtbdkepnjhcdpnaaPushWalks
import Derived.Test.YtbdkepnjhcdpnaaQueue
import Derived.Test.YtbdkepnjhcdpnaaQueueOf
import Derived.Test.YtbdkepnjhcdpnaaImplTrim
import Derived.Test.YtbdkepnjhcdpnaaLimKit
import Derived.Test.YtbdkepnjhcdpnaaLimSpec
import Derived.Test.YtbdkepnjhcdpnaaLimCopy
import Derived.Test.YtbdkepnjhcdpnaaLimBack
import Derived.Test.YtbdkepnjhcdpnaaLimImpl
namespace Go.Proofs.Ytbdkepnjhcdpnaa.LimImplBack
open Go.RowKit PairWalks WinOk PushWalks Queue QueueOf ImplTrim LimKit LimCopy LimBack LimImpl
open LimSpec (limOk cfgOk)
set_option maxRecDepth 8000

set_option maxHeartbeats 1000000 in
theorem own_window (ws : Int) (a : Option Addr) (c : Nat) (L : List (Int × Int)) (w : World) (ha : WOk w a L) (hl : L.length ≤ 1048577) :
    Calls Try.prog 22 #[.agg #[.int .i64 ws, .slice a L.length c]] w (Answers w ws L) := by
  have hbw : Below w.heap.size w ((w.alloc (.cells #[.int .i64 ws, .slice a L.length c] 27)).alloc (.cells #[.int .i64 0, .slice none 0 0] 27)) := ((Below.refl _ _).alloc (Nat.le_refl _) _).alloc (by simp) _
  have HA : Hid (WOk ((w.alloc (.cells #[.int .i64 ws, .slice a L.length c] 27)).alloc (.cells #[.int .i64 0, .slice none 0 0] 27)).drew a L) := ha.below hbw.drew
  have HBW : Hid (Below w.heap.size w ((w.alloc (.cells #[.int .i64 ws, .slice a L.length c] 27)).alloc (.cells #[.int .i64 0, .slice none 0 0] 27))) := hbw
  clear ha hbw
  go_enter Try.func22, Try.ntmps22
  go_wp2
  go_region_with (go_at_call 31; refine (clone a c L _ HA.out hl).mono ?_; rintro e w1 ⟨a2, c2, rfl, hv, hb0⟩; have hb := ((Below.refl _ _).drew).trans hb0; obtain ⟨⟨c0, c1⟩, ⟨c2', c3⟩, c4, c5⟩ := TrimWalks.boxes hb; have f0 := c4 0; have f1 := c4 1; clear hb0)
  all_goals
    go_wp2
    exact bodyPost_ret (v := .agg #[.int .i64 ws, .slice a2 L.length c2]) (by simp [results, Try.results22, go_sem, c2', c3]) rfl (answer_of hv (by simp) (HBW.out.trans (hb.mono (by simp; omega))))

theorem hid_two {w w1 : World} {A B : Obj} (hb : Below ((w.alloc A).alloc B).heap.size ((w.alloc A).alloc B) w1) : Hid (w1.heap[w.heap.size]? = some A ∧ w1.heap[w.heap.size + 1]? = some B) := by
  refine ⟨?_, ?_⟩
  · rw [hb.block _ (by simp; omega), Below.heap_alloc _ _ _ (by simp)]
    exact heap_alloc_new w _
  · rw [hb.block _ (by simp)]
    have := heap_alloc_new (w.alloc A) B
    simpa using this

set_option maxHeartbeats 2000000 in
theorem impl_back_no (k mn mx sp sl li gd av ws : Int) (a : Option Addr) (c : Nat) (L : List (Int × Int)) (w : World) (ha : WOk w a L) (hl : (L.length : Int) ≤ 1048577) (hn : ¬ limOk k mn mx sp sl li gd av ws L) :
    Calls Try.prog 11 #[.agg #[.int .i64 k, .int .i64 mn, .int .i64 mx, .int .i64 sp, .int .i64 sl, .int .i64 li, .int .i64 gd, .int .i64 av, .int .i64 ws, .slice a L.length c]] w (LAns w 0 0 0 0 0 0 0 0 0 []) := by
  have HO := fun W h => impl_limok k mn mx sp sl li gd av ws a c L false W h hl ⟨fun e => (by cases e), fun e => absurd e hn⟩
  have HA : Hid (WOk w a L) := ha
  clear ha hn
  go_enter Try.func11, Try.ntmps11
  go_wp2_with (go_at_call 7; refine (HO _ (HA.out.below (((Below.refl _ _).alloc (Nat.le_refl _) _).alloc (by simp) _))).mono ?_; rintro e w1 ⟨rfl, hb1⟩; obtain ⟨hc1, hf1⟩ := bcell hb1; have hy1 := bsize hb1; have hx1 : w.heap.size < w1.heap.size := Nat.lt_of_succ_lt hy1; have B1 : Hid (Below w.heap.size w w1) := past_two hb1; clear hb1)
  refine bodyPost_ret (v := .agg #[.int .i64 0, .int .i64 0, .int .i64 0, .int .i64 0, .int .i64 0, .int .i64 0, .int .i64 0, .int .i64 0, .int .i64 0, .slice none 0 0]) (by simp [results, Try.results11, go_sem, hc1]) rfl ⟨none, 0, rfl, Or.inl rfl, fun b h => by simp [blk] at h, ?_⟩
  exact ((((((((((B1.out).setCell (Nat.le_add_right _ 1) _).setCell (Nat.le_add_right _ 1) _).setCell (Nat.le_add_right _ 1) _).setCell (Nat.le_add_right _ 1) _).setCell (Nat.le_add_right _ 1) _).setCell (Nat.le_add_right _ 1) _).setCell (Nat.le_add_right _ 1) _).setCell (Nat.le_add_right _ 1) _).setCell (Nat.le_add_right _ 1) _).setCell (Nat.le_add_right _ 1) _


set_option maxHeartbeats 4000000 in
theorem impl_back_low (k mn mx sp sl li gd av ws : Int) (a : Option Addr) (c : Nat) (L : List (Int × Int)) (w : World) (ha : WOk w a L) (hl : (L.length : Int) ≤ 1048577) (hk : limOk k mn mx sp sl li gd av ws L) (hm : li * 9 / 10 < mn) :
    Calls Try.prog 11 #[.agg #[.int .i64 k, .int .i64 mn, .int .i64 mx, .int .i64 sp, .int .i64 sl, .int .i64 li, .int .i64 gd, .int .i64 av, .int .i64 ws, .slice a L.length c]] w (LAns w k mn mx sp sl mn 0 av ws L) := by
  have HO := fun W h => impl_limok k mn mx sp sl li gd av ws a c L true W h hl ⟨fun _ => hk, fun _ => rfl⟩
  have HW := fun W h => own_window ws a c L W h (by omega)
  have HA : Hid (WOk w a L) := ha
  have l0 : 1 ≤ li := by have h1 := hk.1.2.1; have h2 := hk.2.1; omega
  have l1 : li ≤ 1000 := by have h1 := hk.1.2.2.2.1; have h2 := hk.2.2.1; omega
  clear ha hk
  go_enter Try.func11, Try.ntmps11
  go_wp2_with (first | (go_at_call 7; refine (HO _ (HA.out.below (((Below.refl _ _).alloc (Nat.le_refl _) _).alloc (by simp) _))).mono ?_; rintro e w1 ⟨rfl, hb1⟩; have hy1 := bsize hb1; have hx1 : w.heap.size < w1.heap.size := Nat.lt_of_succ_lt hy1; have B1 : Hid (Below w.heap.size w w1) := past_two hb1; have P1 := hid_two hb1; have c0 := cell_blk P1.out.1 0; have c4 := cell_blk P1.out.1 4; have c8 := cell_blk P1.out.1 8; have c9 := cell_blk P1.out.1 9; clear hb1) | (go_at_call 22; refine (HW _ (HA.out.below B1.out)).mono ?_; clear c0 c4 c8 c9; rintro e w2 ⟨a2, c2', rfl, r2, g2, hb2⟩; have hy2 : w.heap.size + 1 < w2.heap.size := Nat.lt_of_lt_of_le hy1 hb2.size; have hx2 : w.heap.size < w2.heap.size := Nat.lt_of_succ_lt hy2; have B2 : Hid (Below w.heap.size w w2) := B1.out.trans (hb2.mono (Nat.le_of_lt hx1)); have R2 : Hid (WOk w2 a2 L ∧ ∀ b, blk a2 = some b → w1.heap.size ≤ b) := ⟨r2, g2⟩; have q0 := (hb2.block _ hx1).trans P1.out.1; have q1 := (hb2.block _ hy1).trans P1.out.2; have c0 := cell_blk q0 0; have f0 := fz_blk q0 0; have c1 := cell_blk q0 1; have f1 := fz_blk q0 1; have c2 := cell_blk q0 2; have f2 := fz_blk q0 2; have c3 := cell_blk q0 3; have f3 := fz_blk q0 3; have c4 := cell_blk q0 4; have f4 := fz_blk q0 4; have c5 := cell_blk q0 5; have f5 := fz_blk q0 5; have c6 := cell_blk q0 6; have f6 := fz_blk q0 6; have c7 := cell_blk q0 7; have f7 := fz_blk q0 7; have c8 := cell_blk q0 8; have f8 := fz_blk q0 8; have c9 := cell_blk q0 9; have f9 := fz_blk q0 9; have d0 := cell_blk q1 0; have e0 := fz_blk q1 0; have d1 := cell_blk q1 1; have e1 := fz_blk q1 1; have d2 := cell_blk q1 2; have e2 := fz_blk q1 2; have d3 := cell_blk q1 3; have e3 := fz_blk q1 3; have d4 := cell_blk q1 4; have e4 := fz_blk q1 4; have d5 := cell_blk q1 5; have e5 := fz_blk q1 5; have d6 := cell_blk q1 6; have e6 := fz_blk q1 6; have d7 := cell_blk q1 7; have e7 := fz_blk q1 7; have d8 := cell_blk q1 8; have e8 := fz_blk q1 8; have d9 := cell_blk q1 9; have e9 := fz_blk q1 9; clear hb2 r2 g2 q0 q1 P1))
  refine bodyPost_ret (v := .agg #[.int .i64 k, .int .i64 mn, .int .i64 mx, .int .i64 sp, .int .i64 sl, .int .i64 mn, .int .i64 0, .int .i64 av, .int .i64 ws, .slice a2 L.length c2']) (by simp [results, Try.results11, go_sem, d0, d1, d2, d3, d4, d5, d6, d7, d8, d9]) rfl ⟨a2, c2', rfl, ?_, fun b h => by have := R2.out.2 b h; omega, ?_⟩
  · exact ((((((((((((((R2.out.1).setw (fun b h => by show b ≠ w.heap.size; have := R2.out.2 b h; omega) _).setw (fun b h => by show b ≠ w.heap.size; have := R2.out.2 b h; omega) _).setw (fun b h => by show b ≠ w.heap.size; have := R2.out.2 b h; omega) _).setw (fun b h => by show b ≠ w.heap.size; have := R2.out.2 b h; omega) _).setw (fun b h => by show b ≠ w.heap.size + 1; have := R2.out.2 b h; omega) _).setw (fun b h => by show b ≠ w.heap.size + 1; have := R2.out.2 b h; omega) _).setw (fun b h => by show b ≠ w.heap.size + 1; have := R2.out.2 b h; omega) _).setw (fun b h => by show b ≠ w.heap.size + 1; have := R2.out.2 b h; omega) _).setw (fun b h => by show b ≠ w.heap.size + 1; have := R2.out.2 b h; omega) _).setw (fun b h => by show b ≠ w.heap.size + 1; have := R2.out.2 b h; omega) _).setw (fun b h => by show b ≠ w.heap.size + 1; have := R2.out.2 b h; omega) _).setw (fun b h => by show b ≠ w.heap.size + 1; have := R2.out.2 b h; omega) _).setw (fun b h => by show b ≠ w.heap.size + 1; have := R2.out.2 b h; omega) _).setw (fun b h => by show b ≠ w.heap.size + 1; have := R2.out.2 b h; omega) _
  · exact ((((((((((((((B2.out).setCell (Nat.le_refl _) _).setCell (Nat.le_refl _) _).setCell (Nat.le_refl _) _).setCell (Nat.le_refl _) _).setCell (Nat.le_add_right _ 1) _).setCell (Nat.le_add_right _ 1) _).setCell (Nat.le_add_right _ 1) _).setCell (Nat.le_add_right _ 1) _).setCell (Nat.le_add_right _ 1) _).setCell (Nat.le_add_right _ 1) _).setCell (Nat.le_add_right _ 1) _).setCell (Nat.le_add_right _ 1) _).setCell (Nat.le_add_right _ 1) _).setCell (Nat.le_add_right _ 1) _

set_option maxHeartbeats 4000000 in
theorem impl_back_high (k mn mx sp sl li gd av ws : Int) (a : Option Addr) (c : Nat) (L : List (Int × Int)) (w : World) (ha : WOk w a L) (hl : (L.length : Int) ≤ 1048577) (hk : limOk k mn mx sp sl li gd av ws L) (hm : ¬ li * 9 / 10 < mn) :
    Calls Try.prog 11 #[.agg #[.int .i64 k, .int .i64 mn, .int .i64 mx, .int .i64 sp, .int .i64 sl, .int .i64 li, .int .i64 gd, .int .i64 av, .int .i64 ws, .slice a L.length c]] w (LAns w k mn mx sp sl (li * 9 / 10) 0 av ws L) := by
  have HO := fun W h => impl_limok k mn mx sp sl li gd av ws a c L true W h hl ⟨fun _ => hk, fun _ => rfl⟩
  have HW := fun W h => own_window ws a c L W h (by omega)
  have HA : Hid (WOk w a L) := ha
  have l0 : 1 ≤ li := by have h1 := hk.1.2.1; have h2 := hk.2.1; omega
  have l1 : li ≤ 1000 := by have h1 := hk.1.2.2.2.1; have h2 := hk.2.2.1; omega
  clear ha hk
  go_enter Try.func11, Try.ntmps11
  go_wp2_with (first | (go_at_call 7; refine (HO _ (HA.out.below (((Below.refl _ _).alloc (Nat.le_refl _) _).alloc (by simp) _))).mono ?_; rintro e w1 ⟨rfl, hb1⟩; have hy1 := bsize hb1; have hx1 : w.heap.size < w1.heap.size := Nat.lt_of_succ_lt hy1; have B1 : Hid (Below w.heap.size w w1) := past_two hb1; have P1 := hid_two hb1; have c0 := cell_blk P1.out.1 0; have c4 := cell_blk P1.out.1 4; have c8 := cell_blk P1.out.1 8; have c9 := cell_blk P1.out.1 9; clear hb1) | (go_at_call 22; refine (HW _ (HA.out.below B1.out)).mono ?_; clear c0 c4 c8 c9; rintro e w2 ⟨a2, c2', rfl, r2, g2, hb2⟩; have hy2 : w.heap.size + 1 < w2.heap.size := Nat.lt_of_lt_of_le hy1 hb2.size; have hx2 : w.heap.size < w2.heap.size := Nat.lt_of_succ_lt hy2; have B2 : Hid (Below w.heap.size w w2) := B1.out.trans (hb2.mono (Nat.le_of_lt hx1)); have R2 : Hid (WOk w2 a2 L ∧ ∀ b, blk a2 = some b → w1.heap.size ≤ b) := ⟨r2, g2⟩; have q0 := (hb2.block _ hx1).trans P1.out.1; have q1 := (hb2.block _ hy1).trans P1.out.2; have c0 := cell_blk q0 0; have f0 := fz_blk q0 0; have c1 := cell_blk q0 1; have f1 := fz_blk q0 1; have c2 := cell_blk q0 2; have f2 := fz_blk q0 2; have c3 := cell_blk q0 3; have f3 := fz_blk q0 3; have c4 := cell_blk q0 4; have f4 := fz_blk q0 4; have c5 := cell_blk q0 5; have f5 := fz_blk q0 5; have c6 := cell_blk q0 6; have f6 := fz_blk q0 6; have c7 := cell_blk q0 7; have f7 := fz_blk q0 7; have c8 := cell_blk q0 8; have f8 := fz_blk q0 8; have c9 := cell_blk q0 9; have f9 := fz_blk q0 9; have d0 := cell_blk q1 0; have e0 := fz_blk q1 0; have d1 := cell_blk q1 1; have e1 := fz_blk q1 1; have d2 := cell_blk q1 2; have e2 := fz_blk q1 2; have d3 := cell_blk q1 3; have e3 := fz_blk q1 3; have d4 := cell_blk q1 4; have e4 := fz_blk q1 4; have d5 := cell_blk q1 5; have e5 := fz_blk q1 5; have d6 := cell_blk q1 6; have e6 := fz_blk q1 6; have d7 := cell_blk q1 7; have e7 := fz_blk q1 7; have d8 := cell_blk q1 8; have e8 := fz_blk q1 8; have d9 := cell_blk q1 9; have e9 := fz_blk q1 9; clear hb2 r2 g2 q0 q1 P1))
  refine bodyPost_ret (v := .agg #[.int .i64 k, .int .i64 mn, .int .i64 mx, .int .i64 sp, .int .i64 sl, .int .i64 (li * 9 / 10), .int .i64 0, .int .i64 av, .int .i64 ws, .slice a2 L.length c2']) (by simp [results, Try.results11, go_sem, d0, d1, d2, d3, d4, d5, d6, d7, d8, d9]) rfl ⟨a2, c2', rfl, ?_, fun b h => by have := R2.out.2 b h; omega, ?_⟩
  · exact ((((((((((((((R2.out.1).setw (fun b h => by show b ≠ w.heap.size; have := R2.out.2 b h; omega) _).setw (fun b h => by show b ≠ w.heap.size; have := R2.out.2 b h; omega) _).setw (fun b h => by show b ≠ w.heap.size; have := R2.out.2 b h; omega) _).setw (fun b h => by show b ≠ w.heap.size; have := R2.out.2 b h; omega) _).setw (fun b h => by show b ≠ w.heap.size + 1; have := R2.out.2 b h; omega) _).setw (fun b h => by show b ≠ w.heap.size + 1; have := R2.out.2 b h; omega) _).setw (fun b h => by show b ≠ w.heap.size + 1; have := R2.out.2 b h; omega) _).setw (fun b h => by show b ≠ w.heap.size + 1; have := R2.out.2 b h; omega) _).setw (fun b h => by show b ≠ w.heap.size + 1; have := R2.out.2 b h; omega) _).setw (fun b h => by show b ≠ w.heap.size + 1; have := R2.out.2 b h; omega) _).setw (fun b h => by show b ≠ w.heap.size + 1; have := R2.out.2 b h; omega) _).setw (fun b h => by show b ≠ w.heap.size + 1; have := R2.out.2 b h; omega) _).setw (fun b h => by show b ≠ w.heap.size + 1; have := R2.out.2 b h; omega) _).setw (fun b h => by show b ≠ w.heap.size + 1; have := R2.out.2 b h; omega) _
  · exact ((((((((((((((B2.out).setCell (Nat.le_refl _) _).setCell (Nat.le_refl _) _).setCell (Nat.le_refl _) _).setCell (Nat.le_refl _) _).setCell (Nat.le_add_right _ 1) _).setCell (Nat.le_add_right _ 1) _).setCell (Nat.le_add_right _ 1) _).setCell (Nat.le_add_right _ 1) _).setCell (Nat.le_add_right _ 1) _).setCell (Nat.le_add_right _ 1) _).setCell (Nat.le_add_right _ 1) _).setCell (Nat.le_add_right _ 1) _).setCell (Nat.le_add_right _ 1) _).setCell (Nat.le_add_right _ 1) _

theorem impl_back_yes (k mn mx sp sl li gd av ws : Int) (a : Option Addr) (c : Nat) (L : List (Int × Int)) (w : World) (ha : WOk w a L) (hl : (L.length : Int) ≤ 1048577) (hk : limOk k mn mx sp sl li gd av ws L) :
    Calls Try.prog 11 #[.agg #[.int .i64 k, .int .i64 mn, .int .i64 mx, .int .i64 sp, .int .i64 sl, .int .i64 li, .int .i64 gd, .int .i64 av, .int .i64 ws, .slice a L.length c]] w (LAns w k mn mx sp sl (clampI (li * 9 / 10) mn mx) 0 av ws L) := by
  have l0 : 1 ≤ li := by have h1 := hk.1.2.1; have h2 := hk.2.1; omega
  have l2 := hk.2.2.1
  by_cases hm : li * 9 / 10 < mn
  · have e : clampI (li * 9 / 10) mn mx = mn := by unfold clampI; rw [if_pos hm]
    rw [e]
    exact impl_back_low k mn mx sp sl li gd av ws a c L w ha hl hk hm
  · have e : clampI (li * 9 / 10) mn mx = li * 9 / 10 := by unfold clampI; rw [if_neg hm, if_neg (by omega)]
    rw [e]
    exact impl_back_high k mn mx sp sl li gd av ws a c L w ha hl hk hm
end Go.Proofs.Ytbdkepnjhcdpnaa.LimImplBack
