/- What the program's rule of steps, its Steps and its test of what can be learnt from answer, at every limit and latency; nothing else turns. -/
import Derived.Deep.Cut
import Derived.Test.YtbdkepnjhcdpnaaRows
import Derived.WalkKit
import Derived.WalkSmall
import Derived.BigQuiet
import Derived.Deep.RegionWith
import Derived.Test.YtbdkepnjhcdpnaaPairWalks
import Derived.Test.YtbdkepnjhcdpnaaWinOk
import Derived.Test.YtbdkepnjhcdpnaaTrimWalks
import Derived.Test.YtbdkepnjhcdpnaaPushWalks
import Derived.Test.YtbdkepnjhcdpnaaImplOk
import Derived.Test.YtbdkepnjhcdpnaaLimKit
import Derived.Test.YtbdkepnjhcdpnaaLimSpec
import Derived.Test.YtbdkepnjhcdpnaaLimCopy
import Derived.Test.YtbdkepnjhcdpnaaLimBack
import Derived.Test.YtbdkepnjhcdpnaaLimSteps
import Derived.Test.YtbdkepnjhcdpnaaLimImpl
import Derived.Test.YtbdkepnjhcdpnaaLimImplBack
import Derived.Test.YtbdkepnjhcdpnaaLimMath
namespace Go.Proofs.Ytbdkepnjhcdpnaa.LimImplSteps
open Go.RowKit PairWalks WinOk PushWalks ImplOk LimKit LimCopy LimBack LimImpl LimImplBack
open LimSpec (limOk cfgOk flag size1 past_box)
open LimSteps (isLat)
open LimMath (isT)
set_option maxRecDepth 8000
set_option linter.unusedVariables false
set_option linter.unusedSimpArgs false

set_option maxHeartbeats 2000000 in
theorem can_learn (k mn mx sp sl li gd av ws : Int) (a : Option Addr) (c : Nat) (L : List (Int × Int)) (now lat : Int) (B : Bool) (w : World) (ha : WOk w a L) (hl : (L.length : Int) ≤ 1048577) (HB : Hid (B = true ↔ limOk k mn mx sp sl li gd av ws L ∧ isT now ∧ isLat lat)) :
    Calls Try.prog 15 #[.agg #[.int .i64 k, .int .i64 mn, .int .i64 mx, .int .i64 sp, .int .i64 sl, .int .i64 li, .int .i64 gd, .int .i64 av, .int .i64 ws, .slice a L.length c], .int .i64 now, .int .i64 lat] w fun e w' => e = .returned (.bool B) ∧ Below w.heap.size w w' := by
  have bf : Hid (¬ (limOk k mn mx sp sl li gd av ws L ∧ isT now ∧ isLat lat) → B = false) := fun h => by cases B with
    | false => rfl
    | true => exact absurd (HB.out.1 rfl) h
  have bt : Hid (limOk k mn mx sp sl li gd av ws L ∧ isT now ∧ isLat lat → B = true) := fun h => HB.out.2 h
  have HA : Hid (WOk w a L) := ha
  obtain ⟨O, HO1⟩ := flag (limOk k mn mx sp sl li gd av ws L)
  obtain ⟨T, HT1⟩ := flag (0 ≤ now ∧ now ≤ 1000000000)
  obtain ⟨S, HS1⟩ := flag (0 ≤ lat ∧ lat ≤ 1000000)
  have HO := fun W h => impl_limok k mn mx sp sl li gd av ws a c L O W h hl HO1
  have HT := fun W => impl_time now W T HT1
  have HS := fun W => impl_lat lat W S HS1
  clear ha HB
  cases O with
  | false =>
    have hB : B = false := bf.out fun h => by have := HO1.out.2 h.1; cases this
    subst hB
    go_enter Try.func15, Try.ntmps15
    go_wp2_with (first | (go_at_call 7; refine (HO _ (HA.out.below ((Below.refl _ _).alloc (Nat.le_refl _) _))).mono ?_; rintro e w1 ⟨rfl, hb1⟩; have B1 : Hid (Below w.heap.size w w1) := past_box hb1; clear hb1) | (go_at_call 27; refine (HT _).mono ?_; rintro e w9 ⟨rfl, hw9⟩; rw [hw9]; clear hw9 w9) | (go_at_call 28; refine (HS _).mono ?_; rintro e w9 ⟨rfl, hw9⟩; rw [hw9]; clear hw9 w9))
    go_ret
    exact ⟨rfl, B1.out⟩
  | true =>
    cases T with
    | false =>
      have hB : B = false := bf.out fun h => by have := HT1.out.2 h.2.1; cases this
      subst hB
      go_enter Try.func15, Try.ntmps15
      go_wp2_with (first | (go_at_call 7; refine (HO _ (HA.out.below ((Below.refl _ _).alloc (Nat.le_refl _) _))).mono ?_; rintro e w1 ⟨rfl, hb1⟩; have B1 : Hid (Below w.heap.size w w1) := past_box hb1; clear hb1) | (go_at_call 27; refine (HT _).mono ?_; rintro e w9 ⟨rfl, hw9⟩; rw [hw9]; clear hw9 w9) | (go_at_call 28; refine (HS _).mono ?_; rintro e w9 ⟨rfl, hw9⟩; rw [hw9]; clear hw9 w9))
      go_ret
      exact ⟨rfl, B1.out⟩
    | true =>
      cases S with
      | false =>
        have hB : B = false := bf.out fun h => by have := HS1.out.2 h.2.2; cases this
        subst hB
        go_enter Try.func15, Try.ntmps15
        go_wp2_with (first | (go_at_call 7; refine (HO _ (HA.out.below ((Below.refl _ _).alloc (Nat.le_refl _) _))).mono ?_; rintro e w1 ⟨rfl, hb1⟩; have B1 : Hid (Below w.heap.size w w1) := past_box hb1; clear hb1) | (go_at_call 27; refine (HT _).mono ?_; rintro e w9 ⟨rfl, hw9⟩; rw [hw9]; clear hw9 w9) | (go_at_call 28; refine (HS _).mono ?_; rintro e w9 ⟨rfl, hw9⟩; rw [hw9]; clear hw9 w9))
        go_ret
        exact ⟨rfl, B1.out⟩
      | true =>
        have hB : B = true := bt.out ⟨HO1.out.1 rfl, HT1.out.1 rfl, HS1.out.1 rfl⟩
        subst hB
        go_enter Try.func15, Try.ntmps15
        go_wp2_with (first | (go_at_call 7; refine (HO _ (HA.out.below ((Below.refl _ _).alloc (Nat.le_refl _) _))).mono ?_; rintro e w1 ⟨rfl, hb1⟩; have B1 : Hid (Below w.heap.size w w1) := past_box hb1; clear hb1) | (go_at_call 27; refine (HT _).mono ?_; rintro e w9 ⟨rfl, hw9⟩; rw [hw9]; clear hw9 w9) | (go_at_call 28; refine (HS _).mono ?_; rintro e w9 ⟨rfl, hw9⟩; rw [hw9]; clear hw9 w9))
        go_ret
        exact ⟨rfl, B1.out⟩

theorem hid_three {w w1 : World} {A B C : Obj} (hb : Below (((w.alloc A).alloc B).alloc C).heap.size (((w.alloc A).alloc B).alloc C) w1) : Hid (w1.heap[w.heap.size + 1]? = some B ∧ w1.heap[w.heap.size + 1 + 1]? = some C) := by
  refine ⟨?_, ?_⟩
  · rw [hb.block _ (by simp), Below.heap_alloc _ _ _ (by simp)]
    have := heap_alloc_new (w.alloc A) B
    simpa using this
  · rw [hb.block _ (by simp)]
    have := heap_alloc_new ((w.alloc A).alloc B) C
    simpa using this
theorem past_three {w w1 : World} {A B C : Obj} (h : Below (((w.alloc A).alloc B).alloc C).heap.size (((w.alloc A).alloc B).alloc C) w1) : Below w.heap.size w w1 := ((((Below.refl _ _).alloc (Nat.le_refl _) _).alloc (by simp) _).alloc (by simp; omega) _).trans (h.mono (by simp; omega))
theorem size3 {w w1 : World} {A B C : Obj} (h : Below (((w.alloc A).alloc B).alloc C).heap.size (((w.alloc A).alloc B).alloc C) w1) : w.heap.size + 1 + 1 < w1.heap.size := by
  have := h.size
  simp at this
  omega
theorem below3 (w : World) (A B C : Obj) : Below w.heap.size w (((w.alloc A).alloc B).alloc C) := (((Below.refl _ _).alloc (Nat.le_refl _) _).alloc (by simp) _).alloc (by simp; omega) _

theorem three_le {w : World} {A B C : Obj} {b : Nat} (h : (((w.alloc A).alloc B).alloc C).heap.size ≤ b) : w.heap.size + 1 + 1 < b := by
  simp at h
  omega

set_option maxHeartbeats 4000000 in
theorem sample_slow (k mn mx sp sl li gd av ws : Int) (a : Option Addr) (c : Nat) (L : List (Int × Int)) (now lat : Int) (w : World) (ha : WOk w a L) (hl : (L.length : Int) ≤ 1048577) (hk : limOk k mn mx sp sl li gd av ws L) (hs : sl < lat) :
    Calls Try.prog 90 #[.agg #[], .agg #[.int .i64 k, .int .i64 mn, .int .i64 mx, .int .i64 sp, .int .i64 sl, .int .i64 li, .int .i64 gd, .int .i64 av, .int .i64 ws, .slice a L.length c], .int .i64 now, .int .i64 lat] w (LAns w k mn mx sp sl (clampI (li * 9 / 10) mn mx) 0 av ws L) := by
  have HA : Hid (WOk w a L) := ha
  have l0 : 1 ≤ li := by have h1 := hk.1.2.1; have h2 := hk.2.1; omega
  have l1 : li ≤ 1000 := by have h1 := hk.1.2.2.2.1; have h2 := hk.2.2.1; omega
  have l2 : 0 ≤ gd := hk.2.2.2.1
  have l3 : gd ≤ 1000 := hk.2.2.2.2.1
  have HBK := fun W h => impl_back_yes k mn mx sp sl li gd av ws a c L W h hl hk
  obtain ⟨R, hR⟩ : ∃ R, clampI (li * 9 / 10) mn mx = R := ⟨_, rfl⟩
  rw [hR] at HBK ⊢
  clear hR
  clear ha hk
  go_enter Try.func90, Try.ntmps90
  go_wp2_with (go_at_call 11; refine (HBK _ (HA.out.below (below3 _ _ _ _))).mono ?_; rintro e w2 ⟨a2, c2', rfl, r2, g2, hb2⟩; have hz2 := size3 hb2; have hy2 : w.heap.size + 1 < w2.heap.size := Nat.lt_of_succ_lt hz2; have hx2 : w.heap.size < w2.heap.size := Nat.lt_of_succ_lt hy2; have B2 : Hid (Below w.heap.size w w2) := past_three hb2; have R2 : Hid (WOk w2 a2 L ∧ ∀ b, blk a2 = some b → w.heap.size + 1 + 1 < b) := ⟨r2, fun b h => three_le (g2 b h)⟩; have P2 := hid_three hb2; have c0 := cell_blk P2.out.1 0; have f0 := fz_blk P2.out.1 0; have c1 := cell_blk P2.out.1 1; have f1 := fz_blk P2.out.1 1; have c2 := cell_blk P2.out.1 2; have f2 := fz_blk P2.out.1 2; have c3 := cell_blk P2.out.1 3; have f3 := fz_blk P2.out.1 3; have c4 := cell_blk P2.out.1 4; have f4 := fz_blk P2.out.1 4; have c5 := cell_blk P2.out.1 5; have f5 := fz_blk P2.out.1 5; have c6 := cell_blk P2.out.1 6; have f6 := fz_blk P2.out.1 6; have c7 := cell_blk P2.out.1 7; have f7 := fz_blk P2.out.1 7; have c8 := cell_blk P2.out.1 8; have f8 := fz_blk P2.out.1 8; have c9 := cell_blk P2.out.1 9; have f9 := fz_blk P2.out.1 9; have d0 := cell_blk P2.out.2 0; have e0 := fz_blk P2.out.2 0; have d1 := cell_blk P2.out.2 1; have e1 := fz_blk P2.out.2 1; have d2 := cell_blk P2.out.2 2; have e2 := fz_blk P2.out.2 2; have d3 := cell_blk P2.out.2 3; have e3 := fz_blk P2.out.2 3; have d4 := cell_blk P2.out.2 4; have e4 := fz_blk P2.out.2 4; have d5 := cell_blk P2.out.2 5; have e5 := fz_blk P2.out.2 5; have d6 := cell_blk P2.out.2 6; have e6 := fz_blk P2.out.2 6; have d7 := cell_blk P2.out.2 7; have e7 := fz_blk P2.out.2 7; have d8 := cell_blk P2.out.2 8; have e8 := fz_blk P2.out.2 8; have d9 := cell_blk P2.out.2 9; have e9 := fz_blk P2.out.2 9; clear hb2 r2 g2 P2)
  refine bodyPost_ret (v := .agg #[.int .i64 k, .int .i64 mn, .int .i64 mx, .int .i64 sp, .int .i64 sl, .int .i64 R, .int .i64 0, .int .i64 av, .int .i64 ws, .slice a2 L.length c2']) (by simp [results, Try.results90, go_sem, d0, d1, d2, d3, d4, d5, d6, d7, d8, d9]) rfl ⟨a2, c2', rfl, ?_, fun b h => by have := R2.out.2 b h; omega, ?_⟩
  · exact ((((((((((R2.out.1).setw (fun b h => by show b ≠ w.heap.size + 1 + 1; have := R2.out.2 b h; omega) _).setw (fun b h => by show b ≠ w.heap.size + 1 + 1; have := R2.out.2 b h; omega) _).setw (fun b h => by show b ≠ w.heap.size + 1 + 1; have := R2.out.2 b h; omega) _).setw (fun b h => by show b ≠ w.heap.size + 1 + 1; have := R2.out.2 b h; omega) _).setw (fun b h => by show b ≠ w.heap.size + 1 + 1; have := R2.out.2 b h; omega) _).setw (fun b h => by show b ≠ w.heap.size + 1 + 1; have := R2.out.2 b h; omega) _).setw (fun b h => by show b ≠ w.heap.size + 1 + 1; have := R2.out.2 b h; omega) _).setw (fun b h => by show b ≠ w.heap.size + 1 + 1; have := R2.out.2 b h; omega) _).setw (fun b h => by show b ≠ w.heap.size + 1 + 1; have := R2.out.2 b h; omega) _).setw (fun b h => by show b ≠ w.heap.size + 1 + 1; have := R2.out.2 b h; omega) _
  · exact ((((((((((B2.out).setCell (Nat.le_add_right _ 2) _).setCell (Nat.le_add_right _ 2) _).setCell (Nat.le_add_right _ 2) _).setCell (Nat.le_add_right _ 2) _).setCell (Nat.le_add_right _ 2) _).setCell (Nat.le_add_right _ 2) _).setCell (Nat.le_add_right _ 2) _).setCell (Nat.le_add_right _ 2) _).setCell (Nat.le_add_right _ 2) _).setCell (Nat.le_add_right _ 2) _

set_option maxHeartbeats 4000000 in
theorem sample_up (k mn mx sp sl li gd av ws : Int) (a : Option Addr) (c : Nat) (L : List (Int × Int)) (now lat : Int) (w : World) (ha : WOk w a L) (hl : (L.length : Int) ≤ 1048577) (hk : limOk k mn mx sp sl li gd av ws L) (hs : ¬ sl < lat) (hg : li ≤ gd + 1) :
    Calls Try.prog 90 #[.agg #[], .agg #[.int .i64 k, .int .i64 mn, .int .i64 mx, .int .i64 sp, .int .i64 sl, .int .i64 li, .int .i64 gd, .int .i64 av, .int .i64 ws, .slice a L.length c], .int .i64 now, .int .i64 lat] w (LAns w k mn mx sp sl (clampI (li + 1) mn mx) 0 av ws L) := by
  have HA : Hid (WOk w a L) := ha
  have l0 : 1 ≤ li := by have h1 := hk.1.2.1; have h2 := hk.2.1; omega
  have l1 : li ≤ 1000 := by have h1 := hk.1.2.2.2.1; have h2 := hk.2.2.1; omega
  have l2 : 0 ≤ gd := hk.2.2.2.1
  have l3 : gd ≤ 1000 := hk.2.2.2.2.1
  have HW := fun W h => own_window ws a c L W h (by omega)
  have hM : clampI (li + 1) mn mx = min (li + 1) mx := by
    have h1 := hk.2.1
    unfold clampI
    rw [if_neg (by omega)]
    split <;> omega
  rw [hM]
  clear ha hk hM
  go_enter Try.func90, Try.ntmps90
  go_upto_region 8 with (go_at_call 22; refine (HW _ (HA.out.below (below3 _ _ _ _))).mono ?_; rintro e w2 ⟨a2, c2', rfl, r2, g2, hb2⟩; have hz2 := size3 hb2; have hy2 : w.heap.size + 1 < w2.heap.size := Nat.lt_of_succ_lt hz2; have hx2 : w.heap.size < w2.heap.size := Nat.lt_of_succ_lt hy2; have B2 : Hid (Below w.heap.size w w2) := past_three hb2; have R2 : Hid (WOk w2 a2 L ∧ ∀ b, blk a2 = some b → w.heap.size + 1 + 1 < b) := ⟨r2, fun b h => three_le (g2 b h)⟩; have P2 := hid_three hb2; have c0 := cell_blk P2.out.1 0; have f0 := fz_blk P2.out.1 0; have c1 := cell_blk P2.out.1 1; have f1 := fz_blk P2.out.1 1; have c2 := cell_blk P2.out.1 2; have f2 := fz_blk P2.out.1 2; have c3 := cell_blk P2.out.1 3; have f3 := fz_blk P2.out.1 3; have c4 := cell_blk P2.out.1 4; have f4 := fz_blk P2.out.1 4; have c5 := cell_blk P2.out.1 5; have f5 := fz_blk P2.out.1 5; have c6 := cell_blk P2.out.1 6; have f6 := fz_blk P2.out.1 6; have c7 := cell_blk P2.out.1 7; have f7 := fz_blk P2.out.1 7; have c8 := cell_blk P2.out.1 8; have f8 := fz_blk P2.out.1 8; have c9 := cell_blk P2.out.1 9; have f9 := fz_blk P2.out.1 9; clear hb2 r2 g2)
  have q8 : (((((w2.setCell ⟨w.heap.size + 1, 8, none⟩ (.int .i64 ws)).setCell ⟨w.heap.size + 1, 9, none⟩ (.slice a2 L.length c2')).setCell ⟨w.heap.size + 1, 6, none⟩ (.int .i64 (gd + 1))).setCell ⟨w.heap.size + 1, 5, none⟩ (.int .i64 (min (li + 1) mx))).setCell ⟨w.heap.size + 1, 6, none⟩ (.int .i64 0)).heap[w.heap.size + 1]? = some (.cells #[.int .i64 k, .int .i64 mn, .int .i64 mx, .int .i64 sp, .int .i64 sl, .int .i64 (min (li + 1) mx), .int .i64 0, .int .i64 av, .int .i64 ws, .slice a2 L.length c2'] 29 (0, 0)) := heap_setCell_at (heap_setCell_at (heap_setCell_at (heap_setCell_at (heap_setCell_at (P2.out.1) _ _) _ _) _ _) _ _) _ _
  have q9 : (((((w2.setCell ⟨w.heap.size + 1, 8, none⟩ (.int .i64 ws)).setCell ⟨w.heap.size + 1, 9, none⟩ (.slice a2 L.length c2')).setCell ⟨w.heap.size + 1, 6, none⟩ (.int .i64 (gd + 1))).setCell ⟨w.heap.size + 1, 5, none⟩ (.int .i64 (min (li + 1) mx))).setCell ⟨w.heap.size + 1, 6, none⟩ (.int .i64 0)).heap[w.heap.size + 1 + 1]? = some (.cells #[.int .i64 0, .int .i64 0, .int .i64 0, .int .i64 0, .int .i64 0, .int .i64 0, .int .i64 0, .int .i64 0, .int .i64 0, .slice none 0 0] 29 (0, 0)) := by
    rw [Below.heap_setCell _ _ _ _ (by show w.heap.size + 1 + 1 ≠ w.heap.size + 1; omega), Below.heap_setCell _ _ _ _ (by show w.heap.size + 1 + 1 ≠ w.heap.size + 1; omega), Below.heap_setCell _ _ _ _ (by show w.heap.size + 1 + 1 ≠ w.heap.size + 1; omega), Below.heap_setCell _ _ _ _ (by show w.heap.size + 1 + 1 ≠ w.heap.size + 1; omega), Below.heap_setCell _ _ _ _ (by show w.heap.size + 1 + 1 ≠ w.heap.size + 1; omega)]
    exact P2.out.2
  have R8 : Hid (WOk (((((w2.setCell ⟨w.heap.size + 1, 8, none⟩ (.int .i64 ws)).setCell ⟨w.heap.size + 1, 9, none⟩ (.slice a2 L.length c2')).setCell ⟨w.heap.size + 1, 6, none⟩ (.int .i64 (gd + 1))).setCell ⟨w.heap.size + 1, 5, none⟩ (.int .i64 (min (li + 1) mx))).setCell ⟨w.heap.size + 1, 6, none⟩ (.int .i64 0)) a2 L) := (((((R2.out.1).setw (fun b h => by show b ≠ w.heap.size + 1; have := R2.out.2 b h; omega) _).setw (fun b h => by show b ≠ w.heap.size + 1; have := R2.out.2 b h; omega) _).setw (fun b h => by show b ≠ w.heap.size + 1; have := R2.out.2 b h; omega) _).setw (fun b h => by show b ≠ w.heap.size + 1; have := R2.out.2 b h; omega) _).setw (fun b h => by show b ≠ w.heap.size + 1; have := R2.out.2 b h; omega) _
  have B8 : Hid (Below w.heap.size w (((((w2.setCell ⟨w.heap.size + 1, 8, none⟩ (.int .i64 ws)).setCell ⟨w.heap.size + 1, 9, none⟩ (.slice a2 L.length c2')).setCell ⟨w.heap.size + 1, 6, none⟩ (.int .i64 (gd + 1))).setCell ⟨w.heap.size + 1, 5, none⟩ (.int .i64 (min (li + 1) mx))).setCell ⟨w.heap.size + 1, 6, none⟩ (.int .i64 0))) := (((((B2.out).setCell (Nat.le_add_right _ 1) _).setCell (Nat.le_add_right _ 1) _).setCell (Nat.le_add_right _ 1) _).setCell (Nat.le_add_right _ 1) _).setCell (Nat.le_add_right _ 1) _
  clear c0 f0 c1 f1 c2 f2 c3 f3 c4 f4 c5 f5 c6 f6 c7 f7 c8 f8 c9 f9 P2
  generalize (((((w2.setCell ⟨w.heap.size + 1, 8, none⟩ (.int .i64 ws)).setCell ⟨w.heap.size + 1, 9, none⟩ (.slice a2 L.length c2')).setCell ⟨w.heap.size + 1, 6, none⟩ (.int .i64 (gd + 1))).setCell ⟨w.heap.size + 1, 5, none⟩ (.int .i64 (min (li + 1) mx))).setCell ⟨w.heap.size + 1, 6, none⟩ (.int .i64 0)) = W8 at *
  have c0 := cell_blk q8 0
  have c1 := cell_blk q8 1
  have c2 := cell_blk q8 2
  have c3 := cell_blk q8 3
  have c4 := cell_blk q8 4
  have c5 := cell_blk q8 5
  have c6 := cell_blk q8 6
  have c7 := cell_blk q8 7
  have c8 := cell_blk q8 8
  have c9 := cell_blk q8 9
  have d0 := cell_blk q9 0
  have e0 := fz_blk q9 0
  have d1 := cell_blk q9 1
  have e1 := fz_blk q9 1
  have d2 := cell_blk q9 2
  have e2 := fz_blk q9 2
  have d3 := cell_blk q9 3
  have e3 := fz_blk q9 3
  have d4 := cell_blk q9 4
  have e4 := fz_blk q9 4
  have d5 := cell_blk q9 5
  have e5 := fz_blk q9 5
  have d6 := cell_blk q9 6
  have e6 := fz_blk q9 6
  have d7 := cell_blk q9 7
  have e7 := fz_blk q9 7
  have d8 := cell_blk q9 8
  have e8 := fz_blk q9 8
  have d9 := cell_blk q9 9
  have e9 := fz_blk q9 9
  clear q8 q9
  go_wp2
  refine bodyPost_ret (v := .agg #[.int .i64 k, .int .i64 mn, .int .i64 mx, .int .i64 sp, .int .i64 sl, .int .i64 (min (li + 1) mx), .int .i64 0, .int .i64 av, .int .i64 ws, .slice a2 L.length c2']) (by simp [results, Try.results90, go_sem, d0, d1, d2, d3, d4, d5, d6, d7, d8, d9]) rfl ⟨a2, c2', rfl, ?_, fun b h => by have := R2.out.2 b h; omega, ?_⟩
  · exact ((((((((((R8.out).setw (fun b h => by show b ≠ w.heap.size + 1 + 1; have := R2.out.2 b h; omega) _).setw (fun b h => by show b ≠ w.heap.size + 1 + 1; have := R2.out.2 b h; omega) _).setw (fun b h => by show b ≠ w.heap.size + 1 + 1; have := R2.out.2 b h; omega) _).setw (fun b h => by show b ≠ w.heap.size + 1 + 1; have := R2.out.2 b h; omega) _).setw (fun b h => by show b ≠ w.heap.size + 1 + 1; have := R2.out.2 b h; omega) _).setw (fun b h => by show b ≠ w.heap.size + 1 + 1; have := R2.out.2 b h; omega) _).setw (fun b h => by show b ≠ w.heap.size + 1 + 1; have := R2.out.2 b h; omega) _).setw (fun b h => by show b ≠ w.heap.size + 1 + 1; have := R2.out.2 b h; omega) _).setw (fun b h => by show b ≠ w.heap.size + 1 + 1; have := R2.out.2 b h; omega) _).setw (fun b h => by show b ≠ w.heap.size + 1 + 1; have := R2.out.2 b h; omega) _
  · exact ((((((((((B8.out).setCell (Nat.le_add_right _ 2) _).setCell (Nat.le_add_right _ 2) _).setCell (Nat.le_add_right _ 2) _).setCell (Nat.le_add_right _ 2) _).setCell (Nat.le_add_right _ 2) _).setCell (Nat.le_add_right _ 2) _).setCell (Nat.le_add_right _ 2) _).setCell (Nat.le_add_right _ 2) _).setCell (Nat.le_add_right _ 2) _).setCell (Nat.le_add_right _ 2) _

set_option maxHeartbeats 4000000 in
theorem sample_same (k mn mx sp sl li gd av ws : Int) (a : Option Addr) (c : Nat) (L : List (Int × Int)) (now lat : Int) (w : World) (ha : WOk w a L) (hl : (L.length : Int) ≤ 1048577) (hk : limOk k mn mx sp sl li gd av ws L) (hs : ¬ sl < lat) (hg : ¬ li ≤ gd + 1) :
    Calls Try.prog 90 #[.agg #[], .agg #[.int .i64 k, .int .i64 mn, .int .i64 mx, .int .i64 sp, .int .i64 sl, .int .i64 li, .int .i64 gd, .int .i64 av, .int .i64 ws, .slice a L.length c], .int .i64 now, .int .i64 lat] w (LAns w k mn mx sp sl li (gd + 1) av ws L) := by
  have HA : Hid (WOk w a L) := ha
  have l0 : 1 ≤ li := by have h1 := hk.1.2.1; have h2 := hk.2.1; omega
  have l1 : li ≤ 1000 := by have h1 := hk.1.2.2.2.1; have h2 := hk.2.2.1; omega
  have l2 : 0 ≤ gd := hk.2.2.2.1
  have l3 : gd ≤ 1000 := hk.2.2.2.2.1
  have HW := fun W h => own_window ws a c L W h (by omega)
  clear ha hk
  go_enter Try.func90, Try.ntmps90
  go_wp2_with (go_at_call 22; refine (HW _ (HA.out.below (below3 _ _ _ _))).mono ?_; rintro e w2 ⟨a2, c2', rfl, r2, g2, hb2⟩; have hz2 := size3 hb2; have hy2 : w.heap.size + 1 < w2.heap.size := Nat.lt_of_succ_lt hz2; have hx2 : w.heap.size < w2.heap.size := Nat.lt_of_succ_lt hy2; have B2 : Hid (Below w.heap.size w w2) := past_three hb2; have R2 : Hid (WOk w2 a2 L ∧ ∀ b, blk a2 = some b → w.heap.size + 1 + 1 < b) := ⟨r2, fun b h => three_le (g2 b h)⟩; have P2 := hid_three hb2; have c0 := cell_blk P2.out.1 0; have f0 := fz_blk P2.out.1 0; have c1 := cell_blk P2.out.1 1; have f1 := fz_blk P2.out.1 1; have c2 := cell_blk P2.out.1 2; have f2 := fz_blk P2.out.1 2; have c3 := cell_blk P2.out.1 3; have f3 := fz_blk P2.out.1 3; have c4 := cell_blk P2.out.1 4; have f4 := fz_blk P2.out.1 4; have c5 := cell_blk P2.out.1 5; have f5 := fz_blk P2.out.1 5; have c6 := cell_blk P2.out.1 6; have f6 := fz_blk P2.out.1 6; have c7 := cell_blk P2.out.1 7; have f7 := fz_blk P2.out.1 7; have c8 := cell_blk P2.out.1 8; have f8 := fz_blk P2.out.1 8; have c9 := cell_blk P2.out.1 9; have f9 := fz_blk P2.out.1 9; have d0 := cell_blk P2.out.2 0; have e0 := fz_blk P2.out.2 0; have d1 := cell_blk P2.out.2 1; have e1 := fz_blk P2.out.2 1; have d2 := cell_blk P2.out.2 2; have e2 := fz_blk P2.out.2 2; have d3 := cell_blk P2.out.2 3; have e3 := fz_blk P2.out.2 3; have d4 := cell_blk P2.out.2 4; have e4 := fz_blk P2.out.2 4; have d5 := cell_blk P2.out.2 5; have e5 := fz_blk P2.out.2 5; have d6 := cell_blk P2.out.2 6; have e6 := fz_blk P2.out.2 6; have d7 := cell_blk P2.out.2 7; have e7 := fz_blk P2.out.2 7; have d8 := cell_blk P2.out.2 8; have e8 := fz_blk P2.out.2 8; have d9 := cell_blk P2.out.2 9; have e9 := fz_blk P2.out.2 9; clear hb2 r2 g2 P2)
  refine bodyPost_ret (v := .agg #[.int .i64 k, .int .i64 mn, .int .i64 mx, .int .i64 sp, .int .i64 sl, .int .i64 li, .int .i64 (gd + 1), .int .i64 av, .int .i64 ws, .slice a2 L.length c2']) (by simp [results, Try.results90, go_sem, d0, d1, d2, d3, d4, d5, d6, d7, d8, d9]) rfl ⟨a2, c2', rfl, ?_, fun b h => by have := R2.out.2 b h; omega, ?_⟩
  · exact (((((((((((((R2.out.1).setw (fun b h => by show b ≠ w.heap.size + 1; have := R2.out.2 b h; omega) _).setw (fun b h => by show b ≠ w.heap.size + 1; have := R2.out.2 b h; omega) _).setw (fun b h => by show b ≠ w.heap.size + 1; have := R2.out.2 b h; omega) _).setw (fun b h => by show b ≠ w.heap.size + 1 + 1; have := R2.out.2 b h; omega) _).setw (fun b h => by show b ≠ w.heap.size + 1 + 1; have := R2.out.2 b h; omega) _).setw (fun b h => by show b ≠ w.heap.size + 1 + 1; have := R2.out.2 b h; omega) _).setw (fun b h => by show b ≠ w.heap.size + 1 + 1; have := R2.out.2 b h; omega) _).setw (fun b h => by show b ≠ w.heap.size + 1 + 1; have := R2.out.2 b h; omega) _).setw (fun b h => by show b ≠ w.heap.size + 1 + 1; have := R2.out.2 b h; omega) _).setw (fun b h => by show b ≠ w.heap.size + 1 + 1; have := R2.out.2 b h; omega) _).setw (fun b h => by show b ≠ w.heap.size + 1 + 1; have := R2.out.2 b h; omega) _).setw (fun b h => by show b ≠ w.heap.size + 1 + 1; have := R2.out.2 b h; omega) _).setw (fun b h => by show b ≠ w.heap.size + 1 + 1; have := R2.out.2 b h; omega) _
  · exact (((((((((((((B2.out).setCell (Nat.le_add_right _ 1) _).setCell (Nat.le_add_right _ 1) _).setCell (Nat.le_add_right _ 1) _).setCell (Nat.le_add_right _ 2) _).setCell (Nat.le_add_right _ 2) _).setCell (Nat.le_add_right _ 2) _).setCell (Nat.le_add_right _ 2) _).setCell (Nat.le_add_right _ 2) _).setCell (Nat.le_add_right _ 2) _).setCell (Nat.le_add_right _ 2) _).setCell (Nat.le_add_right _ 2) _).setCell (Nat.le_add_right _ 2) _).setCell (Nat.le_add_right _ 2) _

end Go.Proofs.Ytbdkepnjhcdpnaa.LimImplSteps
