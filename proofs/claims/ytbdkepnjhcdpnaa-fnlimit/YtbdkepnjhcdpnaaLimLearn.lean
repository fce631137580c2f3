/- What the model's Learn and the program's answer, at every limit, time, latency and outcome; nothing else turns. -/
import Derived.Test.YtbdkepnjhcdpnaaRows
import Derived.WalkKit
import Derived.Deep.Cut
import Derived.WalkSmall
import Derived.BigQuiet
import Derived.Deep.RegionWith
import Derived.Test.YtbdkepnjhcdpnaaPairWalks
import Derived.Test.YtbdkepnjhcdpnaaWinOk
import Derived.Test.YtbdkepnjhcdpnaaLimKit
import Derived.Test.YtbdkepnjhcdpnaaLimSpec
import Derived.Test.YtbdkepnjhcdpnaaLimCopy
import Derived.Test.YtbdkepnjhcdpnaaLimBack
import Derived.Test.YtbdkepnjhcdpnaaLimSteps
import Derived.Test.YtbdkepnjhcdpnaaLimImpl
import Derived.Test.YtbdkepnjhcdpnaaLimImplBack
import Derived.Test.YtbdkepnjhcdpnaaLimImplSteps
import Derived.Test.YtbdkepnjhcdpnaaLimMath
import Derived.Test.YtbdkepnjhcdpnaaLimSlope
import Derived.Test.YtbdkepnjhcdpnaaNearKit
import Derived.Test.YtbdkepnjhcdpnaaNearTail
namespace Go.Proofs.Ytbdkepnjhcdpnaa.LimLearn
open Go.RowKit PairWalks WinOk LimKit LimCopy LimBack LimMath NearKit NearTail
open LimSpec (limOk cfgOk flag spec_limok)
open LimSteps (isLat)
open LimImplBack (hid_two)
open LimImplSteps (can_learn)
open LimSlope (spec_timeB spec_latB)
set_option maxRecDepth 8000
set_option linter.unusedVariables false
set_option linter.unusedSimpArgs false

set_option maxHeartbeats 2000000 in
theorem learn_no (k mn mx sp sl li gd av ws : Int) (a : Option Addr) (c : Nat) (L : List (Int × Int)) (now lat : Int) (ok : Bool) (w : World) (ha : WOk w a L) (hl : (L.length : Int) ≤ 1048577) (hn : ¬ (limOk k mn mx sp sl li gd av ws L ∧ isT now ∧ isLat lat)) :
    Calls Try.prog 25 #[.agg #[.int .i64 k, .int .i64 mn, .int .i64 mx, .int .i64 sp, .int .i64 sl, .int .i64 li, .int .i64 gd, .int .i64 av, .int .i64 ws, .slice a L.length c], .int .i64 now, .int .i64 lat, .bool ok] w (LAns w 0 0 0 0 0 0 0 0 0 []) := by
  have HA : Hid (WOk w a L) := ha
  obtain ⟨O, HO1⟩ := flag (limOk k mn mx sp sl li gd av ws L)
  obtain ⟨T, HT1⟩ := flag (isT now)
  obtain ⟨S, HS1⟩ := flag (isLat lat)
  have HO := fun W h => spec_limok k mn mx sp sl li gd av ws a c L O W h hl HO1
  have HT := fun W => spec_timeB now W T HT1
  have HS := fun W => spec_latB lat W S HS1
  have HN : Hid (¬ (limOk k mn mx sp sl li gd av ws L ∧ isT now ∧ isLat lat)) := hn
  clear ha hn
  cases O with
  | false =>
    go_enter Try.func25, Try.ntmps25
    go_wp2_with (first | (go_at_call 32; refine (HO _ (HA.out.below (((Below.refl _ _).alloc (Nat.le_refl _) _).alloc (by simp) _))).mono ?_; rintro e w1 ⟨rfl, hb1⟩; have hy1 := bsize hb1; have hx1 : w.heap.size < w1.heap.size := Nat.lt_of_succ_lt hy1; have B1 : Hid (Below w.heap.size w w1) := past_two hb1; have P1 := hid_two hb1; have c0 := cell_blk P1.out.1 0; have c1 := cell_blk P1.out.1 1; have c2 := cell_blk P1.out.1 2; have c3 := cell_blk P1.out.1 3; have c4 := cell_blk P1.out.1 4; have c5 := cell_blk P1.out.1 5; have c6 := cell_blk P1.out.1 6; have c7 := cell_blk P1.out.1 7; have c8 := cell_blk P1.out.1 8; have c9 := cell_blk P1.out.1 9; have d0 := cell_blk P1.out.2 0; have e0 := fz_blk P1.out.2 0; have d1 := cell_blk P1.out.2 1; have e1 := fz_blk P1.out.2 1; have d2 := cell_blk P1.out.2 2; have e2 := fz_blk P1.out.2 2; have d3 := cell_blk P1.out.2 3; have e3 := fz_blk P1.out.2 3; have d4 := cell_blk P1.out.2 4; have e4 := fz_blk P1.out.2 4; have d5 := cell_blk P1.out.2 5; have e5 := fz_blk P1.out.2 5; have d6 := cell_blk P1.out.2 6; have e6 := fz_blk P1.out.2 6; have d7 := cell_blk P1.out.2 7; have e7 := fz_blk P1.out.2 7; have d8 := cell_blk P1.out.2 8; have e8 := fz_blk P1.out.2 8; have d9 := cell_blk P1.out.2 9; have e9 := fz_blk P1.out.2 9; clear hb1) | (go_at_call 33; refine (HT _).mono ?_; rintro e w9 ⟨rfl, hw9⟩; rw [hw9]; clear hw9 w9) | (go_at_call 34; refine (HS _).mono ?_; rintro e w9 ⟨rfl, hw9⟩; rw [hw9]; clear hw9 w9))
    refine bodyPost_ret (v := .agg #[.int .i64 0, .int .i64 0, .int .i64 0, .int .i64 0, .int .i64 0, .int .i64 0, .int .i64 0, .int .i64 0, .int .i64 0, .slice none 0 0]) (by simp [results, Try.results25, go_sem, d0, d1, d2, d3, d4, d5, d6, d7, d8, d9]) rfl ⟨none, 0, rfl, Or.inl rfl, fun b h => by simp [blk] at h, ?_⟩
    exact ((((((((((B1.out).setCell (Nat.le_add_right _ 1) _).setCell (Nat.le_add_right _ 1) _).setCell (Nat.le_add_right _ 1) _).setCell (Nat.le_add_right _ 1) _).setCell (Nat.le_add_right _ 1) _).setCell (Nat.le_add_right _ 1) _).setCell (Nat.le_add_right _ 1) _).setCell (Nat.le_add_right _ 1) _).setCell (Nat.le_add_right _ 1) _).setCell (Nat.le_add_right _ 1) _
  | true =>
    cases T with
    | false =>
      go_enter Try.func25, Try.ntmps25
      go_wp2_with (first | (go_at_call 32; refine (HO _ (HA.out.below (((Below.refl _ _).alloc (Nat.le_refl _) _).alloc (by simp) _))).mono ?_; rintro e w1 ⟨rfl, hb1⟩; have hy1 := bsize hb1; have hx1 : w.heap.size < w1.heap.size := Nat.lt_of_succ_lt hy1; have B1 : Hid (Below w.heap.size w w1) := past_two hb1; have P1 := hid_two hb1; have c0 := cell_blk P1.out.1 0; have c1 := cell_blk P1.out.1 1; have c2 := cell_blk P1.out.1 2; have c3 := cell_blk P1.out.1 3; have c4 := cell_blk P1.out.1 4; have c5 := cell_blk P1.out.1 5; have c6 := cell_blk P1.out.1 6; have c7 := cell_blk P1.out.1 7; have c8 := cell_blk P1.out.1 8; have c9 := cell_blk P1.out.1 9; have d0 := cell_blk P1.out.2 0; have e0 := fz_blk P1.out.2 0; have d1 := cell_blk P1.out.2 1; have e1 := fz_blk P1.out.2 1; have d2 := cell_blk P1.out.2 2; have e2 := fz_blk P1.out.2 2; have d3 := cell_blk P1.out.2 3; have e3 := fz_blk P1.out.2 3; have d4 := cell_blk P1.out.2 4; have e4 := fz_blk P1.out.2 4; have d5 := cell_blk P1.out.2 5; have e5 := fz_blk P1.out.2 5; have d6 := cell_blk P1.out.2 6; have e6 := fz_blk P1.out.2 6; have d7 := cell_blk P1.out.2 7; have e7 := fz_blk P1.out.2 7; have d8 := cell_blk P1.out.2 8; have e8 := fz_blk P1.out.2 8; have d9 := cell_blk P1.out.2 9; have e9 := fz_blk P1.out.2 9; clear hb1) | (go_at_call 33; refine (HT _).mono ?_; rintro e w9 ⟨rfl, hw9⟩; rw [hw9]; clear hw9 w9) | (go_at_call 34; refine (HS _).mono ?_; rintro e w9 ⟨rfl, hw9⟩; rw [hw9]; clear hw9 w9))
      refine bodyPost_ret (v := .agg #[.int .i64 0, .int .i64 0, .int .i64 0, .int .i64 0, .int .i64 0, .int .i64 0, .int .i64 0, .int .i64 0, .int .i64 0, .slice none 0 0]) (by simp [results, Try.results25, go_sem, d0, d1, d2, d3, d4, d5, d6, d7, d8, d9]) rfl ⟨none, 0, rfl, Or.inl rfl, fun b h => by simp [blk] at h, ?_⟩
      exact ((((((((((B1.out).setCell (Nat.le_add_right _ 1) _).setCell (Nat.le_add_right _ 1) _).setCell (Nat.le_add_right _ 1) _).setCell (Nat.le_add_right _ 1) _).setCell (Nat.le_add_right _ 1) _).setCell (Nat.le_add_right _ 1) _).setCell (Nat.le_add_right _ 1) _).setCell (Nat.le_add_right _ 1) _).setCell (Nat.le_add_right _ 1) _).setCell (Nat.le_add_right _ 1) _
    | true =>
      cases S with
      | false =>
        go_enter Try.func25, Try.ntmps25
        go_wp2_with (first | (go_at_call 32; refine (HO _ (HA.out.below (((Below.refl _ _).alloc (Nat.le_refl _) _).alloc (by simp) _))).mono ?_; rintro e w1 ⟨rfl, hb1⟩; have hy1 := bsize hb1; have hx1 : w.heap.size < w1.heap.size := Nat.lt_of_succ_lt hy1; have B1 : Hid (Below w.heap.size w w1) := past_two hb1; have P1 := hid_two hb1; have c0 := cell_blk P1.out.1 0; have c1 := cell_blk P1.out.1 1; have c2 := cell_blk P1.out.1 2; have c3 := cell_blk P1.out.1 3; have c4 := cell_blk P1.out.1 4; have c5 := cell_blk P1.out.1 5; have c6 := cell_blk P1.out.1 6; have c7 := cell_blk P1.out.1 7; have c8 := cell_blk P1.out.1 8; have c9 := cell_blk P1.out.1 9; have d0 := cell_blk P1.out.2 0; have e0 := fz_blk P1.out.2 0; have d1 := cell_blk P1.out.2 1; have e1 := fz_blk P1.out.2 1; have d2 := cell_blk P1.out.2 2; have e2 := fz_blk P1.out.2 2; have d3 := cell_blk P1.out.2 3; have e3 := fz_blk P1.out.2 3; have d4 := cell_blk P1.out.2 4; have e4 := fz_blk P1.out.2 4; have d5 := cell_blk P1.out.2 5; have e5 := fz_blk P1.out.2 5; have d6 := cell_blk P1.out.2 6; have e6 := fz_blk P1.out.2 6; have d7 := cell_blk P1.out.2 7; have e7 := fz_blk P1.out.2 7; have d8 := cell_blk P1.out.2 8; have e8 := fz_blk P1.out.2 8; have d9 := cell_blk P1.out.2 9; have e9 := fz_blk P1.out.2 9; clear hb1) | (go_at_call 33; refine (HT _).mono ?_; rintro e w9 ⟨rfl, hw9⟩; rw [hw9]; clear hw9 w9) | (go_at_call 34; refine (HS _).mono ?_; rintro e w9 ⟨rfl, hw9⟩; rw [hw9]; clear hw9 w9))
        refine bodyPost_ret (v := .agg #[.int .i64 0, .int .i64 0, .int .i64 0, .int .i64 0, .int .i64 0, .int .i64 0, .int .i64 0, .int .i64 0, .int .i64 0, .slice none 0 0]) (by simp [results, Try.results25, go_sem, d0, d1, d2, d3, d4, d5, d6, d7, d8, d9]) rfl ⟨none, 0, rfl, Or.inl rfl, fun b h => by simp [blk] at h, ?_⟩
        exact ((((((((((B1.out).setCell (Nat.le_add_right _ 1) _).setCell (Nat.le_add_right _ 1) _).setCell (Nat.le_add_right _ 1) _).setCell (Nat.le_add_right _ 1) _).setCell (Nat.le_add_right _ 1) _).setCell (Nat.le_add_right _ 1) _).setCell (Nat.le_add_right _ 1) _).setCell (Nat.le_add_right _ 1) _).setCell (Nat.le_add_right _ 1) _).setCell (Nat.le_add_right _ 1) _
      | true => exact absurd ⟨HO1.out.1 rfl, HT1.out.1 rfl, HS1.out.1 rfl⟩ HN.out

set_option maxHeartbeats 4000000 in
theorem learn_fail (k mn mx sp sl li gd av ws : Int) (x y z : Int) (P : List (Int × Int)) (a : Option Addr) (c : Nat) (L : List (Int × Int)) (now lat : Int) (w : World) (ha : WOk w a L) (hl : (L.length : Int) ≤ 1048577) (hk : limOk k mn mx sp sl li gd av ws L) (hT : isT now) (ht : isLat lat)
    (HX : ∀ W, WOk W a L → Calls Try.prog 35 #[.agg #[.int .i64 k, .int .i64 mn, .int .i64 mx, .int .i64 sp, .int .i64 sl, .int .i64 li, .int .i64 gd, .int .i64 av, .int .i64 ws, .slice a L.length c]] W (LAns W k mn mx sp sl x y z ws P)) :
    Calls Try.prog 25 #[.agg #[.int .i64 k, .int .i64 mn, .int .i64 mx, .int .i64 sp, .int .i64 sl, .int .i64 li, .int .i64 gd, .int .i64 av, .int .i64 ws, .slice a L.length c], .int .i64 now, .int .i64 lat, .bool false] w (LAns w k mn mx sp sl x y z ws P) := by
  have HO := fun W h => spec_limok k mn mx sp sl li gd av ws a c L true W h hl ⟨fun _ => hk, fun _ => rfl⟩
  have HT := fun W => spec_timeB now W true ⟨fun _ => hT, fun _ => rfl⟩
  have HS := fun W => spec_latB lat W true ⟨fun _ => ht, fun _ => rfl⟩
  have HA : Hid (WOk w a L) := ha
  skip
  clear ha hk ht hT
  go_enter Try.func25, Try.ntmps25
  go_wp2_with (first | (go_at_call 32; refine (HO _ (HA.out.below (((Below.refl _ _).alloc (Nat.le_refl _) _).alloc (by simp) _))).mono ?_; rintro e w1 ⟨rfl, hb1⟩; have hy1 := bsize hb1; have hx1 : w.heap.size < w1.heap.size := Nat.lt_of_succ_lt hy1; have B1 : Hid (Below w.heap.size w w1) := past_two hb1; have P1 := hid_two hb1; have c0 := cell_blk P1.out.1 0; have c1 := cell_blk P1.out.1 1; have c2 := cell_blk P1.out.1 2; have c3 := cell_blk P1.out.1 3; have c4 := cell_blk P1.out.1 4; have c5 := cell_blk P1.out.1 5; have c6 := cell_blk P1.out.1 6; have c7 := cell_blk P1.out.1 7; have c8 := cell_blk P1.out.1 8; have c9 := cell_blk P1.out.1 9; have d0 := cell_blk P1.out.2 0; have e0 := fz_blk P1.out.2 0; have d1 := cell_blk P1.out.2 1; have e1 := fz_blk P1.out.2 1; have d2 := cell_blk P1.out.2 2; have e2 := fz_blk P1.out.2 2; have d3 := cell_blk P1.out.2 3; have e3 := fz_blk P1.out.2 3; have d4 := cell_blk P1.out.2 4; have e4 := fz_blk P1.out.2 4; have d5 := cell_blk P1.out.2 5; have e5 := fz_blk P1.out.2 5; have d6 := cell_blk P1.out.2 6; have e6 := fz_blk P1.out.2 6; have d7 := cell_blk P1.out.2 7; have e7 := fz_blk P1.out.2 7; have d8 := cell_blk P1.out.2 8; have e8 := fz_blk P1.out.2 8; have d9 := cell_blk P1.out.2 9; have e9 := fz_blk P1.out.2 9; clear hb1) | (go_at_call 33; refine (HT _).mono ?_; rintro e w9 ⟨rfl, hw9⟩; rw [hw9]; clear hw9 w9) | (go_at_call 34; refine (HS _).mono ?_; rintro e w9 ⟨rfl, hw9⟩; rw [hw9]; clear hw9 w9) | (go_at_call 35; refine (HX _ (HA.out.below B1.out)).mono ?_; clear c0 d0 e0 c1 d1 e1 c2 d2 e2 c3 d3 e3 c4 d4 e4 c5 d5 e5 c6 d6 e6 c7 d7 e7 c8 d8 e8 c9 d9 e9; rintro e w2 ⟨a2, c2', rfl, r2, g2, hb2⟩; have B2 : Hid (Below w.heap.size w w2) := B1.out.trans (hb2.mono (Nat.le_of_lt hx1)); have R2 : Hid (WOk w2 a2 P ∧ ∀ b, blk a2 = some b → w1.heap.size ≤ b) := ⟨r2, g2⟩; have q1 := (hb2.block _ hy1).trans P1.out.2; have hy2 : w.heap.size + 1 < w2.heap.size := Nat.lt_of_lt_of_le hy1 hb2.size; have d0 := cell_blk q1 0; have e0 := fz_blk q1 0; have d1 := cell_blk q1 1; have e1 := fz_blk q1 1; have d2 := cell_blk q1 2; have e2 := fz_blk q1 2; have d3 := cell_blk q1 3; have e3 := fz_blk q1 3; have d4 := cell_blk q1 4; have e4 := fz_blk q1 4; have d5 := cell_blk q1 5; have e5 := fz_blk q1 5; have d6 := cell_blk q1 6; have e6 := fz_blk q1 6; have d7 := cell_blk q1 7; have e7 := fz_blk q1 7; have d8 := cell_blk q1 8; have e8 := fz_blk q1 8; have d9 := cell_blk q1 9; have e9 := fz_blk q1 9; clear hb2 r2 g2 q1))
  refine bodyPost_ret (v := .agg #[.int .i64 k, .int .i64 mn, .int .i64 mx, .int .i64 sp, .int .i64 sl, .int .i64 x, .int .i64 y, .int .i64 z, .int .i64 ws, .slice a2 P.length c2']) (by simp [results, Try.results25, go_sem, d0, d1, d2, d3, d4, d5, d6, d7, d8, d9]) rfl ⟨a2, c2', rfl, ?_, fun b h => by have := R2.out.2 b h; omega, ?_⟩
  · exact ((((((((((R2.out.1).setw (fun b h => by show b ≠ w.heap.size + 1; have := R2.out.2 b h; omega) _).setw (fun b h => by show b ≠ w.heap.size + 1; have := R2.out.2 b h; omega) _).setw (fun b h => by show b ≠ w.heap.size + 1; have := R2.out.2 b h; omega) _).setw (fun b h => by show b ≠ w.heap.size + 1; have := R2.out.2 b h; omega) _).setw (fun b h => by show b ≠ w.heap.size + 1; have := R2.out.2 b h; omega) _).setw (fun b h => by show b ≠ w.heap.size + 1; have := R2.out.2 b h; omega) _).setw (fun b h => by show b ≠ w.heap.size + 1; have := R2.out.2 b h; omega) _).setw (fun b h => by show b ≠ w.heap.size + 1; have := R2.out.2 b h; omega) _).setw (fun b h => by show b ≠ w.heap.size + 1; have := R2.out.2 b h; omega) _).setw (fun b h => by show b ≠ w.heap.size + 1; have := R2.out.2 b h; omega) _
  · exact ((((((((((B2.out).setCell (Nat.le_add_right _ 1) _).setCell (Nat.le_add_right _ 1) _).setCell (Nat.le_add_right _ 1) _).setCell (Nat.le_add_right _ 1) _).setCell (Nat.le_add_right _ 1) _).setCell (Nat.le_add_right _ 1) _).setCell (Nat.le_add_right _ 1) _).setCell (Nat.le_add_right _ 1) _).setCell (Nat.le_add_right _ 1) _).setCell (Nat.le_add_right _ 1) _

set_option maxHeartbeats 4000000 in
theorem learn_steps (k mn mx sp sl li gd av ws : Int) (x y z : Int) (P : List (Int × Int)) (a : Option Addr) (c : Nat) (L : List (Int × Int)) (now lat : Int) (w : World) (ha : WOk w a L) (hl : (L.length : Int) ≤ 1048577) (hk : limOk k mn mx sp sl li gd av ws L) (hT : isT now) (ht : isLat lat) (h1 : k = 1)
    (HX : ∀ W, WOk W a L → Calls Try.prog 36 #[.agg #[.int .i64 k, .int .i64 mn, .int .i64 mx, .int .i64 sp, .int .i64 sl, .int .i64 li, .int .i64 gd, .int .i64 av, .int .i64 ws, .slice a L.length c], .int .i64 lat] W (LAns W k mn mx sp sl x y z ws P)) :
    Calls Try.prog 25 #[.agg #[.int .i64 k, .int .i64 mn, .int .i64 mx, .int .i64 sp, .int .i64 sl, .int .i64 li, .int .i64 gd, .int .i64 av, .int .i64 ws, .slice a L.length c], .int .i64 now, .int .i64 lat, .bool true] w (LAns w k mn mx sp sl x y z ws P) := by
  have HO := fun W h => spec_limok k mn mx sp sl li gd av ws a c L true W h hl ⟨fun _ => hk, fun _ => rfl⟩
  have HT := fun W => spec_timeB now W true ⟨fun _ => hT, fun _ => rfl⟩
  have HS := fun W => spec_latB lat W true ⟨fun _ => ht, fun _ => rfl⟩
  have HA : Hid (WOk w a L) := ha
  have z1 : (k == 1) = true := by simpa using h1
  clear h1
  clear ha hk ht hT
  go_enter Try.func25, Try.ntmps25
  go_wp2_with (first | (go_at_call 32; refine (HO _ (HA.out.below (((Below.refl _ _).alloc (Nat.le_refl _) _).alloc (by simp) _))).mono ?_; rintro e w1 ⟨rfl, hb1⟩; have hy1 := bsize hb1; have hx1 : w.heap.size < w1.heap.size := Nat.lt_of_succ_lt hy1; have B1 : Hid (Below w.heap.size w w1) := past_two hb1; have P1 := hid_two hb1; have c0 := cell_blk P1.out.1 0; have c1 := cell_blk P1.out.1 1; have c2 := cell_blk P1.out.1 2; have c3 := cell_blk P1.out.1 3; have c4 := cell_blk P1.out.1 4; have c5 := cell_blk P1.out.1 5; have c6 := cell_blk P1.out.1 6; have c7 := cell_blk P1.out.1 7; have c8 := cell_blk P1.out.1 8; have c9 := cell_blk P1.out.1 9; have d0 := cell_blk P1.out.2 0; have e0 := fz_blk P1.out.2 0; have d1 := cell_blk P1.out.2 1; have e1 := fz_blk P1.out.2 1; have d2 := cell_blk P1.out.2 2; have e2 := fz_blk P1.out.2 2; have d3 := cell_blk P1.out.2 3; have e3 := fz_blk P1.out.2 3; have d4 := cell_blk P1.out.2 4; have e4 := fz_blk P1.out.2 4; have d5 := cell_blk P1.out.2 5; have e5 := fz_blk P1.out.2 5; have d6 := cell_blk P1.out.2 6; have e6 := fz_blk P1.out.2 6; have d7 := cell_blk P1.out.2 7; have e7 := fz_blk P1.out.2 7; have d8 := cell_blk P1.out.2 8; have e8 := fz_blk P1.out.2 8; have d9 := cell_blk P1.out.2 9; have e9 := fz_blk P1.out.2 9; clear hb1) | (go_at_call 33; refine (HT _).mono ?_; rintro e w9 ⟨rfl, hw9⟩; rw [hw9]; clear hw9 w9) | (go_at_call 34; refine (HS _).mono ?_; rintro e w9 ⟨rfl, hw9⟩; rw [hw9]; clear hw9 w9) | (go_at_call 36; refine (HX _ (HA.out.below B1.out)).mono ?_; clear c0 d0 e0 c1 d1 e1 c2 d2 e2 c3 d3 e3 c4 d4 e4 c5 d5 e5 c6 d6 e6 c7 d7 e7 c8 d8 e8 c9 d9 e9; rintro e w2 ⟨a2, c2', rfl, r2, g2, hb2⟩; have B2 : Hid (Below w.heap.size w w2) := B1.out.trans (hb2.mono (Nat.le_of_lt hx1)); have R2 : Hid (WOk w2 a2 P ∧ ∀ b, blk a2 = some b → w1.heap.size ≤ b) := ⟨r2, g2⟩; have q1 := (hb2.block _ hy1).trans P1.out.2; have hy2 : w.heap.size + 1 < w2.heap.size := Nat.lt_of_lt_of_le hy1 hb2.size; have d0 := cell_blk q1 0; have e0 := fz_blk q1 0; have d1 := cell_blk q1 1; have e1 := fz_blk q1 1; have d2 := cell_blk q1 2; have e2 := fz_blk q1 2; have d3 := cell_blk q1 3; have e3 := fz_blk q1 3; have d4 := cell_blk q1 4; have e4 := fz_blk q1 4; have d5 := cell_blk q1 5; have e5 := fz_blk q1 5; have d6 := cell_blk q1 6; have e6 := fz_blk q1 6; have d7 := cell_blk q1 7; have e7 := fz_blk q1 7; have d8 := cell_blk q1 8; have e8 := fz_blk q1 8; have d9 := cell_blk q1 9; have e9 := fz_blk q1 9; clear hb2 r2 g2 q1))
  refine bodyPost_ret (v := .agg #[.int .i64 k, .int .i64 mn, .int .i64 mx, .int .i64 sp, .int .i64 sl, .int .i64 x, .int .i64 y, .int .i64 z, .int .i64 ws, .slice a2 P.length c2']) (by simp [results, Try.results25, go_sem, d0, d1, d2, d3, d4, d5, d6, d7, d8, d9]) rfl ⟨a2, c2', rfl, ?_, fun b h => by have := R2.out.2 b h; omega, ?_⟩
  · exact ((((((((((R2.out.1).setw (fun b h => by show b ≠ w.heap.size + 1; have := R2.out.2 b h; omega) _).setw (fun b h => by show b ≠ w.heap.size + 1; have := R2.out.2 b h; omega) _).setw (fun b h => by show b ≠ w.heap.size + 1; have := R2.out.2 b h; omega) _).setw (fun b h => by show b ≠ w.heap.size + 1; have := R2.out.2 b h; omega) _).setw (fun b h => by show b ≠ w.heap.size + 1; have := R2.out.2 b h; omega) _).setw (fun b h => by show b ≠ w.heap.size + 1; have := R2.out.2 b h; omega) _).setw (fun b h => by show b ≠ w.heap.size + 1; have := R2.out.2 b h; omega) _).setw (fun b h => by show b ≠ w.heap.size + 1; have := R2.out.2 b h; omega) _).setw (fun b h => by show b ≠ w.heap.size + 1; have := R2.out.2 b h; omega) _).setw (fun b h => by show b ≠ w.heap.size + 1; have := R2.out.2 b h; omega) _
  · exact ((((((((((B2.out).setCell (Nat.le_add_right _ 1) _).setCell (Nat.le_add_right _ 1) _).setCell (Nat.le_add_right _ 1) _).setCell (Nat.le_add_right _ 1) _).setCell (Nat.le_add_right _ 1) _).setCell (Nat.le_add_right _ 1) _).setCell (Nat.le_add_right _ 1) _).setCell (Nat.le_add_right _ 1) _).setCell (Nat.le_add_right _ 1) _).setCell (Nat.le_add_right _ 1) _

set_option maxHeartbeats 4000000 in
theorem learn_slope (k mn mx sp sl li gd av ws : Int) (x y z : Int) (P : List (Int × Int)) (a : Option Addr) (c : Nat) (L : List (Int × Int)) (now lat : Int) (w : World) (ha : WOk w a L) (hl : (L.length : Int) ≤ 1048577) (hk : limOk k mn mx sp sl li gd av ws L) (hT : isT now) (ht : isLat lat) (h1 : ¬ k = 1)
    (HX : ∀ W, WOk W a L → Calls Try.prog 37 #[.agg #[.int .i64 k, .int .i64 mn, .int .i64 mx, .int .i64 sp, .int .i64 sl, .int .i64 li, .int .i64 gd, .int .i64 av, .int .i64 ws, .slice a L.length c], .int .i64 now, .int .i64 lat] W (LAns W k mn mx sp sl x y z ws P)) :
    Calls Try.prog 25 #[.agg #[.int .i64 k, .int .i64 mn, .int .i64 mx, .int .i64 sp, .int .i64 sl, .int .i64 li, .int .i64 gd, .int .i64 av, .int .i64 ws, .slice a L.length c], .int .i64 now, .int .i64 lat, .bool true] w (LAns w k mn mx sp sl x y z ws P) := by
  have HO := fun W h => spec_limok k mn mx sp sl li gd av ws a c L true W h hl ⟨fun _ => hk, fun _ => rfl⟩
  have HT := fun W => spec_timeB now W true ⟨fun _ => hT, fun _ => rfl⟩
  have HS := fun W => spec_latB lat W true ⟨fun _ => ht, fun _ => rfl⟩
  have HA : Hid (WOk w a L) := ha
  have z1 : (k == 1) = false := by simpa using h1
  clear h1
  clear ha hk ht hT
  go_enter Try.func25, Try.ntmps25
  go_wp2_with (first | (go_at_call 32; refine (HO _ (HA.out.below (((Below.refl _ _).alloc (Nat.le_refl _) _).alloc (by simp) _))).mono ?_; rintro e w1 ⟨rfl, hb1⟩; have hy1 := bsize hb1; have hx1 : w.heap.size < w1.heap.size := Nat.lt_of_succ_lt hy1; have B1 : Hid (Below w.heap.size w w1) := past_two hb1; have P1 := hid_two hb1; have c0 := cell_blk P1.out.1 0; have c1 := cell_blk P1.out.1 1; have c2 := cell_blk P1.out.1 2; have c3 := cell_blk P1.out.1 3; have c4 := cell_blk P1.out.1 4; have c5 := cell_blk P1.out.1 5; have c6 := cell_blk P1.out.1 6; have c7 := cell_blk P1.out.1 7; have c8 := cell_blk P1.out.1 8; have c9 := cell_blk P1.out.1 9; have d0 := cell_blk P1.out.2 0; have e0 := fz_blk P1.out.2 0; have d1 := cell_blk P1.out.2 1; have e1 := fz_blk P1.out.2 1; have d2 := cell_blk P1.out.2 2; have e2 := fz_blk P1.out.2 2; have d3 := cell_blk P1.out.2 3; have e3 := fz_blk P1.out.2 3; have d4 := cell_blk P1.out.2 4; have e4 := fz_blk P1.out.2 4; have d5 := cell_blk P1.out.2 5; have e5 := fz_blk P1.out.2 5; have d6 := cell_blk P1.out.2 6; have e6 := fz_blk P1.out.2 6; have d7 := cell_blk P1.out.2 7; have e7 := fz_blk P1.out.2 7; have d8 := cell_blk P1.out.2 8; have e8 := fz_blk P1.out.2 8; have d9 := cell_blk P1.out.2 9; have e9 := fz_blk P1.out.2 9; clear hb1) | (go_at_call 33; refine (HT _).mono ?_; rintro e w9 ⟨rfl, hw9⟩; rw [hw9]; clear hw9 w9) | (go_at_call 34; refine (HS _).mono ?_; rintro e w9 ⟨rfl, hw9⟩; rw [hw9]; clear hw9 w9) | (go_at_call 37; refine (HX _ (HA.out.below B1.out)).mono ?_; clear c0 d0 e0 c1 d1 e1 c2 d2 e2 c3 d3 e3 c4 d4 e4 c5 d5 e5 c6 d6 e6 c7 d7 e7 c8 d8 e8 c9 d9 e9; rintro e w2 ⟨a2, c2', rfl, r2, g2, hb2⟩; have B2 : Hid (Below w.heap.size w w2) := B1.out.trans (hb2.mono (Nat.le_of_lt hx1)); have R2 : Hid (WOk w2 a2 P ∧ ∀ b, blk a2 = some b → w1.heap.size ≤ b) := ⟨r2, g2⟩; have q1 := (hb2.block _ hy1).trans P1.out.2; have hy2 : w.heap.size + 1 < w2.heap.size := Nat.lt_of_lt_of_le hy1 hb2.size; have d0 := cell_blk q1 0; have e0 := fz_blk q1 0; have d1 := cell_blk q1 1; have e1 := fz_blk q1 1; have d2 := cell_blk q1 2; have e2 := fz_blk q1 2; have d3 := cell_blk q1 3; have e3 := fz_blk q1 3; have d4 := cell_blk q1 4; have e4 := fz_blk q1 4; have d5 := cell_blk q1 5; have e5 := fz_blk q1 5; have d6 := cell_blk q1 6; have e6 := fz_blk q1 6; have d7 := cell_blk q1 7; have e7 := fz_blk q1 7; have d8 := cell_blk q1 8; have e8 := fz_blk q1 8; have d9 := cell_blk q1 9; have e9 := fz_blk q1 9; clear hb2 r2 g2 q1))
  refine bodyPost_ret (v := .agg #[.int .i64 k, .int .i64 mn, .int .i64 mx, .int .i64 sp, .int .i64 sl, .int .i64 x, .int .i64 y, .int .i64 z, .int .i64 ws, .slice a2 P.length c2']) (by simp [results, Try.results25, go_sem, d0, d1, d2, d3, d4, d5, d6, d7, d8, d9]) rfl ⟨a2, c2', rfl, ?_, fun b h => by have := R2.out.2 b h; omega, ?_⟩
  · exact ((((((((((R2.out.1).setw (fun b h => by show b ≠ w.heap.size + 1; have := R2.out.2 b h; omega) _).setw (fun b h => by show b ≠ w.heap.size + 1; have := R2.out.2 b h; omega) _).setw (fun b h => by show b ≠ w.heap.size + 1; have := R2.out.2 b h; omega) _).setw (fun b h => by show b ≠ w.heap.size + 1; have := R2.out.2 b h; omega) _).setw (fun b h => by show b ≠ w.heap.size + 1; have := R2.out.2 b h; omega) _).setw (fun b h => by show b ≠ w.heap.size + 1; have := R2.out.2 b h; omega) _).setw (fun b h => by show b ≠ w.heap.size + 1; have := R2.out.2 b h; omega) _).setw (fun b h => by show b ≠ w.heap.size + 1; have := R2.out.2 b h; omega) _).setw (fun b h => by show b ≠ w.heap.size + 1; have := R2.out.2 b h; omega) _).setw (fun b h => by show b ≠ w.heap.size + 1; have := R2.out.2 b h; omega) _
  · exact ((((((((((B2.out).setCell (Nat.le_add_right _ 1) _).setCell (Nat.le_add_right _ 1) _).setCell (Nat.le_add_right _ 1) _).setCell (Nat.le_add_right _ 1) _).setCell (Nat.le_add_right _ 1) _).setCell (Nat.le_add_right _ 1) _).setCell (Nat.le_add_right _ 1) _).setCell (Nat.le_add_right _ 1) _).setCell (Nat.le_add_right _ 1) _).setCell (Nat.le_add_right _ 1) _

set_option maxHeartbeats 2000000 in
theorem impl_learn_no (k mn mx sp sl li gd av ws : Int) (a : Option Addr) (c : Nat) (L : List (Int × Int)) (now lat : Int) (ok : Bool) (w : World) (ha : WOk w a L) (hl : (L.length : Int) ≤ 1048577) (hn : ¬ (limOk k mn mx sp sl li gd av ws L ∧ isT now ∧ isLat lat)) :
    Calls Try.prog 6 #[.agg #[.int .i64 k, .int .i64 mn, .int .i64 mx, .int .i64 sp, .int .i64 sl, .int .i64 li, .int .i64 gd, .int .i64 av, .int .i64 ws, .slice a L.length c], .int .i64 now, .int .i64 lat, .bool ok] w (LAns w 0 0 0 0 0 0 0 0 0 []) := by
  have HC := fun W h => can_learn k mn mx sp sl li gd av ws a c L now lat false W h hl ⟨fun e => (by cases e), fun e => absurd e hn⟩
  have HA : Hid (WOk w a L) := ha
  clear ha hn
  go_enter Try.func6, Try.ntmps6
  go_wp2_with (go_at_call 15; refine (HC _ (HA.out.below (((Below.refl _ _).alloc (Nat.le_refl _) _).alloc (by simp) _))).mono ?_; rintro e w1 ⟨rfl, hb1⟩; have hy1 := bsize hb1; have hx1 : w.heap.size < w1.heap.size := Nat.lt_of_succ_lt hy1; have B1 : Hid (Below w.heap.size w w1) := past_two hb1; have P1 := hid_two hb1; have c0 := cell_blk P1.out.1 0; have c1 := cell_blk P1.out.1 1; have c2 := cell_blk P1.out.1 2; have c3 := cell_blk P1.out.1 3; have c4 := cell_blk P1.out.1 4; have c5 := cell_blk P1.out.1 5; have c6 := cell_blk P1.out.1 6; have c7 := cell_blk P1.out.1 7; have c8 := cell_blk P1.out.1 8; have c9 := cell_blk P1.out.1 9; have d0 := cell_blk P1.out.2 0; have e0 := fz_blk P1.out.2 0; have d1 := cell_blk P1.out.2 1; have e1 := fz_blk P1.out.2 1; have d2 := cell_blk P1.out.2 2; have e2 := fz_blk P1.out.2 2; have d3 := cell_blk P1.out.2 3; have e3 := fz_blk P1.out.2 3; have d4 := cell_blk P1.out.2 4; have e4 := fz_blk P1.out.2 4; have d5 := cell_blk P1.out.2 5; have e5 := fz_blk P1.out.2 5; have d6 := cell_blk P1.out.2 6; have e6 := fz_blk P1.out.2 6; have d7 := cell_blk P1.out.2 7; have e7 := fz_blk P1.out.2 7; have d8 := cell_blk P1.out.2 8; have e8 := fz_blk P1.out.2 8; have d9 := cell_blk P1.out.2 9; have e9 := fz_blk P1.out.2 9; clear hb1)
  refine bodyPost_ret (v := .agg #[.int .i64 0, .int .i64 0, .int .i64 0, .int .i64 0, .int .i64 0, .int .i64 0, .int .i64 0, .int .i64 0, .int .i64 0, .slice none 0 0]) (by simp [results, Try.results6, go_sem, d0, d1, d2, d3, d4, d5, d6, d7, d8, d9]) rfl ⟨none, 0, rfl, Or.inl rfl, fun b h => by simp [blk] at h, ?_⟩
  exact ((((((((((B1.out).setCell (Nat.le_add_right _ 1) _).setCell (Nat.le_add_right _ 1) _).setCell (Nat.le_add_right _ 1) _).setCell (Nat.le_add_right _ 1) _).setCell (Nat.le_add_right _ 1) _).setCell (Nat.le_add_right _ 1) _).setCell (Nat.le_add_right _ 1) _).setCell (Nat.le_add_right _ 1) _).setCell (Nat.le_add_right _ 1) _).setCell (Nat.le_add_right _ 1) _

set_option maxHeartbeats 4000000 in
theorem impl_learn_fail (k mn mx sp sl li gd av ws : Int) (x y z : Int) (P : List (Int × Int)) (a : Option Addr) (c : Nat) (L : List (Int × Int)) (now lat : Int) (w : World) (ha : WOk w a L) (hl : (L.length : Int) ≤ 1048577) (hk : limOk k mn mx sp sl li gd av ws L) (hT : isT now) (ht : isLat lat)
    (HX : ∀ W, WOk W a L → Calls Try.prog 11 #[.agg #[.int .i64 k, .int .i64 mn, .int .i64 mx, .int .i64 sp, .int .i64 sl, .int .i64 li, .int .i64 gd, .int .i64 av, .int .i64 ws, .slice a L.length c]] W (LAns W k mn mx sp sl x y z ws P)) :
    Calls Try.prog 6 #[.agg #[.int .i64 k, .int .i64 mn, .int .i64 mx, .int .i64 sp, .int .i64 sl, .int .i64 li, .int .i64 gd, .int .i64 av, .int .i64 ws, .slice a L.length c], .int .i64 now, .int .i64 lat, .bool false] w (LAns w k mn mx sp sl x y z ws P) := by
  have HC := fun W h => can_learn k mn mx sp sl li gd av ws a c L now lat true W h hl ⟨fun _ => ⟨hk, hT, ht⟩, fun _ => rfl⟩
  have HA : Hid (WOk w a L) := ha
  clear ha hk ht hT
  go_enter Try.func6, Try.ntmps6
  go_wp2_with (first | (go_at_call 15; refine (HC _ (HA.out.below (((Below.refl _ _).alloc (Nat.le_refl _) _).alloc (by simp) _))).mono ?_; rintro e w1 ⟨rfl, hb1⟩; have hy1 := bsize hb1; have hx1 : w.heap.size < w1.heap.size := Nat.lt_of_succ_lt hy1; have B1 : Hid (Below w.heap.size w w1) := past_two hb1; have P1 := hid_two hb1; have c0 := cell_blk P1.out.1 0; have c1 := cell_blk P1.out.1 1; have c2 := cell_blk P1.out.1 2; have c3 := cell_blk P1.out.1 3; have c4 := cell_blk P1.out.1 4; have c5 := cell_blk P1.out.1 5; have c6 := cell_blk P1.out.1 6; have c7 := cell_blk P1.out.1 7; have c8 := cell_blk P1.out.1 8; have c9 := cell_blk P1.out.1 9; have d0 := cell_blk P1.out.2 0; have e0 := fz_blk P1.out.2 0; have d1 := cell_blk P1.out.2 1; have e1 := fz_blk P1.out.2 1; have d2 := cell_blk P1.out.2 2; have e2 := fz_blk P1.out.2 2; have d3 := cell_blk P1.out.2 3; have e3 := fz_blk P1.out.2 3; have d4 := cell_blk P1.out.2 4; have e4 := fz_blk P1.out.2 4; have d5 := cell_blk P1.out.2 5; have e5 := fz_blk P1.out.2 5; have d6 := cell_blk P1.out.2 6; have e6 := fz_blk P1.out.2 6; have d7 := cell_blk P1.out.2 7; have e7 := fz_blk P1.out.2 7; have d8 := cell_blk P1.out.2 8; have e8 := fz_blk P1.out.2 8; have d9 := cell_blk P1.out.2 9; have e9 := fz_blk P1.out.2 9; clear hb1) | (go_at_call 11; refine (HX _ (HA.out.below B1.out)).mono ?_; clear c0 d0 e0 c1 d1 e1 c2 d2 e2 c3 d3 e3 c4 d4 e4 c5 d5 e5 c6 d6 e6 c7 d7 e7 c8 d8 e8 c9 d9 e9; rintro e w2 ⟨a2, c2', rfl, r2, g2, hb2⟩; have B2 : Hid (Below w.heap.size w w2) := B1.out.trans (hb2.mono (Nat.le_of_lt hx1)); have R2 : Hid (WOk w2 a2 P ∧ ∀ b, blk a2 = some b → w1.heap.size ≤ b) := ⟨r2, g2⟩; have q1 := (hb2.block _ hy1).trans P1.out.2; have hy2 : w.heap.size + 1 < w2.heap.size := Nat.lt_of_lt_of_le hy1 hb2.size; have d0 := cell_blk q1 0; have e0 := fz_blk q1 0; have d1 := cell_blk q1 1; have e1 := fz_blk q1 1; have d2 := cell_blk q1 2; have e2 := fz_blk q1 2; have d3 := cell_blk q1 3; have e3 := fz_blk q1 3; have d4 := cell_blk q1 4; have e4 := fz_blk q1 4; have d5 := cell_blk q1 5; have e5 := fz_blk q1 5; have d6 := cell_blk q1 6; have e6 := fz_blk q1 6; have d7 := cell_blk q1 7; have e7 := fz_blk q1 7; have d8 := cell_blk q1 8; have e8 := fz_blk q1 8; have d9 := cell_blk q1 9; have e9 := fz_blk q1 9; clear hb2 r2 g2 q1))
  refine bodyPost_ret (v := .agg #[.int .i64 k, .int .i64 mn, .int .i64 mx, .int .i64 sp, .int .i64 sl, .int .i64 x, .int .i64 y, .int .i64 z, .int .i64 ws, .slice a2 P.length c2']) (by simp [results, Try.results6, go_sem, d0, d1, d2, d3, d4, d5, d6, d7, d8, d9]) rfl ⟨a2, c2', rfl, ?_, fun b h => by have := R2.out.2 b h; omega, ?_⟩
  · exact ((((((((((R2.out.1).setw (fun b h => by show b ≠ w.heap.size + 1; have := R2.out.2 b h; omega) _).setw (fun b h => by show b ≠ w.heap.size + 1; have := R2.out.2 b h; omega) _).setw (fun b h => by show b ≠ w.heap.size + 1; have := R2.out.2 b h; omega) _).setw (fun b h => by show b ≠ w.heap.size + 1; have := R2.out.2 b h; omega) _).setw (fun b h => by show b ≠ w.heap.size + 1; have := R2.out.2 b h; omega) _).setw (fun b h => by show b ≠ w.heap.size + 1; have := R2.out.2 b h; omega) _).setw (fun b h => by show b ≠ w.heap.size + 1; have := R2.out.2 b h; omega) _).setw (fun b h => by show b ≠ w.heap.size + 1; have := R2.out.2 b h; omega) _).setw (fun b h => by show b ≠ w.heap.size + 1; have := R2.out.2 b h; omega) _).setw (fun b h => by show b ≠ w.heap.size + 1; have := R2.out.2 b h; omega) _
  · exact ((((((((((B2.out).setCell (Nat.le_add_right _ 1) _).setCell (Nat.le_add_right _ 1) _).setCell (Nat.le_add_right _ 1) _).setCell (Nat.le_add_right _ 1) _).setCell (Nat.le_add_right _ 1) _).setCell (Nat.le_add_right _ 1) _).setCell (Nat.le_add_right _ 1) _).setCell (Nat.le_add_right _ 1) _).setCell (Nat.le_add_right _ 1) _).setCell (Nat.le_add_right _ 1) _

theorem rule_steps (k : Int) (w : World) (h : k = 1) : Calls Try.prog 16 #[.int .i64 k] w fun e w' => e = .returned (.iface 62 (.agg #[])) ∧ w' = w := by
  have z : (k == 2) = false := by subst h; rfl
  clear h
  go_enter Try.func16, Try.ntmps16
  go_wp2
  go_ret
  exact ⟨rfl, rfl⟩
theorem rule_slope (k : Int) (w : World) (h : k = 2) : Calls Try.prog 16 #[.int .i64 k] w fun e w' => e = .returned (.iface 61 (.agg #[])) ∧ w' = w := by
  have z : (k == 2) = true := by subst h; rfl
  clear h
  go_enter Try.func16, Try.ntmps16
  go_wp2
  go_ret
  exact ⟨rfl, rfl⟩

theorem upon_method {P : Program} {o : Oper} {a : Act} {K : Act → World → Prop} {Q : Exit → Act → World → Prop} {s : String} {i t : TypeId} {v r : Value} {W : World} {f : FuncId} {g : FuncId × Value → World → Result Next} (hm : (method i t v s).run P W = .ok (f, r) W) (h : Oper.upon P o a K Q (g (f, r) W)) : Oper.upon P o a K Q (((method i t v s).run P W).andThen g) := by
  rw [hm]
  exact h

set_option maxHeartbeats 4000000 in
theorem impl_learn_steps (k mn mx sp sl li gd av ws : Int) (x y z : Int) (P : List (Int × Int)) (a : Option Addr) (c : Nat) (L : List (Int × Int)) (now lat : Int) (w : World) (ha : WOk w a L) (hl : (L.length : Int) ≤ 1048577) (hk : limOk k mn mx sp sl li gd av ws L) (hT : isT now) (ht : isLat lat) (h1 : k = 1)
    (HX : ∀ W, WOk W a L → Calls Try.prog 90 #[.agg #[], .agg #[.int .i64 k, .int .i64 mn, .int .i64 mx, .int .i64 sp, .int .i64 sl, .int .i64 li, .int .i64 gd, .int .i64 av, .int .i64 ws, .slice a L.length c], .int .i64 now, .int .i64 lat] W (LAns W k mn mx sp sl x y z ws P)) :
    Calls Try.prog 6 #[.agg #[.int .i64 k, .int .i64 mn, .int .i64 mx, .int .i64 sp, .int .i64 sl, .int .i64 li, .int .i64 gd, .int .i64 av, .int .i64 ws, .slice a L.length c], .int .i64 now, .int .i64 lat, .bool true] w (LAns w k mn mx sp sl x y z ws P) := by
  have HC := fun W h => can_learn k mn mx sp sl li gd av ws a c L now lat true W h hl ⟨fun _ => ⟨hk, hT, ht⟩, fun _ => rfl⟩
  have HRU := fun W => rule_steps k W h1
  have HA : Hid (WOk w a L) := ha
  clear ha hk ht hT h1
  go_enter Try.func6, Try.ntmps6
  go_upto_region 5 with (go_at_call 15; refine (HC _ (HA.out.below (((Below.refl _ _).alloc (Nat.le_refl _) _).alloc (by simp) _))).mono ?_; rintro e w1 ⟨rfl, hb1⟩; have hy1 := bsize hb1; have hx1 : w.heap.size < w1.heap.size := Nat.lt_of_succ_lt hy1; have B1 : Hid (Below w.heap.size w w1) := past_two hb1; have P1 := hid_two hb1; have c0 := cell_blk P1.out.1 0; have c1 := cell_blk P1.out.1 1; have c2 := cell_blk P1.out.1 2; have c3 := cell_blk P1.out.1 3; have c4 := cell_blk P1.out.1 4; have c5 := cell_blk P1.out.1 5; have c6 := cell_blk P1.out.1 6; have c7 := cell_blk P1.out.1 7; have c8 := cell_blk P1.out.1 8; have c9 := cell_blk P1.out.1 9; have d0 := cell_blk P1.out.2 0; have e0 := fz_blk P1.out.2 0; have d1 := cell_blk P1.out.2 1; have e1 := fz_blk P1.out.2 1; have d2 := cell_blk P1.out.2 2; have e2 := fz_blk P1.out.2 2; have d3 := cell_blk P1.out.2 3; have e3 := fz_blk P1.out.2 3; have d4 := cell_blk P1.out.2 4; have e4 := fz_blk P1.out.2 4; have d5 := cell_blk P1.out.2 5; have e5 := fz_blk P1.out.2 5; have d6 := cell_blk P1.out.2 6; have e6 := fz_blk P1.out.2 6; have d7 := cell_blk P1.out.2 7; have e7 := fz_blk P1.out.2 7; have d8 := cell_blk P1.out.2 8; have e8 := fz_blk P1.out.2 8; have d9 := cell_blk P1.out.2 9; have e9 := fz_blk P1.out.2 9; clear hb1)
  have x0 : w1.cell? ⟨w.heap.size, 0, none⟩ = some (.int .i64 k) := c0
  have x1 : w1.cell? ⟨w.heap.size, 1, none⟩ = some (.int .i64 mn) := cell_blk P1.out.1 1
  have x2 : w1.cell? ⟨w.heap.size, 2, none⟩ = some (.int .i64 mx) := cell_blk P1.out.1 2
  have x3 : w1.cell? ⟨w.heap.size, 3, none⟩ = some (.int .i64 sp) := cell_blk P1.out.1 3
  have x4 : w1.cell? ⟨w.heap.size, 4, none⟩ = some (.int .i64 sl) := cell_blk P1.out.1 4
  have x5 : w1.cell? ⟨w.heap.size, 5, none⟩ = some (.int .i64 li) := cell_blk P1.out.1 5
  have x6 : w1.cell? ⟨w.heap.size, 6, none⟩ = some (.int .i64 gd) := cell_blk P1.out.1 6
  have x7 : w1.cell? ⟨w.heap.size, 7, none⟩ = some (.int .i64 av) := cell_blk P1.out.1 7
  have x8 : w1.cell? ⟨w.heap.size, 8, none⟩ = some (.int .i64 ws) := cell_blk P1.out.1 8
  have x9 : w1.cell? ⟨w.heap.size, 9, none⟩ = some (.slice a L.length c) := cell_blk P1.out.1 9
  clear c0 d0 e0 c1 d1 e1 c2 d2 e2 c3 d3 e3 c4 d4 e4 c5 d5 e5 c6 d6 e6 c7 d7 e7 c8 d8 e8 c9 d9 e9
  have near := Near.is w1
  have X0 := Near.cell x0
  have X1 := Near.cell x1
  have X2 := Near.cell x2
  have X3 := Near.cell x3
  have X4 := Near.cell x4
  have X5 := Near.cell x5
  have X6 := Near.cell x6
  have X7 := Near.cell x7
  have X8 := Near.cell x8
  have X9 := Near.cell x9
  clear x0 x1 x2 x3 x4 x5 x6 x7 x8 x9
  refine wp_region_near_tail 7 (by kernel_rfl) (by kernel_rfl) (by kernel_rfl) ?_
  simp only [List.take_succ_cons, List.take_zero, List.drop_succ_cons, List.drop_zero]
  repeat (go_big_quiet_step ((go_at_call 16; exact near_same (HRU _))))
  refine wpQuiet_nil ?_
  intro wx hwx
  obtain ⟨yy, hy⟩ := hwx
  subst hy
  have MD : Hid (yy.w.heap[w.heap.size + 1]? = some (.cells #[.int .i64 0, .int .i64 0, .int .i64 0, .int .i64 0, .int .i64 0, .int .i64 0, .int .i64 0, .int .i64 0, .int .i64 0, .slice none 0 0] 29 (0, 0)) ∧ Below w.heap.size w yy.w ∧ w.heap.size + 1 < yy.w.heap.size) := ⟨(yy.near.block _ hy1).trans P1.out.2, B1.out.trans (yy.near.mono (Nat.le_of_lt hx1)), Nat.lt_of_lt_of_le hy1 yy.near.size⟩
  obtain ⟨wd, hwd⟩ : ∃ wd, yy.w = wd := ⟨_, rfl⟩
  rw [hwd] at MD ⊢
  clear hwd yy near X0 X1 X2 X3 X4 X5 X6 X7 X8 X9
  have hn1 := MD.out.2.2
  have hn0 : w.heap.size < wd.heap.size := Nat.lt_of_succ_lt hn1
  go_wp2_with fail
  refine upon_method (f := 90) (r := .agg #[]) (by kernel_rfl) ?_
  go_wp2_with (go_at_call 90; refine (HX _ (HA.out.below MD.out.2.1)).mono ?_; rintro e w2 ⟨a2, c2', rfl, r2, g2, hb2⟩; have B2 : Hid (Below w.heap.size w w2) := MD.out.2.1.trans (hb2.mono (Nat.le_of_lt hn0)); have R2 : Hid (WOk w2 a2 P ∧ ∀ b, blk a2 = some b → wd.heap.size ≤ b) := ⟨r2, g2⟩; have q1 := (hb2.block _ hn1).trans MD.out.1; have hy2 : w.heap.size + 1 < w2.heap.size := Nat.lt_of_lt_of_le hn1 hb2.size; have d0 := cell_blk q1 0; have e0 := fz_blk q1 0; have d1 := cell_blk q1 1; have e1 := fz_blk q1 1; have d2 := cell_blk q1 2; have e2 := fz_blk q1 2; have d3 := cell_blk q1 3; have e3 := fz_blk q1 3; have d4 := cell_blk q1 4; have e4 := fz_blk q1 4; have d5 := cell_blk q1 5; have e5 := fz_blk q1 5; have d6 := cell_blk q1 6; have e6 := fz_blk q1 6; have d7 := cell_blk q1 7; have e7 := fz_blk q1 7; have d8 := cell_blk q1 8; have e8 := fz_blk q1 8; have d9 := cell_blk q1 9; have e9 := fz_blk q1 9; clear hb2 r2 g2 q1)
  refine bodyPost_ret (v := .agg #[.int .i64 k, .int .i64 mn, .int .i64 mx, .int .i64 sp, .int .i64 sl, .int .i64 x, .int .i64 y, .int .i64 z, .int .i64 ws, .slice a2 P.length c2']) (by simp [results, Try.results6, go_sem, d0, d1, d2, d3, d4, d5, d6, d7, d8, d9]) rfl ⟨a2, c2', rfl, ?_, fun b h => by have := R2.out.2 b h; omega, ?_⟩
  · exact ((((((((((R2.out.1).setw (fun b h => by show b ≠ w.heap.size + 1; have := R2.out.2 b h; omega) _).setw (fun b h => by show b ≠ w.heap.size + 1; have := R2.out.2 b h; omega) _).setw (fun b h => by show b ≠ w.heap.size + 1; have := R2.out.2 b h; omega) _).setw (fun b h => by show b ≠ w.heap.size + 1; have := R2.out.2 b h; omega) _).setw (fun b h => by show b ≠ w.heap.size + 1; have := R2.out.2 b h; omega) _).setw (fun b h => by show b ≠ w.heap.size + 1; have := R2.out.2 b h; omega) _).setw (fun b h => by show b ≠ w.heap.size + 1; have := R2.out.2 b h; omega) _).setw (fun b h => by show b ≠ w.heap.size + 1; have := R2.out.2 b h; omega) _).setw (fun b h => by show b ≠ w.heap.size + 1; have := R2.out.2 b h; omega) _).setw (fun b h => by show b ≠ w.heap.size + 1; have := R2.out.2 b h; omega) _
  · exact ((((((((((B2.out).setCell (Nat.le_add_right _ 1) _).setCell (Nat.le_add_right _ 1) _).setCell (Nat.le_add_right _ 1) _).setCell (Nat.le_add_right _ 1) _).setCell (Nat.le_add_right _ 1) _).setCell (Nat.le_add_right _ 1) _).setCell (Nat.le_add_right _ 1) _).setCell (Nat.le_add_right _ 1) _).setCell (Nat.le_add_right _ 1) _).setCell (Nat.le_add_right _ 1) _

set_option maxHeartbeats 4000000 in
theorem impl_learn_slope (k mn mx sp sl li gd av ws : Int) (x y z : Int) (P : List (Int × Int)) (a : Option Addr) (c : Nat) (L : List (Int × Int)) (now lat : Int) (w : World) (ha : WOk w a L) (hl : (L.length : Int) ≤ 1048577) (hk : limOk k mn mx sp sl li gd av ws L) (hT : isT now) (ht : isLat lat) (h1 : k = 2)
    (HX : ∀ W, WOk W a L → Calls Try.prog 67 #[.agg #[], .agg #[.int .i64 k, .int .i64 mn, .int .i64 mx, .int .i64 sp, .int .i64 sl, .int .i64 li, .int .i64 gd, .int .i64 av, .int .i64 ws, .slice a L.length c], .int .i64 now, .int .i64 lat] W (LAns W k mn mx sp sl x y z ws P)) :
    Calls Try.prog 6 #[.agg #[.int .i64 k, .int .i64 mn, .int .i64 mx, .int .i64 sp, .int .i64 sl, .int .i64 li, .int .i64 gd, .int .i64 av, .int .i64 ws, .slice a L.length c], .int .i64 now, .int .i64 lat, .bool true] w (LAns w k mn mx sp sl x y z ws P) := by
  have HC := fun W h => can_learn k mn mx sp sl li gd av ws a c L now lat true W h hl ⟨fun _ => ⟨hk, hT, ht⟩, fun _ => rfl⟩
  have HRU := fun W => rule_slope k W h1
  have HA : Hid (WOk w a L) := ha
  clear ha hk ht hT h1
  go_enter Try.func6, Try.ntmps6
  go_upto_region 5 with (go_at_call 15; refine (HC _ (HA.out.below (((Below.refl _ _).alloc (Nat.le_refl _) _).alloc (by simp) _))).mono ?_; rintro e w1 ⟨rfl, hb1⟩; have hy1 := bsize hb1; have hx1 : w.heap.size < w1.heap.size := Nat.lt_of_succ_lt hy1; have B1 : Hid (Below w.heap.size w w1) := past_two hb1; have P1 := hid_two hb1; have c0 := cell_blk P1.out.1 0; have c1 := cell_blk P1.out.1 1; have c2 := cell_blk P1.out.1 2; have c3 := cell_blk P1.out.1 3; have c4 := cell_blk P1.out.1 4; have c5 := cell_blk P1.out.1 5; have c6 := cell_blk P1.out.1 6; have c7 := cell_blk P1.out.1 7; have c8 := cell_blk P1.out.1 8; have c9 := cell_blk P1.out.1 9; have d0 := cell_blk P1.out.2 0; have e0 := fz_blk P1.out.2 0; have d1 := cell_blk P1.out.2 1; have e1 := fz_blk P1.out.2 1; have d2 := cell_blk P1.out.2 2; have e2 := fz_blk P1.out.2 2; have d3 := cell_blk P1.out.2 3; have e3 := fz_blk P1.out.2 3; have d4 := cell_blk P1.out.2 4; have e4 := fz_blk P1.out.2 4; have d5 := cell_blk P1.out.2 5; have e5 := fz_blk P1.out.2 5; have d6 := cell_blk P1.out.2 6; have e6 := fz_blk P1.out.2 6; have d7 := cell_blk P1.out.2 7; have e7 := fz_blk P1.out.2 7; have d8 := cell_blk P1.out.2 8; have e8 := fz_blk P1.out.2 8; have d9 := cell_blk P1.out.2 9; have e9 := fz_blk P1.out.2 9; clear hb1)
  have x0 : w1.cell? ⟨w.heap.size, 0, none⟩ = some (.int .i64 k) := c0
  have x1 : w1.cell? ⟨w.heap.size, 1, none⟩ = some (.int .i64 mn) := cell_blk P1.out.1 1
  have x2 : w1.cell? ⟨w.heap.size, 2, none⟩ = some (.int .i64 mx) := cell_blk P1.out.1 2
  have x3 : w1.cell? ⟨w.heap.size, 3, none⟩ = some (.int .i64 sp) := cell_blk P1.out.1 3
  have x4 : w1.cell? ⟨w.heap.size, 4, none⟩ = some (.int .i64 sl) := cell_blk P1.out.1 4
  have x5 : w1.cell? ⟨w.heap.size, 5, none⟩ = some (.int .i64 li) := cell_blk P1.out.1 5
  have x6 : w1.cell? ⟨w.heap.size, 6, none⟩ = some (.int .i64 gd) := cell_blk P1.out.1 6
  have x7 : w1.cell? ⟨w.heap.size, 7, none⟩ = some (.int .i64 av) := cell_blk P1.out.1 7
  have x8 : w1.cell? ⟨w.heap.size, 8, none⟩ = some (.int .i64 ws) := cell_blk P1.out.1 8
  have x9 : w1.cell? ⟨w.heap.size, 9, none⟩ = some (.slice a L.length c) := cell_blk P1.out.1 9
  clear c0 d0 e0 c1 d1 e1 c2 d2 e2 c3 d3 e3 c4 d4 e4 c5 d5 e5 c6 d6 e6 c7 d7 e7 c8 d8 e8 c9 d9 e9
  have near := Near.is w1
  have X0 := Near.cell x0
  have X1 := Near.cell x1
  have X2 := Near.cell x2
  have X3 := Near.cell x3
  have X4 := Near.cell x4
  have X5 := Near.cell x5
  have X6 := Near.cell x6
  have X7 := Near.cell x7
  have X8 := Near.cell x8
  have X9 := Near.cell x9
  clear x0 x1 x2 x3 x4 x5 x6 x7 x8 x9
  refine wp_region_near_tail 7 (by kernel_rfl) (by kernel_rfl) (by kernel_rfl) ?_
  simp only [List.take_succ_cons, List.take_zero, List.drop_succ_cons, List.drop_zero]
  repeat (go_big_quiet_step ((go_at_call 16; exact near_same (HRU _))))
  refine wpQuiet_nil ?_
  intro wx hwx
  obtain ⟨yy, hy⟩ := hwx
  subst hy
  have MD : Hid (yy.w.heap[w.heap.size + 1]? = some (.cells #[.int .i64 0, .int .i64 0, .int .i64 0, .int .i64 0, .int .i64 0, .int .i64 0, .int .i64 0, .int .i64 0, .int .i64 0, .slice none 0 0] 29 (0, 0)) ∧ Below w.heap.size w yy.w ∧ w.heap.size + 1 < yy.w.heap.size) := ⟨(yy.near.block _ hy1).trans P1.out.2, B1.out.trans (yy.near.mono (Nat.le_of_lt hx1)), Nat.lt_of_lt_of_le hy1 yy.near.size⟩
  obtain ⟨wd, hwd⟩ : ∃ wd, yy.w = wd := ⟨_, rfl⟩
  rw [hwd] at MD ⊢
  clear hwd yy near X0 X1 X2 X3 X4 X5 X6 X7 X8 X9
  have hn1 := MD.out.2.2
  have hn0 : w.heap.size < wd.heap.size := Nat.lt_of_succ_lt hn1
  go_wp2_with fail
  refine upon_method (f := 67) (r := .agg #[]) (by kernel_rfl) ?_
  go_wp2_with (go_at_call 67; refine (HX _ (HA.out.below MD.out.2.1)).mono ?_; rintro e w2 ⟨a2, c2', rfl, r2, g2, hb2⟩; have B2 : Hid (Below w.heap.size w w2) := MD.out.2.1.trans (hb2.mono (Nat.le_of_lt hn0)); have R2 : Hid (WOk w2 a2 P ∧ ∀ b, blk a2 = some b → wd.heap.size ≤ b) := ⟨r2, g2⟩; have q1 := (hb2.block _ hn1).trans MD.out.1; have hy2 : w.heap.size + 1 < w2.heap.size := Nat.lt_of_lt_of_le hn1 hb2.size; have d0 := cell_blk q1 0; have e0 := fz_blk q1 0; have d1 := cell_blk q1 1; have e1 := fz_blk q1 1; have d2 := cell_blk q1 2; have e2 := fz_blk q1 2; have d3 := cell_blk q1 3; have e3 := fz_blk q1 3; have d4 := cell_blk q1 4; have e4 := fz_blk q1 4; have d5 := cell_blk q1 5; have e5 := fz_blk q1 5; have d6 := cell_blk q1 6; have e6 := fz_blk q1 6; have d7 := cell_blk q1 7; have e7 := fz_blk q1 7; have d8 := cell_blk q1 8; have e8 := fz_blk q1 8; have d9 := cell_blk q1 9; have e9 := fz_blk q1 9; clear hb2 r2 g2 q1)
  refine bodyPost_ret (v := .agg #[.int .i64 k, .int .i64 mn, .int .i64 mx, .int .i64 sp, .int .i64 sl, .int .i64 x, .int .i64 y, .int .i64 z, .int .i64 ws, .slice a2 P.length c2']) (by simp [results, Try.results6, go_sem, d0, d1, d2, d3, d4, d5, d6, d7, d8, d9]) rfl ⟨a2, c2', rfl, ?_, fun b h => by have := R2.out.2 b h; omega, ?_⟩
  · exact ((((((((((R2.out.1).setw (fun b h => by show b ≠ w.heap.size + 1; have := R2.out.2 b h; omega) _).setw (fun b h => by show b ≠ w.heap.size + 1; have := R2.out.2 b h; omega) _).setw (fun b h => by show b ≠ w.heap.size + 1; have := R2.out.2 b h; omega) _).setw (fun b h => by show b ≠ w.heap.size + 1; have := R2.out.2 b h; omega) _).setw (fun b h => by show b ≠ w.heap.size + 1; have := R2.out.2 b h; omega) _).setw (fun b h => by show b ≠ w.heap.size + 1; have := R2.out.2 b h; omega) _).setw (fun b h => by show b ≠ w.heap.size + 1; have := R2.out.2 b h; omega) _).setw (fun b h => by show b ≠ w.heap.size + 1; have := R2.out.2 b h; omega) _).setw (fun b h => by show b ≠ w.heap.size + 1; have := R2.out.2 b h; omega) _).setw (fun b h => by show b ≠ w.heap.size + 1; have := R2.out.2 b h; omega) _
  · exact ((((((((((B2.out).setCell (Nat.le_add_right _ 1) _).setCell (Nat.le_add_right _ 1) _).setCell (Nat.le_add_right _ 1) _).setCell (Nat.le_add_right _ 1) _).setCell (Nat.le_add_right _ 1) _).setCell (Nat.le_add_right _ 1) _).setCell (Nat.le_add_right _ 1) _).setCell (Nat.le_add_right _ 1) _).setCell (Nat.le_add_right _ 1) _).setCell (Nat.le_add_right _ 1) _

end Go.Proofs.Ytbdkepnjhcdpnaa.LimLearn
