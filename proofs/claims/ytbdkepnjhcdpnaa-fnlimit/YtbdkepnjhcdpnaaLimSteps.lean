/- What the model's Steps answers, at every limit and latency; nothing else turns. -/
import Derived.Test.YtbdkepnjhcdpnaaRows
import Derived.WalkKit
import Derived.WalkSmall
import Derived.BigQuiet
import Derived.Test.YtbdkepnjhcdpnaaPairWalks
import Derived.Test.YtbdkepnjhcdpnaaWinOk
import Derived.Test.YtbdkepnjhcdpnaaLimKit
import Derived.Test.YtbdkepnjhcdpnaaLimSpec
import Derived.Test.YtbdkepnjhcdpnaaLimCopy
import Derived.Test.YtbdkepnjhcdpnaaLimBack
namespace Go.Proofs.Ytbdkepnjhcdpnaa.LimSteps
open Go.RowKit PairWalks WinOk LimKit LimSpec LimCopy LimBack

def isLat (n : Int) : Prop := 0 ≤ n ∧ n ≤ 1000000

set_option maxHeartbeats 2000000 in
theorem steps_no (k mn mx sp sl li gd av ws : Int) (a : Option Addr) (c : Nat) (L : List (Int × Int)) (lat : Int) (w : World) (ha : WOk w a L) (hl : (L.length : Int) ≤ 1048577) (hn : ¬ (limOk k mn mx sp sl li gd av ws L ∧ isLat lat)) :
    Calls Try.prog 36 #[.agg #[.int .i64 k, .int .i64 mn, .int .i64 mx, .int .i64 sp, .int .i64 sl, .int .i64 li, .int .i64 gd, .int .i64 av, .int .i64 ws, .slice a L.length c], .int .i64 lat] w (LAns w 0 0 0 0 0 0 0 0 0 []) := by
  have HA : Hid (WOk w a L) := ha
  clear ha
  by_cases hk : limOk k mn mx sp sl li gd av ws L
  · have HO := fun W h => spec_limok k mn mx sp sl li gd av ws a c L true W h hl ⟨fun _ => hk, fun _ => rfl⟩
    have hb : lat < 0 ∨ 1000000 < lat := by
      have : ¬ isLat lat := fun h => hn ⟨hk, h⟩
      unfold isLat at this
      omega
    clear hn hk
    rcases hb with hb | hb
    · have d0 : decide (0 ≤ lat) = false := by simp; omega
      go_enter Try.func36, Try.ntmps36
      go_wp2_with (first | (go_at_call 32; refine (HO _ (HA.out.below (((Below.refl _ _).alloc (Nat.le_refl _) _).alloc (by simp) _))).mono ?_; rintro e w1 ⟨rfl, hb1⟩; obtain ⟨hc1, hf1⟩ := bcell hb1; have hy1 := bsize hb1; have hx1 : w.heap.size < w1.heap.size := Nat.lt_of_succ_lt hy1; have B1 : Hid (Below w.heap.size w w1) := past_two hb1; clear hb1) | (go_at_call 34; go_in))
      refine bodyPost_ret (v := .agg #[.int .i64 0, .int .i64 0, .int .i64 0, .int .i64 0, .int .i64 0, .int .i64 0, .int .i64 0, .int .i64 0, .int .i64 0, .slice none 0 0]) (by simp [results, Try.results36, go_sem, hc1]) rfl ⟨none, 0, rfl, Or.inl rfl, fun b h => by simp [blk] at h, ?_⟩
      exact ((((((((((B1.out).setCell (Nat.le_add_right _ 1) _).setCell (Nat.le_add_right _ 1) _).setCell (Nat.le_add_right _ 1) _).setCell (Nat.le_add_right _ 1) _).setCell (Nat.le_add_right _ 1) _).setCell (Nat.le_add_right _ 1) _).setCell (Nat.le_add_right _ 1) _).setCell (Nat.le_add_right _ 1) _).setCell (Nat.le_add_right _ 1) _).setCell (Nat.le_add_right _ 1) _
    · have d0 : decide (0 ≤ lat) = true := by simp; omega
      have d1 : decide (lat ≤ 1000000) = false := by simp; omega
      go_enter Try.func36, Try.ntmps36
      go_wp2_with (first | (go_at_call 32; refine (HO _ (HA.out.below (((Below.refl _ _).alloc (Nat.le_refl _) _).alloc (by simp) _))).mono ?_; rintro e w1 ⟨rfl, hb1⟩; obtain ⟨hc1, hf1⟩ := bcell hb1; have hy1 := bsize hb1; have hx1 : w.heap.size < w1.heap.size := Nat.lt_of_succ_lt hy1; have B1 : Hid (Below w.heap.size w w1) := past_two hb1; clear hb1) | (go_at_call 34; go_in))
      refine bodyPost_ret (v := .agg #[.int .i64 0, .int .i64 0, .int .i64 0, .int .i64 0, .int .i64 0, .int .i64 0, .int .i64 0, .int .i64 0, .int .i64 0, .slice none 0 0]) (by simp [results, Try.results36, go_sem, hc1]) rfl ⟨none, 0, rfl, Or.inl rfl, fun b h => by simp [blk] at h, ?_⟩
      exact ((((((((((B1.out).setCell (Nat.le_add_right _ 1) _).setCell (Nat.le_add_right _ 1) _).setCell (Nat.le_add_right _ 1) _).setCell (Nat.le_add_right _ 1) _).setCell (Nat.le_add_right _ 1) _).setCell (Nat.le_add_right _ 1) _).setCell (Nat.le_add_right _ 1) _).setCell (Nat.le_add_right _ 1) _).setCell (Nat.le_add_right _ 1) _).setCell (Nat.le_add_right _ 1) _
  · have HO := fun W h => spec_limok k mn mx sp sl li gd av ws a c L false W h hl ⟨fun e => (by cases e), fun e => absurd e hk⟩
    clear hn hk
    go_enter Try.func36, Try.ntmps36
    go_wp2_with (go_at_call 32; refine (HO _ (HA.out.below (((Below.refl _ _).alloc (Nat.le_refl _) _).alloc (by simp) _))).mono ?_; rintro e w1 ⟨rfl, hb1⟩; obtain ⟨hc1, hf1⟩ := bcell hb1; have hy1 := bsize hb1; have hx1 : w.heap.size < w1.heap.size := Nat.lt_of_succ_lt hy1; have B1 : Hid (Below w.heap.size w w1) := past_two hb1; clear hb1)
    refine bodyPost_ret (v := .agg #[.int .i64 0, .int .i64 0, .int .i64 0, .int .i64 0, .int .i64 0, .int .i64 0, .int .i64 0, .int .i64 0, .int .i64 0, .slice none 0 0]) (by simp [results, Try.results36, go_sem, hc1]) rfl ⟨none, 0, rfl, Or.inl rfl, fun b h => by simp [blk] at h, ?_⟩
    exact ((((((((((B1.out).setCell (Nat.le_add_right _ 1) _).setCell (Nat.le_add_right _ 1) _).setCell (Nat.le_add_right _ 1) _).setCell (Nat.le_add_right _ 1) _).setCell (Nat.le_add_right _ 1) _).setCell (Nat.le_add_right _ 1) _).setCell (Nat.le_add_right _ 1) _).setCell (Nat.le_add_right _ 1) _).setCell (Nat.le_add_right _ 1) _).setCell (Nat.le_add_right _ 1) _

set_option maxHeartbeats 4000000 in
set_option maxRecDepth 8000 in
theorem steps_slow (k mn mx sp sl li gd av ws : Int) (a : Option Addr) (c : Nat) (L : List (Int × Int)) (lat : Int) (w : World) (ha : WOk w a L) (hl : (L.length : Int) ≤ 1048577) (hk : limOk k mn mx sp sl li gd av ws L) (ht : isLat lat) (hs : sl < lat) :
    Calls Try.prog 36 #[.agg #[.int .i64 k, .int .i64 mn, .int .i64 mx, .int .i64 sp, .int .i64 sl, .int .i64 li, .int .i64 gd, .int .i64 av, .int .i64 ws, .slice a L.length c], .int .i64 lat] w (LAns w k mn mx sp sl (clampI (li * 9 / 10) mn mx) 0 av ws L) := by
  have HO := fun W h => spec_limok k mn mx sp sl li gd av ws a c L true W h hl ⟨fun _ => hk, fun _ => rfl⟩
  have HA : Hid (WOk w a L) := ha
  have t0 : 0 ≤ lat := ht.1
  have t1 : lat ≤ 1000000 := ht.2
  have d0 : decide (0 ≤ lat) = true := by simp; omega
  have d1 : decide (lat ≤ 1000000) = true := by simp; omega
  have l0 : 1 ≤ li := by have h1 := hk.1.2.1; have h2 := hk.2.1; omega
  have l1 : li ≤ 1000 := by have h1 := hk.1.2.2.2.1; have h2 := hk.2.2.1; omega
  have l2 : 0 ≤ gd := hk.2.2.2.1
  have l3 : gd ≤ 1000 := hk.2.2.2.2.1
  have HBK := fun W h => back_yes k mn mx sp sl li gd av ws a c L W h hl hk
  obtain ⟨R, hR⟩ : ∃ R, clampI (li * 9 / 10) mn mx = R := ⟨_, rfl⟩
  rw [hR] at HBK ⊢
  clear hR
  clear ha hk ht
  go_enter Try.func36, Try.ntmps36
  go_wp2_with (first | (go_at_call 32; refine (HO _ (HA.out.below (((Below.refl _ _).alloc (Nat.le_refl _) _).alloc (by simp) _))).mono ?_; rintro e w1 ⟨rfl, hb1⟩; obtain ⟨hc1, hf1⟩ := bcell hb1; have hy1 := bsize hb1; have hx1 : w.heap.size < w1.heap.size := Nat.lt_of_succ_lt hy1; have B1 : Hid (Below w.heap.size w w1) := past_two hb1; clear hb1) | (go_at_call 34; go_in) | (go_at_call 35; refine (HBK _ (HA.out.below B1.out)).mono ?_; rintro e w2 ⟨a2, c2, rfl, r2, g2, hb2⟩; obtain ⟨hc2, hf2⟩ := bcell hb2; have hy2 : w.heap.size + 1 < w2.heap.size := Nat.lt_of_lt_of_le hy1 hb2.size; have hx2 : w.heap.size < w2.heap.size := Nat.lt_of_succ_lt hy2; have B2 : Hid (Below w.heap.size w w2) := B1.out.trans (hb2.mono (Nat.le_of_lt hx1)); have R2 : Hid (WOk w2 a2 L ∧ ∀ b, blk a2 = some b → w1.heap.size ≤ b) := ⟨r2, g2⟩; clear hb2 r2 g2))
  refine bodyPost_ret (v := .agg #[.int .i64 k, .int .i64 mn, .int .i64 mx, .int .i64 sp, .int .i64 sl, .int .i64 R, .int .i64 0, .int .i64 av, .int .i64 ws, .slice a2 L.length c2]) (by simp [results, Try.results36, go_sem, hc1, hc2, hy1]) rfl ⟨a2, c2, rfl, ?_, fun b h => by have := R2.out.2 b h; omega, ?_⟩
  · exact ((((((((((R2.out.1).setw (fun b h => by show b ≠ w.heap.size + 1; have := R2.out.2 b h; omega) _).setw (fun b h => by show b ≠ w.heap.size + 1; have := R2.out.2 b h; omega) _).setw (fun b h => by show b ≠ w.heap.size + 1; have := R2.out.2 b h; omega) _).setw (fun b h => by show b ≠ w.heap.size + 1; have := R2.out.2 b h; omega) _).setw (fun b h => by show b ≠ w.heap.size + 1; have := R2.out.2 b h; omega) _).setw (fun b h => by show b ≠ w.heap.size + 1; have := R2.out.2 b h; omega) _).setw (fun b h => by show b ≠ w.heap.size + 1; have := R2.out.2 b h; omega) _).setw (fun b h => by show b ≠ w.heap.size + 1; have := R2.out.2 b h; omega) _).setw (fun b h => by show b ≠ w.heap.size + 1; have := R2.out.2 b h; omega) _).setw (fun b h => by show b ≠ w.heap.size + 1; have := R2.out.2 b h; omega) _
  · exact ((((((((((B2.out).setCell (Nat.le_add_right _ 1) _).setCell (Nat.le_add_right _ 1) _).setCell (Nat.le_add_right _ 1) _).setCell (Nat.le_add_right _ 1) _).setCell (Nat.le_add_right _ 1) _).setCell (Nat.le_add_right _ 1) _).setCell (Nat.le_add_right _ 1) _).setCell (Nat.le_add_right _ 1) _).setCell (Nat.le_add_right _ 1) _).setCell (Nat.le_add_right _ 1) _

set_option maxHeartbeats 4000000 in
set_option maxRecDepth 8000 in
theorem steps_up (k mn mx sp sl li gd av ws : Int) (a : Option Addr) (c : Nat) (L : List (Int × Int)) (lat : Int) (w : World) (ha : WOk w a L) (hl : (L.length : Int) ≤ 1048577) (hk : limOk k mn mx sp sl li gd av ws L) (ht : isLat lat) (hs : ¬ sl < lat) (hg : li ≤ gd + 1) :
    Calls Try.prog 36 #[.agg #[.int .i64 k, .int .i64 mn, .int .i64 mx, .int .i64 sp, .int .i64 sl, .int .i64 li, .int .i64 gd, .int .i64 av, .int .i64 ws, .slice a L.length c], .int .i64 lat] w (LAns w k mn mx sp sl (clampI (li + 1) mn mx) 0 av ws L) := by
  have HO := fun W h => spec_limok k mn mx sp sl li gd av ws a c L true W h hl ⟨fun _ => hk, fun _ => rfl⟩
  have HA : Hid (WOk w a L) := ha
  have t0 : 0 ≤ lat := ht.1
  have t1 : lat ≤ 1000000 := ht.2
  have d0 : decide (0 ≤ lat) = true := by simp; omega
  have d1 : decide (lat ≤ 1000000) = true := by simp; omega
  have l0 : 1 ≤ li := by have h1 := hk.1.2.1; have h2 := hk.2.1; omega
  have l1 : li ≤ 1000 := by have h1 := hk.1.2.2.2.1; have h2 := hk.2.2.1; omega
  have l2 : 0 ≤ gd := hk.2.2.2.1
  have l3 : gd ≤ 1000 := hk.2.2.2.2.1
  have HC := fun W h => spec_copy k mn mx sp sl li gd av ws a c L W h (by omega)
  have HCL := fun W => spec_clamp (li + 1) mn mx W
  obtain ⟨R, hR⟩ : ∃ R, clampI (li + 1) mn mx = R := ⟨_, rfl⟩
  rw [hR] at HCL ⊢
  clear hR
  clear ha hk ht
  go_enter Try.func36, Try.ntmps36
  go_wp2_with (first | (go_at_call 32; refine (HO _ (HA.out.below (((Below.refl _ _).alloc (Nat.le_refl _) _).alloc (by simp) _))).mono ?_; rintro e w1 ⟨rfl, hb1⟩; obtain ⟨hc1, hf1⟩ := bcell hb1; have hy1 := bsize hb1; have hx1 : w.heap.size < w1.heap.size := Nat.lt_of_succ_lt hy1; have B1 : Hid (Below w.heap.size w w1) := past_two hb1; clear hb1) | (go_at_call 34; go_in) | (go_at_call 42; refine (HC _ (HA.out.below B1.out)).mono ?_; rintro e w2 ⟨a2, c2, rfl, r2, g2, hb2⟩; obtain ⟨hc2, hf2⟩ := bcell hb2; have hy2 : w.heap.size + 1 < w2.heap.size := Nat.lt_of_lt_of_le hy1 hb2.size; have hx2 : w.heap.size < w2.heap.size := Nat.lt_of_succ_lt hy2; have B2 : Hid (Below w.heap.size w w2) := B1.out.trans (hb2.mono (Nat.le_of_lt hx1)); have R2 : Hid (WOk w2 a2 L ∧ ∀ b, blk a2 = some b → w1.heap.size ≤ b) := ⟨r2, g2⟩; clear hb2 r2 g2) | (go_at_call 43; refine (HCL _).mono ?_; rintro e w9 ⟨rfl, hw9⟩; rw [hw9]; clear hw9 w9))
  refine bodyPost_ret (v := .agg #[.int .i64 k, .int .i64 mn, .int .i64 mx, .int .i64 sp, .int .i64 sl, .int .i64 R, .int .i64 0, .int .i64 av, .int .i64 ws, .slice a2 L.length c2]) (by simp [results, Try.results36, go_sem, hc1, hc2, hy1, hy2]) rfl ⟨a2, c2, rfl, ?_, fun b h => by have := R2.out.2 b h; omega, ?_⟩
  · exact (((((((((((R2.out.1).setw (fun b h => by show b ≠ w.heap.size + 1; have := R2.out.2 b h; omega) _).setw (fun b h => by show b ≠ w.heap.size + 1; have := R2.out.2 b h; omega) _).setw (fun b h => by show b ≠ w.heap.size + 1; have := R2.out.2 b h; omega) _).setw (fun b h => by show b ≠ w.heap.size + 1; have := R2.out.2 b h; omega) _).setw (fun b h => by show b ≠ w.heap.size + 1; have := R2.out.2 b h; omega) _).setw (fun b h => by show b ≠ w.heap.size + 1; have := R2.out.2 b h; omega) _).setw (fun b h => by show b ≠ w.heap.size + 1; have := R2.out.2 b h; omega) _).setw (fun b h => by show b ≠ w.heap.size + 1; have := R2.out.2 b h; omega) _).setw (fun b h => by show b ≠ w.heap.size + 1; have := R2.out.2 b h; omega) _).setw (fun b h => by show b ≠ w.heap.size + 1; have := R2.out.2 b h; omega) _).below ((Below.refl _ _).alloc (Nat.le_refl _) _)
  · exact (((((((((((B2.out).setCell (Nat.le_add_right _ 1) _).setCell (Nat.le_add_right _ 1) _).setCell (Nat.le_add_right _ 1) _).setCell (Nat.le_add_right _ 1) _).setCell (Nat.le_add_right _ 1) _).setCell (Nat.le_add_right _ 1) _).setCell (Nat.le_add_right _ 1) _).setCell (Nat.le_add_right _ 1) _).setCell (Nat.le_add_right _ 1) _).setCell (Nat.le_add_right _ 1) _).alloc (by simp; omega) _

set_option maxHeartbeats 4000000 in
set_option maxRecDepth 8000 in
theorem steps_same (k mn mx sp sl li gd av ws : Int) (a : Option Addr) (c : Nat) (L : List (Int × Int)) (lat : Int) (w : World) (ha : WOk w a L) (hl : (L.length : Int) ≤ 1048577) (hk : limOk k mn mx sp sl li gd av ws L) (ht : isLat lat) (hs : ¬ sl < lat) (hg : ¬ li ≤ gd + 1) :
    Calls Try.prog 36 #[.agg #[.int .i64 k, .int .i64 mn, .int .i64 mx, .int .i64 sp, .int .i64 sl, .int .i64 li, .int .i64 gd, .int .i64 av, .int .i64 ws, .slice a L.length c], .int .i64 lat] w (LAns w k mn mx sp sl li (gd + 1) av ws L) := by
  have HO := fun W h => spec_limok k mn mx sp sl li gd av ws a c L true W h hl ⟨fun _ => hk, fun _ => rfl⟩
  have HA : Hid (WOk w a L) := ha
  have t0 : 0 ≤ lat := ht.1
  have t1 : lat ≤ 1000000 := ht.2
  have d0 : decide (0 ≤ lat) = true := by simp; omega
  have d1 : decide (lat ≤ 1000000) = true := by simp; omega
  have l0 : 1 ≤ li := by have h1 := hk.1.2.1; have h2 := hk.2.1; omega
  have l1 : li ≤ 1000 := by have h1 := hk.1.2.2.2.1; have h2 := hk.2.2.1; omega
  have l2 : 0 ≤ gd := hk.2.2.2.1
  have l3 : gd ≤ 1000 := hk.2.2.2.2.1
  have HC := fun W h => spec_copy k mn mx sp sl li gd av ws a c L W h (by omega)
  clear ha hk ht
  go_enter Try.func36, Try.ntmps36
  go_wp2_with (first | (go_at_call 32; refine (HO _ (HA.out.below (((Below.refl _ _).alloc (Nat.le_refl _) _).alloc (by simp) _))).mono ?_; rintro e w1 ⟨rfl, hb1⟩; obtain ⟨hc1, hf1⟩ := bcell hb1; have hy1 := bsize hb1; have hx1 : w.heap.size < w1.heap.size := Nat.lt_of_succ_lt hy1; have B1 : Hid (Below w.heap.size w w1) := past_two hb1; clear hb1) | (go_at_call 34; go_in) | (go_at_call 42; refine (HC _ (HA.out.below B1.out)).mono ?_; rintro e w2 ⟨a2, c2, rfl, r2, g2, hb2⟩; obtain ⟨hc2, hf2⟩ := bcell hb2; have hy2 : w.heap.size + 1 < w2.heap.size := Nat.lt_of_lt_of_le hy1 hb2.size; have hx2 : w.heap.size < w2.heap.size := Nat.lt_of_succ_lt hy2; have B2 : Hid (Below w.heap.size w w2) := B1.out.trans (hb2.mono (Nat.le_of_lt hx1)); have R2 : Hid (WOk w2 a2 L ∧ ∀ b, blk a2 = some b → w1.heap.size ≤ b) := ⟨r2, g2⟩; clear hb2 r2 g2))
  refine bodyPost_ret (v := .agg #[.int .i64 k, .int .i64 mn, .int .i64 mx, .int .i64 sp, .int .i64 sl, .int .i64 li, .int .i64 (gd + 1), .int .i64 av, .int .i64 ws, .slice a2 L.length c2]) (by simp [results, Try.results36, go_sem, hc1, hc2, hy1, hy2]) rfl ⟨a2, c2, rfl, ?_, fun b h => by have := R2.out.2 b h; omega, ?_⟩
  · exact (((((((((((R2.out.1).setw (fun b h => by show b ≠ w.heap.size + 1; have := R2.out.2 b h; omega) _).setw (fun b h => by show b ≠ w.heap.size + 1; have := R2.out.2 b h; omega) _).setw (fun b h => by show b ≠ w.heap.size + 1; have := R2.out.2 b h; omega) _).setw (fun b h => by show b ≠ w.heap.size + 1; have := R2.out.2 b h; omega) _).setw (fun b h => by show b ≠ w.heap.size + 1; have := R2.out.2 b h; omega) _).setw (fun b h => by show b ≠ w.heap.size + 1; have := R2.out.2 b h; omega) _).setw (fun b h => by show b ≠ w.heap.size + 1; have := R2.out.2 b h; omega) _).setw (fun b h => by show b ≠ w.heap.size + 1; have := R2.out.2 b h; omega) _).setw (fun b h => by show b ≠ w.heap.size + 1; have := R2.out.2 b h; omega) _).setw (fun b h => by show b ≠ w.heap.size + 1; have := R2.out.2 b h; omega) _).below ((Below.refl _ _).alloc (Nat.le_refl _) _)
  · exact (((((((((((B2.out).setCell (Nat.le_add_right _ 1) _).setCell (Nat.le_add_right _ 1) _).setCell (Nat.le_add_right _ 1) _).setCell (Nat.le_add_right _ 1) _).setCell (Nat.le_add_right _ 1) _).setCell (Nat.le_add_right _ 1) _).setCell (Nat.le_add_right _ 1) _).setCell (Nat.le_add_right _ 1) _).setCell (Nat.le_add_right _ 1) _).setCell (Nat.le_add_right _ 1) _).alloc (by simp; omega) _

end Go.Proofs.Ytbdkepnjhcdpnaa.LimSteps
