/- What the model's Back answers, at every limit; nothing else turns. -/
import Derived.Test.YtbdkepnjhcdpnaaRows
import Derived.WalkKit
import Derived.WalkSmall
import Derived.BigQuiet
import Derived.Test.YtbdkepnjhcdpnaaPairWalks
import Derived.Test.YtbdkepnjhcdpnaaWinOk
import Derived.Test.YtbdkepnjhcdpnaaLimKit
import Derived.Test.YtbdkepnjhcdpnaaLimSpec
import Derived.Test.YtbdkepnjhcdpnaaLimCopy
namespace Go.Proofs.Ytbdkepnjhcdpnaa.LimBack
open Go.RowKit PairWalks WinOk LimKit LimSpec LimCopy

def clampI (n lo hi : Int) : Int := if n < lo then lo else if hi < n then hi else n

theorem spec_clamp (n lo hi : Int) (w : World) : Calls Try.prog 43 #[.int .i64 n, .int .i64 lo, .int .i64 hi] w fun e w' => e = .returned (.int .i64 (clampI n lo hi)) ∧ w' = w := by
  unfold clampI
  by_cases h1 : n < lo
  · rw [if_pos h1]
    go_enter Try.func43, Try.ntmps43
    go_wp2
    go_ret
    exact ⟨rfl, rfl⟩
  · rw [if_neg h1]
    by_cases h2 : hi < n
    · rw [if_pos h2]
      go_enter Try.func43, Try.ntmps43
      go_wp2
      go_ret
      exact ⟨rfl, rfl⟩
    · rw [if_neg h2]
      go_enter Try.func43, Try.ntmps43
      go_wp2
      go_ret
      exact ⟨rfl, rfl⟩

theorem _root_.Go.Proofs.Ytbdkepnjhcdpnaa.PairWalks.WOk.setw {w : World} {a : Option Addr} {L : List (Int × Int)} {p : Addr} (h : WOk w a L) (hne : ∀ b, blk a = some b → b ≠ p.block) (v : Value) : WOk (w.setCell p v) a L := by
  rcases h with h | ⟨g, o, rfl, hr⟩
  · exact Or.inl h
  · exact Or.inr ⟨g, o, rfl, hr.set (hne g rfl) v⟩

theorem wok_lt {w : World} {a : Option Addr} {L : List (Int × Int)} (h : WOk w a L) (hL : L ≠ []) : ∀ b, blk a = some b → b < w.heap.size := by
  intro b hb
  rcases h with h | ⟨g, o, rfl, hr⟩
  · exact absurd h hL
  · simp [blk] at hb
    subst hb
    exact hr.lt

theorem bsize {w w1 : World} {A B : Obj} (h : Below ((w.alloc A).alloc B).heap.size ((w.alloc A).alloc B) w1) : w.heap.size + 1 < w1.heap.size := by
  have := h.size
  simp at this
  omega
theorem past_two {w w1 : World} {A B : Obj} (h : Below ((w.alloc A).alloc B).heap.size ((w.alloc A).alloc B) w1) : Below w.heap.size w w1 := (((Below.refl _ _).alloc (Nat.le_refl _) _).alloc (by simp) _).trans (h.mono (by simp; omega))

set_option maxHeartbeats 2000000 in
theorem back_no (k mn mx sp sl li gd av ws : Int) (a : Option Addr) (c : Nat) (L : List (Int × Int)) (w : World) (ha : WOk w a L) (hl : (L.length : Int) ≤ 1048577) (hn : ¬ limOk k mn mx sp sl li gd av ws L) :
    Calls Try.prog 35 #[.agg #[.int .i64 k, .int .i64 mn, .int .i64 mx, .int .i64 sp, .int .i64 sl, .int .i64 li, .int .i64 gd, .int .i64 av, .int .i64 ws, .slice a L.length c]] w (LAns w 0 0 0 0 0 0 0 0 0 []) := by
  have HO := fun W h => spec_limok k mn mx sp sl li gd av ws a c L false W h hl ⟨fun e => (by cases e), fun e => absurd e hn⟩
  have HA : Hid (WOk w a L) := ha
  clear ha hn
  go_enter Try.func35, Try.ntmps35
  go_wp2_with (go_at_call 32; refine (HO _ (HA.out.below (((Below.refl _ _).alloc (Nat.le_refl _) _).alloc (by simp) _))).mono ?_; rintro e w1 ⟨rfl, hb1⟩; obtain ⟨hc1, hf1⟩ := bcell hb1; have hy1 := bsize hb1; have hx1 : w.heap.size < w1.heap.size := Nat.lt_of_succ_lt hy1; have B1 : Hid (Below w.heap.size w w1) := past_two hb1; clear hb1)
  refine bodyPost_ret (v := .agg #[.int .i64 0, .int .i64 0, .int .i64 0, .int .i64 0, .int .i64 0, .int .i64 0, .int .i64 0, .int .i64 0, .int .i64 0, .slice none 0 0]) (by simp [results, Try.results35, go_sem, hc1]) rfl ⟨none, 0, rfl, Or.inl rfl, fun b h => by simp [blk] at h, ?_⟩
  exact ((((((((((B1.out).setCell (Nat.le_add_right _ 1) _).setCell (Nat.le_add_right _ 1) _).setCell (Nat.le_add_right _ 1) _).setCell (Nat.le_add_right _ 1) _).setCell (Nat.le_add_right _ 1) _).setCell (Nat.le_add_right _ 1) _).setCell (Nat.le_add_right _ 1) _).setCell (Nat.le_add_right _ 1) _).setCell (Nat.le_add_right _ 1) _).setCell (Nat.le_add_right _ 1) _

set_option maxHeartbeats 4000000 in
set_option maxRecDepth 8000 in
theorem back_yes (k mn mx sp sl li gd av ws : Int) (a : Option Addr) (c : Nat) (L : List (Int × Int)) (w : World) (ha : WOk w a L) (hl : (L.length : Int) ≤ 1048577) (hk : limOk k mn mx sp sl li gd av ws L) :
    Calls Try.prog 35 #[.agg #[.int .i64 k, .int .i64 mn, .int .i64 mx, .int .i64 sp, .int .i64 sl, .int .i64 li, .int .i64 gd, .int .i64 av, .int .i64 ws, .slice a L.length c]] w (LAns w k mn mx sp sl (clampI (li * 9 / 10) mn mx) 0 av ws L) := by
  have HO := fun W h => spec_limok k mn mx sp sl li gd av ws a c L true W h hl ⟨fun _ => hk, fun _ => rfl⟩
  have HC := fun W h => spec_copy k mn mx sp sl li gd av ws a c L W h (by omega)
  have HA : Hid (WOk w a L) := ha
  have l0 : 1 ≤ li := by have h1 := hk.1.2.1; have h2 := hk.2.1; omega
  have l1 : li ≤ 1000 := by have h1 := hk.1.2.2.2.1; have h2 := hk.2.2.1; omega
  have HCL := fun W => spec_clamp (li * 9 / 10) mn mx W
  obtain ⟨R, hR⟩ : ∃ R, clampI (li * 9 / 10) mn mx = R := ⟨_, rfl⟩
  rw [hR] at HCL ⊢
  clear ha hk hR
  go_enter Try.func35, Try.ntmps35
  go_wp2_with (first | (go_at_call 32; refine (HO _ (HA.out.below (((Below.refl _ _).alloc (Nat.le_refl _) _).alloc (by simp) _))).mono ?_; rintro e w1 ⟨rfl, hb1⟩; obtain ⟨hc1, hf1⟩ := bcell hb1; have hy1 := bsize hb1; have hx1 : w.heap.size < w1.heap.size := Nat.lt_of_succ_lt hy1; have B1 : Hid (Below w.heap.size w w1) := past_two hb1; clear hb1) | (go_at_call 42; refine (HC _ (HA.out.below B1.out)).mono ?_; rintro e w2 ⟨a2, c2, rfl, r2, g2, hb2⟩; obtain ⟨hc2, hf2⟩ := bcell hb2; have hy2 : w.heap.size + 1 < w2.heap.size := Nat.lt_of_lt_of_le hy1 hb2.size; have hx2 : w.heap.size < w2.heap.size := Nat.lt_of_succ_lt hy2; have B2 : Hid (Below w.heap.size w w2) := B1.out.trans (hb2.mono (Nat.le_of_lt hx1)); have R2 : Hid (WOk w2 a2 L ∧ ∀ b, blk a2 = some b → w1.heap.size ≤ b) := ⟨r2, g2⟩; clear hb2 r2 g2) | (go_at_call 43; refine (HCL _).mono ?_; rintro e w9 ⟨rfl, hw9⟩; rw [hw9]; clear hw9 w9))
  refine bodyPost_ret (v := .agg #[.int .i64 k, .int .i64 mn, .int .i64 mx, .int .i64 sp, .int .i64 sl, .int .i64 R, .int .i64 0, .int .i64 av, .int .i64 ws, .slice a2 L.length c2]) (by simp [results, Try.results35, go_sem, hc1, hc2, hy1, hy2]) rfl ⟨a2, c2, rfl, ?_, fun b h => by have := R2.out.2 b h; omega, ?_⟩
  · exact (((((((((((R2.out.1).setw (fun b h => by show b ≠ w.heap.size + 1; have := R2.out.2 b h; omega) _).setw (fun b h => by show b ≠ w.heap.size + 1; have := R2.out.2 b h; omega) _).setw (fun b h => by show b ≠ w.heap.size + 1; have := R2.out.2 b h; omega) _).setw (fun b h => by show b ≠ w.heap.size + 1; have := R2.out.2 b h; omega) _).setw (fun b h => by show b ≠ w.heap.size + 1; have := R2.out.2 b h; omega) _).setw (fun b h => by show b ≠ w.heap.size + 1; have := R2.out.2 b h; omega) _).setw (fun b h => by show b ≠ w.heap.size + 1; have := R2.out.2 b h; omega) _).setw (fun b h => by show b ≠ w.heap.size + 1; have := R2.out.2 b h; omega) _).setw (fun b h => by show b ≠ w.heap.size + 1; have := R2.out.2 b h; omega) _).setw (fun b h => by show b ≠ w.heap.size + 1; have := R2.out.2 b h; omega) _).below ((Below.refl _ _).alloc (Nat.le_refl _) _)
  · exact (((((((((((B2.out).setCell (Nat.le_add_right _ 1) _).setCell (Nat.le_add_right _ 1) _).setCell (Nat.le_add_right _ 1) _).setCell (Nat.le_add_right _ 1) _).setCell (Nat.le_add_right _ 1) _).setCell (Nat.le_add_right _ 1) _).setCell (Nat.le_add_right _ 1) _).setCell (Nat.le_add_right _ 1) _).setCell (Nat.le_add_right _ 1) _).setCell (Nat.le_add_right _ 1) _).alloc (by simp; omega) _
end Go.Proofs.Ytbdkepnjhcdpnaa.LimBack

