/- What the model's functions on limits answer, at every limit; nothing else turns. -/
import Derived.Test.YtbdkepnjhcdpnaaRows
import Derived.WalkKit
import Derived.WalkSmall
import Derived.BigQuiet
import Derived.Test.YtbdkepnjhcdpnaaPairWalks
import Derived.Test.YtbdkepnjhcdpnaaWinOk
import Derived.Test.YtbdkepnjhcdpnaaLimKit
namespace Go.Proofs.Ytbdkepnjhcdpnaa.LimSpec
open Go.RowKit PairWalks WinOk LimKit

/-- A configuration is right. -/
def cfgOk (k mn mx sp sl : Int) : Prop := (k = 1 ∨ k = 2) ∧ 1 ≤ mn ∧ mn ≤ mx ∧ mx ≤ 1000 ∧ 1 ≤ sp ∧ sp ≤ 100000 ∧ 0 ≤ sl ∧ sl ≤ 1000000

set_option maxHeartbeats 2000000 in
theorem spec_cfgok (k mn mx sp sl : Int) (B : Bool) (w : World) (HB : Hid (B = true ↔ cfgOk k mn mx sp sl)) :
    Calls Try.prog 40 #[.agg #[.int .i64 k, .int .i64 mn, .int .i64 mx, .int .i64 sp, .int .i64 sl]] w fun e w' => e = .returned (.bool B) ∧ Below w.heap.size w w' := by
  have bf : Hid (¬ cfgOk k mn mx sp sl → B = false) := fun h => by cases B with
    | false => rfl
    | true => exact absurd (HB.out.1 rfl) h
  have bt : Hid (cfgOk k mn mx sp sl → B = true) := fun h => HB.out.2 h
  by_cases k1 : k = 1
  · have k1b : (k == 1) = true := by simpa using k1
    have K1 : Hid (k = 1) := k1
    clear k1
    by_cases t0 : 1 ≤ mn
    · skip
      have t0d0 : decide (1 ≤ mn) = true := by simp; omega
      by_cases t1 : mn ≤ mx
      · skip
        have t1d0 : decide (mn ≤ mx) = true := by simp; omega
        by_cases t2 : mx ≤ 1000
        · skip
          have t2d0 : decide (mx ≤ 1000) = true := by simp; omega
          by_cases t3 : 1 ≤ sp
          · skip
            have t3d0 : decide (1 ≤ sp) = true := by simp; omega
            by_cases t4 : sp ≤ 100000
            · skip
              have t4d0 : decide (sp ≤ 100000) = true := by simp; omega
              by_cases t5 : 0 ≤ sl
              · skip
                have t5d0 : decide (0 ≤ sl) = true := by simp; omega
                by_cases t6 : sl ≤ 1000000
                · skip
                  have t6d0 : decide (sl ≤ 1000000) = true := by simp; omega
                  have k1 := K1.out
                  have hB : B = true := bt.out (by unfold cfgOk; omega)
                  subst hB
                  go_enter Try.func40, Try.ntmps40
                  go_wp2_with (go_at_call 34; go_in)
                  go_ret
                  exact ⟨rfl, (Below.refl _ _).alloc (Nat.le_refl _) _⟩
                · have t6n : 1000000 < sl := by omega
                  have t6d0 : decide (sl ≤ 1000000) = false := by simp; omega
                  clear t6
                  have k1 := K1.out
                  have hB : B = false := bf.out fun h => by unfold cfgOk at h; omega
                  subst hB
                  go_enter Try.func40, Try.ntmps40
                  go_wp2_with (go_at_call 34; go_in)
                  go_ret
                  exact ⟨rfl, (Below.refl _ _).alloc (Nat.le_refl _) _⟩
              · have t5n : sl < 0 := by omega
                have t5d0 : decide (0 ≤ sl) = false := by simp; omega
                clear t5
                have k1 := K1.out
                have hB : B = false := bf.out fun h => by unfold cfgOk at h; omega
                subst hB
                go_enter Try.func40, Try.ntmps40
                go_wp2_with (go_at_call 34; go_in)
                go_ret
                exact ⟨rfl, (Below.refl _ _).alloc (Nat.le_refl _) _⟩
            · have t4n : 100000 < sp := by omega
              have t4d0 : decide (sp ≤ 100000) = false := by simp; omega
              clear t4
              have k1 := K1.out
              have hB : B = false := bf.out fun h => by unfold cfgOk at h; omega
              subst hB
              go_enter Try.func40, Try.ntmps40
              go_wp2_with (go_at_call 34; go_in)
              go_ret
              exact ⟨rfl, (Below.refl _ _).alloc (Nat.le_refl _) _⟩
          · have t3n : sp < 1 := by omega
            have t3d0 : decide (1 ≤ sp) = false := by simp; omega
            clear t3
            have k1 := K1.out
            have hB : B = false := bf.out fun h => by unfold cfgOk at h; omega
            subst hB
            go_enter Try.func40, Try.ntmps40
            go_wp2_with (go_at_call 34; go_in)
            go_ret
            exact ⟨rfl, (Below.refl _ _).alloc (Nat.le_refl _) _⟩
        · have t2n : 1000 < mx := by omega
          have t2d0 : decide (mx ≤ 1000) = false := by simp; omega
          clear t2
          have k1 := K1.out
          have hB : B = false := bf.out fun h => by unfold cfgOk at h; omega
          subst hB
          go_enter Try.func40, Try.ntmps40
          go_wp2_with (go_at_call 34; go_in)
          go_ret
          exact ⟨rfl, (Below.refl _ _).alloc (Nat.le_refl _) _⟩
      · have t1n : mx < mn := by omega
        have t1d0 : decide (mn ≤ mx) = false := by simp; omega
        clear t1
        have k1 := K1.out
        have hB : B = false := bf.out fun h => by unfold cfgOk at h; omega
        subst hB
        go_enter Try.func40, Try.ntmps40
        go_wp2_with (go_at_call 34; go_in)
        go_ret
        exact ⟨rfl, (Below.refl _ _).alloc (Nat.le_refl _) _⟩
    · have t0n : mn < 1 := by omega
      have t0d0 : decide (1 ≤ mn) = false := by simp; omega
      clear t0
      have k1 := K1.out
      have hB : B = false := bf.out fun h => by unfold cfgOk at h; omega
      subst hB
      go_enter Try.func40, Try.ntmps40
      go_wp2_with (go_at_call 34; go_in)
      go_ret
      exact ⟨rfl, (Below.refl _ _).alloc (Nat.le_refl _) _⟩
  · have k1b : (k == 1) = false := by simpa using k1
    by_cases k2 : k = 2
    · have k2b : (k == 2) = true := by simpa using k2
      have K1 : Hid (k = 2) := k2
      clear k1 k2
      by_cases t0 : 1 ≤ mn
      · skip
        have t0d0 : decide (1 ≤ mn) = true := by simp; omega
        by_cases t1 : mn ≤ mx
        · skip
          have t1d0 : decide (mn ≤ mx) = true := by simp; omega
          by_cases t2 : mx ≤ 1000
          · skip
            have t2d0 : decide (mx ≤ 1000) = true := by simp; omega
            by_cases t3 : 1 ≤ sp
            · skip
              have t3d0 : decide (1 ≤ sp) = true := by simp; omega
              by_cases t4 : sp ≤ 100000
              · skip
                have t4d0 : decide (sp ≤ 100000) = true := by simp; omega
                by_cases t5 : 0 ≤ sl
                · skip
                  have t5d0 : decide (0 ≤ sl) = true := by simp; omega
                  by_cases t6 : sl ≤ 1000000
                  · skip
                    have t6d0 : decide (sl ≤ 1000000) = true := by simp; omega
                    have k1 := K1.out
                    have hB : B = true := bt.out (by unfold cfgOk; omega)
                    subst hB
                    go_enter Try.func40, Try.ntmps40
                    go_wp2_with (go_at_call 34; go_in)
                    go_ret
                    exact ⟨rfl, (Below.refl _ _).alloc (Nat.le_refl _) _⟩
                  · have t6n : 1000000 < sl := by omega
                    have t6d0 : decide (sl ≤ 1000000) = false := by simp; omega
                    clear t6
                    have k1 := K1.out
                    have hB : B = false := bf.out fun h => by unfold cfgOk at h; omega
                    subst hB
                    go_enter Try.func40, Try.ntmps40
                    go_wp2_with (go_at_call 34; go_in)
                    go_ret
                    exact ⟨rfl, (Below.refl _ _).alloc (Nat.le_refl _) _⟩
                · have t5n : sl < 0 := by omega
                  have t5d0 : decide (0 ≤ sl) = false := by simp; omega
                  clear t5
                  have k1 := K1.out
                  have hB : B = false := bf.out fun h => by unfold cfgOk at h; omega
                  subst hB
                  go_enter Try.func40, Try.ntmps40
                  go_wp2_with (go_at_call 34; go_in)
                  go_ret
                  exact ⟨rfl, (Below.refl _ _).alloc (Nat.le_refl _) _⟩
              · have t4n : 100000 < sp := by omega
                have t4d0 : decide (sp ≤ 100000) = false := by simp; omega
                clear t4
                have k1 := K1.out
                have hB : B = false := bf.out fun h => by unfold cfgOk at h; omega
                subst hB
                go_enter Try.func40, Try.ntmps40
                go_wp2_with (go_at_call 34; go_in)
                go_ret
                exact ⟨rfl, (Below.refl _ _).alloc (Nat.le_refl _) _⟩
            · have t3n : sp < 1 := by omega
              have t3d0 : decide (1 ≤ sp) = false := by simp; omega
              clear t3
              have k1 := K1.out
              have hB : B = false := bf.out fun h => by unfold cfgOk at h; omega
              subst hB
              go_enter Try.func40, Try.ntmps40
              go_wp2_with (go_at_call 34; go_in)
              go_ret
              exact ⟨rfl, (Below.refl _ _).alloc (Nat.le_refl _) _⟩
          · have t2n : 1000 < mx := by omega
            have t2d0 : decide (mx ≤ 1000) = false := by simp; omega
            clear t2
            have k1 := K1.out
            have hB : B = false := bf.out fun h => by unfold cfgOk at h; omega
            subst hB
            go_enter Try.func40, Try.ntmps40
            go_wp2_with (go_at_call 34; go_in)
            go_ret
            exact ⟨rfl, (Below.refl _ _).alloc (Nat.le_refl _) _⟩
        · have t1n : mx < mn := by omega
          have t1d0 : decide (mn ≤ mx) = false := by simp; omega
          clear t1
          have k1 := K1.out
          have hB : B = false := bf.out fun h => by unfold cfgOk at h; omega
          subst hB
          go_enter Try.func40, Try.ntmps40
          go_wp2_with (go_at_call 34; go_in)
          go_ret
          exact ⟨rfl, (Below.refl _ _).alloc (Nat.le_refl _) _⟩
      · have t0n : mn < 1 := by omega
        have t0d0 : decide (1 ≤ mn) = false := by simp; omega
        clear t0
        have k1 := K1.out
        have hB : B = false := bf.out fun h => by unfold cfgOk at h; omega
        subst hB
        go_enter Try.func40, Try.ntmps40
        go_wp2_with (go_at_call 34; go_in)
        go_ret
        exact ⟨rfl, (Below.refl _ _).alloc (Nat.le_refl _) _⟩
    · have k2b : (k == 2) = false := by simpa using k2

      have hB : B = false := bf.out fun h => by unfold cfgOk at h; omega
      subst hB
      go_enter Try.func40, Try.ntmps40
      go_wp2_with (go_at_call 34; go_in)
      go_ret
      exact ⟨rfl, (Below.refl _ _).alloc (Nat.le_refl _) _⟩
/-- A limit is right. -/
def limOk (k mn mx sp sl li gd av ws : Int) (L : List (Int × Int)) : Prop := cfgOk k mn mx sp sl ∧ mn ≤ li ∧ li ≤ mx ∧ 0 ≤ gd ∧ gd ≤ 1000 ∧ 0 ≤ av ∧ av ≤ 65536000000 ∧ winOk ws L ∧ ws = sp

theorem size1 {w w1 : World} {o : Obj} (h : Below (w.alloc o).heap.size (w.alloc o) w1) : w.heap.size < w1.heap.size := by
  have := h.size
  simp at this
  omega
theorem past_box {w w1 : World} {o : Obj} (h : Below (w.alloc o).heap.size (w.alloc o) w1) : Below w.heap.size w w1 := ((Below.refl _ _).alloc (Nat.le_refl _) _).trans (h.mono (by simp))

theorem flag (p : Prop) : ∃ B : Bool, Hid (B = true ↔ p) := by
  by_cases h : p
  · exact ⟨true, ⟨fun _ => h, fun _ => rfl⟩⟩
  · exact ⟨false, ⟨fun e => (by cases e), fun e => absurd e h⟩⟩

set_option maxHeartbeats 4000000 in
theorem spec_limok (k mn mx sp sl li gd av ws : Int) (a : Option Addr) (c : Nat) (L : List (Int × Int)) (B : Bool) (w : World) (ha : WOk w a L) (hl : (L.length : Int) ≤ 1048577) (HB : Hid (B = true ↔ limOk k mn mx sp sl li gd av ws L)) :
    Calls Try.prog 32 #[.agg #[.int .i64 k, .int .i64 mn, .int .i64 mx, .int .i64 sp, .int .i64 sl, .int .i64 li, .int .i64 gd, .int .i64 av, .int .i64 ws, .slice a L.length c]] w fun e w' => e = .returned (.bool B) ∧ Below w.heap.size w w' := by
  have HA : Hid (WOk w a L) := ha
  clear ha
  obtain ⟨C1, HC1⟩ := flag (cfgOk k mn mx sp sl)
  obtain ⟨W2, HW2⟩ := flag (winOk ws L)
  have HC := fun W => spec_cfgok k mn mx sp sl C1 W HC1
  have HW := fun W h => spec_ok ws a c L W2 W h hl HW2
  have bf : Hid (¬ limOk k mn mx sp sl li gd av ws L → B = false) := fun h => by cases B with
    | false => rfl
    | true => exact absurd (HB.out.1 rfl) h
  have bt : Hid (limOk k mn mx sp sl li gd av ws L → B = true) := fun h => HB.out.2 h
  cases C1 with
  | false =>
    have hB : B = false := bf.out fun h => by have := HC1.out.2 h.1; cases this

    subst hB
    go_enter Try.func32, Try.ntmps32
    go_wp2_with (first | (go_at_call 40; refine (HC _).mono ?_; rintro e w1 ⟨rfl, hb1⟩; obtain ⟨hc1, hf1⟩ := bcell hb1; have hx1 := size1 hb1; have B1 : Hid (Below w.heap.size w w1) := past_box hb1; clear hb1) | (go_at_call 41; refine (HW _ (HA.out.below B1.out)).mono ?_; rintro e w2 ⟨rfl, hb2⟩; obtain ⟨hc2, hf2⟩ := bcell hb2; have B2 : Hid (Below w.heap.size w w2) := B1.out.trans (hb2.mono (by omega)); clear hb2))
    go_ret
    exact ⟨rfl, B1.out⟩
  | true =>
    by_cases t0 : mn ≤ li
    · skip
      have t0d0 : decide (mn ≤ li) = true := by simp; omega
      by_cases t1 : li ≤ mx
      · skip
        have t1d0 : decide (li ≤ mx) = true := by simp; omega
        by_cases t2 : 0 ≤ gd
        · skip
          have t2d0 : decide (0 ≤ gd) = true := by simp; omega
          by_cases t3 : gd ≤ 1000
          · skip
            have t3d0 : decide (gd ≤ 1000) = true := by simp; omega
            by_cases t4 : 0 ≤ av
            · skip
              have t4d0 : decide (0 ≤ av) = true := by simp; omega
              by_cases t5 : av ≤ 65536000000
              · skip
                have t5d0 : decide (av ≤ 65536000000) = true := by simp; omega
                cases W2 with
                | false =>
                  have hB : B = false := bf.out fun h => by have := HW2.out.2 h.2.2.2.2.2.2.2.1; cases this
                  subst hB
                  go_enter Try.func32, Try.ntmps32
                  go_wp2_with (first | (go_at_call 40; refine (HC _).mono ?_; rintro e w1 ⟨rfl, hb1⟩; obtain ⟨hc1, hf1⟩ := bcell hb1; have hx1 := size1 hb1; have B1 : Hid (Below w.heap.size w w1) := past_box hb1; clear hb1) | (go_at_call 41; refine (HW _ (HA.out.below B1.out)).mono ?_; rintro e w2 ⟨rfl, hb2⟩; obtain ⟨hc2, hf2⟩ := bcell hb2; have B2 : Hid (Below w.heap.size w w2) := B1.out.trans (hb2.mono (by omega)); clear hb2))
                  go_ret
                  exact ⟨rfl, B2.out⟩
                | true =>
                  by_cases s1 : ws = sp
                  · have s1b : (ws == sp) = true := by simpa using s1
                    have hB : B = true := bt.out ⟨HC1.out.1 rfl, by omega, by omega, by omega, by omega, by omega, by omega, HW2.out.1 rfl, s1⟩
                    have S1 : Hid (ws = sp) := s1
                    clear s1
                    subst hB
                    go_enter Try.func32, Try.ntmps32
                    go_wp2_with (first | (go_at_call 40; refine (HC _).mono ?_; rintro e w1 ⟨rfl, hb1⟩; obtain ⟨hc1, hf1⟩ := bcell hb1; have hx1 := size1 hb1; have B1 : Hid (Below w.heap.size w w1) := past_box hb1; clear hb1) | (go_at_call 41; refine (HW _ (HA.out.below B1.out)).mono ?_; rintro e w2 ⟨rfl, hb2⟩; obtain ⟨hc2, hf2⟩ := bcell hb2; have B2 : Hid (Below w.heap.size w w2) := B1.out.trans (hb2.mono (by omega)); clear hb2))
                    go_ret
                    exact ⟨rfl, B2.out⟩
                  · have s1b : (ws == sp) = false := by simpa using s1
                    have hB : B = false := bf.out fun h => s1 h.2.2.2.2.2.2.2.2
                    subst hB
                    go_enter Try.func32, Try.ntmps32
                    go_wp2_with (first | (go_at_call 40; refine (HC _).mono ?_; rintro e w1 ⟨rfl, hb1⟩; obtain ⟨hc1, hf1⟩ := bcell hb1; have hx1 := size1 hb1; have B1 : Hid (Below w.heap.size w w1) := past_box hb1; clear hb1) | (go_at_call 41; refine (HW _ (HA.out.below B1.out)).mono ?_; rintro e w2 ⟨rfl, hb2⟩; obtain ⟨hc2, hf2⟩ := bcell hb2; have B2 : Hid (Below w.heap.size w w2) := B1.out.trans (hb2.mono (by omega)); clear hb2))
                    go_ret
                    exact ⟨rfl, B2.out⟩
              · have t5n : 65536000000 < av := by omega
                have t5d0 : decide (av ≤ 65536000000) = false := by simp; omega
                clear t5
                have hB : B = false := bf.out fun h => by unfold limOk at h; omega
                subst hB
                go_enter Try.func32, Try.ntmps32
                go_wp2_with (first | (go_at_call 40; refine (HC _).mono ?_; rintro e w1 ⟨rfl, hb1⟩; obtain ⟨hc1, hf1⟩ := bcell hb1; have hx1 := size1 hb1; have B1 : Hid (Below w.heap.size w w1) := past_box hb1; clear hb1) | (go_at_call 41; refine (HW _ (HA.out.below B1.out)).mono ?_; rintro e w2 ⟨rfl, hb2⟩; obtain ⟨hc2, hf2⟩ := bcell hb2; have B2 : Hid (Below w.heap.size w w2) := B1.out.trans (hb2.mono (by omega)); clear hb2))
                go_ret
                exact ⟨rfl, B1.out⟩
            · have t4n : av < 0 := by omega
              have t4d0 : decide (0 ≤ av) = false := by simp; omega
              clear t4
              have hB : B = false := bf.out fun h => by unfold limOk at h; omega
              subst hB
              go_enter Try.func32, Try.ntmps32
              go_wp2_with (first | (go_at_call 40; refine (HC _).mono ?_; rintro e w1 ⟨rfl, hb1⟩; obtain ⟨hc1, hf1⟩ := bcell hb1; have hx1 := size1 hb1; have B1 : Hid (Below w.heap.size w w1) := past_box hb1; clear hb1) | (go_at_call 41; refine (HW _ (HA.out.below B1.out)).mono ?_; rintro e w2 ⟨rfl, hb2⟩; obtain ⟨hc2, hf2⟩ := bcell hb2; have B2 : Hid (Below w.heap.size w w2) := B1.out.trans (hb2.mono (by omega)); clear hb2))
              go_ret
              exact ⟨rfl, B1.out⟩
          · have t3n : 1000 < gd := by omega
            have t3d0 : decide (gd ≤ 1000) = false := by simp; omega
            clear t3
            have hB : B = false := bf.out fun h => by unfold limOk at h; omega
            subst hB
            go_enter Try.func32, Try.ntmps32
            go_wp2_with (first | (go_at_call 40; refine (HC _).mono ?_; rintro e w1 ⟨rfl, hb1⟩; obtain ⟨hc1, hf1⟩ := bcell hb1; have hx1 := size1 hb1; have B1 : Hid (Below w.heap.size w w1) := past_box hb1; clear hb1) | (go_at_call 41; refine (HW _ (HA.out.below B1.out)).mono ?_; rintro e w2 ⟨rfl, hb2⟩; obtain ⟨hc2, hf2⟩ := bcell hb2; have B2 : Hid (Below w.heap.size w w2) := B1.out.trans (hb2.mono (by omega)); clear hb2))
            go_ret
            exact ⟨rfl, B1.out⟩
        · have t2n : gd < 0 := by omega
          have t2d0 : decide (0 ≤ gd) = false := by simp; omega
          clear t2
          have hB : B = false := bf.out fun h => by unfold limOk at h; omega
          subst hB
          go_enter Try.func32, Try.ntmps32
          go_wp2_with (first | (go_at_call 40; refine (HC _).mono ?_; rintro e w1 ⟨rfl, hb1⟩; obtain ⟨hc1, hf1⟩ := bcell hb1; have hx1 := size1 hb1; have B1 : Hid (Below w.heap.size w w1) := past_box hb1; clear hb1) | (go_at_call 41; refine (HW _ (HA.out.below B1.out)).mono ?_; rintro e w2 ⟨rfl, hb2⟩; obtain ⟨hc2, hf2⟩ := bcell hb2; have B2 : Hid (Below w.heap.size w w2) := B1.out.trans (hb2.mono (by omega)); clear hb2))
          go_ret
          exact ⟨rfl, B1.out⟩
      · have t1n : mx < li := by omega
        have t1d0 : decide (li ≤ mx) = false := by simp; omega
        clear t1
        have hB : B = false := bf.out fun h => by unfold limOk at h; omega
        subst hB
        go_enter Try.func32, Try.ntmps32
        go_wp2_with (first | (go_at_call 40; refine (HC _).mono ?_; rintro e w1 ⟨rfl, hb1⟩; obtain ⟨hc1, hf1⟩ := bcell hb1; have hx1 := size1 hb1; have B1 : Hid (Below w.heap.size w w1) := past_box hb1; clear hb1) | (go_at_call 41; refine (HW _ (HA.out.below B1.out)).mono ?_; rintro e w2 ⟨rfl, hb2⟩; obtain ⟨hc2, hf2⟩ := bcell hb2; have B2 : Hid (Below w.heap.size w w2) := B1.out.trans (hb2.mono (by omega)); clear hb2))
        go_ret
        exact ⟨rfl, B1.out⟩
    · have t0n : li < mn := by omega
      have t0d0 : decide (mn ≤ li) = false := by simp; omega
      clear t0
      have hB : B = false := bf.out fun h => by unfold limOk at h; omega
      subst hB
      go_enter Try.func32, Try.ntmps32
      go_wp2_with (first | (go_at_call 40; refine (HC _).mono ?_; rintro e w1 ⟨rfl, hb1⟩; obtain ⟨hc1, hf1⟩ := bcell hb1; have hx1 := size1 hb1; have B1 : Hid (Below w.heap.size w w1) := past_box hb1; clear hb1) | (go_at_call 41; refine (HW _ (HA.out.below B1.out)).mono ?_; rintro e w2 ⟨rfl, hb2⟩; obtain ⟨hc2, hf2⟩ := bcell hb2; have B2 : Hid (Below w.heap.size w w2) := B1.out.trans (hb2.mono (by omega)); clear hb2))
      go_ret
      exact ⟨rfl, B1.out⟩

end Go.Proofs.Ytbdkepnjhcdpnaa.LimSpec
