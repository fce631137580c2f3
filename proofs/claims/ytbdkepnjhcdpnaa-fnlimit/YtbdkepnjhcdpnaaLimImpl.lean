/- What the program's LimCfgOk and LimOk answer, at every limit; nothing else turns. -/
import Derived.Test.YtbdkepnjhcdpnaaRows
import Derived.WalkKit
import Derived.WalkSmall
import Derived.BigQuiet
import Derived.Test.YtbdkepnjhcdpnaaPairWalks
import Derived.Test.YtbdkepnjhcdpnaaWinOk
import Derived.Test.YtbdkepnjhcdpnaaImplOk
import Derived.Test.YtbdkepnjhcdpnaaLimKit
import Derived.Test.YtbdkepnjhcdpnaaLimSpec
namespace Go.Proofs.Ytbdkepnjhcdpnaa.LimImpl
open Go.RowKit PairWalks WinOk ImplOk LimKit LimSpec

theorem impl_spanB (n : Int) (w : World) (B : Bool) (hB : Hid (B = true ↔ 1 ≤ n ∧ n ≤ 100000)) : Calls Try.prog 29 #[.int .i64 n] w fun e w' => e = .returned (.bool B) ∧ w' = w := by
  by_cases h : 1 ≤ n ∧ n ≤ 100000
  · obtain rfl : B = true := hB.out.2 h
    exact impl_span n w (by omega) (by omega)
  · have : B = false := by
      cases B with
      | false => rfl
      | true => exact absurd (hB.out.1 rfl) h
    subst this
    exact impl_span_no n w (by omega)

set_option maxHeartbeats 2000000 in
theorem impl_cfgok (k mn mx sp sl : Int) (B : Bool) (w : World) (HB : Hid (B = true ↔ cfgOk k mn mx sp sl)) :
    Calls Try.prog 17 #[.agg #[.int .i64 k, .int .i64 mn, .int .i64 mx, .int .i64 sp, .int .i64 sl]] w fun e w' => e = .returned (.bool B) ∧ Below w.heap.size w w' := by
  have bf : Hid (¬ cfgOk k mn mx sp sl → B = false) := fun h => by cases B with
    | false => rfl
    | true => exact absurd (HB.out.1 rfl) h
  have bt : Hid (cfgOk k mn mx sp sl → B = true) := fun h => HB.out.2 h
  obtain ⟨S, HS1⟩ := flag (1 ≤ sp ∧ sp ≤ 100000)
  obtain ⟨T, HT1⟩ := flag (0 ≤ sl ∧ sl ≤ 1000000)
  have HS := fun W => impl_spanB sp W S HS1
  have HT := fun W => impl_lat sl W T HT1
  by_cases kk : k = 1 ∨ k = 2
  · have K1 : Hid (k = 1 ∨ k = 2) := kk
    have kb : (k != 1 && k != 2) = false := by rcases kk with rfl | rfl <;> rfl
    obtain ⟨x1, h1⟩ : ∃ x, (k != 1) = x := ⟨_, rfl⟩
    obtain ⟨x2, h2⟩ : ∃ x, (k != 2) = x := ⟨_, rfl⟩
    rw [h1, h2] at kb
    clear kk
    rcases x1 with _ | _
    · clear h2 kb
      by_cases t0 : 1 ≤ mn
      · skip
        have t0d0 : decide (1 ≤ mn) = true := by simp; omega
        by_cases t1 : mn ≤ mx
        · skip
          have t1d0 : decide (mn ≤ mx) = true := by simp; omega
          by_cases t2 : mx ≤ 1000
          · skip
            have t2d0 : decide (mx ≤ 1000) = true := by simp; omega
            have k1 := K1.out
            cases S with
            | false =>
              have hB : B = false := bf.out fun h => by have := HS1.out.2 ⟨h.2.2.2.2.1, h.2.2.2.2.2.1⟩; cases this
              subst hB
              go_enter Try.func17, Try.ntmps17
              go_wp2_with (first | (go_at_call 29; refine (HS _).mono ?_; rintro e w9 ⟨rfl, hw9⟩; rw [hw9]; clear hw9 w9) | (go_at_call 28; refine (HT _).mono ?_; rintro e w9 ⟨rfl, hw9⟩; rw [hw9]; clear hw9 w9))
              go_ret
              exact ⟨rfl, (Below.refl _ _).alloc (Nat.le_refl _) _⟩
            | true =>
              cases T with
              | false =>
                have hB : B = false := bf.out fun h => by have := HT1.out.2 h.2.2.2.2.2.2; cases this
                subst hB
                go_enter Try.func17, Try.ntmps17
                go_wp2_with (first | (go_at_call 29; refine (HS _).mono ?_; rintro e w9 ⟨rfl, hw9⟩; rw [hw9]; clear hw9 w9) | (go_at_call 28; refine (HT _).mono ?_; rintro e w9 ⟨rfl, hw9⟩; rw [hw9]; clear hw9 w9))
                go_ret
                exact ⟨rfl, (Below.refl _ _).alloc (Nat.le_refl _) _⟩
              | true =>
                have hB : B = true := bt.out ⟨by omega, by omega, by omega, by omega, (HS1.out.1 rfl).1, (HS1.out.1 rfl).2, (HT1.out.1 rfl).1, (HT1.out.1 rfl).2⟩
                subst hB
                go_enter Try.func17, Try.ntmps17
                go_wp2_with (first | (go_at_call 29; refine (HS _).mono ?_; rintro e w9 ⟨rfl, hw9⟩; rw [hw9]; clear hw9 w9) | (go_at_call 28; refine (HT _).mono ?_; rintro e w9 ⟨rfl, hw9⟩; rw [hw9]; clear hw9 w9))
                go_ret
                exact ⟨rfl, (Below.refl _ _).alloc (Nat.le_refl _) _⟩
          · have t2n : 1000 < mx := by omega
            have t2d0 : decide (mx ≤ 1000) = false := by simp; omega
            clear t2
            have k1 := K1.out
            have hB : B = false := bf.out fun h => by unfold cfgOk at h; omega
            subst hB
            go_enter Try.func17, Try.ntmps17
            go_wp2_with (first | (go_at_call 29; refine (HS _).mono ?_; rintro e w9 ⟨rfl, hw9⟩; rw [hw9]; clear hw9 w9) | (go_at_call 28; refine (HT _).mono ?_; rintro e w9 ⟨rfl, hw9⟩; rw [hw9]; clear hw9 w9))
            go_ret
            exact ⟨rfl, (Below.refl _ _).alloc (Nat.le_refl _) _⟩
        · have t1n : mx < mn := by omega
          have t1d0 : decide (mn ≤ mx) = false := by simp; omega
          clear t1
          have k1 := K1.out
          have hB : B = false := bf.out fun h => by unfold cfgOk at h; omega
          subst hB
          go_enter Try.func17, Try.ntmps17
          go_wp2_with (first | (go_at_call 29; refine (HS _).mono ?_; rintro e w9 ⟨rfl, hw9⟩; rw [hw9]; clear hw9 w9) | (go_at_call 28; refine (HT _).mono ?_; rintro e w9 ⟨rfl, hw9⟩; rw [hw9]; clear hw9 w9))
          go_ret
          exact ⟨rfl, (Below.refl _ _).alloc (Nat.le_refl _) _⟩
      · have t0n : mn < 1 := by omega
        have t0d0 : decide (1 ≤ mn) = false := by simp; omega
        clear t0
        have k1 := K1.out
        have hB : B = false := bf.out fun h => by unfold cfgOk at h; omega
        subst hB
        go_enter Try.func17, Try.ntmps17
        go_wp2_with (first | (go_at_call 29; refine (HS _).mono ?_; rintro e w9 ⟨rfl, hw9⟩; rw [hw9]; clear hw9 w9) | (go_at_call 28; refine (HT _).mono ?_; rintro e w9 ⟨rfl, hw9⟩; rw [hw9]; clear hw9 w9))
        go_ret
        exact ⟨rfl, (Below.refl _ _).alloc (Nat.le_refl _) _⟩
    · obtain rfl : x2 = false := by simpa using kb
      clear kb
      by_cases t0 : 1 ≤ mn
      · skip
        have t0d0 : decide (1 ≤ mn) = true := by simp; omega
        by_cases t1 : mn ≤ mx
        · skip
          have t1d0 : decide (mn ≤ mx) = true := by simp; omega
          by_cases t2 : mx ≤ 1000
          · skip
            have t2d0 : decide (mx ≤ 1000) = true := by simp; omega
            have k1 := K1.out
            cases S with
            | false =>
              have hB : B = false := bf.out fun h => by have := HS1.out.2 ⟨h.2.2.2.2.1, h.2.2.2.2.2.1⟩; cases this
              subst hB
              go_enter Try.func17, Try.ntmps17
              go_wp2_with (first | (go_at_call 29; refine (HS _).mono ?_; rintro e w9 ⟨rfl, hw9⟩; rw [hw9]; clear hw9 w9) | (go_at_call 28; refine (HT _).mono ?_; rintro e w9 ⟨rfl, hw9⟩; rw [hw9]; clear hw9 w9))
              go_ret
              exact ⟨rfl, (Below.refl _ _).alloc (Nat.le_refl _) _⟩
            | true =>
              cases T with
              | false =>
                have hB : B = false := bf.out fun h => by have := HT1.out.2 h.2.2.2.2.2.2; cases this
                subst hB
                go_enter Try.func17, Try.ntmps17
                go_wp2_with (first | (go_at_call 29; refine (HS _).mono ?_; rintro e w9 ⟨rfl, hw9⟩; rw [hw9]; clear hw9 w9) | (go_at_call 28; refine (HT _).mono ?_; rintro e w9 ⟨rfl, hw9⟩; rw [hw9]; clear hw9 w9))
                go_ret
                exact ⟨rfl, (Below.refl _ _).alloc (Nat.le_refl _) _⟩
              | true =>
                have hB : B = true := bt.out ⟨by omega, by omega, by omega, by omega, (HS1.out.1 rfl).1, (HS1.out.1 rfl).2, (HT1.out.1 rfl).1, (HT1.out.1 rfl).2⟩
                subst hB
                go_enter Try.func17, Try.ntmps17
                go_wp2_with (first | (go_at_call 29; refine (HS _).mono ?_; rintro e w9 ⟨rfl, hw9⟩; rw [hw9]; clear hw9 w9) | (go_at_call 28; refine (HT _).mono ?_; rintro e w9 ⟨rfl, hw9⟩; rw [hw9]; clear hw9 w9))
                go_ret
                exact ⟨rfl, (Below.refl _ _).alloc (Nat.le_refl _) _⟩
          · have t2n : 1000 < mx := by omega
            have t2d0 : decide (mx ≤ 1000) = false := by simp; omega
            clear t2
            have k1 := K1.out
            have hB : B = false := bf.out fun h => by unfold cfgOk at h; omega
            subst hB
            go_enter Try.func17, Try.ntmps17
            go_wp2_with (first | (go_at_call 29; refine (HS _).mono ?_; rintro e w9 ⟨rfl, hw9⟩; rw [hw9]; clear hw9 w9) | (go_at_call 28; refine (HT _).mono ?_; rintro e w9 ⟨rfl, hw9⟩; rw [hw9]; clear hw9 w9))
            go_ret
            exact ⟨rfl, (Below.refl _ _).alloc (Nat.le_refl _) _⟩
        · have t1n : mx < mn := by omega
          have t1d0 : decide (mn ≤ mx) = false := by simp; omega
          clear t1
          have k1 := K1.out
          have hB : B = false := bf.out fun h => by unfold cfgOk at h; omega
          subst hB
          go_enter Try.func17, Try.ntmps17
          go_wp2_with (first | (go_at_call 29; refine (HS _).mono ?_; rintro e w9 ⟨rfl, hw9⟩; rw [hw9]; clear hw9 w9) | (go_at_call 28; refine (HT _).mono ?_; rintro e w9 ⟨rfl, hw9⟩; rw [hw9]; clear hw9 w9))
          go_ret
          exact ⟨rfl, (Below.refl _ _).alloc (Nat.le_refl _) _⟩
      · have t0n : mn < 1 := by omega
        have t0d0 : decide (1 ≤ mn) = false := by simp; omega
        clear t0
        have k1 := K1.out
        have hB : B = false := bf.out fun h => by unfold cfgOk at h; omega
        subst hB
        go_enter Try.func17, Try.ntmps17
        go_wp2_with (first | (go_at_call 29; refine (HS _).mono ?_; rintro e w9 ⟨rfl, hw9⟩; rw [hw9]; clear hw9 w9) | (go_at_call 28; refine (HT _).mono ?_; rintro e w9 ⟨rfl, hw9⟩; rw [hw9]; clear hw9 w9))
        go_ret
        exact ⟨rfl, (Below.refl _ _).alloc (Nat.le_refl _) _⟩
  · have h1 : (k != 1) = true := by simp; omega
    have h2 : (k != 2) = true := by simp; omega
    have hB : B = false := bf.out fun h => kk h.1
    clear kk
    subst hB
    go_enter Try.func17, Try.ntmps17
    go_wp2_with (first | (go_at_call 29; refine (HS _).mono ?_; rintro e w9 ⟨rfl, hw9⟩; rw [hw9]; clear hw9 w9) | (go_at_call 28; refine (HT _).mono ?_; rintro e w9 ⟨rfl, hw9⟩; rw [hw9]; clear hw9 w9))
    go_ret
    exact ⟨rfl, (Below.refl _ _).alloc (Nat.le_refl _) _⟩

set_option maxHeartbeats 4000000 in
theorem impl_limok (k mn mx sp sl li gd av ws : Int) (a : Option Addr) (c : Nat) (L : List (Int × Int)) (B : Bool) (w : World) (ha : WOk w a L) (hl : (L.length : Int) ≤ 1048577) (HB : Hid (B = true ↔ limOk k mn mx sp sl li gd av ws L)) :
    Calls Try.prog 7 #[.agg #[.int .i64 k, .int .i64 mn, .int .i64 mx, .int .i64 sp, .int .i64 sl, .int .i64 li, .int .i64 gd, .int .i64 av, .int .i64 ws, .slice a L.length c]] w fun e w' => e = .returned (.bool B) ∧ Below w.heap.size w w' := by
  have HA : Hid (WOk w a L) := ha
  clear ha
  obtain ⟨C1, HC1⟩ := flag (cfgOk k mn mx sp sl)
  obtain ⟨W2, HW2⟩ := flag (winOk ws L)
  have HC := fun W => impl_cfgok k mn mx sp sl C1 W HC1
  have HW := fun W h => impl_ok ws a c L W2 W h hl HW2
  have bf : Hid (¬ limOk k mn mx sp sl li gd av ws L → B = false) := fun h => by cases B with
    | false => rfl
    | true => exact absurd (HB.out.1 rfl) h
  have bt : Hid (limOk k mn mx sp sl li gd av ws L → B = true) := fun h => HB.out.2 h
  cases C1 with
  | false =>
    have hB : B = false := bf.out fun h => by have := HC1.out.2 h.1; cases this
    subst hB
    go_enter Try.func7, Try.ntmps7
    go_wp2_with (first | (go_at_call 17; refine (HC _).mono ?_; rintro e w1 ⟨rfl, hb1⟩; obtain ⟨hc1, hf1⟩ := bcell hb1; have hx1 := size1 hb1; have B1 : Hid (Below w.heap.size w w1) := past_box hb1; clear hb1) | (go_at_call 18; refine (HW _ (HA.out.below B1.out)).mono ?_; rintro e w2 ⟨rfl, hb2⟩; obtain ⟨hc2, hf2⟩ := bcell hb2; have B2 : Hid (Below w.heap.size w w2) := B1.out.trans (hb2.mono (by omega)); clear hb2))
    go_ret
    exact ⟨rfl, B1.out⟩
  | true =>
    by_cases t0 : mn ≤ li
    · skip
      have t0d0 : decide (li < mn) = false := by simp; omega
      by_cases t1 : li ≤ mx
      · skip
        have t1d0 : decide (mx < li) = false := by simp; omega
        by_cases t2 : 0 ≤ gd
        · skip
          have t2d0 : decide (gd < 0) = false := by simp; omega
          by_cases t3 : gd ≤ 1000
          · skip
            have t3d0 : decide (1000 < gd) = false := by simp; omega
            by_cases t4 : 0 ≤ av
            · skip
              have t4d0 : decide (av < 0) = false := by simp; omega
              by_cases t5 : av ≤ 65536000000
              · skip
                have t5d0 : decide (65536000000 < av) = false := by simp; omega
                cases W2 with
                | false =>
                  have hB : B = false := bf.out fun h => by have := HW2.out.2 h.2.2.2.2.2.2.2.1; cases this
                  subst hB
                  go_enter Try.func7, Try.ntmps7
                  go_wp2_with (first | (go_at_call 17; refine (HC _).mono ?_; rintro e w1 ⟨rfl, hb1⟩; obtain ⟨hc1, hf1⟩ := bcell hb1; have hx1 := size1 hb1; have B1 : Hid (Below w.heap.size w w1) := past_box hb1; clear hb1) | (go_at_call 18; refine (HW _ (HA.out.below B1.out)).mono ?_; rintro e w2 ⟨rfl, hb2⟩; obtain ⟨hc2, hf2⟩ := bcell hb2; have B2 : Hid (Below w.heap.size w w2) := B1.out.trans (hb2.mono (by omega)); clear hb2))
                  go_ret
                  exact ⟨rfl, B2.out⟩
                | true =>
                  by_cases s1 : ws = sp
                  · have s1b : (ws == sp) = true := by simpa using s1
                    have hB : B = true := bt.out ⟨HC1.out.1 rfl, by omega, by omega, by omega, by omega, by omega, by omega, HW2.out.1 rfl, s1⟩
                    have S1 : Hid (ws = sp) := s1
                    clear s1
                    subst hB
                    go_enter Try.func7, Try.ntmps7
                    go_wp2_with (first | (go_at_call 17; refine (HC _).mono ?_; rintro e w1 ⟨rfl, hb1⟩; obtain ⟨hc1, hf1⟩ := bcell hb1; have hx1 := size1 hb1; have B1 : Hid (Below w.heap.size w w1) := past_box hb1; clear hb1) | (go_at_call 18; refine (HW _ (HA.out.below B1.out)).mono ?_; rintro e w2 ⟨rfl, hb2⟩; obtain ⟨hc2, hf2⟩ := bcell hb2; have B2 : Hid (Below w.heap.size w w2) := B1.out.trans (hb2.mono (by omega)); clear hb2))
                    go_ret
                    exact ⟨rfl, B2.out⟩
                  · have s1b : (ws == sp) = false := by simpa using s1
                    have hB : B = false := bf.out fun h => s1 h.2.2.2.2.2.2.2.2
                    subst hB
                    go_enter Try.func7, Try.ntmps7
                    go_wp2_with (first | (go_at_call 17; refine (HC _).mono ?_; rintro e w1 ⟨rfl, hb1⟩; obtain ⟨hc1, hf1⟩ := bcell hb1; have hx1 := size1 hb1; have B1 : Hid (Below w.heap.size w w1) := past_box hb1; clear hb1) | (go_at_call 18; refine (HW _ (HA.out.below B1.out)).mono ?_; rintro e w2 ⟨rfl, hb2⟩; obtain ⟨hc2, hf2⟩ := bcell hb2; have B2 : Hid (Below w.heap.size w w2) := B1.out.trans (hb2.mono (by omega)); clear hb2))
                    go_ret
                    exact ⟨rfl, B2.out⟩
              · have t5n : 65536000000 < av := by omega
                have t5d0 : decide (65536000000 < av) = true := by simp; omega
                clear t5
                have hB : B = false := bf.out fun h => by unfold limOk at h; omega
                subst hB
                go_enter Try.func7, Try.ntmps7
                go_wp2_with (first | (go_at_call 17; refine (HC _).mono ?_; rintro e w1 ⟨rfl, hb1⟩; obtain ⟨hc1, hf1⟩ := bcell hb1; have hx1 := size1 hb1; have B1 : Hid (Below w.heap.size w w1) := past_box hb1; clear hb1) | (go_at_call 18; refine (HW _ (HA.out.below B1.out)).mono ?_; rintro e w2 ⟨rfl, hb2⟩; obtain ⟨hc2, hf2⟩ := bcell hb2; have B2 : Hid (Below w.heap.size w w2) := B1.out.trans (hb2.mono (by omega)); clear hb2))
                go_ret
                exact ⟨rfl, B1.out⟩
            · have t4n : av < 0 := by omega
              have t4d0 : decide (av < 0) = true := by simp; omega
              clear t4
              have hB : B = false := bf.out fun h => by unfold limOk at h; omega
              subst hB
              go_enter Try.func7, Try.ntmps7
              go_wp2_with (first | (go_at_call 17; refine (HC _).mono ?_; rintro e w1 ⟨rfl, hb1⟩; obtain ⟨hc1, hf1⟩ := bcell hb1; have hx1 := size1 hb1; have B1 : Hid (Below w.heap.size w w1) := past_box hb1; clear hb1) | (go_at_call 18; refine (HW _ (HA.out.below B1.out)).mono ?_; rintro e w2 ⟨rfl, hb2⟩; obtain ⟨hc2, hf2⟩ := bcell hb2; have B2 : Hid (Below w.heap.size w w2) := B1.out.trans (hb2.mono (by omega)); clear hb2))
              go_ret
              exact ⟨rfl, B1.out⟩
          · have t3n : 1000 < gd := by omega
            have t3d0 : decide (1000 < gd) = true := by simp; omega
            clear t3
            have hB : B = false := bf.out fun h => by unfold limOk at h; omega
            subst hB
            go_enter Try.func7, Try.ntmps7
            go_wp2_with (first | (go_at_call 17; refine (HC _).mono ?_; rintro e w1 ⟨rfl, hb1⟩; obtain ⟨hc1, hf1⟩ := bcell hb1; have hx1 := size1 hb1; have B1 : Hid (Below w.heap.size w w1) := past_box hb1; clear hb1) | (go_at_call 18; refine (HW _ (HA.out.below B1.out)).mono ?_; rintro e w2 ⟨rfl, hb2⟩; obtain ⟨hc2, hf2⟩ := bcell hb2; have B2 : Hid (Below w.heap.size w w2) := B1.out.trans (hb2.mono (by omega)); clear hb2))
            go_ret
            exact ⟨rfl, B1.out⟩
        · have t2n : gd < 0 := by omega
          have t2d0 : decide (gd < 0) = true := by simp; omega
          clear t2
          have hB : B = false := bf.out fun h => by unfold limOk at h; omega
          subst hB
          go_enter Try.func7, Try.ntmps7
          go_wp2_with (first | (go_at_call 17; refine (HC _).mono ?_; rintro e w1 ⟨rfl, hb1⟩; obtain ⟨hc1, hf1⟩ := bcell hb1; have hx1 := size1 hb1; have B1 : Hid (Below w.heap.size w w1) := past_box hb1; clear hb1) | (go_at_call 18; refine (HW _ (HA.out.below B1.out)).mono ?_; rintro e w2 ⟨rfl, hb2⟩; obtain ⟨hc2, hf2⟩ := bcell hb2; have B2 : Hid (Below w.heap.size w w2) := B1.out.trans (hb2.mono (by omega)); clear hb2))
          go_ret
          exact ⟨rfl, B1.out⟩
      · have t1n : mx < li := by omega
        have t1d0 : decide (mx < li) = true := by simp; omega
        clear t1
        have hB : B = false := bf.out fun h => by unfold limOk at h; omega
        subst hB
        go_enter Try.func7, Try.ntmps7
        go_wp2_with (first | (go_at_call 17; refine (HC _).mono ?_; rintro e w1 ⟨rfl, hb1⟩; obtain ⟨hc1, hf1⟩ := bcell hb1; have hx1 := size1 hb1; have B1 : Hid (Below w.heap.size w w1) := past_box hb1; clear hb1) | (go_at_call 18; refine (HW _ (HA.out.below B1.out)).mono ?_; rintro e w2 ⟨rfl, hb2⟩; obtain ⟨hc2, hf2⟩ := bcell hb2; have B2 : Hid (Below w.heap.size w w2) := B1.out.trans (hb2.mono (by omega)); clear hb2))
        go_ret
        exact ⟨rfl, B1.out⟩
    · have t0n : li < mn := by omega
      have t0d0 : decide (li < mn) = true := by simp; omega
      clear t0
      have hB : B = false := bf.out fun h => by unfold limOk at h; omega
      subst hB
      go_enter Try.func7, Try.ntmps7
      go_wp2_with (first | (go_at_call 17; refine (HC _).mono ?_; rintro e w1 ⟨rfl, hb1⟩; obtain ⟨hc1, hf1⟩ := bcell hb1; have hx1 := size1 hb1; have B1 : Hid (Below w.heap.size w w1) := past_box hb1; clear hb1) | (go_at_call 18; refine (HW _ (HA.out.below B1.out)).mono ?_; rintro e w2 ⟨rfl, hb2⟩; obtain ⟨hc2, hf2⟩ := bcell hb2; have B2 : Hid (Below w.heap.size w w2) := B1.out.trans (hb2.mono (by omega)); clear hb2))
      go_ret
      exact ⟨rfl, B1.out⟩
end Go.Proofs.Ytbdkepnjhcdpnaa.LimImpl
