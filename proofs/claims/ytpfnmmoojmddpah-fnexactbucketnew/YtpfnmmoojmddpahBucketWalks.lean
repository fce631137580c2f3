/- What the model's BucketOk, BucketNew, Fill, Take and When answer at every bucket; nothing else turns. -/
import Derived.Test.YtpfnmmoojmddpahRows
import Derived.WalkKit
import Derived.WalkSmall
import Derived.BigQuiet
import Derived.Test.YtpfnmmoojmddpahBucketMath
namespace Go.Proofs.Ytpfnmmoojmddpah.BucketWalks
open Go.RowKit BucketMath

theorem time_yes (n : Int) (w : World) (h0 : ¬ n < 0) (h1 : ¬ 1000000000 < n) : Calls Try.prog 30 #[.int .i64 n] w fun e w' => e = .returned (.bool true) ∧ w' = w := by
  have d1 : decide (n ≤ 1000000000) = true := by simp; omega
  go_enter Try.func30, Try.ntmps30
  go_wp2
  go_ret
  exact ⟨rfl, rfl⟩

theorem time_no (n : Int) (w : World) (h : n < 0 ∨ 1000000000 < n) : Calls Try.prog 30 #[.int .i64 n] w fun e w' => e = .returned (.bool false) ∧ w' = w := by
  by_cases h0 : n < 0
  · go_enter Try.func30, Try.ntmps30
    go_wp2
    go_ret
    exact ⟨rfl, rfl⟩
  · have d1 : decide (n ≤ 1000000000) = false := by simp; omega
    go_enter Try.func30, Try.ntmps30
    go_wp2
    go_ret
    exact ⟨rfl, rfl⟩

set_option maxHeartbeats 1000000 in
theorem spec_bok (b r h t : Int) (B : Bool) (w : World) (HB : Hid (B = true ↔ bOk b r h t)) :
    Calls Try.prog 22 #[.agg #[.int .i64 b, .int .i64 r, .int .i64 h, .int .i64 t]] w fun e w' => e = .returned (.bool B) ∧ Below w.heap.size w w' := by
  have bf : Hid (¬ bOk b r h t → B = false) := fun hn => by cases B with
    | false => rfl
    | true => exact absurd (HB.out.1 rfl) hn
  by_cases c0 : b < 0
  · obtain rfl : B = false := bf.out fun hh => by unfold bOk at hh; omega
    have e0 : decide (0 ≤ b) = false := by simp; omega
    go_enter Try.func22, Try.ntmps22
    go_wp2
    go_ret
    exact ⟨rfl, (Below.refl _ _).alloc (Nat.le_refl _) _⟩
  · skip
    by_cases c1 : 1000 < b
    · obtain rfl : B = false := bf.out fun hh => by unfold bOk at hh; omega
      have e0 : decide (0 ≤ b) = true := by simp; omega
      have e1 : decide (b ≤ 1000) = false := by simp; omega
      go_enter Try.func22, Try.ntmps22
      go_wp2
      go_ret
      exact ⟨rfl, (Below.refl _ _).alloc (Nat.le_refl _) _⟩
    · skip
      by_cases c2 : r < 0
      · obtain rfl : B = false := bf.out fun hh => by unfold bOk at hh; omega
        have e0 : decide (0 ≤ b) = true := by simp; omega
        have e1 : decide (b ≤ 1000) = true := by simp; omega
        have e2 : decide (0 ≤ r) = false := by simp; omega
        go_enter Try.func22, Try.ntmps22
        go_wp2
        go_ret
        exact ⟨rfl, (Below.refl _ _).alloc (Nat.le_refl _) _⟩
      · skip
        by_cases c3 : 1000000 < r
        · obtain rfl : B = false := bf.out fun hh => by unfold bOk at hh; omega
          have e0 : decide (0 ≤ b) = true := by simp; omega
          have e1 : decide (b ≤ 1000) = true := by simp; omega
          have e2 : decide (0 ≤ r) = true := by simp; omega
          have e3 : decide (r ≤ 1000000) = false := by simp; omega
          go_enter Try.func22, Try.ntmps22
          go_wp2
          go_ret
          exact ⟨rfl, (Below.refl _ _).alloc (Nat.le_refl _) _⟩
        · skip
          by_cases c4 : h < 0
          · obtain rfl : B = false := bf.out fun hh => by unfold bOk at hh; omega
            have e0 : decide (0 ≤ b) = true := by simp; omega
            have e1 : decide (b ≤ 1000) = true := by simp; omega
            have e2 : decide (0 ≤ r) = true := by simp; omega
            have e3 : decide (r ≤ 1000000) = true := by simp; omega
            have e4 : decide (0 ≤ h) = false := by simp; omega
            go_enter Try.func22, Try.ntmps22
            go_wp2
            go_ret
            exact ⟨rfl, (Below.refl _ _).alloc (Nat.le_refl _) _⟩
          · skip
            by_cases c5 : 1000 * b < h
            · obtain rfl : B = false := bf.out fun hh => by unfold bOk at hh; omega
              have e0 : decide (0 ≤ b) = true := by simp; omega
              have e1 : decide (b ≤ 1000) = true := by simp; omega
              have e2 : decide (0 ≤ r) = true := by simp; omega
              have e3 : decide (r ≤ 1000000) = true := by simp; omega
              have e4 : decide (0 ≤ h) = true := by simp; omega
              have e5 : decide (h ≤ 1000 * b) = false := by simp; omega
              go_enter Try.func22, Try.ntmps22
              go_wp2
              go_ret
              exact ⟨rfl, (Below.refl _ _).alloc (Nat.le_refl _) _⟩
            · skip
              by_cases c6 : t < 0 ∨ 1000000000 < t
              · obtain rfl : B = false := bf.out fun hh => by unfold bOk at hh; omega
                have HT := fun W => time_no t W c6
                have e0 : decide (0 ≤ b) = true := by simp; omega
                have e1 : decide (b ≤ 1000) = true := by simp; omega
                have e2 : decide (0 ≤ r) = true := by simp; omega
                have e3 : decide (r ≤ 1000000) = true := by simp; omega
                have e4 : decide (0 ≤ h) = true := by simp; omega
                have e5 : decide (h ≤ 1000 * b) = true := by simp; omega
                clear c6
                go_enter Try.func22, Try.ntmps22
                go_wp2_with (go_at_call 30; refine (HT _).mono ?_; rintro e w9 ⟨rfl, hw9⟩; rw [hw9]; clear hw9 w9)
                go_ret
                exact ⟨rfl, (Below.refl _ _).alloc (Nat.le_refl _) _⟩
              · obtain rfl : B = true := HB.out.2 (by unfold bOk; omega)
                have HT := fun W => time_yes t W (by omega) (by omega)
                have e0 : decide (0 ≤ b) = true := by simp; omega
                have e1 : decide (b ≤ 1000) = true := by simp; omega
                have e2 : decide (0 ≤ r) = true := by simp; omega
                have e3 : decide (r ≤ 1000000) = true := by simp; omega
                have e4 : decide (0 ≤ h) = true := by simp; omega
                have e5 : decide (h ≤ 1000 * b) = true := by simp; omega
                clear c6
                go_enter Try.func22, Try.ntmps22
                go_wp2_with (go_at_call 30; refine (HT _).mono ?_; rintro e w9 ⟨rfl, hw9⟩; rw [hw9]; clear hw9 w9)
                go_ret
                exact ⟨rfl, (Below.refl _ _).alloc (Nat.le_refl _) _⟩

end Go.Proofs.Ytpfnmmoojmddpah.BucketWalks
