/- What the model's Mean and the program's answer at all numbers: the mean that moved, or 0 where one isn't right; nothing turns. -/
import Derived.Test.YtbdkepnjhcdpnaaRows
import Derived.WalkKit
import Derived.WalkSmall
namespace Go.Proofs.Ytbdkepnjhcdpnaa.MeanWalks
open Go.RowKit

/-- The numbers are right. -/
def meanOk (avg lat part : Int) : Prop := 0 ≤ avg ∧ avg ≤ 65536000000 ∧ 0 ≤ lat ∧ lat ≤ 1000000 ∧ 0 ≤ part ∧ part ≤ 65536
def moved (avg lat part : Int) : Int := avg + ((lat * 65536 - avg) * part).tdiv 65536
def meanOkD (avg lat part : Int) : Decidable (meanOk avg lat part) := by
  unfold meanOk
  exact inferInstance
def meanOf (avg lat part : Int) : Int := @ite _ (meanOk avg lat part) (meanOkD avg lat part) (moved avg lat part) 0

theorem step_le {avg lat part : Int} (h : meanOk avg lat part) : -4294967296000000 ≤ (lat * 65536 - avg) * part ∧ (lat * 65536 - avg) * part ≤ 4294967296000000 := by
  obtain ⟨h1, h2, h3, h4, h5, h6⟩ := h
  have a1 : (lat * 65536 - avg) * part ≤ 65536000000 * part := Int.mul_le_mul_of_nonneg_right (by omega) h5
  have a2 : -65536000000 * part ≤ (lat * 65536 - avg) * part := Int.mul_le_mul_of_nonneg_right (by omega) h5
  omega

theorem tdiv_le {m : Int} (h : -4294967296000000 ≤ m ∧ m ≤ 4294967296000000) : -4294967296000000 ≤ m.tdiv 65536 ∧ m.tdiv 65536 ≤ 4294967296000000 := by
  by_cases hm : 0 ≤ m
  · rw [Int.tdiv_eq_ediv_of_nonneg hm]
    omega
  · have e : m.tdiv 65536 = -((-m) / 65536) := by
      rw [← Int.tdiv_eq_ediv_of_nonneg (by omega : 0 ≤ -m), Int.neg_tdiv, Int.neg_neg]
    rw [e]
    omega

theorem slat_yes (n : Int) (w : World) (h0 : ¬ n < 0) (h1 : ¬ 1000000 < n) : Calls Try.prog 34 #[.int .i64 n] w fun e w' => e = .returned (.bool true) ∧ w' = w := by
  have d1 : decide (n ≤ 1000000) = true := by simp; omega
  go_enter Try.func34, Try.ntmps34
  go_wp2
  go_ret
  exact ⟨rfl, rfl⟩
theorem slat_no (n : Int) (w : World) (h : n < 0 ∨ 1000000 < n) : Calls Try.prog 34 #[.int .i64 n] w fun e w' => e = .returned (.bool false) ∧ w' = w := by
  by_cases h0 : n < 0
  · go_enter Try.func34, Try.ntmps34
    go_wp2
    go_ret
    exact ⟨rfl, rfl⟩
  · have d1 : decide (n ≤ 1000000) = false := by simp; omega
    go_enter Try.func34, Try.ntmps34
    go_wp2
    go_ret
    exact ⟨rfl, rfl⟩
theorem ilat_yes (n : Int) (w : World) (h0 : ¬ n < 0) (h1 : ¬ 1000000 < n) : Calls Try.prog 28 #[.int .i64 n] w fun e w' => e = .returned (.bool true) ∧ w' = w := by
  have d1 : decide (n ≤ 1000000) = true := by simp; omega
  go_enter Try.func28, Try.ntmps28
  go_wp2
  go_ret
  exact ⟨rfl, rfl⟩
theorem ilat_no (n : Int) (w : World) (h : n < 0 ∨ 1000000 < n) : Calls Try.prog 28 #[.int .i64 n] w fun e w' => e = .returned (.bool false) ∧ w' = w := by
  by_cases h0 : n < 0
  · go_enter Try.func28, Try.ntmps28
    go_wp2
    go_ret
    exact ⟨rfl, rfl⟩
  · have d1 : decide (n ≤ 1000000) = false := by simp; omega
    go_enter Try.func28, Try.ntmps28
    go_wp2
    go_ret
    exact ⟨rfl, rfl⟩

theorem spec_mean (avg lat part : Int) (w : World) : Calls Try.prog 45 #[.int .i64 avg, .int .i64 lat, .int .i64 part] w fun e w' => e = .returned (.int .i64 (meanOf avg lat part)) ∧ w' = w := by
  by_cases h : meanOk avg lat part
  · rw [show meanOf avg lat part = moved avg lat part from if_pos h]
    have hs := step_le h
    have hq := tdiv_le hs
    obtain ⟨h1, h2, h3, h4, h5, h6⟩ := h
    have e1 : IntKind.i64.wrap (lat * 65536) = lat * 65536 := by rw [IntKind.wrap_i64]; omega
    have e2 : IntKind.i64.wrap (lat * 65536 - avg) = lat * 65536 - avg := by rw [IntKind.wrap_i64]; omega
    have e3 : IntKind.i64.wrap ((lat * 65536 - avg) * part) = (lat * 65536 - avg) * part := by rw [IntKind.wrap_i64]; omega
    have e4 : IntKind.i64.wrap (((lat * 65536 - avg) * part).tdiv 65536) = ((lat * 65536 - avg) * part).tdiv 65536 := by rw [IntKind.wrap_i64]; omega
    have e5 : IntKind.i64.wrap (avg + ((lat * 65536 - avg) * part).tdiv 65536) = avg + ((lat * 65536 - avg) * part).tdiv 65536 := by rw [IntKind.wrap_i64]; omega
    have HLY := fun W => slat_yes lat W (by omega) (by omega)
    have n1 : ¬ avg < 0 := by omega
    have n2 : ¬ 65536000000 < avg := by omega
    have n3 : ¬ part < 0 := by omega
    have n4 : ¬ 65536 < part := by omega
    clear hs hq h1 h2 h3 h4 h5 h6
    go_enter Try.func45, Try.ntmps45
    go_wp2_with (go_at_call 34; refine (HLY _).mono ?_; rintro e w9 ⟨rfl, hw9⟩; rw [hw9]; clear hw9 w9)
    go_ret
    exact ⟨rfl, rfl⟩
  · rw [show meanOf avg lat part = 0 from if_neg h]
    unfold meanOk at h
    by_cases c1 : avg < 0
    · go_enter Try.func45, Try.ntmps45
      go_wp2
      go_ret
      exact ⟨rfl, rfl⟩
    · by_cases c2 : 65536000000 < avg
      · clear h
        go_enter Try.func45, Try.ntmps45
        go_wp2
        go_ret
        exact ⟨rfl, rfl⟩
      · by_cases c3 : lat < 0 ∨ 1000000 < lat
        · have HLN := fun W => slat_no lat W c3
          clear h c3
          go_enter Try.func45, Try.ntmps45
          go_wp2_with (go_at_call 34; refine (HLN _).mono ?_; rintro e w9 ⟨rfl, hw9⟩; rw [hw9]; clear hw9 w9)
          go_ret
          exact ⟨rfl, rfl⟩
        · have HLY := fun W => slat_yes lat W (by omega) (by omega)
          by_cases c4 : part < 0
          · clear h c3
            go_enter Try.func45, Try.ntmps45
            go_wp2_with (go_at_call 34; refine (HLY _).mono ?_; rintro e w9 ⟨rfl, hw9⟩; rw [hw9]; clear hw9 w9)
            go_ret
            exact ⟨rfl, rfl⟩
          · have c5 : 65536 < part := by omega
            clear h c3
            go_enter Try.func45, Try.ntmps45
            go_wp2_with (go_at_call 34; refine (HLY _).mono ?_; rintro e w9 ⟨rfl, hw9⟩; rw [hw9]; clear hw9 w9)
            go_ret
            exact ⟨rfl, rfl⟩
theorem impl_mean (avg lat part : Int) (w : World) : Calls Try.prog 80 #[.int .i64 avg, .int .i64 lat, .int .i64 part] w fun e w' => e = .returned (.int .i64 (meanOf avg lat part)) ∧ w' = w := by
  by_cases h : meanOk avg lat part
  · rw [show meanOf avg lat part = moved avg lat part from if_pos h]
    have hs := step_le h
    have hq := tdiv_le hs
    obtain ⟨h1, h2, h3, h4, h5, h6⟩ := h
    have e1 : IntKind.i64.wrap (lat * 65536) = lat * 65536 := by rw [IntKind.wrap_i64]; omega
    have e2 : IntKind.i64.wrap (lat * 65536 - avg) = lat * 65536 - avg := by rw [IntKind.wrap_i64]; omega
    have e3 : IntKind.i64.wrap ((lat * 65536 - avg) * part) = (lat * 65536 - avg) * part := by rw [IntKind.wrap_i64]; omega
    have e4 : IntKind.i64.wrap (((lat * 65536 - avg) * part).tdiv 65536) = ((lat * 65536 - avg) * part).tdiv 65536 := by rw [IntKind.wrap_i64]; omega
    have e5 : IntKind.i64.wrap (avg + ((lat * 65536 - avg) * part).tdiv 65536) = avg + ((lat * 65536 - avg) * part).tdiv 65536 := by rw [IntKind.wrap_i64]; omega
    have HLY := fun W => ilat_yes lat W (by omega) (by omega)
    have n1 : ¬ avg < 0 := by omega
    have n2 : ¬ 65536000000 < avg := by omega
    have n3 : ¬ part < 0 := by omega
    have n4 : ¬ 65536 < part := by omega
    clear hs hq h1 h2 h3 h4 h5 h6
    go_enter Try.func80, Try.ntmps80
    go_wp2_with (go_at_call 28; refine (HLY _).mono ?_; rintro e w9 ⟨rfl, hw9⟩; rw [hw9]; clear hw9 w9)
    go_ret
    exact ⟨rfl, rfl⟩
  · rw [show meanOf avg lat part = 0 from if_neg h]
    unfold meanOk at h
    by_cases c1 : avg < 0
    · go_enter Try.func80, Try.ntmps80
      go_wp2
      go_ret
      exact ⟨rfl, rfl⟩
    · by_cases c2 : 65536000000 < avg
      · clear h
        go_enter Try.func80, Try.ntmps80
        go_wp2
        go_ret
        exact ⟨rfl, rfl⟩
      · by_cases c3 : lat < 0 ∨ 1000000 < lat
        · have HLN := fun W => ilat_no lat W c3
          clear h c3
          go_enter Try.func80, Try.ntmps80
          go_wp2_with (go_at_call 28; refine (HLN _).mono ?_; rintro e w9 ⟨rfl, hw9⟩; rw [hw9]; clear hw9 w9)
          go_ret
          exact ⟨rfl, rfl⟩
        · have HLY := fun W => ilat_yes lat W (by omega) (by omega)
          by_cases c4 : part < 0
          · clear h c3
            go_enter Try.func80, Try.ntmps80
            go_wp2_with (go_at_call 28; refine (HLY _).mono ?_; rintro e w9 ⟨rfl, hw9⟩; rw [hw9]; clear hw9 w9)
            go_ret
            exact ⟨rfl, rfl⟩
          · have c5 : 65536 < part := by omega
            clear h c3
            go_enter Try.func80, Try.ntmps80
            go_wp2_with (go_at_call 28; refine (HLY _).mono ?_; rintro e w9 ⟨rfl, hw9⟩; rw [hw9]; clear hw9 w9)
            go_ret
            exact ⟨rfl, rfl⟩
end Go.Proofs.Ytbdkepnjhcdpnaa.MeanWalks
