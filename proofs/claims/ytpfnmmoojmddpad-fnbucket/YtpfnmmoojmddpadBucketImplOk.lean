/- What the program's BucketOk answers at every bucket; nothing else turns. -/
import Derived.Test.YtpfnmmoojmddpadRows
import Derived.WalkKit
import Derived.WalkSmall
import Derived.BigQuiet
import Derived.Deep.RegionWith
import Derived.Test.YtpfnmmoojmddpadBucketMath
import Derived.Test.YtpfnmmoojmddpadBucketBase
namespace Go.Proofs.Ytpfnmmoojmddpad.BucketImpl
open Go.RowKit BucketMath BucketBase

set_option maxHeartbeats 1000000 in
theorem impl_bok (b r h t : Int) (B : Bool) (w : World) (HB : Hid (B = true ↔ bOk b r h t)) :
    Calls Try.prog 17 #[.agg #[.int .i64 b, .int .i64 r, .int .i64 h, .int .i64 t]] w fun e w' => e = .returned (.bool B) ∧ Below w.heap.size w w' := by
  have bf : Hid (¬ bOk b r h t → B = false) := fun hn => by cases B with
    | false => rfl
    | true => exact absurd (HB.out.1 rfl) hn
  by_cases c0 : b < 0
  · obtain rfl : B = false := bf.out fun hh => by unfold bOk at hh; omega
    go_enter Try.func17, Try.ntmps17
    go_wp2
    go_ret
    exact ⟨rfl, (Below.refl _ _).alloc (Nat.le_refl _) _⟩
  by_cases c1 : 1000 < b
  · obtain rfl : B = false := bf.out fun hh => by unfold bOk at hh; omega
    have d1 : decide (1000 < b) = true := by simp; omega
    go_enter Try.func17, Try.ntmps17
    go_wp2
    go_ret
    exact ⟨rfl, (Below.refl _ _).alloc (Nat.le_refl _) _⟩
  by_cases c2 : r < 0
  · obtain rfl : B = false := bf.out fun hh => by unfold bOk at hh; omega
    have d1 : decide (1000 < b) = false := by simp; omega
    have d2 : decide (r < 0) = true := by simp; omega
    go_enter Try.func17, Try.ntmps17
    go_wp2
    go_ret
    exact ⟨rfl, (Below.refl _ _).alloc (Nat.le_refl _) _⟩
  by_cases c3 : 1000000 < r
  · obtain rfl : B = false := bf.out fun hh => by unfold bOk at hh; omega
    have d1 : decide (1000 < b) = false := by simp; omega
    have d2 : decide (r < 0) = false := by simp; omega
    have d3 : decide (1000000 < r) = true := by simp; omega
    go_enter Try.func17, Try.ntmps17
    go_wp2
    go_ret
    exact ⟨rfl, (Below.refl _ _).alloc (Nat.le_refl _) _⟩
  have d1 : decide (1000 < b) = false := by simp; omega
  have d2 : decide (r < 0) = false := by simp; omega
  have d3 : decide (1000000 < r) = false := by simp; omega
  have wm : IntKind.i64.wrap (1000 * b) = 1000 * b := by rw [IntKind.wrap_i64]; omega
  have HM := fun n => most_at w.heap.size b (1000 * b) ((w.alloc (.cells #[.int .i64 b, .int .i64 r, .int .i64 h, .int .i64 t] 39)).drewN n) (cell_blk (w := (w.alloc (.cells #[.int .i64 b, .int .i64 r, .int .i64 h, .int .i64 t] 39)).drewN n) (heap_alloc_new w (.cells #[.int .i64 b, .int .i64 r, .int .i64 h, .int .i64 t] 39)) 0) wm
  by_cases c4 : h < 0
  · obtain rfl : B = false := bf.out fun hh => by unfold bOk at hh; omega
    have d4 : decide (0 ≤ h) = false := by simp; omega
    go_enter Try.func17, Try.ntmps17
    go_wp2
    go_quiet (fail)
    go_wp2
    go_ret
    exact ⟨rfl, below_drewN ((Below.refl _ _).alloc (Nat.le_refl _) _) _⟩
  have d4 : decide (0 ≤ h) = true := by simp; omega
  by_cases c5 : 1000 * b < h
  · obtain rfl : B = false := bf.out fun hh => by unfold bOk at hh; omega
    have d5 : decide (h ≤ 1000 * b) = false := by simp; omega
    go_enter Try.func17, Try.ntmps17
    go_wp2
    go_quiet (first | (go_at_call 35; exact Calls.quiet_of_same (HM _)))
    go_wp2
    go_ret
    exact ⟨rfl, below_drewN ((Below.refl _ _).alloc (Nat.le_refl _) _) _⟩
  have d5 : decide (h ≤ 1000 * b) = true := by simp; omega
  by_cases c6 : t < 0 ∨ 1000000000 < t
  · obtain rfl : B = false := bf.out fun hh => by unfold bOk at hh; omega
    have HT := fun W => time_no t W c6
    clear c6
    go_enter Try.func17, Try.ntmps17
    go_wp2
    go_quiet (first | (go_at_call 35; exact Calls.quiet_of_same (HM _)) | (go_at_call 22; exact Calls.quiet_of_same (HT _)))
    go_wp2
    go_ret
    exact ⟨rfl, below_drewN ((Below.refl _ _).alloc (Nat.le_refl _) _) _⟩
  · obtain rfl : B = true := HB.out.2 (by unfold bOk; omega)
    have HT := fun W => time_yes t W (by omega) (by omega)
    clear c6
    go_enter Try.func17, Try.ntmps17
    go_wp2
    go_quiet (first | (go_at_call 35; exact Calls.quiet_of_same (HM _)) | (go_at_call 22; exact Calls.quiet_of_same (HT _)))
    go_wp2
    go_ret
    exact ⟨rfl, below_drewN ((Below.refl _ _).alloc (Nat.le_refl _) _) _⟩
end Go.Proofs.Ytpfnmmoojmddpad.BucketImpl
