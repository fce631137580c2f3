/- What the model's BucketNew, Take and When answer at every bucket and time, and the laws' helpers on buckets; nothing else turns. -/
import Derived.Test.YtpfnmmoojmddpahRows
import Derived.WalkKit
import Derived.WalkSmall
import Derived.BigQuiet
import Derived.Test.YtpfnmmoojmddpahBucketMath
import Derived.Test.YtpfnmmoojmddpahBucketWalks
import Derived.Test.YtpfnmmoojmddpahBucketFill
namespace Go.Proofs.Ytpfnmmoojmddpah.BucketMore
open Go.RowKit BucketMath BucketWalks BucketFill

theorem to_bucket (b r h t : Int) (w : World) : Calls Try.prog 23 #[.agg #[.int .i64 b, .int .i64 r, .int .i64 h, .int .i64 t]] w fun e w' => e = .returned (.agg #[.int .i64 b, .int .i64 r, .int .i64 h, .int .i64 t]) ∧ Below w.heap.size w w' := by
  go_enter Try.func23, Try.ntmps23
  go_wp2
  exact bodyPost_ret (v := .agg #[.int .i64 b, .int .i64 r, .int .i64 h, .int .i64 t]) (by simp [results, Try.results23, go_sem]) rfl ⟨rfl, (((Below.refl _ _).alloc (Nat.le_refl _) _).alloc (by simp) _).alloc (by simp; omega) _⟩

theorem eq_bucket (b r h t : Int) (w : World) : Calls Try.prog 27 #[.agg #[.int .i64 b, .int .i64 r, .int .i64 h, .int .i64 t], .agg #[.int .i64 b, .int .i64 r, .int .i64 h, .int .i64 t]] w fun e w' => e = .returned (.bool true) ∧ Below w.heap.size w w' := by
  have n0 : (b != b) = false := by simp
  have n1 : (r != r) = false := by simp
  have n2 : (h != h) = false := by simp
  have n3 : (t != t) = false := by simp
  go_enter Try.func27, Try.ntmps27
  go_wp2
  go_ret
  exact ⟨rfl, ((Below.refl _ _).alloc (Nat.le_refl _) _).alloc (by simp) _⟩

set_option maxHeartbeats 1000000 in
theorem spec_bnew (b r : Int) (B : Bool) (w : World) (HB : Hid (B = true ↔ bOk b r (1000 * b) 0)) :
    Calls Try.prog 25 #[.int .i64 b, .int .i64 r] w fun e w' => e = .returned (.tuple #[.agg #[.int .i64 (if B then b else 0), .int .i64 (if B then r else 0), .int .i64 (if B then 1000 * b else 0), .int .i64 0], .bool B]) ∧ Below w.heap.size w w' := by
  have hW : ∀ A B : Obj, Below w.heap.size w ((w.alloc A).alloc B) := fun A B => ((Below.refl _ _).alloc (Nat.le_refl _) _).alloc (by simp) _
  have HW : Hid (∀ A B : Obj, Below w.heap.size w ((w.alloc A).alloc B)) := hW
  clear hW
  by_cases hb : 0 ≤ b ∧ b ≤ 1000
  · have e1 : IntKind.i64.wrap (1000 * b) = 1000 * b := by rw [IntKind.wrap_i64]; omega
    have d0 : decide (0 ≤ b) = true := by simp; omega
    have d1 : decide (b ≤ 1000) = true := by simp; omega
    have HO := fun W => spec_bok b r (1000 * b) 0 B W HB
    clear hb
    cases B with
    | true =>
      simp only [if_true]
      go_enter Try.func25, Try.ntmps25
      go_wp2_with (go_at_call 22; refine (HO _).mono ?_; rintro e w1 ⟨rfl, hb⟩; obtain ⟨e0, e1, sz⟩ := two4 hb; have a0 := cell_blk e0 0; have a1 := cell_blk e0 1; have a2 := cell_blk e0 2; have a3 := cell_blk e0 3; have z0 := cell_blk e1 0; have z1 := cell_blk e1 1; have z2 := cell_blk e1 2; have z3 := cell_blk e1 3; have fa0 := fz_blk e0 0; have fa1 := fz_blk e0 1; have fa2 := fz_blk e0 2; have fa3 := fz_blk e0 3; have f0 := fz_blk e1 0; have f1 := fz_blk e1 1; have f2 := fz_blk e1 2; have f3 := fz_blk e1 3)
      refine bodyPost_ret (v := .tuple #[.agg #[.int .i64 b, .int .i64 r, .int .i64 (1000 * b), .int .i64 0], .bool true]) (by simp [results, Try.results25, go_sem, a0, a1, a2, a3]) rfl ⟨rfl, ?_⟩
      have B1 := (HW.out _ _).trans (hb.mono (by simp; omega))
      exact ((((B1.setCell (Nat.le_refl _) _).setCell (Nat.le_refl _) _).setCell (Nat.le_refl _) _).setCell (Nat.le_refl _) _)
    | false =>
      simp only [Bool.false_eq_true, if_false]
      go_enter Try.func25, Try.ntmps25
      go_wp2_with (go_at_call 22; refine (HO _).mono ?_; rintro e w1 ⟨rfl, hb⟩; obtain ⟨e0, e1, sz⟩ := two4 hb; have a0 := cell_blk e0 0; have a1 := cell_blk e0 1; have a2 := cell_blk e0 2; have a3 := cell_blk e0 3; have z0 := cell_blk e1 0; have z1 := cell_blk e1 1; have z2 := cell_blk e1 2; have z3 := cell_blk e1 3; have fa0 := fz_blk e0 0; have fa1 := fz_blk e0 1; have fa2 := fz_blk e0 2; have fa3 := fz_blk e0 3; have f0 := fz_blk e1 0; have f1 := fz_blk e1 1; have f2 := fz_blk e1 2; have f3 := fz_blk e1 3)
      refine bodyPost_ret (v := .tuple #[.agg #[.int .i64 0, .int .i64 0, .int .i64 0, .int .i64 0], .bool false]) (by simp [results, Try.results25, go_sem, a0, a1, a2, a3]) rfl ⟨rfl, ?_⟩
      have B1 := (HW.out _ _).trans (hb.mono (by simp; omega))
      exact ((((B1.setCell (Nat.le_refl _) _).setCell (Nat.le_refl _) _).setCell (Nat.le_refl _) _).setCell (Nat.le_refl _) _)
  · have HO := fun W => spec_bok b r 0 0 false W ⟨fun e => by simp at e, fun e => by unfold bOk at e; omega⟩
    obtain rfl : B = false := by
      cases B with
      | false => rfl
      | true => have := HB.out.1 rfl; unfold bOk at this; omega
    simp only [Bool.false_eq_true, if_false]
    by_cases h0 : 0 ≤ b
    · have d0 : decide (0 ≤ b) = true := by simp; omega
      have d1 : decide (b ≤ 1000) = false := by simp; omega
      clear hb
      go_enter Try.func25, Try.ntmps25
      go_wp2_with (go_at_call 22; refine (HO _).mono ?_; rintro e w1 ⟨rfl, hb⟩; obtain ⟨e0, e1, sz⟩ := two4 hb; have a0 := cell_blk e0 0; have a1 := cell_blk e0 1; have a2 := cell_blk e0 2; have a3 := cell_blk e0 3; have z0 := cell_blk e1 0; have z1 := cell_blk e1 1; have z2 := cell_blk e1 2; have z3 := cell_blk e1 3; have fa0 := fz_blk e0 0; have fa1 := fz_blk e0 1; have fa2 := fz_blk e0 2; have fa3 := fz_blk e0 3; have f0 := fz_blk e1 0; have f1 := fz_blk e1 1; have f2 := fz_blk e1 2; have f3 := fz_blk e1 3)
      refine bodyPost_ret (v := .tuple #[.agg #[.int .i64 0, .int .i64 0, .int .i64 0, .int .i64 0], .bool false]) (by simp [results, Try.results25, go_sem, a0, a1, a2, a3]) rfl ⟨rfl, ?_⟩
      have B1 := (HW.out _ _).trans (hb.mono (by simp; omega))
      exact ((((B1.setCell (Nat.le_refl _) _).setCell (Nat.le_refl _) _).setCell (Nat.le_refl _) _).setCell (Nat.le_refl _) _)
    · have d0 : decide (0 ≤ b) = false := by simp; omega
      clear hb
      go_enter Try.func25, Try.ntmps25
      go_wp2_with (go_at_call 22; refine (HO _).mono ?_; rintro e w1 ⟨rfl, hb⟩; obtain ⟨e0, e1, sz⟩ := two4 hb; have a0 := cell_blk e0 0; have a1 := cell_blk e0 1; have a2 := cell_blk e0 2; have a3 := cell_blk e0 3; have z0 := cell_blk e1 0; have z1 := cell_blk e1 1; have z2 := cell_blk e1 2; have z3 := cell_blk e1 3; have fa0 := fz_blk e0 0; have fa1 := fz_blk e0 1; have fa2 := fz_blk e0 2; have fa3 := fz_blk e0 3; have f0 := fz_blk e1 0; have f1 := fz_blk e1 1; have f2 := fz_blk e1 2; have f3 := fz_blk e1 3)
      refine bodyPost_ret (v := .tuple #[.agg #[.int .i64 0, .int .i64 0, .int .i64 0, .int .i64 0], .bool false]) (by simp [results, Try.results25, go_sem, a0, a1, a2, a3]) rfl ⟨rfl, ?_⟩
      have B1 := (HW.out _ _).trans (hb.mono (by simp; omega))
      exact ((((B1.setCell (Nat.le_refl _) _).setCell (Nat.le_refl _) _).setCell (Nat.le_refl _) _).setCell (Nat.le_refl _) _)
end Go.Proofs.Ytpfnmmoojmddpah.BucketMore
