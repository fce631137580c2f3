/- What the program's BucketNew, Fill, Take and When answer at every bucket and time; nothing else turns. -/
import Derived.Test.YtpfnmmoojmddpahRows
import Derived.WalkKit
import Derived.WalkSmall
import Derived.BigQuiet
import Derived.Test.YtpfnmmoojmddpahBucketMath
import Derived.Test.YtpfnmmoojmddpahBucketBase
import Derived.Test.YtpfnmmoojmddpahBucketImplOk
import Derived.Test.YtpfnmmoojmddpahBucketImplFill
namespace Go.Proofs.Ytpfnmmoojmddpah.BucketImpl
open Go.RowKit BucketMath BucketBase

set_option maxHeartbeats 1000000 in
theorem impl_bnew (b r : Int) (B : Bool) (w : World) (HB : Hid (B = true ↔ bOk b r (1000 * b) 0)) :
    Calls Try.prog 26 #[.int .i64 b, .int .i64 r] w fun e w' => e = .returned (.tuple #[.agg #[.int .i64 (if B then b else 0), .int .i64 (if B then r else 0), .int .i64 (if B then 1000 * b else 0), .int .i64 0], .bool B]) ∧ Below w.heap.size w w' := by
  have hW : ∀ A B : Obj, Below w.heap.size w ((w.alloc A).alloc B) := fun A B => ((Below.refl _ _).alloc (Nat.le_refl _) _).alloc (by simp) _
  have HW : Hid (∀ A B : Obj, Below w.heap.size w ((w.alloc A).alloc B)) := hW
  clear hW
  have hin : 0 ≤ b → b ≤ 1000 → IntKind.i64.wrap (1000 * b) = 1000 * b := fun h0 h1 => by rw [IntKind.wrap_i64]; omega
  obtain ⟨m, hm⟩ : ∃ m, IntKind.i64.wrap (1000 * b) = m := ⟨_, rfl⟩
  rw [hm] at hin
  have HM : Hid (B = true ↔ bOk b r m 0) := by
    show B = true ↔ _
    rw [HB.out]
    unfold bOk
    constructor
    · intro hh
      have := hin hh.1 hh.2.1
      omega
    · intro hh
      have := hin hh.1 hh.2.1
      omega
  have HO := fun W => impl_bok b r m 0 B W HM
  cases B with
  | true =>
    obtain rfl : m = 1000 * b := by
      have := HB.out.1 rfl
      unfold bOk at this
      exact hin this.1 this.2.1
    simp only [if_true]
    clear hin
    go_enter Try.func26, Try.ntmps26
    go_wp2_with (go_at_call 24; refine (HO _).mono ?_; rintro e w1 ⟨rfl, hb⟩; obtain ⟨e0, e1, sz⟩ := two4 hb; have a0 := cell_blk e0 0; have a1 := cell_blk e0 1; have a2 := cell_blk e0 2; have a3 := cell_blk e0 3; have fa0 := fz_blk e0 0; have fa1 := fz_blk e0 1; have fa2 := fz_blk e0 2; have fa3 := fz_blk e0 3; have z0 := cell_blk e1 0; have z1 := cell_blk e1 1; have z2 := cell_blk e1 2; have z3 := cell_blk e1 3; have f0 := fz_blk e1 0; have f1 := fz_blk e1 1; have f2 := fz_blk e1 2; have f3 := fz_blk e1 3)
    refine bodyPost_ret (v := .tuple #[.agg #[.int .i64 b, .int .i64 r, .int .i64 (1000 * b), .int .i64 0], .bool true]) (by simp [results, Try.results26, go_sem, a0, a1, a2, a3]) rfl ⟨rfl, ?_⟩
    have B1 := (HW.out _ _).trans (hb.mono (by simp; omega))
    exact ((((B1.setCell (Nat.le_refl _) _).setCell (Nat.le_refl _) _).setCell (Nat.le_refl _) _).setCell (Nat.le_refl _) _)
  | false =>
    simp only [Bool.false_eq_true, if_false]
    clear hin
    go_enter Try.func26, Try.ntmps26
    go_wp2_with (go_at_call 24; refine (HO _).mono ?_; rintro e w1 ⟨rfl, hb⟩; obtain ⟨e0, e1, sz⟩ := two4 hb; have a0 := cell_blk e0 0; have a1 := cell_blk e0 1; have a2 := cell_blk e0 2; have a3 := cell_blk e0 3; have fa0 := fz_blk e0 0; have fa1 := fz_blk e0 1; have fa2 := fz_blk e0 2; have fa3 := fz_blk e0 3; have z0 := cell_blk e1 0; have z1 := cell_blk e1 1; have z2 := cell_blk e1 2; have z3 := cell_blk e1 3; have f0 := fz_blk e1 0; have f1 := fz_blk e1 1; have f2 := fz_blk e1 2; have f3 := fz_blk e1 3)
    refine bodyPost_ret (v := .tuple #[.agg #[.int .i64 0, .int .i64 0, .int .i64 0, .int .i64 0], .bool false]) (by simp [results, Try.results26, go_sem, a0, a1, a2, a3]) rfl ⟨rfl, ?_⟩
    have B1 := (HW.out _ _).trans (hb.mono (by simp; omega))
    exact ((((B1.setCell (Nat.le_refl _) _).setCell (Nat.le_refl _) _).setCell (Nat.le_refl _) _).setCell (Nat.le_refl _) _)



end Go.Proofs.Ytpfnmmoojmddpah.BucketImpl
