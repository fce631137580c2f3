/- What the model's BucketNew, Take and When answer at every bucket and time, and the laws' helpers on buckets; nothing else turns. -/
import Derived.Test.YtpfnmmoojmddpaiRows
import Derived.WalkKit
import Derived.WalkSmall
import Derived.BigQuiet
import Derived.Test.YtpfnmmoojmddpaiBucketMath
import Derived.Test.YtpfnmmoojmddpaiBucketWalks
import Derived.Test.YtpfnmmoojmddpaiBucketFill
namespace Go.Proofs.Ytpfnmmoojmddpai.BucketMore
open Go.RowKit BucketMath BucketWalks BucketFill

theorem to_bucket (b r h t : Int) (w : World) : Calls Try.prog 7 #[.agg #[.int .i64 b, .int .i64 r, .int .i64 h, .int .i64 t]] w fun e w' => e = .returned (.agg #[.int .i64 b, .int .i64 r, .int .i64 h, .int .i64 t]) ∧ Below w.heap.size w w' := by
  go_enter Try.func7, Try.ntmps7
  go_wp2
  exact bodyPost_ret (v := .agg #[.int .i64 b, .int .i64 r, .int .i64 h, .int .i64 t]) (by simp [results, Try.results7, go_sem]) rfl ⟨rfl, (((Below.refl _ _).alloc (Nat.le_refl _) _).alloc (by simp) _).alloc (by simp; omega) _⟩

theorem eq_bucket (b r h t : Int) (w : World) : Calls Try.prog 9 #[.agg #[.int .i64 b, .int .i64 r, .int .i64 h, .int .i64 t], .agg #[.int .i64 b, .int .i64 r, .int .i64 h, .int .i64 t]] w fun e w' => e = .returned (.bool true) ∧ Below w.heap.size w w' := by
  have n0 : (b != b) = false := by simp
  have n1 : (r != r) = false := by simp
  have n2 : (h != h) = false := by simp
  have n3 : (t != t) = false := by simp
  go_enter Try.func9, Try.ntmps9
  go_wp2
  go_ret
  exact ⟨rfl, ((Below.refl _ _).alloc (Nat.le_refl _) _).alloc (by simp) _⟩

end Go.Proofs.Ytpfnmmoojmddpai.BucketMore
