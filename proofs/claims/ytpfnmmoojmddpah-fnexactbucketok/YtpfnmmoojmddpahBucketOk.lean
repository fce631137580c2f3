/- At every bucket the program's BucketOk answers as the model's (the law FnExactBucketOk returns true), and the arguments are left as they were; no condition. -/
import Derived.Test.YtpfnmmoojmddpahRows
import Derived.WalkKit
import Derived.WalkSmall
import Derived.BigQuiet
import Derived.ProofKit
import Derived.OpenShut
import Derived.Test.YtpfnmmoojmddpahBucketMath
import Derived.Test.YtpfnmmoojmddpahBucketWalks
import Derived.Test.YtpfnmmoojmddpahBucketFill
import Derived.Test.YtpfnmmoojmddpahBucketMore
import Derived.Test.YtpfnmmoojmddpahBucketEnds
import Derived.Test.YtpfnmmoojmddpahBucketArg
import Derived.Test.YtpfnmmoojmddpahBucketImpl
namespace Go.Proofs.Ytpfnmmoojmddpah.fnExactBucketOk
open Go.ChangeShapes Go.WideShapes Go.ChangeAt Go.RowKit BucketMath BucketWalks BucketFill BucketMore BucketEnds BucketArg BucketImpl
set_option linter.unusedVariables false

set_option maxHeartbeats 1000000 in
theorem walk (W : World) (b r h t : Int) :
    Calls Try.prog 7 #[.agg #[.int .i64 b, .int .i64 r, .int .i64 h, .int .i64 t]] W fun e w' => e = .returned (.bool true) ∧ Below W.heap.size W w' := by
  obtain ⟨B, HB⟩ := flag (bOk b r h t)
  have HS := fun W => spec_bok b r h t B W HB
  have HI := fun W => impl_bok b r h t B W HB
  have hBB : (B != B) = false := by simp
  have HT := fun W => to_bucket b r h t W
  have b0 : Below W.heap.size W (W.alloc (.cells #[.int .i64 b, .int .i64 r, .int .i64 h, .int .i64 t] 39)) := (Below.refl _ _).alloc (Nat.le_refl _) _
  have e0 := heap_alloc_new W (.cells #[.int .i64 b, .int .i64 r, .int .i64 h, .int .i64 t] 39)
  go_enter Try.func7, Try.ntmps7
  go_wp2_with fail
  refine (HT _).mono ?_
  rintro e w1 ⟨rfl, b1⟩
  have B1 : Hid (Below W.heap.size W w1) := b0.trans (b1.mono b0.size)
  have e1 := kept e0 b1
  clear b0 e0 b1
  go_wp2_with fail
  refine (HS _).mono ?_
  rintro e w2 ⟨rfl, b2⟩
  have B2' : Below W.heap.size W w2 := B1.out.trans (b2.mono B1.out.size)
  have B2 : Hid (Below W.heap.size W w2) := B2'
  have e2 : w2.heap[W.heap.size]? = some (.cells #[.int .i64 b, .int .i64 r, .int .i64 h, .int .i64 t] 39 (0, 0)) := kept e1 b2
  have c0 := cell_blk e2 0
  have c1 := cell_blk e2 1
  have c2 := cell_blk e2 2
  have c3 := cell_blk e2 3
  clear e1 e2 b2 B2'
  go_wp2_with fail
  refine (HT _).mono ?_
  rintro e w3 ⟨rfl, b3⟩
  have B3 : Hid (Below W.heap.size W w3) := B2.out.trans (b3.mono B2.out.size)
  clear c0 c1 c2 c3 b3
  go_wp2_with fail
  refine (HI _).mono ?_
  rintro e w4 ⟨rfl, b4⟩
  have B4 : Hid (Below W.heap.size W w4) := B3.out.trans (b4.mono B3.out.size)
  clear b4
  go_wp2
  go_ret
  exact ⟨rfl, B4.out⟩

theorem own : ownKnob Try.prog.godebug = none := by kernel_rfl
theorem laidOut : laidOutB Try.prog = true := by kernel_rfl

set_option maxRecDepth 100000 in
theorem lifted (os : Os) (started : os.Started) (H : Type) (enc : TypeId × Value → H) :
    ReturnsInHanded {} Try.checked os 7 .any (Rows.fnExactBucketOkSpec.pre6 enc Try.prog Try.f7 Rows.fnExactBucketOkRow.domain false) (Rows.fnExactBucketOkSpec.post enc Try.prog Try.f7 false true false false) := by
  refine returnsInHanded_of_change (C := Try.checked) own started (by kernel_rfl) Try.func7
    (ChangeSpec.witness6 (enc := enc) (C := Try.checked) false ⟨#[], #[.agg #[.int .i64 0, .int .i64 0, .int .i64 0, .int .i64 0]], []⟩ 8 (by kernel_rfl) (by kernel_rfl) (by kernel_rfl) (by kernel_rfl)) ?_
  intro W base args ds gs before hval0 hW hcnd _
  have hval : ∀ (j : Nat) t v, Try.f7.params[j]? = some t → args[j]? = some v → Value.okWide Try.prog W .any base t v := hval0
  have hW' := hW
  obtain ⟨p, q, hA0, hV, rfl, hfz, hnd⟩ := hW
  have hA : DataW.TrodAll enc Try.prog W 0 (fun _ => true) true Try.f7.params.toList args.toList ds p := hA0
  rw [Try.params7] at hA hval
  obtain ⟨v0, vs0, d0, ds0, p0, q0, hargs, rfl, rfl, h0, r0⟩ := trodAll_cons hA
  obtain ⟨rfl, rfl, rfl⟩ := trodAll_nil r0
  obtain rfl : args = #[v0] := by cases args; simp_all
  obtain ⟨rfl, rfl⟩ := trodVars_none hV
  have k0 := h0
  have lt0 : ∀ x ∈ p0, x.block < W.heap.size := by obtain ⟨m, hm⟩ := k0; exact DataW.trod_lt m _ _ _ hm
  obtain ⟨bb0, br0, bh0, bt0, rfl⟩ := BucketArg.open_bucket (hval 0 39 v0 rfl rfl) h0
  clear hA0 hval0
  refine (walk W bb0 br0 bh0 bt0).mono fun e W' ⟨he, hb⟩ => ?_
  subst he
  exact ⟨_, rfl, _, _, _, [], _, [], hW', trodAll_cons_mk (shut_bool Try.underlying4 _) trodAll_mk0, (trodAll_cons_mk (Below.trod laidOut (by kernel_rfl) (of_decide_eq_true (by kernel_rfl)) k0 hb lt0) trodAll_mk0), rfl, hb.frame _, fun h => by cases h⟩

theorem over : Rows.fnExactBucketOkRow.holds Try.pinned (OpenSpec.ofChange Rows.fnExactBucketOkSpec) :=
  OpenClaim.holds_of_wide 7 Try.f7 rfl rfl rfl rfl rfl rfl rfl ⟨rfl, rfl, rfl, rfl, rfl⟩ rfl rfl rfl rfl rfl (by kernel_rfl) Try.func7 (by kernel_rfl)
    (of_decide_eq_true (by kernel_rfl)) (by unfold Func.isWrapper; first | (rw [if_pos (by decide +kernel)]; kernel_rfl) | (rw [if_neg (by decide +kernel)]; exact ⟨rfl, rfl⟩))
    (fun os started H enc _ => lifted os started H enc)

theorem proved : Rows.FnExactBucketOkSaid :=
  over
end Go.Proofs.Ytpfnmmoojmddpah.fnExactBucketOk
