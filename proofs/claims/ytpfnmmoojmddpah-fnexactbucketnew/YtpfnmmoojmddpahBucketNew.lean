/- At every burst and rate the program's BucketNew answers as the model's (the law FnExactBucketNew returns true), and the arguments are left as they were; no condition. -/
import Derived.Test.YtpfnmmoojmddpahRows
import Derived.WalkKit
import Derived.WalkSmall
import Derived.BigQuiet
import Derived.ProofKit
import Derived.OpenShut
import Derived.Test.YtpfnmmoojmddpahBucketMath
import Derived.Test.YtpfnmmoojmddpahBucketWalks
import Derived.Test.YtpfnmmoojmddpahBucketFill
import Derived.Test.YtpfnmmoojmddpahBucketMore
import Derived.Test.YtpfnmmoojmddpahBucketEnds
import Derived.Test.YtpfnmmoojmddpahBucketArg
import Derived.Test.YtpfnmmoojmddpahBucketImpl
namespace Go.Proofs.Ytpfnmmoojmddpah.fnExactBucketNew
open Go.ChangeShapes Go.WideShapes Go.ChangeAt Go.RowKit BucketMath BucketWalks BucketFill BucketMore BucketEnds BucketArg BucketImpl
set_option linter.unusedVariables false

set_option maxHeartbeats 1000000 in
theorem walk (W : World) (b : Int) (wb : (Lit.int .i64 b).wf = true) (r : Int) (wr : (Lit.int .i64 r).wf = true) :
    Calls Try.prog 8 #[.int .i64 b, .int .i64 r] W fun e w' => e = .returned (.bool true) ∧ Below W.heap.size W w' := by
  obtain ⟨B, HB⟩ := flag (bOk b r (1000 * b) 0)
  have HS := fun W => spec_bnew b r B W HB
  have HI := fun W => impl_bnew b r B W HB
  obtain ⟨x, hx⟩ : ∃ x, (if B then b else 0) = x := ⟨_, rfl⟩
  obtain ⟨y, hy⟩ : ∃ y, (if B then r else 0) = y := ⟨_, rfl⟩
  obtain ⟨z, hz⟩ : ∃ z, (if B then 1000 * b else 0) = z := ⟨_, rfl⟩
  rw [hx, hy, hz] at HS HI
  have hBB : (B != B) = false := by simp
  clear hx hy hz HB wb wr
  go_enter Try.func8, Try.ntmps8
  go_wp2_with fail
  refine (HS _).mono ?_
  rintro e w1 ⟨rfl, b1⟩
  have B1 : Hid (Below W.heap.size W w1) := b1
  clear b1
  go_wp2_with fail
  refine (HI _).mono ?_
  rintro e w2 ⟨rfl, b2⟩
  have B2 : Hid (Below W.heap.size W w2) := (B1.out.alloc B1.out.size _).trans (b2.mono (by have := B1.out.size; simp; omega))
  have e2 : (w2.alloc (.cells #[.int .i64 x, .int .i64 y, .int .i64 z, .int .i64 0] 41)).heap[w1.heap.size]? = some (.cells #[.int .i64 x, .int .i64 y, .int .i64 z, .int .i64 0] 41 (0, 0)) := kept1 (kept (heap_alloc_new w1 _) b2)
  have c0 := cell_blk e2 0
  have c1 := cell_blk e2 1
  have c2 := cell_blk e2 2
  have c3 := cell_blk e2 3
  clear b2 e2
  go_wp2_with fail
  refine (eq_bucket x y z 0 _).mono ?_
  rintro e w3 ⟨rfl, b3⟩
  have B3 : Hid (Below W.heap.size W w3) := (B2.out.alloc B2.out.size _).trans (b3.mono (by have := B2.out.size; simp; omega))
  clear b3
  go_wp2
  go_ret
  exact ⟨rfl, B3.out⟩

theorem own : ownKnob Try.prog.godebug = none := by kernel_rfl
theorem laidOut : laidOutB Try.prog = true := by kernel_rfl

set_option maxRecDepth 100000 in
theorem lifted (os : Os) (started : os.Started) (H : Type) (enc : TypeId × Value → H) :
    ReturnsInHanded {} Try.checked os 8 .any (Rows.fnExactBucketNewSpec.pre6 enc Try.prog Try.f8 Rows.fnExactBucketNewRow.domain false) (Rows.fnExactBucketNewSpec.post enc Try.prog Try.f8 false true false false) := by
  refine returnsInHanded_of_change (C := Try.checked) own started (by kernel_rfl) Try.func8
    (ChangeSpec.witness6 (enc := enc) (C := Try.checked) false ⟨#[], #[.int .i64 0, .int .i64 0], []⟩ 8 (by kernel_rfl) (by kernel_rfl) (by kernel_rfl) (by kernel_rfl)) ?_
  intro W base args ds gs before hval0 hW hcnd _
  have hval : ∀ (j : Nat) t v, Try.f8.params[j]? = some t → args[j]? = some v → Value.okWide Try.prog W .any base t v := hval0
  have hW' := hW
  obtain ⟨p, q, hA0, hV, rfl, hfz, hnd⟩ := hW
  have hA : DataW.TrodAll enc Try.prog W 0 (fun _ => true) true Try.f8.params.toList args.toList ds p := hA0
  rw [Try.params8] at hA hval
  obtain ⟨v0, vs0, d0, ds0, p0, q0, hargs, rfl, rfl, h0, r0⟩ := trodAll_cons hA
  obtain ⟨v1, vs1, d1, ds1, p1, q1, rfl, rfl, rfl, h1, r1⟩ := trodAll_cons r0
  obtain ⟨rfl, rfl, rfl⟩ := trodAll_nil r1
  obtain rfl : args = #[v0, v1] := by cases args; simp_all
  obtain ⟨rfl, rfl⟩ := trodVars_none hV
  obtain ⟨a0, rfl, rfl, rfl, w0⟩ := open_int Try.underlying3 (hval 0 3 v0 rfl rfl) h0
  obtain ⟨a1, rfl, rfl, rfl, w1⟩ := open_int Try.underlying3 (hval 1 3 v1 rfl rfl) h1
  clear hA0 hval0
  simp only [List.append_nil] at hW'
  refine (walk W a0 w0 a1 w1).mono fun e W' ⟨he, hb⟩ => ?_
  subst he
  exact ⟨_, rfl, _, _, _, [], [], [], hW', trodAll_cons_mk (shut_bool Try.underlying4 _) trodAll_mk0, (trodAll_cons_mk (shut_int Try.underlying3 w0) (trodAll_cons_mk (shut_int Try.underlying3 w1) trodAll_mk0)), rfl, hb.frame _, fun h => by cases h⟩

theorem over : Rows.fnExactBucketNewRow.holds Try.pinned (OpenSpec.ofChange Rows.fnExactBucketNewSpec) :=
  OpenClaim.holds_of_wide 8 Try.f8 rfl rfl rfl rfl rfl rfl rfl ⟨rfl, rfl, rfl, rfl, rfl⟩ rfl rfl rfl rfl rfl (by kernel_rfl) Try.func8 (by kernel_rfl)
    (of_decide_eq_true (by kernel_rfl)) (by unfold Func.isWrapper; first | (rw [if_pos (by decide +kernel)]; kernel_rfl) | (rw [if_neg (by decide +kernel)]; exact ⟨rfl, rfl⟩))
    (fun os started H enc _ => lifted os started H enc)

theorem proved : Rows.FnExactBucketNewSaid :=
  over
end Go.Proofs.Ytpfnmmoojmddpah.fnExactBucketNew
