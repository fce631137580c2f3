/- At every bucket and time the program's Take answers as the model's (the law FnExactTake returns true), and the arguments are left as they were; no condition. -/
import Derived.Test.YtpfnmmoojmddpaiRows
import Derived.WalkKit
import Derived.WalkSmall
import Derived.BigQuiet
import Derived.ProofKit
import Derived.OpenShut
import Derived.Test.YtpfnmmoojmddpaiBucketMath
import Derived.Test.YtpfnmmoojmddpaiBucketWalks
import Derived.Test.YtpfnmmoojmddpaiBucketFill
import Derived.Test.YtpfnmmoojmddpaiBucketMore
import Derived.Test.YtpfnmmoojmddpaiBucketEnds
import Derived.Test.YtpfnmmoojmddpaiBucketArg
import Derived.Test.YtpfnmmoojmddpaiBucketImpl
namespace Go.Proofs.Ytpfnmmoojmddpai.fnExactTake
open Go.ChangeShapes Go.WideShapes Go.ChangeAt Go.RowKit BucketMath BucketWalks BucketFill BucketMore BucketEnds BucketArg BucketImpl
set_option linter.unusedVariables false

set_option maxHeartbeats 1000000 in
theorem walk (W : World) (b r h t : Int) (now : Int) (wn : (Lit.int .i64 now).wf = true) :
    Calls Try.prog 4 #[.agg #[.int .i64 b, .int .i64 r, .int .i64 h, .int .i64 t], .int .i64 now] W fun e w' => e = .returned (.bool true) ∧ Below W.heap.size W w' := by
  obtain ⟨x, y, z, u, B, HS, HI⟩ : ∃ (x y z u : Int) (B : Bool), (∀ W, Calls Try.prog 10 #[.agg #[.int .i64 b, .int .i64 r, .int .i64 h, .int .i64 t], .int .i64 now] W fun e w' => e = .returned (.tuple #[.agg #[.int .i64 x, .int .i64 y, .int .i64 z, .int .i64 u], .bool B]) ∧ Below W.heap.size W w') ∧ (∀ W, Calls Try.prog 11 #[.agg #[.int .i64 b, .int .i64 r, .int .i64 h, .int .i64 t], .int .i64 now] W fun e w' => e = .returned (.tuple #[.agg #[.int .i64 x, .int .i64 y, .int .i64 z, .int .i64 u], .bool B]) ∧ Below W.heap.size W w') := by
    by_cases hk : bOk b r h t ∧ isT now
    · have h1 := fun W => spec_take_yes b r h t now _ _ W hk.1 hk.2 rfl rfl
      have h2 := fun W => impl_take_yes b r h t now _ _ W hk.1 hk.2 rfl rfl
      by_cases h3 : 1000 ≤ fillH b r h t now
      · rw [if_pos h3] at h1 h2
        exact ⟨_, _, _, _, _, h1, h2⟩
      · rw [if_neg h3] at h1 h2
        exact ⟨_, _, _, _, _, h1, h2⟩
    · exact ⟨_, _, _, _, _, fun W => spec_take_no b r h t now W hk, fun W => impl_take_no b r h t now W hk⟩
  have hBB : (B != B) = false := by simp
  clear wn
  have HT := fun W => to_bucket b r h t W
  have b0 : Below W.heap.size W (W.alloc (.cells #[.int .i64 b, .int .i64 r, .int .i64 h, .int .i64 t] 23)) := (Below.refl _ _).alloc (Nat.le_refl _) _
  have e0 := heap_alloc_new W (.cells #[.int .i64 b, .int .i64 r, .int .i64 h, .int .i64 t] 23)
  go_enter Try.func4, Try.ntmps4
  go_wp2_with fail
  refine (HT _).mono ?_
  rintro e w1 ⟨rfl, b1⟩
  have B1 : Hid (Below W.heap.size W w1) := b0.trans (b1.mono b0.size)
  have e1 := kept e0 b1
  clear b0 e0 b1
  go_wp2_with fail
  refine (HS _).mono ?_
  rintro e w2 ⟨rfl, b2⟩
  have B2' : Below W.heap.size W w2 := B1.out.trans (b2.mono B1.out.size)
  have B2 : Hid (Below W.heap.size W (w2.alloc (.cells #[.int .i64 x, .int .i64 y, .int .i64 z, .int .i64 u] 24))) := B2'.alloc B2'.size _
  have e2 : (w2.alloc (.cells #[.int .i64 x, .int .i64 y, .int .i64 z, .int .i64 u] 24)).heap[W.heap.size]? = some (.cells #[.int .i64 b, .int .i64 r, .int .i64 h, .int .i64 t] 23 (0, 0)) := kept1 (kept e1 b2)
  have c0 := cell_blk e2 0
  have c1 := cell_blk e2 1
  have c2 := cell_blk e2 2
  have c3 := cell_blk e2 3
  clear e1 e2 b2 B2'
  go_wp2_with fail
  refine (HT _).mono ?_
  rintro e w3 ⟨rfl, b3⟩
  have B3 : Hid (Below W.heap.size W w3) := B2.out.trans (b3.mono B2.out.size)
  have e3 : w3.heap[w2.heap.size]? = some (.cells #[.int .i64 x, .int .i64 y, .int .i64 z, .int .i64 u] 24 (0, 0)) := kept (heap_alloc_new w2 _) b3
  clear c0 c1 c2 c3 b3
  go_wp2_with fail
  refine (HI _).mono ?_
  rintro e w4 ⟨rfl, b4⟩
  have B4 : Hid (Below W.heap.size W w4) := B3.out.trans (b4.mono B3.out.size)
  have e4 : (w4.alloc (.cells #[.int .i64 x, .int .i64 y, .int .i64 z, .int .i64 u] 24)).heap[w2.heap.size]? = some (.cells #[.int .i64 x, .int .i64 y, .int .i64 z, .int .i64 u] 24 (0, 0)) := kept1 (kept e3 b4)
  have q0 := cell_blk e4 0
  have q1 := cell_blk e4 1
  have q2 := cell_blk e4 2
  have q3 := cell_blk e4 3
  clear e3 e4 b4
  go_wp2_with fail
  refine (eq_bucket x y z u _).mono ?_
  rintro e w5 ⟨rfl, b5⟩
  have B5 : Hid (Below W.heap.size W w5) := (B4.out.alloc B4.out.size _).trans (b5.mono (by have := B4.out.size; simp; omega))
  clear b5
  go_wp2
  go_ret
  exact ⟨rfl, B5.out⟩

theorem own : ownKnob Try.prog.godebug = none := by kernel_rfl
theorem laidOut : laidOutB Try.prog = true := by kernel_rfl

set_option maxRecDepth 100000 in
theorem lifted (os : Os) (started : os.Started) (H : Type) (enc : TypeId × Value → H) :
    ReturnsInHanded {} Try.checked os 4 .any (Rows.fnExactTakeSpec.pre6 enc Try.prog Try.f4 Rows.fnExactTakeRow.domain false) (Rows.fnExactTakeSpec.post enc Try.prog Try.f4 false true false false) := by
  refine returnsInHanded_of_change (C := Try.checked) own started (by kernel_rfl) Try.func4
    (ChangeSpec.witness6 (enc := enc) (C := Try.checked) false ⟨#[], #[.agg #[.int .i64 0, .int .i64 0, .int .i64 0, .int .i64 0], .int .i64 0], []⟩ 8 (by kernel_rfl) (by kernel_rfl) (by kernel_rfl) (by kernel_rfl)) ?_
  intro W base args ds gs before hval0 hW hcnd _
  have hval : ∀ (j : Nat) t v, Try.f4.params[j]? = some t → args[j]? = some v → Value.okWide Try.prog W .any base t v := hval0
  have hW' := hW
  obtain ⟨p, q, hA0, hV, rfl, hfz, hnd⟩ := hW
  have hA : DataW.TrodAll enc Try.prog W 0 (fun _ => true) true Try.f4.params.toList args.toList ds p := hA0
  rw [Try.params4] at hA hval
  obtain ⟨v0, vs0, d0, ds0, p0, q0, hargs, rfl, rfl, h0, r0⟩ := trodAll_cons hA
  obtain ⟨v1, vs1, d1, ds1, p1, q1, rfl, rfl, rfl, h1, r1⟩ := trodAll_cons r0
  obtain ⟨rfl, rfl, rfl⟩ := trodAll_nil r1
  obtain rfl : args = #[v0, v1] := by cases args; simp_all
  obtain ⟨rfl, rfl⟩ := trodVars_none hV
  have k0 := h0
  have lt0 : ∀ x ∈ p0, x.block < W.heap.size := by obtain ⟨m, hm⟩ := k0; exact DataW.trod_lt m _ _ _ hm
  obtain ⟨bb0, br0, bh0, bt0, rfl⟩ := BucketArg.open_bucket (hval 0 23 v0 rfl rfl) h0
  obtain ⟨a1, rfl, rfl, rfl, w1⟩ := open_int Try.underlying3 (hval 1 3 v1 rfl rfl) h1
  clear hA0 hval0
  refine (walk W bb0 br0 bh0 bt0 a1 w1).mono fun e W' ⟨he, hb⟩ => ?_
  subst he
  exact ⟨_, rfl, _, _, _, [], _, [], hW', trodAll_cons_mk (shut_bool Try.underlying4 _) trodAll_mk0, (trodAll_cons_mk (Below.trod laidOut (by kernel_rfl) (of_decide_eq_true (by kernel_rfl)) k0 hb lt0) (trodAll_cons_mk (shut_int Try.underlying3 w1) trodAll_mk0)), rfl, hb.frame _, fun h => by cases h⟩

theorem over : Rows.fnExactTakeRow.holds Try.pinned (OpenSpec.ofChange Rows.fnExactTakeSpec) :=
  OpenClaim.holds_of_wide 4 Try.f4 rfl rfl rfl rfl rfl rfl rfl ⟨rfl, rfl, rfl, rfl, rfl⟩ rfl rfl rfl rfl rfl (by kernel_rfl) Try.func4 (by kernel_rfl)
    (of_decide_eq_true (by kernel_rfl)) (by unfold Func.isWrapper; first | (rw [if_pos (by decide +kernel)]; kernel_rfl) | (rw [if_neg (by decide +kernel)]; exact ⟨rfl, rfl⟩))
    (fun os started H enc _ => lifted os started H enc)

theorem proved : Rows.FnExactTakeSaid :=
  over
end Go.Proofs.Ytpfnmmoojmddpai.fnExactTake
