/- At any two requests the program's Worse answers as the model's (the law FnExactWorse returns true); no condition. -/
import Derived.Test.YtcpekobacoijdaaRows
import Derived.WalkKit
import Derived.WalkSmall
import Derived.BigQuiet
import Derived.ProofKit
import Derived.OpenShut
import Derived.Deep.RegionWith
import Derived.Deep.DeepCutAuto
import Derived.Test.YtcpekobacoijdaaReqKit
import Derived.Test.YtcpekobacoijdaaReqOks
import Derived.Test.YtcpekobacoijdaaOpenKit
import Derived.Test.YtcpekobacoijdaaOpenReq
import Derived.Test.YtcpekobacoijdaaFlatReq
import Derived.Test.YtcpekobacoijdaaListKit
import Derived.Test.YtcpekobacoijdaaSlotKit
import Derived.Test.YtcpekobacoijdaaLawMini
import Derived.Test.YtcpekobacoijdaaNearKit
namespace Go.Proofs.Ytcpekobacoijdaa.fnExactWorse
open Go.ChangeShapes Go.WideShapes Go.ChangeAt Go.RowKit ReqKit ReqOks LawMini NearKit
set_option linter.unusedVariables false
set_option linter.unusedSimpArgs false
set_option maxRecDepth 8000

set_option maxHeartbeats 2000000 in
theorem walk (W : World) (a0 a1 a2 a3 a4 a5 : Int) (b0 b1 b2 b3 b4 b5 : Int) :
    Calls Try.prog 6 #[.agg #[.int .i64 a0, .int .i64 a1, .int .i64 a2, .int .i64 a3, .int .i64 a4, .int .i64 a5], .agg #[.int .i64 b0, .int .i64 b1, .int .i64 b2, .int .i64 b3, .int .i64 b4, .int .i64 b5]] W fun e w' => e = .returned (.bool true) ∧ Below W.heap.size W w' := by
  have HSP := fun W => spec_worse a0 a1 a2 a3 a4 a5 b0 b1 b2 b3 b4 b5 W
  have HIM := fun W => impl_worse a0 a1 a2 a3 a4 a5 b0 b1 b2 b3 b4 b5 W
  obtain ⟨B, hB⟩ : ∃ B, worse ⟨a0, a1, a2, a3, a4, a5⟩ ⟨b0, b1, b2, b3, b4, b5⟩ = B := ⟨_, rfl⟩
  rw [hB] at HSP HIM
  clear hB
  have hBB : (B != B) = false := by simp
  have H0 : Hid (Bel W ((W.alloc (.cells #[.int .i64 a0, .int .i64 a1, .int .i64 a2, .int .i64 a3, .int .i64 a4, .int .i64 a5] 23)).alloc (.cells #[.int .i64 b0, .int .i64 b1, .int .i64 b2, .int .i64 b3, .int .i64 b4, .int .i64 b5] 23)) ∧ boxB ((W.alloc (.cells #[.int .i64 a0, .int .i64 a1, .int .i64 a2, .int .i64 a3, .int .i64 a4, .int .i64 a5] 23)).alloc (.cells #[.int .i64 b0, .int .i64 b1, .int .i64 b2, .int .i64 b3, .int .i64 b4, .int .i64 b5] 23)) (W.heap.size) #[.int .i64 a0, .int .i64 a1, .int .i64 a2, .int .i64 a3, .int .i64 a4, .int .i64 a5] 23 ∧ boxB ((W.alloc (.cells #[.int .i64 a0, .int .i64 a1, .int .i64 a2, .int .i64 a3, .int .i64 a4, .int .i64 a5] 23)).alloc (.cells #[.int .i64 b0, .int .i64 b1, .int .i64 b2, .int .i64 b3, .int .i64 b4, .int .i64 b5] 23)) (W.heap.size + 1) #[.int .i64 b0, .int .i64 b1, .int .i64 b2, .int .i64 b3, .int .i64 b4, .int .i64 b5] 23) := ⟨n2 W _ _, (boxB.new _ _ _).below (n1 _ _), new2 _ _ _ _⟩
  go_enter Try.func6, Try.ntmps6
  go_upto_region 1 with fail
  obtain ⟨v0, hv0⟩ : ∃ v, ((W.alloc (.cells #[.int .i64 a0, .int .i64 a1, .int .i64 a2, .int .i64 a3, .int .i64 a4, .int .i64 a5] 23)).alloc (.cells #[.int .i64 b0, .int .i64 b1, .int .i64 b2, .int .i64 b3, .int .i64 b4, .int .i64 b5] 23)) = v := ⟨_, rfl⟩
  rw [hv0] at H0 ⊢
  clear hv0
  have c0_0 := H0.out.2.1.cell 0
  have c0_1 := H0.out.2.1.cell 1
  have c0_2 := H0.out.2.1.cell 2
  have c0_3 := H0.out.2.1.cell 3
  have c0_4 := H0.out.2.1.cell 4
  have c0_5 := H0.out.2.1.cell 5
  have c1_0 := H0.out.2.2.cell 0
  have c1_1 := H0.out.2.2.cell 1
  have c1_2 := H0.out.2.2.cell 2
  have c1_3 := H0.out.2.2.cell 3
  have c1_4 := H0.out.2.2.cell 4
  have c1_5 := H0.out.2.2.cell 5
  have Xc0_0 := Near.cell c0_0
  have Xc0_1 := Near.cell c0_1
  have Xc0_2 := Near.cell c0_2
  have Xc0_3 := Near.cell c0_3
  have Xc0_4 := Near.cell c0_4
  have Xc0_5 := Near.cell c0_5
  have Xc1_0 := Near.cell c1_0
  have Xc1_1 := Near.cell c1_1
  have Xc1_2 := Near.cell c1_2
  have Xc1_3 := Near.cell c1_3
  have Xc1_4 := Near.cell c1_4
  have Xc1_5 := Near.cell c1_5
  clear c0_0 c0_1 c0_2 c0_3 c0_4 c0_5 c1_0 c1_1 c1_2 c1_3 c1_4 c1_5
  have near := Near.is v0
  refine wp_region_near (by kernel_rfl) (by kernel_rfl) ?_
  repeat (go_big_quiet_step (first | (go_at_call 8; exact near_call (FlatReq.to_one _ _ _ _ _ _ _)) | (go_at_call 15; exact near_call (HSP _))))
  refine wpQuiet_nil ?_
  intro wx hwx
  obtain ⟨y, hy⟩ := hwx
  subst hy
  have H1 : Hid (Bel W y.w ∧ boxB y.w (W.heap.size) #[.int .i64 a0, .int .i64 a1, .int .i64 a2, .int .i64 a3, .int .i64 a4, .int .i64 a5] 23 ∧ boxB y.w (W.heap.size + 1) #[.int .i64 b0, .int .i64 b1, .int .i64 b2, .int .i64 b3, .int .i64 b4, .int .i64 b5] 23) := ⟨(H0.out.1).below y.near, (H0.out.2.1).below y.near, (H0.out.2.2).below y.near⟩
  obtain ⟨w1, hw1⟩ : ∃ v, y.w = v := ⟨_, rfl⟩
  rw [hw1] at H1 ⊢
  clear hw1 y near Xc0_0 Xc0_1 Xc0_2 Xc0_3 Xc0_4 Xc0_5 Xc1_0 Xc1_1 Xc1_2 Xc1_3 Xc1_4 Xc1_5 H0
  go_upto_region 2 with fail
  obtain ⟨v1, hv1⟩ : ∃ v, w1 = v := ⟨_, rfl⟩
  rw [hv1] at H1 ⊢
  clear hv1
  have c0_0 := H1.out.2.1.cell 0
  have c0_1 := H1.out.2.1.cell 1
  have c0_2 := H1.out.2.1.cell 2
  have c0_3 := H1.out.2.1.cell 3
  have c0_4 := H1.out.2.1.cell 4
  have c0_5 := H1.out.2.1.cell 5
  have c1_0 := H1.out.2.2.cell 0
  have c1_1 := H1.out.2.2.cell 1
  have c1_2 := H1.out.2.2.cell 2
  have c1_3 := H1.out.2.2.cell 3
  have c1_4 := H1.out.2.2.cell 4
  have c1_5 := H1.out.2.2.cell 5
  have Xc0_0 := Near.cell c0_0
  have Xc0_1 := Near.cell c0_1
  have Xc0_2 := Near.cell c0_2
  have Xc0_3 := Near.cell c0_3
  have Xc0_4 := Near.cell c0_4
  have Xc0_5 := Near.cell c0_5
  have Xc1_0 := Near.cell c1_0
  have Xc1_1 := Near.cell c1_1
  have Xc1_2 := Near.cell c1_2
  have Xc1_3 := Near.cell c1_3
  have Xc1_4 := Near.cell c1_4
  have Xc1_5 := Near.cell c1_5
  clear c0_0 c0_1 c0_2 c0_3 c0_4 c0_5 c1_0 c1_1 c1_2 c1_3 c1_4 c1_5
  have near := Near.is v1
  refine wp_region_near (by kernel_rfl) (by kernel_rfl) ?_
  repeat (go_big_quiet_step (first | (go_at_call 8; exact near_call (FlatReq.to_one _ _ _ _ _ _ _)) | (go_at_call 16; exact near_call (HIM _))))
  refine wpQuiet_nil ?_
  intro wx hwx
  obtain ⟨y, hy⟩ := hwx
  subst hy
  have H2 : Hid (Bel W y.w ∧ boxB y.w (W.heap.size) #[.int .i64 a0, .int .i64 a1, .int .i64 a2, .int .i64 a3, .int .i64 a4, .int .i64 a5] 23 ∧ boxB y.w (W.heap.size + 1) #[.int .i64 b0, .int .i64 b1, .int .i64 b2, .int .i64 b3, .int .i64 b4, .int .i64 b5] 23) := ⟨(H1.out.1).below y.near, (H1.out.2.1).below y.near, (H1.out.2.2).below y.near⟩
  obtain ⟨w2, hw2⟩ : ∃ v, y.w = v := ⟨_, rfl⟩
  rw [hw2] at H2 ⊢
  clear hw2 y near Xc0_0 Xc0_1 Xc0_2 Xc0_3 Xc0_4 Xc0_5 Xc1_0 Xc1_1 Xc1_2 Xc1_3 Xc1_4 Xc1_5 H1
  go_wp2
  go_ret
  exact ⟨rfl, H2.out.1⟩

theorem own : ownKnob Try.prog.godebug = none := by kernel_rfl
theorem laidOut : laidOutB Try.prog = true := by kernel_rfl

set_option maxRecDepth 100000 in
theorem lifted (os : Os) (started : os.Started) (H : Type) (enc : TypeId × Value → H) :
    ReturnsInHanded {} Try.checked os 6 .any (Rows.fnExactWorseSpec.pre6 enc Try.prog Try.f6 Rows.fnExactWorseRow.domain false) (Rows.fnExactWorseSpec.post enc Try.prog Try.f6 false true false false) := by
  refine returnsInHanded_of_change (C := Try.checked) own started (by kernel_rfl) Try.func6
    (ChangeSpec.witness6 (enc := enc) (C := Try.checked) false ⟨#[], #[.agg #[.int .i64 0, .int .i64 0, .int .i64 0, .int .i64 0, .int .i64 0, .int .i64 0], .agg #[.int .i64 0, .int .i64 0, .int .i64 0, .int .i64 0, .int .i64 0, .int .i64 0]], []⟩ 8 (by kernel_rfl) (by kernel_rfl) (by kernel_rfl) (by kernel_rfl)) ?_
  intro W base args ds gs before hval0 hW hcnd _
  have hval : ∀ (j : Nat) t v, Try.f6.params[j]? = some t → args[j]? = some v → Value.okWide Try.prog W .any base t v := hval0
  have hW' := hW
  obtain ⟨p, q, hA0, hV, rfl, hfz, hnd⟩ := hW
  have hA : DataW.TrodAll enc Try.prog W 0 (fun _ => true) true Try.f6.params.toList args.toList ds p := hA0
  rw [Try.params6] at hA hval
  obtain ⟨v0, vs0, d0, ds0, p0, q0, hargs, rfl, rfl, h0, r0⟩ := trodAll_cons hA
  obtain ⟨v1, vs1, d1, ds1, p1, q1, rfl, rfl, rfl, h1, r1⟩ := trodAll_cons r0
  obtain ⟨rfl, rfl, rfl⟩ := trodAll_nil r1
  obtain rfl : args = #[v0, v1] := by cases args; simp_all
  obtain ⟨rfl, rfl⟩ := trodVars_none hV
  have k0_ := h0
  have lt0 : ∀ x ∈ p0, x.block < W.heap.size := by obtain ⟨m, hm⟩ := k0_; exact DataW.trod_lt m _ _ _ hm
  obtain ⟨x0_0, x0_1, x0_2, x0_3, x0_4, x0_5, rfl⟩ := OpenReq.open_req (hval 0 23 v0 rfl rfl) h0
  have k1_ := h1
  have lt1 : ∀ x ∈ p1, x.block < W.heap.size := by obtain ⟨m, hm⟩ := k1_; exact DataW.trod_lt m _ _ _ hm
  obtain ⟨x1_0, x1_1, x1_2, x1_3, x1_4, x1_5, rfl⟩ := OpenReq.open_req (hval 1 23 v1 rfl rfl) h1
  clear hA0 hval0
  refine (walk W x0_0 x0_1 x0_2 x0_3 x0_4 x0_5 x1_0 x1_1 x1_2 x1_3 x1_4 x1_5).mono fun e W' ⟨he, hb⟩ => ?_
  subst he
  exact ⟨_, rfl, _, _, _, [], _, [], hW', trodAll_cons_mk (shut_bool Try.underlying4 _) trodAll_mk0, (trodAll_cons_mk (Below.trod laidOut (by kernel_rfl) (of_decide_eq_true (by kernel_rfl)) k0_ hb lt0) (trodAll_cons_mk (Below.trod laidOut (by kernel_rfl) (of_decide_eq_true (by kernel_rfl)) k1_ hb lt1) trodAll_mk0)), rfl, hb.frame _, fun h => by cases h⟩

theorem over : Rows.fnExactWorseRow.holds Try.pinned (OpenSpec.ofChange Rows.fnExactWorseSpec) :=
  OpenClaim.holds_of_wide 6 Try.f6 rfl rfl rfl rfl rfl rfl rfl ⟨rfl, rfl, rfl, rfl, rfl⟩ rfl rfl rfl rfl rfl (by kernel_rfl) Try.func6 (by kernel_rfl)
    (of_decide_eq_true (by kernel_rfl)) (by unfold Func.isWrapper; first | (rw [if_pos (by decide +kernel)]; kernel_rfl) | (rw [if_neg (by decide +kernel)]; exact ⟨rfl, rfl⟩))
    (fun os started H enc _ => lifted os started H enc)

theorem proved : Rows.FnExactWorseSaid :=
  over
end Go.Proofs.Ytcpekobacoijdaa.fnExactWorse
