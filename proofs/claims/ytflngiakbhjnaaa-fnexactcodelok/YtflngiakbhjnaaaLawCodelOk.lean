/- At every queue that may be slow the program's CodelOk answers as the model's, and it writes into no argument (the law FnExactCodelOk returns true); no condition. -/
import Derived.Test.YtflngiakbhjnaaaRows
import Derived.WalkKit
import Derived.WalkSmall
import Derived.BigQuiet
import Derived.ProofKit
import Derived.OpenShut
import Derived.Deep.RegionWith
import Derived.Deep.DeepCutAuto
import Derived.Test.YtflngiakbhjnaaaListKit
import Derived.Test.YtflngiakbhjnaaaHoldKit
import Derived.Test.YtflngiakbhjnaaaRegFlow
import Derived.Test.YtflngiakbhjnaaaFlowHold
import Derived.Test.YtflngiakbhjnaaaFlatCodel
import Derived.Test.YtflngiakbhjnaaaOpenKit
import Derived.Test.YtflngiakbhjnaaaOpenCodel
import Derived.Test.YtflngiakbhjnaaaCodBothOk
namespace Go.Proofs.Ytflngiakbhjnaaa.fnExactCodelOk
open Go.ChangeShapes Go.WideShapes Go.ChangeAt Go.RowKit ListKit HoldKit CodBothOk
set_option linter.unusedVariables false
set_option linter.unusedSimpArgs false
set_option maxRecDepth 8000

set_option maxHeartbeats 8000000 in
theorem walk (W : World) (pa0 : Int) (pa1 : Int) (pa2 : Int) (pa3 : Bool) (pa4 : Int) (pa5 : Int) :
    Calls Try.prog 3 #[.agg #[.int .i64 pa0, .int .i64 pa1, .int .i64 pa2, .bool pa3, .int .i64 pa4, .int .i64 pa5]] W fun e w' => e = .returned (.bool true) ∧ Below W.heap.size W w' := by
  obtain ⟨qa, HSP, HIM⟩ := both_codelok pa0 pa1 pa2 pa3 pa4 pa5
  have t_qa : (qa != qa) = false := by simp
  have H0 : Hid (Bel W (W.alloc (.cells #[.int .i64 pa0, .int .i64 pa1, .int .i64 pa2, .bool pa3, .int .i64 pa4, .int .i64 pa5] 23)) ∧ boxB (W.alloc (.cells #[.int .i64 pa0, .int .i64 pa1, .int .i64 pa2, .bool pa3, .int .i64 pa4, .int .i64 pa5] 23)) (W.heap.size) #[.int .i64 pa0, .int .i64 pa1, .int .i64 pa2, .bool pa3, .int .i64 pa4, .int .i64 pa5] 23) := ⟨n1 W _, boxB.new _ _ _⟩
  go_enter Try.func3, Try.ntmps3
  have c0 := (H0.out.2).cell 0
  have c1 := (H0.out.2).cell 1
  have c2 := (H0.out.2).cell 2
  have c3 := (H0.out.2).cell 3
  have c4 := (H0.out.2).cell 4
  have c5 := (H0.out.2).cell 5
  go_wp2_with fail
  refine (FlatCodel.to_one pa0 pa1 pa2 pa3 pa4 pa5 _).mono ?_
  rintro e w1 ⟨rfl, b1⟩
  have H1 : Hid (Bel W w1 ∧ boxB w1 (W.heap.size) #[.int .i64 pa0, .int .i64 pa1, .int .i64 pa2, .bool pa3, .int .i64 pa4, .int .i64 pa5] 23) := ⟨(H0.out.1).below b1, (H0.out.2).below b1⟩
  clear c0 c1 c2 c3 c4 c5 b1 H0
  go_wp2_with fail
  refine (HSP  _ ).mono ?_
  rintro e w2 ⟨rfl, b2⟩
  have H2 : Hid (Bel W w2 ∧ boxB w2 (W.heap.size) #[.int .i64 pa0, .int .i64 pa1, .int .i64 pa2, .bool pa3, .int .i64 pa4, .int .i64 pa5] 23) := ⟨(H1.out.1).below b2, (H1.out.2).below b2⟩
  clear b2 H1
  have c0 := (H2.out.2).cell 0
  have c1 := (H2.out.2).cell 1
  have c2 := (H2.out.2).cell 2
  have c3 := (H2.out.2).cell 3
  have c4 := (H2.out.2).cell 4
  have c5 := (H2.out.2).cell 5
  go_wp2_with fail
  refine (FlatCodel.to_one pa0 pa1 pa2 pa3 pa4 pa5 _).mono ?_
  rintro e w3 ⟨rfl, b3⟩
  have H3 : Hid (Bel W w3 ∧ boxB w3 (W.heap.size) #[.int .i64 pa0, .int .i64 pa1, .int .i64 pa2, .bool pa3, .int .i64 pa4, .int .i64 pa5] 23) := ⟨(H2.out.1).below b3, (H2.out.2).below b3⟩
  clear c0 c1 c2 c3 c4 c5 b3 H2
  go_wp2_with fail
  refine (HIM  _ ).mono ?_
  rintro e w4 ⟨rfl, b4⟩
  have H4 : Hid (Bel W w4 ∧ boxB w4 (W.heap.size) #[.int .i64 pa0, .int .i64 pa1, .int .i64 pa2, .bool pa3, .int .i64 pa4, .int .i64 pa5] 23) := ⟨(H3.out.1).below b4, (H3.out.2).below b4⟩
  clear b4 H3
  go_wp2
  go_ret
  exact ⟨rfl, (H4.out.1).out⟩

theorem own : ownKnob Try.prog.godebug = none := by kernel_rfl
theorem laidOut : laidOutB Try.prog = true := by kernel_rfl

set_option maxRecDepth 100000 in
theorem lifted (os : Os) (started : os.Started) (H : Type) (enc : TypeId × Value → H) :
    ReturnsInHanded {} Try.checked os 3 .any (Rows.fnExactCodelOkSpec.pre6 enc Try.prog Try.f3 Rows.fnExactCodelOkRow.domain false) (Rows.fnExactCodelOkSpec.post enc Try.prog Try.f3 false true false false) := by
  refine returnsInHanded_of_change (C := Try.checked) own started (by kernel_rfl) Try.func3
    (ChangeSpec.witness6 (enc := enc) (C := Try.checked) false ⟨#[], #[.agg #[.int .i64 0, .int .i64 0, .int .i64 0, .bool false, .int .i64 0, .int .i64 0]], []⟩ 8 (by kernel_rfl) (by kernel_rfl) (by kernel_rfl) (by kernel_rfl)) ?_
  intro W base args ds gs before hval0 hW hcnd _
  have hval : ∀ (j : Nat) t v, Try.f3.params[j]? = some t → args[j]? = some v → Value.okWide Try.prog W .any base t v := hval0
  have hW' := hW
  obtain ⟨p, q, hA0, hV, rfl, hfz, hnd⟩ := hW
  have hA : DataW.TrodAll enc Try.prog W 0 (fun _ => true) true Try.f3.params.toList args.toList ds p := hA0
  rw [Try.params3] at hA hval
  obtain ⟨v0, vs0, d0, ds0, p0, q0, hargs, rfl, rfl, h0, r0⟩ := trodAll_cons hA
  obtain ⟨rfl, rfl, rfl⟩ := trodAll_nil r0
  obtain rfl : args = #[v0] := by cases args; simp_all
  obtain ⟨rfl, rfl⟩ := trodVars_none hV
  have k0_ := h0
  have lt0 : ∀ x ∈ p0, x.block < W.heap.size := by obtain ⟨m, hm⟩ := k0_; exact DataW.trod_lt m _ _ _ hm
  obtain ⟨x0_0, x0_1, x0_2, x0_3, x0_4, x0_5, rfl⟩ := OpenCodel.open_codel (hval 0 23 v0 rfl rfl) h0
  clear hA0 hval0
  refine (walk W x0_0 x0_1 x0_2 x0_3 x0_4 x0_5).mono fun e W' ⟨he, hb⟩ => ?_
  subst he
  exact ⟨_, rfl, _, _, _, [], _, [], hW', trodAll_cons_mk (shut_bool Try.underlying4 _) trodAll_mk0, (trodAll_cons_mk (Below.trod laidOut (by kernel_rfl) (of_decide_eq_true (by kernel_rfl)) k0_ hb lt0) trodAll_mk0), rfl, hb.frame _, fun h => by cases h⟩

theorem over : Rows.fnExactCodelOkRow.holds Try.pinned (OpenSpec.ofChange Rows.fnExactCodelOkSpec) :=
  OpenClaim.holds_of_wide 3 Try.f3 rfl rfl rfl rfl rfl rfl rfl ⟨rfl, rfl, rfl, rfl, rfl⟩ rfl rfl rfl rfl rfl (by kernel_rfl) Try.func3 (by kernel_rfl)
    (of_decide_eq_true (by kernel_rfl)) (by unfold Func.isWrapper; first | (rw [if_pos (by decide +kernel)]; kernel_rfl) | (rw [if_neg (by decide +kernel)]; exact ⟨rfl, rfl⟩))
    (fun os started H enc _ => lifted os started H enc)

theorem proved : Rows.FnExactCodelOkSaid :=
  over
end Go.Proofs.Ytflngiakbhjnaaa.fnExactCodelOk
