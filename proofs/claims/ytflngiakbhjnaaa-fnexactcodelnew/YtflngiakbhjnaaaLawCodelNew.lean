/- At every target and span the program's CodelNew answers as the model's (the law FnExactCodelNew returns true); no condition. -/
import Derived.Test.YtflngiakbhjnaaaRows
import Derived.WalkKit
import Derived.WalkSmall
import Derived.BigQuiet
import Derived.ProofKit
import Derived.OpenShut
import Derived.Deep.RegionWith
import Derived.Deep.DeepCutAuto
import Derived.Test.YtflngiakbhjnaaaListKit
import Derived.Test.YtflngiakbhjnaaaHoldKit
import Derived.Test.YtflngiakbhjnaaaRegFlow
import Derived.Test.YtflngiakbhjnaaaFlowHold
import Derived.Test.YtflngiakbhjnaaaFlatCodel
import Derived.Test.YtflngiakbhjnaaaOpenKit
import Derived.Test.YtflngiakbhjnaaaCodBothNew
namespace Go.Proofs.Ytflngiakbhjnaaa.fnExactCodelNew
open Go.ChangeShapes Go.WideShapes Go.ChangeAt Go.RowKit ListKit HoldKit CodBothNew
set_option linter.unusedVariables false
set_option linter.unusedSimpArgs false
set_option maxRecDepth 8000

set_option maxHeartbeats 8000000 in
theorem walk (W : World) (i0 : Int) (wi0 : (Lit.int .i64 i0).wf = true) (i1 : Int) (wi1 : (Lit.int .i64 i1).wf = true) :
    Calls Try.prog 4 #[.int .i64 i0, .int .i64 i1] W fun e w' => e = .returned (.bool true) ∧ Below W.heap.size W w' := by
  obtain ⟨qa0, qa1, qa2, qa3, qa4, qa5, qb, HSP, HIM⟩ := both_codelnew i0 i1
  have t_qa0 : (qa0 != qa0) = false := by simp
  have t_qa1 : (qa1 != qa1) = false := by simp
  have t_qa2 : (qa2 != qa2) = false := by simp
  have t_qa3 : (qa3 != qa3) = false := by simp
  have t_qa4 : (qa4 != qa4) = false := by simp
  have t_qa5 : (qa5 != qa5) = false := by simp
  have t_qb : (qb != qb) = false := by simp
  have H0 : Hid (Bel W W) := Bel.start W
  clear wi0 wi1
  go_enter Try.func4, Try.ntmps4
  go_wp2_with fail
  refine (HSP  _ ).mono ?_
  rintro e w1 ⟨rfl, b1⟩
  have H1 : Hid (Bel W (w1.alloc (.cells #[.int .i64 qa0, .int .i64 qa1, .int .i64 qa2, .bool qa3, .int .i64 qa4, .int .i64 qa5] 25)) ∧ boxB (w1.alloc (.cells #[.int .i64 qa0, .int .i64 qa1, .int .i64 qa2, .bool qa3, .int .i64 qa4, .int .i64 qa5] 25)) (w1.heap.size) #[.int .i64 qa0, .int .i64 qa1, .int .i64 qa2, .bool qa3, .int .i64 qa4, .int .i64 qa5] 25) := ⟨(H0.out).below (b1.trans ((n1 w1 _).mono b1.size)), boxB.new _ _ _⟩
  clear b1 H0
  go_wp2_with fail
  refine (HIM  _ ).mono ?_
  rintro e w2 ⟨rfl, b2⟩
  have H2 : Hid (Bel W (w2.alloc (.cells #[.int .i64 qa0, .int .i64 qa1, .int .i64 qa2, .bool qa3, .int .i64 qa4, .int .i64 qa5] 25)) ∧ boxB (w2.alloc (.cells #[.int .i64 qa0, .int .i64 qa1, .int .i64 qa2, .bool qa3, .int .i64 qa4, .int .i64 qa5] 25)) (w1.heap.size) #[.int .i64 qa0, .int .i64 qa1, .int .i64 qa2, .bool qa3, .int .i64 qa4, .int .i64 qa5] 25 ∧ boxB (w2.alloc (.cells #[.int .i64 qa0, .int .i64 qa1, .int .i64 qa2, .bool qa3, .int .i64 qa4, .int .i64 qa5] 25)) (w2.heap.size) #[.int .i64 qa0, .int .i64 qa1, .int .i64 qa2, .bool qa3, .int .i64 qa4, .int .i64 qa5] 25) := ⟨(H1.out.1).below (b2.trans ((n1 w2 _).mono b2.size)), (H1.out.2).below (b2.trans ((n1 w2 _).mono b2.size)), boxB.new _ _ _⟩
  clear b2 H1
  have d0 := (H2.out.2.2).cell 0
  have d1 := (H2.out.2.2).cell 1
  have d2 := (H2.out.2.2).cell 2
  have d3 := (H2.out.2.2).cell 3
  have d4 := (H2.out.2.2).cell 4
  have d5 := (H2.out.2.2).cell 5
  have e0 := (H2.out.2.1).cell 0
  have e1 := (H2.out.2.1).cell 1
  have e2 := (H2.out.2.1).cell 2
  have e3 := (H2.out.2.1).cell 3
  have e4 := (H2.out.2.1).cell 4
  have e5 := (H2.out.2.1).cell 5
  go_wp2_with fail
  refine (FlatCodel.eq_one qa0 qa1 qa2 qa3 qa4 qa5 _).mono ?_
  rintro e w3 ⟨rfl, b3⟩
  have H3 : Hid (Bel W w3 ∧ boxB w3 (w1.heap.size) #[.int .i64 qa0, .int .i64 qa1, .int .i64 qa2, .bool qa3, .int .i64 qa4, .int .i64 qa5] 25 ∧ boxB w3 (w2.heap.size) #[.int .i64 qa0, .int .i64 qa1, .int .i64 qa2, .bool qa3, .int .i64 qa4, .int .i64 qa5] 25) := ⟨(H2.out.1).below b3, (H2.out.2.1).below b3, (H2.out.2.2).below b3⟩
  clear d0 d1 d2 d3 d4 d5 e0 e1 e2 e3 e4 e5 b3 H2
  go_wp2
  go_ret
  exact ⟨rfl, (H3.out.1).out⟩

theorem own : ownKnob Try.prog.godebug = none := by kernel_rfl
theorem laidOut : laidOutB Try.prog = true := by kernel_rfl

set_option maxRecDepth 100000 in
theorem lifted (os : Os) (started : os.Started) (H : Type) (enc : TypeId × Value → H) :
    ReturnsInHanded {} Try.checked os 4 .any (Rows.fnExactCodelNewSpec.pre6 enc Try.prog Try.f4 Rows.fnExactCodelNewRow.domain false) (Rows.fnExactCodelNewSpec.post enc Try.prog Try.f4 false true false false) := by
  refine returnsInHanded_of_change (C := Try.checked) own started (by kernel_rfl) Try.func4
    (ChangeSpec.witness6 (enc := enc) (C := Try.checked) false ⟨#[], #[.int .i64 0, .int .i64 0], []⟩ 8 (by kernel_rfl) (by kernel_rfl) (by kernel_rfl) (by kernel_rfl)) ?_
  intro W base args ds gs before hval0 hW hcnd _
  have hval : ∀ (j : Nat) t v, Try.f4.params[j]? = some t → args[j]? = some v → Value.okWide Try.prog W .any base t v := hval0
  have hW' := hW
  obtain ⟨p, q, hA0, hV, rfl, hfz, hnd⟩ := hW
  have hA : DataW.TrodAll enc Try.prog W 0 (fun _ => true) true Try.f4.params.toList args.toList ds p := hA0
  rw [Try.params4] at hA hval
  obtain ⟨v0, vs0, d0, ds0, p0, q0, hargs, rfl, rfl, h0, r0⟩ := trodAll_cons hA
  obtain ⟨v1, vs1, d1, ds1, p1, q1, rfl, rfl, rfl, h1, r1⟩ := trodAll_cons r0
  obtain ⟨rfl, rfl, rfl⟩ := trodAll_nil r1
  obtain rfl : args = #[v0, v1] := by cases args; simp_all
  obtain ⟨rfl, rfl⟩ := trodVars_none hV
  obtain ⟨a0, rfl, rfl, rfl, w0⟩ := open_int Try.underlying3 (hval 0 3 v0 rfl rfl) h0
  obtain ⟨a1, rfl, rfl, rfl, w1⟩ := open_int Try.underlying3 (hval 1 3 v1 rfl rfl) h1
  clear hA0 hval0
  simp only [List.append_nil] at hW'
  refine (walk W a0 w0 a1 w1).mono fun e W' ⟨he, hb⟩ => ?_
  subst he
  exact ⟨_, rfl, _, _, _, [], [], [], hW', trodAll_cons_mk (shut_bool Try.underlying4 _) trodAll_mk0, (trodAll_cons_mk (shut_int Try.underlying3 w0) (trodAll_cons_mk (shut_int Try.underlying3 w1) trodAll_mk0)), rfl, hb.frame _, fun h => by cases h⟩

theorem over : Rows.fnExactCodelNewRow.holds Try.pinned (OpenSpec.ofChange Rows.fnExactCodelNewSpec) :=
  OpenClaim.holds_of_wide 4 Try.f4 rfl rfl rfl rfl rfl rfl rfl ⟨rfl, rfl, rfl, rfl, rfl⟩ rfl rfl rfl rfl rfl (by kernel_rfl) Try.func4 (by kernel_rfl)
    (of_decide_eq_true (by kernel_rfl)) (by unfold Func.isWrapper; first | (rw [if_pos (by decide +kernel)]; kernel_rfl) | (rw [if_neg (by decide +kernel)]; exact ⟨rfl, rfl⟩))
    (fun os started H enc _ => lifted os started H enc)

theorem proved : Rows.FnExactCodelNewSaid :=
  over
end Go.Proofs.Ytflngiakbhjnaaa.fnExactCodelNew
