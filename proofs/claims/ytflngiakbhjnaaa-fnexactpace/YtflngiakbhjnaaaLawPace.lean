/- At every span and count the program's Pace answers as the model's (the law FnExactPace returns true); no condition. -/
import Derived.Test.YtflngiakbhjnaaaRows
import Derived.WalkKit
import Derived.WalkSmall
import Derived.BigQuiet
import Derived.ProofKit
import Derived.OpenShut
import Derived.Deep.RegionWith
import Derived.Deep.DeepCutAuto
import Derived.Test.YtflngiakbhjnaaaListKit
import Derived.Test.YtflngiakbhjnaaaHoldKit
import Derived.Test.YtflngiakbhjnaaaRegFlow
import Derived.Test.YtflngiakbhjnaaaFlowHold
import Derived.Test.YtflngiakbhjnaaaOpenKit
import Derived.Test.YtflngiakbhjnaaaCodBothPace
namespace Go.Proofs.Ytflngiakbhjnaaa.fnExactPace
open Go.ChangeShapes Go.WideShapes Go.ChangeAt Go.RowKit ListKit HoldKit CodBothPace
set_option linter.unusedVariables false
set_option linter.unusedSimpArgs false
set_option maxRecDepth 8000

set_option maxHeartbeats 8000000 in
theorem walk (W : World) (i0 : Int) (wi0 : (Lit.int .i64 i0).wf = true) (i1 : Int) (wi1 : (Lit.int .i64 i1).wf = true) :
    Calls Try.prog 5 #[.int .i64 i0, .int .i64 i1] W fun e w' => e = .returned (.bool true) ∧ Below W.heap.size W w' := by
  obtain ⟨qa, HSP, HIM⟩ := both_pace i0 i1
  have t_qa : (qa != qa) = false := by simp
  have H0 : Hid (Bel W W) := Bel.start W
  clear wi0 wi1
  go_enter Try.func5, Try.ntmps5
  go_wp2_with fail
  refine (HSP  _ ).mono ?_
  rintro e w1 ⟨rfl, b1⟩
  have H1 : Hid (Bel W w1) := (H0.out).below b1
  clear b1 H0
  go_wp2_with fail
  refine (HIM  _ ).mono ?_
  rintro e w2 ⟨rfl, b2⟩
  have H2 : Hid (Bel W w2) := (H1.out).below b2
  clear b2 H1
  go_wp2
  go_ret
  exact ⟨rfl, (H2.out).out⟩

theorem own : ownKnob Try.prog.godebug = none := by kernel_rfl
theorem laidOut : laidOutB Try.prog = true := by kernel_rfl

set_option maxRecDepth 100000 in
theorem lifted (os : Os) (started : os.Started) (H : Type) (enc : TypeId × Value → H) :
    ReturnsInHanded {} Try.checked os 5 .any (Rows.fnExactPaceSpec.pre6 enc Try.prog Try.f5 Rows.fnExactPaceRow.domain false) (Rows.fnExactPaceSpec.post enc Try.prog Try.f5 false true false false) := by
  refine returnsInHanded_of_change (C := Try.checked) own started (by kernel_rfl) Try.func5
    (ChangeSpec.witness6 (enc := enc) (C := Try.checked) false ⟨#[], #[.int .i64 0, .int .i64 0], []⟩ 8 (by kernel_rfl) (by kernel_rfl) (by kernel_rfl) (by kernel_rfl)) ?_
  intro W base args ds gs before hval0 hW hcnd _
  have hval : ∀ (j : Nat) t v, Try.f5.params[j]? = some t → args[j]? = some v → Value.okWide Try.prog W .any base t v := hval0
  have hW' := hW
  obtain ⟨p, q, hA0, hV, rfl, hfz, hnd⟩ := hW
  have hA : DataW.TrodAll enc Try.prog W 0 (fun _ => true) true Try.f5.params.toList args.toList ds p := hA0
  rw [Try.params5] at hA hval
  obtain ⟨v0, vs0, d0, ds0, p0, q0, hargs, rfl, rfl, h0, r0⟩ := trodAll_cons hA
  obtain ⟨v1, vs1, d1, ds1, p1, q1, rfl, rfl, rfl, h1, r1⟩ := trodAll_cons r0
  obtain ⟨rfl, rfl, rfl⟩ := trodAll_nil r1
  obtain rfl : args = #[v0, v1] := by cases args; simp_all
  obtain ⟨rfl, rfl⟩ := trodVars_none hV
  obtain ⟨a0, rfl, rfl, rfl, w0⟩ := open_int Try.underlying3 (hval 0 3 v0 rfl rfl) h0
  obtain ⟨a1, rfl, rfl, rfl, w1⟩ := open_int Try.underlying3 (hval 1 3 v1 rfl rfl) h1
  clear hA0 hval0
  simp only [List.append_nil] at hW'
  refine (walk W a0 w0 a1 w1).mono fun e W' ⟨he, hb⟩ => ?_
  subst he
  exact ⟨_, rfl, _, _, _, [], [], [], hW', trodAll_cons_mk (shut_bool Try.underlying4 _) trodAll_mk0, (trodAll_cons_mk (shut_int Try.underlying3 w0) (trodAll_cons_mk (shut_int Try.underlying3 w1) trodAll_mk0)), rfl, hb.frame _, fun h => by cases h⟩

theorem over : Rows.fnExactPaceRow.holds Try.pinned (OpenSpec.ofChange Rows.fnExactPaceSpec) :=
  OpenClaim.holds_of_wide 5 Try.f5 rfl rfl rfl rfl rfl rfl rfl ⟨rfl, rfl, rfl, rfl, rfl⟩ rfl rfl rfl rfl rfl (by kernel_rfl) Try.func5 (by kernel_rfl)
    (of_decide_eq_true (by kernel_rfl)) (by unfold Func.isWrapper; first | (rw [if_pos (by decide +kernel)]; kernel_rfl) | (rw [if_neg (by decide +kernel)]; exact ⟨rfl, rfl⟩))
    (fun os started H enc _ => lifted os started H enc)

theorem proved : Rows.FnExactPaceSaid :=
  over
end Go.Proofs.Ytflngiakbhjnaaa.fnExactPace
