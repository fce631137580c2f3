/- At every configuration the program's LimCfgOk answers as the model's (the law FnExactLimCfgOk returns true); no condition. -/
import Derived.Test.YtocibihmkhfceaaRows
import Derived.WalkKit
import Derived.WalkSmall
import Derived.BigQuiet
import Derived.ProofKit
import Derived.OpenShut
import Derived.Deep.RegionWith
import Derived.Test.YtocibihmkhfceaaPairWalks
import Derived.Test.YtocibihmkhfceaaWinOk
import Derived.Test.YtocibihmkhfceaaImplOk
import Derived.Test.YtocibihmkhfceaaMarkKit
import Derived.Test.YtocibihmkhfceaaLimKit
import Derived.Test.YtocibihmkhfceaaLimSpec
import Derived.Test.YtocibihmkhfceaaLimImpl
import Derived.Test.YtocibihmkhfceaaOpenKit
import Derived.Test.YtocibihmkhfceaaOpenLimCfg
namespace Go.Proofs.Ytocibihmkhfceaa.fnExactLimCfgOk
open Go.ChangeShapes Go.WideShapes Go.ChangeAt Go.RowKit PairWalks LimKit LimSpec LimImpl
set_option linter.unusedVariables false
set_option linter.unusedSimpArgs false
set_option maxRecDepth 8000

set_option maxHeartbeats 1000000 in
theorem walk (W : World) (k mn mx sp sl : Int) :
    Calls Try.prog 3 #[.agg #[.int .i64 k, .int .i64 mn, .int .i64 mx, .int .i64 sp, .int .i64 sl]] W fun e w' => e = .returned (.bool true) ∧ Below W.heap.size W w' := by
  obtain ⟨B, HB⟩ := flag (cfgOk k mn mx sp sl)
  have hBB : (B != B) = false := by simp
  have b0 : Below W.heap.size W (W.alloc (.cells #[.int .i64 k, .int .i64 mn, .int .i64 mx, .int .i64 sp, .int .i64 sl] 23)) := (Below.refl _ _).alloc (Nat.le_refl _) _
  have e0 := heap_alloc_new W (.cells #[.int .i64 k, .int .i64 mn, .int .i64 mx, .int .i64 sp, .int .i64 sl] 23)
  go_enter Try.func3, Try.ntmps3
  go_wp2_with fail
  refine (to_cfg k mn mx sp sl _).mono ?_
  rintro e w1 ⟨rfl, b1⟩
  have B1 : Hid (Below W.heap.size W w1) := b0.trans (b1.mono b0.size)
  have E1 : Hid (w1.heap[W.heap.size]? = _) := (b1.block _ (by simp)).trans e0
  clear b0 e0 b1
  go_wp2_with fail
  refine (spec_cfgok k mn mx sp sl B _ HB).mono ?_
  rintro e w2 ⟨rfl, b2⟩
  have B2 : Hid (Below W.heap.size W w2) := B1.out.trans (b2.mono B1.out.size)
  have e2 := (b2.block _ (Array.getElem?_eq_some_iff.1 E1.out).1).trans E1.out
  have c0 := cell_blk e2 0
  have c1 := cell_blk e2 1
  have c2 := cell_blk e2 2
  have c3 := cell_blk e2 3
  have c4 := cell_blk e2 4
  clear e2 b2 E1
  go_wp2_with fail
  refine (to_cfg k mn mx sp sl _).mono ?_
  rintro e w3 ⟨rfl, b3⟩
  have B3 : Hid (Below W.heap.size W w3) := B2.out.trans (b3.mono B2.out.size)
  clear b3 c0 c1 c2 c3 c4
  go_wp2_with fail
  refine (impl_cfgok k mn mx sp sl B _ HB).mono ?_
  rintro e w4 ⟨rfl, b4⟩
  have B4 : Hid (Below W.heap.size W w4) := B3.out.trans (b4.mono B3.out.size)
  clear b4
  go_wp2
  go_ret
  exact ⟨rfl, B4.out⟩

theorem own : ownKnob Try.prog.godebug = none := by kernel_rfl
theorem laidOut : laidOutB Try.prog = true := by kernel_rfl

set_option maxRecDepth 100000 in
theorem lifted (os : Os) (started : os.Started) (H : Type) (enc : TypeId × Value → H) :
    ReturnsInHanded {} Try.checked os 3 .any (Rows.fnExactLimCfgOkSpec.pre6 enc Try.prog Try.f3 Rows.fnExactLimCfgOkRow.domain false) (Rows.fnExactLimCfgOkSpec.post enc Try.prog Try.f3 false true false false) := by
  refine returnsInHanded_of_change (C := Try.checked) own started (by kernel_rfl) Try.func3
    (ChangeSpec.witness6 (enc := enc) (C := Try.checked) false ⟨#[], #[.agg #[.int .i64 0, .int .i64 0, .int .i64 0, .int .i64 0, .int .i64 0]], []⟩ 8 (by kernel_rfl) (by kernel_rfl) (by kernel_rfl) (by kernel_rfl)) ?_
  intro W base args ds gs before hval0 hW hcnd _
  have hval : ∀ (j : Nat) t v, Try.f3.params[j]? = some t → args[j]? = some v → Value.okWide Try.prog W .any base t v := hval0
  have hW' := hW
  obtain ⟨p, q, hA0, hV, rfl, hfz, hnd⟩ := hW
  have hA : DataW.TrodAll enc Try.prog W 0 (fun _ => true) true Try.f3.params.toList args.toList ds p := hA0
  rw [Try.params3] at hA hval
  obtain ⟨v0, vs0, d0, ds0, p0, q0, hargs, rfl, rfl, h0, r0⟩ := trodAll_cons hA
  obtain ⟨rfl, rfl, rfl⟩ := trodAll_nil r0
  obtain rfl : args = #[v0] := by cases args; simp_all
  obtain ⟨rfl, rfl⟩ := trodVars_none hV
  have k0_ := h0
  have lt0 : ∀ x ∈ p0, x.block < W.heap.size := by obtain ⟨m, hm⟩ := k0_; exact DataW.trod_lt m _ _ _ hm
  obtain ⟨k0, mn0, mx0, sp0, sl0, rfl⟩ := OpenLimCfg.open_limCfg (hval 0 23 v0 rfl rfl) h0
  clear hA0 hval0
  refine (walk W k0 mn0 mx0 sp0 sl0).mono fun e W' ⟨he, hb⟩ => ?_
  subst he
  exact ⟨_, rfl, _, _, _, [], _, [], hW', trodAll_cons_mk (shut_bool Try.underlying4 _) trodAll_mk0, (trodAll_cons_mk (Below.trod laidOut (by kernel_rfl) (of_decide_eq_true (by kernel_rfl)) k0_ hb lt0) trodAll_mk0), rfl, hb.frame _, fun h => by cases h⟩

theorem over : Rows.fnExactLimCfgOkRow.holds Try.pinned (OpenSpec.ofChange Rows.fnExactLimCfgOkSpec) :=
  OpenClaim.holds_of_wide 3 Try.f3 rfl rfl rfl rfl rfl rfl rfl ⟨rfl, rfl, rfl, rfl, rfl⟩ rfl rfl rfl rfl rfl (by kernel_rfl) Try.func3 (by kernel_rfl)
    (of_decide_eq_true (by kernel_rfl)) (by unfold Func.isWrapper; first | (rw [if_pos (by decide +kernel)]; kernel_rfl) | (rw [if_neg (by decide +kernel)]; exact ⟨rfl, rfl⟩))
    (fun os started H enc _ => lifted os started H enc)

theorem proved : Rows.FnExactLimCfgOkSaid :=
  over
end Go.Proofs.Ytocibihmkhfceaa.fnExactLimCfgOk
