/- At every room the program's QueueNew answers as the model's, and its answer owns its memory (the law FnExactQueueNew returns true); no condition. -/
import Derived.Test.YtiodnkehfeigoaaRows
import Derived.WalkKit
import Derived.WalkSmall
import Derived.BigQuiet
import Derived.ProofKit
import Derived.OpenShut
import Derived.Deep.RegionWith
import Derived.Deep.DeepCutAuto
import Derived.Test.YtiodnkehfeigoaaListKit
import Derived.Test.YtiodnkehfeigoaaHoldKit
import Derived.Test.YtiodnkehfeigoaaRegFlow
import Derived.Test.YtiodnkehfeigoaaFlowHold
import Derived.Test.YtiodnkehfeigoaaReqKit
import Derived.Test.YtiodnkehfeigoaaReqRows
import Derived.Test.YtiodnkehfeigoaaLawQueue
import Derived.Test.YtiodnkehfeigoaaOpenKit
import Derived.Test.YtiodnkehfeigoaaQueBothNew
namespace Go.Proofs.Ytiodnkehfeigoaa.fnExactQueueNew
open Go.ChangeShapes Go.WideShapes Go.ChangeAt Go.RowKit ListKit HoldKit QueBothNew
set_option linter.unusedVariables false
set_option linter.unusedSimpArgs false
set_option maxRecDepth 8000

set_option maxHeartbeats 8000000 in
theorem walk (W : World) (i0 : Int) (wi0 : (Lit.int .i64 i0).wf = true) :
    Calls Try.prog 4 #[.int .i64 i0] W fun e w' => e = .returned (.bool true) ∧ Below W.heap.size W w' := by
  obtain ⟨qa0, qaL1, qb, HSP, HIM, hpl⟩ := both_queuenew i0
  have HL_qaL1 : Hid (qaL1.length ≤ 1048577) := hpl
  have t_qa0 : (qa0 != qa0) = false := by simp
  have t_qb : (qb != qb) = false := by simp
  have kx1 : ¬ (1 + 6 * (qaL1.length : Int)) < 0 := by omega
  have ky1 : ((1 + 6 * (qaL1.length : Int)) != (1 + 6 * (qaL1.length : Int))) = false := by simp
  have H0 : Hid (Bel W W) := Bel.start W
  clear wi0
  go_enter Try.func4, Try.ntmps4
  go_wp2_with fail
  refine (HSP  _ ).mono ?_
  rintro e w1 ⟨aw0_1, cw0_1, rfl, hc_cw0_1, hhw1, b1⟩
  have LW_w : Hid (W.heap.size ≤ W.heap.size) := (H0.out).size
  have O0_ : Hid (Off (w1.heap.size) [⟨aw0_1, 39, 6, (qaL1).map ReqKit.cells⟩]) := Off.above (hhw1) (by omega)
  have H1 : Hid (Bel W (w1.alloc (.cells #[.int .i64 qa0, .slice aw0_1 qaL1.length cw0_1] 29)) ∧ Holds (w1.alloc (.cells #[.int .i64 qa0, .slice aw0_1 qaL1.length cw0_1] 29)) (W.heap.size) [⟨aw0_1, 39, 6, (qaL1).map ReqKit.cells⟩] ∧ boxB (w1.alloc (.cells #[.int .i64 qa0, .slice aw0_1 qaL1.length cw0_1] 29)) (w1.heap.size) #[.int .i64 qa0, .slice aw0_1 qaL1.length cw0_1] 29) := ⟨(H0.out).below (b1.trans ((n1 w1 _).mono b1.size)), (hhw1).below (n1 w1 _), boxB.new _ _ _⟩
  clear b1 H0 hhw1
  go_wp2_with fail
  refine (HIM  _ ).mono ?_
  rintro e w2 ⟨ag0_1, cg0_1, rfl, hc_cg0_1, hhw2, b2⟩
  have LW_g : Hid (W.heap.size ≤ (w1.alloc (.cells #[.int .i64 qa0, .slice aw0_1 qaL1.length cw0_1] 29)).heap.size) := (H1.out.1).size
  have Q0_ : Hid (Apart [⟨aw0_1, 39, 6, (qaL1).map ReqKit.cells⟩] [⟨ag0_1, 39, 6, (qaL1).map ReqKit.cells⟩]) := Apart.under (H1.out.2.1) (hhw2) (Nat.le_refl _)
  have O1_ : Hid (Off (w1.heap.size) [⟨ag0_1, 39, 6, (qaL1).map ReqKit.cells⟩]) := Off.under (hhw2) (by have h9 := (H1.out.2.2).lt; omega)
  have O2_ : Hid (Off (w2.heap.size) [⟨aw0_1, 39, 6, (qaL1).map ReqKit.cells⟩]) := Off.above (H1.out.2.1) (by have h9 := b2.size; omega)
  have O3_ : Hid (Off (w2.heap.size) [⟨ag0_1, 39, 6, (qaL1).map ReqKit.cells⟩]) := Off.above (hhw2) (by omega)
  have H2 : Hid (Bel W (w2.alloc (.cells #[.int .i64 qa0, .slice ag0_1 qaL1.length cg0_1] 29)) ∧ Holds (w2.alloc (.cells #[.int .i64 qa0, .slice ag0_1 qaL1.length cg0_1] 29)) (W.heap.size) [⟨aw0_1, 39, 6, (qaL1).map ReqKit.cells⟩] ∧ boxB (w2.alloc (.cells #[.int .i64 qa0, .slice ag0_1 qaL1.length cg0_1] 29)) (w1.heap.size) #[.int .i64 qa0, .slice aw0_1 qaL1.length cw0_1] 29 ∧ Holds (w2.alloc (.cells #[.int .i64 qa0, .slice ag0_1 qaL1.length cg0_1] 29)) ((w1.alloc (.cells #[.int .i64 qa0, .slice aw0_1 qaL1.length cw0_1] 29)).heap.size) [⟨ag0_1, 39, 6, (qaL1).map ReqKit.cells⟩] ∧ boxB (w2.alloc (.cells #[.int .i64 qa0, .slice ag0_1 qaL1.length cg0_1] 29)) (w2.heap.size) #[.int .i64 qa0, .slice ag0_1 qaL1.length cg0_1] 29) := ⟨(H1.out.1).below (b2.trans ((n1 w2 _).mono b2.size)), (H1.out.2.1).below (b2.trans ((n1 w2 _).mono b2.size)), (H1.out.2.2).below (b2.trans ((n1 w2 _).mono b2.size)), (hhw2).below (n1 w2 _), boxB.new _ _ _⟩
  clear b2 H1 hhw2
  have d0 := (H2.out.2.2.2.2).cell 0
  have d1 := (H2.out.2.2.2.2).cell 1
  have e0 := (H2.out.2.2.1).cell 0
  have e1 := (H2.out.2.2.1).cell 1
  go_wp2_with fail
  refine (LawQueue.eq_queue qa0 ag0_1 cg0_1 qaL1 aw0_1 cw0_1 _ (H2.out.2.2.2.1.get (by simp)) (H2.out.2.1.get (by simp)) HL_qaL1.out).mono ?_
  rintro e w3 ⟨rfl, b3⟩
  have H3 : Hid (Bel W w3 ∧ Holds w3 (W.heap.size) [⟨aw0_1, 39, 6, (qaL1).map ReqKit.cells⟩] ∧ boxB w3 (w1.heap.size) #[.int .i64 qa0, .slice aw0_1 qaL1.length cw0_1] 29 ∧ Holds w3 ((w1.alloc (.cells #[.int .i64 qa0, .slice aw0_1 qaL1.length cw0_1] 29)).heap.size) [⟨ag0_1, 39, 6, (qaL1).map ReqKit.cells⟩] ∧ boxB w3 (w2.heap.size) #[.int .i64 qa0, .slice ag0_1 qaL1.length cg0_1] 29) := ⟨(H2.out.1).below b3, (H2.out.2.1).below b3, (H2.out.2.2.1).below b3, (H2.out.2.2.2.1).below b3, (H2.out.2.2.2.2).below b3⟩
  clear d0 d1 e0 e1 b3 H2
  have z0 := (H3.out.2.2.2.2).cell 0
  have z1 := (H3.out.2.2.2.2).cell 1
  go_wp2_with fail
  refine (LawQueue.mark_queue qa0 ag0_1 cg0_1 qaL1 (1) _ _ _ (H3.out.2.2.2.1) HL_qaL1.out (by have := HL_qaL1.out; omega) (by first | rfl | omega)).mono ?_
  rintro e w4 ⟨rfl, hmw4, htw4⟩
  have H4 : Hid (Bel W w4 ∧ Holds w4 (W.heap.size) [⟨aw0_1, 39, 6, (qaL1).map ReqKit.cells⟩] ∧ boxB w4 (w1.heap.size) #[.int .i64 qa0, .slice aw0_1 qaL1.length cw0_1] 29 ∧ boxB w4 (w2.heap.size) #[.int .i64 qa0, .slice ag0_1 qaL1.length cg0_1] 29 ∧ Holds w4 ((w1.alloc (.cells #[.int .i64 qa0, .slice aw0_1 qaL1.length cw0_1] 29)).heap.size) [⟨ag0_1, 39, 6, ((ReqRows.marks (1) qaL1.length)).map ReqKit.cells⟩]) := ⟨Bel.turn (H3.out.1) htw4 (fun x hx => Off.under (H3.out.2.2.2.1) (by have h9 := LW_g.out; omega)), (H3.out.2.1).turn htw4 Q0_.out.symm, (H3.out.2.2.1).turn htw4 O1_.out, (H3.out.2.2.2.2).turn htw4 O3_.out, hmw4⟩
  clear z0 z1 hmw4 htw4 H3
  have z0 := (H4.out.2.2.2.1).cell 0
  have z1 := (H4.out.2.2.2.1).cell 1
  go_wp2_with fail
  refine (LawQueue.held_queue qa0 ag0_1 cg0_1 qaL1 (1) _ _ _ (H4.out.2.2.2.2) HL_qaL1.out (by have := HL_qaL1.out; omega) (by first | rfl | omega)).mono ?_
  rintro e w5 ⟨rfl, b5⟩
  have H5 : Hid (Bel W w5 ∧ Holds w5 (W.heap.size) [⟨aw0_1, 39, 6, (qaL1).map ReqKit.cells⟩] ∧ boxB w5 (w1.heap.size) #[.int .i64 qa0, .slice aw0_1 qaL1.length cw0_1] 29 ∧ boxB w5 (w2.heap.size) #[.int .i64 qa0, .slice ag0_1 qaL1.length cg0_1] 29 ∧ Holds w5 ((w1.alloc (.cells #[.int .i64 qa0, .slice aw0_1 qaL1.length cw0_1] 29)).heap.size) [⟨ag0_1, 39, 6, ((ReqRows.marks (1) qaL1.length)).map ReqKit.cells⟩]) := ⟨(H4.out.1).below b5, (H4.out.2.1).below b5, (H4.out.2.2.1).below b5, (H4.out.2.2.2.1).below b5, (H4.out.2.2.2.2).below b5⟩
  clear z0 z1 b5 H4
  go_wp2_with fail
  refine (HIM  _ ).mono ?_
  rintro e w6 ⟨ah0_1, ch0_1, rfl, hc_ch0_1, hhw6, b6⟩
  have LW_h : Hid (W.heap.size ≤ w5.heap.size) := (H5.out.1).size
  have Q1_ : Hid (Apart [⟨aw0_1, 39, 6, (qaL1).map ReqKit.cells⟩] [⟨ah0_1, 39, 6, (qaL1).map ReqKit.cells⟩]) := Apart.under (H5.out.2.1) (hhw6) (Nat.le_refl _)
  have O4_ : Hid (Off (w1.heap.size) [⟨ah0_1, 39, 6, (qaL1).map ReqKit.cells⟩]) := Off.under (hhw6) (by have h9 := (H5.out.2.2.1).lt; omega)
  have O5_ : Hid (Off (w2.heap.size) [⟨ah0_1, 39, 6, (qaL1).map ReqKit.cells⟩]) := Off.under (hhw6) (by have h9 := (H5.out.2.2.2.1).lt; omega)
  have Q2_ : Hid (Apart [⟨ag0_1, 39, 6, ((ReqRows.marks (1) qaL1.length)).map ReqKit.cells⟩] [⟨ah0_1, 39, 6, (qaL1).map ReqKit.cells⟩]) := Apart.under (H5.out.2.2.2.2) (hhw6) (Nat.le_refl _)
  have O6_ : Hid (Off (w6.heap.size) [⟨aw0_1, 39, 6, (qaL1).map ReqKit.cells⟩]) := Off.above (H5.out.2.1) (by have h9 := b6.size; omega)
  have O7_ : Hid (Off (w6.heap.size) [⟨ag0_1, 39, 6, ((ReqRows.marks (1) qaL1.length)).map ReqKit.cells⟩]) := Off.above (H5.out.2.2.2.2) (by have h9 := b6.size; omega)
  have O8_ : Hid (Off (w6.heap.size) [⟨ah0_1, 39, 6, (qaL1).map ReqKit.cells⟩]) := Off.above (hhw6) (by omega)
  have H6 : Hid (Bel W (w6.alloc (.cells #[.int .i64 qa0, .slice ah0_1 qaL1.length ch0_1] 29)) ∧ Holds (w6.alloc (.cells #[.int .i64 qa0, .slice ah0_1 qaL1.length ch0_1] 29)) (W.heap.size) [⟨aw0_1, 39, 6, (qaL1).map ReqKit.cells⟩] ∧ boxB (w6.alloc (.cells #[.int .i64 qa0, .slice ah0_1 qaL1.length ch0_1] 29)) (w1.heap.size) #[.int .i64 qa0, .slice aw0_1 qaL1.length cw0_1] 29 ∧ boxB (w6.alloc (.cells #[.int .i64 qa0, .slice ah0_1 qaL1.length ch0_1] 29)) (w2.heap.size) #[.int .i64 qa0, .slice ag0_1 qaL1.length cg0_1] 29 ∧ Holds (w6.alloc (.cells #[.int .i64 qa0, .slice ah0_1 qaL1.length ch0_1] 29)) ((w1.alloc (.cells #[.int .i64 qa0, .slice aw0_1 qaL1.length cw0_1] 29)).heap.size) [⟨ag0_1, 39, 6, ((ReqRows.marks (1) qaL1.length)).map ReqKit.cells⟩] ∧ Holds (w6.alloc (.cells #[.int .i64 qa0, .slice ah0_1 qaL1.length ch0_1] 29)) (w5.heap.size) [⟨ah0_1, 39, 6, (qaL1).map ReqKit.cells⟩] ∧ boxB (w6.alloc (.cells #[.int .i64 qa0, .slice ah0_1 qaL1.length ch0_1] 29)) (w6.heap.size) #[.int .i64 qa0, .slice ah0_1 qaL1.length ch0_1] 29) := ⟨(H5.out.1).below (b6.trans ((n1 w6 _).mono b6.size)), (H5.out.2.1).below (b6.trans ((n1 w6 _).mono b6.size)), (H5.out.2.2.1).below (b6.trans ((n1 w6 _).mono b6.size)), (H5.out.2.2.2.1).below (b6.trans ((n1 w6 _).mono b6.size)), (H5.out.2.2.2.2).below (b6.trans ((n1 w6 _).mono b6.size)), (hhw6).below (n1 w6 _), boxB.new _ _ _⟩
  clear b6 H5 hhw6
  have d0 := (H6.out.2.2.2.2.2.2).cell 0
  have d1 := (H6.out.2.2.2.2.2.2).cell 1
  have e0 := (H6.out.2.2.1).cell 0
  have e1 := (H6.out.2.2.1).cell 1
  go_wp2_with fail
  refine (LawQueue.eq_queue qa0 ah0_1 ch0_1 qaL1 aw0_1 cw0_1 _ (H6.out.2.2.2.2.2.1.get (by simp)) (H6.out.2.1.get (by simp)) HL_qaL1.out).mono ?_
  rintro e w7 ⟨rfl, b7⟩
  have H7 : Hid (Bel W w7 ∧ Holds w7 (W.heap.size) [⟨aw0_1, 39, 6, (qaL1).map ReqKit.cells⟩] ∧ boxB w7 (w1.heap.size) #[.int .i64 qa0, .slice aw0_1 qaL1.length cw0_1] 29 ∧ boxB w7 (w2.heap.size) #[.int .i64 qa0, .slice ag0_1 qaL1.length cg0_1] 29 ∧ Holds w7 ((w1.alloc (.cells #[.int .i64 qa0, .slice aw0_1 qaL1.length cw0_1] 29)).heap.size) [⟨ag0_1, 39, 6, ((ReqRows.marks (1) qaL1.length)).map ReqKit.cells⟩] ∧ Holds w7 (w5.heap.size) [⟨ah0_1, 39, 6, (qaL1).map ReqKit.cells⟩] ∧ boxB w7 (w6.heap.size) #[.int .i64 qa0, .slice ah0_1 qaL1.length ch0_1] 29) := ⟨(H6.out.1).below b7, (H6.out.2.1).below b7, (H6.out.2.2.1).below b7, (H6.out.2.2.2.1).below b7, (H6.out.2.2.2.2.1).below b7, (H6.out.2.2.2.2.2.1).below b7, (H6.out.2.2.2.2.2.2).below b7⟩
  clear d0 d1 e0 e1 b7 H6
  have z0 := (H7.out.2.2.2.1).cell 0
  have z1 := (H7.out.2.2.2.1).cell 1
  go_wp2_with fail
  refine (LawQueue.held_queue qa0 ag0_1 cg0_1 qaL1 (1) _ _ _ (H7.out.2.2.2.2.1) HL_qaL1.out (by have := HL_qaL1.out; omega) (by first | rfl | omega)).mono ?_
  rintro e w8 ⟨rfl, b8⟩
  have H8 : Hid (Bel W w8 ∧ Holds w8 (W.heap.size) [⟨aw0_1, 39, 6, (qaL1).map ReqKit.cells⟩] ∧ boxB w8 (w1.heap.size) #[.int .i64 qa0, .slice aw0_1 qaL1.length cw0_1] 29 ∧ boxB w8 (w2.heap.size) #[.int .i64 qa0, .slice ag0_1 qaL1.length cg0_1] 29 ∧ Holds w8 ((w1.alloc (.cells #[.int .i64 qa0, .slice aw0_1 qaL1.length cw0_1] 29)).heap.size) [⟨ag0_1, 39, 6, ((ReqRows.marks (1) qaL1.length)).map ReqKit.cells⟩] ∧ Holds w8 (w5.heap.size) [⟨ah0_1, 39, 6, (qaL1).map ReqKit.cells⟩] ∧ boxB w8 (w6.heap.size) #[.int .i64 qa0, .slice ah0_1 qaL1.length ch0_1] 29) := ⟨(H7.out.1).below b8, (H7.out.2.1).below b8, (H7.out.2.2.1).below b8, (H7.out.2.2.2.1).below b8, (H7.out.2.2.2.2.1).below b8, (H7.out.2.2.2.2.2.1).below b8, (H7.out.2.2.2.2.2.2).below b8⟩
  clear z0 z1 b8 H7
  go_wp2
  go_ret
  exact ⟨rfl, (H8.out.1).out⟩

theorem own : ownKnob Try.prog.godebug = none := by kernel_rfl
theorem laidOut : laidOutB Try.prog = true := by kernel_rfl

set_option maxRecDepth 100000 in
theorem lifted (os : Os) (started : os.Started) (H : Type) (enc : TypeId × Value → H) :
    ReturnsInHanded {} Try.checked os 4 .any (Rows.fnExactQueueNewSpec.pre6 enc Try.prog Try.f4 Rows.fnExactQueueNewRow.domain false) (Rows.fnExactQueueNewSpec.post enc Try.prog Try.f4 false true false false) := by
  refine returnsInHanded_of_change (C := Try.checked) own started (by kernel_rfl) Try.func4
    (ChangeSpec.witness6 (enc := enc) (C := Try.checked) false ⟨#[], #[.int .i64 0], []⟩ 8 (by kernel_rfl) (by kernel_rfl) (by kernel_rfl) (by kernel_rfl)) ?_
  intro W base args ds gs before hval0 hW hcnd _
  have hval : ∀ (j : Nat) t v, Try.f4.params[j]? = some t → args[j]? = some v → Value.okWide Try.prog W .any base t v := hval0
  have hW' := hW
  obtain ⟨p, q, hA0, hV, rfl, hfz, hnd⟩ := hW
  have hA : DataW.TrodAll enc Try.prog W 0 (fun _ => true) true Try.f4.params.toList args.toList ds p := hA0
  rw [Try.params4] at hA hval
  obtain ⟨v0, vs0, d0, ds0, p0, q0, hargs, rfl, rfl, h0, r0⟩ := trodAll_cons hA
  obtain ⟨rfl, rfl, rfl⟩ := trodAll_nil r0
  obtain rfl : args = #[v0] := by cases args; simp_all
  obtain ⟨rfl, rfl⟩ := trodVars_none hV
  obtain ⟨a0, rfl, rfl, rfl, w0⟩ := open_int Try.underlying3 (hval 0 3 v0 rfl rfl) h0
  clear hA0 hval0
  simp only [List.append_nil] at hW'
  refine (walk W a0 w0).mono fun e W' ⟨he, hb⟩ => ?_
  subst he
  exact ⟨_, rfl, _, _, _, [], [], [], hW', trodAll_cons_mk (shut_bool Try.underlying4 _) trodAll_mk0, (trodAll_cons_mk (shut_int Try.underlying3 w0) trodAll_mk0), rfl, hb.frame _, fun h => by cases h⟩

theorem over : Rows.fnExactQueueNewRow.holds Try.pinned (OpenSpec.ofChange Rows.fnExactQueueNewSpec) :=
  OpenClaim.holds_of_wide 4 Try.f4 rfl rfl rfl rfl rfl rfl rfl ⟨rfl, rfl, rfl, rfl, rfl⟩ rfl rfl rfl rfl rfl (by kernel_rfl) Try.func4 (by kernel_rfl)
    (of_decide_eq_true (by kernel_rfl)) (by unfold Func.isWrapper; first | (rw [if_pos (by decide +kernel)]; kernel_rfl) | (rw [if_neg (by decide +kernel)]; exact ⟨rfl, rfl⟩))
    (fun os started H enc _ => lifted os started H enc)

theorem proved : Rows.FnExactQueueNewSaid :=
  over
end Go.Proofs.Ytiodnkehfeigoaa.fnExactQueueNew
