/- At every queue the program's QueueOk answers as the model's, and it writes into no argument (the law FnExactQueueOk returns true); no condition. -/
import Derived.Test.YtiodnkehfeigoaaRows
import Derived.WalkKit
import Derived.WalkSmall
import Derived.BigQuiet
import Derived.ProofKit
import Derived.OpenShut
import Derived.Deep.RegionWith
import Derived.Deep.DeepCutAuto
import Derived.Test.YtiodnkehfeigoaaListKit
import Derived.Test.YtiodnkehfeigoaaHoldKit
import Derived.Test.YtiodnkehfeigoaaRegFlow
import Derived.Test.YtiodnkehfeigoaaFlowHold
import Derived.Test.YtiodnkehfeigoaaReqKit
import Derived.Test.YtiodnkehfeigoaaReqRows
import Derived.Test.YtiodnkehfeigoaaLawQueue
import Derived.Test.YtiodnkehfeigoaaOpenKit
import Derived.Test.YtiodnkehfeigoaaOpenQueue
import Derived.Test.YtiodnkehfeigoaaQueBothOk
namespace Go.Proofs.Ytiodnkehfeigoaa.fnExactQueueOk
open Go.ChangeShapes Go.WideShapes Go.ChangeAt Go.RowKit ListKit HoldKit QueBothOk
set_option linter.unusedVariables false
set_option linter.unusedSimpArgs false
set_option maxRecDepth 8000

set_option maxHeartbeats 8000000 in
theorem walk (W : World) (pa0 : Int) (paA1 : Option Addr) (paC1 : Nat) (paL1 : List ReqKit.Req) (h_pa1 : ReqRows.Arg W paA1 paL1) (m_pa1 : paL1.length ≤ maxLen) :
    Calls Try.prog 3 #[.agg #[.int .i64 pa0, .slice paA1 paL1.length paC1]] W fun e w' => e = .returned (.bool true) ∧ Below W.heap.size W w' := by
  have hm_pa1 : (paL1.length : Int) ≤ 9223372036854775807 := by unfold maxLen at m_pa1; omega
  by_cases hl0 : (paL1.length : Int) ≤ 1048576
  · skip
    have hk0 : ¬ (1048576 - ((paL1.length : Int))) < 0 := by omega
    obtain ⟨qa, HSP, HIM⟩ := both_queueok pa0 paL1 (by omega)
    have HA_pa1 : Hid (ReqRows.Arg W paA1 paL1) := h_pa1
    have HL_paL1 : Hid (paL1.length ≤ 1048577) := by show _ ≤ _; omega
    have t_qa : (qa != qa) = false := by simp
    have kx1 : ¬ (1 + 6 * (paL1.length : Int)) < 0 := by omega
    have ky1 : ((1 + 6 * (paL1.length : Int)) != (1 + 6 * (paL1.length : Int))) = false := by simp
    have H0 : Hid (Bel W (W.alloc (.cells #[.int .i64 pa0, .slice paA1 paL1.length paC1] 24)) ∧ boxB (W.alloc (.cells #[.int .i64 pa0, .slice paA1 paL1.length paC1] 24)) (W.heap.size) #[.int .i64 pa0, .slice paA1 paL1.length paC1] 24) := ⟨n1 W _, boxB.new _ _ _⟩
    clear h_pa1 m_pa1
    go_enter Try.func3, Try.ntmps3
    have c0 := (H0.out.2).cell 0
    have c1 := (H0.out.2).cell 1
    go_wp2_with fail
    refine (LawQueue.sz_queue pa0 paA1 paC1 paL1.length (1048576) _ hm_pa1 (by omega) (by omega)).mono ?_
    rintro e w1 ⟨rfl, b1⟩
    rw [if_pos (by omega)]
    have H1 : Hid (Bel W w1 ∧ boxB w1 (W.heap.size) #[.int .i64 pa0, .slice paA1 paL1.length paC1] 24) := ⟨(H0.out.1).below b1, (H0.out.2).below b1⟩
    clear c0 c1 b1 H0
    have c0 := (H1.out.2).cell 0
    have c1 := (H1.out.2).cell 1
    go_wp2_with fail
    refine (LawQueue.to_queue pa0 paA1 paC1 paL1 _ (HA_pa1.out.below (H1.out.1)) HL_paL1.out).mono ?_
    rintro e w2 ⟨gw2_1, rfl, hhw2, b2⟩
    have LW_tpa : Hid (W.heap.size ≤ w1.heap.size) := (H1.out.1).size
    have O0_ : Hid (Off (W.heap.size) [⟨(some ⟨gw2_1, 0, none⟩), 39, 6, (paL1).map ReqKit.cells⟩]) := Off.under (hhw2) (by have h9 := (H1.out.2).lt; omega)
    have H2 : Hid (Bel W w2 ∧ boxB w2 (W.heap.size) #[.int .i64 pa0, .slice paA1 paL1.length paC1] 24 ∧ Holds w2 (w1.heap.size) [⟨(some ⟨gw2_1, 0, none⟩), 39, 6, (paL1).map ReqKit.cells⟩]) := ⟨(H1.out.1).below b2, (H1.out.2).below b2, hhw2⟩
    clear c0 c1 b2 H1 hhw2
    go_wp2_with fail
    refine (HSP (some ⟨gw2_1, 0, none⟩) paL1.length _ (H2.out.2.2.get (by simp)) (Nat.le_refl _)).mono ?_
    rintro e w3 ⟨rfl, b3⟩
    have H3 : Hid (Bel W w3 ∧ boxB w3 (W.heap.size) #[.int .i64 pa0, .slice paA1 paL1.length paC1] 24) := ⟨(H2.out.1).below b3, (H2.out.2.1).below b3⟩
    clear b3 H2
    have c0 := (H3.out.2).cell 0
    have c1 := (H3.out.2).cell 1
    go_wp2_with fail
    refine (LawQueue.to_queue pa0 paA1 paC1 paL1 _ (HA_pa1.out.below (H3.out.1)) HL_paL1.out).mono ?_
    rintro e w4 ⟨gw4_1, rfl, hhw4, b4⟩
    have LW_x0 : Hid (W.heap.size ≤ w3.heap.size) := (H3.out.1).size
    have O1_ : Hid (Off (W.heap.size) [⟨(some ⟨gw4_1, 0, none⟩), 39, 6, (paL1).map ReqKit.cells⟩]) := Off.under (hhw4) (by have h9 := (H3.out.2).lt; omega)
    have O2_ : Hid (Off (w4.heap.size) [⟨(some ⟨gw4_1, 0, none⟩), 39, 6, (paL1).map ReqKit.cells⟩]) := Off.above (hhw4) (by omega)
    have H4 : Hid (Bel W (w4.alloc (.cells #[.int .i64 pa0, .slice (some ⟨gw4_1, 0, none⟩) paL1.length paL1.length] 29)) ∧ boxB (w4.alloc (.cells #[.int .i64 pa0, .slice (some ⟨gw4_1, 0, none⟩) paL1.length paL1.length] 29)) (W.heap.size) #[.int .i64 pa0, .slice paA1 paL1.length paC1] 24 ∧ Holds (w4.alloc (.cells #[.int .i64 pa0, .slice (some ⟨gw4_1, 0, none⟩) paL1.length paL1.length] 29)) (w3.heap.size) [⟨(some ⟨gw4_1, 0, none⟩), 39, 6, (paL1).map ReqKit.cells⟩] ∧ boxB (w4.alloc (.cells #[.int .i64 pa0, .slice (some ⟨gw4_1, 0, none⟩) paL1.length paL1.length] 29)) (w4.heap.size) #[.int .i64 pa0, .slice (some ⟨gw4_1, 0, none⟩) paL1.length paL1.length] 29) := ⟨(H3.out.1).below (b4.trans ((n1 w4 _).mono b4.size)), (H3.out.2).below (b4.trans ((n1 w4 _).mono b4.size)), (hhw4).below (n1 w4 _), boxB.new _ _ _⟩
    clear c0 c1 b4 H3 hhw4
    have c0 := (H4.out.2.2.2).cell 0
    have c1 := (H4.out.2.2.2).cell 1
    go_wp2_with fail
    refine (HIM (some ⟨gw4_1, 0, none⟩) paL1.length _ (H4.out.2.2.1.get (by simp)) (Nat.le_refl _)).mono ?_
    rintro e w5 ⟨rfl, b5⟩
    have H5 : Hid (Bel W w5.drew ∧ boxB w5.drew (W.heap.size) #[.int .i64 pa0, .slice paA1 paL1.length paC1] 24 ∧ Holds w5.drew (w3.heap.size) [⟨(some ⟨gw4_1, 0, none⟩), 39, 6, (paL1).map ReqKit.cells⟩] ∧ boxB w5.drew (w4.heap.size) #[.int .i64 pa0, .slice (some ⟨gw4_1, 0, none⟩) paL1.length paL1.length] 29) := ⟨(H4.out.1).below b5.drew, (H4.out.2.1).below b5.drew, (H4.out.2.2.1).below b5.drew, (H4.out.2.2.2).below b5.drew⟩
    clear c0 c1 b5 H4
    have c0 := (H5.out.2.1).cell 0
    have c1 := (H5.out.2.1).cell 1
    have x0 := (H5.out.2.2.2).cell 0
    have x1 := (H5.out.2.2.2).cell 1
    go_wp2
    go_region_with (first | (go_at_call 13; refine (LawQueue.to_queue pa0 paA1 paC1 paL1 _ (HA_pa1.out.below (H5.out.1)) HL_paL1.out).mono ?_; rintro e w6 ⟨gw6_1, rfl, hhw6, b6⟩; have H6 : Hid (Bel W w6 ∧ boxB w6 (W.heap.size) #[.int .i64 pa0, .slice paA1 paL1.length paC1] 24 ∧ Holds w6 (w3.heap.size) [⟨(some ⟨gw4_1, 0, none⟩), 39, 6, (paL1).map ReqKit.cells⟩] ∧ boxB w6 (w4.heap.size) #[.int .i64 pa0, .slice (some ⟨gw4_1, 0, none⟩) paL1.length paL1.length] 29 ∧ Holds w6 (w5.drew.heap.size) [⟨(some ⟨gw6_1, 0, none⟩), 39, 6, (paL1).map ReqKit.cells⟩]) := ⟨(H5.out.1).below b6, (H5.out.2.1).below b6, (H5.out.2.2.1).below b6, (H5.out.2.2.2).below b6, hhw6⟩; have y0 := (H6.out.2.2.2.1).cell 0; have y1 := (H6.out.2.2.2.1).cell 1; clear b6 hhw6) | (go_at_call 15; refine (LawQueue.eq_queue pa0 (some ⟨gw4_1, 0, none⟩) paL1.length paL1 (some ⟨gw6_1, 0, none⟩) paL1.length _ (H6.out.2.2.1.get (by simp)) (H6.out.2.2.2.2.get (by simp)) HL_paL1.out).mono ?_; rintro e w7 ⟨rfl, b7⟩; have H7 : Hid (Bel W w7 ∧ boxB w7 (W.heap.size) #[.int .i64 pa0, .slice paA1 paL1.length paC1] 24 ∧ Holds w7 (w3.heap.size) [⟨(some ⟨gw4_1, 0, none⟩), 39, 6, (paL1).map ReqKit.cells⟩] ∧ boxB w7 (w4.heap.size) #[.int .i64 pa0, .slice (some ⟨gw4_1, 0, none⟩) paL1.length paL1.length] 29) := ⟨(H6.out.1).below b7, (H6.out.2.1).below b7, (H6.out.2.2.1).below b7, (H6.out.2.2.2.1).below b7⟩; clear b7))
    all_goals
      clear c0 c1 x0 x1 y0 y1 H5 H6
      go_wp2
      go_ret
      exact ⟨rfl, (H7.out.1).out⟩
  · skip
    have b0 : Below W.heap.size W (W.alloc (.cells #[.int .i64 pa0, .slice paA1 paL1.length paC1] 24)) := n1 W _
    go_enter Try.func3, Try.ntmps3
    go_wp2_with fail
    refine (LawQueue.sz_queue pa0 paA1 paC1 paL1.length (1048576) _ hm_pa1 (by omega) (by omega)).mono ?_
    rintro e z1 ⟨rfl, y1⟩
    rw [if_neg (by omega)]
    have B1 : Hid (Below W.heap.size W z1) := b0.trans (y1.mono b0.size)
    clear y1
    go_wp2
    go_ret
    exact ⟨rfl, B1.out⟩

theorem own : ownKnob Try.prog.godebug = none := by kernel_rfl
theorem laidOut : laidOutB Try.prog = true := by kernel_rfl

set_option maxRecDepth 100000 in
theorem lifted (os : Os) (started : os.Started) (H : Type) (enc : TypeId × Value → H) :
    ReturnsInHanded {} Try.checked os 3 .any (Rows.fnExactQueueOkSpec.pre6 enc Try.prog Try.f3 Rows.fnExactQueueOkRow.domain false) (Rows.fnExactQueueOkSpec.post enc Try.prog Try.f3 false true false false) := by
  refine returnsInHanded_of_change (C := Try.checked) own started (by kernel_rfl) Try.func3
    (ChangeSpec.witness6 (enc := enc) (C := Try.checked) false ⟨#[], #[.agg #[.int .i64 0, .slice none 0 0]], []⟩ 8 (by kernel_rfl) (by kernel_rfl) (by kernel_rfl) (by kernel_rfl)) ?_
  intro W base args ds gs before hval0 hW hcnd _
  have hval : ∀ (j : Nat) t v, Try.f3.params[j]? = some t → args[j]? = some v → Value.okWide Try.prog W .any base t v := hval0
  have hW' := hW
  obtain ⟨p, q, hA0, hV, rfl, hfz, hnd⟩ := hW
  have hA : DataW.TrodAll enc Try.prog W 0 (fun _ => true) true Try.f3.params.toList args.toList ds p := hA0
  rw [Try.params3] at hA hval
  obtain ⟨v0, vs0, d0, ds0, p0, q0, hargs, rfl, rfl, h0, r0⟩ := trodAll_cons hA
  obtain ⟨rfl, rfl, rfl⟩ := trodAll_nil r0
  obtain rfl : args = #[v0] := by cases args; simp_all
  obtain ⟨rfl, rfl⟩ := trodVars_none hV
  have k0_ := h0
  have lt0 : ∀ x ∈ p0, x.block < W.heap.size := by obtain ⟨m, hm⟩ := k0_; exact DataW.trod_lt m _ _ _ hm
  obtain ⟨x0_0, aL0_1, cL0_1, L0_1, rfl, hL0_1, mL0_1⟩ := OpenQueue.open_queue (hval 0 24 v0 rfl rfl) h0
  clear hA0 hval0
  refine (walk W x0_0 aL0_1 cL0_1 L0_1 hL0_1 mL0_1).mono fun e W' ⟨he, hb⟩ => ?_
  subst he
  exact ⟨_, rfl, _, _, _, [], _, [], hW', trodAll_cons_mk (shut_bool Try.underlying4 _) trodAll_mk0, (trodAll_cons_mk (Below.trod laidOut (by kernel_rfl) (of_decide_eq_true (by kernel_rfl)) k0_ hb lt0) trodAll_mk0), rfl, hb.frame _, fun h => by cases h⟩

theorem over : Rows.fnExactQueueOkRow.holds Try.pinned (OpenSpec.ofChange Rows.fnExactQueueOkSpec) :=
  OpenClaim.holds_of_wide 3 Try.f3 rfl rfl rfl rfl rfl rfl rfl ⟨rfl, rfl, rfl, rfl, rfl⟩ rfl rfl rfl rfl rfl (by kernel_rfl) Try.func3 (by kernel_rfl)
    (of_decide_eq_true (by kernel_rfl)) (by unfold Func.isWrapper; first | (rw [if_pos (by decide +kernel)]; kernel_rfl) | (rw [if_neg (by decide +kernel)]; exact ⟨rfl, rfl⟩))
    (fun os started H enc _ => lifted os started H enc)

theorem proved : Rows.FnExactQueueOkSaid :=
  over
end Go.Proofs.Ytiodnkehfeigoaa.fnExactQueueOk
