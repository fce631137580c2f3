/- At every queue and number the program's Pull answers as the model's, its answer owns its memory, and it writes into no argument (the law FnExactPull returns true); no condition. -/
import Derived.Test.YtiodnkehfeigoaaRows
import Derived.WalkKit
import Derived.WalkSmall
import Derived.BigQuiet
import Derived.ProofKit
import Derived.OpenShut
import Derived.Deep.RegionWith
import Derived.Deep.DeepCutAuto
import Derived.Test.YtiodnkehfeigoaaListKit
import Derived.Test.YtiodnkehfeigoaaHoldKit
import Derived.Test.YtiodnkehfeigoaaRegFlow
import Derived.Test.YtiodnkehfeigoaaFlowHold
import Derived.Test.YtiodnkehfeigoaaReqKit
import Derived.Test.YtiodnkehfeigoaaReqRows
import Derived.Test.YtiodnkehfeigoaaLawQueue
import Derived.Test.YtiodnkehfeigoaaFlatReq
import Derived.Test.YtiodnkehfeigoaaOpenKit
import Derived.Test.YtiodnkehfeigoaaOpenQueue
import Derived.Test.YtiodnkehfeigoaaQueBothPull
namespace Go.Proofs.Ytiodnkehfeigoaa.fnExactPull
open Go.ChangeShapes Go.WideShapes Go.ChangeAt Go.RowKit ListKit HoldKit QueBothPull
set_option linter.unusedVariables false
set_option linter.unusedSimpArgs false
set_option maxRecDepth 8000

set_option maxHeartbeats 8000000 in
theorem walk (W : World) (pa0 : Int) (paA1 : Option Addr) (paC1 : Nat) (paL1 : List ReqKit.Req) (h_pa1 : ReqRows.Arg W paA1 paL1) (m_pa1 : paL1.length ≤ maxLen) (i1 : Int) (wi1 : (Lit.int .i64 i1).wf = true) :
    Calls Try.prog 6 #[.agg #[.int .i64 pa0, .slice paA1 paL1.length paC1], .int .i64 i1] W fun e w' => e = .returned (.bool true) ∧ Below W.heap.size W w' := by
  have hm_pa1 : (paL1.length : Int) ≤ 9223372036854775807 := by unfold maxLen at m_pa1; omega
  by_cases hl0 : (paL1.length : Int) ≤ 1048576
  · skip
    have hk0 : ¬ (1048576 - ((paL1.length : Int))) < 0 := by omega
    obtain ⟨qa0, qaL1, qb0, qb1, qb2, qb3, qb4, qb5, qc, HSP, HIM, hpl⟩ := both_pull pa0 paL1 i1 (by omega)
    have HL_qaL1 : Hid (qaL1.length ≤ 1048577) := hpl
    have HA_pa1 : Hid (ReqRows.Arg W paA1 paL1) := h_pa1
    have HL_paL1 : Hid (paL1.length ≤ 1048577) := by show _ ≤ _; omega
    have t_qa0 : (qa0 != qa0) = false := by simp
    have t_qb0 : (qb0 != qb0) = false := by simp
    have t_qb1 : (qb1 != qb1) = false := by simp
    have t_qb2 : (qb2 != qb2) = false := by simp
    have t_qb3 : (qb3 != qb3) = false := by simp
    have t_qb4 : (qb4 != qb4) = false := by simp
    have t_qb5 : (qb5 != qb5) = false := by simp
    have t_qc : (qc != qc) = false := by simp
    have kx1 : ¬ (1 + 6 * (paL1.length : Int)) < 0 := by omega
    have ky1 : ((1 + 6 * (paL1.length : Int)) != (1 + 6 * (paL1.length : Int))) = false := by simp
    have kx2 : ¬ (1 + 6 * (qaL1.length : Int)) < 0 := by omega
    have ky2 : ((1 + 6 * (qaL1.length : Int)) != (1 + 6 * (qaL1.length : Int))) = false := by simp
    have H0 : Hid (Bel W (W.alloc (.cells #[.int .i64 pa0, .slice paA1 paL1.length paC1] 24)) ∧ boxB (W.alloc (.cells #[.int .i64 pa0, .slice paA1 paL1.length paC1] 24)) (W.heap.size) #[.int .i64 pa0, .slice paA1 paL1.length paC1] 24) := ⟨n1 W _, boxB.new _ _ _⟩
    clear h_pa1 m_pa1 wi1
    go_enter Try.func6, Try.ntmps6
    have c0 := (H0.out.2).cell 0
    have c1 := (H0.out.2).cell 1
    go_wp2_with fail
    refine (LawQueue.sz_queue pa0 paA1 paC1 paL1.length (1048576) _ hm_pa1 (by omega) (by omega)).mono ?_
    rintro e w1 ⟨rfl, b1⟩
    rw [if_pos (by omega)]
    have H1 : Hid (Bel W w1 ∧ boxB w1 (W.heap.size) #[.int .i64 pa0, .slice paA1 paL1.length paC1] 24) := ⟨(H0.out.1).below b1, (H0.out.2).below b1⟩
    clear c0 c1 b1 H0
    have c0 := (H1.out.2).cell 0
    have c1 := (H1.out.2).cell 1
    go_wp2_with fail
    refine (LawQueue.to_queue pa0 paA1 paC1 paL1 _ (HA_pa1.out.below (H1.out.1)) HL_paL1.out).mono ?_
    rintro e w2 ⟨gw2_1, rfl, hhw2, b2⟩
    have LW_tpa : Hid (W.heap.size ≤ w1.heap.size) := (H1.out.1).size
    have O0_ : Hid (Off (W.heap.size) [⟨(some ⟨gw2_1, 0, none⟩), 39, 6, (paL1).map ReqKit.cells⟩]) := Off.under (hhw2) (by have h9 := (H1.out.2).lt; omega)
    have H2 : Hid (Bel W w2 ∧ boxB w2 (W.heap.size) #[.int .i64 pa0, .slice paA1 paL1.length paC1] 24 ∧ Holds w2 (w1.heap.size) [⟨(some ⟨gw2_1, 0, none⟩), 39, 6, (paL1).map ReqKit.cells⟩]) := ⟨(H1.out.1).below b2, (H1.out.2).below b2, hhw2⟩
    clear c0 c1 b2 H1 hhw2
    go_wp2_with fail
    refine (HSP (some ⟨gw2_1, 0, none⟩) paL1.length _ (H2.out.2.2.get (by simp)) (Nat.le_refl _)).mono ?_
    rintro e w3 ⟨aw0_1, cw0_1, rfl, hc_cw0_1, hhw3, b3⟩
    have LW_w : Hid (W.heap.size ≤ w2.heap.size) := (H2.out.1).size
    have O1_ : Hid (Off (W.heap.size) [⟨aw0_1, 39, 6, (qaL1).map ReqKit.cells⟩]) := Off.under (hhw3) (by have h9 := (H2.out.2.1).lt; omega)
    have O2_ : Hid (Off (w3.heap.size) [⟨aw0_1, 39, 6, (qaL1).map ReqKit.cells⟩]) := Off.above (hhw3) (by omega)
    have O3_ : Hid (Off (w3.heap.size + 1) [⟨aw0_1, 39, 6, (qaL1).map ReqKit.cells⟩]) := Off.above (hhw3) (by omega)
    have H3 : Hid (Bel W ((w3.alloc (.cells #[.int .i64 qa0, .slice aw0_1 qaL1.length cw0_1] 29)).alloc (.cells #[.int .i64 qb0, .int .i64 qb1, .int .i64 qb2, .int .i64 qb3, .int .i64 qb4, .int .i64 qb5] 39)) ∧ boxB ((w3.alloc (.cells #[.int .i64 qa0, .slice aw0_1 qaL1.length cw0_1] 29)).alloc (.cells #[.int .i64 qb0, .int .i64 qb1, .int .i64 qb2, .int .i64 qb3, .int .i64 qb4, .int .i64 qb5] 39)) (W.heap.size) #[.int .i64 pa0, .slice paA1 paL1.length paC1] 24 ∧ Holds ((w3.alloc (.cells #[.int .i64 qa0, .slice aw0_1 qaL1.length cw0_1] 29)).alloc (.cells #[.int .i64 qb0, .int .i64 qb1, .int .i64 qb2, .int .i64 qb3, .int .i64 qb4, .int .i64 qb5] 39)) (w2.heap.size) [⟨aw0_1, 39, 6, (qaL1).map ReqKit.cells⟩] ∧ boxB ((w3.alloc (.cells #[.int .i64 qa0, .slice aw0_1 qaL1.length cw0_1] 29)).alloc (.cells #[.int .i64 qb0, .int .i64 qb1, .int .i64 qb2, .int .i64 qb3, .int .i64 qb4, .int .i64 qb5] 39)) (w3.heap.size) #[.int .i64 qa0, .slice aw0_1 qaL1.length cw0_1] 29 ∧ boxB ((w3.alloc (.cells #[.int .i64 qa0, .slice aw0_1 qaL1.length cw0_1] 29)).alloc (.cells #[.int .i64 qb0, .int .i64 qb1, .int .i64 qb2, .int .i64 qb3, .int .i64 qb4, .int .i64 qb5] 39)) (w3.heap.size + 1) #[.int .i64 qb0, .int .i64 qb1, .int .i64 qb2, .int .i64 qb3, .int .i64 qb4, .int .i64 qb5] 39) := ⟨(H2.out.1).below (b3.trans ((n2 w3 _ _).mono b3.size)), (H2.out.2.1).below (b3.trans ((n2 w3 _ _).mono b3.size)), (hhw3).below (n2 w3 _ _), (boxB.new _ _ _).below (n1 _ _), new2 _ _ _ _⟩
    clear b3 H2 hhw3
    have c0 := (H3.out.2.1).cell 0
    have c1 := (H3.out.2.1).cell 1
    go_wp2_with fail
    refine (LawQueue.to_queue pa0 paA1 paC1 paL1 _ (HA_pa1.out.below (H3.out.1)) HL_paL1.out).mono ?_
    rintro e w4 ⟨gw4_1, rfl, hhw4, b4⟩
    have LW_x0 : Hid (W.heap.size ≤ ((w3.alloc (.cells #[.int .i64 qa0, .slice aw0_1 qaL1.length cw0_1] 29)).alloc (.cells #[.int .i64 qb0, .int .i64 qb1, .int .i64 qb2, .int .i64 qb3, .int .i64 qb4, .int .i64 qb5] 39)).heap.size) := (H3.out.1).size
    have O4_ : Hid (Off (W.heap.size) [⟨(some ⟨gw4_1, 0, none⟩), 39, 6, (paL1).map ReqKit.cells⟩]) := Off.under (hhw4) (by have h9 := (H3.out.2.1).lt; omega)
    have Q0_ : Hid (Apart [⟨aw0_1, 39, 6, (qaL1).map ReqKit.cells⟩] [⟨(some ⟨gw4_1, 0, none⟩), 39, 6, (paL1).map ReqKit.cells⟩]) := Apart.under (H3.out.2.2.1) (hhw4) (Nat.le_refl _)
    have O5_ : Hid (Off (w3.heap.size) [⟨(some ⟨gw4_1, 0, none⟩), 39, 6, (paL1).map ReqKit.cells⟩]) := Off.under (hhw4) (by have h9 := (H3.out.2.2.2.1).lt; omega)
    have O6_ : Hid (Off (w3.heap.size + 1) [⟨(some ⟨gw4_1, 0, none⟩), 39, 6, (paL1).map ReqKit.cells⟩]) := Off.under (hhw4) (by have h9 := (H3.out.2.2.2.2).lt; omega)
    have O7_ : Hid (Off (w4.heap.size) [⟨aw0_1, 39, 6, (qaL1).map ReqKit.cells⟩]) := Off.above (H3.out.2.2.1) (by have h9 := b4.size; omega)
    have O8_ : Hid (Off (w4.heap.size) [⟨(some ⟨gw4_1, 0, none⟩), 39, 6, (paL1).map ReqKit.cells⟩]) := Off.above (hhw4) (by omega)
    have H4 : Hid (Bel W (w4.alloc (.cells #[.int .i64 pa0, .slice (some ⟨gw4_1, 0, none⟩) paL1.length paL1.length] 29)) ∧ boxB (w4.alloc (.cells #[.int .i64 pa0, .slice (some ⟨gw4_1, 0, none⟩) paL1.length paL1.length] 29)) (W.heap.size) #[.int .i64 pa0, .slice paA1 paL1.length paC1] 24 ∧ Holds (w4.alloc (.cells #[.int .i64 pa0, .slice (some ⟨gw4_1, 0, none⟩) paL1.length paL1.length] 29)) (w2.heap.size) [⟨aw0_1, 39, 6, (qaL1).map ReqKit.cells⟩] ∧ boxB (w4.alloc (.cells #[.int .i64 pa0, .slice (some ⟨gw4_1, 0, none⟩) paL1.length paL1.length] 29)) (w3.heap.size) #[.int .i64 qa0, .slice aw0_1 qaL1.length cw0_1] 29 ∧ boxB (w4.alloc (.cells #[.int .i64 pa0, .slice (some ⟨gw4_1, 0, none⟩) paL1.length paL1.length] 29)) (w3.heap.size + 1) #[.int .i64 qb0, .int .i64 qb1, .int .i64 qb2, .int .i64 qb3, .int .i64 qb4, .int .i64 qb5] 39 ∧ Holds (w4.alloc (.cells #[.int .i64 pa0, .slice (some ⟨gw4_1, 0, none⟩) paL1.length paL1.length] 29)) (((w3.alloc (.cells #[.int .i64 qa0, .slice aw0_1 qaL1.length cw0_1] 29)).alloc (.cells #[.int .i64 qb0, .int .i64 qb1, .int .i64 qb2, .int .i64 qb3, .int .i64 qb4, .int .i64 qb5] 39)).heap.size) [⟨(some ⟨gw4_1, 0, none⟩), 39, 6, (paL1).map ReqKit.cells⟩] ∧ boxB (w4.alloc (.cells #[.int .i64 pa0, .slice (some ⟨gw4_1, 0, none⟩) paL1.length paL1.length] 29)) (w4.heap.size) #[.int .i64 pa0, .slice (some ⟨gw4_1, 0, none⟩) paL1.length paL1.length] 29) := ⟨(H3.out.1).below (b4.trans ((n1 w4 _).mono b4.size)), (H3.out.2.1).below (b4.trans ((n1 w4 _).mono b4.size)), (H3.out.2.2.1).below (b4.trans ((n1 w4 _).mono b4.size)), (H3.out.2.2.2.1).below (b4.trans ((n1 w4 _).mono b4.size)), (H3.out.2.2.2.2).below (b4.trans ((n1 w4 _).mono b4.size)), (hhw4).below (n1 w4 _), boxB.new _ _ _⟩
    clear c0 c1 b4 H3 hhw4
    have c0 := (H4.out.2.2.2.2.2.2).cell 0
    have c1 := (H4.out.2.2.2.2.2.2).cell 1
    go_wp2_with fail
    refine (HIM (some ⟨gw4_1, 0, none⟩) paL1.length _ (H4.out.2.2.2.2.2.1.get (by simp)) (Nat.le_refl _)).mono ?_
    rintro e w5 ⟨ag0_1, cg0_1, rfl, hc_cg0_1, hhw5, b5⟩
    have LW_g : Hid (W.heap.size ≤ (w4.alloc (.cells #[.int .i64 pa0, .slice (some ⟨gw4_1, 0, none⟩) paL1.length paL1.length] 29)).heap.size) := (H4.out.1).size
    have O9_ : Hid (Off (W.heap.size) [⟨ag0_1, 39, 6, (qaL1).map ReqKit.cells⟩]) := Off.under (hhw5) (by have h9 := (H4.out.2.1).lt; omega)
    have Q1_ : Hid (Apart [⟨aw0_1, 39, 6, (qaL1).map ReqKit.cells⟩] [⟨ag0_1, 39, 6, (qaL1).map ReqKit.cells⟩]) := Apart.under (H4.out.2.2.1) (hhw5) (Nat.le_refl _)
    have O10_ : Hid (Off (w3.heap.size) [⟨ag0_1, 39, 6, (qaL1).map ReqKit.cells⟩]) := Off.under (hhw5) (by have h9 := (H4.out.2.2.2.1).lt; omega)
    have O11_ : Hid (Off (w3.heap.size + 1) [⟨ag0_1, 39, 6, (qaL1).map ReqKit.cells⟩]) := Off.under (hhw5) (by have h9 := (H4.out.2.2.2.2.1).lt; omega)
    have Q2_ : Hid (Apart [⟨(some ⟨gw4_1, 0, none⟩), 39, 6, (paL1).map ReqKit.cells⟩] [⟨ag0_1, 39, 6, (qaL1).map ReqKit.cells⟩]) := Apart.under (H4.out.2.2.2.2.2.1) (hhw5) (Nat.le_refl _)
    have O12_ : Hid (Off (w4.heap.size) [⟨ag0_1, 39, 6, (qaL1).map ReqKit.cells⟩]) := Off.under (hhw5) (by have h9 := (H4.out.2.2.2.2.2.2).lt; omega)
    have O13_ : Hid (Off (w5.heap.size) [⟨aw0_1, 39, 6, (qaL1).map ReqKit.cells⟩]) := Off.above (H4.out.2.2.1) (by have h9 := b5.size; omega)
    have O14_ : Hid (Off (w5.heap.size) [⟨(some ⟨gw4_1, 0, none⟩), 39, 6, (paL1).map ReqKit.cells⟩]) := Off.above (H4.out.2.2.2.2.2.1) (by have h9 := b5.size; omega)
    have O15_ : Hid (Off (w5.heap.size) [⟨ag0_1, 39, 6, (qaL1).map ReqKit.cells⟩]) := Off.above (hhw5) (by omega)
    have O16_ : Hid (Off (w5.heap.size + 1) [⟨aw0_1, 39, 6, (qaL1).map ReqKit.cells⟩]) := Off.above (H4.out.2.2.1) (by have h9 := b5.size; omega)
    have O17_ : Hid (Off (w5.heap.size + 1) [⟨(some ⟨gw4_1, 0, none⟩), 39, 6, (paL1).map ReqKit.cells⟩]) := Off.above (H4.out.2.2.2.2.2.1) (by have h9 := b5.size; omega)
    have O18_ : Hid (Off (w5.heap.size + 1) [⟨ag0_1, 39, 6, (qaL1).map ReqKit.cells⟩]) := Off.above (hhw5) (by omega)
    have H5 : Hid (Bel W ((w5.alloc (.cells #[.int .i64 qa0, .slice ag0_1 qaL1.length cg0_1] 29)).alloc (.cells #[.int .i64 qb0, .int .i64 qb1, .int .i64 qb2, .int .i64 qb3, .int .i64 qb4, .int .i64 qb5] 39)) ∧ boxB ((w5.alloc (.cells #[.int .i64 qa0, .slice ag0_1 qaL1.length cg0_1] 29)).alloc (.cells #[.int .i64 qb0, .int .i64 qb1, .int .i64 qb2, .int .i64 qb3, .int .i64 qb4, .int .i64 qb5] 39)) (W.heap.size) #[.int .i64 pa0, .slice paA1 paL1.length paC1] 24 ∧ Holds ((w5.alloc (.cells #[.int .i64 qa0, .slice ag0_1 qaL1.length cg0_1] 29)).alloc (.cells #[.int .i64 qb0, .int .i64 qb1, .int .i64 qb2, .int .i64 qb3, .int .i64 qb4, .int .i64 qb5] 39)) (w2.heap.size) [⟨aw0_1, 39, 6, (qaL1).map ReqKit.cells⟩] ∧ boxB ((w5.alloc (.cells #[.int .i64 qa0, .slice ag0_1 qaL1.length cg0_1] 29)).alloc (.cells #[.int .i64 qb0, .int .i64 qb1, .int .i64 qb2, .int .i64 qb3, .int .i64 qb4, .int .i64 qb5] 39)) (w3.heap.size) #[.int .i64 qa0, .slice aw0_1 qaL1.length cw0_1] 29 ∧ boxB ((w5.alloc (.cells #[.int .i64 qa0, .slice ag0_1 qaL1.length cg0_1] 29)).alloc (.cells #[.int .i64 qb0, .int .i64 qb1, .int .i64 qb2, .int .i64 qb3, .int .i64 qb4, .int .i64 qb5] 39)) (w3.heap.size + 1) #[.int .i64 qb0, .int .i64 qb1, .int .i64 qb2, .int .i64 qb3, .int .i64 qb4, .int .i64 qb5] 39 ∧ Holds ((w5.alloc (.cells #[.int .i64 qa0, .slice ag0_1 qaL1.length cg0_1] 29)).alloc (.cells #[.int .i64 qb0, .int .i64 qb1, .int .i64 qb2, .int .i64 qb3, .int .i64 qb4, .int .i64 qb5] 39)) (((w3.alloc (.cells #[.int .i64 qa0, .slice aw0_1 qaL1.length cw0_1] 29)).alloc (.cells #[.int .i64 qb0, .int .i64 qb1, .int .i64 qb2, .int .i64 qb3, .int .i64 qb4, .int .i64 qb5] 39)).heap.size) [⟨(some ⟨gw4_1, 0, none⟩), 39, 6, (paL1).map ReqKit.cells⟩] ∧ boxB ((w5.alloc (.cells #[.int .i64 qa0, .slice ag0_1 qaL1.length cg0_1] 29)).alloc (.cells #[.int .i64 qb0, .int .i64 qb1, .int .i64 qb2, .int .i64 qb3, .int .i64 qb4, .int .i64 qb5] 39)) (w4.heap.size) #[.int .i64 pa0, .slice (some ⟨gw4_1, 0, none⟩) paL1.length paL1.length] 29 ∧ Holds ((w5.alloc (.cells #[.int .i64 qa0, .slice ag0_1 qaL1.length cg0_1] 29)).alloc (.cells #[.int .i64 qb0, .int .i64 qb1, .int .i64 qb2, .int .i64 qb3, .int .i64 qb4, .int .i64 qb5] 39)) ((w4.alloc (.cells #[.int .i64 pa0, .slice (some ⟨gw4_1, 0, none⟩) paL1.length paL1.length] 29)).heap.size) [⟨ag0_1, 39, 6, (qaL1).map ReqKit.cells⟩] ∧ boxB ((w5.alloc (.cells #[.int .i64 qa0, .slice ag0_1 qaL1.length cg0_1] 29)).alloc (.cells #[.int .i64 qb0, .int .i64 qb1, .int .i64 qb2, .int .i64 qb3, .int .i64 qb4, .int .i64 qb5] 39)) (w5.heap.size) #[.int .i64 qa0, .slice ag0_1 qaL1.length cg0_1] 29 ∧ boxB ((w5.alloc (.cells #[.int .i64 qa0, .slice ag0_1 qaL1.length cg0_1] 29)).alloc (.cells #[.int .i64 qb0, .int .i64 qb1, .int .i64 qb2, .int .i64 qb3, .int .i64 qb4, .int .i64 qb5] 39)) (w5.heap.size + 1) #[.int .i64 qb0, .int .i64 qb1, .int .i64 qb2, .int .i64 qb3, .int .i64 qb4, .int .i64 qb5] 39) := ⟨(H4.out.1).below (b5.trans ((n2 w5 _ _).mono b5.size)), (H4.out.2.1).below (b5.trans ((n2 w5 _ _).mono b5.size)), (H4.out.2.2.1).below (b5.trans ((n2 w5 _ _).mono b5.size)), (H4.out.2.2.2.1).below (b5.trans ((n2 w5 _ _).mono b5.size)), (H4.out.2.2.2.2.1).below (b5.trans ((n2 w5 _ _).mono b5.size)), (H4.out.2.2.2.2.2.1).below (b5.trans ((n2 w5 _ _).mono b5.size)), (H4.out.2.2.2.2.2.2).below (b5.trans ((n2 w5 _ _).mono b5.size)), (hhw5).below (n2 w5 _ _), (boxB.new _ _ _).below (n1 _ _), new2 _ _ _ _⟩
    clear c0 c1 b5 H4 hhw5
    have d0 := (H5.out.2.2.2.2.2.2.2.2.1).cell 0
    have d1 := (H5.out.2.2.2.2.2.2.2.2.1).cell 1
    have e0 := (H5.out.2.2.2.1).cell 0
    have e1 := (H5.out.2.2.2.1).cell 1
    go_wp2_with fail
    refine (LawQueue.eq_queue qa0 ag0_1 cg0_1 qaL1 aw0_1 cw0_1 _ (H5.out.2.2.2.2.2.2.2.1.get (by simp)) (H5.out.2.2.1.get (by simp)) HL_qaL1.out).mono ?_
    rintro e w6 ⟨rfl, b6⟩
    have H6 : Hid (Bel W w6 ∧ boxB w6 (W.heap.size) #[.int .i64 pa0, .slice paA1 paL1.length paC1] 24 ∧ Holds w6 (w2.heap.size) [⟨aw0_1, 39, 6, (qaL1).map ReqKit.cells⟩] ∧ boxB w6 (w3.heap.size) #[.int .i64 qa0, .slice aw0_1 qaL1.length cw0_1] 29 ∧ boxB w6 (w3.heap.size + 1) #[.int .i64 qb0, .int .i64 qb1, .int .i64 qb2, .int .i64 qb3, .int .i64 qb4, .int .i64 qb5] 39 ∧ Holds w6 (((w3.alloc (.cells #[.int .i64 qa0, .slice aw0_1 qaL1.length cw0_1] 29)).alloc (.cells #[.int .i64 qb0, .int .i64 qb1, .int .i64 qb2, .int .i64 qb3, .int .i64 qb4, .int .i64 qb5] 39)).heap.size) [⟨(some ⟨gw4_1, 0, none⟩), 39, 6, (paL1).map ReqKit.cells⟩] ∧ boxB w6 (w4.heap.size) #[.int .i64 pa0, .slice (some ⟨gw4_1, 0, none⟩) paL1.length paL1.length] 29 ∧ Holds w6 ((w4.alloc (.cells #[.int .i64 pa0, .slice (some ⟨gw4_1, 0, none⟩) paL1.length paL1.length] 29)).heap.size) [⟨ag0_1, 39, 6, (qaL1).map ReqKit.cells⟩] ∧ boxB w6 (w5.heap.size) #[.int .i64 qa0, .slice ag0_1 qaL1.length cg0_1] 29 ∧ boxB w6 (w5.heap.size + 1) #[.int .i64 qb0, .int .i64 qb1, .int .i64 qb2, .int .i64 qb3, .int .i64 qb4, .int .i64 qb5] 39) := ⟨(H5.out.1).below b6, (H5.out.2.1).below b6, (H5.out.2.2.1).below b6, (H5.out.2.2.2.1).below b6, (H5.out.2.2.2.2.1).below b6, (H5.out.2.2.2.2.2.1).below b6, (H5.out.2.2.2.2.2.2.1).below b6, (H5.out.2.2.2.2.2.2.2.1).below b6, (H5.out.2.2.2.2.2.2.2.2.1).below b6, (H5.out.2.2.2.2.2.2.2.2.2).below b6⟩
    clear d0 d1 e0 e1 b6 H5
    have d0 := (H6.out.2.2.2.2.2.2.2.2.2).cell 0
    have d1 := (H6.out.2.2.2.2.2.2.2.2.2).cell 1
    have d2 := (H6.out.2.2.2.2.2.2.2.2.2).cell 2
    have d3 := (H6.out.2.2.2.2.2.2.2.2.2).cell 3
    have d4 := (H6.out.2.2.2.2.2.2.2.2.2).cell 4
    have d5 := (H6.out.2.2.2.2.2.2.2.2.2).cell 5
    have e0 := (H6.out.2.2.2.2.1).cell 0
    have e1 := (H6.out.2.2.2.2.1).cell 1
    have e2 := (H6.out.2.2.2.2.1).cell 2
    have e3 := (H6.out.2.2.2.2.1).cell 3
    have e4 := (H6.out.2.2.2.2.1).cell 4
    have e5 := (H6.out.2.2.2.2.1).cell 5
    go_wp2_with fail
    refine (FlatReq.eq_one qb0 qb1 qb2 qb3 qb4 qb5 _).mono ?_
    rintro e w7 ⟨rfl, b7⟩
    have H7 : Hid (Bel W w7.drew ∧ boxB w7.drew (W.heap.size) #[.int .i64 pa0, .slice paA1 paL1.length paC1] 24 ∧ Holds w7.drew (w2.heap.size) [⟨aw0_1, 39, 6, (qaL1).map ReqKit.cells⟩] ∧ boxB w7.drew (w3.heap.size) #[.int .i64 qa0, .slice aw0_1 qaL1.length cw0_1] 29 ∧ boxB w7.drew (w3.heap.size + 1) #[.int .i64 qb0, .int .i64 qb1, .int .i64 qb2, .int .i64 qb3, .int .i64 qb4, .int .i64 qb5] 39 ∧ Holds w7.drew (((w3.alloc (.cells #[.int .i64 qa0, .slice aw0_1 qaL1.length cw0_1] 29)).alloc (.cells #[.int .i64 qb0, .int .i64 qb1, .int .i64 qb2, .int .i64 qb3, .int .i64 qb4, .int .i64 qb5] 39)).heap.size) [⟨(some ⟨gw4_1, 0, none⟩), 39, 6, (paL1).map ReqKit.cells⟩] ∧ boxB w7.drew (w4.heap.size) #[.int .i64 pa0, .slice (some ⟨gw4_1, 0, none⟩) paL1.length paL1.length] 29 ∧ Holds w7.drew ((w4.alloc (.cells #[.int .i64 pa0, .slice (some ⟨gw4_1, 0, none⟩) paL1.length paL1.length] 29)).heap.size) [⟨ag0_1, 39, 6, (qaL1).map ReqKit.cells⟩] ∧ boxB w7.drew (w5.heap.size) #[.int .i64 qa0, .slice ag0_1 qaL1.length cg0_1] 29 ∧ boxB w7.drew (w5.heap.size + 1) #[.int .i64 qb0, .int .i64 qb1, .int .i64 qb2, .int .i64 qb3, .int .i64 qb4, .int .i64 qb5] 39) := ⟨(H6.out.1).below b7.drew, (H6.out.2.1).below b7.drew, (H6.out.2.2.1).below b7.drew, (H6.out.2.2.2.1).below b7.drew, (H6.out.2.2.2.2.1).below b7.drew, (H6.out.2.2.2.2.2.1).below b7.drew, (H6.out.2.2.2.2.2.2.1).below b7.drew, (H6.out.2.2.2.2.2.2.2.1).below b7.drew, (H6.out.2.2.2.2.2.2.2.2.1).below b7.drew, (H6.out.2.2.2.2.2.2.2.2.2).below b7.drew⟩
    clear d0 d1 d2 d3 d4 d5 e0 e1 e2 e3 e4 e5 b7 H6
    have c0 := (H7.out.2.1).cell 0
    have c1 := (H7.out.2.1).cell 1
    have x0 := (H7.out.2.2.2.2.2.2.1).cell 0
    have x1 := (H7.out.2.2.2.2.2.2.1).cell 1
    go_wp2
    go_region_with (first | (go_at_call 13; refine (LawQueue.to_queue pa0 paA1 paC1 paL1 _ (HA_pa1.out.below (H7.out.1)) HL_paL1.out).mono ?_; rintro e w8 ⟨gw8_1, rfl, hhw8, b8⟩; have H8 : Hid (Bel W w8 ∧ boxB w8 (W.heap.size) #[.int .i64 pa0, .slice paA1 paL1.length paC1] 24 ∧ Holds w8 (w2.heap.size) [⟨aw0_1, 39, 6, (qaL1).map ReqKit.cells⟩] ∧ boxB w8 (w3.heap.size) #[.int .i64 qa0, .slice aw0_1 qaL1.length cw0_1] 29 ∧ boxB w8 (w3.heap.size + 1) #[.int .i64 qb0, .int .i64 qb1, .int .i64 qb2, .int .i64 qb3, .int .i64 qb4, .int .i64 qb5] 39 ∧ Holds w8 (((w3.alloc (.cells #[.int .i64 qa0, .slice aw0_1 qaL1.length cw0_1] 29)).alloc (.cells #[.int .i64 qb0, .int .i64 qb1, .int .i64 qb2, .int .i64 qb3, .int .i64 qb4, .int .i64 qb5] 39)).heap.size) [⟨(some ⟨gw4_1, 0, none⟩), 39, 6, (paL1).map ReqKit.cells⟩] ∧ boxB w8 (w4.heap.size) #[.int .i64 pa0, .slice (some ⟨gw4_1, 0, none⟩) paL1.length paL1.length] 29 ∧ Holds w8 ((w4.alloc (.cells #[.int .i64 pa0, .slice (some ⟨gw4_1, 0, none⟩) paL1.length paL1.length] 29)).heap.size) [⟨ag0_1, 39, 6, (qaL1).map ReqKit.cells⟩] ∧ boxB w8 (w5.heap.size) #[.int .i64 qa0, .slice ag0_1 qaL1.length cg0_1] 29 ∧ boxB w8 (w5.heap.size + 1) #[.int .i64 qb0, .int .i64 qb1, .int .i64 qb2, .int .i64 qb3, .int .i64 qb4, .int .i64 qb5] 39 ∧ Holds w8 (w7.drew.heap.size) [⟨(some ⟨gw8_1, 0, none⟩), 39, 6, (paL1).map ReqKit.cells⟩]) := ⟨(H7.out.1).below b8, (H7.out.2.1).below b8, (H7.out.2.2.1).below b8, (H7.out.2.2.2.1).below b8, (H7.out.2.2.2.2.1).below b8, (H7.out.2.2.2.2.2.1).below b8, (H7.out.2.2.2.2.2.2.1).below b8, (H7.out.2.2.2.2.2.2.2.1).below b8, (H7.out.2.2.2.2.2.2.2.2.1).below b8, (H7.out.2.2.2.2.2.2.2.2.2).below b8, hhw8⟩; have y0 := (H8.out.2.2.2.2.2.2.1).cell 0; have y1 := (H8.out.2.2.2.2.2.2.1).cell 1; clear b8 hhw8) | (go_at_call 15; refine (LawQueue.eq_queue pa0 (some ⟨gw4_1, 0, none⟩) paL1.length paL1 (some ⟨gw8_1, 0, none⟩) paL1.length _ (H8.out.2.2.2.2.2.1.get (by simp)) (H8.out.2.2.2.2.2.2.2.2.2.2.get (by simp)) HL_paL1.out).mono ?_; rintro e w9 ⟨rfl, b9⟩; have H9 : Hid (Bel W w9 ∧ boxB w9 (W.heap.size) #[.int .i64 pa0, .slice paA1 paL1.length paC1] 24 ∧ Holds w9 (w2.heap.size) [⟨aw0_1, 39, 6, (qaL1).map ReqKit.cells⟩] ∧ boxB w9 (w3.heap.size) #[.int .i64 qa0, .slice aw0_1 qaL1.length cw0_1] 29 ∧ boxB w9 (w3.heap.size + 1) #[.int .i64 qb0, .int .i64 qb1, .int .i64 qb2, .int .i64 qb3, .int .i64 qb4, .int .i64 qb5] 39 ∧ Holds w9 (((w3.alloc (.cells #[.int .i64 qa0, .slice aw0_1 qaL1.length cw0_1] 29)).alloc (.cells #[.int .i64 qb0, .int .i64 qb1, .int .i64 qb2, .int .i64 qb3, .int .i64 qb4, .int .i64 qb5] 39)).heap.size) [⟨(some ⟨gw4_1, 0, none⟩), 39, 6, (paL1).map ReqKit.cells⟩] ∧ boxB w9 (w4.heap.size) #[.int .i64 pa0, .slice (some ⟨gw4_1, 0, none⟩) paL1.length paL1.length] 29 ∧ Holds w9 ((w4.alloc (.cells #[.int .i64 pa0, .slice (some ⟨gw4_1, 0, none⟩) paL1.length paL1.length] 29)).heap.size) [⟨ag0_1, 39, 6, (qaL1).map ReqKit.cells⟩] ∧ boxB w9 (w5.heap.size) #[.int .i64 qa0, .slice ag0_1 qaL1.length cg0_1] 29 ∧ boxB w9 (w5.heap.size + 1) #[.int .i64 qb0, .int .i64 qb1, .int .i64 qb2, .int .i64 qb3, .int .i64 qb4, .int .i64 qb5] 39) := ⟨(H8.out.1).below b9, (H8.out.2.1).below b9, (H8.out.2.2.1).below b9, (H8.out.2.2.2.1).below b9, (H8.out.2.2.2.2.1).below b9, (H8.out.2.2.2.2.2.1).below b9, (H8.out.2.2.2.2.2.2.1).below b9, (H8.out.2.2.2.2.2.2.2.1).below b9, (H8.out.2.2.2.2.2.2.2.2.1).below b9, (H8.out.2.2.2.2.2.2.2.2.2.1).below b9⟩; clear b9))
    all_goals
      clear c0 c1 x0 x1 y0 y1 H7 H8
      have z0 := (H9.out.2.2.2.2.2.2.1).cell 0
      have z1 := (H9.out.2.2.2.2.2.2.1).cell 1
      go_wp2_with fail
      refine (LawQueue.mark_queue pa0 (some ⟨gw4_1, 0, none⟩) paL1.length paL1 (1) _ _ _ (H9.out.2.2.2.2.2.1) HL_paL1.out (by have := HL_paL1.out; have := HL_qaL1.out; omega) (by first | rfl | omega)).mono ?_
      rintro e w10 ⟨rfl, hmw10, htw10⟩
      have H10 : Hid (Bel W w10 ∧ boxB w10 (W.heap.size) #[.int .i64 pa0, .slice paA1 paL1.length paC1] 24 ∧ Holds w10 (w2.heap.size) [⟨aw0_1, 39, 6, (qaL1).map ReqKit.cells⟩] ∧ boxB w10 (w3.heap.size) #[.int .i64 qa0, .slice aw0_1 qaL1.length cw0_1] 29 ∧ boxB w10 (w3.heap.size + 1) #[.int .i64 qb0, .int .i64 qb1, .int .i64 qb2, .int .i64 qb3, .int .i64 qb4, .int .i64 qb5] 39 ∧ Holds w10 ((w4.alloc (.cells #[.int .i64 pa0, .slice (some ⟨gw4_1, 0, none⟩) paL1.length paL1.length] 29)).heap.size) [⟨ag0_1, 39, 6, (qaL1).map ReqKit.cells⟩] ∧ boxB w10 (w5.heap.size) #[.int .i64 qa0, .slice ag0_1 qaL1.length cg0_1] 29 ∧ boxB w10 (w5.heap.size + 1) #[.int .i64 qb0, .int .i64 qb1, .int .i64 qb2, .int .i64 qb3, .int .i64 qb4, .int .i64 qb5] 39) := ⟨Bel.turn (H9.out.1) htw10 (fun x hx => Off.under (H9.out.2.2.2.2.2.1) (by have h9 := LW_x0.out; omega)), (H9.out.2.1).turn htw10 O4_.out, (H9.out.2.2.1).turn htw10 Q0_.out.symm, (H9.out.2.2.2.1).turn htw10 O5_.out, (H9.out.2.2.2.2.1).turn htw10 O6_.out, (H9.out.2.2.2.2.2.2.2.1).turn htw10 Q2_.out, (H9.out.2.2.2.2.2.2.2.2.1).turn htw10 O14_.out, (H9.out.2.2.2.2.2.2.2.2.2).turn htw10 O17_.out⟩
      clear z0 z1 hmw10 htw10 H9
      have d0 := (H10.out.2.2.2.2.2.2.1).cell 0
      have d1 := (H10.out.2.2.2.2.2.2.1).cell 1
      have e0 := (H10.out.2.2.2.1).cell 0
      have e1 := (H10.out.2.2.2.1).cell 1
      go_wp2_with fail
      refine (LawQueue.eq_queue qa0 ag0_1 cg0_1 qaL1 aw0_1 cw0_1 _ (H10.out.2.2.2.2.2.1.get (by simp)) (H10.out.2.2.1.get (by simp)) HL_qaL1.out).mono ?_
      rintro e w11 ⟨rfl, b11⟩
      have H11 : Hid (Bel W w11 ∧ boxB w11 (W.heap.size) #[.int .i64 pa0, .slice paA1 paL1.length paC1] 24 ∧ Holds w11 (w2.heap.size) [⟨aw0_1, 39, 6, (qaL1).map ReqKit.cells⟩] ∧ boxB w11 (w3.heap.size) #[.int .i64 qa0, .slice aw0_1 qaL1.length cw0_1] 29 ∧ boxB w11 (w3.heap.size + 1) #[.int .i64 qb0, .int .i64 qb1, .int .i64 qb2, .int .i64 qb3, .int .i64 qb4, .int .i64 qb5] 39 ∧ Holds w11 ((w4.alloc (.cells #[.int .i64 pa0, .slice (some ⟨gw4_1, 0, none⟩) paL1.length paL1.length] 29)).heap.size) [⟨ag0_1, 39, 6, (qaL1).map ReqKit.cells⟩] ∧ boxB w11 (w5.heap.size) #[.int .i64 qa0, .slice ag0_1 qaL1.length cg0_1] 29 ∧ boxB w11 (w5.heap.size + 1) #[.int .i64 qb0, .int .i64 qb1, .int .i64 qb2, .int .i64 qb3, .int .i64 qb4, .int .i64 qb5] 39) := ⟨(H10.out.1).below b11, (H10.out.2.1).below b11, (H10.out.2.2.1).below b11, (H10.out.2.2.2.1).below b11, (H10.out.2.2.2.2.1).below b11, (H10.out.2.2.2.2.2.1).below b11, (H10.out.2.2.2.2.2.2.1).below b11, (H10.out.2.2.2.2.2.2.2).below b11⟩
      clear d0 d1 e0 e1 b11 H10
      have d0 := (H11.out.2.2.2.2.2.2.2).cell 0
      have d1 := (H11.out.2.2.2.2.2.2.2).cell 1
      have d2 := (H11.out.2.2.2.2.2.2.2).cell 2
      have d3 := (H11.out.2.2.2.2.2.2.2).cell 3
      have d4 := (H11.out.2.2.2.2.2.2.2).cell 4
      have d5 := (H11.out.2.2.2.2.2.2.2).cell 5
      have e0 := (H11.out.2.2.2.2.1).cell 0
      have e1 := (H11.out.2.2.2.2.1).cell 1
      have e2 := (H11.out.2.2.2.2.1).cell 2
      have e3 := (H11.out.2.2.2.2.1).cell 3
      have e4 := (H11.out.2.2.2.2.1).cell 4
      have e5 := (H11.out.2.2.2.2.1).cell 5
      go_wp2_with fail
      refine (FlatReq.eq_one qb0 qb1 qb2 qb3 qb4 qb5 _).mono ?_
      rintro e w12 ⟨rfl, b12⟩
      have H12 : Hid (Bel W w12 ∧ boxB w12 (W.heap.size) #[.int .i64 pa0, .slice paA1 paL1.length paC1] 24 ∧ Holds w12 (w2.heap.size) [⟨aw0_1, 39, 6, (qaL1).map ReqKit.cells⟩] ∧ boxB w12 (w3.heap.size) #[.int .i64 qa0, .slice aw0_1 qaL1.length cw0_1] 29 ∧ boxB w12 (w3.heap.size + 1) #[.int .i64 qb0, .int .i64 qb1, .int .i64 qb2, .int .i64 qb3, .int .i64 qb4, .int .i64 qb5] 39 ∧ Holds w12 ((w4.alloc (.cells #[.int .i64 pa0, .slice (some ⟨gw4_1, 0, none⟩) paL1.length paL1.length] 29)).heap.size) [⟨ag0_1, 39, 6, (qaL1).map ReqKit.cells⟩] ∧ boxB w12 (w5.heap.size) #[.int .i64 qa0, .slice ag0_1 qaL1.length cg0_1] 29 ∧ boxB w12 (w5.heap.size + 1) #[.int .i64 qb0, .int .i64 qb1, .int .i64 qb2, .int .i64 qb3, .int .i64 qb4, .int .i64 qb5] 39) := ⟨(H11.out.1).below b12, (H11.out.2.1).below b12, (H11.out.2.2.1).below b12, (H11.out.2.2.2.1).below b12, (H11.out.2.2.2.2.1).below b12, (H11.out.2.2.2.2.2.1).below b12, (H11.out.2.2.2.2.2.2.1).below b12, (H11.out.2.2.2.2.2.2.2).below b12⟩
      clear d0 d1 d2 d3 d4 d5 e0 e1 e2 e3 e4 e5 b12 H11
      have z0 := (H12.out.2.2.2.2.2.2.1).cell 0
      have z1 := (H12.out.2.2.2.2.2.2.1).cell 1
      go_wp2_with fail
      refine (LawQueue.mark_queue qa0 ag0_1 cg0_1 qaL1 (1) _ _ _ (H12.out.2.2.2.2.2.1) HL_qaL1.out (by have := HL_paL1.out; have := HL_qaL1.out; omega) (by first | rfl | omega)).mono ?_
      rintro e w13 ⟨rfl, hmw13, htw13⟩
      have H13 : Hid (Bel W w13 ∧ boxB w13 (W.heap.size) #[.int .i64 pa0, .slice paA1 paL1.length paC1] 24 ∧ Holds w13 (w2.heap.size) [⟨aw0_1, 39, 6, (qaL1).map ReqKit.cells⟩] ∧ boxB w13 (w3.heap.size) #[.int .i64 qa0, .slice aw0_1 qaL1.length cw0_1] 29 ∧ boxB w13 (w3.heap.size + 1) #[.int .i64 qb0, .int .i64 qb1, .int .i64 qb2, .int .i64 qb3, .int .i64 qb4, .int .i64 qb5] 39 ∧ boxB w13 (w5.heap.size) #[.int .i64 qa0, .slice ag0_1 qaL1.length cg0_1] 29 ∧ boxB w13 (w5.heap.size + 1) #[.int .i64 qb0, .int .i64 qb1, .int .i64 qb2, .int .i64 qb3, .int .i64 qb4, .int .i64 qb5] 39 ∧ Holds w13 ((w4.alloc (.cells #[.int .i64 pa0, .slice (some ⟨gw4_1, 0, none⟩) paL1.length paL1.length] 29)).heap.size) [⟨ag0_1, 39, 6, ((ReqRows.marks (1) qaL1.length)).map ReqKit.cells⟩]) := ⟨Bel.turn (H12.out.1) htw13 (fun x hx => Off.under (H12.out.2.2.2.2.2.1) (by have h9 := LW_g.out; omega)), (H12.out.2.1).turn htw13 O9_.out, (H12.out.2.2.1).turn htw13 Q1_.out.symm, (H12.out.2.2.2.1).turn htw13 O10_.out, (H12.out.2.2.2.2.1).turn htw13 O11_.out, (H12.out.2.2.2.2.2.2.1).turn htw13 O15_.out, (H12.out.2.2.2.2.2.2.2).turn htw13 O18_.out, hmw13⟩
      clear z0 z1 hmw13 htw13 H12
      have z0 := (H13.out.2.2.2.2.2.1).cell 0
      have z1 := (H13.out.2.2.2.2.2.1).cell 1
      go_wp2_with fail
      refine (LawQueue.held_queue qa0 ag0_1 cg0_1 qaL1 (1) _ _ _ (H13.out.2.2.2.2.2.2.2) HL_qaL1.out (by have := HL_paL1.out; have := HL_qaL1.out; omega) (by first | rfl | omega)).mono ?_
      rintro e w14 ⟨rfl, b14⟩
      have H14 : Hid (Bel W w14 ∧ boxB w14 (W.heap.size) #[.int .i64 pa0, .slice paA1 paL1.length paC1] 24 ∧ Holds w14 (w2.heap.size) [⟨aw0_1, 39, 6, (qaL1).map ReqKit.cells⟩] ∧ boxB w14 (w3.heap.size) #[.int .i64 qa0, .slice aw0_1 qaL1.length cw0_1] 29 ∧ boxB w14 (w3.heap.size + 1) #[.int .i64 qb0, .int .i64 qb1, .int .i64 qb2, .int .i64 qb3, .int .i64 qb4, .int .i64 qb5] 39 ∧ boxB w14 (w5.heap.size) #[.int .i64 qa0, .slice ag0_1 qaL1.length cg0_1] 29 ∧ boxB w14 (w5.heap.size + 1) #[.int .i64 qb0, .int .i64 qb1, .int .i64 qb2, .int .i64 qb3, .int .i64 qb4, .int .i64 qb5] 39 ∧ Holds w14 ((w4.alloc (.cells #[.int .i64 pa0, .slice (some ⟨gw4_1, 0, none⟩) paL1.length paL1.length] 29)).heap.size) [⟨ag0_1, 39, 6, ((ReqRows.marks (1) qaL1.length)).map ReqKit.cells⟩]) := ⟨(H13.out.1).below b14, (H13.out.2.1).below b14, (H13.out.2.2.1).below b14, (H13.out.2.2.2.1).below b14, (H13.out.2.2.2.2.1).below b14, (H13.out.2.2.2.2.2.1).below b14, (H13.out.2.2.2.2.2.2.1).below b14, (H13.out.2.2.2.2.2.2.2).below b14⟩
      clear z0 z1 b14 H13
      have c0 := (H14.out.2.1).cell 0
      have c1 := (H14.out.2.1).cell 1
      go_wp2_with fail
      refine (LawQueue.to_queue pa0 paA1 paC1 paL1 _ (HA_pa1.out.below (H14.out.1)) HL_paL1.out).mono ?_
      rintro e w15 ⟨gw15_1, rfl, hhw15, b15⟩
      have LW_tpa : Hid (W.heap.size ≤ w14.heap.size) := (H14.out.1).size
      have O19_ : Hid (Off (W.heap.size) [⟨(some ⟨gw15_1, 0, none⟩), 39, 6, (paL1).map ReqKit.cells⟩]) := Off.under (hhw15) (by have h9 := (H14.out.2.1).lt; omega)
      have Q3_ : Hid (Apart [⟨aw0_1, 39, 6, (qaL1).map ReqKit.cells⟩] [⟨(some ⟨gw15_1, 0, none⟩), 39, 6, (paL1).map ReqKit.cells⟩]) := Apart.under (H14.out.2.2.1) (hhw15) (Nat.le_refl _)
      have O19_ : Hid (Off (w3.heap.size) [⟨(some ⟨gw15_1, 0, none⟩), 39, 6, (paL1).map ReqKit.cells⟩]) := Off.under (hhw15) (by have h9 := (H14.out.2.2.2.1).lt; omega)
      have O20_ : Hid (Off (w3.heap.size + 1) [⟨(some ⟨gw15_1, 0, none⟩), 39, 6, (paL1).map ReqKit.cells⟩]) := Off.under (hhw15) (by have h9 := (H14.out.2.2.2.2.1).lt; omega)
      have O21_ : Hid (Off (w5.heap.size) [⟨(some ⟨gw15_1, 0, none⟩), 39, 6, (paL1).map ReqKit.cells⟩]) := Off.under (hhw15) (by have h9 := (H14.out.2.2.2.2.2.1).lt; omega)
      have O22_ : Hid (Off (w5.heap.size + 1) [⟨(some ⟨gw15_1, 0, none⟩), 39, 6, (paL1).map ReqKit.cells⟩]) := Off.under (hhw15) (by have h9 := (H14.out.2.2.2.2.2.2.1).lt; omega)
      have Q4_ : Hid (Apart [⟨ag0_1, 39, 6, ((ReqRows.marks (1) qaL1.length)).map ReqKit.cells⟩] [⟨(some ⟨gw15_1, 0, none⟩), 39, 6, (paL1).map ReqKit.cells⟩]) := Apart.under (H14.out.2.2.2.2.2.2.2) (hhw15) (Nat.le_refl _)
      have H15 : Hid (Bel W w15 ∧ boxB w15 (W.heap.size) #[.int .i64 pa0, .slice paA1 paL1.length paC1] 24 ∧ Holds w15 (w2.heap.size) [⟨aw0_1, 39, 6, (qaL1).map ReqKit.cells⟩] ∧ boxB w15 (w3.heap.size) #[.int .i64 qa0, .slice aw0_1 qaL1.length cw0_1] 29 ∧ boxB w15 (w3.heap.size + 1) #[.int .i64 qb0, .int .i64 qb1, .int .i64 qb2, .int .i64 qb3, .int .i64 qb4, .int .i64 qb5] 39 ∧ boxB w15 (w5.heap.size) #[.int .i64 qa0, .slice ag0_1 qaL1.length cg0_1] 29 ∧ boxB w15 (w5.heap.size + 1) #[.int .i64 qb0, .int .i64 qb1, .int .i64 qb2, .int .i64 qb3, .int .i64 qb4, .int .i64 qb5] 39 ∧ Holds w15 ((w4.alloc (.cells #[.int .i64 pa0, .slice (some ⟨gw4_1, 0, none⟩) paL1.length paL1.length] 29)).heap.size) [⟨ag0_1, 39, 6, ((ReqRows.marks (1) qaL1.length)).map ReqKit.cells⟩] ∧ Holds w15 (w14.heap.size) [⟨(some ⟨gw15_1, 0, none⟩), 39, 6, (paL1).map ReqKit.cells⟩]) := ⟨(H14.out.1).below b15, (H14.out.2.1).below b15, (H14.out.2.2.1).below b15, (H14.out.2.2.2.1).below b15, (H14.out.2.2.2.2.1).below b15, (H14.out.2.2.2.2.2.1).below b15, (H14.out.2.2.2.2.2.2.1).below b15, (H14.out.2.2.2.2.2.2.2).below b15, hhw15⟩
      clear c0 c1 b15 H14 hhw15
      go_wp2_with fail
      refine (HIM (some ⟨gw15_1, 0, none⟩) paL1.length _ (H15.out.2.2.2.2.2.2.2.2.get (by simp)) (Nat.le_refl _)).mono ?_
      rintro e w16 ⟨ah0_1, ch0_1, rfl, hc_ch0_1, hhw16, b16⟩
      have LW_h : Hid (W.heap.size ≤ w15.heap.size) := (H15.out.1).size
      have O23_ : Hid (Off (W.heap.size) [⟨ah0_1, 39, 6, (qaL1).map ReqKit.cells⟩]) := Off.under (hhw16) (by have h9 := (H15.out.2.1).lt; omega)
      have Q5_ : Hid (Apart [⟨aw0_1, 39, 6, (qaL1).map ReqKit.cells⟩] [⟨ah0_1, 39, 6, (qaL1).map ReqKit.cells⟩]) := Apart.under (H15.out.2.2.1) (hhw16) (Nat.le_refl _)
      have O24_ : Hid (Off (w3.heap.size) [⟨ah0_1, 39, 6, (qaL1).map ReqKit.cells⟩]) := Off.under (hhw16) (by have h9 := (H15.out.2.2.2.1).lt; omega)
      have O25_ : Hid (Off (w3.heap.size + 1) [⟨ah0_1, 39, 6, (qaL1).map ReqKit.cells⟩]) := Off.under (hhw16) (by have h9 := (H15.out.2.2.2.2.1).lt; omega)
      have O26_ : Hid (Off (w5.heap.size) [⟨ah0_1, 39, 6, (qaL1).map ReqKit.cells⟩]) := Off.under (hhw16) (by have h9 := (H15.out.2.2.2.2.2.1).lt; omega)
      have O27_ : Hid (Off (w5.heap.size + 1) [⟨ah0_1, 39, 6, (qaL1).map ReqKit.cells⟩]) := Off.under (hhw16) (by have h9 := (H15.out.2.2.2.2.2.2.1).lt; omega)
      have Q6_ : Hid (Apart [⟨ag0_1, 39, 6, ((ReqRows.marks (1) qaL1.length)).map ReqKit.cells⟩] [⟨ah0_1, 39, 6, (qaL1).map ReqKit.cells⟩]) := Apart.under (H15.out.2.2.2.2.2.2.2.1) (hhw16) (Nat.le_refl _)
      have O28_ : Hid (Off (w16.heap.size) [⟨aw0_1, 39, 6, (qaL1).map ReqKit.cells⟩]) := Off.above (H15.out.2.2.1) (by have h9 := b16.size; omega)
      have O29_ : Hid (Off (w16.heap.size) [⟨ag0_1, 39, 6, ((ReqRows.marks (1) qaL1.length)).map ReqKit.cells⟩]) := Off.above (H15.out.2.2.2.2.2.2.2.1) (by have h9 := b16.size; omega)
      have O30_ : Hid (Off (w16.heap.size) [⟨ah0_1, 39, 6, (qaL1).map ReqKit.cells⟩]) := Off.above (hhw16) (by omega)
      have O31_ : Hid (Off (w16.heap.size + 1) [⟨aw0_1, 39, 6, (qaL1).map ReqKit.cells⟩]) := Off.above (H15.out.2.2.1) (by have h9 := b16.size; omega)
      have O32_ : Hid (Off (w16.heap.size + 1) [⟨ag0_1, 39, 6, ((ReqRows.marks (1) qaL1.length)).map ReqKit.cells⟩]) := Off.above (H15.out.2.2.2.2.2.2.2.1) (by have h9 := b16.size; omega)
      have O33_ : Hid (Off (w16.heap.size + 1) [⟨ah0_1, 39, 6, (qaL1).map ReqKit.cells⟩]) := Off.above (hhw16) (by omega)
      have H16 : Hid (Bel W ((w16.alloc (.cells #[.int .i64 qa0, .slice ah0_1 qaL1.length ch0_1] 29)).alloc (.cells #[.int .i64 qb0, .int .i64 qb1, .int .i64 qb2, .int .i64 qb3, .int .i64 qb4, .int .i64 qb5] 39)) ∧ boxB ((w16.alloc (.cells #[.int .i64 qa0, .slice ah0_1 qaL1.length ch0_1] 29)).alloc (.cells #[.int .i64 qb0, .int .i64 qb1, .int .i64 qb2, .int .i64 qb3, .int .i64 qb4, .int .i64 qb5] 39)) (W.heap.size) #[.int .i64 pa0, .slice paA1 paL1.length paC1] 24 ∧ Holds ((w16.alloc (.cells #[.int .i64 qa0, .slice ah0_1 qaL1.length ch0_1] 29)).alloc (.cells #[.int .i64 qb0, .int .i64 qb1, .int .i64 qb2, .int .i64 qb3, .int .i64 qb4, .int .i64 qb5] 39)) (w2.heap.size) [⟨aw0_1, 39, 6, (qaL1).map ReqKit.cells⟩] ∧ boxB ((w16.alloc (.cells #[.int .i64 qa0, .slice ah0_1 qaL1.length ch0_1] 29)).alloc (.cells #[.int .i64 qb0, .int .i64 qb1, .int .i64 qb2, .int .i64 qb3, .int .i64 qb4, .int .i64 qb5] 39)) (w3.heap.size) #[.int .i64 qa0, .slice aw0_1 qaL1.length cw0_1] 29 ∧ boxB ((w16.alloc (.cells #[.int .i64 qa0, .slice ah0_1 qaL1.length ch0_1] 29)).alloc (.cells #[.int .i64 qb0, .int .i64 qb1, .int .i64 qb2, .int .i64 qb3, .int .i64 qb4, .int .i64 qb5] 39)) (w3.heap.size + 1) #[.int .i64 qb0, .int .i64 qb1, .int .i64 qb2, .int .i64 qb3, .int .i64 qb4, .int .i64 qb5] 39 ∧ boxB ((w16.alloc (.cells #[.int .i64 qa0, .slice ah0_1 qaL1.length ch0_1] 29)).alloc (.cells #[.int .i64 qb0, .int .i64 qb1, .int .i64 qb2, .int .i64 qb3, .int .i64 qb4, .int .i64 qb5] 39)) (w5.heap.size) #[.int .i64 qa0, .slice ag0_1 qaL1.length cg0_1] 29 ∧ boxB ((w16.alloc (.cells #[.int .i64 qa0, .slice ah0_1 qaL1.length ch0_1] 29)).alloc (.cells #[.int .i64 qb0, .int .i64 qb1, .int .i64 qb2, .int .i64 qb3, .int .i64 qb4, .int .i64 qb5] 39)) (w5.heap.size + 1) #[.int .i64 qb0, .int .i64 qb1, .int .i64 qb2, .int .i64 qb3, .int .i64 qb4, .int .i64 qb5] 39 ∧ Holds ((w16.alloc (.cells #[.int .i64 qa0, .slice ah0_1 qaL1.length ch0_1] 29)).alloc (.cells #[.int .i64 qb0, .int .i64 qb1, .int .i64 qb2, .int .i64 qb3, .int .i64 qb4, .int .i64 qb5] 39)) ((w4.alloc (.cells #[.int .i64 pa0, .slice (some ⟨gw4_1, 0, none⟩) paL1.length paL1.length] 29)).heap.size) [⟨ag0_1, 39, 6, ((ReqRows.marks (1) qaL1.length)).map ReqKit.cells⟩] ∧ Holds ((w16.alloc (.cells #[.int .i64 qa0, .slice ah0_1 qaL1.length ch0_1] 29)).alloc (.cells #[.int .i64 qb0, .int .i64 qb1, .int .i64 qb2, .int .i64 qb3, .int .i64 qb4, .int .i64 qb5] 39)) (w15.heap.size) [⟨ah0_1, 39, 6, (qaL1).map ReqKit.cells⟩] ∧ boxB ((w16.alloc (.cells #[.int .i64 qa0, .slice ah0_1 qaL1.length ch0_1] 29)).alloc (.cells #[.int .i64 qb0, .int .i64 qb1, .int .i64 qb2, .int .i64 qb3, .int .i64 qb4, .int .i64 qb5] 39)) (w16.heap.size) #[.int .i64 qa0, .slice ah0_1 qaL1.length ch0_1] 29 ∧ boxB ((w16.alloc (.cells #[.int .i64 qa0, .slice ah0_1 qaL1.length ch0_1] 29)).alloc (.cells #[.int .i64 qb0, .int .i64 qb1, .int .i64 qb2, .int .i64 qb3, .int .i64 qb4, .int .i64 qb5] 39)) (w16.heap.size + 1) #[.int .i64 qb0, .int .i64 qb1, .int .i64 qb2, .int .i64 qb3, .int .i64 qb4, .int .i64 qb5] 39) := ⟨(H15.out.1).below (b16.trans ((n2 w16 _ _).mono b16.size)), (H15.out.2.1).below (b16.trans ((n2 w16 _ _).mono b16.size)), (H15.out.2.2.1).below (b16.trans ((n2 w16 _ _).mono b16.size)), (H15.out.2.2.2.1).below (b16.trans ((n2 w16 _ _).mono b16.size)), (H15.out.2.2.2.2.1).below (b16.trans ((n2 w16 _ _).mono b16.size)), (H15.out.2.2.2.2.2.1).below (b16.trans ((n2 w16 _ _).mono b16.size)), (H15.out.2.2.2.2.2.2.1).below (b16.trans ((n2 w16 _ _).mono b16.size)), (H15.out.2.2.2.2.2.2.2.1).below (b16.trans ((n2 w16 _ _).mono b16.size)), (hhw16).below (n2 w16 _ _), (boxB.new _ _ _).below (n1 _ _), new2 _ _ _ _⟩
      clear b16 H15 hhw16
      have d0 := (H16.out.2.2.2.2.2.2.2.2.2.1).cell 0
      have d1 := (H16.out.2.2.2.2.2.2.2.2.2.1).cell 1
      have e0 := (H16.out.2.2.2.1).cell 0
      have e1 := (H16.out.2.2.2.1).cell 1
      go_wp2_with fail
      refine (LawQueue.eq_queue qa0 ah0_1 ch0_1 qaL1 aw0_1 cw0_1 _ (H16.out.2.2.2.2.2.2.2.2.1.get (by simp)) (H16.out.2.2.1.get (by simp)) HL_qaL1.out).mono ?_
      rintro e w17 ⟨rfl, b17⟩
      have H17 : Hid (Bel W w17 ∧ boxB w17 (W.heap.size) #[.int .i64 pa0, .slice paA1 paL1.length paC1] 24 ∧ Holds w17 (w2.heap.size) [⟨aw0_1, 39, 6, (qaL1).map ReqKit.cells⟩] ∧ boxB w17 (w3.heap.size) #[.int .i64 qa0, .slice aw0_1 qaL1.length cw0_1] 29 ∧ boxB w17 (w3.heap.size + 1) #[.int .i64 qb0, .int .i64 qb1, .int .i64 qb2, .int .i64 qb3, .int .i64 qb4, .int .i64 qb5] 39 ∧ boxB w17 (w5.heap.size) #[.int .i64 qa0, .slice ag0_1 qaL1.length cg0_1] 29 ∧ boxB w17 (w5.heap.size + 1) #[.int .i64 qb0, .int .i64 qb1, .int .i64 qb2, .int .i64 qb3, .int .i64 qb4, .int .i64 qb5] 39 ∧ Holds w17 ((w4.alloc (.cells #[.int .i64 pa0, .slice (some ⟨gw4_1, 0, none⟩) paL1.length paL1.length] 29)).heap.size) [⟨ag0_1, 39, 6, ((ReqRows.marks (1) qaL1.length)).map ReqKit.cells⟩] ∧ Holds w17 (w15.heap.size) [⟨ah0_1, 39, 6, (qaL1).map ReqKit.cells⟩] ∧ boxB w17 (w16.heap.size) #[.int .i64 qa0, .slice ah0_1 qaL1.length ch0_1] 29 ∧ boxB w17 (w16.heap.size + 1) #[.int .i64 qb0, .int .i64 qb1, .int .i64 qb2, .int .i64 qb3, .int .i64 qb4, .int .i64 qb5] 39) := ⟨(H16.out.1).below b17, (H16.out.2.1).below b17, (H16.out.2.2.1).below b17, (H16.out.2.2.2.1).below b17, (H16.out.2.2.2.2.1).below b17, (H16.out.2.2.2.2.2.1).below b17, (H16.out.2.2.2.2.2.2.1).below b17, (H16.out.2.2.2.2.2.2.2.1).below b17, (H16.out.2.2.2.2.2.2.2.2.1).below b17, (H16.out.2.2.2.2.2.2.2.2.2.1).below b17, (H16.out.2.2.2.2.2.2.2.2.2.2).below b17⟩
      clear d0 d1 e0 e1 b17 H16
      have d0 := (H17.out.2.2.2.2.2.2.2.2.2.2).cell 0
      have d1 := (H17.out.2.2.2.2.2.2.2.2.2.2).cell 1
      have d2 := (H17.out.2.2.2.2.2.2.2.2.2.2).cell 2
      have d3 := (H17.out.2.2.2.2.2.2.2.2.2.2).cell 3
      have d4 := (H17.out.2.2.2.2.2.2.2.2.2.2).cell 4
      have d5 := (H17.out.2.2.2.2.2.2.2.2.2.2).cell 5
      have e0 := (H17.out.2.2.2.2.1).cell 0
      have e1 := (H17.out.2.2.2.2.1).cell 1
      have e2 := (H17.out.2.2.2.2.1).cell 2
      have e3 := (H17.out.2.2.2.2.1).cell 3
      have e4 := (H17.out.2.2.2.2.1).cell 4
      have e5 := (H17.out.2.2.2.2.1).cell 5
      go_wp2_with fail
      refine (FlatReq.eq_one qb0 qb1 qb2 qb3 qb4 qb5 _).mono ?_
      rintro e w18 ⟨rfl, b18⟩
      have H18 : Hid (Bel W w18 ∧ boxB w18 (W.heap.size) #[.int .i64 pa0, .slice paA1 paL1.length paC1] 24 ∧ Holds w18 (w2.heap.size) [⟨aw0_1, 39, 6, (qaL1).map ReqKit.cells⟩] ∧ boxB w18 (w3.heap.size) #[.int .i64 qa0, .slice aw0_1 qaL1.length cw0_1] 29 ∧ boxB w18 (w3.heap.size + 1) #[.int .i64 qb0, .int .i64 qb1, .int .i64 qb2, .int .i64 qb3, .int .i64 qb4, .int .i64 qb5] 39 ∧ boxB w18 (w5.heap.size) #[.int .i64 qa0, .slice ag0_1 qaL1.length cg0_1] 29 ∧ boxB w18 (w5.heap.size + 1) #[.int .i64 qb0, .int .i64 qb1, .int .i64 qb2, .int .i64 qb3, .int .i64 qb4, .int .i64 qb5] 39 ∧ Holds w18 ((w4.alloc (.cells #[.int .i64 pa0, .slice (some ⟨gw4_1, 0, none⟩) paL1.length paL1.length] 29)).heap.size) [⟨ag0_1, 39, 6, ((ReqRows.marks (1) qaL1.length)).map ReqKit.cells⟩] ∧ Holds w18 (w15.heap.size) [⟨ah0_1, 39, 6, (qaL1).map ReqKit.cells⟩] ∧ boxB w18 (w16.heap.size) #[.int .i64 qa0, .slice ah0_1 qaL1.length ch0_1] 29 ∧ boxB w18 (w16.heap.size + 1) #[.int .i64 qb0, .int .i64 qb1, .int .i64 qb2, .int .i64 qb3, .int .i64 qb4, .int .i64 qb5] 39) := ⟨(H17.out.1).below b18, (H17.out.2.1).below b18, (H17.out.2.2.1).below b18, (H17.out.2.2.2.1).below b18, (H17.out.2.2.2.2.1).below b18, (H17.out.2.2.2.2.2.1).below b18, (H17.out.2.2.2.2.2.2.1).below b18, (H17.out.2.2.2.2.2.2.2.1).below b18, (H17.out.2.2.2.2.2.2.2.2.1).below b18, (H17.out.2.2.2.2.2.2.2.2.2.1).below b18, (H17.out.2.2.2.2.2.2.2.2.2.2).below b18⟩
      clear d0 d1 d2 d3 d4 d5 e0 e1 e2 e3 e4 e5 b18 H17
      have z0 := (H18.out.2.2.2.2.2.1).cell 0
      have z1 := (H18.out.2.2.2.2.2.1).cell 1
      go_wp2_with fail
      refine (LawQueue.held_queue qa0 ag0_1 cg0_1 qaL1 (1) _ _ _ (H18.out.2.2.2.2.2.2.2.1) HL_qaL1.out (by have := HL_paL1.out; have := HL_qaL1.out; omega) (by first | rfl | omega)).mono ?_
      rintro e w19 ⟨rfl, b19⟩
      have H19 : Hid (Bel W w19 ∧ boxB w19 (W.heap.size) #[.int .i64 pa0, .slice paA1 paL1.length paC1] 24 ∧ Holds w19 (w2.heap.size) [⟨aw0_1, 39, 6, (qaL1).map ReqKit.cells⟩] ∧ boxB w19 (w3.heap.size) #[.int .i64 qa0, .slice aw0_1 qaL1.length cw0_1] 29 ∧ boxB w19 (w3.heap.size + 1) #[.int .i64 qb0, .int .i64 qb1, .int .i64 qb2, .int .i64 qb3, .int .i64 qb4, .int .i64 qb5] 39 ∧ boxB w19 (w5.heap.size) #[.int .i64 qa0, .slice ag0_1 qaL1.length cg0_1] 29 ∧ boxB w19 (w5.heap.size + 1) #[.int .i64 qb0, .int .i64 qb1, .int .i64 qb2, .int .i64 qb3, .int .i64 qb4, .int .i64 qb5] 39 ∧ Holds w19 ((w4.alloc (.cells #[.int .i64 pa0, .slice (some ⟨gw4_1, 0, none⟩) paL1.length paL1.length] 29)).heap.size) [⟨ag0_1, 39, 6, ((ReqRows.marks (1) qaL1.length)).map ReqKit.cells⟩] ∧ Holds w19 (w15.heap.size) [⟨ah0_1, 39, 6, (qaL1).map ReqKit.cells⟩] ∧ boxB w19 (w16.heap.size) #[.int .i64 qa0, .slice ah0_1 qaL1.length ch0_1] 29 ∧ boxB w19 (w16.heap.size + 1) #[.int .i64 qb0, .int .i64 qb1, .int .i64 qb2, .int .i64 qb3, .int .i64 qb4, .int .i64 qb5] 39) := ⟨(H18.out.1).below b19, (H18.out.2.1).below b19, (H18.out.2.2.1).below b19, (H18.out.2.2.2.1).below b19, (H18.out.2.2.2.2.1).below b19, (H18.out.2.2.2.2.2.1).below b19, (H18.out.2.2.2.2.2.2.1).below b19, (H18.out.2.2.2.2.2.2.2.1).below b19, (H18.out.2.2.2.2.2.2.2.2.1).below b19, (H18.out.2.2.2.2.2.2.2.2.2.1).below b19, (H18.out.2.2.2.2.2.2.2.2.2.2).below b19⟩
      clear z0 z1 b19 H18
      go_wp2
      go_ret
      exact ⟨rfl, (H19.out.1).out⟩
  · skip
    have b0 : Below W.heap.size W (W.alloc (.cells #[.int .i64 pa0, .slice paA1 paL1.length paC1] 24)) := n1 W _
    go_enter Try.func6, Try.ntmps6
    go_wp2_with fail
    refine (LawQueue.sz_queue pa0 paA1 paC1 paL1.length (1048576) _ hm_pa1 (by omega) (by omega)).mono ?_
    rintro e z1 ⟨rfl, y1⟩
    rw [if_neg (by omega)]
    have B1 : Hid (Below W.heap.size W z1) := b0.trans (y1.mono b0.size)
    clear y1
    go_wp2
    go_ret
    exact ⟨rfl, B1.out⟩

theorem own : ownKnob Try.prog.godebug = none := by kernel_rfl
theorem laidOut : laidOutB Try.prog = true := by kernel_rfl

set_option maxRecDepth 100000 in
theorem lifted (os : Os) (started : os.Started) (H : Type) (enc : TypeId × Value → H) :
    ReturnsInHanded {} Try.checked os 6 .any (Rows.fnExactPullSpec.pre6 enc Try.prog Try.f6 Rows.fnExactPullRow.domain false) (Rows.fnExactPullSpec.post enc Try.prog Try.f6 false true false false) := by
  refine returnsInHanded_of_change (C := Try.checked) own started (by kernel_rfl) Try.func6
    (ChangeSpec.witness6 (enc := enc) (C := Try.checked) false ⟨#[], #[.agg #[.int .i64 0, .slice none 0 0], .int .i64 0], []⟩ 8 (by kernel_rfl) (by kernel_rfl) (by kernel_rfl) (by kernel_rfl)) ?_
  intro W base args ds gs before hval0 hW hcnd _
  have hval : ∀ (j : Nat) t v, Try.f6.params[j]? = some t → args[j]? = some v → Value.okWide Try.prog W .any base t v := hval0
  have hW' := hW
  obtain ⟨p, q, hA0, hV, rfl, hfz, hnd⟩ := hW
  have hA : DataW.TrodAll enc Try.prog W 0 (fun _ => true) true Try.f6.params.toList args.toList ds p := hA0
  rw [Try.params6] at hA hval
  obtain ⟨v0, vs0, d0, ds0, p0, q0, hargs, rfl, rfl, h0, r0⟩ := trodAll_cons hA
  obtain ⟨v1, vs1, d1, ds1, p1, q1, rfl, rfl, rfl, h1, r1⟩ := trodAll_cons r0
  obtain ⟨rfl, rfl, rfl⟩ := trodAll_nil r1
  obtain rfl : args = #[v0, v1] := by cases args; simp_all
  obtain ⟨rfl, rfl⟩ := trodVars_none hV
  have k0_ := h0
  have lt0 : ∀ x ∈ p0, x.block < W.heap.size := by obtain ⟨m, hm⟩ := k0_; exact DataW.trod_lt m _ _ _ hm
  obtain ⟨x0_0, aL0_1, cL0_1, L0_1, rfl, hL0_1, mL0_1⟩ := OpenQueue.open_queue (hval 0 24 v0 rfl rfl) h0
  obtain ⟨a1, rfl, rfl, rfl, w1⟩ := open_int Try.underlying3 (hval 1 3 v1 rfl rfl) h1
  clear hA0 hval0
  refine (walk W x0_0 aL0_1 cL0_1 L0_1 hL0_1 mL0_1 a1 w1).mono fun e W' ⟨he, hb⟩ => ?_
  subst he
  exact ⟨_, rfl, _, _, _, [], _, [], hW', trodAll_cons_mk (shut_bool Try.underlying4 _) trodAll_mk0, (trodAll_cons_mk (Below.trod laidOut (by kernel_rfl) (of_decide_eq_true (by kernel_rfl)) k0_ hb lt0) (trodAll_cons_mk (shut_int Try.underlying3 w1) trodAll_mk0)), rfl, hb.frame _, fun h => by cases h⟩

theorem over : Rows.fnExactPullRow.holds Try.pinned (OpenSpec.ofChange Rows.fnExactPullSpec) :=
  OpenClaim.holds_of_wide 6 Try.f6 rfl rfl rfl rfl rfl rfl rfl ⟨rfl, rfl, rfl, rfl, rfl⟩ rfl rfl rfl rfl rfl (by kernel_rfl) Try.func6 (by kernel_rfl)
    (of_decide_eq_true (by kernel_rfl)) (by unfold Func.isWrapper; first | (rw [if_pos (by decide +kernel)]; kernel_rfl) | (rw [if_neg (by decide +kernel)]; exact ⟨rfl, rfl⟩))
    (fun os started H enc _ => lifted os started H enc)

theorem proved : Rows.FnExactPullSaid :=
  over
end Go.Proofs.Ytiodnkehfeigoaa.fnExactPull
