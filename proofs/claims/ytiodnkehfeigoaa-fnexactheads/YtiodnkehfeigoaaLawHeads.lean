/- At every queue the program's Heads answers as the model's, its answer owns its memory, and it writes into no argument (the law FnExactHeads returns true); no condition. -/
import Derived.Test.YtiodnkehfeigoaaRows
import Derived.WalkKit
import Derived.WalkSmall
import Derived.BigQuiet
import Derived.ProofKit
import Derived.OpenShut
import Derived.Deep.RegionWith
import Derived.Deep.DeepCutAuto
import Derived.Test.YtiodnkehfeigoaaListKit
import Derived.Test.YtiodnkehfeigoaaHoldKit
import Derived.Test.YtiodnkehfeigoaaRegFlow
import Derived.Test.YtiodnkehfeigoaaFlowHold
import Derived.Test.YtiodnkehfeigoaaReqKit
import Derived.Test.YtiodnkehfeigoaaReqRows
import Derived.Test.YtiodnkehfeigoaaLawQueue
import Derived.Test.YtiodnkehfeigoaaLawReqS
import Derived.Test.YtiodnkehfeigoaaOpenKit
import Derived.Test.YtiodnkehfeigoaaOpenQueue
import Derived.Test.YtiodnkehfeigoaaQueBothHeads
namespace Go.Proofs.Ytiodnkehfeigoaa.fnExactHeads
open Go.ChangeShapes Go.WideShapes Go.ChangeAt Go.RowKit ListKit HoldKit QueBothHeads
set_option linter.unusedVariables false
set_option linter.unusedSimpArgs false
set_option maxRecDepth 8000

set_option maxHeartbeats 8000000 in
theorem walk (W : World) (pa0 : Int) (paA1 : Option Addr) (paC1 : Nat) (paL1 : List ReqKit.Req) (h_pa1 : ReqRows.Arg W paA1 paL1) (m_pa1 : paL1.length ≤ maxLen) :
    Calls Try.prog 8 #[.agg #[.int .i64 pa0, .slice paA1 paL1.length paC1]] W fun e w' => e = .returned (.bool true) ∧ Below W.heap.size W w' := by
  have hm_pa1 : (paL1.length : Int) ≤ 9223372036854775807 := by unfold maxLen at m_pa1; omega
  by_cases hl0 : (paL1.length : Int) ≤ 1048576
  · skip
    have hk0 : ¬ (1048576 - ((paL1.length : Int))) < 0 := by omega
    obtain ⟨qaL0, HSP, HIM, hpl⟩ := both_heads pa0 paL1 (by omega)
    have HL_qaL0 : Hid (qaL0.length ≤ 1048577) := hpl
    have HA_pa1 : Hid (ReqRows.Arg W paA1 paL1) := h_pa1
    have HL_paL1 : Hid (paL1.length ≤ 1048577) := by show _ ≤ _; omega
    have kx1 : ¬ (1 + 6 * (paL1.length : Int)) < 0 := by omega
    have ky1 : ((1 + 6 * (paL1.length : Int)) != (1 + 6 * (paL1.length : Int))) = false := by simp
    have kx2 : ¬ (1 + 6 * (qaL0.length : Int)) < 0 := by omega
    have ky2 : ((1 + 6 * (qaL0.length : Int)) != (1 + 6 * (qaL0.length : Int))) = false := by simp
    have H0 : Hid (Bel W (W.alloc (.cells #[.int .i64 pa0, .slice paA1 paL1.length paC1] 24)) ∧ boxB (W.alloc (.cells #[.int .i64 pa0, .slice paA1 paL1.length paC1] 24)) (W.heap.size) #[.int .i64 pa0, .slice paA1 paL1.length paC1] 24) := ⟨n1 W _, boxB.new _ _ _⟩
    clear h_pa1 m_pa1
    go_enter Try.func8, Try.ntmps8
    have c0 := (H0.out.2).cell 0
    have c1 := (H0.out.2).cell 1
    go_wp2_with fail
    refine (LawQueue.sz_queue pa0 paA1 paC1 paL1.length (1048576) _ hm_pa1 (by omega) (by omega)).mono ?_
    rintro e w1 ⟨rfl, b1⟩
    rw [if_pos (by omega)]
    have H1 : Hid (Bel W w1 ∧ boxB w1 (W.heap.size) #[.int .i64 pa0, .slice paA1 paL1.length paC1] 24) := ⟨(H0.out.1).below b1, (H0.out.2).below b1⟩
    clear c0 c1 b1 H0
    have c0 := (H1.out.2).cell 0
    have c1 := (H1.out.2).cell 1
    go_wp2_with fail
    refine (LawQueue.to_queue pa0 paA1 paC1 paL1 _ (HA_pa1.out.below (H1.out.1)) HL_paL1.out).mono ?_
    rintro e w2 ⟨gw2_1, rfl, hhw2, b2⟩
    have LW_tpa : Hid (W.heap.size ≤ w1.heap.size) := (H1.out.1).size
    have O0_ : Hid (Off (W.heap.size) [⟨(some ⟨gw2_1, 0, none⟩), 39, 6, (paL1).map ReqKit.cells⟩]) := Off.under (hhw2) (by have h9 := (H1.out.2).lt; omega)
    have H2 : Hid (Bel W w2 ∧ boxB w2 (W.heap.size) #[.int .i64 pa0, .slice paA1 paL1.length paC1] 24 ∧ Holds w2 (w1.heap.size) [⟨(some ⟨gw2_1, 0, none⟩), 39, 6, (paL1).map ReqKit.cells⟩]) := ⟨(H1.out.1).below b2, (H1.out.2).below b2, hhw2⟩
    clear c0 c1 b2 H1 hhw2
    go_wp2_with fail
    refine (HSP (some ⟨gw2_1, 0, none⟩) paL1.length _ (H2.out.2.2.get (by simp)) (Nat.le_refl _)).mono ?_
    rintro e w3 ⟨aw0_0, cw0_0, rfl, hc_cw0_0, hhw3, b3⟩
    have LW_w : Hid (W.heap.size ≤ w2.heap.size) := (H2.out.1).size
    have O1_ : Hid (Off (W.heap.size) [⟨aw0_0, 39, 6, (qaL0).map ReqKit.cells⟩]) := Off.under (hhw3) (by have h9 := (H2.out.2.1).lt; omega)
    have H3 : Hid (Bel W w3 ∧ boxB w3 (W.heap.size) #[.int .i64 pa0, .slice paA1 paL1.length paC1] 24 ∧ Holds w3 (w2.heap.size) [⟨aw0_0, 39, 6, (qaL0).map ReqKit.cells⟩]) := ⟨(H2.out.1).below b3, (H2.out.2.1).below b3, hhw3⟩
    clear b3 H2 hhw3
    have c0 := (H3.out.2.1).cell 0
    have c1 := (H3.out.2.1).cell 1
    go_wp2_with fail
    refine (LawQueue.to_queue pa0 paA1 paC1 paL1 _ (HA_pa1.out.below (H3.out.1)) HL_paL1.out).mono ?_
    rintro e w4 ⟨gw4_1, rfl, hhw4, b4⟩
    have LW_x0 : Hid (W.heap.size ≤ w3.heap.size) := (H3.out.1).size
    have O2_ : Hid (Off (W.heap.size) [⟨(some ⟨gw4_1, 0, none⟩), 39, 6, (paL1).map ReqKit.cells⟩]) := Off.under (hhw4) (by have h9 := (H3.out.2.1).lt; omega)
    have Q0_ : Hid (Apart [⟨aw0_0, 39, 6, (qaL0).map ReqKit.cells⟩] [⟨(some ⟨gw4_1, 0, none⟩), 39, 6, (paL1).map ReqKit.cells⟩]) := Apart.under (H3.out.2.2) (hhw4) (Nat.le_refl _)
    have O3_ : Hid (Off (w4.heap.size) [⟨aw0_0, 39, 6, (qaL0).map ReqKit.cells⟩]) := Off.above (H3.out.2.2) (by have h9 := b4.size; omega)
    have O4_ : Hid (Off (w4.heap.size) [⟨(some ⟨gw4_1, 0, none⟩), 39, 6, (paL1).map ReqKit.cells⟩]) := Off.above (hhw4) (by omega)
    have H4 : Hid (Bel W (w4.alloc (.cells #[.int .i64 pa0, .slice (some ⟨gw4_1, 0, none⟩) paL1.length paL1.length] 29)) ∧ boxB (w4.alloc (.cells #[.int .i64 pa0, .slice (some ⟨gw4_1, 0, none⟩) paL1.length paL1.length] 29)) (W.heap.size) #[.int .i64 pa0, .slice paA1 paL1.length paC1] 24 ∧ Holds (w4.alloc (.cells #[.int .i64 pa0, .slice (some ⟨gw4_1, 0, none⟩) paL1.length paL1.length] 29)) (w2.heap.size) [⟨aw0_0, 39, 6, (qaL0).map ReqKit.cells⟩] ∧ Holds (w4.alloc (.cells #[.int .i64 pa0, .slice (some ⟨gw4_1, 0, none⟩) paL1.length paL1.length] 29)) (w3.heap.size) [⟨(some ⟨gw4_1, 0, none⟩), 39, 6, (paL1).map ReqKit.cells⟩] ∧ boxB (w4.alloc (.cells #[.int .i64 pa0, .slice (some ⟨gw4_1, 0, none⟩) paL1.length paL1.length] 29)) (w4.heap.size) #[.int .i64 pa0, .slice (some ⟨gw4_1, 0, none⟩) paL1.length paL1.length] 29) := ⟨(H3.out.1).below (b4.trans ((n1 w4 _).mono b4.size)), (H3.out.2.1).below (b4.trans ((n1 w4 _).mono b4.size)), (H3.out.2.2).below (b4.trans ((n1 w4 _).mono b4.size)), (hhw4).below (n1 w4 _), boxB.new _ _ _⟩
    clear c0 c1 b4 H3 hhw4
    have c0 := (H4.out.2.2.2.2).cell 0
    have c1 := (H4.out.2.2.2.2).cell 1
    go_wp2_with fail
    refine (HIM (some ⟨gw4_1, 0, none⟩) paL1.length _ (H4.out.2.2.2.1.get (by simp)) (Nat.le_refl _)).mono ?_
    rintro e w5 ⟨ag0_0, cg0_0, rfl, hc_cg0_0, hhw5, b5⟩
    have LW_g : Hid (W.heap.size ≤ (w4.alloc (.cells #[.int .i64 pa0, .slice (some ⟨gw4_1, 0, none⟩) paL1.length paL1.length] 29)).heap.size) := (H4.out.1).size
    have O5_ : Hid (Off (W.heap.size) [⟨ag0_0, 39, 6, (qaL0).map ReqKit.cells⟩]) := Off.under (hhw5) (by have h9 := (H4.out.2.1).lt; omega)
    have Q1_ : Hid (Apart [⟨aw0_0, 39, 6, (qaL0).map ReqKit.cells⟩] [⟨ag0_0, 39, 6, (qaL0).map ReqKit.cells⟩]) := Apart.under (H4.out.2.2.1) (hhw5) (Nat.le_refl _)
    have Q2_ : Hid (Apart [⟨(some ⟨gw4_1, 0, none⟩), 39, 6, (paL1).map ReqKit.cells⟩] [⟨ag0_0, 39, 6, (qaL0).map ReqKit.cells⟩]) := Apart.under (H4.out.2.2.2.1) (hhw5) (Nat.le_refl _)
    have O6_ : Hid (Off (w4.heap.size) [⟨ag0_0, 39, 6, (qaL0).map ReqKit.cells⟩]) := Off.under (hhw5) (by have h9 := (H4.out.2.2.2.2).lt; omega)
    have H5 : Hid (Bel W w5 ∧ boxB w5 (W.heap.size) #[.int .i64 pa0, .slice paA1 paL1.length paC1] 24 ∧ Holds w5 (w2.heap.size) [⟨aw0_0, 39, 6, (qaL0).map ReqKit.cells⟩] ∧ Holds w5 (w3.heap.size) [⟨(some ⟨gw4_1, 0, none⟩), 39, 6, (paL1).map ReqKit.cells⟩] ∧ boxB w5 (w4.heap.size) #[.int .i64 pa0, .slice (some ⟨gw4_1, 0, none⟩) paL1.length paL1.length] 29 ∧ Holds w5 ((w4.alloc (.cells #[.int .i64 pa0, .slice (some ⟨gw4_1, 0, none⟩) paL1.length paL1.length] 29)).heap.size) [⟨ag0_0, 39, 6, (qaL0).map ReqKit.cells⟩]) := ⟨(H4.out.1).below b5, (H4.out.2.1).below b5, (H4.out.2.2.1).below b5, (H4.out.2.2.2.1).below b5, (H4.out.2.2.2.2).below b5, hhw5⟩
    clear c0 c1 b5 H4 hhw5
    go_wp2_with fail
    refine (LawReqS.eq_reqs  ag0_0 cg0_0 qaL0 aw0_0 cw0_0 _ (H5.out.2.2.2.2.2.get (by simp)) (H5.out.2.2.1.get (by simp)) HL_qaL0.out).mono ?_
    rintro e w6 ⟨rfl, b6⟩
    have H6 : Hid (Bel W w6.drew ∧ boxB w6.drew (W.heap.size) #[.int .i64 pa0, .slice paA1 paL1.length paC1] 24 ∧ Holds w6.drew (w2.heap.size) [⟨aw0_0, 39, 6, (qaL0).map ReqKit.cells⟩] ∧ Holds w6.drew (w3.heap.size) [⟨(some ⟨gw4_1, 0, none⟩), 39, 6, (paL1).map ReqKit.cells⟩] ∧ boxB w6.drew (w4.heap.size) #[.int .i64 pa0, .slice (some ⟨gw4_1, 0, none⟩) paL1.length paL1.length] 29 ∧ Holds w6.drew ((w4.alloc (.cells #[.int .i64 pa0, .slice (some ⟨gw4_1, 0, none⟩) paL1.length paL1.length] 29)).heap.size) [⟨ag0_0, 39, 6, (qaL0).map ReqKit.cells⟩]) := ⟨(H5.out.1).below b6.drew, (H5.out.2.1).below b6.drew, (H5.out.2.2.1).below b6.drew, (H5.out.2.2.2.1).below b6.drew, (H5.out.2.2.2.2.1).below b6.drew, (H5.out.2.2.2.2.2).below b6.drew⟩
    clear b6 H5
    have c0 := (H6.out.2.1).cell 0
    have c1 := (H6.out.2.1).cell 1
    have x0 := (H6.out.2.2.2.2.1).cell 0
    have x1 := (H6.out.2.2.2.2.1).cell 1
    go_wp2
    go_region_with (first | (go_at_call 13; refine (LawQueue.to_queue pa0 paA1 paC1 paL1 _ (HA_pa1.out.below (H6.out.1)) HL_paL1.out).mono ?_; rintro e w7 ⟨gw7_1, rfl, hhw7, b7⟩; have H7 : Hid (Bel W w7 ∧ boxB w7 (W.heap.size) #[.int .i64 pa0, .slice paA1 paL1.length paC1] 24 ∧ Holds w7 (w2.heap.size) [⟨aw0_0, 39, 6, (qaL0).map ReqKit.cells⟩] ∧ Holds w7 (w3.heap.size) [⟨(some ⟨gw4_1, 0, none⟩), 39, 6, (paL1).map ReqKit.cells⟩] ∧ boxB w7 (w4.heap.size) #[.int .i64 pa0, .slice (some ⟨gw4_1, 0, none⟩) paL1.length paL1.length] 29 ∧ Holds w7 ((w4.alloc (.cells #[.int .i64 pa0, .slice (some ⟨gw4_1, 0, none⟩) paL1.length paL1.length] 29)).heap.size) [⟨ag0_0, 39, 6, (qaL0).map ReqKit.cells⟩] ∧ Holds w7 (w6.drew.heap.size) [⟨(some ⟨gw7_1, 0, none⟩), 39, 6, (paL1).map ReqKit.cells⟩]) := ⟨(H6.out.1).below b7, (H6.out.2.1).below b7, (H6.out.2.2.1).below b7, (H6.out.2.2.2.1).below b7, (H6.out.2.2.2.2.1).below b7, (H6.out.2.2.2.2.2).below b7, hhw7⟩; have y0 := (H7.out.2.2.2.2.1).cell 0; have y1 := (H7.out.2.2.2.2.1).cell 1; clear b7 hhw7) | (go_at_call 15; refine (LawQueue.eq_queue pa0 (some ⟨gw4_1, 0, none⟩) paL1.length paL1 (some ⟨gw7_1, 0, none⟩) paL1.length _ (H7.out.2.2.2.1.get (by simp)) (H7.out.2.2.2.2.2.2.get (by simp)) HL_paL1.out).mono ?_; rintro e w8 ⟨rfl, b8⟩; have H8 : Hid (Bel W w8 ∧ boxB w8 (W.heap.size) #[.int .i64 pa0, .slice paA1 paL1.length paC1] 24 ∧ Holds w8 (w2.heap.size) [⟨aw0_0, 39, 6, (qaL0).map ReqKit.cells⟩] ∧ Holds w8 (w3.heap.size) [⟨(some ⟨gw4_1, 0, none⟩), 39, 6, (paL1).map ReqKit.cells⟩] ∧ boxB w8 (w4.heap.size) #[.int .i64 pa0, .slice (some ⟨gw4_1, 0, none⟩) paL1.length paL1.length] 29 ∧ Holds w8 ((w4.alloc (.cells #[.int .i64 pa0, .slice (some ⟨gw4_1, 0, none⟩) paL1.length paL1.length] 29)).heap.size) [⟨ag0_0, 39, 6, (qaL0).map ReqKit.cells⟩]) := ⟨(H7.out.1).below b8, (H7.out.2.1).below b8, (H7.out.2.2.1).below b8, (H7.out.2.2.2.1).below b8, (H7.out.2.2.2.2.1).below b8, (H7.out.2.2.2.2.2.1).below b8⟩; clear b8))
    all_goals
      clear c0 c1 x0 x1 y0 y1 H6 H7
      have z0 := (H8.out.2.2.2.2.1).cell 0
      have z1 := (H8.out.2.2.2.2.1).cell 1
      go_wp2_with fail
      refine (LawQueue.mark_queue pa0 (some ⟨gw4_1, 0, none⟩) paL1.length paL1 (1) _ _ _ (H8.out.2.2.2.1) HL_paL1.out (by have := HL_paL1.out; have := HL_qaL0.out; omega) (by first | rfl | omega)).mono ?_
      rintro e w9 ⟨rfl, hmw9, htw9⟩
      have H9 : Hid (Bel W w9 ∧ boxB w9 (W.heap.size) #[.int .i64 pa0, .slice paA1 paL1.length paC1] 24 ∧ Holds w9 (w2.heap.size) [⟨aw0_0, 39, 6, (qaL0).map ReqKit.cells⟩] ∧ Holds w9 ((w4.alloc (.cells #[.int .i64 pa0, .slice (some ⟨gw4_1, 0, none⟩) paL1.length paL1.length] 29)).heap.size) [⟨ag0_0, 39, 6, (qaL0).map ReqKit.cells⟩]) := ⟨Bel.turn (H8.out.1) htw9 (fun x hx => Off.under (H8.out.2.2.2.1) (by have h9 := LW_x0.out; omega)), (H8.out.2.1).turn htw9 O2_.out, (H8.out.2.2.1).turn htw9 Q0_.out.symm, (H8.out.2.2.2.2.2).turn htw9 Q2_.out⟩
      clear z0 z1 hmw9 htw9 H8
      go_wp2_with fail
      refine (LawReqS.eq_reqs  ag0_0 cg0_0 qaL0 aw0_0 cw0_0 _ (H9.out.2.2.2.get (by simp)) (H9.out.2.2.1.get (by simp)) HL_qaL0.out).mono ?_
      rintro e w10 ⟨rfl, b10⟩
      have H10 : Hid (Bel W w10 ∧ boxB w10 (W.heap.size) #[.int .i64 pa0, .slice paA1 paL1.length paC1] 24 ∧ Holds w10 (w2.heap.size) [⟨aw0_0, 39, 6, (qaL0).map ReqKit.cells⟩] ∧ Holds w10 ((w4.alloc (.cells #[.int .i64 pa0, .slice (some ⟨gw4_1, 0, none⟩) paL1.length paL1.length] 29)).heap.size) [⟨ag0_0, 39, 6, (qaL0).map ReqKit.cells⟩]) := ⟨(H9.out.1).below b10, (H9.out.2.1).below b10, (H9.out.2.2.1).below b10, (H9.out.2.2.2).below b10⟩
      clear b10 H9
      go_wp2_with fail
      refine (LawReqS.mark_reqs  ag0_0 cg0_0 qaL0 (1) _ _ _ (H10.out.2.2.2) HL_qaL0.out (by have := HL_paL1.out; have := HL_qaL0.out; omega) (by first | rfl | omega)).mono ?_
      rintro e w11 ⟨rfl, hmw11, htw11⟩
      have H11 : Hid (Bel W w11 ∧ boxB w11 (W.heap.size) #[.int .i64 pa0, .slice paA1 paL1.length paC1] 24 ∧ Holds w11 (w2.heap.size) [⟨aw0_0, 39, 6, (qaL0).map ReqKit.cells⟩] ∧ Holds w11 ((w4.alloc (.cells #[.int .i64 pa0, .slice (some ⟨gw4_1, 0, none⟩) paL1.length paL1.length] 29)).heap.size) [⟨ag0_0, 39, 6, ((ReqRows.marks (1) qaL0.length)).map ReqKit.cells⟩]) := ⟨Bel.turn (H10.out.1) htw11 (fun x hx => Off.under (H10.out.2.2.2) (by have h9 := LW_g.out; omega)), (H10.out.2.1).turn htw11 O5_.out, (H10.out.2.2.1).turn htw11 Q1_.out.symm, hmw11⟩
      clear hmw11 htw11 H10
      go_wp2_with fail
      refine (LawReqS.held_reqs  ag0_0 cg0_0 qaL0 (1) _ _ _ (H11.out.2.2.2) HL_qaL0.out (by have := HL_paL1.out; have := HL_qaL0.out; omega) (by first | rfl | omega)).mono ?_
      rintro e w12 ⟨rfl, b12⟩
      have H12 : Hid (Bel W w12 ∧ boxB w12 (W.heap.size) #[.int .i64 pa0, .slice paA1 paL1.length paC1] 24 ∧ Holds w12 (w2.heap.size) [⟨aw0_0, 39, 6, (qaL0).map ReqKit.cells⟩] ∧ Holds w12 ((w4.alloc (.cells #[.int .i64 pa0, .slice (some ⟨gw4_1, 0, none⟩) paL1.length paL1.length] 29)).heap.size) [⟨ag0_0, 39, 6, ((ReqRows.marks (1) qaL0.length)).map ReqKit.cells⟩]) := ⟨(H11.out.1).below b12, (H11.out.2.1).below b12, (H11.out.2.2.1).below b12, (H11.out.2.2.2).below b12⟩
      clear b12 H11
      have c0 := (H12.out.2.1).cell 0
      have c1 := (H12.out.2.1).cell 1
      go_wp2_with fail
      refine (LawQueue.to_queue pa0 paA1 paC1 paL1 _ (HA_pa1.out.below (H12.out.1)) HL_paL1.out).mono ?_
      rintro e w13 ⟨gw13_1, rfl, hhw13, b13⟩
      have LW_tpa : Hid (W.heap.size ≤ w12.heap.size) := (H12.out.1).size
      have O7_ : Hid (Off (W.heap.size) [⟨(some ⟨gw13_1, 0, none⟩), 39, 6, (paL1).map ReqKit.cells⟩]) := Off.under (hhw13) (by have h9 := (H12.out.2.1).lt; omega)
      have Q3_ : Hid (Apart [⟨aw0_0, 39, 6, (qaL0).map ReqKit.cells⟩] [⟨(some ⟨gw13_1, 0, none⟩), 39, 6, (paL1).map ReqKit.cells⟩]) := Apart.under (H12.out.2.2.1) (hhw13) (Nat.le_refl _)
      have Q4_ : Hid (Apart [⟨ag0_0, 39, 6, ((ReqRows.marks (1) qaL0.length)).map ReqKit.cells⟩] [⟨(some ⟨gw13_1, 0, none⟩), 39, 6, (paL1).map ReqKit.cells⟩]) := Apart.under (H12.out.2.2.2) (hhw13) (Nat.le_refl _)
      have H13 : Hid (Bel W w13 ∧ boxB w13 (W.heap.size) #[.int .i64 pa0, .slice paA1 paL1.length paC1] 24 ∧ Holds w13 (w2.heap.size) [⟨aw0_0, 39, 6, (qaL0).map ReqKit.cells⟩] ∧ Holds w13 ((w4.alloc (.cells #[.int .i64 pa0, .slice (some ⟨gw4_1, 0, none⟩) paL1.length paL1.length] 29)).heap.size) [⟨ag0_0, 39, 6, ((ReqRows.marks (1) qaL0.length)).map ReqKit.cells⟩] ∧ Holds w13 (w12.heap.size) [⟨(some ⟨gw13_1, 0, none⟩), 39, 6, (paL1).map ReqKit.cells⟩]) := ⟨(H12.out.1).below b13, (H12.out.2.1).below b13, (H12.out.2.2.1).below b13, (H12.out.2.2.2).below b13, hhw13⟩
      clear c0 c1 b13 H12 hhw13
      go_wp2_with fail
      refine (HIM (some ⟨gw13_1, 0, none⟩) paL1.length _ (H13.out.2.2.2.2.get (by simp)) (Nat.le_refl _)).mono ?_
      rintro e w14 ⟨ah0_0, ch0_0, rfl, hc_ch0_0, hhw14, b14⟩
      have LW_h : Hid (W.heap.size ≤ w13.heap.size) := (H13.out.1).size
      have O7_ : Hid (Off (W.heap.size) [⟨ah0_0, 39, 6, (qaL0).map ReqKit.cells⟩]) := Off.under (hhw14) (by have h9 := (H13.out.2.1).lt; omega)
      have Q5_ : Hid (Apart [⟨aw0_0, 39, 6, (qaL0).map ReqKit.cells⟩] [⟨ah0_0, 39, 6, (qaL0).map ReqKit.cells⟩]) := Apart.under (H13.out.2.2.1) (hhw14) (Nat.le_refl _)
      have Q6_ : Hid (Apart [⟨ag0_0, 39, 6, ((ReqRows.marks (1) qaL0.length)).map ReqKit.cells⟩] [⟨ah0_0, 39, 6, (qaL0).map ReqKit.cells⟩]) := Apart.under (H13.out.2.2.2.1) (hhw14) (Nat.le_refl _)
      have H14 : Hid (Bel W w14 ∧ boxB w14 (W.heap.size) #[.int .i64 pa0, .slice paA1 paL1.length paC1] 24 ∧ Holds w14 (w2.heap.size) [⟨aw0_0, 39, 6, (qaL0).map ReqKit.cells⟩] ∧ Holds w14 ((w4.alloc (.cells #[.int .i64 pa0, .slice (some ⟨gw4_1, 0, none⟩) paL1.length paL1.length] 29)).heap.size) [⟨ag0_0, 39, 6, ((ReqRows.marks (1) qaL0.length)).map ReqKit.cells⟩] ∧ Holds w14 (w13.heap.size) [⟨ah0_0, 39, 6, (qaL0).map ReqKit.cells⟩]) := ⟨(H13.out.1).below b14, (H13.out.2.1).below b14, (H13.out.2.2.1).below b14, (H13.out.2.2.2.1).below b14, hhw14⟩
      clear b14 H13 hhw14
      go_wp2_with fail
      refine (LawReqS.eq_reqs  ah0_0 ch0_0 qaL0 aw0_0 cw0_0 _ (H14.out.2.2.2.2.get (by simp)) (H14.out.2.2.1.get (by simp)) HL_qaL0.out).mono ?_
      rintro e w15 ⟨rfl, b15⟩
      have H15 : Hid (Bel W w15 ∧ boxB w15 (W.heap.size) #[.int .i64 pa0, .slice paA1 paL1.length paC1] 24 ∧ Holds w15 (w2.heap.size) [⟨aw0_0, 39, 6, (qaL0).map ReqKit.cells⟩] ∧ Holds w15 ((w4.alloc (.cells #[.int .i64 pa0, .slice (some ⟨gw4_1, 0, none⟩) paL1.length paL1.length] 29)).heap.size) [⟨ag0_0, 39, 6, ((ReqRows.marks (1) qaL0.length)).map ReqKit.cells⟩] ∧ Holds w15 (w13.heap.size) [⟨ah0_0, 39, 6, (qaL0).map ReqKit.cells⟩]) := ⟨(H14.out.1).below b15, (H14.out.2.1).below b15, (H14.out.2.2.1).below b15, (H14.out.2.2.2.1).below b15, (H14.out.2.2.2.2).below b15⟩
      clear b15 H14
      go_wp2_with fail
      refine (LawReqS.held_reqs  ag0_0 cg0_0 qaL0 (1) _ _ _ (H15.out.2.2.2.1) HL_qaL0.out (by have := HL_paL1.out; have := HL_qaL0.out; omega) (by first | rfl | omega)).mono ?_
      rintro e w16 ⟨rfl, b16⟩
      have H16 : Hid (Bel W w16 ∧ boxB w16 (W.heap.size) #[.int .i64 pa0, .slice paA1 paL1.length paC1] 24 ∧ Holds w16 (w2.heap.size) [⟨aw0_0, 39, 6, (qaL0).map ReqKit.cells⟩] ∧ Holds w16 ((w4.alloc (.cells #[.int .i64 pa0, .slice (some ⟨gw4_1, 0, none⟩) paL1.length paL1.length] 29)).heap.size) [⟨ag0_0, 39, 6, ((ReqRows.marks (1) qaL0.length)).map ReqKit.cells⟩] ∧ Holds w16 (w13.heap.size) [⟨ah0_0, 39, 6, (qaL0).map ReqKit.cells⟩]) := ⟨(H15.out.1).below b16, (H15.out.2.1).below b16, (H15.out.2.2.1).below b16, (H15.out.2.2.2.1).below b16, (H15.out.2.2.2.2).below b16⟩
      clear b16 H15
      go_wp2
      go_ret
      exact ⟨rfl, (H16.out.1).out⟩
  · skip
    have b0 : Below W.heap.size W (W.alloc (.cells #[.int .i64 pa0, .slice paA1 paL1.length paC1] 24)) := n1 W _
    go_enter Try.func8, Try.ntmps8
    go_wp2_with fail
    refine (LawQueue.sz_queue pa0 paA1 paC1 paL1.length (1048576) _ hm_pa1 (by omega) (by omega)).mono ?_
    rintro e z1 ⟨rfl, y1⟩
    rw [if_neg (by omega)]
    have B1 : Hid (Below W.heap.size W z1) := b0.trans (y1.mono b0.size)
    clear y1
    go_wp2
    go_ret
    exact ⟨rfl, B1.out⟩

theorem own : ownKnob Try.prog.godebug = none := by kernel_rfl
theorem laidOut : laidOutB Try.prog = true := by kernel_rfl

set_option maxRecDepth 100000 in
theorem lifted (os : Os) (started : os.Started) (H : Type) (enc : TypeId × Value → H) :
    ReturnsInHanded {} Try.checked os 8 .any (Rows.fnExactHeadsSpec.pre6 enc Try.prog Try.f8 Rows.fnExactHeadsRow.domain false) (Rows.fnExactHeadsSpec.post enc Try.prog Try.f8 false true false false) := by
  refine returnsInHanded_of_change (C := Try.checked) own started (by kernel_rfl) Try.func8
    (ChangeSpec.witness6 (enc := enc) (C := Try.checked) false ⟨#[], #[.agg #[.int .i64 0, .slice none 0 0]], []⟩ 8 (by kernel_rfl) (by kernel_rfl) (by kernel_rfl) (by kernel_rfl)) ?_
  intro W base args ds gs before hval0 hW hcnd _
  have hval : ∀ (j : Nat) t v, Try.f8.params[j]? = some t → args[j]? = some v → Value.okWide Try.prog W .any base t v := hval0
  have hW' := hW
  obtain ⟨p, q, hA0, hV, rfl, hfz, hnd⟩ := hW
  have hA : DataW.TrodAll enc Try.prog W 0 (fun _ => true) true Try.f8.params.toList args.toList ds p := hA0
  rw [Try.params8] at hA hval
  obtain ⟨v0, vs0, d0, ds0, p0, q0, hargs, rfl, rfl, h0, r0⟩ := trodAll_cons hA
  obtain ⟨rfl, rfl, rfl⟩ := trodAll_nil r0
  obtain rfl : args = #[v0] := by cases args; simp_all
  obtain ⟨rfl, rfl⟩ := trodVars_none hV
  have k0_ := h0
  have lt0 : ∀ x ∈ p0, x.block < W.heap.size := by obtain ⟨m, hm⟩ := k0_; exact DataW.trod_lt m _ _ _ hm
  obtain ⟨x0_0, aL0_1, cL0_1, L0_1, rfl, hL0_1, mL0_1⟩ := OpenQueue.open_queue (hval 0 24 v0 rfl rfl) h0
  clear hA0 hval0
  refine (walk W x0_0 aL0_1 cL0_1 L0_1 hL0_1 mL0_1).mono fun e W' ⟨he, hb⟩ => ?_
  subst he
  exact ⟨_, rfl, _, _, _, [], _, [], hW', trodAll_cons_mk (shut_bool Try.underlying4 _) trodAll_mk0, (trodAll_cons_mk (Below.trod laidOut (by kernel_rfl) (of_decide_eq_true (by kernel_rfl)) k0_ hb lt0) trodAll_mk0), rfl, hb.frame _, fun h => by cases h⟩

theorem over : Rows.fnExactHeadsRow.holds Try.pinned (OpenSpec.ofChange Rows.fnExactHeadsSpec) :=
  OpenClaim.holds_of_wide 8 Try.f8 rfl rfl rfl rfl rfl rfl rfl ⟨rfl, rfl, rfl, rfl, rfl⟩ rfl rfl rfl rfl rfl (by kernel_rfl) Try.func8 (by kernel_rfl)
    (of_decide_eq_true (by kernel_rfl)) (by unfold Func.isWrapper; first | (rw [if_pos (by decide +kernel)]; kernel_rfl) | (rw [if_neg (by decide +kernel)]; exact ⟨rfl, rfl⟩))
    (fun os started H enc _ => lifted os started H enc)

theorem proved : Rows.FnExactHeadsSaid :=
  over
end Go.Proofs.Ytiodnkehfeigoaa.fnExactHeads
