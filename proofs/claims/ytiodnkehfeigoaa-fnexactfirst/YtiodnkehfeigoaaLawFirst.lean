/- At every queue, list of clients that fly and number the program's First answers as the model's, and it writes into no argument (the law FnExactFirst returns true); no condition. -/
import Derived.Test.YtiodnkehfeigoaaRows
import Derived.WalkKit
import Derived.WalkSmall
import Derived.BigQuiet
import Derived.ProofKit
import Derived.OpenShut
import Derived.Deep.RegionWith
import Derived.Deep.DeepCutAuto
import Derived.Test.YtiodnkehfeigoaaListKit
import Derived.Test.YtiodnkehfeigoaaHoldKit
import Derived.Test.YtiodnkehfeigoaaRegFlow
import Derived.Test.YtiodnkehfeigoaaFlowHold
import Derived.Test.YtiodnkehfeigoaaReqKit
import Derived.Test.YtiodnkehfeigoaaReqRows
import Derived.Test.YtiodnkehfeigoaaIntKit
import Derived.Test.YtiodnkehfeigoaaIntRows
import Derived.Test.YtiodnkehfeigoaaLawQueue
import Derived.Test.YtiodnkehfeigoaaLawIntS
import Derived.Test.YtiodnkehfeigoaaFlatReq
import Derived.Test.YtiodnkehfeigoaaOpenKit
import Derived.Test.YtiodnkehfeigoaaOpenQueue
import Derived.Test.YtiodnkehfeigoaaOpenInts
import Derived.Test.YtiodnkehfeigoaaQueBothFirst
namespace Go.Proofs.Ytiodnkehfeigoaa.fnExactFirst
open Go.ChangeShapes Go.WideShapes Go.ChangeAt Go.RowKit ListKit HoldKit QueBothFirst
set_option linter.unusedVariables false
set_option linter.unusedSimpArgs false
set_option maxRecDepth 8000

set_option maxHeartbeats 8000000 in
theorem walk (W : World) (pa0 : Int) (paA1 : Option Addr) (paC1 : Nat) (paL1 : List ReqKit.Req) (h_pa1 : ReqRows.Arg W paA1 paL1) (m_pa1 : paL1.length ≤ maxLen) (pbA0 : Option Addr) (pbC0 : Nat) (pbL0 : List Int) (h_pb0 : IntRows.Arg W pbA0 pbL0) (m_pb0 : pbL0.length ≤ maxLen) (f_pb0 : ∀ (k : Nat) (h : k < pbL0.length), (Lit.int .i64 pbL0[k]).wf = true) (i2 : Int) (wi2 : (Lit.int .i64 i2).wf = true) :
    Calls Try.prog 10 #[.agg #[.int .i64 pa0, .slice paA1 paL1.length paC1], .slice pbA0 pbL0.length pbC0, .int .i64 i2] W fun e w' => e = .returned (.bool true) ∧ Below W.heap.size W w' := by
  have hm_pa1 : (paL1.length : Int) ≤ 9223372036854775807 := by unfold maxLen at m_pa1; omega
  have hm_pb0 : (pbL0.length : Int) ≤ 9223372036854775807 := by unfold maxLen at m_pb0; omega
  by_cases hl0 : (pbL0.length : Int) ≤ 1048576
  · skip
    have hk0 : ¬ 1048576 < (pbL0.length : Int) := by omega
    by_cases hl1 : (paL1.length : Int) ≤ 1048576
    · skip
      have hk1 : ¬ (1048576 - ((paL1.length : Int))) < 0 := by omega
      obtain ⟨qa0, qa1, qa2, qa3, qa4, qa5, qb, HSP, HIM⟩ := both_first pa0 paL1 pbL0 i2 f_pb0 (by omega) (by omega)
      have HA_pa1 : Hid (ReqRows.Arg W paA1 paL1) := h_pa1
      have HL_paL1 : Hid (paL1.length ≤ 1048577) := by show _ ≤ _; omega
      have HA_pb0 : Hid (IntRows.Arg W pbA0 pbL0) := h_pb0
      have HL_pbL0 : Hid (pbL0.length ≤ 1048577) := by show _ ≤ _; omega
      have t_qa0 : (qa0 != qa0) = false := by simp
      have t_qa1 : (qa1 != qa1) = false := by simp
      have t_qa2 : (qa2 != qa2) = false := by simp
      have t_qa3 : (qa3 != qa3) = false := by simp
      have t_qa4 : (qa4 != qa4) = false := by simp
      have t_qa5 : (qa5 != qa5) = false := by simp
      have t_qb : (qb != qb) = false := by simp
      have kx1 : ¬ (1 + 6 * (paL1.length : Int)) < 0 := by omega
      have ky1 : ((1 + 6 * (paL1.length : Int)) != (1 + 6 * (paL1.length : Int))) = false := by simp
      have kx2 : ¬ (1 + 6 * (paL1.length : Int) + 1 * (pbL0.length : Int)) < 0 := by omega
      have ky2 : ((1 + 6 * (paL1.length : Int) + 1 * (pbL0.length : Int)) != (1 + 6 * (paL1.length : Int) + 1 * (pbL0.length : Int))) = false := by simp
      have H0 : Hid (Bel W (W.alloc (.cells #[.int .i64 pa0, .slice paA1 paL1.length paC1] 24)) ∧ boxB (W.alloc (.cells #[.int .i64 pa0, .slice paA1 paL1.length paC1] 24)) (W.heap.size) #[.int .i64 pa0, .slice paA1 paL1.length paC1] 24) := ⟨n1 W _, boxB.new _ _ _⟩
      clear h_pa1 m_pa1 h_pb0 m_pb0 f_pb0 wi2
      go_enter Try.func10, Try.ntmps10
      have c0 := (H0.out.2).cell 0
      have c1 := (H0.out.2).cell 1
      go_wp2_with fail
      refine (LawQueue.sz_queue pa0 paA1 paC1 paL1.length (1048576) _ hm_pa1 (by omega) (by omega)).mono ?_
      rintro e w1 ⟨rfl, b1⟩
      rw [if_pos (by omega)]
      have H1 : Hid (Bel W w1 ∧ boxB w1 (W.heap.size) #[.int .i64 pa0, .slice paA1 paL1.length paC1] 24) := ⟨(H0.out.1).below b1, (H0.out.2).below b1⟩
      clear c0 c1 b1 H0
      have c0 := (H1.out.2).cell 0
      have c1 := (H1.out.2).cell 1
      go_wp2_with fail
      refine (LawQueue.to_queue pa0 paA1 paC1 paL1 _ (HA_pa1.out.below (H1.out.1)) HL_paL1.out).mono ?_
      rintro e w2 ⟨gw2_1, rfl, hhw2, b2⟩
      have LW_tpa : Hid (W.heap.size ≤ w1.heap.size) := (H1.out.1).size
      have O0_ : Hid (Off (W.heap.size) [⟨(some ⟨gw2_1, 0, none⟩), 39, 6, (paL1).map ReqKit.cells⟩]) := Off.under (hhw2) (by have h9 := (H1.out.2).lt; omega)
      have H2 : Hid (Bel W w2 ∧ boxB w2 (W.heap.size) #[.int .i64 pa0, .slice paA1 paL1.length paC1] 24 ∧ Holds w2 (w1.heap.size) [⟨(some ⟨gw2_1, 0, none⟩), 39, 6, (paL1).map ReqKit.cells⟩]) := ⟨(H1.out.1).below b2, (H1.out.2).below b2, hhw2⟩
      clear c0 c1 b2 H1 hhw2
      go_wp2_with fail
      refine (LawIntS.to_ints  pbA0 pbC0 pbL0 _ (HA_pb0.out.below (H2.out.1)) HL_pbL0.out).mono ?_
      rintro e w3 ⟨gw3_0, rfl, hhw3, b3⟩
      have LW_tpb : Hid (W.heap.size ≤ w2.heap.size) := (H2.out.1).size
      have O1_ : Hid (Off (W.heap.size) [⟨(some ⟨gw3_0, 0, none⟩), 3, 1, (pbL0).map IntKit.cells⟩]) := Off.under (hhw3) (by have h9 := (H2.out.2.1).lt; omega)
      have Q0_ : Hid (Apart [⟨(some ⟨gw2_1, 0, none⟩), 39, 6, (paL1).map ReqKit.cells⟩] [⟨(some ⟨gw3_0, 0, none⟩), 3, 1, (pbL0).map IntKit.cells⟩]) := Apart.under (H2.out.2.2) (hhw3) (Nat.le_refl _)
      have H3 : Hid (Bel W w3 ∧ boxB w3 (W.heap.size) #[.int .i64 pa0, .slice paA1 paL1.length paC1] 24 ∧ Holds w3 (w1.heap.size) [⟨(some ⟨gw2_1, 0, none⟩), 39, 6, (paL1).map ReqKit.cells⟩] ∧ Holds w3 (w2.heap.size) [⟨(some ⟨gw3_0, 0, none⟩), 3, 1, (pbL0).map IntKit.cells⟩]) := ⟨(H2.out.1).below b3, (H2.out.2.1).below b3, (H2.out.2.2).below b3, hhw3⟩
      clear b3 H2 hhw3
      go_wp2_with fail
      refine (HSP (some ⟨gw2_1, 0, none⟩) paL1.length (some ⟨gw3_0, 0, none⟩) pbL0.length _ (H3.out.2.2.1.get (by simp)) (Nat.le_refl _) (H3.out.2.2.2.get (by simp)) (Nat.le_refl _)).mono ?_
      rintro e w4 ⟨rfl, b4⟩
      have H4 : Hid (Bel W (w4.alloc (.cells #[.int .i64 qa0, .int .i64 qa1, .int .i64 qa2, .int .i64 qa3, .int .i64 qa4, .int .i64 qa5] 39)) ∧ boxB (w4.alloc (.cells #[.int .i64 qa0, .int .i64 qa1, .int .i64 qa2, .int .i64 qa3, .int .i64 qa4, .int .i64 qa5] 39)) (W.heap.size) #[.int .i64 pa0, .slice paA1 paL1.length paC1] 24 ∧ boxB (w4.alloc (.cells #[.int .i64 qa0, .int .i64 qa1, .int .i64 qa2, .int .i64 qa3, .int .i64 qa4, .int .i64 qa5] 39)) (w4.heap.size) #[.int .i64 qa0, .int .i64 qa1, .int .i64 qa2, .int .i64 qa3, .int .i64 qa4, .int .i64 qa5] 39) := ⟨(H3.out.1).below (b4.trans ((n1 w4 _).mono b4.size)), (H3.out.2.1).below (b4.trans ((n1 w4 _).mono b4.size)), boxB.new _ _ _⟩
      clear b4 H3
      have c0 := (H4.out.2.1).cell 0
      have c1 := (H4.out.2.1).cell 1
      go_wp2_with fail
      refine (LawQueue.to_queue pa0 paA1 paC1 paL1 _ (HA_pa1.out.below (H4.out.1)) HL_paL1.out).mono ?_
      rintro e w5 ⟨gw5_1, rfl, hhw5, b5⟩
      have LW_x0 : Hid (W.heap.size ≤ (w4.alloc (.cells #[.int .i64 qa0, .int .i64 qa1, .int .i64 qa2, .int .i64 qa3, .int .i64 qa4, .int .i64 qa5] 39)).heap.size) := (H4.out.1).size
      have O2_ : Hid (Off (W.heap.size) [⟨(some ⟨gw5_1, 0, none⟩), 39, 6, (paL1).map ReqKit.cells⟩]) := Off.under (hhw5) (by have h9 := (H4.out.2.1).lt; omega)
      have O3_ : Hid (Off (w4.heap.size) [⟨(some ⟨gw5_1, 0, none⟩), 39, 6, (paL1).map ReqKit.cells⟩]) := Off.under (hhw5) (by have h9 := (H4.out.2.2).lt; omega)
      have O4_ : Hid (Off (w5.heap.size) [⟨(some ⟨gw5_1, 0, none⟩), 39, 6, (paL1).map ReqKit.cells⟩]) := Off.above (hhw5) (by omega)
      have H5 : Hid (Bel W (w5.alloc (.cells #[.int .i64 pa0, .slice (some ⟨gw5_1, 0, none⟩) paL1.length paL1.length] 29)) ∧ boxB (w5.alloc (.cells #[.int .i64 pa0, .slice (some ⟨gw5_1, 0, none⟩) paL1.length paL1.length] 29)) (W.heap.size) #[.int .i64 pa0, .slice paA1 paL1.length paC1] 24 ∧ boxB (w5.alloc (.cells #[.int .i64 pa0, .slice (some ⟨gw5_1, 0, none⟩) paL1.length paL1.length] 29)) (w4.heap.size) #[.int .i64 qa0, .int .i64 qa1, .int .i64 qa2, .int .i64 qa3, .int .i64 qa4, .int .i64 qa5] 39 ∧ Holds (w5.alloc (.cells #[.int .i64 pa0, .slice (some ⟨gw5_1, 0, none⟩) paL1.length paL1.length] 29)) ((w4.alloc (.cells #[.int .i64 qa0, .int .i64 qa1, .int .i64 qa2, .int .i64 qa3, .int .i64 qa4, .int .i64 qa5] 39)).heap.size) [⟨(some ⟨gw5_1, 0, none⟩), 39, 6, (paL1).map ReqKit.cells⟩] ∧ boxB (w5.alloc (.cells #[.int .i64 pa0, .slice (some ⟨gw5_1, 0, none⟩) paL1.length paL1.length] 29)) (w5.heap.size) #[.int .i64 pa0, .slice (some ⟨gw5_1, 0, none⟩) paL1.length paL1.length] 29) := ⟨(H4.out.1).below (b5.trans ((n1 w5 _).mono b5.size)), (H4.out.2.1).below (b5.trans ((n1 w5 _).mono b5.size)), (H4.out.2.2).below (b5.trans ((n1 w5 _).mono b5.size)), (hhw5).below (n1 w5 _), boxB.new _ _ _⟩
      clear c0 c1 b5 H4 hhw5
      go_wp2_with fail
      refine (LawIntS.to_ints  pbA0 pbC0 pbL0 _ (HA_pb0.out.below (H5.out.1)) HL_pbL0.out).mono ?_
      rintro e w6 ⟨gw6_0, rfl, hhw6, b6⟩
      have LW_x1 : Hid (W.heap.size ≤ (w5.alloc (.cells #[.int .i64 pa0, .slice (some ⟨gw5_1, 0, none⟩) paL1.length paL1.length] 29)).heap.size) := (H5.out.1).size
      have O5_ : Hid (Off (W.heap.size) [⟨(some ⟨gw6_0, 0, none⟩), 3, 1, (pbL0).map IntKit.cells⟩]) := Off.under (hhw6) (by have h9 := (H5.out.2.1).lt; omega)
      have O6_ : Hid (Off (w4.heap.size) [⟨(some ⟨gw6_0, 0, none⟩), 3, 1, (pbL0).map IntKit.cells⟩]) := Off.under (hhw6) (by have h9 := (H5.out.2.2.1).lt; omega)
      have Q1_ : Hid (Apart [⟨(some ⟨gw5_1, 0, none⟩), 39, 6, (paL1).map ReqKit.cells⟩] [⟨(some ⟨gw6_0, 0, none⟩), 3, 1, (pbL0).map IntKit.cells⟩]) := Apart.under (H5.out.2.2.2.1) (hhw6) (Nat.le_refl _)
      have O7_ : Hid (Off (w5.heap.size) [⟨(some ⟨gw6_0, 0, none⟩), 3, 1, (pbL0).map IntKit.cells⟩]) := Off.under (hhw6) (by have h9 := (H5.out.2.2.2.2).lt; omega)
      have H6 : Hid (Bel W w6 ∧ boxB w6 (W.heap.size) #[.int .i64 pa0, .slice paA1 paL1.length paC1] 24 ∧ boxB w6 (w4.heap.size) #[.int .i64 qa0, .int .i64 qa1, .int .i64 qa2, .int .i64 qa3, .int .i64 qa4, .int .i64 qa5] 39 ∧ Holds w6 ((w4.alloc (.cells #[.int .i64 qa0, .int .i64 qa1, .int .i64 qa2, .int .i64 qa3, .int .i64 qa4, .int .i64 qa5] 39)).heap.size) [⟨(some ⟨gw5_1, 0, none⟩), 39, 6, (paL1).map ReqKit.cells⟩] ∧ boxB w6 (w5.heap.size) #[.int .i64 pa0, .slice (some ⟨gw5_1, 0, none⟩) paL1.length paL1.length] 29 ∧ Holds w6 ((w5.alloc (.cells #[.int .i64 pa0, .slice (some ⟨gw5_1, 0, none⟩) paL1.length paL1.length] 29)).heap.size) [⟨(some ⟨gw6_0, 0, none⟩), 3, 1, (pbL0).map IntKit.cells⟩]) := ⟨(H5.out.1).below b6, (H5.out.2.1).below b6, (H5.out.2.2.1).below b6, (H5.out.2.2.2.1).below b6, (H5.out.2.2.2.2).below b6, hhw6⟩
      clear b6 H5 hhw6
      have c0 := (H6.out.2.2.2.2.1).cell 0
      have c1 := (H6.out.2.2.2.2.1).cell 1
      go_wp2_with fail
      refine (HIM (some ⟨gw5_1, 0, none⟩) paL1.length (some ⟨gw6_0, 0, none⟩) pbL0.length _ (H6.out.2.2.2.1.get (by simp)) (Nat.le_refl _) (H6.out.2.2.2.2.2.get (by simp)) (Nat.le_refl _)).mono ?_
      rintro e w7 ⟨rfl, b7⟩
      have O8_ : Hid (Off (w7.heap.size) [⟨(some ⟨gw5_1, 0, none⟩), 39, 6, (paL1).map ReqKit.cells⟩]) := Off.above (H6.out.2.2.2.1) (by have h9 := b7.size; omega)
      have O9_ : Hid (Off (w7.heap.size) [⟨(some ⟨gw6_0, 0, none⟩), 3, 1, (pbL0).map IntKit.cells⟩]) := Off.above (H6.out.2.2.2.2.2) (by have h9 := b7.size; omega)
      have H7 : Hid (Bel W (w7.alloc (.cells #[.int .i64 qa0, .int .i64 qa1, .int .i64 qa2, .int .i64 qa3, .int .i64 qa4, .int .i64 qa5] 39)) ∧ boxB (w7.alloc (.cells #[.int .i64 qa0, .int .i64 qa1, .int .i64 qa2, .int .i64 qa3, .int .i64 qa4, .int .i64 qa5] 39)) (W.heap.size) #[.int .i64 pa0, .slice paA1 paL1.length paC1] 24 ∧ boxB (w7.alloc (.cells #[.int .i64 qa0, .int .i64 qa1, .int .i64 qa2, .int .i64 qa3, .int .i64 qa4, .int .i64 qa5] 39)) (w4.heap.size) #[.int .i64 qa0, .int .i64 qa1, .int .i64 qa2, .int .i64 qa3, .int .i64 qa4, .int .i64 qa5] 39 ∧ Holds (w7.alloc (.cells #[.int .i64 qa0, .int .i64 qa1, .int .i64 qa2, .int .i64 qa3, .int .i64 qa4, .int .i64 qa5] 39)) ((w4.alloc (.cells #[.int .i64 qa0, .int .i64 qa1, .int .i64 qa2, .int .i64 qa3, .int .i64 qa4, .int .i64 qa5] 39)).heap.size) [⟨(some ⟨gw5_1, 0, none⟩), 39, 6, (paL1).map ReqKit.cells⟩] ∧ boxB (w7.alloc (.cells #[.int .i64 qa0, .int .i64 qa1, .int .i64 qa2, .int .i64 qa3, .int .i64 qa4, .int .i64 qa5] 39)) (w5.heap.size) #[.int .i64 pa0, .slice (some ⟨gw5_1, 0, none⟩) paL1.length paL1.length] 29 ∧ Holds (w7.alloc (.cells #[.int .i64 qa0, .int .i64 qa1, .int .i64 qa2, .int .i64 qa3, .int .i64 qa4, .int .i64 qa5] 39)) ((w5.alloc (.cells #[.int .i64 pa0, .slice (some ⟨gw5_1, 0, none⟩) paL1.length paL1.length] 29)).heap.size) [⟨(some ⟨gw6_0, 0, none⟩), 3, 1, (pbL0).map IntKit.cells⟩] ∧ boxB (w7.alloc (.cells #[.int .i64 qa0, .int .i64 qa1, .int .i64 qa2, .int .i64 qa3, .int .i64 qa4, .int .i64 qa5] 39)) (w7.heap.size) #[.int .i64 qa0, .int .i64 qa1, .int .i64 qa2, .int .i64 qa3, .int .i64 qa4, .int .i64 qa5] 39) := ⟨(H6.out.1).below (b7.trans ((n1 w7 _).mono b7.size)), (H6.out.2.1).below (b7.trans ((n1 w7 _).mono b7.size)), (H6.out.2.2.1).below (b7.trans ((n1 w7 _).mono b7.size)), (H6.out.2.2.2.1).below (b7.trans ((n1 w7 _).mono b7.size)), (H6.out.2.2.2.2.1).below (b7.trans ((n1 w7 _).mono b7.size)), (H6.out.2.2.2.2.2).below (b7.trans ((n1 w7 _).mono b7.size)), boxB.new _ _ _⟩
      clear c0 c1 b7 H6
      have d0 := (H7.out.2.2.2.2.2.2).cell 0
      have d1 := (H7.out.2.2.2.2.2.2).cell 1
      have d2 := (H7.out.2.2.2.2.2.2).cell 2
      have d3 := (H7.out.2.2.2.2.2.2).cell 3
      have d4 := (H7.out.2.2.2.2.2.2).cell 4
      have d5 := (H7.out.2.2.2.2.2.2).cell 5
      have e0 := (H7.out.2.2.1).cell 0
      have e1 := (H7.out.2.2.1).cell 1
      have e2 := (H7.out.2.2.1).cell 2
      have e3 := (H7.out.2.2.1).cell 3
      have e4 := (H7.out.2.2.1).cell 4
      have e5 := (H7.out.2.2.1).cell 5
      go_wp2_with fail
      refine (FlatReq.eq_one qa0 qa1 qa2 qa3 qa4 qa5 _).mono ?_
      rintro e w8 ⟨rfl, b8⟩
      have H8 : Hid (Bel W w8.drew ∧ boxB w8.drew (W.heap.size) #[.int .i64 pa0, .slice paA1 paL1.length paC1] 24 ∧ boxB w8.drew (w4.heap.size) #[.int .i64 qa0, .int .i64 qa1, .int .i64 qa2, .int .i64 qa3, .int .i64 qa4, .int .i64 qa5] 39 ∧ Holds w8.drew ((w4.alloc (.cells #[.int .i64 qa0, .int .i64 qa1, .int .i64 qa2, .int .i64 qa3, .int .i64 qa4, .int .i64 qa5] 39)).heap.size) [⟨(some ⟨gw5_1, 0, none⟩), 39, 6, (paL1).map ReqKit.cells⟩] ∧ boxB w8.drew (w5.heap.size) #[.int .i64 pa0, .slice (some ⟨gw5_1, 0, none⟩) paL1.length paL1.length] 29 ∧ Holds w8.drew ((w5.alloc (.cells #[.int .i64 pa0, .slice (some ⟨gw5_1, 0, none⟩) paL1.length paL1.length] 29)).heap.size) [⟨(some ⟨gw6_0, 0, none⟩), 3, 1, (pbL0).map IntKit.cells⟩] ∧ boxB w8.drew (w7.heap.size) #[.int .i64 qa0, .int .i64 qa1, .int .i64 qa2, .int .i64 qa3, .int .i64 qa4, .int .i64 qa5] 39) := ⟨(H7.out.1).below b8.drew, (H7.out.2.1).below b8.drew, (H7.out.2.2.1).below b8.drew, (H7.out.2.2.2.1).below b8.drew, (H7.out.2.2.2.2.1).below b8.drew, (H7.out.2.2.2.2.2.1).below b8.drew, (H7.out.2.2.2.2.2.2).below b8.drew⟩
      clear d0 d1 d2 d3 d4 d5 e0 e1 e2 e3 e4 e5 b8 H7
      have c0 := (H8.out.2.1).cell 0
      have c1 := (H8.out.2.1).cell 1
      have x0 := (H8.out.2.2.2.2.1).cell 0
      have x1 := (H8.out.2.2.2.2.1).cell 1
      go_wp2
      go_region_with (first | (go_at_call 13; refine (LawQueue.to_queue pa0 paA1 paC1 paL1 _ (HA_pa1.out.below (H8.out.1)) HL_paL1.out).mono ?_; rintro e w9 ⟨gw9_1, rfl, hhw9, b9⟩; have H9 : Hid (Bel W w9 ∧ boxB w9 (W.heap.size) #[.int .i64 pa0, .slice paA1 paL1.length paC1] 24 ∧ boxB w9 (w4.heap.size) #[.int .i64 qa0, .int .i64 qa1, .int .i64 qa2, .int .i64 qa3, .int .i64 qa4, .int .i64 qa5] 39 ∧ Holds w9 ((w4.alloc (.cells #[.int .i64 qa0, .int .i64 qa1, .int .i64 qa2, .int .i64 qa3, .int .i64 qa4, .int .i64 qa5] 39)).heap.size) [⟨(some ⟨gw5_1, 0, none⟩), 39, 6, (paL1).map ReqKit.cells⟩] ∧ boxB w9 (w5.heap.size) #[.int .i64 pa0, .slice (some ⟨gw5_1, 0, none⟩) paL1.length paL1.length] 29 ∧ Holds w9 ((w5.alloc (.cells #[.int .i64 pa0, .slice (some ⟨gw5_1, 0, none⟩) paL1.length paL1.length] 29)).heap.size) [⟨(some ⟨gw6_0, 0, none⟩), 3, 1, (pbL0).map IntKit.cells⟩] ∧ boxB w9 (w7.heap.size) #[.int .i64 qa0, .int .i64 qa1, .int .i64 qa2, .int .i64 qa3, .int .i64 qa4, .int .i64 qa5] 39 ∧ Holds w9 (w8.drew.heap.size) [⟨(some ⟨gw9_1, 0, none⟩), 39, 6, (paL1).map ReqKit.cells⟩]) := ⟨(H8.out.1).below b9, (H8.out.2.1).below b9, (H8.out.2.2.1).below b9, (H8.out.2.2.2.1).below b9, (H8.out.2.2.2.2.1).below b9, (H8.out.2.2.2.2.2.1).below b9, (H8.out.2.2.2.2.2.2).below b9, hhw9⟩; have y0 := (H9.out.2.2.2.2.1).cell 0; have y1 := (H9.out.2.2.2.2.1).cell 1; clear b9 hhw9) | (go_at_call 15; refine (LawQueue.eq_queue pa0 (some ⟨gw5_1, 0, none⟩) paL1.length paL1 (some ⟨gw9_1, 0, none⟩) paL1.length _ (H9.out.2.2.2.1.get (by simp)) (H9.out.2.2.2.2.2.2.2.get (by simp)) HL_paL1.out).mono ?_; rintro e w10 ⟨rfl, b10⟩; have H10 : Hid (Bel W w10 ∧ boxB w10 (W.heap.size) #[.int .i64 pa0, .slice paA1 paL1.length paC1] 24 ∧ boxB w10 (w4.heap.size) #[.int .i64 qa0, .int .i64 qa1, .int .i64 qa2, .int .i64 qa3, .int .i64 qa4, .int .i64 qa5] 39 ∧ Holds w10 ((w4.alloc (.cells #[.int .i64 qa0, .int .i64 qa1, .int .i64 qa2, .int .i64 qa3, .int .i64 qa4, .int .i64 qa5] 39)).heap.size) [⟨(some ⟨gw5_1, 0, none⟩), 39, 6, (paL1).map ReqKit.cells⟩] ∧ boxB w10 (w5.heap.size) #[.int .i64 pa0, .slice (some ⟨gw5_1, 0, none⟩) paL1.length paL1.length] 29 ∧ Holds w10 ((w5.alloc (.cells #[.int .i64 pa0, .slice (some ⟨gw5_1, 0, none⟩) paL1.length paL1.length] 29)).heap.size) [⟨(some ⟨gw6_0, 0, none⟩), 3, 1, (pbL0).map IntKit.cells⟩] ∧ boxB w10 (w7.heap.size) #[.int .i64 qa0, .int .i64 qa1, .int .i64 qa2, .int .i64 qa3, .int .i64 qa4, .int .i64 qa5] 39) := ⟨(H9.out.1).below b10, (H9.out.2.1).below b10, (H9.out.2.2.1).below b10, (H9.out.2.2.2.1).below b10, (H9.out.2.2.2.2.1).below b10, (H9.out.2.2.2.2.2.1).below b10, (H9.out.2.2.2.2.2.2.1).below b10⟩; clear b10))
      all_goals
        clear c0 c1 x0 x1 y0 y1 H8 H9
        go_wp2_with fail
        refine (LawIntS.to_ints  pbA0 pbC0 pbL0 _ (HA_pb0.out.below (H10.out.1)) HL_pbL0.out).mono ?_
        rintro e w11 ⟨gw11_0, rfl, hhw11, b11⟩
        have LW_ty : Hid (W.heap.size ≤ w10.heap.size) := (H10.out.1).size
        have O10_ : Hid (Off (W.heap.size) [⟨(some ⟨gw11_0, 0, none⟩), 3, 1, (pbL0).map IntKit.cells⟩]) := Off.under (hhw11) (by have h9 := (H10.out.2.1).lt; omega)
        have O11_ : Hid (Off (w4.heap.size) [⟨(some ⟨gw11_0, 0, none⟩), 3, 1, (pbL0).map IntKit.cells⟩]) := Off.under (hhw11) (by have h9 := (H10.out.2.2.1).lt; omega)
        have Q2_ : Hid (Apart [⟨(some ⟨gw5_1, 0, none⟩), 39, 6, (paL1).map ReqKit.cells⟩] [⟨(some ⟨gw11_0, 0, none⟩), 3, 1, (pbL0).map IntKit.cells⟩]) := Apart.under (H10.out.2.2.2.1) (hhw11) (Nat.le_refl _)
        have O12_ : Hid (Off (w5.heap.size) [⟨(some ⟨gw11_0, 0, none⟩), 3, 1, (pbL0).map IntKit.cells⟩]) := Off.under (hhw11) (by have h9 := (H10.out.2.2.2.2.1).lt; omega)
        have Q3_ : Hid (Apart [⟨(some ⟨gw6_0, 0, none⟩), 3, 1, (pbL0).map IntKit.cells⟩] [⟨(some ⟨gw11_0, 0, none⟩), 3, 1, (pbL0).map IntKit.cells⟩]) := Apart.under (H10.out.2.2.2.2.2.1) (hhw11) (Nat.le_refl _)
        have O13_ : Hid (Off (w7.heap.size) [⟨(some ⟨gw11_0, 0, none⟩), 3, 1, (pbL0).map IntKit.cells⟩]) := Off.under (hhw11) (by have h9 := (H10.out.2.2.2.2.2.2).lt; omega)
        have H11 : Hid (Bel W w11 ∧ boxB w11 (W.heap.size) #[.int .i64 pa0, .slice paA1 paL1.length paC1] 24 ∧ boxB w11 (w4.heap.size) #[.int .i64 qa0, .int .i64 qa1, .int .i64 qa2, .int .i64 qa3, .int .i64 qa4, .int .i64 qa5] 39 ∧ Holds w11 ((w4.alloc (.cells #[.int .i64 qa0, .int .i64 qa1, .int .i64 qa2, .int .i64 qa3, .int .i64 qa4, .int .i64 qa5] 39)).heap.size) [⟨(some ⟨gw5_1, 0, none⟩), 39, 6, (paL1).map ReqKit.cells⟩] ∧ boxB w11 (w5.heap.size) #[.int .i64 pa0, .slice (some ⟨gw5_1, 0, none⟩) paL1.length paL1.length] 29 ∧ Holds w11 ((w5.alloc (.cells #[.int .i64 pa0, .slice (some ⟨gw5_1, 0, none⟩) paL1.length paL1.length] 29)).heap.size) [⟨(some ⟨gw6_0, 0, none⟩), 3, 1, (pbL0).map IntKit.cells⟩] ∧ boxB w11 (w7.heap.size) #[.int .i64 qa0, .int .i64 qa1, .int .i64 qa2, .int .i64 qa3, .int .i64 qa4, .int .i64 qa5] 39 ∧ Holds w11 (w10.heap.size) [⟨(some ⟨gw11_0, 0, none⟩), 3, 1, (pbL0).map IntKit.cells⟩]) := ⟨(H10.out.1).below b11, (H10.out.2.1).below b11, (H10.out.2.2.1).below b11, (H10.out.2.2.2.1).below b11, (H10.out.2.2.2.2.1).below b11, (H10.out.2.2.2.2.2.1).below b11, (H10.out.2.2.2.2.2.2).below b11, hhw11⟩
        clear b11 H10 hhw11
        go_wp2_with fail
        refine (LawIntS.eq_ints  (some ⟨gw6_0, 0, none⟩) pbL0.length pbL0 (some ⟨gw11_0, 0, none⟩) pbL0.length _ (H11.out.2.2.2.2.2.1.get (by simp)) (H11.out.2.2.2.2.2.2.2.get (by simp)) HL_pbL0.out).mono ?_
        rintro e w12 ⟨rfl, b12⟩
        have H12 : Hid (Bel W w12 ∧ boxB w12 (W.heap.size) #[.int .i64 pa0, .slice paA1 paL1.length paC1] 24 ∧ boxB w12 (w4.heap.size) #[.int .i64 qa0, .int .i64 qa1, .int .i64 qa2, .int .i64 qa3, .int .i64 qa4, .int .i64 qa5] 39 ∧ Holds w12 ((w4.alloc (.cells #[.int .i64 qa0, .int .i64 qa1, .int .i64 qa2, .int .i64 qa3, .int .i64 qa4, .int .i64 qa5] 39)).heap.size) [⟨(some ⟨gw5_1, 0, none⟩), 39, 6, (paL1).map ReqKit.cells⟩] ∧ boxB w12 (w5.heap.size) #[.int .i64 pa0, .slice (some ⟨gw5_1, 0, none⟩) paL1.length paL1.length] 29 ∧ Holds w12 ((w5.alloc (.cells #[.int .i64 pa0, .slice (some ⟨gw5_1, 0, none⟩) paL1.length paL1.length] 29)).heap.size) [⟨(some ⟨gw6_0, 0, none⟩), 3, 1, (pbL0).map IntKit.cells⟩] ∧ boxB w12 (w7.heap.size) #[.int .i64 qa0, .int .i64 qa1, .int .i64 qa2, .int .i64 qa3, .int .i64 qa4, .int .i64 qa5] 39) := ⟨(H11.out.1).below b12, (H11.out.2.1).below b12, (H11.out.2.2.1).below b12, (H11.out.2.2.2.1).below b12, (H11.out.2.2.2.2.1).below b12, (H11.out.2.2.2.2.2.1).below b12, (H11.out.2.2.2.2.2.2.1).below b12⟩
        clear b12 H11
        go_wp2
        go_ret
        exact ⟨rfl, (H12.out.1).out⟩
    · skip
      have b0 : Below W.heap.size W (W.alloc (.cells #[.int .i64 pa0, .slice paA1 paL1.length paC1] 24)) := n1 W _
      go_enter Try.func10, Try.ntmps10
      go_wp2_with fail
      refine (LawQueue.sz_queue pa0 paA1 paC1 paL1.length (1048576) _ hm_pa1 (by omega) (by omega)).mono ?_
      rintro e z1 ⟨rfl, y1⟩
      rw [if_neg (by omega)]
      have B1 : Hid (Below W.heap.size W z1) := b0.trans (y1.mono b0.size)
      clear y1
      go_wp2
      go_ret
      exact ⟨rfl, B1.out⟩
  · skip
    have b0 : Below W.heap.size W (W.alloc (.cells #[.int .i64 pa0, .slice paA1 paL1.length paC1] 24)) := n1 W _
    have hk0 : 1048576 < (pbL0.length : Int) := by omega
    go_enter Try.func10, Try.ntmps10
    go_wp2
    go_ret
    exact ⟨rfl, b0⟩

theorem own : ownKnob Try.prog.godebug = none := by kernel_rfl
theorem laidOut : laidOutB Try.prog = true := by kernel_rfl

set_option maxRecDepth 100000 in
theorem lifted (os : Os) (started : os.Started) (H : Type) (enc : TypeId × Value → H) :
    ReturnsInHanded {} Try.checked os 10 .any (Rows.fnExactFirstSpec.pre6 enc Try.prog Try.f10 Rows.fnExactFirstRow.domain false) (Rows.fnExactFirstSpec.post enc Try.prog Try.f10 false true false false) := by
  refine returnsInHanded_of_change (C := Try.checked) own started (by kernel_rfl) Try.func10
    (ChangeSpec.witness6 (enc := enc) (C := Try.checked) false ⟨#[], #[.agg #[.int .i64 0, .slice none 0 0], .slice none 0 0, .int .i64 0], []⟩ 8 (by kernel_rfl) (by kernel_rfl) (by kernel_rfl) (by kernel_rfl)) ?_
  intro W base args ds gs before hval0 hW hcnd _
  have hval : ∀ (j : Nat) t v, Try.f10.params[j]? = some t → args[j]? = some v → Value.okWide Try.prog W .any base t v := hval0
  have hW' := hW
  obtain ⟨p, q, hA0, hV, rfl, hfz, hnd⟩ := hW
  have hA : DataW.TrodAll enc Try.prog W 0 (fun _ => true) true Try.f10.params.toList args.toList ds p := hA0
  rw [Try.params10] at hA hval
  obtain ⟨v0, vs0, d0, ds0, p0, q0, hargs, rfl, rfl, h0, r0⟩ := trodAll_cons hA
  obtain ⟨v1, vs1, d1, ds1, p1, q1, rfl, rfl, rfl, h1, r1⟩ := trodAll_cons r0
  obtain ⟨v2, vs2, d2, ds2, p2, q2, rfl, rfl, rfl, h2, r2⟩ := trodAll_cons r1
  obtain ⟨rfl, rfl, rfl⟩ := trodAll_nil r2
  obtain rfl : args = #[v0, v1, v2] := by cases args; simp_all
  obtain ⟨rfl, rfl⟩ := trodVars_none hV
  have k0_ := h0
  have lt0 : ∀ x ∈ p0, x.block < W.heap.size := by obtain ⟨m, hm⟩ := k0_; exact DataW.trod_lt m _ _ _ hm
  obtain ⟨x0_0, aL0_1, cL0_1, L0_1, rfl, hL0_1, mL0_1⟩ := OpenQueue.open_queue (hval 0 24 v0 rfl rfl) h0
  have k1_ := h1
  have lt1 : ∀ x ∈ p1, x.block < W.heap.size := by obtain ⟨m, hm⟩ := k1_; exact DataW.trod_lt m _ _ _ hm
  obtain ⟨aL1, cL1, L1, rfl, hL1, mL1, fL1⟩ := OpenInts.open_ints_wf (hval 1 53 v1 rfl rfl) h1
  obtain ⟨a2, rfl, rfl, rfl, w2⟩ := open_int Try.underlying3 (hval 2 3 v2 rfl rfl) h2
  clear hA0 hval0
  refine (walk W x0_0 aL0_1 cL0_1 L0_1 hL0_1 mL0_1 aL1 cL1 L1 hL1 mL1 fL1 a2 w2).mono fun e W' ⟨he, hb⟩ => ?_
  subst he
  exact ⟨_, rfl, _, _, _, [], _, [], hW', trodAll_cons_mk (shut_bool Try.underlying4 _) trodAll_mk0, (trodAll_cons_mk (Below.trod laidOut (by kernel_rfl) (of_decide_eq_true (by kernel_rfl)) k0_ hb lt0) (trodAll_cons_mk (Below.trod laidOut (by kernel_rfl) (of_decide_eq_true (by kernel_rfl)) k1_ hb lt1) (trodAll_cons_mk (shut_int Try.underlying3 w2) trodAll_mk0))), rfl, hb.frame _, fun h => by cases h⟩

theorem over : Rows.fnExactFirstRow.holds Try.pinned (OpenSpec.ofChange Rows.fnExactFirstSpec) :=
  OpenClaim.holds_of_wide 10 Try.f10 rfl rfl rfl rfl rfl rfl rfl ⟨rfl, rfl, rfl, rfl, rfl⟩ rfl rfl rfl rfl rfl (by kernel_rfl) Try.func10 (by kernel_rfl)
    (of_decide_eq_true (by kernel_rfl)) (by unfold Func.isWrapper; first | (rw [if_pos (by decide +kernel)]; kernel_rfl) | (rw [if_neg (by decide +kernel)]; exact ⟨rfl, rfl⟩))
    (fun os started H enc _ => lifted os started H enc)

theorem proved : Rows.FnExactFirstSaid :=
  over
end Go.Proofs.Ytiodnkehfeigoaa.fnExactFirst
