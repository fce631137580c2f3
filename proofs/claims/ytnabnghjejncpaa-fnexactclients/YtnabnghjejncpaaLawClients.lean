/- At every ledger the program's Clients answers as the model's, its answer owns its memory, and it writes into no argument (the law FnExactClients returns true); no condition. -/
import Derived.Test.YtnabnghjejncpaaRows
import Derived.WalkKit
import Derived.WalkSmall
import Derived.BigQuiet
import Derived.ProofKit
import Derived.OpenShut
import Derived.Deep.RegionWith
import Derived.Deep.DeepCutAuto
import Derived.Test.YtnabnghjejncpaaListKit
import Derived.Test.YtnabnghjejncpaaHoldKit
import Derived.Test.YtnabnghjejncpaaRegFlow
import Derived.Test.YtnabnghjejncpaaFlowHold
import Derived.Test.YtnabnghjejncpaaSlotKit
import Derived.Test.YtnabnghjejncpaaSlotRows
import Derived.Test.YtnabnghjejncpaaIntKit
import Derived.Test.YtnabnghjejncpaaIntRows
import Derived.Test.YtnabnghjejncpaaLawLedger
import Derived.Test.YtnabnghjejncpaaLawIntS
import Derived.Test.YtnabnghjejncpaaOpenKit
import Derived.Test.YtnabnghjejncpaaOpenLedger
import Derived.Test.YtnabnghjejncpaaAdmBothCli
namespace Go.Proofs.Ytnabnghjejncpaa.fnExactClients
open Go.ChangeShapes Go.WideShapes Go.ChangeAt Go.RowKit ListKit HoldKit AdmBothCli
set_option linter.unusedVariables false
set_option linter.unusedSimpArgs false
set_option maxRecDepth 8000

set_option maxHeartbeats 8000000 in
theorem walk (W : World) (paA0 : Option Addr) (paC0 : Nat) (paL0 : List SlotKit.Slot) (h_pa0 : SlotRows.Arg W paA0 paL0) (m_pa0 : paL0.length ≤ maxLen) :
    Calls Try.prog 5 #[.agg #[.slice paA0 paL0.length paC0]] W fun e w' => e = .returned (.bool true) ∧ Below W.heap.size W w' := by
  have hm_pa0 : (paL0.length : Int) ≤ 9223372036854775807 := by unfold maxLen at m_pa0; omega
  by_cases hl0 : (paL0.length : Int) ≤ 1048576
  · skip
    have hk0 : ¬ (1048576 - ((paL0.length : Int))) < 0 := by omega
    obtain ⟨qaL0, HSP, HIM, hpl⟩ := both_clients paL0 (by omega)
    have HL_qaL0 : Hid (qaL0.length ≤ 1048577) := hpl
    have HA_pa0 : Hid (SlotRows.Arg W paA0 paL0) := h_pa0
    have HL_paL0 : Hid (paL0.length ≤ 1048577) := by show _ ≤ _; omega
    have kx1 : ¬ (1 + 5 * (paL0.length : Int)) < 0 := by omega
    have ky1 : ((1 + 5 * (paL0.length : Int)) != (1 + 5 * (paL0.length : Int))) = false := by simp
    have kx2 : ¬ (1 + 1 * (qaL0.length : Int)) < 0 := by omega
    have ky2 : ((1 + 1 * (qaL0.length : Int)) != (1 + 1 * (qaL0.length : Int))) = false := by simp
    have H0 : Hid (Bel W (W.alloc (.cells #[.slice paA0 paL0.length paC0] 55)) ∧ boxB (W.alloc (.cells #[.slice paA0 paL0.length paC0] 55)) (W.heap.size) #[.slice paA0 paL0.length paC0] 55) := ⟨n1 W _, boxB.new _ _ _⟩
    clear h_pa0 m_pa0
    go_enter Try.func5, Try.ntmps5
    have c0 := (H0.out.2).cell 0
    go_wp2_with fail
    refine (LawLedger.sz_ledger  paA0 paC0 paL0.length (1048576) _ hm_pa0 (by omega) (by omega)).mono ?_
    rintro e w1 ⟨rfl, b1⟩
    rw [if_pos (by omega)]
    have H1 : Hid (Bel W w1 ∧ boxB w1 (W.heap.size) #[.slice paA0 paL0.length paC0] 55) := ⟨(H0.out.1).below b1, (H0.out.2).below b1⟩
    clear c0 b1 H0
    have c0 := (H1.out.2).cell 0
    go_wp2_with fail
    refine (LawLedger.to_ledger  paA0 paC0 paL0 _ (HA_pa0.out.below (H1.out.1)) HL_paL0.out).mono ?_
    rintro e w2 ⟨gw2_0, rfl, hhw2, b2⟩
    have LW_tpa : Hid (W.heap.size ≤ w1.heap.size) := (H1.out.1).size
    have O0_ : Hid (Off (W.heap.size) [⟨(some ⟨gw2_0, 0, none⟩), 105, 5, (paL0).map SlotKit.cells⟩]) := Off.under (hhw2) (by have h9 := (H1.out.2).lt; omega)
    have H2 : Hid (Bel W w2 ∧ boxB w2 (W.heap.size) #[.slice paA0 paL0.length paC0] 55 ∧ Holds w2 (w1.heap.size) [⟨(some ⟨gw2_0, 0, none⟩), 105, 5, (paL0).map SlotKit.cells⟩]) := ⟨(H1.out.1).below b2, (H1.out.2).below b2, hhw2⟩
    clear c0 b2 H1 hhw2
    go_wp2_with fail
    refine (HSP (some ⟨gw2_0, 0, none⟩) paL0.length _ (H2.out.2.2.get (by simp)) (Nat.le_refl _)).mono ?_
    rintro e w3 ⟨aw0_0, cw0_0, rfl, hc_cw0_0, hhw3, b3⟩
    have LW_w : Hid (W.heap.size ≤ w2.heap.size) := (H2.out.1).size
    have O1_ : Hid (Off (W.heap.size) [⟨aw0_0, 3, 1, (qaL0).map IntKit.cells⟩]) := Off.under (hhw3) (by have h9 := (H2.out.2.1).lt; omega)
    have H3 : Hid (Bel W w3 ∧ boxB w3 (W.heap.size) #[.slice paA0 paL0.length paC0] 55 ∧ Holds w3 (w2.heap.size) [⟨aw0_0, 3, 1, (qaL0).map IntKit.cells⟩]) := ⟨(H2.out.1).below b3, (H2.out.2.1).below b3, hhw3⟩
    clear b3 H2 hhw3
    have c0 := (H3.out.2.1).cell 0
    go_wp2_with fail
    refine (LawLedger.to_ledger  paA0 paC0 paL0 _ (HA_pa0.out.below (H3.out.1)) HL_paL0.out).mono ?_
    rintro e w4 ⟨gw4_0, rfl, hhw4, b4⟩
    have LW_x0 : Hid (W.heap.size ≤ w3.heap.size) := (H3.out.1).size
    have O2_ : Hid (Off (W.heap.size) [⟨(some ⟨gw4_0, 0, none⟩), 105, 5, (paL0).map SlotKit.cells⟩]) := Off.under (hhw4) (by have h9 := (H3.out.2.1).lt; omega)
    have Q0_ : Hid (Apart [⟨aw0_0, 3, 1, (qaL0).map IntKit.cells⟩] [⟨(some ⟨gw4_0, 0, none⟩), 105, 5, (paL0).map SlotKit.cells⟩]) := Apart.under (H3.out.2.2) (hhw4) (Nat.le_refl _)
    have O3_ : Hid (Off (w4.heap.size) [⟨aw0_0, 3, 1, (qaL0).map IntKit.cells⟩]) := Off.above (H3.out.2.2) (by have h9 := b4.size; omega)
    have O4_ : Hid (Off (w4.heap.size) [⟨(some ⟨gw4_0, 0, none⟩), 105, 5, (paL0).map SlotKit.cells⟩]) := Off.above (hhw4) (by omega)
    have H4 : Hid (Bel W (w4.alloc (.cells #[.slice (some ⟨gw4_0, 0, none⟩) paL0.length paL0.length] 39)) ∧ boxB (w4.alloc (.cells #[.slice (some ⟨gw4_0, 0, none⟩) paL0.length paL0.length] 39)) (W.heap.size) #[.slice paA0 paL0.length paC0] 55 ∧ Holds (w4.alloc (.cells #[.slice (some ⟨gw4_0, 0, none⟩) paL0.length paL0.length] 39)) (w2.heap.size) [⟨aw0_0, 3, 1, (qaL0).map IntKit.cells⟩] ∧ Holds (w4.alloc (.cells #[.slice (some ⟨gw4_0, 0, none⟩) paL0.length paL0.length] 39)) (w3.heap.size) [⟨(some ⟨gw4_0, 0, none⟩), 105, 5, (paL0).map SlotKit.cells⟩] ∧ boxB (w4.alloc (.cells #[.slice (some ⟨gw4_0, 0, none⟩) paL0.length paL0.length] 39)) (w4.heap.size) #[.slice (some ⟨gw4_0, 0, none⟩) paL0.length paL0.length] 39) := ⟨(H3.out.1).below (b4.trans ((n1 w4 _).mono b4.size)), (H3.out.2.1).below (b4.trans ((n1 w4 _).mono b4.size)), (H3.out.2.2).below (b4.trans ((n1 w4 _).mono b4.size)), (hhw4).below (n1 w4 _), boxB.new _ _ _⟩
    clear c0 b4 H3 hhw4
    have c0 := (H4.out.2.2.2.2).cell 0
    go_wp2_with fail
    refine (HIM (some ⟨gw4_0, 0, none⟩) paL0.length _ (H4.out.2.2.2.1.get (by simp)) (Nat.le_refl _)).mono ?_
    rintro e w5 ⟨ag0_0, cg0_0, rfl, hc_cg0_0, hhw5, b5⟩
    have LW_g : Hid (W.heap.size ≤ (w4.alloc (.cells #[.slice (some ⟨gw4_0, 0, none⟩) paL0.length paL0.length] 39)).heap.size) := (H4.out.1).size
    have O5_ : Hid (Off (W.heap.size) [⟨ag0_0, 3, 1, (qaL0).map IntKit.cells⟩]) := Off.under (hhw5) (by have h9 := (H4.out.2.1).lt; omega)
    have Q1_ : Hid (Apart [⟨aw0_0, 3, 1, (qaL0).map IntKit.cells⟩] [⟨ag0_0, 3, 1, (qaL0).map IntKit.cells⟩]) := Apart.under (H4.out.2.2.1) (hhw5) (Nat.le_refl _)
    have Q2_ : Hid (Apart [⟨(some ⟨gw4_0, 0, none⟩), 105, 5, (paL0).map SlotKit.cells⟩] [⟨ag0_0, 3, 1, (qaL0).map IntKit.cells⟩]) := Apart.under (H4.out.2.2.2.1) (hhw5) (Nat.le_refl _)
    have O6_ : Hid (Off (w4.heap.size) [⟨ag0_0, 3, 1, (qaL0).map IntKit.cells⟩]) := Off.under (hhw5) (by have h9 := (H4.out.2.2.2.2).lt; omega)
    have H5 : Hid (Bel W w5 ∧ boxB w5 (W.heap.size) #[.slice paA0 paL0.length paC0] 55 ∧ Holds w5 (w2.heap.size) [⟨aw0_0, 3, 1, (qaL0).map IntKit.cells⟩] ∧ Holds w5 (w3.heap.size) [⟨(some ⟨gw4_0, 0, none⟩), 105, 5, (paL0).map SlotKit.cells⟩] ∧ boxB w5 (w4.heap.size) #[.slice (some ⟨gw4_0, 0, none⟩) paL0.length paL0.length] 39 ∧ Holds w5 ((w4.alloc (.cells #[.slice (some ⟨gw4_0, 0, none⟩) paL0.length paL0.length] 39)).heap.size) [⟨ag0_0, 3, 1, (qaL0).map IntKit.cells⟩]) := ⟨(H4.out.1).below b5, (H4.out.2.1).below b5, (H4.out.2.2.1).below b5, (H4.out.2.2.2.1).below b5, (H4.out.2.2.2.2).below b5, hhw5⟩
    clear c0 b5 H4 hhw5
    go_wp2_with fail
    refine (LawIntS.eq_ints  ag0_0 cg0_0 qaL0 aw0_0 cw0_0 _ (H5.out.2.2.2.2.2.get (by simp)) (H5.out.2.2.1.get (by simp)) HL_qaL0.out).mono ?_
    rintro e w6 ⟨rfl, b6⟩
    have H6 : Hid (Bel W w6.drew ∧ boxB w6.drew (W.heap.size) #[.slice paA0 paL0.length paC0] 55 ∧ Holds w6.drew (w2.heap.size) [⟨aw0_0, 3, 1, (qaL0).map IntKit.cells⟩] ∧ Holds w6.drew (w3.heap.size) [⟨(some ⟨gw4_0, 0, none⟩), 105, 5, (paL0).map SlotKit.cells⟩] ∧ boxB w6.drew (w4.heap.size) #[.slice (some ⟨gw4_0, 0, none⟩) paL0.length paL0.length] 39 ∧ Holds w6.drew ((w4.alloc (.cells #[.slice (some ⟨gw4_0, 0, none⟩) paL0.length paL0.length] 39)).heap.size) [⟨ag0_0, 3, 1, (qaL0).map IntKit.cells⟩]) := ⟨(H5.out.1).below b6.drew, (H5.out.2.1).below b6.drew, (H5.out.2.2.1).below b6.drew, (H5.out.2.2.2.1).below b6.drew, (H5.out.2.2.2.2.1).below b6.drew, (H5.out.2.2.2.2.2).below b6.drew⟩
    clear b6 H5
    have c0 := (H6.out.2.1).cell 0
    have x0 := (H6.out.2.2.2.2.1).cell 0
    go_wp2
    go_region_with (first | (go_at_call 18; refine (LawLedger.to_ledger  paA0 paC0 paL0 _ (HA_pa0.out.below (H6.out.1)) HL_paL0.out).mono ?_; rintro e w7 ⟨gw7_0, rfl, hhw7, b7⟩; have H7 : Hid (Bel W w7 ∧ boxB w7 (W.heap.size) #[.slice paA0 paL0.length paC0] 55 ∧ Holds w7 (w2.heap.size) [⟨aw0_0, 3, 1, (qaL0).map IntKit.cells⟩] ∧ Holds w7 (w3.heap.size) [⟨(some ⟨gw4_0, 0, none⟩), 105, 5, (paL0).map SlotKit.cells⟩] ∧ boxB w7 (w4.heap.size) #[.slice (some ⟨gw4_0, 0, none⟩) paL0.length paL0.length] 39 ∧ Holds w7 ((w4.alloc (.cells #[.slice (some ⟨gw4_0, 0, none⟩) paL0.length paL0.length] 39)).heap.size) [⟨ag0_0, 3, 1, (qaL0).map IntKit.cells⟩] ∧ Holds w7 (w6.drew.heap.size) [⟨(some ⟨gw7_0, 0, none⟩), 105, 5, (paL0).map SlotKit.cells⟩]) := ⟨(H6.out.1).below b7, (H6.out.2.1).below b7, (H6.out.2.2.1).below b7, (H6.out.2.2.2.1).below b7, (H6.out.2.2.2.2.1).below b7, (H6.out.2.2.2.2.2).below b7, hhw7⟩; have y0 := (H7.out.2.2.2.2.1).cell 0; clear b7 hhw7) | (go_at_call 21; refine (LawLedger.eq_ledger  (some ⟨gw4_0, 0, none⟩) paL0.length paL0 (some ⟨gw7_0, 0, none⟩) paL0.length _ (H7.out.2.2.2.1.get (by simp)) (H7.out.2.2.2.2.2.2.get (by simp)) HL_paL0.out).mono ?_; rintro e w8 ⟨rfl, b8⟩; have H8 : Hid (Bel W w8 ∧ boxB w8 (W.heap.size) #[.slice paA0 paL0.length paC0] 55 ∧ Holds w8 (w2.heap.size) [⟨aw0_0, 3, 1, (qaL0).map IntKit.cells⟩] ∧ Holds w8 (w3.heap.size) [⟨(some ⟨gw4_0, 0, none⟩), 105, 5, (paL0).map SlotKit.cells⟩] ∧ boxB w8 (w4.heap.size) #[.slice (some ⟨gw4_0, 0, none⟩) paL0.length paL0.length] 39 ∧ Holds w8 ((w4.alloc (.cells #[.slice (some ⟨gw4_0, 0, none⟩) paL0.length paL0.length] 39)).heap.size) [⟨ag0_0, 3, 1, (qaL0).map IntKit.cells⟩]) := ⟨(H7.out.1).below b8, (H7.out.2.1).below b8, (H7.out.2.2.1).below b8, (H7.out.2.2.2.1).below b8, (H7.out.2.2.2.2.1).below b8, (H7.out.2.2.2.2.2.1).below b8⟩; clear b8))
    all_goals
      clear c0 x0 y0 H6 H7
      have z0 := (H8.out.2.2.2.2.1).cell 0
      go_wp2_with fail
      refine (LawLedger.mark_ledger  (some ⟨gw4_0, 0, none⟩) paL0.length paL0 (1) _ _ _ (H8.out.2.2.2.1) HL_paL0.out (by have := HL_paL0.out; have := HL_qaL0.out; omega) (by first | rfl | omega)).mono ?_
      rintro e w9 ⟨rfl, hmw9, htw9⟩
      have H9 : Hid (Bel W w9 ∧ boxB w9 (W.heap.size) #[.slice paA0 paL0.length paC0] 55 ∧ Holds w9 (w2.heap.size) [⟨aw0_0, 3, 1, (qaL0).map IntKit.cells⟩] ∧ Holds w9 ((w4.alloc (.cells #[.slice (some ⟨gw4_0, 0, none⟩) paL0.length paL0.length] 39)).heap.size) [⟨ag0_0, 3, 1, (qaL0).map IntKit.cells⟩]) := ⟨Bel.turn (H8.out.1) htw9 (fun x hx => Off.under (H8.out.2.2.2.1) (by have h9 := LW_x0.out; omega)), (H8.out.2.1).turn htw9 O2_.out, (H8.out.2.2.1).turn htw9 Q0_.out.symm, (H8.out.2.2.2.2.2).turn htw9 Q2_.out⟩
      clear z0 hmw9 htw9 H8
      go_wp2_with fail
      refine (LawIntS.eq_ints  ag0_0 cg0_0 qaL0 aw0_0 cw0_0 _ (H9.out.2.2.2.get (by simp)) (H9.out.2.2.1.get (by simp)) HL_qaL0.out).mono ?_
      rintro e w10 ⟨rfl, b10⟩
      have H10 : Hid (Bel W w10 ∧ boxB w10 (W.heap.size) #[.slice paA0 paL0.length paC0] 55 ∧ Holds w10 (w2.heap.size) [⟨aw0_0, 3, 1, (qaL0).map IntKit.cells⟩] ∧ Holds w10 ((w4.alloc (.cells #[.slice (some ⟨gw4_0, 0, none⟩) paL0.length paL0.length] 39)).heap.size) [⟨ag0_0, 3, 1, (qaL0).map IntKit.cells⟩]) := ⟨(H9.out.1).below b10, (H9.out.2.1).below b10, (H9.out.2.2.1).below b10, (H9.out.2.2.2).below b10⟩
      clear b10 H9
      go_wp2_with fail
      refine (LawIntS.mark_ints  ag0_0 cg0_0 qaL0 (1) _ _ _ (H10.out.2.2.2) HL_qaL0.out (by have := HL_paL0.out; have := HL_qaL0.out; omega) (by first | rfl | omega)).mono ?_
      rintro e w11 ⟨rfl, hmw11, htw11⟩
      have H11 : Hid (Bel W w11 ∧ boxB w11 (W.heap.size) #[.slice paA0 paL0.length paC0] 55 ∧ Holds w11 (w2.heap.size) [⟨aw0_0, 3, 1, (qaL0).map IntKit.cells⟩] ∧ Holds w11 ((w4.alloc (.cells #[.slice (some ⟨gw4_0, 0, none⟩) paL0.length paL0.length] 39)).heap.size) [⟨ag0_0, 3, 1, ((IntRows.marks (1) qaL0.length)).map IntKit.cells⟩]) := ⟨Bel.turn (H10.out.1) htw11 (fun x hx => Off.under (H10.out.2.2.2) (by have h9 := LW_g.out; omega)), (H10.out.2.1).turn htw11 O5_.out, (H10.out.2.2.1).turn htw11 Q1_.out.symm, hmw11⟩
      clear hmw11 htw11 H10
      go_wp2_with fail
      refine (LawIntS.held_ints  ag0_0 cg0_0 qaL0 (1) _ _ _ (H11.out.2.2.2) HL_qaL0.out (by have := HL_paL0.out; have := HL_qaL0.out; omega) (by first | rfl | omega)).mono ?_
      rintro e w12 ⟨rfl, b12⟩
      have H12 : Hid (Bel W w12 ∧ boxB w12 (W.heap.size) #[.slice paA0 paL0.length paC0] 55 ∧ Holds w12 (w2.heap.size) [⟨aw0_0, 3, 1, (qaL0).map IntKit.cells⟩] ∧ Holds w12 ((w4.alloc (.cells #[.slice (some ⟨gw4_0, 0, none⟩) paL0.length paL0.length] 39)).heap.size) [⟨ag0_0, 3, 1, ((IntRows.marks (1) qaL0.length)).map IntKit.cells⟩]) := ⟨(H11.out.1).below b12, (H11.out.2.1).below b12, (H11.out.2.2.1).below b12, (H11.out.2.2.2).below b12⟩
      clear b12 H11
      have c0 := (H12.out.2.1).cell 0
      go_wp2_with fail
      refine (LawLedger.to_ledger  paA0 paC0 paL0 _ (HA_pa0.out.below (H12.out.1)) HL_paL0.out).mono ?_
      rintro e w13 ⟨gw13_0, rfl, hhw13, b13⟩
      have LW_tpa : Hid (W.heap.size ≤ w12.heap.size) := (H12.out.1).size
      have O7_ : Hid (Off (W.heap.size) [⟨(some ⟨gw13_0, 0, none⟩), 105, 5, (paL0).map SlotKit.cells⟩]) := Off.under (hhw13) (by have h9 := (H12.out.2.1).lt; omega)
      have Q3_ : Hid (Apart [⟨aw0_0, 3, 1, (qaL0).map IntKit.cells⟩] [⟨(some ⟨gw13_0, 0, none⟩), 105, 5, (paL0).map SlotKit.cells⟩]) := Apart.under (H12.out.2.2.1) (hhw13) (Nat.le_refl _)
      have Q4_ : Hid (Apart [⟨ag0_0, 3, 1, ((IntRows.marks (1) qaL0.length)).map IntKit.cells⟩] [⟨(some ⟨gw13_0, 0, none⟩), 105, 5, (paL0).map SlotKit.cells⟩]) := Apart.under (H12.out.2.2.2) (hhw13) (Nat.le_refl _)
      have H13 : Hid (Bel W w13 ∧ boxB w13 (W.heap.size) #[.slice paA0 paL0.length paC0] 55 ∧ Holds w13 (w2.heap.size) [⟨aw0_0, 3, 1, (qaL0).map IntKit.cells⟩] ∧ Holds w13 ((w4.alloc (.cells #[.slice (some ⟨gw4_0, 0, none⟩) paL0.length paL0.length] 39)).heap.size) [⟨ag0_0, 3, 1, ((IntRows.marks (1) qaL0.length)).map IntKit.cells⟩] ∧ Holds w13 (w12.heap.size) [⟨(some ⟨gw13_0, 0, none⟩), 105, 5, (paL0).map SlotKit.cells⟩]) := ⟨(H12.out.1).below b13, (H12.out.2.1).below b13, (H12.out.2.2.1).below b13, (H12.out.2.2.2).below b13, hhw13⟩
      clear c0 b13 H12 hhw13
      go_wp2_with fail
      refine (HIM (some ⟨gw13_0, 0, none⟩) paL0.length _ (H13.out.2.2.2.2.get (by simp)) (Nat.le_refl _)).mono ?_
      rintro e w14 ⟨ah0_0, ch0_0, rfl, hc_ch0_0, hhw14, b14⟩
      have LW_h : Hid (W.heap.size ≤ w13.heap.size) := (H13.out.1).size
      have O7_ : Hid (Off (W.heap.size) [⟨ah0_0, 3, 1, (qaL0).map IntKit.cells⟩]) := Off.under (hhw14) (by have h9 := (H13.out.2.1).lt; omega)
      have Q5_ : Hid (Apart [⟨aw0_0, 3, 1, (qaL0).map IntKit.cells⟩] [⟨ah0_0, 3, 1, (qaL0).map IntKit.cells⟩]) := Apart.under (H13.out.2.2.1) (hhw14) (Nat.le_refl _)
      have Q6_ : Hid (Apart [⟨ag0_0, 3, 1, ((IntRows.marks (1) qaL0.length)).map IntKit.cells⟩] [⟨ah0_0, 3, 1, (qaL0).map IntKit.cells⟩]) := Apart.under (H13.out.2.2.2.1) (hhw14) (Nat.le_refl _)
      have H14 : Hid (Bel W w14 ∧ boxB w14 (W.heap.size) #[.slice paA0 paL0.length paC0] 55 ∧ Holds w14 (w2.heap.size) [⟨aw0_0, 3, 1, (qaL0).map IntKit.cells⟩] ∧ Holds w14 ((w4.alloc (.cells #[.slice (some ⟨gw4_0, 0, none⟩) paL0.length paL0.length] 39)).heap.size) [⟨ag0_0, 3, 1, ((IntRows.marks (1) qaL0.length)).map IntKit.cells⟩] ∧ Holds w14 (w13.heap.size) [⟨ah0_0, 3, 1, (qaL0).map IntKit.cells⟩]) := ⟨(H13.out.1).below b14, (H13.out.2.1).below b14, (H13.out.2.2.1).below b14, (H13.out.2.2.2.1).below b14, hhw14⟩
      clear b14 H13 hhw14
      go_wp2_with fail
      refine (LawIntS.eq_ints  ah0_0 ch0_0 qaL0 aw0_0 cw0_0 _ (H14.out.2.2.2.2.get (by simp)) (H14.out.2.2.1.get (by simp)) HL_qaL0.out).mono ?_
      rintro e w15 ⟨rfl, b15⟩
      have H15 : Hid (Bel W w15 ∧ boxB w15 (W.heap.size) #[.slice paA0 paL0.length paC0] 55 ∧ Holds w15 (w2.heap.size) [⟨aw0_0, 3, 1, (qaL0).map IntKit.cells⟩] ∧ Holds w15 ((w4.alloc (.cells #[.slice (some ⟨gw4_0, 0, none⟩) paL0.length paL0.length] 39)).heap.size) [⟨ag0_0, 3, 1, ((IntRows.marks (1) qaL0.length)).map IntKit.cells⟩] ∧ Holds w15 (w13.heap.size) [⟨ah0_0, 3, 1, (qaL0).map IntKit.cells⟩]) := ⟨(H14.out.1).below b15, (H14.out.2.1).below b15, (H14.out.2.2.1).below b15, (H14.out.2.2.2.1).below b15, (H14.out.2.2.2.2).below b15⟩
      clear b15 H14
      go_wp2_with fail
      refine (LawIntS.held_ints  ag0_0 cg0_0 qaL0 (1) _ _ _ (H15.out.2.2.2.1) HL_qaL0.out (by have := HL_paL0.out; have := HL_qaL0.out; omega) (by first | rfl | omega)).mono ?_
      rintro e w16 ⟨rfl, b16⟩
      have H16 : Hid (Bel W w16 ∧ boxB w16 (W.heap.size) #[.slice paA0 paL0.length paC0] 55 ∧ Holds w16 (w2.heap.size) [⟨aw0_0, 3, 1, (qaL0).map IntKit.cells⟩] ∧ Holds w16 ((w4.alloc (.cells #[.slice (some ⟨gw4_0, 0, none⟩) paL0.length paL0.length] 39)).heap.size) [⟨ag0_0, 3, 1, ((IntRows.marks (1) qaL0.length)).map IntKit.cells⟩] ∧ Holds w16 (w13.heap.size) [⟨ah0_0, 3, 1, (qaL0).map IntKit.cells⟩]) := ⟨(H15.out.1).below b16, (H15.out.2.1).below b16, (H15.out.2.2.1).below b16, (H15.out.2.2.2.1).below b16, (H15.out.2.2.2.2).below b16⟩
      clear b16 H15
      go_wp2
      go_ret
      exact ⟨rfl, (H16.out.1).out⟩
  · skip
    have b0 : Below W.heap.size W (W.alloc (.cells #[.slice paA0 paL0.length paC0] 55)) := n1 W _
    go_enter Try.func5, Try.ntmps5
    go_wp2_with fail
    refine (LawLedger.sz_ledger  paA0 paC0 paL0.length (1048576) _ hm_pa0 (by omega) (by omega)).mono ?_
    rintro e z1 ⟨rfl, y1⟩
    rw [if_neg (by omega)]
    have B1 : Hid (Below W.heap.size W z1) := b0.trans (y1.mono b0.size)
    clear y1
    go_wp2
    go_ret
    exact ⟨rfl, B1.out⟩

theorem own : ownKnob Try.prog.godebug = none := by kernel_rfl
theorem laidOut : laidOutB Try.prog = true := by kernel_rfl

set_option maxRecDepth 100000 in
theorem lifted (os : Os) (started : os.Started) (H : Type) (enc : TypeId × Value → H) :
    ReturnsInHanded {} Try.checked os 5 .any (Rows.fnExactClientsSpec.pre6 enc Try.prog Try.f5 Rows.fnExactClientsRow.domain false) (Rows.fnExactClientsSpec.post enc Try.prog Try.f5 false true false false) := by
  refine returnsInHanded_of_change (C := Try.checked) own started (by kernel_rfl) Try.func5
    (ChangeSpec.witness6 (enc := enc) (C := Try.checked) false ⟨#[], #[.agg #[.slice none 0 0]], []⟩ 8 (by kernel_rfl) (by kernel_rfl) (by kernel_rfl) (by kernel_rfl)) ?_
  intro W base args ds gs before hval0 hW hcnd _
  have hval : ∀ (j : Nat) t v, Try.f5.params[j]? = some t → args[j]? = some v → Value.okWide Try.prog W .any base t v := hval0
  have hW' := hW
  obtain ⟨p, q, hA0, hV, rfl, hfz, hnd⟩ := hW
  have hA : DataW.TrodAll enc Try.prog W 0 (fun _ => true) true Try.f5.params.toList args.toList ds p := hA0
  rw [Try.params5] at hA hval
  obtain ⟨v0, vs0, d0, ds0, p0, q0, hargs, rfl, rfl, h0, r0⟩ := trodAll_cons hA
  obtain ⟨rfl, rfl, rfl⟩ := trodAll_nil r0
  obtain rfl : args = #[v0] := by cases args; simp_all
  obtain ⟨rfl, rfl⟩ := trodVars_none hV
  have k0_ := h0
  have lt0 : ∀ x ∈ p0, x.block < W.heap.size := by obtain ⟨m, hm⟩ := k0_; exact DataW.trod_lt m _ _ _ hm
  obtain ⟨aL0_0, cL0_0, L0_0, rfl, hL0_0, mL0_0⟩ := OpenLedger.open_ledger (hval 0 55 v0 rfl rfl) h0
  clear hA0 hval0
  refine (walk W aL0_0 cL0_0 L0_0 hL0_0 mL0_0).mono fun e W' ⟨he, hb⟩ => ?_
  subst he
  exact ⟨_, rfl, _, _, _, [], _, [], hW', trodAll_cons_mk (shut_bool Try.underlying4 _) trodAll_mk0, (trodAll_cons_mk (Below.trod laidOut (by kernel_rfl) (of_decide_eq_true (by kernel_rfl)) k0_ hb lt0) trodAll_mk0), rfl, hb.frame _, fun h => by cases h⟩

theorem over : Rows.fnExactClientsRow.holds Try.pinned (OpenSpec.ofChange Rows.fnExactClientsSpec) :=
  OpenClaim.holds_of_wide 5 Try.f5 rfl rfl rfl rfl rfl rfl rfl ⟨rfl, rfl, rfl, rfl, rfl⟩ rfl rfl rfl rfl rfl (by kernel_rfl) Try.func5 (by kernel_rfl)
    (of_decide_eq_true (by kernel_rfl)) (by unfold Func.isWrapper; first | (rw [if_pos (by decide +kernel)]; kernel_rfl) | (rw [if_neg (by decide +kernel)]; exact ⟨rfl, rfl⟩))
    (fun os started H enc _ => lifted os started H enc)

theorem proved : Rows.FnExactClientsSaid :=
  over
end Go.Proofs.Ytnabnghjejncpaa.fnExactClients
