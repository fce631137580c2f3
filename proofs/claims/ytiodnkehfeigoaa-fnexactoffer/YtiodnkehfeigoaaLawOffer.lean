/- At every queue and request the program's Offer answers as the model's, its answer owns its memory, and it writes into no argument (the law FnExactOffer returns true); no condition. -/
import Derived.Test.YtiodnkehfeigoaaRows
import Derived.WalkKit
import Derived.WalkSmall
import Derived.BigQuiet
import Derived.ProofKit
import Derived.OpenShut
import Derived.Deep.RegionWith
import Derived.Deep.DeepCutAuto
import Derived.Test.YtiodnkehfeigoaaListKit
import Derived.Test.YtiodnkehfeigoaaHoldKit
import Derived.Test.YtiodnkehfeigoaaRegFlow
import Derived.Test.YtiodnkehfeigoaaFlowHold
import Derived.Test.YtiodnkehfeigoaaReqKit
import Derived.Test.YtiodnkehfeigoaaReqRows
import Derived.Test.YtiodnkehfeigoaaLawQueue
import Derived.Test.YtiodnkehfeigoaaFlatReq
import Derived.Test.YtiodnkehfeigoaaOpenKit
import Derived.Test.YtiodnkehfeigoaaOpenQueue
import Derived.Test.YtiodnkehfeigoaaOpenReq
import Derived.Test.YtiodnkehfeigoaaQueBothOffer
namespace Go.Proofs.Ytiodnkehfeigoaa.fnExactOffer
open Go.ChangeShapes Go.WideShapes Go.ChangeAt Go.RowKit ListKit HoldKit QueBothOffer
set_option linter.unusedVariables false
set_option linter.unusedSimpArgs false
set_option maxRecDepth 8000

set_option maxHeartbeats 8000000 in
theorem walk (W : World) (pa0 : Int) (paA1 : Option Addr) (paC1 : Nat) (paL1 : List ReqKit.Req) (h_pa1 : ReqRows.Arg W paA1 paL1) (m_pa1 : paL1.length ≤ maxLen) (pb0 : Int) (pb1 : Int) (pb2 : Int) (pb3 : Int) (pb4 : Int) (pb5 : Int) :
    Calls Try.prog 5 #[.agg #[.int .i64 pa0, .slice paA1 paL1.length paC1], .agg #[.int .i64 pb0, .int .i64 pb1, .int .i64 pb2, .int .i64 pb3, .int .i64 pb4, .int .i64 pb5]] W fun e w' => e = .returned (.bool true) ∧ Below W.heap.size W w' := by
  have hm_pa1 : (paL1.length : Int) ≤ 9223372036854775807 := by unfold maxLen at m_pa1; omega
  by_cases hl0 : (paL1.length : Int) ≤ 1048576
  · skip
    have hk0 : ¬ (1048576 - ((paL1.length : Int))) < 0 := by omega
    obtain ⟨qa0, qaL1, qb0, qb1, qb2, qb3, qb4, qb5, qc, HSP, HIM, hpl⟩ := both_offer pa0 paL1 pb0 pb1 pb2 pb3 pb4 pb5 (by omega)
    have HL_qaL1 : Hid (qaL1.length ≤ 1048577) := hpl
    have HA_pa1 : Hid (ReqRows.Arg W paA1 paL1) := h_pa1
    have HL_paL1 : Hid (paL1.length ≤ 1048577) := by show _ ≤ _; omega
    have t_qa0 : (qa0 != qa0) = false := by simp
    have t_qb0 : (qb0 != qb0) = false := by simp
    have t_qb1 : (qb1 != qb1) = false := by simp
    have t_qb2 : (qb2 != qb2) = false := by simp
    have t_qb3 : (qb3 != qb3) = false := by simp
    have t_qb4 : (qb4 != qb4) = false := by simp
    have t_qb5 : (qb5 != qb5) = false := by simp
    have t_qc : (qc != qc) = false := by simp
    have kx1 : ¬ (1 + 6 * (paL1.length : Int)) < 0 := by omega
    have ky1 : ((1 + 6 * (paL1.length : Int)) != (1 + 6 * (paL1.length : Int))) = false := by simp
    have kx2 : ¬ (1 + 6 * (qaL1.length : Int)) < 0 := by omega
    have ky2 : ((1 + 6 * (qaL1.length : Int)) != (1 + 6 * (qaL1.length : Int))) = false := by simp
    have H0 : Hid (Bel W ((W.alloc (.cells #[.int .i64 pa0, .slice paA1 paL1.length paC1] 24)).alloc (.cells #[.int .i64 pb0, .int .i64 pb1, .int .i64 pb2, .int .i64 pb3, .int .i64 pb4, .int .i64 pb5] 38)) ∧ boxB ((W.alloc (.cells #[.int .i64 pa0, .slice paA1 paL1.length paC1] 24)).alloc (.cells #[.int .i64 pb0, .int .i64 pb1, .int .i64 pb2, .int .i64 pb3, .int .i64 pb4, .int .i64 pb5] 38)) (W.heap.size) #[.int .i64 pa0, .slice paA1 paL1.length paC1] 24 ∧ boxB ((W.alloc (.cells #[.int .i64 pa0, .slice paA1 paL1.length paC1] 24)).alloc (.cells #[.int .i64 pb0, .int .i64 pb1, .int .i64 pb2, .int .i64 pb3, .int .i64 pb4, .int .i64 pb5] 38)) (W.heap.size + 1) #[.int .i64 pb0, .int .i64 pb1, .int .i64 pb2, .int .i64 pb3, .int .i64 pb4, .int .i64 pb5] 38) := ⟨n2 W _ _, (boxB.new _ _ _).below (n1 _ _), new2 _ _ _ _⟩
    clear h_pa1 m_pa1
    go_enter Try.func5, Try.ntmps5
    have c0 := (H0.out.2.1).cell 0
    have c1 := (H0.out.2.1).cell 1
    go_wp2_with fail
    refine (LawQueue.sz_queue pa0 paA1 paC1 paL1.length (1048576) _ hm_pa1 (by omega) (by omega)).mono ?_
    rintro e w1 ⟨rfl, b1⟩
    rw [if_pos (by omega)]
    have H1 : Hid (Bel W w1 ∧ boxB w1 (W.heap.size) #[.int .i64 pa0, .slice paA1 paL1.length paC1] 24 ∧ boxB w1 (W.heap.size + 1) #[.int .i64 pb0, .int .i64 pb1, .int .i64 pb2, .int .i64 pb3, .int .i64 pb4, .int .i64 pb5] 38) := ⟨(H0.out.1).below b1, (H0.out.2.1).below b1, (H0.out.2.2).below b1⟩
    clear c0 c1 b1 H0
    go_upto_region 5 with fail
    refine RegFlow.wp_region_flow (fun b u wI => ∃ (ws : World) (gw1_1 : Nat) (aw0_1 : Option Addr) (cw0_1 : Nat) (nw0 : Nat) (nw1 : Nat), wI = (FlowHold.Stored (b 12) (FlowHold.Stored (b 11) ws nw0 [.int .i64 qa0, .slice aw0_1 qaL1.length cw0_1]) nw1 [.int .i64 qb0, .int .i64 qb1, .int .i64 qb2, .int .i64 qb3, .int .i64 qb4, .int .i64 qb5]) ∧ Below w1.heap.size w1 ws ∧ (b 0 = true → u 0 = .agg #[.int .i64 pa0, .slice paA1 paL1.length paC1]) ∧ (b 1 = true → u 1 = .agg #[.int .i64 pa0, .slice (some ⟨gw1_1, 0, none⟩) paL1.length paL1.length]) ∧ (b 2 = true → u 2 = .agg #[.int .i64 pb0, .int .i64 pb1, .int .i64 pb2, .int .i64 pb3, .int .i64 pb4, .int .i64 pb5]) ∧ (b 3 = true → u 3 = .agg #[.int .i64 pb0, .int .i64 pb1, .int .i64 pb2, .int .i64 pb3, .int .i64 pb4, .int .i64 pb5]) ∧ (b 4 = true → u 4 = .tuple #[.agg #[.int .i64 qa0, .slice aw0_1 qaL1.length cw0_1], .agg #[.int .i64 qb0, .int .i64 qb1, .int .i64 qb2, .int .i64 qb3, .int .i64 qb4, .int .i64 qb5], .bool qc]) ∧ (b 5 = true → u 5 = .tuple #[.agg #[.int .i64 qa0, .slice aw0_1 qaL1.length cw0_1], .agg #[.int .i64 qb0, .int .i64 qb1, .int .i64 qb2, .int .i64 qb3, .int .i64 qb4, .int .i64 qb5], .bool qc]) ∧ (b 6 = true → u 6 = .agg #[.int .i64 qa0, .slice aw0_1 qaL1.length cw0_1]) ∧ (b 7 = true → u 7 = .agg #[.int .i64 qb0, .int .i64 qb1, .int .i64 qb2, .int .i64 qb3, .int .i64 qb4, .int .i64 qb5]) ∧ (b 8 = true → u 8 = .bool qc) ∧ (b 9 = true → u 9 = .pointer (some ⟨nw0, 0, none⟩)) ∧ (b 10 = true → u 10 = .pointer (some ⟨nw1, 0, none⟩)) ∧ (b 13 = true → u 13 = .bool qc) ∧ (b 1 = true → Holds ws w1.heap.size [⟨(some ⟨gw1_1, 0, none⟩), 39, 6, (paL1).map ReqKit.cells⟩]) ∧ (b 4 = true → qaL1.length ≤ cw0_1 ∧ Holds ws w1.heap.size [⟨aw0_1, 39, 6, (qaL1).map ReqKit.cells⟩]) ∧ (b 9 = true → boxB ws nw0 #[.int .i64 0, .slice none 0 0] 29 ∧ w1.heap.size ≤ nw0) ∧ (b 10 = true → boxB ws nw1 #[.int .i64 0, .int .i64 0, .int .i64 0, .int .i64 0, .int .i64 0, .int .i64 0] 39 ∧ w1.heap.size ≤ nw1) ∧ (b 4 = true → b 9 = true → Off nw0 [⟨aw0_1, 39, 6, (qaL1).map ReqKit.cells⟩]) ∧ (b 4 = true → b 10 = true → Off nw1 [⟨aw0_1, 39, 6, (qaL1).map ReqKit.cells⟩]) ∧ (b 9 = true → b 10 = true → nw0 ≠ nw1)) (by kernel_rfl) (by kernel_rfl) (by rfl) ⟨w1.drew, 0, none, 0, 0, 0, rfl, (Below.refl _ _).drew, fun h => FlowHold.no_way rfl h, fun h => FlowHold.no_way rfl h, fun h => FlowHold.no_way rfl h, fun h => FlowHold.no_way rfl h, fun h => FlowHold.no_way rfl h, fun h => FlowHold.no_way rfl h, fun h => FlowHold.no_way rfl h, fun h => FlowHold.no_way rfl h, fun h => FlowHold.no_way rfl h, fun h => FlowHold.no_way rfl h, fun h => FlowHold.no_way rfl h, fun h => FlowHold.no_way rfl h, fun h => FlowHold.no_way rfl h, fun h => FlowHold.no_way rfl h, fun h => FlowHold.no_way rfl h, fun h => FlowHold.no_way rfl h, fun h => FlowHold.no_way rfl h, fun h => FlowHold.no_way rfl h, fun h => FlowHold.no_way rfl h⟩ ⟨?_, ?_, ?_, ?_, ?_, ?_, ?_, ?_, ?_, ?_, ?_, ?_, ?_, ?_, trivial⟩ ?_
    · intro b u wI ρ hI hcl hp hk hρ
      obtain ⟨ws, gw1_1, aw0_1, cw0_1, nw0, nw1, hw, hB, V0, V1, V2, V3, V4, V5, V6, V7, V8, V9, V10, V13, T1, O4, B9, B10, D9, D10, E9_10⟩ := hI
      have m1 : b 1 = false := hcl.no (i := 1) rfl (k := 0) (by rfl) hk
      have m3 : b 3 = false := hcl.no (i := 3) rfl (k := 1) (by rfl) m1
      have m4 : b 4 = false := hcl.no (i := 4) rfl (k := 1) (by rfl) m1
      have m5 : b 5 = false := hcl.no (i := 5) rfl (k := 4) (by rfl) m4
      have m6 : b 6 = false := hcl.no (i := 6) rfl (k := 5) (by rfl) m5
      have m7 : b 7 = false := hcl.no (i := 7) rfl (k := 5) (by rfl) m5
      have m8 : b 8 = false := hcl.no (i := 8) rfl (k := 5) (by rfl) m5
      have m11 : b 11 = false := hcl.no (i := 11) rfl (k := 0) (by rfl) hk
      have m12 : b 12 = false := hcl.no (i := 12) rfl (k := 0) (by rfl) hk
      have m13 : b 13 = false := hcl.no (i := 13) rfl (k := 0) (by rfl) hk
      rw [FlowHold.stored_no m12, FlowHold.stored_no m11] at hw
      have hw2 := hw.symm
      subst hw2
      have r2 : ρ (.tmp 2) = .pointer (some ⟨W.heap.size, 0, none⟩) := hρ (.tmp 2) (by simp [Op.operands, Call.operands])
      have c0 := (H1.out.2.1.below hB).cell 0
      have c1 := (H1.out.2.1.below hB).cell 1
      refine RegFlow.gives_value (v := .agg #[.int .i64 pa0, .slice paA1 paL1.length paC1]) (w' := ws) (by go_simp) ⟨ws, gw1_1, aw0_1, cw0_1, nw0, nw1, by rw [FlowHold.stored_no (show RegFlow.setB b 0 12 = false from m12), FlowHold.stored_no (show RegFlow.setB b 0 11 = false from m11)], hB, fun _ => rfl, V1, V2, V3, V4, V5, V6, V7, V8, V9, V10, V13, T1, O4, B9, B10, D9, D10, E9_10⟩
    · intro b u wI ρ hI hcl hp hk hρ
      obtain ⟨ws, gw1_1, aw0_1, cw0_1, nw0, nw1, hw, hB, V0, V1, V2, V3, V4, V5, V6, V7, V8, V9, V10, V13, T1, O4, B9, B10, D9, D10, E9_10⟩ := hI
      have hp2 : (b 0 && true) = true := hp
      simp only [Bool.and_eq_true, Bool.and_true] at hp2
      have p0 := hp2
      have m3 : b 3 = false := hcl.no (i := 3) rfl (k := 1) (by rfl) hk
      have m4 : b 4 = false := hcl.no (i := 4) rfl (k := 1) (by rfl) hk
      have m5 : b 5 = false := hcl.no (i := 5) rfl (k := 4) (by rfl) m4
      have m6 : b 6 = false := hcl.no (i := 6) rfl (k := 5) (by rfl) m5
      have m7 : b 7 = false := hcl.no (i := 7) rfl (k := 5) (by rfl) m5
      have m8 : b 8 = false := hcl.no (i := 8) rfl (k := 5) (by rfl) m5
      have m11 : b 11 = false := hcl.no (i := 11) rfl (k := 1) (by rfl) hk
      have m12 : b 12 = false := hcl.no (i := 12) rfl (k := 1) (by rfl) hk
      have m13 : b 13 = false := hcl.no (i := 13) rfl (k := 1) (by rfl) hk
      rw [FlowHold.stored_no m12, FlowHold.stored_no m11] at hw
      have hw2 := hw.symm
      subst hw2
      have r25 : ρ (.tmp 25) = .agg #[.int .i64 pa0, .slice paA1 paL1.length paC1] := (hρ (.tmp 25) (by simp [Op.operands, Call.operands])).trans (V0 p0)
      have rf : ρ (.func 13) = .func (.func 13) #[] #[] := hρ (.func 13) (by simp [Op.operands, Call.operands])
      refine RegFlow.gives_call (f := 13) (args := #[.agg #[.int .i64 pa0, .slice paA1 paL1.length paC1]]) (w' := ws) (by go_simp) (LawQueue.to_queue pa0 paA1 paC1 paL1 ws (HA_pa1.out.below ((H1.out.1).below hB)) HL_paL1.out) ?_
      rintro e wN ⟨g1N, rfl, hh, hb⟩
      exact ⟨_, rfl, wN, g1N, aw0_1, cw0_1, nw0, nw1, by rw [FlowHold.stored_no (show RegFlow.setB b 1 12 = false from m12), FlowHold.stored_no (show RegFlow.setB b 1 11 = false from m11)], hB.trans (hb.mono hB.size), V0, fun _ => rfl, V2, fun h => FlowHold.no_way m3 h, fun h => FlowHold.no_way m4 h, fun h => FlowHold.no_way m5 h, fun h => FlowHold.no_way m6 h, fun h => FlowHold.no_way m7 h, fun h => FlowHold.no_way m8 h, V9, V10, fun h => FlowHold.no_way m13 h, fun _ => hh.low hB.size, fun h => ⟨(O4 h).1, ((O4 h).2).below hb⟩, fun h => ⟨(B9 h).1.below hb, (B9 h).2⟩, fun h => ⟨(B10 h).1.below hb, (B10 h).2⟩, D9, D10, E9_10⟩
    · intro b u wI ρ hI hcl hp hk hρ
      obtain ⟨ws, gw1_1, aw0_1, cw0_1, nw0, nw1, hw, hB, V0, V1, V2, V3, V4, V5, V6, V7, V8, V9, V10, V13, T1, O4, B9, B10, D9, D10, E9_10⟩ := hI
      have m3 : b 3 = false := hcl.no (i := 3) rfl (k := 2) (by rfl) hk
      have m4 : b 4 = false := hcl.no (i := 4) rfl (k := 3) (by rfl) m3
      have m5 : b 5 = false := hcl.no (i := 5) rfl (k := 4) (by rfl) m4
      have m6 : b 6 = false := hcl.no (i := 6) rfl (k := 5) (by rfl) m5
      have m7 : b 7 = false := hcl.no (i := 7) rfl (k := 5) (by rfl) m5
      have m8 : b 8 = false := hcl.no (i := 8) rfl (k := 5) (by rfl) m5
      have m11 : b 11 = false := hcl.no (i := 11) rfl (k := 2) (by rfl) hk
      have m12 : b 12 = false := hcl.no (i := 12) rfl (k := 2) (by rfl) hk
      have m13 : b 13 = false := hcl.no (i := 13) rfl (k := 2) (by rfl) hk
      rw [FlowHold.stored_no m12, FlowHold.stored_no m11] at hw
      have hw2 := hw.symm
      subst hw2
      have r3 : ρ (.tmp 3) = .pointer (some ⟨W.heap.size + 1, 0, none⟩) := hρ (.tmp 3) (by simp [Op.operands, Call.operands])
      have c0 := (H1.out.2.2.below hB).cell 0
      have c1 := (H1.out.2.2.below hB).cell 1
      have c2 := (H1.out.2.2.below hB).cell 2
      have c3 := (H1.out.2.2.below hB).cell 3
      have c4 := (H1.out.2.2.below hB).cell 4
      have c5 := (H1.out.2.2.below hB).cell 5
      refine RegFlow.gives_value (v := .agg #[.int .i64 pb0, .int .i64 pb1, .int .i64 pb2, .int .i64 pb3, .int .i64 pb4, .int .i64 pb5]) (w' := ws) (by go_simp) ⟨ws, gw1_1, aw0_1, cw0_1, nw0, nw1, by rw [FlowHold.stored_no (show RegFlow.setB b 2 12 = false from m12), FlowHold.stored_no (show RegFlow.setB b 2 11 = false from m11)], hB, V0, V1, fun _ => rfl, V3, V4, V5, V6, V7, V8, V9, V10, V13, T1, O4, B9, B10, D9, D10, E9_10⟩
    · intro b u wI ρ hI hcl hp hk hρ
      obtain ⟨ws, gw1_1, aw0_1, cw0_1, nw0, nw1, hw, hB, V0, V1, V2, V3, V4, V5, V6, V7, V8, V9, V10, V13, T1, O4, B9, B10, D9, D10, E9_10⟩ := hI
      have hp2 : (b 2 && (b 1 && true)) = true := hp
      simp only [Bool.and_eq_true, Bool.and_true] at hp2
      obtain ⟨p0, p1⟩ := hp2
      have m4 : b 4 = false := hcl.no (i := 4) rfl (k := 3) (by rfl) hk
      have m5 : b 5 = false := hcl.no (i := 5) rfl (k := 4) (by rfl) m4
      have m6 : b 6 = false := hcl.no (i := 6) rfl (k := 5) (by rfl) m5
      have m7 : b 7 = false := hcl.no (i := 7) rfl (k := 5) (by rfl) m5
      have m8 : b 8 = false := hcl.no (i := 8) rfl (k := 5) (by rfl) m5
      have m11 : b 11 = false := hcl.no (i := 11) rfl (k := 3) (by rfl) hk
      have m12 : b 12 = false := hcl.no (i := 12) rfl (k := 3) (by rfl) hk
      have m13 : b 13 = false := hcl.no (i := 13) rfl (k := 3) (by rfl) hk
      rw [FlowHold.stored_no m12, FlowHold.stored_no m11] at hw
      have hw2 := hw.symm
      subst hw2
      have r27 : ρ (.tmp 27) = .agg #[.int .i64 pb0, .int .i64 pb1, .int .i64 pb2, .int .i64 pb3, .int .i64 pb4, .int .i64 pb5] := (hρ (.tmp 27) (by simp [Op.operands, Call.operands])).trans (V2 p0)
      have rf : ρ (.func 21) = .func (.func 21) #[] #[] := hρ (.func 21) (by simp [Op.operands, Call.operands])
      refine RegFlow.gives_call (f := 21) (args := #[.agg #[.int .i64 pb0, .int .i64 pb1, .int .i64 pb2, .int .i64 pb3, .int .i64 pb4, .int .i64 pb5]]) (w' := ws) (by go_simp) (FlatReq.to_one pb0 pb1 pb2 pb3 pb4 pb5 ws) ?_
      rintro e wN ⟨rfl, hb⟩
      exact ⟨_, rfl, wN, gw1_1, aw0_1, cw0_1, nw0, nw1, by rw [FlowHold.stored_no (show RegFlow.setB b 3 12 = false from m12), FlowHold.stored_no (show RegFlow.setB b 3 11 = false from m11)], hB.trans (hb.mono hB.size), V0, V1, V2, fun _ => rfl, V4, V5, V6, V7, V8, V9, V10, V13, fun h => (T1 h).below hb, fun h => ⟨(O4 h).1, ((O4 h).2).below hb⟩, fun h => ⟨(B9 h).1.below hb, (B9 h).2⟩, fun h => ⟨(B10 h).1.below hb, (B10 h).2⟩, D9, D10, E9_10⟩
    · intro b u wI ρ hI hcl hp hk hρ
      obtain ⟨ws, gw1_1, aw0_1, cw0_1, nw0, nw1, hw, hB, V0, V1, V2, V3, V4, V5, V6, V7, V8, V9, V10, V13, T1, O4, B9, B10, D9, D10, E9_10⟩ := hI
      have hp2 : (b 1 && (b 3 && (b 3 && true))) = true := hp
      simp only [Bool.and_eq_true, Bool.and_true] at hp2
      obtain ⟨p0, p1, p2⟩ := hp2
      have m5 : b 5 = false := hcl.no (i := 5) rfl (k := 4) (by rfl) hk
      have m6 : b 6 = false := hcl.no (i := 6) rfl (k := 5) (by rfl) m5
      have m7 : b 7 = false := hcl.no (i := 7) rfl (k := 5) (by rfl) m5
      have m8 : b 8 = false := hcl.no (i := 8) rfl (k := 5) (by rfl) m5
      have m11 : b 11 = false := hcl.no (i := 11) rfl (k := 4) (by rfl) hk
      have m12 : b 12 = false := hcl.no (i := 12) rfl (k := 4) (by rfl) hk
      have m13 : b 13 = false := hcl.no (i := 13) rfl (k := 4) (by rfl) hk
      rw [FlowHold.stored_no m12, FlowHold.stored_no m11] at hw
      have hw2 := hw.symm
      subst hw2
      have r26 : ρ (.tmp 26) = .agg #[.int .i64 pa0, .slice (some ⟨gw1_1, 0, none⟩) paL1.length paL1.length] := (hρ (.tmp 26) (by simp [Op.operands, Call.operands])).trans (V1 p0)
      have r28 : ρ (.tmp 28) = .agg #[.int .i64 pb0, .int .i64 pb1, .int .i64 pb2, .int .i64 pb3, .int .i64 pb4, .int .i64 pb5] := (hρ (.tmp 28) (by simp [Op.operands, Call.operands])).trans (V3 p1)
      have rf : ρ (.func 20) = .func (.func 20) #[] #[] := hρ (.func 20) (by simp [Op.operands, Call.operands])
      refine RegFlow.gives_call (f := 20) (args := #[.agg #[.int .i64 pa0, .slice (some ⟨gw1_1, 0, none⟩) paL1.length paL1.length], .agg #[.int .i64 pb0, .int .i64 pb1, .int .i64 pb2, .int .i64 pb3, .int .i64 pb4, .int .i64 pb5]]) (w' := ws) (by go_simp) (HSP (some ⟨gw1_1, 0, none⟩) paL1.length ws ((T1 p0).get (by simp)) (Nat.le_refl _)) ?_
      rintro e wN ⟨a0N, c0N, rfl, h0N, hh, hb⟩
      exact ⟨_, rfl, wN, gw1_1, a0N, c0N, nw0, nw1, by rw [FlowHold.stored_no (show RegFlow.setB b 4 12 = false from m12), FlowHold.stored_no (show RegFlow.setB b 4 11 = false from m11)], hB.trans (hb.mono hB.size), V0, V1, V2, V3, fun _ => rfl, fun h => FlowHold.no_way m5 h, fun h => FlowHold.no_way m6 h, fun h => FlowHold.no_way m7 h, fun h => FlowHold.no_way m8 h, V9, V10, fun h => FlowHold.no_way m13 h, fun h => (T1 h).below hb, fun _ => ⟨h0N, hh.low hB.size⟩, fun h => ⟨(B9 h).1.below hb, (B9 h).2⟩, fun h => ⟨(B10 h).1.below hb, (B10 h).2⟩, fun _ h => Off.under hh (B9 h).1.lt, fun _ h => Off.under hh (B10 h).1.lt, E9_10⟩
    · intro b u wI ρ hI hcl hp hk hρ
      obtain ⟨ws, gw1_1, aw0_1, cw0_1, nw0, nw1, hw, hB, V0, V1, V2, V3, V4, V5, V6, V7, V8, V9, V10, V13, T1, O4, B9, B10, D9, D10, E9_10⟩ := hI
      have hp2 : (b 4 && true) = true := hp
      simp only [Bool.and_eq_true, Bool.and_true] at hp2
      have p0 := hp2
      have m6 : b 6 = false := hcl.no (i := 6) rfl (k := 5) (by rfl) hk
      have m7 : b 7 = false := hcl.no (i := 7) rfl (k := 5) (by rfl) hk
      have m8 : b 8 = false := hcl.no (i := 8) rfl (k := 5) (by rfl) hk
      have m11 : b 11 = false := hcl.no (i := 11) rfl (k := 5) (by rfl) hk
      have m12 : b 12 = false := hcl.no (i := 12) rfl (k := 5) (by rfl) hk
      have m13 : b 13 = false := hcl.no (i := 13) rfl (k := 5) (by rfl) hk
      have r29 : ρ (.tmp 29) = .tuple #[.agg #[.int .i64 qa0, .slice aw0_1 qaL1.length cw0_1], .agg #[.int .i64 qb0, .int .i64 qb1, .int .i64 qb2, .int .i64 qb3, .int .i64 qb4, .int .i64 qb5], .bool qc] := (hρ (.tmp 29) (by simp [Op.operands, Call.operands])).trans (V4 p0)
      refine RegFlow.gives_value (v := .tuple #[.agg #[.int .i64 qa0, .slice aw0_1 qaL1.length cw0_1], .agg #[.int .i64 qb0, .int .i64 qb1, .int .i64 qb2, .int .i64 qb3, .int .i64 qb4, .int .i64 qb5], .bool qc]) (w' := wI) (by go_simp) ⟨ws, gw1_1, aw0_1, cw0_1, nw0, nw1, hw, hB, V0, V1, V2, V3, V4, fun _ => rfl, V6, V7, V8, V9, V10, V13, T1, O4, B9, B10, D9, D10, E9_10⟩
    · intro b u wI ρ hI hcl hp hk hρ
      obtain ⟨ws, gw1_1, aw0_1, cw0_1, nw0, nw1, hw, hB, V0, V1, V2, V3, V4, V5, V6, V7, V8, V9, V10, V13, T1, O4, B9, B10, D9, D10, E9_10⟩ := hI
      have hp2 : (b 5 && true) = true := hp
      simp only [Bool.and_eq_true, Bool.and_true] at hp2
      have p0 := hp2
      have m11 : b 11 = false := hcl.no (i := 11) rfl (k := 6) (by rfl) hk
      have m12 : b 12 = false := hcl.no (i := 12) rfl (k := 6) (by rfl) hk
      have m13 : b 13 = false := hcl.no (i := 13) rfl (k := 6) (by rfl) hk
      have r24 : ρ (.tmp 24) = .tuple #[.agg #[.int .i64 qa0, .slice aw0_1 qaL1.length cw0_1], .agg #[.int .i64 qb0, .int .i64 qb1, .int .i64 qb2, .int .i64 qb3, .int .i64 qb4, .int .i64 qb5], .bool qc] := (hρ (.tmp 24) (by simp [Op.operands, Call.operands])).trans (V5 p0)
      refine RegFlow.gives_value (v := .agg #[.int .i64 qa0, .slice aw0_1 qaL1.length cw0_1]) (w' := wI) (by go_simp) ⟨ws, gw1_1, aw0_1, cw0_1, nw0, nw1, hw, hB, V0, V1, V2, V3, V4, V5, fun _ => rfl, V7, V8, V9, V10, V13, T1, O4, B9, B10, D9, D10, E9_10⟩
    · intro b u wI ρ hI hcl hp hk hρ
      obtain ⟨ws, gw1_1, aw0_1, cw0_1, nw0, nw1, hw, hB, V0, V1, V2, V3, V4, V5, V6, V7, V8, V9, V10, V13, T1, O4, B9, B10, D9, D10, E9_10⟩ := hI
      have hp2 : (b 5 && true) = true := hp
      simp only [Bool.and_eq_true, Bool.and_true] at hp2
      have p0 := hp2
      have m12 : b 12 = false := hcl.no (i := 12) rfl (k := 7) (by rfl) hk
      have m13 : b 13 = false := hcl.no (i := 13) rfl (k := 7) (by rfl) hk
      have r24 : ρ (.tmp 24) = .tuple #[.agg #[.int .i64 qa0, .slice aw0_1 qaL1.length cw0_1], .agg #[.int .i64 qb0, .int .i64 qb1, .int .i64 qb2, .int .i64 qb3, .int .i64 qb4, .int .i64 qb5], .bool qc] := (hρ (.tmp 24) (by simp [Op.operands, Call.operands])).trans (V5 p0)
      refine RegFlow.gives_value (v := .agg #[.int .i64 qb0, .int .i64 qb1, .int .i64 qb2, .int .i64 qb3, .int .i64 qb4, .int .i64 qb5]) (w' := wI) (by go_simp) ⟨ws, gw1_1, aw0_1, cw0_1, nw0, nw1, hw, hB, V0, V1, V2, V3, V4, V5, V6, fun _ => rfl, V8, V9, V10, V13, T1, O4, B9, B10, D9, D10, E9_10⟩
    · intro b u wI ρ hI hcl hp hk hρ
      obtain ⟨ws, gw1_1, aw0_1, cw0_1, nw0, nw1, hw, hB, V0, V1, V2, V3, V4, V5, V6, V7, V8, V9, V10, V13, T1, O4, B9, B10, D9, D10, E9_10⟩ := hI
      have hp2 : (b 5 && true) = true := hp
      simp only [Bool.and_eq_true, Bool.and_true] at hp2
      have p0 := hp2
      have m13 : b 13 = false := hcl.no (i := 13) rfl (k := 8) (by rfl) hk
      have r24 : ρ (.tmp 24) = .tuple #[.agg #[.int .i64 qa0, .slice aw0_1 qaL1.length cw0_1], .agg #[.int .i64 qb0, .int .i64 qb1, .int .i64 qb2, .int .i64 qb3, .int .i64 qb4, .int .i64 qb5], .bool qc] := (hρ (.tmp 24) (by simp [Op.operands, Call.operands])).trans (V5 p0)
      refine RegFlow.gives_value (v := .bool qc) (w' := wI) (by go_simp) ⟨ws, gw1_1, aw0_1, cw0_1, nw0, nw1, hw, hB, V0, V1, V2, V3, V4, V5, V6, V7, fun _ => rfl, V9, V10, V13, T1, O4, B9, B10, D9, D10, E9_10⟩
    · intro b u wI ρ hI hcl hp hk hρ
      obtain ⟨ws, gw1_1, aw0_1, cw0_1, nw0, nw1, hw, hB, V0, V1, V2, V3, V4, V5, V6, V7, V8, V9, V10, V13, T1, O4, B9, B10, D9, D10, E9_10⟩ := hI
      have m11 : b 11 = false := hcl.no (i := 11) rfl (k := 9) (by rfl) hk
      have m12 : b 12 = false := hcl.no (i := 12) rfl (k := 9) (by rfl) hk
      have m13 : b 13 = false := hcl.no (i := 13) rfl (k := 9) (by rfl) hk
      rw [FlowHold.stored_no m12, FlowHold.stored_no m11] at hw
      have hw2 := hw.symm
      subst hw2
      refine RegFlow.gives_value (v := .pointer (some ⟨ws.heap.size, 0, none⟩)) (w' := ws.alloc (.cells #[.int .i64 0, .slice none 0 0] 29)) (by go_simp) ⟨ws.alloc (.cells #[.int .i64 0, .slice none 0 0] 29), gw1_1, aw0_1, cw0_1, ws.heap.size, nw1, by rw [FlowHold.stored_no (show RegFlow.setB b 9 12 = false from m12), FlowHold.stored_no (show RegFlow.setB b 9 11 = false from m11)], hB.alloc hB.size _, V0, V1, V2, V3, V4, V5, V6, V7, V8, fun _ => rfl, V10, V13, fun h => (T1 h).below (n1 ws _), fun h => ⟨(O4 h).1, ((O4 h).2).below (n1 ws _)⟩, fun _ => ⟨boxB.new _ _ _, hB.size⟩, fun h => ⟨(B10 h).1.below (n1 ws _), (B10 h).2⟩, fun h _ => Off.above ((O4 h).2) (Nat.le_refl _), D10, fun _ h => Nat.ne_of_gt (B10 h).1.lt⟩
    · intro b u wI ρ hI hcl hp hk hρ
      obtain ⟨ws, gw1_1, aw0_1, cw0_1, nw0, nw1, hw, hB, V0, V1, V2, V3, V4, V5, V6, V7, V8, V9, V10, V13, T1, O4, B9, B10, D9, D10, E9_10⟩ := hI
      have m11 : b 11 = false := hcl.no (i := 11) rfl (k := 10) (by rfl) hk
      have m12 : b 12 = false := hcl.no (i := 12) rfl (k := 10) (by rfl) hk
      have m13 : b 13 = false := hcl.no (i := 13) rfl (k := 10) (by rfl) hk
      rw [FlowHold.stored_no m12, FlowHold.stored_no m11] at hw
      have hw2 := hw.symm
      subst hw2
      refine RegFlow.gives_value (v := .pointer (some ⟨ws.heap.size, 0, none⟩)) (w' := ws.alloc (.cells #[.int .i64 0, .int .i64 0, .int .i64 0, .int .i64 0, .int .i64 0, .int .i64 0] 39)) (by go_simp) ⟨ws.alloc (.cells #[.int .i64 0, .int .i64 0, .int .i64 0, .int .i64 0, .int .i64 0, .int .i64 0] 39), gw1_1, aw0_1, cw0_1, nw0, ws.heap.size, by rw [FlowHold.stored_no (show RegFlow.setB b 10 12 = false from m12), FlowHold.stored_no (show RegFlow.setB b 10 11 = false from m11)], hB.alloc hB.size _, V0, V1, V2, V3, V4, V5, V6, V7, V8, V9, fun _ => rfl, V13, fun h => (T1 h).below (n1 ws _), fun h => ⟨(O4 h).1, ((O4 h).2).below (n1 ws _)⟩, fun h => ⟨(B9 h).1.below (n1 ws _), (B9 h).2⟩, fun _ => ⟨boxB.new _ _ _, hB.size⟩, D9, fun h _ => Off.above ((O4 h).2) (Nat.le_refl _), fun h _ => Nat.ne_of_lt (B9 h).1.lt⟩
    · intro b u wI ρ hI hcl hp hk hρ
      obtain ⟨ws, gw1_1, aw0_1, cw0_1, nw0, nw1, hw, hB, V0, V1, V2, V3, V4, V5, V6, V7, V8, V9, V10, V13, T1, O4, B9, B10, D9, D10, E9_10⟩ := hI
      have hp2 : (b 9 && (b 6 && (b 4 && (b 0 && (b 1 && (b 2 && (b 3 && (b 4 && (b 5 && (b 6 && (b 9 && (b 10 && true)))))))))))) = true := hp
      simp only [Bool.and_eq_true, Bool.and_true] at hp2
      obtain ⟨p0, p1, p2, p3, p4, p5, p6, p7, p8, p9, p10, p11⟩ := hp2
      have m12 : b 12 = false := hcl.no (i := 12) rfl (k := 11) (by rfl) hk
      have m13 : b 13 = false := hcl.no (i := 13) rfl (k := 11) (by rfl) hk
      rw [FlowHold.stored_no m12, FlowHold.stored_no hk] at hw
      have hw2 := hw.symm
      subst hw2
      have r6 : ρ (.tmp 6) = .pointer (some ⟨nw0, 0, none⟩) := (hρ (.tmp 6) (by simp [Op.operands, Call.operands])).trans (V9 p0)
      have r30 : ρ (.tmp 30) = .agg #[.int .i64 qa0, .slice aw0_1 qaL1.length cw0_1] := (hρ (.tmp 30) (by simp [Op.operands, Call.operands])).trans (V6 p1)
      have bx : boxB ws nw0 #[.int .i64 0, .slice none 0 0] 29 := (B9 p0).1
      have c0 := bx.cell 0
      have f0 := fzB bx 0
      have c1 := bx.cell 1
      have f1 := fzB bx 1
      refine RegFlow.gives_skip (w' := sets ws nw0 0 [.int .i64 qa0, .slice aw0_1 qaL1.length cw0_1]) (by go_simp; rfl) ?_
      exact ⟨ws, gw1_1, aw0_1, cw0_1, nw0, nw1, by rw [FlowHold.stored_no (show RegFlow.setB b 11 12 = false from m12), FlowHold.stored_yes (show RegFlow.setB b 11 11 = true from rfl)], hB, V0, V1, V2, V3, V4, V5, V6, V7, V8, V9, V10, V13, T1, O4, B9, B10, D9, D10, E9_10⟩
    · intro b u wI ρ hI hcl hp hk hρ
      obtain ⟨ws, gw1_1, aw0_1, cw0_1, nw0, nw1, hw, hB, V0, V1, V2, V3, V4, V5, V6, V7, V8, V9, V10, V13, T1, O4, B9, B10, D9, D10, E9_10⟩ := hI
      have hp2 : (b 10 && (b 7 && (b 11 && (b 0 && (b 1 && (b 2 && (b 3 && (b 4 && (b 5 && (b 6 && (b 7 && (b 9 && (b 10 && (b 11 && true)))))))))))))) = true := hp
      simp only [Bool.and_eq_true, Bool.and_true] at hp2
      obtain ⟨p0, p1, p2, p3, p4, p5, p6, p7, p8, p9, p10, p11, p12, p13⟩ := hp2
      have m13 : b 13 = false := hcl.no (i := 13) rfl (k := 12) (by rfl) hk
      rw [FlowHold.stored_no hk, FlowHold.stored_yes p2] at hw
      have hw2 := hw.symm
      subst hw2
      have r7 : ρ (.tmp 7) = .pointer (some ⟨nw1, 0, none⟩) := (hρ (.tmp 7) (by simp [Op.operands, Call.operands])).trans (V10 p0)
      have r31 : ρ (.tmp 31) = .agg #[.int .i64 qb0, .int .i64 qb1, .int .i64 qb2, .int .i64 qb3, .int .i64 qb4, .int .i64 qb5] := (hρ (.tmp 31) (by simp [Op.operands, Call.operands])).trans (V7 p1)
      have bx : boxB (sets ws nw0 0 [.int .i64 qa0, .slice aw0_1 qaL1.length cw0_1]) nw1 #[.int .i64 0, .int .i64 0, .int .i64 0, .int .i64 0, .int .i64 0, .int .i64 0] 39 := FlowHold.box_else ((B10 p0).1) (Ne.symm (E9_10 p11 p0)) [.int .i64 qa0, .slice aw0_1 qaL1.length cw0_1]
      generalize hwc : (sets ws nw0 0 [.int .i64 qa0, .slice aw0_1 qaL1.length cw0_1]) = wc at bx ⊢
      have c0 := bx.cell 0
      have f0 := fzB bx 0
      have c1 := bx.cell 1
      have f1 := fzB bx 1
      have c2 := bx.cell 2
      have f2 := fzB bx 2
      have c3 := bx.cell 3
      have f3 := fzB bx 3
      have c4 := bx.cell 4
      have f4 := fzB bx 4
      have c5 := bx.cell 5
      have f5 := fzB bx 5
      refine RegFlow.gives_skip (w' := sets wc nw1 0 [.int .i64 qb0, .int .i64 qb1, .int .i64 qb2, .int .i64 qb3, .int .i64 qb4, .int .i64 qb5]) (by go_simp; rfl) ?_
      subst hwc
      exact ⟨ws, gw1_1, aw0_1, cw0_1, nw0, nw1, by rw [FlowHold.stored_yes (show RegFlow.setB b 12 12 = true from rfl), FlowHold.stored_yes (show RegFlow.setB b 12 11 = true from p2)], hB, V0, V1, V2, V3, V4, V5, V6, V7, V8, V9, V10, V13, T1, O4, B9, B10, D9, D10, E9_10⟩
    · intro b u wI ρ hI hcl hp hk hρ
      obtain ⟨ws, gw1_1, aw0_1, cw0_1, nw0, nw1, hw, hB, V0, V1, V2, V3, V4, V5, V6, V7, V8, V9, V10, V13, T1, O4, B9, B10, D9, D10, E9_10⟩ := hI
      have hp2 : (b 8 && (b 12 && (b 0 && (b 1 && (b 2 && (b 3 && (b 4 && (b 5 && (b 6 && (b 7 && (b 8 && (b 9 && (b 10 && (b 11 && (b 12 && true))))))))))))))) = true := hp
      simp only [Bool.and_eq_true, Bool.and_true] at hp2
      obtain ⟨p0, p1, p2, p3, p4, p5, p6, p7, p8, p9, p10, p11, p12, p13, p14⟩ := hp2
      have r32 : ρ (.tmp 32) = .bool qc := (hρ (.tmp 32) (by simp [Op.operands, Call.operands])).trans (V8 p0)
      refine RegFlow.gives_value (v := .bool qc) (w' := wI) (by go_simp) ⟨ws, gw1_1, aw0_1, cw0_1, nw0, nw1, hw, hB, V0, V1, V2, V3, V4, V5, V6, V7, V8, V9, V10, fun _ => rfl, T1, O4, B9, B10, D9, D10, E9_10⟩
    · intro u wF hI
      obtain ⟨ws, gw1_1, aw0_1, cw0_1, nw0, nw1, hwF, hB, V0, V1, V2, V3, V4, V5, V6, V7, V8, V9, V10, V13, T1, O4, B9, B10, D9, D10, E9_10⟩ := hI
      have hwF2 : wF = (sets (sets ws nw0 0 [.int .i64 qa0, .slice aw0_1 qaL1.length cw0_1]) nw1 0 [.int .i64 qb0, .int .i64 qb1, .int .i64 qb2, .int .i64 qb3, .int .i64 qb4, .int .i64 qb5]) := hwF
      have e0 : u 0 = .agg #[.int .i64 pa0, .slice paA1 paL1.length paC1] := V0 rfl
      have e1 : u 1 = .agg #[.int .i64 pa0, .slice (some ⟨gw1_1, 0, none⟩) paL1.length paL1.length] := V1 rfl
      have e2 : u 2 = .agg #[.int .i64 pb0, .int .i64 pb1, .int .i64 pb2, .int .i64 pb3, .int .i64 pb4, .int .i64 pb5] := V2 rfl
      have e3 : u 3 = .agg #[.int .i64 pb0, .int .i64 pb1, .int .i64 pb2, .int .i64 pb3, .int .i64 pb4, .int .i64 pb5] := V3 rfl
      have e4 : u 4 = .tuple #[.agg #[.int .i64 qa0, .slice aw0_1 qaL1.length cw0_1], .agg #[.int .i64 qb0, .int .i64 qb1, .int .i64 qb2, .int .i64 qb3, .int .i64 qb4, .int .i64 qb5], .bool qc] := V4 rfl
      have e5 : u 5 = .tuple #[.agg #[.int .i64 qa0, .slice aw0_1 qaL1.length cw0_1], .agg #[.int .i64 qb0, .int .i64 qb1, .int .i64 qb2, .int .i64 qb3, .int .i64 qb4, .int .i64 qb5], .bool qc] := V5 rfl
      have e6 : u 6 = .agg #[.int .i64 qa0, .slice aw0_1 qaL1.length cw0_1] := V6 rfl
      have e7 : u 7 = .agg #[.int .i64 qb0, .int .i64 qb1, .int .i64 qb2, .int .i64 qb3, .int .i64 qb4, .int .i64 qb5] := V7 rfl
      have e8 : u 8 = .bool qc := V8 rfl
      have e9 : u 9 = .pointer (some ⟨nw0, 0, none⟩) := V9 rfl
      have e10 : u 10 = .pointer (some ⟨nw1, 0, none⟩) := V10 rfl
      have e13 : u 13 = .bool qc := V13 rfl
      have O := O4 rfl
      have X9 := B9 rfl
      have Y9 := D9 rfl rfl
      have X10 := B10 rfl
      have Y10 := D10 rfl rfl
      have ZE9_10 := E9_10 rfl rfl
      have HBF : Below w1.heap.size w1 wF := by rw [hwF2]; exact FlowHold.bel_sets (FlowHold.bel_sets (hB) X9.2 _) X10.2 _
      have OF : Holds wF w1.heap.size [⟨aw0_1, 39, 6, (qaL1).map ReqKit.cells⟩] := by rw [hwF2]; exact FlowHold.hold_else (FlowHold.hold_else (O.2) Y9 _) Y10 _
      have BF0 : boxB wF (nw0) #[.int .i64 qa0, .slice aw0_1 qaL1.length cw0_1] 29 := by rw [hwF2]; exact FlowHold.box_else (FlowHold.box_stored (X9.1) _ rfl) ZE9_10 _
      have BF1 : boxB wF (nw1) #[.int .i64 qb0, .int .i64 qb1, .int .i64 qb2, .int .i64 qb3, .int .i64 qb4, .int .i64 qb5] 39 := by rw [hwF2]; exact FlowHold.box_stored (FlowHold.box_else (X10.1) (Ne.symm ZE9_10) _) _ rfl
      have HSF : wF.heap.size = ws.heap.size := by rw [hwF2]; simp only [FlowHold.sets_size]
      have LW_w : Hid (W.heap.size ≤ w1.heap.size) := (H1.out.1).size
      have O0_ : Hid (Off nw0 [⟨aw0_1, 39, 6, (qaL1).map ReqKit.cells⟩]) := Y9
      have O1_ : Hid (Off nw1 [⟨aw0_1, 39, 6, (qaL1).map ReqKit.cells⟩]) := Y10
      have O2_ : Hid (Off (W.heap.size) [⟨aw0_1, 39, 6, (qaL1).map ReqKit.cells⟩]) := Off.under OF (H1.out.2.1).lt
      have O3_ : Hid (Off (W.heap.size + 1) [⟨aw0_1, 39, 6, (qaL1).map ReqKit.cells⟩]) := Off.under OF (H1.out.2.2).lt
      have H2 : Hid (Bel W wF ∧ boxB wF (W.heap.size) #[.int .i64 pa0, .slice paA1 paL1.length paC1] 24 ∧ boxB wF (W.heap.size + 1) #[.int .i64 pb0, .int .i64 pb1, .int .i64 pb2, .int .i64 pb3, .int .i64 pb4, .int .i64 pb5] 38 ∧ Holds wF (w1.heap.size) [⟨aw0_1, 39, 6, (qaL1).map ReqKit.cells⟩] ∧ boxB wF (nw0) #[.int .i64 qa0, .slice aw0_1 qaL1.length cw0_1] 29 ∧ boxB wF (nw1) #[.int .i64 qb0, .int .i64 qb1, .int .i64 qb2, .int .i64 qb3, .int .i64 qb4, .int .i64 qb5] 39) := ⟨(H1.out.1).below HBF, (H1.out.2.1).below HBF, (H1.out.2.2).below HBF, OF, BF0, BF1⟩
      simp only [RegFlow.fin, Act.put, e0, e1, e2, e3, e4, e5, e6, e7, e8, e9, e10, e13]
      clear e0 e1 e2 e3 e4 e5 e6 e7 e8 e9 e10 e13 V0 V1 V2 V3 V4 V5 V6 V7 V8 V9 V10 V13 T1 O4 B9 B10 D9 D10 E9_10 O X9 Y9 X10 Y10 ZE9_10 HBF HSF hwF2 hwF hB OF BF0 BF1 H1 u
      obtain ⟨w2, rfl⟩ : ∃ v, v = wF := ⟨_, rfl⟩
      have c0 := (H2.out.2.1).cell 0
      have c1 := (H2.out.2.1).cell 1
      go_wp2_with fail
      refine (LawQueue.to_queue pa0 paA1 paC1 paL1 _ (HA_pa1.out.below (H2.out.1)) HL_paL1.out).mono ?_
      rintro e w3 ⟨gw3_1, rfl, hhw3, b3⟩
      have LW_x0 : Hid (W.heap.size ≤ w2.heap.size) := (H2.out.1).size
      have O4_ : Hid (Off (W.heap.size) [⟨(some ⟨gw3_1, 0, none⟩), 39, 6, (paL1).map ReqKit.cells⟩]) := Off.under (hhw3) (by have h9 := (H2.out.2.1).lt; omega)
      have O5_ : Hid (Off (W.heap.size + 1) [⟨(some ⟨gw3_1, 0, none⟩), 39, 6, (paL1).map ReqKit.cells⟩]) := Off.under (hhw3) (by have h9 := (H2.out.2.2.1).lt; omega)
      have Q0_ : Hid (Apart [⟨aw0_1, 39, 6, (qaL1).map ReqKit.cells⟩] [⟨(some ⟨gw3_1, 0, none⟩), 39, 6, (paL1).map ReqKit.cells⟩]) := Apart.under (H2.out.2.2.2.1) (hhw3) (Nat.le_refl _)
      have O6_ : Hid (Off (nw0) [⟨(some ⟨gw3_1, 0, none⟩), 39, 6, (paL1).map ReqKit.cells⟩]) := Off.under (hhw3) (by have h9 := (H2.out.2.2.2.2.1).lt; omega)
      have O7_ : Hid (Off (nw1) [⟨(some ⟨gw3_1, 0, none⟩), 39, 6, (paL1).map ReqKit.cells⟩]) := Off.under (hhw3) (by have h9 := (H2.out.2.2.2.2.2).lt; omega)
      have O8_ : Hid (Off (w3.heap.size) [⟨aw0_1, 39, 6, (qaL1).map ReqKit.cells⟩]) := Off.above (H2.out.2.2.2.1) (by have h9 := b3.size; omega)
      have O9_ : Hid (Off (w3.heap.size) [⟨(some ⟨gw3_1, 0, none⟩), 39, 6, (paL1).map ReqKit.cells⟩]) := Off.above (hhw3) (by omega)
      have H3 : Hid (Bel W (w3.alloc (.cells #[.int .i64 pa0, .slice (some ⟨gw3_1, 0, none⟩) paL1.length paL1.length] 29)) ∧ boxB (w3.alloc (.cells #[.int .i64 pa0, .slice (some ⟨gw3_1, 0, none⟩) paL1.length paL1.length] 29)) (W.heap.size) #[.int .i64 pa0, .slice paA1 paL1.length paC1] 24 ∧ boxB (w3.alloc (.cells #[.int .i64 pa0, .slice (some ⟨gw3_1, 0, none⟩) paL1.length paL1.length] 29)) (W.heap.size + 1) #[.int .i64 pb0, .int .i64 pb1, .int .i64 pb2, .int .i64 pb3, .int .i64 pb4, .int .i64 pb5] 38 ∧ Holds (w3.alloc (.cells #[.int .i64 pa0, .slice (some ⟨gw3_1, 0, none⟩) paL1.length paL1.length] 29)) (w1.heap.size) [⟨aw0_1, 39, 6, (qaL1).map ReqKit.cells⟩] ∧ boxB (w3.alloc (.cells #[.int .i64 pa0, .slice (some ⟨gw3_1, 0, none⟩) paL1.length paL1.length] 29)) (nw0) #[.int .i64 qa0, .slice aw0_1 qaL1.length cw0_1] 29 ∧ boxB (w3.alloc (.cells #[.int .i64 pa0, .slice (some ⟨gw3_1, 0, none⟩) paL1.length paL1.length] 29)) (nw1) #[.int .i64 qb0, .int .i64 qb1, .int .i64 qb2, .int .i64 qb3, .int .i64 qb4, .int .i64 qb5] 39 ∧ Holds (w3.alloc (.cells #[.int .i64 pa0, .slice (some ⟨gw3_1, 0, none⟩) paL1.length paL1.length] 29)) (w2.heap.size) [⟨(some ⟨gw3_1, 0, none⟩), 39, 6, (paL1).map ReqKit.cells⟩] ∧ boxB (w3.alloc (.cells #[.int .i64 pa0, .slice (some ⟨gw3_1, 0, none⟩) paL1.length paL1.length] 29)) (w3.heap.size) #[.int .i64 pa0, .slice (some ⟨gw3_1, 0, none⟩) paL1.length paL1.length] 29) := ⟨(H2.out.1).below (b3.trans ((n1 w3 _).mono b3.size)), (H2.out.2.1).below (b3.trans ((n1 w3 _).mono b3.size)), (H2.out.2.2.1).below (b3.trans ((n1 w3 _).mono b3.size)), (H2.out.2.2.2.1).below (b3.trans ((n1 w3 _).mono b3.size)), (H2.out.2.2.2.2.1).below (b3.trans ((n1 w3 _).mono b3.size)), (H2.out.2.2.2.2.2).below (b3.trans ((n1 w3 _).mono b3.size)), (hhw3).below (n1 w3 _), boxB.new _ _ _⟩
      clear c0 c1 b3 H2 hhw3
      go_upto_region 7 with fail
      generalize (w3.alloc (.cells #[.int .i64 pa0, .slice (some ⟨gw3_1, 0, none⟩) paL1.length paL1.length] 29)) = v4 at *
      refine RegFlow.wp_region_flow (fun b u wI => ∃ (ws : World) (ag0_1 : Option Addr) (cg0_1 : Nat) (ng0 : Nat) (ng1 : Nat), wI = (FlowHold.Stored (b 11) (FlowHold.Stored (b 10) ws ng0 [.int .i64 qa0, .slice ag0_1 qaL1.length cg0_1]) ng1 [.int .i64 qb0, .int .i64 qb1, .int .i64 qb2, .int .i64 qb3, .int .i64 qb4, .int .i64 qb5]) ∧ Below v4.heap.size v4 ws ∧ (b 0 = true → u 0 = .agg #[.int .i64 pa0, .slice (some ⟨gw3_1, 0, none⟩) paL1.length paL1.length]) ∧ (b 1 = true → u 1 = .agg #[.int .i64 pb0, .int .i64 pb1, .int .i64 pb2, .int .i64 pb3, .int .i64 pb4, .int .i64 pb5]) ∧ (b 2 = true → u 2 = .agg #[.int .i64 pb0, .int .i64 pb1, .int .i64 pb2, .int .i64 pb3, .int .i64 pb4, .int .i64 pb5]) ∧ (b 3 = true → u 3 = .tuple #[.agg #[.int .i64 qa0, .slice ag0_1 qaL1.length cg0_1], .agg #[.int .i64 qb0, .int .i64 qb1, .int .i64 qb2, .int .i64 qb3, .int .i64 qb4, .int .i64 qb5], .bool qc]) ∧ (b 4 = true → u 4 = .tuple #[.agg #[.int .i64 qa0, .slice ag0_1 qaL1.length cg0_1], .agg #[.int .i64 qb0, .int .i64 qb1, .int .i64 qb2, .int .i64 qb3, .int .i64 qb4, .int .i64 qb5], .bool qc]) ∧ (b 5 = true → u 5 = .agg #[.int .i64 qa0, .slice ag0_1 qaL1.length cg0_1]) ∧ (b 6 = true → u 6 = .agg #[.int .i64 qb0, .int .i64 qb1, .int .i64 qb2, .int .i64 qb3, .int .i64 qb4, .int .i64 qb5]) ∧ (b 7 = true → u 7 = .bool qc) ∧ (b 8 = true → u 8 = .pointer (some ⟨ng0, 0, none⟩)) ∧ (b 9 = true → u 9 = .pointer (some ⟨ng1, 0, none⟩)) ∧ (b 12 = true → u 12 = .bool qc) ∧ (b 3 = true → qaL1.length ≤ cg0_1 ∧ Holds ws v4.heap.size [⟨ag0_1, 39, 6, (qaL1).map ReqKit.cells⟩]) ∧ (b 8 = true → boxB ws ng0 #[.int .i64 0, .slice none 0 0] 29 ∧ v4.heap.size ≤ ng0) ∧ (b 9 = true → boxB ws ng1 #[.int .i64 0, .int .i64 0, .int .i64 0, .int .i64 0, .int .i64 0, .int .i64 0] 39 ∧ v4.heap.size ≤ ng1) ∧ (b 3 = true → b 8 = true → Off ng0 [⟨ag0_1, 39, 6, (qaL1).map ReqKit.cells⟩]) ∧ (b 3 = true → b 9 = true → Off ng1 [⟨ag0_1, 39, 6, (qaL1).map ReqKit.cells⟩]) ∧ (b 8 = true → b 9 = true → ng0 ≠ ng1)) (by kernel_rfl) (by kernel_rfl) (by rfl) ⟨v4.drew, none, 0, 0, 0, rfl, (Below.refl _ _).drew, fun h => FlowHold.no_way rfl h, fun h => FlowHold.no_way rfl h, fun h => FlowHold.no_way rfl h, fun h => FlowHold.no_way rfl h, fun h => FlowHold.no_way rfl h, fun h => FlowHold.no_way rfl h, fun h => FlowHold.no_way rfl h, fun h => FlowHold.no_way rfl h, fun h => FlowHold.no_way rfl h, fun h => FlowHold.no_way rfl h, fun h => FlowHold.no_way rfl h, fun h => FlowHold.no_way rfl h, fun h => FlowHold.no_way rfl h, fun h => FlowHold.no_way rfl h, fun h => FlowHold.no_way rfl h, fun h => FlowHold.no_way rfl h, fun h => FlowHold.no_way rfl h⟩ ⟨?_, ?_, ?_, ?_, ?_, ?_, ?_, ?_, ?_, ?_, ?_, ?_, ?_, trivial⟩ ?_
      · intro b u wI ρ hI hcl hp hk hρ
        obtain ⟨ws, ag0_1, cg0_1, ng0, ng1, hw, hB, V0, V1, V2, V3, V4, V5, V6, V7, V8, V9, V12, O3, B8, B9, D8, D9, E8_9⟩ := hI
        have m3 : b 3 = false := hcl.no (i := 3) rfl (k := 0) (by rfl) hk
        have m4 : b 4 = false := hcl.no (i := 4) rfl (k := 3) (by rfl) m3
        have m5 : b 5 = false := hcl.no (i := 5) rfl (k := 4) (by rfl) m4
        have m6 : b 6 = false := hcl.no (i := 6) rfl (k := 4) (by rfl) m4
        have m7 : b 7 = false := hcl.no (i := 7) rfl (k := 4) (by rfl) m4
        have m10 : b 10 = false := hcl.no (i := 10) rfl (k := 0) (by rfl) hk
        have m11 : b 11 = false := hcl.no (i := 11) rfl (k := 0) (by rfl) hk
        have m12 : b 12 = false := hcl.no (i := 12) rfl (k := 0) (by rfl) hk
        rw [FlowHold.stored_no m11, FlowHold.stored_no m10] at hw
        have hw2 := hw.symm
        subst hw2
        have r9 : ρ (.tmp 9) = .pointer (some ⟨w3.heap.size, 0, none⟩) := hρ (.tmp 9) (by simp [Op.operands, Call.operands])
        have c0 := (H3.out.2.2.2.2.2.2.2.below hB).cell 0
        have c1 := (H3.out.2.2.2.2.2.2.2.below hB).cell 1
        refine RegFlow.gives_value (v := .agg #[.int .i64 pa0, .slice (some ⟨gw3_1, 0, none⟩) paL1.length paL1.length]) (w' := ws) (by go_simp) ⟨ws, ag0_1, cg0_1, ng0, ng1, by rw [FlowHold.stored_no (show RegFlow.setB b 0 11 = false from m11), FlowHold.stored_no (show RegFlow.setB b 0 10 = false from m10)], hB, fun _ => rfl, V1, V2, V3, V4, V5, V6, V7, V8, V9, V12, O3, B8, B9, D8, D9, E8_9⟩
      · intro b u wI ρ hI hcl hp hk hρ
        obtain ⟨ws, ag0_1, cg0_1, ng0, ng1, hw, hB, V0, V1, V2, V3, V4, V5, V6, V7, V8, V9, V12, O3, B8, B9, D8, D9, E8_9⟩ := hI
        have m2 : b 2 = false := hcl.no (i := 2) rfl (k := 1) (by rfl) hk
        have m3 : b 3 = false := hcl.no (i := 3) rfl (k := 2) (by rfl) m2
        have m4 : b 4 = false := hcl.no (i := 4) rfl (k := 3) (by rfl) m3
        have m5 : b 5 = false := hcl.no (i := 5) rfl (k := 4) (by rfl) m4
        have m6 : b 6 = false := hcl.no (i := 6) rfl (k := 4) (by rfl) m4
        have m7 : b 7 = false := hcl.no (i := 7) rfl (k := 4) (by rfl) m4
        have m10 : b 10 = false := hcl.no (i := 10) rfl (k := 1) (by rfl) hk
        have m11 : b 11 = false := hcl.no (i := 11) rfl (k := 1) (by rfl) hk
        have m12 : b 12 = false := hcl.no (i := 12) rfl (k := 1) (by rfl) hk
        rw [FlowHold.stored_no m11, FlowHold.stored_no m10] at hw
        have hw2 := hw.symm
        subst hw2
        have r3 : ρ (.tmp 3) = .pointer (some ⟨W.heap.size + 1, 0, none⟩) := hρ (.tmp 3) (by simp [Op.operands, Call.operands])
        have c0 := (H3.out.2.2.1.below hB).cell 0
        have c1 := (H3.out.2.2.1.below hB).cell 1
        have c2 := (H3.out.2.2.1.below hB).cell 2
        have c3 := (H3.out.2.2.1.below hB).cell 3
        have c4 := (H3.out.2.2.1.below hB).cell 4
        have c5 := (H3.out.2.2.1.below hB).cell 5
        refine RegFlow.gives_value (v := .agg #[.int .i64 pb0, .int .i64 pb1, .int .i64 pb2, .int .i64 pb3, .int .i64 pb4, .int .i64 pb5]) (w' := ws) (by go_simp) ⟨ws, ag0_1, cg0_1, ng0, ng1, by rw [FlowHold.stored_no (show RegFlow.setB b 1 11 = false from m11), FlowHold.stored_no (show RegFlow.setB b 1 10 = false from m10)], hB, V0, fun _ => rfl, V2, V3, V4, V5, V6, V7, V8, V9, V12, O3, B8, B9, D8, D9, E8_9⟩
      · intro b u wI ρ hI hcl hp hk hρ
        obtain ⟨ws, ag0_1, cg0_1, ng0, ng1, hw, hB, V0, V1, V2, V3, V4, V5, V6, V7, V8, V9, V12, O3, B8, B9, D8, D9, E8_9⟩ := hI
        have hp2 : (b 1 && true) = true := hp
        simp only [Bool.and_eq_true, Bool.and_true] at hp2
        have p0 := hp2
        have m3 : b 3 = false := hcl.no (i := 3) rfl (k := 2) (by rfl) hk
        have m4 : b 4 = false := hcl.no (i := 4) rfl (k := 3) (by rfl) m3
        have m5 : b 5 = false := hcl.no (i := 5) rfl (k := 4) (by rfl) m4
        have m6 : b 6 = false := hcl.no (i := 6) rfl (k := 4) (by rfl) m4
        have m7 : b 7 = false := hcl.no (i := 7) rfl (k := 4) (by rfl) m4
        have m10 : b 10 = false := hcl.no (i := 10) rfl (k := 2) (by rfl) hk
        have m11 : b 11 = false := hcl.no (i := 11) rfl (k := 2) (by rfl) hk
        have m12 : b 12 = false := hcl.no (i := 12) rfl (k := 2) (by rfl) hk
        rw [FlowHold.stored_no m11, FlowHold.stored_no m10] at hw
        have hw2 := hw.symm
        subst hw2
        have r37 : ρ (.tmp 37) = .agg #[.int .i64 pb0, .int .i64 pb1, .int .i64 pb2, .int .i64 pb3, .int .i64 pb4, .int .i64 pb5] := (hρ (.tmp 37) (by simp [Op.operands, Call.operands])).trans (V1 p0)
        have rf : ρ (.func 21) = .func (.func 21) #[] #[] := hρ (.func 21) (by simp [Op.operands, Call.operands])
        refine RegFlow.gives_call (f := 21) (args := #[.agg #[.int .i64 pb0, .int .i64 pb1, .int .i64 pb2, .int .i64 pb3, .int .i64 pb4, .int .i64 pb5]]) (w' := ws) (by go_simp) (FlatReq.to_one pb0 pb1 pb2 pb3 pb4 pb5 ws) ?_
        rintro e wN ⟨rfl, hb⟩
        exact ⟨_, rfl, wN, ag0_1, cg0_1, ng0, ng1, by rw [FlowHold.stored_no (show RegFlow.setB b 2 11 = false from m11), FlowHold.stored_no (show RegFlow.setB b 2 10 = false from m10)], hB.trans (hb.mono hB.size), V0, V1, fun _ => rfl, V3, V4, V5, V6, V7, V8, V9, V12, fun h => ⟨(O3 h).1, ((O3 h).2).below hb⟩, fun h => ⟨(B8 h).1.below hb, (B8 h).2⟩, fun h => ⟨(B9 h).1.below hb, (B9 h).2⟩, D8, D9, E8_9⟩
      · intro b u wI ρ hI hcl hp hk hρ
        obtain ⟨ws, ag0_1, cg0_1, ng0, ng1, hw, hB, V0, V1, V2, V3, V4, V5, V6, V7, V8, V9, V12, O3, B8, B9, D8, D9, E8_9⟩ := hI
        have hp2 : (b 0 && (b 2 && (b 2 && true))) = true := hp
        simp only [Bool.and_eq_true, Bool.and_true] at hp2
        obtain ⟨p0, p1, p2⟩ := hp2
        have m4 : b 4 = false := hcl.no (i := 4) rfl (k := 3) (by rfl) hk
        have m5 : b 5 = false := hcl.no (i := 5) rfl (k := 4) (by rfl) m4
        have m6 : b 6 = false := hcl.no (i := 6) rfl (k := 4) (by rfl) m4
        have m7 : b 7 = false := hcl.no (i := 7) rfl (k := 4) (by rfl) m4
        have m10 : b 10 = false := hcl.no (i := 10) rfl (k := 3) (by rfl) hk
        have m11 : b 11 = false := hcl.no (i := 11) rfl (k := 3) (by rfl) hk
        have m12 : b 12 = false := hcl.no (i := 12) rfl (k := 3) (by rfl) hk
        rw [FlowHold.stored_no m11, FlowHold.stored_no m10] at hw
        have hw2 := hw.symm
        subst hw2
        have r36 : ρ (.tmp 36) = .agg #[.int .i64 pa0, .slice (some ⟨gw3_1, 0, none⟩) paL1.length paL1.length] := (hρ (.tmp 36) (by simp [Op.operands, Call.operands])).trans (V0 p0)
        have r38 : ρ (.tmp 38) = .agg #[.int .i64 pb0, .int .i64 pb1, .int .i64 pb2, .int .i64 pb3, .int .i64 pb4, .int .i64 pb5] := (hρ (.tmp 38) (by simp [Op.operands, Call.operands])).trans (V2 p1)
        have rf : ρ (.func 22) = .func (.func 22) #[] #[] := hρ (.func 22) (by simp [Op.operands, Call.operands])
        refine RegFlow.gives_call (f := 22) (args := #[.agg #[.int .i64 pa0, .slice (some ⟨gw3_1, 0, none⟩) paL1.length paL1.length], .agg #[.int .i64 pb0, .int .i64 pb1, .int .i64 pb2, .int .i64 pb3, .int .i64 pb4, .int .i64 pb5]]) (w' := ws) (by go_simp) (HIM (some ⟨gw3_1, 0, none⟩) paL1.length ws ((H3.out.2.2.2.2.2.2.1.below hB).get (by simp)) (Nat.le_refl _)) ?_
        rintro e wN ⟨a0N, c0N, rfl, h0N, hh, hb⟩
        exact ⟨_, rfl, wN, a0N, c0N, ng0, ng1, by rw [FlowHold.stored_no (show RegFlow.setB b 3 11 = false from m11), FlowHold.stored_no (show RegFlow.setB b 3 10 = false from m10)], hB.trans (hb.mono hB.size), V0, V1, V2, fun _ => rfl, fun h => FlowHold.no_way m4 h, fun h => FlowHold.no_way m5 h, fun h => FlowHold.no_way m6 h, fun h => FlowHold.no_way m7 h, V8, V9, fun h => FlowHold.no_way m12 h, fun _ => ⟨h0N, hh.low hB.size⟩, fun h => ⟨(B8 h).1.below hb, (B8 h).2⟩, fun h => ⟨(B9 h).1.below hb, (B9 h).2⟩, fun _ h => Off.under hh (B8 h).1.lt, fun _ h => Off.under hh (B9 h).1.lt, E8_9⟩
      · intro b u wI ρ hI hcl hp hk hρ
        obtain ⟨ws, ag0_1, cg0_1, ng0, ng1, hw, hB, V0, V1, V2, V3, V4, V5, V6, V7, V8, V9, V12, O3, B8, B9, D8, D9, E8_9⟩ := hI
        have hp2 : (b 3 && true) = true := hp
        simp only [Bool.and_eq_true, Bool.and_true] at hp2
        have p0 := hp2
        have m5 : b 5 = false := hcl.no (i := 5) rfl (k := 4) (by rfl) hk
        have m6 : b 6 = false := hcl.no (i := 6) rfl (k := 4) (by rfl) hk
        have m7 : b 7 = false := hcl.no (i := 7) rfl (k := 4) (by rfl) hk
        have m10 : b 10 = false := hcl.no (i := 10) rfl (k := 4) (by rfl) hk
        have m11 : b 11 = false := hcl.no (i := 11) rfl (k := 4) (by rfl) hk
        have m12 : b 12 = false := hcl.no (i := 12) rfl (k := 4) (by rfl) hk
        have r39 : ρ (.tmp 39) = .tuple #[.agg #[.int .i64 qa0, .slice ag0_1 qaL1.length cg0_1], .agg #[.int .i64 qb0, .int .i64 qb1, .int .i64 qb2, .int .i64 qb3, .int .i64 qb4, .int .i64 qb5], .bool qc] := (hρ (.tmp 39) (by simp [Op.operands, Call.operands])).trans (V3 p0)
        refine RegFlow.gives_value (v := .tuple #[.agg #[.int .i64 qa0, .slice ag0_1 qaL1.length cg0_1], .agg #[.int .i64 qb0, .int .i64 qb1, .int .i64 qb2, .int .i64 qb3, .int .i64 qb4, .int .i64 qb5], .bool qc]) (w' := wI) (by go_simp) ⟨ws, ag0_1, cg0_1, ng0, ng1, hw, hB, V0, V1, V2, V3, fun _ => rfl, V5, V6, V7, V8, V9, V12, O3, B8, B9, D8, D9, E8_9⟩
      · intro b u wI ρ hI hcl hp hk hρ
        obtain ⟨ws, ag0_1, cg0_1, ng0, ng1, hw, hB, V0, V1, V2, V3, V4, V5, V6, V7, V8, V9, V12, O3, B8, B9, D8, D9, E8_9⟩ := hI
        have hp2 : (b 4 && true) = true := hp
        simp only [Bool.and_eq_true, Bool.and_true] at hp2
        have p0 := hp2
        have m10 : b 10 = false := hcl.no (i := 10) rfl (k := 5) (by rfl) hk
        have m11 : b 11 = false := hcl.no (i := 11) rfl (k := 5) (by rfl) hk
        have m12 : b 12 = false := hcl.no (i := 12) rfl (k := 5) (by rfl) hk
        have r35 : ρ (.tmp 35) = .tuple #[.agg #[.int .i64 qa0, .slice ag0_1 qaL1.length cg0_1], .agg #[.int .i64 qb0, .int .i64 qb1, .int .i64 qb2, .int .i64 qb3, .int .i64 qb4, .int .i64 qb5], .bool qc] := (hρ (.tmp 35) (by simp [Op.operands, Call.operands])).trans (V4 p0)
        refine RegFlow.gives_value (v := .agg #[.int .i64 qa0, .slice ag0_1 qaL1.length cg0_1]) (w' := wI) (by go_simp) ⟨ws, ag0_1, cg0_1, ng0, ng1, hw, hB, V0, V1, V2, V3, V4, fun _ => rfl, V6, V7, V8, V9, V12, O3, B8, B9, D8, D9, E8_9⟩
      · intro b u wI ρ hI hcl hp hk hρ
        obtain ⟨ws, ag0_1, cg0_1, ng0, ng1, hw, hB, V0, V1, V2, V3, V4, V5, V6, V7, V8, V9, V12, O3, B8, B9, D8, D9, E8_9⟩ := hI
        have hp2 : (b 4 && true) = true := hp
        simp only [Bool.and_eq_true, Bool.and_true] at hp2
        have p0 := hp2
        have m11 : b 11 = false := hcl.no (i := 11) rfl (k := 6) (by rfl) hk
        have m12 : b 12 = false := hcl.no (i := 12) rfl (k := 6) (by rfl) hk
        have r35 : ρ (.tmp 35) = .tuple #[.agg #[.int .i64 qa0, .slice ag0_1 qaL1.length cg0_1], .agg #[.int .i64 qb0, .int .i64 qb1, .int .i64 qb2, .int .i64 qb3, .int .i64 qb4, .int .i64 qb5], .bool qc] := (hρ (.tmp 35) (by simp [Op.operands, Call.operands])).trans (V4 p0)
        refine RegFlow.gives_value (v := .agg #[.int .i64 qb0, .int .i64 qb1, .int .i64 qb2, .int .i64 qb3, .int .i64 qb4, .int .i64 qb5]) (w' := wI) (by go_simp) ⟨ws, ag0_1, cg0_1, ng0, ng1, hw, hB, V0, V1, V2, V3, V4, V5, fun _ => rfl, V7, V8, V9, V12, O3, B8, B9, D8, D9, E8_9⟩
      · intro b u wI ρ hI hcl hp hk hρ
        obtain ⟨ws, ag0_1, cg0_1, ng0, ng1, hw, hB, V0, V1, V2, V3, V4, V5, V6, V7, V8, V9, V12, O3, B8, B9, D8, D9, E8_9⟩ := hI
        have hp2 : (b 4 && true) = true := hp
        simp only [Bool.and_eq_true, Bool.and_true] at hp2
        have p0 := hp2
        have m12 : b 12 = false := hcl.no (i := 12) rfl (k := 7) (by rfl) hk
        have r35 : ρ (.tmp 35) = .tuple #[.agg #[.int .i64 qa0, .slice ag0_1 qaL1.length cg0_1], .agg #[.int .i64 qb0, .int .i64 qb1, .int .i64 qb2, .int .i64 qb3, .int .i64 qb4, .int .i64 qb5], .bool qc] := (hρ (.tmp 35) (by simp [Op.operands, Call.operands])).trans (V4 p0)
        refine RegFlow.gives_value (v := .bool qc) (w' := wI) (by go_simp) ⟨ws, ag0_1, cg0_1, ng0, ng1, hw, hB, V0, V1, V2, V3, V4, V5, V6, fun _ => rfl, V8, V9, V12, O3, B8, B9, D8, D9, E8_9⟩
      · intro b u wI ρ hI hcl hp hk hρ
        obtain ⟨ws, ag0_1, cg0_1, ng0, ng1, hw, hB, V0, V1, V2, V3, V4, V5, V6, V7, V8, V9, V12, O3, B8, B9, D8, D9, E8_9⟩ := hI
        have m10 : b 10 = false := hcl.no (i := 10) rfl (k := 8) (by rfl) hk
        have m11 : b 11 = false := hcl.no (i := 11) rfl (k := 8) (by rfl) hk
        have m12 : b 12 = false := hcl.no (i := 12) rfl (k := 8) (by rfl) hk
        rw [FlowHold.stored_no m11, FlowHold.stored_no m10] at hw
        have hw2 := hw.symm
        subst hw2
        refine RegFlow.gives_value (v := .pointer (some ⟨ws.heap.size, 0, none⟩)) (w' := ws.alloc (.cells #[.int .i64 0, .slice none 0 0] 29)) (by go_simp) ⟨ws.alloc (.cells #[.int .i64 0, .slice none 0 0] 29), ag0_1, cg0_1, ws.heap.size, ng1, by rw [FlowHold.stored_no (show RegFlow.setB b 8 11 = false from m11), FlowHold.stored_no (show RegFlow.setB b 8 10 = false from m10)], hB.alloc hB.size _, V0, V1, V2, V3, V4, V5, V6, V7, fun _ => rfl, V9, V12, fun h => ⟨(O3 h).1, ((O3 h).2).below (n1 ws _)⟩, fun _ => ⟨boxB.new _ _ _, hB.size⟩, fun h => ⟨(B9 h).1.below (n1 ws _), (B9 h).2⟩, fun h _ => Off.above ((O3 h).2) (Nat.le_refl _), D9, fun _ h => Nat.ne_of_gt (B9 h).1.lt⟩
      · intro b u wI ρ hI hcl hp hk hρ
        obtain ⟨ws, ag0_1, cg0_1, ng0, ng1, hw, hB, V0, V1, V2, V3, V4, V5, V6, V7, V8, V9, V12, O3, B8, B9, D8, D9, E8_9⟩ := hI
        have m10 : b 10 = false := hcl.no (i := 10) rfl (k := 9) (by rfl) hk
        have m11 : b 11 = false := hcl.no (i := 11) rfl (k := 9) (by rfl) hk
        have m12 : b 12 = false := hcl.no (i := 12) rfl (k := 9) (by rfl) hk
        rw [FlowHold.stored_no m11, FlowHold.stored_no m10] at hw
        have hw2 := hw.symm
        subst hw2
        refine RegFlow.gives_value (v := .pointer (some ⟨ws.heap.size, 0, none⟩)) (w' := ws.alloc (.cells #[.int .i64 0, .int .i64 0, .int .i64 0, .int .i64 0, .int .i64 0, .int .i64 0] 39)) (by go_simp) ⟨ws.alloc (.cells #[.int .i64 0, .int .i64 0, .int .i64 0, .int .i64 0, .int .i64 0, .int .i64 0] 39), ag0_1, cg0_1, ng0, ws.heap.size, by rw [FlowHold.stored_no (show RegFlow.setB b 9 11 = false from m11), FlowHold.stored_no (show RegFlow.setB b 9 10 = false from m10)], hB.alloc hB.size _, V0, V1, V2, V3, V4, V5, V6, V7, V8, fun _ => rfl, V12, fun h => ⟨(O3 h).1, ((O3 h).2).below (n1 ws _)⟩, fun h => ⟨(B8 h).1.below (n1 ws _), (B8 h).2⟩, fun _ => ⟨boxB.new _ _ _, hB.size⟩, D8, fun h _ => Off.above ((O3 h).2) (Nat.le_refl _), fun h _ => Nat.ne_of_lt (B8 h).1.lt⟩
      · intro b u wI ρ hI hcl hp hk hρ
        obtain ⟨ws, ag0_1, cg0_1, ng0, ng1, hw, hB, V0, V1, V2, V3, V4, V5, V6, V7, V8, V9, V12, O3, B8, B9, D8, D9, E8_9⟩ := hI
        have hp2 : (b 8 && (b 5 && (b 3 && (b 0 && (b 1 && (b 2 && (b 3 && (b 4 && (b 5 && (b 8 && (b 9 && true))))))))))) = true := hp
        simp only [Bool.and_eq_true, Bool.and_true] at hp2
        obtain ⟨p0, p1, p2, p3, p4, p5, p6, p7, p8, p9, p10⟩ := hp2
        have m11 : b 11 = false := hcl.no (i := 11) rfl (k := 10) (by rfl) hk
        have m12 : b 12 = false := hcl.no (i := 12) rfl (k := 10) (by rfl) hk
        rw [FlowHold.stored_no m11, FlowHold.stored_no hk] at hw
        have hw2 := hw.symm
        subst hw2
        have r10 : ρ (.tmp 10) = .pointer (some ⟨ng0, 0, none⟩) := (hρ (.tmp 10) (by simp [Op.operands, Call.operands])).trans (V8 p0)
        have r40 : ρ (.tmp 40) = .agg #[.int .i64 qa0, .slice ag0_1 qaL1.length cg0_1] := (hρ (.tmp 40) (by simp [Op.operands, Call.operands])).trans (V5 p1)
        have bx : boxB ws ng0 #[.int .i64 0, .slice none 0 0] 29 := (B8 p0).1
        have c0 := bx.cell 0
        have f0 := fzB bx 0
        have c1 := bx.cell 1
        have f1 := fzB bx 1
        refine RegFlow.gives_skip (w' := sets ws ng0 0 [.int .i64 qa0, .slice ag0_1 qaL1.length cg0_1]) (by go_simp; rfl) ?_
        exact ⟨ws, ag0_1, cg0_1, ng0, ng1, by rw [FlowHold.stored_no (show RegFlow.setB b 10 11 = false from m11), FlowHold.stored_yes (show RegFlow.setB b 10 10 = true from rfl)], hB, V0, V1, V2, V3, V4, V5, V6, V7, V8, V9, V12, O3, B8, B9, D8, D9, E8_9⟩
      · intro b u wI ρ hI hcl hp hk hρ
        obtain ⟨ws, ag0_1, cg0_1, ng0, ng1, hw, hB, V0, V1, V2, V3, V4, V5, V6, V7, V8, V9, V12, O3, B8, B9, D8, D9, E8_9⟩ := hI
        have hp2 : (b 9 && (b 6 && (b 10 && (b 0 && (b 1 && (b 2 && (b 3 && (b 4 && (b 5 && (b 6 && (b 8 && (b 9 && (b 10 && true))))))))))))) = true := hp
        simp only [Bool.and_eq_true, Bool.and_true] at hp2
        obtain ⟨p0, p1, p2, p3, p4, p5, p6, p7, p8, p9, p10, p11, p12⟩ := hp2
        have m12 : b 12 = false := hcl.no (i := 12) rfl (k := 11) (by rfl) hk
        rw [FlowHold.stored_no hk, FlowHold.stored_yes p2] at hw
        have hw2 := hw.symm
        subst hw2
        have r11 : ρ (.tmp 11) = .pointer (some ⟨ng1, 0, none⟩) := (hρ (.tmp 11) (by simp [Op.operands, Call.operands])).trans (V9 p0)
        have r41 : ρ (.tmp 41) = .agg #[.int .i64 qb0, .int .i64 qb1, .int .i64 qb2, .int .i64 qb3, .int .i64 qb4, .int .i64 qb5] := (hρ (.tmp 41) (by simp [Op.operands, Call.operands])).trans (V6 p1)
        have bx : boxB (sets ws ng0 0 [.int .i64 qa0, .slice ag0_1 qaL1.length cg0_1]) ng1 #[.int .i64 0, .int .i64 0, .int .i64 0, .int .i64 0, .int .i64 0, .int .i64 0] 39 := FlowHold.box_else ((B9 p0).1) (Ne.symm (E8_9 p10 p0)) [.int .i64 qa0, .slice ag0_1 qaL1.length cg0_1]
        generalize hwc : (sets ws ng0 0 [.int .i64 qa0, .slice ag0_1 qaL1.length cg0_1]) = wc at bx ⊢
        have c0 := bx.cell 0
        have f0 := fzB bx 0
        have c1 := bx.cell 1
        have f1 := fzB bx 1
        have c2 := bx.cell 2
        have f2 := fzB bx 2
        have c3 := bx.cell 3
        have f3 := fzB bx 3
        have c4 := bx.cell 4
        have f4 := fzB bx 4
        have c5 := bx.cell 5
        have f5 := fzB bx 5
        refine RegFlow.gives_skip (w' := sets wc ng1 0 [.int .i64 qb0, .int .i64 qb1, .int .i64 qb2, .int .i64 qb3, .int .i64 qb4, .int .i64 qb5]) (by go_simp; rfl) ?_
        subst hwc
        exact ⟨ws, ag0_1, cg0_1, ng0, ng1, by rw [FlowHold.stored_yes (show RegFlow.setB b 11 11 = true from rfl), FlowHold.stored_yes (show RegFlow.setB b 11 10 = true from p2)], hB, V0, V1, V2, V3, V4, V5, V6, V7, V8, V9, V12, O3, B8, B9, D8, D9, E8_9⟩
      · intro b u wI ρ hI hcl hp hk hρ
        obtain ⟨ws, ag0_1, cg0_1, ng0, ng1, hw, hB, V0, V1, V2, V3, V4, V5, V6, V7, V8, V9, V12, O3, B8, B9, D8, D9, E8_9⟩ := hI
        have hp2 : (b 7 && (b 11 && (b 0 && (b 1 && (b 2 && (b 3 && (b 4 && (b 5 && (b 6 && (b 7 && (b 8 && (b 9 && (b 10 && (b 11 && true)))))))))))))) = true := hp
        simp only [Bool.and_eq_true, Bool.and_true] at hp2
        obtain ⟨p0, p1, p2, p3, p4, p5, p6, p7, p8, p9, p10, p11, p12, p13⟩ := hp2
        have r42 : ρ (.tmp 42) = .bool qc := (hρ (.tmp 42) (by simp [Op.operands, Call.operands])).trans (V7 p0)
        refine RegFlow.gives_value (v := .bool qc) (w' := wI) (by go_simp) ⟨ws, ag0_1, cg0_1, ng0, ng1, hw, hB, V0, V1, V2, V3, V4, V5, V6, V7, V8, V9, fun _ => rfl, O3, B8, B9, D8, D9, E8_9⟩
      · intro u wF hI
        obtain ⟨ws, ag0_1, cg0_1, ng0, ng1, hwF, hB, V0, V1, V2, V3, V4, V5, V6, V7, V8, V9, V12, O3, B8, B9, D8, D9, E8_9⟩ := hI
        have hwF2 : wF = (sets (sets ws ng0 0 [.int .i64 qa0, .slice ag0_1 qaL1.length cg0_1]) ng1 0 [.int .i64 qb0, .int .i64 qb1, .int .i64 qb2, .int .i64 qb3, .int .i64 qb4, .int .i64 qb5]) := hwF
        have e0 : u 0 = .agg #[.int .i64 pa0, .slice (some ⟨gw3_1, 0, none⟩) paL1.length paL1.length] := V0 rfl
        have e1 : u 1 = .agg #[.int .i64 pb0, .int .i64 pb1, .int .i64 pb2, .int .i64 pb3, .int .i64 pb4, .int .i64 pb5] := V1 rfl
        have e2 : u 2 = .agg #[.int .i64 pb0, .int .i64 pb1, .int .i64 pb2, .int .i64 pb3, .int .i64 pb4, .int .i64 pb5] := V2 rfl
        have e3 : u 3 = .tuple #[.agg #[.int .i64 qa0, .slice ag0_1 qaL1.length cg0_1], .agg #[.int .i64 qb0, .int .i64 qb1, .int .i64 qb2, .int .i64 qb3, .int .i64 qb4, .int .i64 qb5], .bool qc] := V3 rfl
        have e4 : u 4 = .tuple #[.agg #[.int .i64 qa0, .slice ag0_1 qaL1.length cg0_1], .agg #[.int .i64 qb0, .int .i64 qb1, .int .i64 qb2, .int .i64 qb3, .int .i64 qb4, .int .i64 qb5], .bool qc] := V4 rfl
        have e5 : u 5 = .agg #[.int .i64 qa0, .slice ag0_1 qaL1.length cg0_1] := V5 rfl
        have e6 : u 6 = .agg #[.int .i64 qb0, .int .i64 qb1, .int .i64 qb2, .int .i64 qb3, .int .i64 qb4, .int .i64 qb5] := V6 rfl
        have e7 : u 7 = .bool qc := V7 rfl
        have e8 : u 8 = .pointer (some ⟨ng0, 0, none⟩) := V8 rfl
        have e9 : u 9 = .pointer (some ⟨ng1, 0, none⟩) := V9 rfl
        have e12 : u 12 = .bool qc := V12 rfl
        have O := O3 rfl
        have X8 := B8 rfl
        have Y8 := D8 rfl rfl
        have X9 := B9 rfl
        have Y9 := D9 rfl rfl
        have ZE8_9 := E8_9 rfl rfl
        have HBF : Below v4.heap.size v4 wF := by rw [hwF2]; exact FlowHold.bel_sets (FlowHold.bel_sets (hB) X8.2 _) X9.2 _
        have OF : Holds wF v4.heap.size [⟨ag0_1, 39, 6, (qaL1).map ReqKit.cells⟩] := by rw [hwF2]; exact FlowHold.hold_else (FlowHold.hold_else (O.2) Y8 _) Y9 _
        have BF0 : boxB wF (ng0) #[.int .i64 qa0, .slice ag0_1 qaL1.length cg0_1] 29 := by rw [hwF2]; exact FlowHold.box_else (FlowHold.box_stored (X8.1) _ rfl) ZE8_9 _
        have BF1 : boxB wF (ng1) #[.int .i64 qb0, .int .i64 qb1, .int .i64 qb2, .int .i64 qb3, .int .i64 qb4, .int .i64 qb5] 39 := by rw [hwF2]; exact FlowHold.box_stored (FlowHold.box_else (X9.1) (Ne.symm ZE8_9) _) _ rfl
        have HSF : wF.heap.size = ws.heap.size := by rw [hwF2]; simp only [FlowHold.sets_size]
        have LW_g : Hid (W.heap.size ≤ v4.heap.size) := (H3.out.1).size
        have O10_ : Hid (Off ng0 [⟨aw0_1, 39, 6, (qaL1).map ReqKit.cells⟩]) := Off.above (H3.out.2.2.2.1) X8.2
        have O11_ : Hid (Off ng0 [⟨(some ⟨gw3_1, 0, none⟩), 39, 6, (paL1).map ReqKit.cells⟩]) := Off.above (H3.out.2.2.2.2.2.2.1) X8.2
        have O12_ : Hid (Off ng0 [⟨ag0_1, 39, 6, (qaL1).map ReqKit.cells⟩]) := Y8
        have O13_ : Hid (Off ng1 [⟨aw0_1, 39, 6, (qaL1).map ReqKit.cells⟩]) := Off.above (H3.out.2.2.2.1) X9.2
        have O14_ : Hid (Off ng1 [⟨(some ⟨gw3_1, 0, none⟩), 39, 6, (paL1).map ReqKit.cells⟩]) := Off.above (H3.out.2.2.2.2.2.2.1) X9.2
        have O15_ : Hid (Off ng1 [⟨ag0_1, 39, 6, (qaL1).map ReqKit.cells⟩]) := Y9
        have O16_ : Hid (Off (W.heap.size) [⟨ag0_1, 39, 6, (qaL1).map ReqKit.cells⟩]) := Off.under OF (H3.out.2.1).lt
        have O17_ : Hid (Off (W.heap.size + 1) [⟨ag0_1, 39, 6, (qaL1).map ReqKit.cells⟩]) := Off.under OF (H3.out.2.2.1).lt
        have Q1_ : Hid (Apart [⟨aw0_1, 39, 6, (qaL1).map ReqKit.cells⟩] [⟨ag0_1, 39, 6, (qaL1).map ReqKit.cells⟩]) := Apart.under (H3.out.2.2.2.1) OF (Nat.le_refl _)
        have O18_ : Hid (Off (nw0) [⟨ag0_1, 39, 6, (qaL1).map ReqKit.cells⟩]) := Off.under OF (H3.out.2.2.2.2.1).lt
        have O19_ : Hid (Off (nw1) [⟨ag0_1, 39, 6, (qaL1).map ReqKit.cells⟩]) := Off.under OF (H3.out.2.2.2.2.2.1).lt
        have Q2_ : Hid (Apart [⟨(some ⟨gw3_1, 0, none⟩), 39, 6, (paL1).map ReqKit.cells⟩] [⟨ag0_1, 39, 6, (qaL1).map ReqKit.cells⟩]) := Apart.under (H3.out.2.2.2.2.2.2.1) OF (Nat.le_refl _)
        have O20_ : Hid (Off (w3.heap.size) [⟨ag0_1, 39, 6, (qaL1).map ReqKit.cells⟩]) := Off.under OF (H3.out.2.2.2.2.2.2.2).lt
        have H4 : Hid (Bel W wF ∧ boxB wF (W.heap.size) #[.int .i64 pa0, .slice paA1 paL1.length paC1] 24 ∧ boxB wF (W.heap.size + 1) #[.int .i64 pb0, .int .i64 pb1, .int .i64 pb2, .int .i64 pb3, .int .i64 pb4, .int .i64 pb5] 38 ∧ Holds wF (w1.heap.size) [⟨aw0_1, 39, 6, (qaL1).map ReqKit.cells⟩] ∧ boxB wF (nw0) #[.int .i64 qa0, .slice aw0_1 qaL1.length cw0_1] 29 ∧ boxB wF (nw1) #[.int .i64 qb0, .int .i64 qb1, .int .i64 qb2, .int .i64 qb3, .int .i64 qb4, .int .i64 qb5] 39 ∧ Holds wF (w2.heap.size) [⟨(some ⟨gw3_1, 0, none⟩), 39, 6, (paL1).map ReqKit.cells⟩] ∧ boxB wF (w3.heap.size) #[.int .i64 pa0, .slice (some ⟨gw3_1, 0, none⟩) paL1.length paL1.length] 29 ∧ Holds wF (v4.heap.size) [⟨ag0_1, 39, 6, (qaL1).map ReqKit.cells⟩] ∧ boxB wF (ng0) #[.int .i64 qa0, .slice ag0_1 qaL1.length cg0_1] 29 ∧ boxB wF (ng1) #[.int .i64 qb0, .int .i64 qb1, .int .i64 qb2, .int .i64 qb3, .int .i64 qb4, .int .i64 qb5] 39) := ⟨(H3.out.1).below HBF, (H3.out.2.1).below HBF, (H3.out.2.2.1).below HBF, (H3.out.2.2.2.1).below HBF, (H3.out.2.2.2.2.1).below HBF, (H3.out.2.2.2.2.2.1).below HBF, (H3.out.2.2.2.2.2.2.1).below HBF, (H3.out.2.2.2.2.2.2.2).below HBF, OF, BF0, BF1⟩
        simp only [RegFlow.fin, Act.put, e0, e1, e2, e3, e4, e5, e6, e7, e8, e9, e12]
        clear e0 e1 e2 e3 e4 e5 e6 e7 e8 e9 e12 V0 V1 V2 V3 V4 V5 V6 V7 V8 V9 V12 O3 B8 B9 D8 D9 E8_9 O X8 Y8 X9 Y9 ZE8_9 HBF HSF hwF2 hwF hB OF BF0 BF1 H3 u
        obtain ⟨w5, rfl⟩ : ∃ v, v = wF := ⟨_, rfl⟩
        have d0 := (H4.out.2.2.2.2.2.2.2.2.2.1).cell 0
        have d1 := (H4.out.2.2.2.2.2.2.2.2.2.1).cell 1
        have e0 := (H4.out.2.2.2.2.1).cell 0
        have e1 := (H4.out.2.2.2.2.1).cell 1
        go_wp2_with fail
        refine (LawQueue.eq_queue qa0 ag0_1 cg0_1 qaL1 aw0_1 cw0_1 _ (H4.out.2.2.2.2.2.2.2.2.1.get (by simp)) (H4.out.2.2.2.1.get (by simp)) HL_qaL1.out).mono ?_
        rintro e w6 ⟨rfl, b6⟩
        have H5 : Hid (Bel W w6 ∧ boxB w6 (W.heap.size) #[.int .i64 pa0, .slice paA1 paL1.length paC1] 24 ∧ boxB w6 (W.heap.size + 1) #[.int .i64 pb0, .int .i64 pb1, .int .i64 pb2, .int .i64 pb3, .int .i64 pb4, .int .i64 pb5] 38 ∧ Holds w6 (w1.heap.size) [⟨aw0_1, 39, 6, (qaL1).map ReqKit.cells⟩] ∧ boxB w6 (nw0) #[.int .i64 qa0, .slice aw0_1 qaL1.length cw0_1] 29 ∧ boxB w6 (nw1) #[.int .i64 qb0, .int .i64 qb1, .int .i64 qb2, .int .i64 qb3, .int .i64 qb4, .int .i64 qb5] 39 ∧ Holds w6 (w2.heap.size) [⟨(some ⟨gw3_1, 0, none⟩), 39, 6, (paL1).map ReqKit.cells⟩] ∧ boxB w6 (w3.heap.size) #[.int .i64 pa0, .slice (some ⟨gw3_1, 0, none⟩) paL1.length paL1.length] 29 ∧ Holds w6 (v4.heap.size) [⟨ag0_1, 39, 6, (qaL1).map ReqKit.cells⟩] ∧ boxB w6 (ng0) #[.int .i64 qa0, .slice ag0_1 qaL1.length cg0_1] 29 ∧ boxB w6 (ng1) #[.int .i64 qb0, .int .i64 qb1, .int .i64 qb2, .int .i64 qb3, .int .i64 qb4, .int .i64 qb5] 39) := ⟨(H4.out.1).below b6, (H4.out.2.1).below b6, (H4.out.2.2.1).below b6, (H4.out.2.2.2.1).below b6, (H4.out.2.2.2.2.1).below b6, (H4.out.2.2.2.2.2.1).below b6, (H4.out.2.2.2.2.2.2.1).below b6, (H4.out.2.2.2.2.2.2.2.1).below b6, (H4.out.2.2.2.2.2.2.2.2.1).below b6, (H4.out.2.2.2.2.2.2.2.2.2.1).below b6, (H4.out.2.2.2.2.2.2.2.2.2.2).below b6⟩
        clear d0 d1 e0 e1 b6 H4
        have d0 := (H5.out.2.2.2.2.2.2.2.2.2.2).cell 0
        have d1 := (H5.out.2.2.2.2.2.2.2.2.2.2).cell 1
        have d2 := (H5.out.2.2.2.2.2.2.2.2.2.2).cell 2
        have d3 := (H5.out.2.2.2.2.2.2.2.2.2.2).cell 3
        have d4 := (H5.out.2.2.2.2.2.2.2.2.2.2).cell 4
        have d5 := (H5.out.2.2.2.2.2.2.2.2.2.2).cell 5
        have e0 := (H5.out.2.2.2.2.2.1).cell 0
        have e1 := (H5.out.2.2.2.2.2.1).cell 1
        have e2 := (H5.out.2.2.2.2.2.1).cell 2
        have e3 := (H5.out.2.2.2.2.2.1).cell 3
        have e4 := (H5.out.2.2.2.2.2.1).cell 4
        have e5 := (H5.out.2.2.2.2.2.1).cell 5
        go_wp2_with fail
        refine (FlatReq.eq_one qb0 qb1 qb2 qb3 qb4 qb5 _).mono ?_
        rintro e w7 ⟨rfl, b7⟩
        have H6 : Hid (Bel W w7.drew ∧ boxB w7.drew (W.heap.size) #[.int .i64 pa0, .slice paA1 paL1.length paC1] 24 ∧ boxB w7.drew (W.heap.size + 1) #[.int .i64 pb0, .int .i64 pb1, .int .i64 pb2, .int .i64 pb3, .int .i64 pb4, .int .i64 pb5] 38 ∧ Holds w7.drew (w1.heap.size) [⟨aw0_1, 39, 6, (qaL1).map ReqKit.cells⟩] ∧ boxB w7.drew (nw0) #[.int .i64 qa0, .slice aw0_1 qaL1.length cw0_1] 29 ∧ boxB w7.drew (nw1) #[.int .i64 qb0, .int .i64 qb1, .int .i64 qb2, .int .i64 qb3, .int .i64 qb4, .int .i64 qb5] 39 ∧ Holds w7.drew (w2.heap.size) [⟨(some ⟨gw3_1, 0, none⟩), 39, 6, (paL1).map ReqKit.cells⟩] ∧ boxB w7.drew (w3.heap.size) #[.int .i64 pa0, .slice (some ⟨gw3_1, 0, none⟩) paL1.length paL1.length] 29 ∧ Holds w7.drew (v4.heap.size) [⟨ag0_1, 39, 6, (qaL1).map ReqKit.cells⟩] ∧ boxB w7.drew (ng0) #[.int .i64 qa0, .slice ag0_1 qaL1.length cg0_1] 29 ∧ boxB w7.drew (ng1) #[.int .i64 qb0, .int .i64 qb1, .int .i64 qb2, .int .i64 qb3, .int .i64 qb4, .int .i64 qb5] 39) := ⟨(H5.out.1).below b7.drew, (H5.out.2.1).below b7.drew, (H5.out.2.2.1).below b7.drew, (H5.out.2.2.2.1).below b7.drew, (H5.out.2.2.2.2.1).below b7.drew, (H5.out.2.2.2.2.2.1).below b7.drew, (H5.out.2.2.2.2.2.2.1).below b7.drew, (H5.out.2.2.2.2.2.2.2.1).below b7.drew, (H5.out.2.2.2.2.2.2.2.2.1).below b7.drew, (H5.out.2.2.2.2.2.2.2.2.2.1).below b7.drew, (H5.out.2.2.2.2.2.2.2.2.2.2).below b7.drew⟩
        clear d0 d1 d2 d3 d4 d5 e0 e1 e2 e3 e4 e5 b7 H5
        have c0 := (H6.out.2.1).cell 0
        have c1 := (H6.out.2.1).cell 1
        have x0 := (H6.out.2.2.2.2.2.2.2.1).cell 0
        have x1 := (H6.out.2.2.2.2.2.2.2.1).cell 1
        go_wp2
        go_region_with (first | (go_at_call 13; refine (LawQueue.to_queue pa0 paA1 paC1 paL1 _ (HA_pa1.out.below (H6.out.1)) HL_paL1.out).mono ?_; rintro e w8 ⟨gw8_1, rfl, hhw8, b8⟩; have H7 : Hid (Bel W w8 ∧ boxB w8 (W.heap.size) #[.int .i64 pa0, .slice paA1 paL1.length paC1] 24 ∧ boxB w8 (W.heap.size + 1) #[.int .i64 pb0, .int .i64 pb1, .int .i64 pb2, .int .i64 pb3, .int .i64 pb4, .int .i64 pb5] 38 ∧ Holds w8 (w1.heap.size) [⟨aw0_1, 39, 6, (qaL1).map ReqKit.cells⟩] ∧ boxB w8 (nw0) #[.int .i64 qa0, .slice aw0_1 qaL1.length cw0_1] 29 ∧ boxB w8 (nw1) #[.int .i64 qb0, .int .i64 qb1, .int .i64 qb2, .int .i64 qb3, .int .i64 qb4, .int .i64 qb5] 39 ∧ Holds w8 (w2.heap.size) [⟨(some ⟨gw3_1, 0, none⟩), 39, 6, (paL1).map ReqKit.cells⟩] ∧ boxB w8 (w3.heap.size) #[.int .i64 pa0, .slice (some ⟨gw3_1, 0, none⟩) paL1.length paL1.length] 29 ∧ Holds w8 (v4.heap.size) [⟨ag0_1, 39, 6, (qaL1).map ReqKit.cells⟩] ∧ boxB w8 (ng0) #[.int .i64 qa0, .slice ag0_1 qaL1.length cg0_1] 29 ∧ boxB w8 (ng1) #[.int .i64 qb0, .int .i64 qb1, .int .i64 qb2, .int .i64 qb3, .int .i64 qb4, .int .i64 qb5] 39 ∧ Holds w8 (w7.drew.heap.size) [⟨(some ⟨gw8_1, 0, none⟩), 39, 6, (paL1).map ReqKit.cells⟩]) := ⟨(H6.out.1).below b8, (H6.out.2.1).below b8, (H6.out.2.2.1).below b8, (H6.out.2.2.2.1).below b8, (H6.out.2.2.2.2.1).below b8, (H6.out.2.2.2.2.2.1).below b8, (H6.out.2.2.2.2.2.2.1).below b8, (H6.out.2.2.2.2.2.2.2.1).below b8, (H6.out.2.2.2.2.2.2.2.2.1).below b8, (H6.out.2.2.2.2.2.2.2.2.2.1).below b8, (H6.out.2.2.2.2.2.2.2.2.2.2).below b8, hhw8⟩; have y0 := (H7.out.2.2.2.2.2.2.2.1).cell 0; have y1 := (H7.out.2.2.2.2.2.2.2.1).cell 1; clear b8 hhw8) | (go_at_call 15; refine (LawQueue.eq_queue pa0 (some ⟨gw3_1, 0, none⟩) paL1.length paL1 (some ⟨gw8_1, 0, none⟩) paL1.length _ (H7.out.2.2.2.2.2.2.1.get (by simp)) (H7.out.2.2.2.2.2.2.2.2.2.2.2.get (by simp)) HL_paL1.out).mono ?_; rintro e w9 ⟨rfl, b9⟩; have H8 : Hid (Bel W w9 ∧ boxB w9 (W.heap.size) #[.int .i64 pa0, .slice paA1 paL1.length paC1] 24 ∧ boxB w9 (W.heap.size + 1) #[.int .i64 pb0, .int .i64 pb1, .int .i64 pb2, .int .i64 pb3, .int .i64 pb4, .int .i64 pb5] 38 ∧ Holds w9 (w1.heap.size) [⟨aw0_1, 39, 6, (qaL1).map ReqKit.cells⟩] ∧ boxB w9 (nw0) #[.int .i64 qa0, .slice aw0_1 qaL1.length cw0_1] 29 ∧ boxB w9 (nw1) #[.int .i64 qb0, .int .i64 qb1, .int .i64 qb2, .int .i64 qb3, .int .i64 qb4, .int .i64 qb5] 39 ∧ Holds w9 (w2.heap.size) [⟨(some ⟨gw3_1, 0, none⟩), 39, 6, (paL1).map ReqKit.cells⟩] ∧ boxB w9 (w3.heap.size) #[.int .i64 pa0, .slice (some ⟨gw3_1, 0, none⟩) paL1.length paL1.length] 29 ∧ Holds w9 (v4.heap.size) [⟨ag0_1, 39, 6, (qaL1).map ReqKit.cells⟩] ∧ boxB w9 (ng0) #[.int .i64 qa0, .slice ag0_1 qaL1.length cg0_1] 29 ∧ boxB w9 (ng1) #[.int .i64 qb0, .int .i64 qb1, .int .i64 qb2, .int .i64 qb3, .int .i64 qb4, .int .i64 qb5] 39) := ⟨(H7.out.1).below b9, (H7.out.2.1).below b9, (H7.out.2.2.1).below b9, (H7.out.2.2.2.1).below b9, (H7.out.2.2.2.2.1).below b9, (H7.out.2.2.2.2.2.1).below b9, (H7.out.2.2.2.2.2.2.1).below b9, (H7.out.2.2.2.2.2.2.2.1).below b9, (H7.out.2.2.2.2.2.2.2.2.1).below b9, (H7.out.2.2.2.2.2.2.2.2.2.1).below b9, (H7.out.2.2.2.2.2.2.2.2.2.2.1).below b9⟩; clear b9))
        all_goals
          clear c0 c1 x0 x1 y0 y1 H6 H7
          have z0 := (H8.out.2.2.2.2.2.2.2.1).cell 0
          have z1 := (H8.out.2.2.2.2.2.2.2.1).cell 1
          go_wp2_with fail
          refine (LawQueue.mark_queue pa0 (some ⟨gw3_1, 0, none⟩) paL1.length paL1 (1) _ _ _ (H8.out.2.2.2.2.2.2.1) HL_paL1.out (by have := HL_paL1.out; have := HL_qaL1.out; omega) (by first | rfl | omega)).mono ?_
          rintro e w10 ⟨rfl, hmw10, htw10⟩
          have H9 : Hid (Bel W w10 ∧ boxB w10 (W.heap.size) #[.int .i64 pa0, .slice paA1 paL1.length paC1] 24 ∧ boxB w10 (W.heap.size + 1) #[.int .i64 pb0, .int .i64 pb1, .int .i64 pb2, .int .i64 pb3, .int .i64 pb4, .int .i64 pb5] 38 ∧ Holds w10 (w1.heap.size) [⟨aw0_1, 39, 6, (qaL1).map ReqKit.cells⟩] ∧ boxB w10 (nw0) #[.int .i64 qa0, .slice aw0_1 qaL1.length cw0_1] 29 ∧ boxB w10 (nw1) #[.int .i64 qb0, .int .i64 qb1, .int .i64 qb2, .int .i64 qb3, .int .i64 qb4, .int .i64 qb5] 39 ∧ Holds w10 (v4.heap.size) [⟨ag0_1, 39, 6, (qaL1).map ReqKit.cells⟩] ∧ boxB w10 (ng0) #[.int .i64 qa0, .slice ag0_1 qaL1.length cg0_1] 29 ∧ boxB w10 (ng1) #[.int .i64 qb0, .int .i64 qb1, .int .i64 qb2, .int .i64 qb3, .int .i64 qb4, .int .i64 qb5] 39) := ⟨Bel.turn (H8.out.1) htw10 (fun x hx => Off.under (H8.out.2.2.2.2.2.2.1) (by have h9 := LW_x0.out; omega)), (H8.out.2.1).turn htw10 O4_.out, (H8.out.2.2.1).turn htw10 O5_.out, (H8.out.2.2.2.1).turn htw10 Q0_.out.symm, (H8.out.2.2.2.2.1).turn htw10 O6_.out, (H8.out.2.2.2.2.2.1).turn htw10 O7_.out, (H8.out.2.2.2.2.2.2.2.2.1).turn htw10 Q2_.out, (H8.out.2.2.2.2.2.2.2.2.2.1).turn htw10 O11_.out, (H8.out.2.2.2.2.2.2.2.2.2.2).turn htw10 O14_.out⟩
          clear z0 z1 hmw10 htw10 H8
          have d0 := (H9.out.2.2.2.2.2.2.2.1).cell 0
          have d1 := (H9.out.2.2.2.2.2.2.2.1).cell 1
          have e0 := (H9.out.2.2.2.2.1).cell 0
          have e1 := (H9.out.2.2.2.2.1).cell 1
          go_wp2_with fail
          refine (LawQueue.eq_queue qa0 ag0_1 cg0_1 qaL1 aw0_1 cw0_1 _ (H9.out.2.2.2.2.2.2.1.get (by simp)) (H9.out.2.2.2.1.get (by simp)) HL_qaL1.out).mono ?_
          rintro e w11 ⟨rfl, b11⟩
          have H10 : Hid (Bel W w11 ∧ boxB w11 (W.heap.size) #[.int .i64 pa0, .slice paA1 paL1.length paC1] 24 ∧ boxB w11 (W.heap.size + 1) #[.int .i64 pb0, .int .i64 pb1, .int .i64 pb2, .int .i64 pb3, .int .i64 pb4, .int .i64 pb5] 38 ∧ Holds w11 (w1.heap.size) [⟨aw0_1, 39, 6, (qaL1).map ReqKit.cells⟩] ∧ boxB w11 (nw0) #[.int .i64 qa0, .slice aw0_1 qaL1.length cw0_1] 29 ∧ boxB w11 (nw1) #[.int .i64 qb0, .int .i64 qb1, .int .i64 qb2, .int .i64 qb3, .int .i64 qb4, .int .i64 qb5] 39 ∧ Holds w11 (v4.heap.size) [⟨ag0_1, 39, 6, (qaL1).map ReqKit.cells⟩] ∧ boxB w11 (ng0) #[.int .i64 qa0, .slice ag0_1 qaL1.length cg0_1] 29 ∧ boxB w11 (ng1) #[.int .i64 qb0, .int .i64 qb1, .int .i64 qb2, .int .i64 qb3, .int .i64 qb4, .int .i64 qb5] 39) := ⟨(H9.out.1).below b11, (H9.out.2.1).below b11, (H9.out.2.2.1).below b11, (H9.out.2.2.2.1).below b11, (H9.out.2.2.2.2.1).below b11, (H9.out.2.2.2.2.2.1).below b11, (H9.out.2.2.2.2.2.2.1).below b11, (H9.out.2.2.2.2.2.2.2.1).below b11, (H9.out.2.2.2.2.2.2.2.2).below b11⟩
          clear d0 d1 e0 e1 b11 H9
          have d0 := (H10.out.2.2.2.2.2.2.2.2).cell 0
          have d1 := (H10.out.2.2.2.2.2.2.2.2).cell 1
          have d2 := (H10.out.2.2.2.2.2.2.2.2).cell 2
          have d3 := (H10.out.2.2.2.2.2.2.2.2).cell 3
          have d4 := (H10.out.2.2.2.2.2.2.2.2).cell 4
          have d5 := (H10.out.2.2.2.2.2.2.2.2).cell 5
          have e0 := (H10.out.2.2.2.2.2.1).cell 0
          have e1 := (H10.out.2.2.2.2.2.1).cell 1
          have e2 := (H10.out.2.2.2.2.2.1).cell 2
          have e3 := (H10.out.2.2.2.2.2.1).cell 3
          have e4 := (H10.out.2.2.2.2.2.1).cell 4
          have e5 := (H10.out.2.2.2.2.2.1).cell 5
          go_wp2_with fail
          refine (FlatReq.eq_one qb0 qb1 qb2 qb3 qb4 qb5 _).mono ?_
          rintro e w12 ⟨rfl, b12⟩
          have H11 : Hid (Bel W w12 ∧ boxB w12 (W.heap.size) #[.int .i64 pa0, .slice paA1 paL1.length paC1] 24 ∧ boxB w12 (W.heap.size + 1) #[.int .i64 pb0, .int .i64 pb1, .int .i64 pb2, .int .i64 pb3, .int .i64 pb4, .int .i64 pb5] 38 ∧ Holds w12 (w1.heap.size) [⟨aw0_1, 39, 6, (qaL1).map ReqKit.cells⟩] ∧ boxB w12 (nw0) #[.int .i64 qa0, .slice aw0_1 qaL1.length cw0_1] 29 ∧ boxB w12 (nw1) #[.int .i64 qb0, .int .i64 qb1, .int .i64 qb2, .int .i64 qb3, .int .i64 qb4, .int .i64 qb5] 39 ∧ Holds w12 (v4.heap.size) [⟨ag0_1, 39, 6, (qaL1).map ReqKit.cells⟩] ∧ boxB w12 (ng0) #[.int .i64 qa0, .slice ag0_1 qaL1.length cg0_1] 29 ∧ boxB w12 (ng1) #[.int .i64 qb0, .int .i64 qb1, .int .i64 qb2, .int .i64 qb3, .int .i64 qb4, .int .i64 qb5] 39) := ⟨(H10.out.1).below b12, (H10.out.2.1).below b12, (H10.out.2.2.1).below b12, (H10.out.2.2.2.1).below b12, (H10.out.2.2.2.2.1).below b12, (H10.out.2.2.2.2.2.1).below b12, (H10.out.2.2.2.2.2.2.1).below b12, (H10.out.2.2.2.2.2.2.2.1).below b12, (H10.out.2.2.2.2.2.2.2.2).below b12⟩
          clear d0 d1 d2 d3 d4 d5 e0 e1 e2 e3 e4 e5 b12 H10
          have z0 := (H11.out.2.2.2.2.2.2.2.1).cell 0
          have z1 := (H11.out.2.2.2.2.2.2.2.1).cell 1
          go_wp2_with fail
          refine (LawQueue.mark_queue qa0 ag0_1 cg0_1 qaL1 (1) _ _ _ (H11.out.2.2.2.2.2.2.1) HL_qaL1.out (by have := HL_paL1.out; have := HL_qaL1.out; omega) (by first | rfl | omega)).mono ?_
          rintro e w13 ⟨rfl, hmw13, htw13⟩
          have H12 : Hid (Bel W w13 ∧ boxB w13 (W.heap.size) #[.int .i64 pa0, .slice paA1 paL1.length paC1] 24 ∧ boxB w13 (W.heap.size + 1) #[.int .i64 pb0, .int .i64 pb1, .int .i64 pb2, .int .i64 pb3, .int .i64 pb4, .int .i64 pb5] 38 ∧ Holds w13 (w1.heap.size) [⟨aw0_1, 39, 6, (qaL1).map ReqKit.cells⟩] ∧ boxB w13 (nw0) #[.int .i64 qa0, .slice aw0_1 qaL1.length cw0_1] 29 ∧ boxB w13 (nw1) #[.int .i64 qb0, .int .i64 qb1, .int .i64 qb2, .int .i64 qb3, .int .i64 qb4, .int .i64 qb5] 39 ∧ boxB w13 (ng0) #[.int .i64 qa0, .slice ag0_1 qaL1.length cg0_1] 29 ∧ boxB w13 (ng1) #[.int .i64 qb0, .int .i64 qb1, .int .i64 qb2, .int .i64 qb3, .int .i64 qb4, .int .i64 qb5] 39 ∧ Holds w13 (v4.heap.size) [⟨ag0_1, 39, 6, ((ReqRows.marks (1) qaL1.length)).map ReqKit.cells⟩]) := ⟨Bel.turn (H11.out.1) htw13 (fun x hx => Off.under (H11.out.2.2.2.2.2.2.1) (by have h9 := LW_g.out; omega)), (H11.out.2.1).turn htw13 O16_.out, (H11.out.2.2.1).turn htw13 O17_.out, (H11.out.2.2.2.1).turn htw13 Q1_.out.symm, (H11.out.2.2.2.2.1).turn htw13 O18_.out, (H11.out.2.2.2.2.2.1).turn htw13 O19_.out, (H11.out.2.2.2.2.2.2.2.1).turn htw13 O12_.out, (H11.out.2.2.2.2.2.2.2.2).turn htw13 O15_.out, hmw13⟩
          clear z0 z1 hmw13 htw13 H11
          have z0 := (H12.out.2.2.2.2.2.2.1).cell 0
          have z1 := (H12.out.2.2.2.2.2.2.1).cell 1
          go_wp2_with fail
          refine (LawQueue.held_queue qa0 ag0_1 cg0_1 qaL1 (1) _ _ _ (H12.out.2.2.2.2.2.2.2.2) HL_qaL1.out (by have := HL_paL1.out; have := HL_qaL1.out; omega) (by first | rfl | omega)).mono ?_
          rintro e w14 ⟨rfl, b14⟩
          have H13 : Hid (Bel W w14 ∧ boxB w14 (W.heap.size) #[.int .i64 pa0, .slice paA1 paL1.length paC1] 24 ∧ boxB w14 (W.heap.size + 1) #[.int .i64 pb0, .int .i64 pb1, .int .i64 pb2, .int .i64 pb3, .int .i64 pb4, .int .i64 pb5] 38 ∧ Holds w14 (w1.heap.size) [⟨aw0_1, 39, 6, (qaL1).map ReqKit.cells⟩] ∧ boxB w14 (nw0) #[.int .i64 qa0, .slice aw0_1 qaL1.length cw0_1] 29 ∧ boxB w14 (nw1) #[.int .i64 qb0, .int .i64 qb1, .int .i64 qb2, .int .i64 qb3, .int .i64 qb4, .int .i64 qb5] 39 ∧ boxB w14 (ng0) #[.int .i64 qa0, .slice ag0_1 qaL1.length cg0_1] 29 ∧ boxB w14 (ng1) #[.int .i64 qb0, .int .i64 qb1, .int .i64 qb2, .int .i64 qb3, .int .i64 qb4, .int .i64 qb5] 39 ∧ Holds w14 (v4.heap.size) [⟨ag0_1, 39, 6, ((ReqRows.marks (1) qaL1.length)).map ReqKit.cells⟩]) := ⟨(H12.out.1).below b14, (H12.out.2.1).below b14, (H12.out.2.2.1).below b14, (H12.out.2.2.2.1).below b14, (H12.out.2.2.2.2.1).below b14, (H12.out.2.2.2.2.2.1).below b14, (H12.out.2.2.2.2.2.2.1).below b14, (H12.out.2.2.2.2.2.2.2.1).below b14, (H12.out.2.2.2.2.2.2.2.2).below b14⟩
          clear z0 z1 b14 H12
          go_upto_region 24 with fail
          refine RegFlow.wp_region_flow (fun b u wI => ∃ (ws : World) (gh1_1 : Nat) (ah0_1 : Option Addr) (ch0_1 : Nat) (nh0 : Nat) (nh1 : Nat), wI = (FlowHold.Stored (b 12) (FlowHold.Stored (b 11) ws nh0 [.int .i64 qa0, .slice ah0_1 qaL1.length ch0_1]) nh1 [.int .i64 qb0, .int .i64 qb1, .int .i64 qb2, .int .i64 qb3, .int .i64 qb4, .int .i64 qb5]) ∧ Below w14.heap.size w14 ws ∧ (b 0 = true → u 0 = .agg #[.int .i64 pa0, .slice paA1 paL1.length paC1]) ∧ (b 1 = true → u 1 = .agg #[.int .i64 pa0, .slice (some ⟨gh1_1, 0, none⟩) paL1.length paL1.length]) ∧ (b 2 = true → u 2 = .agg #[.int .i64 pb0, .int .i64 pb1, .int .i64 pb2, .int .i64 pb3, .int .i64 pb4, .int .i64 pb5]) ∧ (b 3 = true → u 3 = .agg #[.int .i64 pb0, .int .i64 pb1, .int .i64 pb2, .int .i64 pb3, .int .i64 pb4, .int .i64 pb5]) ∧ (b 4 = true → u 4 = .tuple #[.agg #[.int .i64 qa0, .slice ah0_1 qaL1.length ch0_1], .agg #[.int .i64 qb0, .int .i64 qb1, .int .i64 qb2, .int .i64 qb3, .int .i64 qb4, .int .i64 qb5], .bool qc]) ∧ (b 5 = true → u 5 = .tuple #[.agg #[.int .i64 qa0, .slice ah0_1 qaL1.length ch0_1], .agg #[.int .i64 qb0, .int .i64 qb1, .int .i64 qb2, .int .i64 qb3, .int .i64 qb4, .int .i64 qb5], .bool qc]) ∧ (b 6 = true → u 6 = .agg #[.int .i64 qa0, .slice ah0_1 qaL1.length ch0_1]) ∧ (b 7 = true → u 7 = .agg #[.int .i64 qb0, .int .i64 qb1, .int .i64 qb2, .int .i64 qb3, .int .i64 qb4, .int .i64 qb5]) ∧ (b 8 = true → u 8 = .bool qc) ∧ (b 9 = true → u 9 = .pointer (some ⟨nh0, 0, none⟩)) ∧ (b 10 = true → u 10 = .pointer (some ⟨nh1, 0, none⟩)) ∧ (b 13 = true → u 13 = .bool qc) ∧ (b 1 = true → Holds ws w14.heap.size [⟨(some ⟨gh1_1, 0, none⟩), 39, 6, (paL1).map ReqKit.cells⟩]) ∧ (b 4 = true → qaL1.length ≤ ch0_1 ∧ Holds ws w14.heap.size [⟨ah0_1, 39, 6, (qaL1).map ReqKit.cells⟩]) ∧ (b 9 = true → boxB ws nh0 #[.int .i64 0, .slice none 0 0] 29 ∧ w14.heap.size ≤ nh0) ∧ (b 10 = true → boxB ws nh1 #[.int .i64 0, .int .i64 0, .int .i64 0, .int .i64 0, .int .i64 0, .int .i64 0] 39 ∧ w14.heap.size ≤ nh1) ∧ (b 4 = true → b 9 = true → Off nh0 [⟨ah0_1, 39, 6, (qaL1).map ReqKit.cells⟩]) ∧ (b 4 = true → b 10 = true → Off nh1 [⟨ah0_1, 39, 6, (qaL1).map ReqKit.cells⟩]) ∧ (b 9 = true → b 10 = true → nh0 ≠ nh1)) (by kernel_rfl) (by kernel_rfl) (by rfl) ⟨w14.drew, 0, none, 0, 0, 0, rfl, (Below.refl _ _).drew, fun h => FlowHold.no_way rfl h, fun h => FlowHold.no_way rfl h, fun h => FlowHold.no_way rfl h, fun h => FlowHold.no_way rfl h, fun h => FlowHold.no_way rfl h, fun h => FlowHold.no_way rfl h, fun h => FlowHold.no_way rfl h, fun h => FlowHold.no_way rfl h, fun h => FlowHold.no_way rfl h, fun h => FlowHold.no_way rfl h, fun h => FlowHold.no_way rfl h, fun h => FlowHold.no_way rfl h, fun h => FlowHold.no_way rfl h, fun h => FlowHold.no_way rfl h, fun h => FlowHold.no_way rfl h, fun h => FlowHold.no_way rfl h, fun h => FlowHold.no_way rfl h, fun h => FlowHold.no_way rfl h, fun h => FlowHold.no_way rfl h⟩ ⟨?_, ?_, ?_, ?_, ?_, ?_, ?_, ?_, ?_, ?_, ?_, ?_, ?_, ?_, trivial⟩ ?_
          · intro b u wI ρ hI hcl hp hk hρ
            obtain ⟨ws, gh1_1, ah0_1, ch0_1, nh0, nh1, hw, hB, V0, V1, V2, V3, V4, V5, V6, V7, V8, V9, V10, V13, T1, O4, B9, B10, D9, D10, E9_10⟩ := hI
            have m1 : b 1 = false := hcl.no (i := 1) rfl (k := 0) (by rfl) hk
            have m3 : b 3 = false := hcl.no (i := 3) rfl (k := 1) (by rfl) m1
            have m4 : b 4 = false := hcl.no (i := 4) rfl (k := 1) (by rfl) m1
            have m5 : b 5 = false := hcl.no (i := 5) rfl (k := 4) (by rfl) m4
            have m6 : b 6 = false := hcl.no (i := 6) rfl (k := 5) (by rfl) m5
            have m7 : b 7 = false := hcl.no (i := 7) rfl (k := 5) (by rfl) m5
            have m8 : b 8 = false := hcl.no (i := 8) rfl (k := 5) (by rfl) m5
            have m11 : b 11 = false := hcl.no (i := 11) rfl (k := 0) (by rfl) hk
            have m12 : b 12 = false := hcl.no (i := 12) rfl (k := 0) (by rfl) hk
            have m13 : b 13 = false := hcl.no (i := 13) rfl (k := 0) (by rfl) hk
            rw [FlowHold.stored_no m12, FlowHold.stored_no m11] at hw
            have hw2 := hw.symm
            subst hw2
            have r2 : ρ (.tmp 2) = .pointer (some ⟨W.heap.size, 0, none⟩) := hρ (.tmp 2) (by simp [Op.operands, Call.operands])
            have c0 := (H13.out.2.1.below hB).cell 0
            have c1 := (H13.out.2.1.below hB).cell 1
            refine RegFlow.gives_value (v := .agg #[.int .i64 pa0, .slice paA1 paL1.length paC1]) (w' := ws) (by go_simp) ⟨ws, gh1_1, ah0_1, ch0_1, nh0, nh1, by rw [FlowHold.stored_no (show RegFlow.setB b 0 12 = false from m12), FlowHold.stored_no (show RegFlow.setB b 0 11 = false from m11)], hB, fun _ => rfl, V1, V2, V3, V4, V5, V6, V7, V8, V9, V10, V13, T1, O4, B9, B10, D9, D10, E9_10⟩
          · intro b u wI ρ hI hcl hp hk hρ
            obtain ⟨ws, gh1_1, ah0_1, ch0_1, nh0, nh1, hw, hB, V0, V1, V2, V3, V4, V5, V6, V7, V8, V9, V10, V13, T1, O4, B9, B10, D9, D10, E9_10⟩ := hI
            have hp2 : (b 0 && true) = true := hp
            simp only [Bool.and_eq_true, Bool.and_true] at hp2
            have p0 := hp2
            have m3 : b 3 = false := hcl.no (i := 3) rfl (k := 1) (by rfl) hk
            have m4 : b 4 = false := hcl.no (i := 4) rfl (k := 1) (by rfl) hk
            have m5 : b 5 = false := hcl.no (i := 5) rfl (k := 4) (by rfl) m4
            have m6 : b 6 = false := hcl.no (i := 6) rfl (k := 5) (by rfl) m5
            have m7 : b 7 = false := hcl.no (i := 7) rfl (k := 5) (by rfl) m5
            have m8 : b 8 = false := hcl.no (i := 8) rfl (k := 5) (by rfl) m5
            have m11 : b 11 = false := hcl.no (i := 11) rfl (k := 1) (by rfl) hk
            have m12 : b 12 = false := hcl.no (i := 12) rfl (k := 1) (by rfl) hk
            have m13 : b 13 = false := hcl.no (i := 13) rfl (k := 1) (by rfl) hk
            rw [FlowHold.stored_no m12, FlowHold.stored_no m11] at hw
            have hw2 := hw.symm
            subst hw2
            have r97 : ρ (.tmp 97) = .agg #[.int .i64 pa0, .slice paA1 paL1.length paC1] := (hρ (.tmp 97) (by simp [Op.operands, Call.operands])).trans (V0 p0)
            have rf : ρ (.func 13) = .func (.func 13) #[] #[] := hρ (.func 13) (by simp [Op.operands, Call.operands])
            refine RegFlow.gives_call (f := 13) (args := #[.agg #[.int .i64 pa0, .slice paA1 paL1.length paC1]]) (w' := ws) (by go_simp) (LawQueue.to_queue pa0 paA1 paC1 paL1 ws (HA_pa1.out.below ((H13.out.1).below hB)) HL_paL1.out) ?_
            rintro e wN ⟨g1N, rfl, hh, hb⟩
            exact ⟨_, rfl, wN, g1N, ah0_1, ch0_1, nh0, nh1, by rw [FlowHold.stored_no (show RegFlow.setB b 1 12 = false from m12), FlowHold.stored_no (show RegFlow.setB b 1 11 = false from m11)], hB.trans (hb.mono hB.size), V0, fun _ => rfl, V2, fun h => FlowHold.no_way m3 h, fun h => FlowHold.no_way m4 h, fun h => FlowHold.no_way m5 h, fun h => FlowHold.no_way m6 h, fun h => FlowHold.no_way m7 h, fun h => FlowHold.no_way m8 h, V9, V10, fun h => FlowHold.no_way m13 h, fun _ => hh.low hB.size, fun h => ⟨(O4 h).1, ((O4 h).2).below hb⟩, fun h => ⟨(B9 h).1.below hb, (B9 h).2⟩, fun h => ⟨(B10 h).1.below hb, (B10 h).2⟩, D9, D10, E9_10⟩
          · intro b u wI ρ hI hcl hp hk hρ
            obtain ⟨ws, gh1_1, ah0_1, ch0_1, nh0, nh1, hw, hB, V0, V1, V2, V3, V4, V5, V6, V7, V8, V9, V10, V13, T1, O4, B9, B10, D9, D10, E9_10⟩ := hI
            have m3 : b 3 = false := hcl.no (i := 3) rfl (k := 2) (by rfl) hk
            have m4 : b 4 = false := hcl.no (i := 4) rfl (k := 3) (by rfl) m3
            have m5 : b 5 = false := hcl.no (i := 5) rfl (k := 4) (by rfl) m4
            have m6 : b 6 = false := hcl.no (i := 6) rfl (k := 5) (by rfl) m5
            have m7 : b 7 = false := hcl.no (i := 7) rfl (k := 5) (by rfl) m5
            have m8 : b 8 = false := hcl.no (i := 8) rfl (k := 5) (by rfl) m5
            have m11 : b 11 = false := hcl.no (i := 11) rfl (k := 2) (by rfl) hk
            have m12 : b 12 = false := hcl.no (i := 12) rfl (k := 2) (by rfl) hk
            have m13 : b 13 = false := hcl.no (i := 13) rfl (k := 2) (by rfl) hk
            rw [FlowHold.stored_no m12, FlowHold.stored_no m11] at hw
            have hw2 := hw.symm
            subst hw2
            have r3 : ρ (.tmp 3) = .pointer (some ⟨W.heap.size + 1, 0, none⟩) := hρ (.tmp 3) (by simp [Op.operands, Call.operands])
            have c0 := (H13.out.2.2.1.below hB).cell 0
            have c1 := (H13.out.2.2.1.below hB).cell 1
            have c2 := (H13.out.2.2.1.below hB).cell 2
            have c3 := (H13.out.2.2.1.below hB).cell 3
            have c4 := (H13.out.2.2.1.below hB).cell 4
            have c5 := (H13.out.2.2.1.below hB).cell 5
            refine RegFlow.gives_value (v := .agg #[.int .i64 pb0, .int .i64 pb1, .int .i64 pb2, .int .i64 pb3, .int .i64 pb4, .int .i64 pb5]) (w' := ws) (by go_simp) ⟨ws, gh1_1, ah0_1, ch0_1, nh0, nh1, by rw [FlowHold.stored_no (show RegFlow.setB b 2 12 = false from m12), FlowHold.stored_no (show RegFlow.setB b 2 11 = false from m11)], hB, V0, V1, fun _ => rfl, V3, V4, V5, V6, V7, V8, V9, V10, V13, T1, O4, B9, B10, D9, D10, E9_10⟩
          · intro b u wI ρ hI hcl hp hk hρ
            obtain ⟨ws, gh1_1, ah0_1, ch0_1, nh0, nh1, hw, hB, V0, V1, V2, V3, V4, V5, V6, V7, V8, V9, V10, V13, T1, O4, B9, B10, D9, D10, E9_10⟩ := hI
            have hp2 : (b 2 && (b 1 && true)) = true := hp
            simp only [Bool.and_eq_true, Bool.and_true] at hp2
            obtain ⟨p0, p1⟩ := hp2
            have m4 : b 4 = false := hcl.no (i := 4) rfl (k := 3) (by rfl) hk
            have m5 : b 5 = false := hcl.no (i := 5) rfl (k := 4) (by rfl) m4
            have m6 : b 6 = false := hcl.no (i := 6) rfl (k := 5) (by rfl) m5
            have m7 : b 7 = false := hcl.no (i := 7) rfl (k := 5) (by rfl) m5
            have m8 : b 8 = false := hcl.no (i := 8) rfl (k := 5) (by rfl) m5
            have m11 : b 11 = false := hcl.no (i := 11) rfl (k := 3) (by rfl) hk
            have m12 : b 12 = false := hcl.no (i := 12) rfl (k := 3) (by rfl) hk
            have m13 : b 13 = false := hcl.no (i := 13) rfl (k := 3) (by rfl) hk
            rw [FlowHold.stored_no m12, FlowHold.stored_no m11] at hw
            have hw2 := hw.symm
            subst hw2
            have r99 : ρ (.tmp 99) = .agg #[.int .i64 pb0, .int .i64 pb1, .int .i64 pb2, .int .i64 pb3, .int .i64 pb4, .int .i64 pb5] := (hρ (.tmp 99) (by simp [Op.operands, Call.operands])).trans (V2 p0)
            have rf : ρ (.func 21) = .func (.func 21) #[] #[] := hρ (.func 21) (by simp [Op.operands, Call.operands])
            refine RegFlow.gives_call (f := 21) (args := #[.agg #[.int .i64 pb0, .int .i64 pb1, .int .i64 pb2, .int .i64 pb3, .int .i64 pb4, .int .i64 pb5]]) (w' := ws) (by go_simp) (FlatReq.to_one pb0 pb1 pb2 pb3 pb4 pb5 ws) ?_
            rintro e wN ⟨rfl, hb⟩
            exact ⟨_, rfl, wN, gh1_1, ah0_1, ch0_1, nh0, nh1, by rw [FlowHold.stored_no (show RegFlow.setB b 3 12 = false from m12), FlowHold.stored_no (show RegFlow.setB b 3 11 = false from m11)], hB.trans (hb.mono hB.size), V0, V1, V2, fun _ => rfl, V4, V5, V6, V7, V8, V9, V10, V13, fun h => (T1 h).below hb, fun h => ⟨(O4 h).1, ((O4 h).2).below hb⟩, fun h => ⟨(B9 h).1.below hb, (B9 h).2⟩, fun h => ⟨(B10 h).1.below hb, (B10 h).2⟩, D9, D10, E9_10⟩
          · intro b u wI ρ hI hcl hp hk hρ
            obtain ⟨ws, gh1_1, ah0_1, ch0_1, nh0, nh1, hw, hB, V0, V1, V2, V3, V4, V5, V6, V7, V8, V9, V10, V13, T1, O4, B9, B10, D9, D10, E9_10⟩ := hI
            have hp2 : (b 1 && (b 3 && (b 3 && true))) = true := hp
            simp only [Bool.and_eq_true, Bool.and_true] at hp2
            obtain ⟨p0, p1, p2⟩ := hp2
            have m5 : b 5 = false := hcl.no (i := 5) rfl (k := 4) (by rfl) hk
            have m6 : b 6 = false := hcl.no (i := 6) rfl (k := 5) (by rfl) m5
            have m7 : b 7 = false := hcl.no (i := 7) rfl (k := 5) (by rfl) m5
            have m8 : b 8 = false := hcl.no (i := 8) rfl (k := 5) (by rfl) m5
            have m11 : b 11 = false := hcl.no (i := 11) rfl (k := 4) (by rfl) hk
            have m12 : b 12 = false := hcl.no (i := 12) rfl (k := 4) (by rfl) hk
            have m13 : b 13 = false := hcl.no (i := 13) rfl (k := 4) (by rfl) hk
            rw [FlowHold.stored_no m12, FlowHold.stored_no m11] at hw
            have hw2 := hw.symm
            subst hw2
            have r98 : ρ (.tmp 98) = .agg #[.int .i64 pa0, .slice (some ⟨gh1_1, 0, none⟩) paL1.length paL1.length] := (hρ (.tmp 98) (by simp [Op.operands, Call.operands])).trans (V1 p0)
            have r100 : ρ (.tmp 100) = .agg #[.int .i64 pb0, .int .i64 pb1, .int .i64 pb2, .int .i64 pb3, .int .i64 pb4, .int .i64 pb5] := (hρ (.tmp 100) (by simp [Op.operands, Call.operands])).trans (V3 p1)
            have rf : ρ (.func 22) = .func (.func 22) #[] #[] := hρ (.func 22) (by simp [Op.operands, Call.operands])
            refine RegFlow.gives_call (f := 22) (args := #[.agg #[.int .i64 pa0, .slice (some ⟨gh1_1, 0, none⟩) paL1.length paL1.length], .agg #[.int .i64 pb0, .int .i64 pb1, .int .i64 pb2, .int .i64 pb3, .int .i64 pb4, .int .i64 pb5]]) (w' := ws) (by go_simp) (HIM (some ⟨gh1_1, 0, none⟩) paL1.length ws ((T1 p0).get (by simp)) (Nat.le_refl _)) ?_
            rintro e wN ⟨a0N, c0N, rfl, h0N, hh, hb⟩
            exact ⟨_, rfl, wN, gh1_1, a0N, c0N, nh0, nh1, by rw [FlowHold.stored_no (show RegFlow.setB b 4 12 = false from m12), FlowHold.stored_no (show RegFlow.setB b 4 11 = false from m11)], hB.trans (hb.mono hB.size), V0, V1, V2, V3, fun _ => rfl, fun h => FlowHold.no_way m5 h, fun h => FlowHold.no_way m6 h, fun h => FlowHold.no_way m7 h, fun h => FlowHold.no_way m8 h, V9, V10, fun h => FlowHold.no_way m13 h, fun h => (T1 h).below hb, fun _ => ⟨h0N, hh.low hB.size⟩, fun h => ⟨(B9 h).1.below hb, (B9 h).2⟩, fun h => ⟨(B10 h).1.below hb, (B10 h).2⟩, fun _ h => Off.under hh (B9 h).1.lt, fun _ h => Off.under hh (B10 h).1.lt, E9_10⟩
          · intro b u wI ρ hI hcl hp hk hρ
            obtain ⟨ws, gh1_1, ah0_1, ch0_1, nh0, nh1, hw, hB, V0, V1, V2, V3, V4, V5, V6, V7, V8, V9, V10, V13, T1, O4, B9, B10, D9, D10, E9_10⟩ := hI
            have hp2 : (b 4 && true) = true := hp
            simp only [Bool.and_eq_true, Bool.and_true] at hp2
            have p0 := hp2
            have m6 : b 6 = false := hcl.no (i := 6) rfl (k := 5) (by rfl) hk
            have m7 : b 7 = false := hcl.no (i := 7) rfl (k := 5) (by rfl) hk
            have m8 : b 8 = false := hcl.no (i := 8) rfl (k := 5) (by rfl) hk
            have m11 : b 11 = false := hcl.no (i := 11) rfl (k := 5) (by rfl) hk
            have m12 : b 12 = false := hcl.no (i := 12) rfl (k := 5) (by rfl) hk
            have m13 : b 13 = false := hcl.no (i := 13) rfl (k := 5) (by rfl) hk
            have r101 : ρ (.tmp 101) = .tuple #[.agg #[.int .i64 qa0, .slice ah0_1 qaL1.length ch0_1], .agg #[.int .i64 qb0, .int .i64 qb1, .int .i64 qb2, .int .i64 qb3, .int .i64 qb4, .int .i64 qb5], .bool qc] := (hρ (.tmp 101) (by simp [Op.operands, Call.operands])).trans (V4 p0)
            refine RegFlow.gives_value (v := .tuple #[.agg #[.int .i64 qa0, .slice ah0_1 qaL1.length ch0_1], .agg #[.int .i64 qb0, .int .i64 qb1, .int .i64 qb2, .int .i64 qb3, .int .i64 qb4, .int .i64 qb5], .bool qc]) (w' := wI) (by go_simp) ⟨ws, gh1_1, ah0_1, ch0_1, nh0, nh1, hw, hB, V0, V1, V2, V3, V4, fun _ => rfl, V6, V7, V8, V9, V10, V13, T1, O4, B9, B10, D9, D10, E9_10⟩
          · intro b u wI ρ hI hcl hp hk hρ
            obtain ⟨ws, gh1_1, ah0_1, ch0_1, nh0, nh1, hw, hB, V0, V1, V2, V3, V4, V5, V6, V7, V8, V9, V10, V13, T1, O4, B9, B10, D9, D10, E9_10⟩ := hI
            have hp2 : (b 5 && true) = true := hp
            simp only [Bool.and_eq_true, Bool.and_true] at hp2
            have p0 := hp2
            have m11 : b 11 = false := hcl.no (i := 11) rfl (k := 6) (by rfl) hk
            have m12 : b 12 = false := hcl.no (i := 12) rfl (k := 6) (by rfl) hk
            have m13 : b 13 = false := hcl.no (i := 13) rfl (k := 6) (by rfl) hk
            have r96 : ρ (.tmp 96) = .tuple #[.agg #[.int .i64 qa0, .slice ah0_1 qaL1.length ch0_1], .agg #[.int .i64 qb0, .int .i64 qb1, .int .i64 qb2, .int .i64 qb3, .int .i64 qb4, .int .i64 qb5], .bool qc] := (hρ (.tmp 96) (by simp [Op.operands, Call.operands])).trans (V5 p0)
            refine RegFlow.gives_value (v := .agg #[.int .i64 qa0, .slice ah0_1 qaL1.length ch0_1]) (w' := wI) (by go_simp) ⟨ws, gh1_1, ah0_1, ch0_1, nh0, nh1, hw, hB, V0, V1, V2, V3, V4, V5, fun _ => rfl, V7, V8, V9, V10, V13, T1, O4, B9, B10, D9, D10, E9_10⟩
          · intro b u wI ρ hI hcl hp hk hρ
            obtain ⟨ws, gh1_1, ah0_1, ch0_1, nh0, nh1, hw, hB, V0, V1, V2, V3, V4, V5, V6, V7, V8, V9, V10, V13, T1, O4, B9, B10, D9, D10, E9_10⟩ := hI
            have hp2 : (b 5 && true) = true := hp
            simp only [Bool.and_eq_true, Bool.and_true] at hp2
            have p0 := hp2
            have m12 : b 12 = false := hcl.no (i := 12) rfl (k := 7) (by rfl) hk
            have m13 : b 13 = false := hcl.no (i := 13) rfl (k := 7) (by rfl) hk
            have r96 : ρ (.tmp 96) = .tuple #[.agg #[.int .i64 qa0, .slice ah0_1 qaL1.length ch0_1], .agg #[.int .i64 qb0, .int .i64 qb1, .int .i64 qb2, .int .i64 qb3, .int .i64 qb4, .int .i64 qb5], .bool qc] := (hρ (.tmp 96) (by simp [Op.operands, Call.operands])).trans (V5 p0)
            refine RegFlow.gives_value (v := .agg #[.int .i64 qb0, .int .i64 qb1, .int .i64 qb2, .int .i64 qb3, .int .i64 qb4, .int .i64 qb5]) (w' := wI) (by go_simp) ⟨ws, gh1_1, ah0_1, ch0_1, nh0, nh1, hw, hB, V0, V1, V2, V3, V4, V5, V6, fun _ => rfl, V8, V9, V10, V13, T1, O4, B9, B10, D9, D10, E9_10⟩
          · intro b u wI ρ hI hcl hp hk hρ
            obtain ⟨ws, gh1_1, ah0_1, ch0_1, nh0, nh1, hw, hB, V0, V1, V2, V3, V4, V5, V6, V7, V8, V9, V10, V13, T1, O4, B9, B10, D9, D10, E9_10⟩ := hI
            have hp2 : (b 5 && true) = true := hp
            simp only [Bool.and_eq_true, Bool.and_true] at hp2
            have p0 := hp2
            have m13 : b 13 = false := hcl.no (i := 13) rfl (k := 8) (by rfl) hk
            have r96 : ρ (.tmp 96) = .tuple #[.agg #[.int .i64 qa0, .slice ah0_1 qaL1.length ch0_1], .agg #[.int .i64 qb0, .int .i64 qb1, .int .i64 qb2, .int .i64 qb3, .int .i64 qb4, .int .i64 qb5], .bool qc] := (hρ (.tmp 96) (by simp [Op.operands, Call.operands])).trans (V5 p0)
            refine RegFlow.gives_value (v := .bool qc) (w' := wI) (by go_simp) ⟨ws, gh1_1, ah0_1, ch0_1, nh0, nh1, hw, hB, V0, V1, V2, V3, V4, V5, V6, V7, fun _ => rfl, V9, V10, V13, T1, O4, B9, B10, D9, D10, E9_10⟩
          · intro b u wI ρ hI hcl hp hk hρ
            obtain ⟨ws, gh1_1, ah0_1, ch0_1, nh0, nh1, hw, hB, V0, V1, V2, V3, V4, V5, V6, V7, V8, V9, V10, V13, T1, O4, B9, B10, D9, D10, E9_10⟩ := hI
            have m11 : b 11 = false := hcl.no (i := 11) rfl (k := 9) (by rfl) hk
            have m12 : b 12 = false := hcl.no (i := 12) rfl (k := 9) (by rfl) hk
            have m13 : b 13 = false := hcl.no (i := 13) rfl (k := 9) (by rfl) hk
            rw [FlowHold.stored_no m12, FlowHold.stored_no m11] at hw
            have hw2 := hw.symm
            subst hw2
            refine RegFlow.gives_value (v := .pointer (some ⟨ws.heap.size, 0, none⟩)) (w' := ws.alloc (.cells #[.int .i64 0, .slice none 0 0] 29)) (by go_simp) ⟨ws.alloc (.cells #[.int .i64 0, .slice none 0 0] 29), gh1_1, ah0_1, ch0_1, ws.heap.size, nh1, by rw [FlowHold.stored_no (show RegFlow.setB b 9 12 = false from m12), FlowHold.stored_no (show RegFlow.setB b 9 11 = false from m11)], hB.alloc hB.size _, V0, V1, V2, V3, V4, V5, V6, V7, V8, fun _ => rfl, V10, V13, fun h => (T1 h).below (n1 ws _), fun h => ⟨(O4 h).1, ((O4 h).2).below (n1 ws _)⟩, fun _ => ⟨boxB.new _ _ _, hB.size⟩, fun h => ⟨(B10 h).1.below (n1 ws _), (B10 h).2⟩, fun h _ => Off.above ((O4 h).2) (Nat.le_refl _), D10, fun _ h => Nat.ne_of_gt (B10 h).1.lt⟩
          · intro b u wI ρ hI hcl hp hk hρ
            obtain ⟨ws, gh1_1, ah0_1, ch0_1, nh0, nh1, hw, hB, V0, V1, V2, V3, V4, V5, V6, V7, V8, V9, V10, V13, T1, O4, B9, B10, D9, D10, E9_10⟩ := hI
            have m11 : b 11 = false := hcl.no (i := 11) rfl (k := 10) (by rfl) hk
            have m12 : b 12 = false := hcl.no (i := 12) rfl (k := 10) (by rfl) hk
            have m13 : b 13 = false := hcl.no (i := 13) rfl (k := 10) (by rfl) hk
            rw [FlowHold.stored_no m12, FlowHold.stored_no m11] at hw
            have hw2 := hw.symm
            subst hw2
            refine RegFlow.gives_value (v := .pointer (some ⟨ws.heap.size, 0, none⟩)) (w' := ws.alloc (.cells #[.int .i64 0, .int .i64 0, .int .i64 0, .int .i64 0, .int .i64 0, .int .i64 0] 39)) (by go_simp) ⟨ws.alloc (.cells #[.int .i64 0, .int .i64 0, .int .i64 0, .int .i64 0, .int .i64 0, .int .i64 0] 39), gh1_1, ah0_1, ch0_1, nh0, ws.heap.size, by rw [FlowHold.stored_no (show RegFlow.setB b 10 12 = false from m12), FlowHold.stored_no (show RegFlow.setB b 10 11 = false from m11)], hB.alloc hB.size _, V0, V1, V2, V3, V4, V5, V6, V7, V8, V9, fun _ => rfl, V13, fun h => (T1 h).below (n1 ws _), fun h => ⟨(O4 h).1, ((O4 h).2).below (n1 ws _)⟩, fun h => ⟨(B9 h).1.below (n1 ws _), (B9 h).2⟩, fun _ => ⟨boxB.new _ _ _, hB.size⟩, D9, fun h _ => Off.above ((O4 h).2) (Nat.le_refl _), fun h _ => Nat.ne_of_lt (B9 h).1.lt⟩
          · intro b u wI ρ hI hcl hp hk hρ
            obtain ⟨ws, gh1_1, ah0_1, ch0_1, nh0, nh1, hw, hB, V0, V1, V2, V3, V4, V5, V6, V7, V8, V9, V10, V13, T1, O4, B9, B10, D9, D10, E9_10⟩ := hI
            have hp2 : (b 9 && (b 6 && (b 4 && (b 0 && (b 1 && (b 2 && (b 3 && (b 4 && (b 5 && (b 6 && (b 9 && (b 10 && true)))))))))))) = true := hp
            simp only [Bool.and_eq_true, Bool.and_true] at hp2
            obtain ⟨p0, p1, p2, p3, p4, p5, p6, p7, p8, p9, p10, p11⟩ := hp2
            have m12 : b 12 = false := hcl.no (i := 12) rfl (k := 11) (by rfl) hk
            have m13 : b 13 = false := hcl.no (i := 13) rfl (k := 11) (by rfl) hk
            rw [FlowHold.stored_no m12, FlowHold.stored_no hk] at hw
            have hw2 := hw.symm
            subst hw2
            have r16 : ρ (.tmp 16) = .pointer (some ⟨nh0, 0, none⟩) := (hρ (.tmp 16) (by simp [Op.operands, Call.operands])).trans (V9 p0)
            have r102 : ρ (.tmp 102) = .agg #[.int .i64 qa0, .slice ah0_1 qaL1.length ch0_1] := (hρ (.tmp 102) (by simp [Op.operands, Call.operands])).trans (V6 p1)
            have bx : boxB ws nh0 #[.int .i64 0, .slice none 0 0] 29 := (B9 p0).1
            have c0 := bx.cell 0
            have f0 := fzB bx 0
            have c1 := bx.cell 1
            have f1 := fzB bx 1
            refine RegFlow.gives_skip (w' := sets ws nh0 0 [.int .i64 qa0, .slice ah0_1 qaL1.length ch0_1]) (by go_simp; rfl) ?_
            exact ⟨ws, gh1_1, ah0_1, ch0_1, nh0, nh1, by rw [FlowHold.stored_no (show RegFlow.setB b 11 12 = false from m12), FlowHold.stored_yes (show RegFlow.setB b 11 11 = true from rfl)], hB, V0, V1, V2, V3, V4, V5, V6, V7, V8, V9, V10, V13, T1, O4, B9, B10, D9, D10, E9_10⟩
          · intro b u wI ρ hI hcl hp hk hρ
            obtain ⟨ws, gh1_1, ah0_1, ch0_1, nh0, nh1, hw, hB, V0, V1, V2, V3, V4, V5, V6, V7, V8, V9, V10, V13, T1, O4, B9, B10, D9, D10, E9_10⟩ := hI
            have hp2 : (b 10 && (b 7 && (b 11 && (b 0 && (b 1 && (b 2 && (b 3 && (b 4 && (b 5 && (b 6 && (b 7 && (b 9 && (b 10 && (b 11 && true)))))))))))))) = true := hp
            simp only [Bool.and_eq_true, Bool.and_true] at hp2
            obtain ⟨p0, p1, p2, p3, p4, p5, p6, p7, p8, p9, p10, p11, p12, p13⟩ := hp2
            have m13 : b 13 = false := hcl.no (i := 13) rfl (k := 12) (by rfl) hk
            rw [FlowHold.stored_no hk, FlowHold.stored_yes p2] at hw
            have hw2 := hw.symm
            subst hw2
            have r17 : ρ (.tmp 17) = .pointer (some ⟨nh1, 0, none⟩) := (hρ (.tmp 17) (by simp [Op.operands, Call.operands])).trans (V10 p0)
            have r103 : ρ (.tmp 103) = .agg #[.int .i64 qb0, .int .i64 qb1, .int .i64 qb2, .int .i64 qb3, .int .i64 qb4, .int .i64 qb5] := (hρ (.tmp 103) (by simp [Op.operands, Call.operands])).trans (V7 p1)
            have bx : boxB (sets ws nh0 0 [.int .i64 qa0, .slice ah0_1 qaL1.length ch0_1]) nh1 #[.int .i64 0, .int .i64 0, .int .i64 0, .int .i64 0, .int .i64 0, .int .i64 0] 39 := FlowHold.box_else ((B10 p0).1) (Ne.symm (E9_10 p11 p0)) [.int .i64 qa0, .slice ah0_1 qaL1.length ch0_1]
            generalize hwc : (sets ws nh0 0 [.int .i64 qa0, .slice ah0_1 qaL1.length ch0_1]) = wc at bx ⊢
            have c0 := bx.cell 0
            have f0 := fzB bx 0
            have c1 := bx.cell 1
            have f1 := fzB bx 1
            have c2 := bx.cell 2
            have f2 := fzB bx 2
            have c3 := bx.cell 3
            have f3 := fzB bx 3
            have c4 := bx.cell 4
            have f4 := fzB bx 4
            have c5 := bx.cell 5
            have f5 := fzB bx 5
            refine RegFlow.gives_skip (w' := sets wc nh1 0 [.int .i64 qb0, .int .i64 qb1, .int .i64 qb2, .int .i64 qb3, .int .i64 qb4, .int .i64 qb5]) (by go_simp; rfl) ?_
            subst hwc
            exact ⟨ws, gh1_1, ah0_1, ch0_1, nh0, nh1, by rw [FlowHold.stored_yes (show RegFlow.setB b 12 12 = true from rfl), FlowHold.stored_yes (show RegFlow.setB b 12 11 = true from p2)], hB, V0, V1, V2, V3, V4, V5, V6, V7, V8, V9, V10, V13, T1, O4, B9, B10, D9, D10, E9_10⟩
          · intro b u wI ρ hI hcl hp hk hρ
            obtain ⟨ws, gh1_1, ah0_1, ch0_1, nh0, nh1, hw, hB, V0, V1, V2, V3, V4, V5, V6, V7, V8, V9, V10, V13, T1, O4, B9, B10, D9, D10, E9_10⟩ := hI
            have hp2 : (b 8 && (b 12 && (b 0 && (b 1 && (b 2 && (b 3 && (b 4 && (b 5 && (b 6 && (b 7 && (b 8 && (b 9 && (b 10 && (b 11 && (b 12 && true))))))))))))))) = true := hp
            simp only [Bool.and_eq_true, Bool.and_true] at hp2
            obtain ⟨p0, p1, p2, p3, p4, p5, p6, p7, p8, p9, p10, p11, p12, p13, p14⟩ := hp2
            have r104 : ρ (.tmp 104) = .bool qc := (hρ (.tmp 104) (by simp [Op.operands, Call.operands])).trans (V8 p0)
            refine RegFlow.gives_value (v := .bool qc) (w' := wI) (by go_simp) ⟨ws, gh1_1, ah0_1, ch0_1, nh0, nh1, hw, hB, V0, V1, V2, V3, V4, V5, V6, V7, V8, V9, V10, fun _ => rfl, T1, O4, B9, B10, D9, D10, E9_10⟩
          · intro u wF hI
            obtain ⟨ws, gh1_1, ah0_1, ch0_1, nh0, nh1, hwF, hB, V0, V1, V2, V3, V4, V5, V6, V7, V8, V9, V10, V13, T1, O4, B9, B10, D9, D10, E9_10⟩ := hI
            have hwF2 : wF = (sets (sets ws nh0 0 [.int .i64 qa0, .slice ah0_1 qaL1.length ch0_1]) nh1 0 [.int .i64 qb0, .int .i64 qb1, .int .i64 qb2, .int .i64 qb3, .int .i64 qb4, .int .i64 qb5]) := hwF
            have e0 : u 0 = .agg #[.int .i64 pa0, .slice paA1 paL1.length paC1] := V0 rfl
            have e1 : u 1 = .agg #[.int .i64 pa0, .slice (some ⟨gh1_1, 0, none⟩) paL1.length paL1.length] := V1 rfl
            have e2 : u 2 = .agg #[.int .i64 pb0, .int .i64 pb1, .int .i64 pb2, .int .i64 pb3, .int .i64 pb4, .int .i64 pb5] := V2 rfl
            have e3 : u 3 = .agg #[.int .i64 pb0, .int .i64 pb1, .int .i64 pb2, .int .i64 pb3, .int .i64 pb4, .int .i64 pb5] := V3 rfl
            have e4 : u 4 = .tuple #[.agg #[.int .i64 qa0, .slice ah0_1 qaL1.length ch0_1], .agg #[.int .i64 qb0, .int .i64 qb1, .int .i64 qb2, .int .i64 qb3, .int .i64 qb4, .int .i64 qb5], .bool qc] := V4 rfl
            have e5 : u 5 = .tuple #[.agg #[.int .i64 qa0, .slice ah0_1 qaL1.length ch0_1], .agg #[.int .i64 qb0, .int .i64 qb1, .int .i64 qb2, .int .i64 qb3, .int .i64 qb4, .int .i64 qb5], .bool qc] := V5 rfl
            have e6 : u 6 = .agg #[.int .i64 qa0, .slice ah0_1 qaL1.length ch0_1] := V6 rfl
            have e7 : u 7 = .agg #[.int .i64 qb0, .int .i64 qb1, .int .i64 qb2, .int .i64 qb3, .int .i64 qb4, .int .i64 qb5] := V7 rfl
            have e8 : u 8 = .bool qc := V8 rfl
            have e9 : u 9 = .pointer (some ⟨nh0, 0, none⟩) := V9 rfl
            have e10 : u 10 = .pointer (some ⟨nh1, 0, none⟩) := V10 rfl
            have e13 : u 13 = .bool qc := V13 rfl
            have O := O4 rfl
            have X9 := B9 rfl
            have Y9 := D9 rfl rfl
            have X10 := B10 rfl
            have Y10 := D10 rfl rfl
            have ZE9_10 := E9_10 rfl rfl
            have HBF : Below w14.heap.size w14 wF := by rw [hwF2]; exact FlowHold.bel_sets (FlowHold.bel_sets (hB) X9.2 _) X10.2 _
            have OF : Holds wF w14.heap.size [⟨ah0_1, 39, 6, (qaL1).map ReqKit.cells⟩] := by rw [hwF2]; exact FlowHold.hold_else (FlowHold.hold_else (O.2) Y9 _) Y10 _
            have BF0 : boxB wF (nh0) #[.int .i64 qa0, .slice ah0_1 qaL1.length ch0_1] 29 := by rw [hwF2]; exact FlowHold.box_else (FlowHold.box_stored (X9.1) _ rfl) ZE9_10 _
            have BF1 : boxB wF (nh1) #[.int .i64 qb0, .int .i64 qb1, .int .i64 qb2, .int .i64 qb3, .int .i64 qb4, .int .i64 qb5] 39 := by rw [hwF2]; exact FlowHold.box_stored (FlowHold.box_else (X10.1) (Ne.symm ZE9_10) _) _ rfl
            have HSF : wF.heap.size = ws.heap.size := by rw [hwF2]; simp only [FlowHold.sets_size]
            have LW_h : Hid (W.heap.size ≤ w14.heap.size) := (H13.out.1).size
            have O21_ : Hid (Off nh0 [⟨aw0_1, 39, 6, (qaL1).map ReqKit.cells⟩]) := Off.above (H13.out.2.2.2.1) X9.2
            have O22_ : Hid (Off nh0 [⟨ag0_1, 39, 6, ((ReqRows.marks (1) qaL1.length)).map ReqKit.cells⟩]) := Off.above (H13.out.2.2.2.2.2.2.2.2) X9.2
            have O23_ : Hid (Off nh0 [⟨ah0_1, 39, 6, (qaL1).map ReqKit.cells⟩]) := Y9
            have O24_ : Hid (Off nh1 [⟨aw0_1, 39, 6, (qaL1).map ReqKit.cells⟩]) := Off.above (H13.out.2.2.2.1) X10.2
            have O25_ : Hid (Off nh1 [⟨ag0_1, 39, 6, ((ReqRows.marks (1) qaL1.length)).map ReqKit.cells⟩]) := Off.above (H13.out.2.2.2.2.2.2.2.2) X10.2
            have O26_ : Hid (Off nh1 [⟨ah0_1, 39, 6, (qaL1).map ReqKit.cells⟩]) := Y10
            have O27_ : Hid (Off (W.heap.size) [⟨ah0_1, 39, 6, (qaL1).map ReqKit.cells⟩]) := Off.under OF (H13.out.2.1).lt
            have O28_ : Hid (Off (W.heap.size + 1) [⟨ah0_1, 39, 6, (qaL1).map ReqKit.cells⟩]) := Off.under OF (H13.out.2.2.1).lt
            have Q3_ : Hid (Apart [⟨aw0_1, 39, 6, (qaL1).map ReqKit.cells⟩] [⟨ah0_1, 39, 6, (qaL1).map ReqKit.cells⟩]) := Apart.under (H13.out.2.2.2.1) OF (Nat.le_refl _)
            have O29_ : Hid (Off (nw0) [⟨ah0_1, 39, 6, (qaL1).map ReqKit.cells⟩]) := Off.under OF (H13.out.2.2.2.2.1).lt
            have O30_ : Hid (Off (nw1) [⟨ah0_1, 39, 6, (qaL1).map ReqKit.cells⟩]) := Off.under OF (H13.out.2.2.2.2.2.1).lt
            have O31_ : Hid (Off (ng0) [⟨ah0_1, 39, 6, (qaL1).map ReqKit.cells⟩]) := Off.under OF (H13.out.2.2.2.2.2.2.1).lt
            have O32_ : Hid (Off (ng1) [⟨ah0_1, 39, 6, (qaL1).map ReqKit.cells⟩]) := Off.under OF (H13.out.2.2.2.2.2.2.2.1).lt
            have Q4_ : Hid (Apart [⟨ag0_1, 39, 6, ((ReqRows.marks (1) qaL1.length)).map ReqKit.cells⟩] [⟨ah0_1, 39, 6, (qaL1).map ReqKit.cells⟩]) := Apart.under (H13.out.2.2.2.2.2.2.2.2) OF (Nat.le_refl _)
            have H14 : Hid (Bel W wF ∧ boxB wF (W.heap.size) #[.int .i64 pa0, .slice paA1 paL1.length paC1] 24 ∧ boxB wF (W.heap.size + 1) #[.int .i64 pb0, .int .i64 pb1, .int .i64 pb2, .int .i64 pb3, .int .i64 pb4, .int .i64 pb5] 38 ∧ Holds wF (w1.heap.size) [⟨aw0_1, 39, 6, (qaL1).map ReqKit.cells⟩] ∧ boxB wF (nw0) #[.int .i64 qa0, .slice aw0_1 qaL1.length cw0_1] 29 ∧ boxB wF (nw1) #[.int .i64 qb0, .int .i64 qb1, .int .i64 qb2, .int .i64 qb3, .int .i64 qb4, .int .i64 qb5] 39 ∧ boxB wF (ng0) #[.int .i64 qa0, .slice ag0_1 qaL1.length cg0_1] 29 ∧ boxB wF (ng1) #[.int .i64 qb0, .int .i64 qb1, .int .i64 qb2, .int .i64 qb3, .int .i64 qb4, .int .i64 qb5] 39 ∧ Holds wF (v4.heap.size) [⟨ag0_1, 39, 6, ((ReqRows.marks (1) qaL1.length)).map ReqKit.cells⟩] ∧ Holds wF (w14.heap.size) [⟨ah0_1, 39, 6, (qaL1).map ReqKit.cells⟩] ∧ boxB wF (nh0) #[.int .i64 qa0, .slice ah0_1 qaL1.length ch0_1] 29 ∧ boxB wF (nh1) #[.int .i64 qb0, .int .i64 qb1, .int .i64 qb2, .int .i64 qb3, .int .i64 qb4, .int .i64 qb5] 39) := ⟨(H13.out.1).below HBF, (H13.out.2.1).below HBF, (H13.out.2.2.1).below HBF, (H13.out.2.2.2.1).below HBF, (H13.out.2.2.2.2.1).below HBF, (H13.out.2.2.2.2.2.1).below HBF, (H13.out.2.2.2.2.2.2.1).below HBF, (H13.out.2.2.2.2.2.2.2.1).below HBF, (H13.out.2.2.2.2.2.2.2.2).below HBF, OF, BF0, BF1⟩
            simp only [RegFlow.fin, Act.put, e0, e1, e2, e3, e4, e5, e6, e7, e8, e9, e10, e13]
            clear e0 e1 e2 e3 e4 e5 e6 e7 e8 e9 e10 e13 V0 V1 V2 V3 V4 V5 V6 V7 V8 V9 V10 V13 T1 O4 B9 B10 D9 D10 E9_10 O X9 Y9 X10 Y10 ZE9_10 HBF HSF hwF2 hwF hB OF BF0 BF1 H13 u
            obtain ⟨w15, rfl⟩ : ∃ v, v = wF := ⟨_, rfl⟩
            have d0 := (H14.out.2.2.2.2.2.2.2.2.2.2.1).cell 0
            have d1 := (H14.out.2.2.2.2.2.2.2.2.2.2.1).cell 1
            have e0 := (H14.out.2.2.2.2.1).cell 0
            have e1 := (H14.out.2.2.2.2.1).cell 1
            go_wp2_with fail
            refine (LawQueue.eq_queue qa0 ah0_1 ch0_1 qaL1 aw0_1 cw0_1 _ (H14.out.2.2.2.2.2.2.2.2.2.1.get (by simp)) (H14.out.2.2.2.1.get (by simp)) HL_qaL1.out).mono ?_
            rintro e w16 ⟨rfl, b16⟩
            have H15 : Hid (Bel W w16 ∧ boxB w16 (W.heap.size) #[.int .i64 pa0, .slice paA1 paL1.length paC1] 24 ∧ boxB w16 (W.heap.size + 1) #[.int .i64 pb0, .int .i64 pb1, .int .i64 pb2, .int .i64 pb3, .int .i64 pb4, .int .i64 pb5] 38 ∧ Holds w16 (w1.heap.size) [⟨aw0_1, 39, 6, (qaL1).map ReqKit.cells⟩] ∧ boxB w16 (nw0) #[.int .i64 qa0, .slice aw0_1 qaL1.length cw0_1] 29 ∧ boxB w16 (nw1) #[.int .i64 qb0, .int .i64 qb1, .int .i64 qb2, .int .i64 qb3, .int .i64 qb4, .int .i64 qb5] 39 ∧ boxB w16 (ng0) #[.int .i64 qa0, .slice ag0_1 qaL1.length cg0_1] 29 ∧ boxB w16 (ng1) #[.int .i64 qb0, .int .i64 qb1, .int .i64 qb2, .int .i64 qb3, .int .i64 qb4, .int .i64 qb5] 39 ∧ Holds w16 (v4.heap.size) [⟨ag0_1, 39, 6, ((ReqRows.marks (1) qaL1.length)).map ReqKit.cells⟩] ∧ Holds w16 (w14.heap.size) [⟨ah0_1, 39, 6, (qaL1).map ReqKit.cells⟩] ∧ boxB w16 (nh0) #[.int .i64 qa0, .slice ah0_1 qaL1.length ch0_1] 29 ∧ boxB w16 (nh1) #[.int .i64 qb0, .int .i64 qb1, .int .i64 qb2, .int .i64 qb3, .int .i64 qb4, .int .i64 qb5] 39) := ⟨(H14.out.1).below b16, (H14.out.2.1).below b16, (H14.out.2.2.1).below b16, (H14.out.2.2.2.1).below b16, (H14.out.2.2.2.2.1).below b16, (H14.out.2.2.2.2.2.1).below b16, (H14.out.2.2.2.2.2.2.1).below b16, (H14.out.2.2.2.2.2.2.2.1).below b16, (H14.out.2.2.2.2.2.2.2.2.1).below b16, (H14.out.2.2.2.2.2.2.2.2.2.1).below b16, (H14.out.2.2.2.2.2.2.2.2.2.2.1).below b16, (H14.out.2.2.2.2.2.2.2.2.2.2.2).below b16⟩
            clear d0 d1 e0 e1 b16 H14
            have d0 := (H15.out.2.2.2.2.2.2.2.2.2.2.2).cell 0
            have d1 := (H15.out.2.2.2.2.2.2.2.2.2.2.2).cell 1
            have d2 := (H15.out.2.2.2.2.2.2.2.2.2.2.2).cell 2
            have d3 := (H15.out.2.2.2.2.2.2.2.2.2.2.2).cell 3
            have d4 := (H15.out.2.2.2.2.2.2.2.2.2.2.2).cell 4
            have d5 := (H15.out.2.2.2.2.2.2.2.2.2.2.2).cell 5
            have e0 := (H15.out.2.2.2.2.2.1).cell 0
            have e1 := (H15.out.2.2.2.2.2.1).cell 1
            have e2 := (H15.out.2.2.2.2.2.1).cell 2
            have e3 := (H15.out.2.2.2.2.2.1).cell 3
            have e4 := (H15.out.2.2.2.2.2.1).cell 4
            have e5 := (H15.out.2.2.2.2.2.1).cell 5
            go_wp2_with fail
            refine (FlatReq.eq_one qb0 qb1 qb2 qb3 qb4 qb5 _).mono ?_
            rintro e w17 ⟨rfl, b17⟩
            have H16 : Hid (Bel W w17 ∧ boxB w17 (W.heap.size) #[.int .i64 pa0, .slice paA1 paL1.length paC1] 24 ∧ boxB w17 (W.heap.size + 1) #[.int .i64 pb0, .int .i64 pb1, .int .i64 pb2, .int .i64 pb3, .int .i64 pb4, .int .i64 pb5] 38 ∧ Holds w17 (w1.heap.size) [⟨aw0_1, 39, 6, (qaL1).map ReqKit.cells⟩] ∧ boxB w17 (nw0) #[.int .i64 qa0, .slice aw0_1 qaL1.length cw0_1] 29 ∧ boxB w17 (nw1) #[.int .i64 qb0, .int .i64 qb1, .int .i64 qb2, .int .i64 qb3, .int .i64 qb4, .int .i64 qb5] 39 ∧ boxB w17 (ng0) #[.int .i64 qa0, .slice ag0_1 qaL1.length cg0_1] 29 ∧ boxB w17 (ng1) #[.int .i64 qb0, .int .i64 qb1, .int .i64 qb2, .int .i64 qb3, .int .i64 qb4, .int .i64 qb5] 39 ∧ Holds w17 (v4.heap.size) [⟨ag0_1, 39, 6, ((ReqRows.marks (1) qaL1.length)).map ReqKit.cells⟩] ∧ Holds w17 (w14.heap.size) [⟨ah0_1, 39, 6, (qaL1).map ReqKit.cells⟩] ∧ boxB w17 (nh0) #[.int .i64 qa0, .slice ah0_1 qaL1.length ch0_1] 29 ∧ boxB w17 (nh1) #[.int .i64 qb0, .int .i64 qb1, .int .i64 qb2, .int .i64 qb3, .int .i64 qb4, .int .i64 qb5] 39) := ⟨(H15.out.1).below b17, (H15.out.2.1).below b17, (H15.out.2.2.1).below b17, (H15.out.2.2.2.1).below b17, (H15.out.2.2.2.2.1).below b17, (H15.out.2.2.2.2.2.1).below b17, (H15.out.2.2.2.2.2.2.1).below b17, (H15.out.2.2.2.2.2.2.2.1).below b17, (H15.out.2.2.2.2.2.2.2.2.1).below b17, (H15.out.2.2.2.2.2.2.2.2.2.1).below b17, (H15.out.2.2.2.2.2.2.2.2.2.2.1).below b17, (H15.out.2.2.2.2.2.2.2.2.2.2.2).below b17⟩
            clear d0 d1 d2 d3 d4 d5 e0 e1 e2 e3 e4 e5 b17 H15
            have z0 := (H16.out.2.2.2.2.2.2.1).cell 0
            have z1 := (H16.out.2.2.2.2.2.2.1).cell 1
            go_wp2_with fail
            refine (LawQueue.held_queue qa0 ag0_1 cg0_1 qaL1 (1) _ _ _ (H16.out.2.2.2.2.2.2.2.2.1) HL_qaL1.out (by have := HL_paL1.out; have := HL_qaL1.out; omega) (by first | rfl | omega)).mono ?_
            rintro e w18 ⟨rfl, b18⟩
            have H17 : Hid (Bel W w18 ∧ boxB w18 (W.heap.size) #[.int .i64 pa0, .slice paA1 paL1.length paC1] 24 ∧ boxB w18 (W.heap.size + 1) #[.int .i64 pb0, .int .i64 pb1, .int .i64 pb2, .int .i64 pb3, .int .i64 pb4, .int .i64 pb5] 38 ∧ Holds w18 (w1.heap.size) [⟨aw0_1, 39, 6, (qaL1).map ReqKit.cells⟩] ∧ boxB w18 (nw0) #[.int .i64 qa0, .slice aw0_1 qaL1.length cw0_1] 29 ∧ boxB w18 (nw1) #[.int .i64 qb0, .int .i64 qb1, .int .i64 qb2, .int .i64 qb3, .int .i64 qb4, .int .i64 qb5] 39 ∧ boxB w18 (ng0) #[.int .i64 qa0, .slice ag0_1 qaL1.length cg0_1] 29 ∧ boxB w18 (ng1) #[.int .i64 qb0, .int .i64 qb1, .int .i64 qb2, .int .i64 qb3, .int .i64 qb4, .int .i64 qb5] 39 ∧ Holds w18 (v4.heap.size) [⟨ag0_1, 39, 6, ((ReqRows.marks (1) qaL1.length)).map ReqKit.cells⟩] ∧ Holds w18 (w14.heap.size) [⟨ah0_1, 39, 6, (qaL1).map ReqKit.cells⟩] ∧ boxB w18 (nh0) #[.int .i64 qa0, .slice ah0_1 qaL1.length ch0_1] 29 ∧ boxB w18 (nh1) #[.int .i64 qb0, .int .i64 qb1, .int .i64 qb2, .int .i64 qb3, .int .i64 qb4, .int .i64 qb5] 39) := ⟨(H16.out.1).below b18, (H16.out.2.1).below b18, (H16.out.2.2.1).below b18, (H16.out.2.2.2.1).below b18, (H16.out.2.2.2.2.1).below b18, (H16.out.2.2.2.2.2.1).below b18, (H16.out.2.2.2.2.2.2.1).below b18, (H16.out.2.2.2.2.2.2.2.1).below b18, (H16.out.2.2.2.2.2.2.2.2.1).below b18, (H16.out.2.2.2.2.2.2.2.2.2.1).below b18, (H16.out.2.2.2.2.2.2.2.2.2.2.1).below b18, (H16.out.2.2.2.2.2.2.2.2.2.2.2).below b18⟩
            clear z0 z1 b18 H16
            go_wp2
            go_ret
            exact ⟨rfl, (H17.out.1).out⟩
  · skip
    have b0 : Below W.heap.size W ((W.alloc (.cells #[.int .i64 pa0, .slice paA1 paL1.length paC1] 24)).alloc (.cells #[.int .i64 pb0, .int .i64 pb1, .int .i64 pb2, .int .i64 pb3, .int .i64 pb4, .int .i64 pb5] 38)) := n2 W _ _
    go_enter Try.func5, Try.ntmps5
    go_wp2_with fail
    refine (LawQueue.sz_queue pa0 paA1 paC1 paL1.length (1048576) _ hm_pa1 (by omega) (by omega)).mono ?_
    rintro e z1 ⟨rfl, y1⟩
    rw [if_neg (by omega)]
    have B1 : Hid (Below W.heap.size W z1) := b0.trans (y1.mono b0.size)
    clear y1
    go_wp2
    go_ret
    exact ⟨rfl, B1.out⟩

theorem own : ownKnob Try.prog.godebug = none := by kernel_rfl
theorem laidOut : laidOutB Try.prog = true := by kernel_rfl

set_option maxRecDepth 100000 in
theorem lifted (os : Os) (started : os.Started) (H : Type) (enc : TypeId × Value → H) :
    ReturnsInHanded {} Try.checked os 5 .any (Rows.fnExactOfferSpec.pre6 enc Try.prog Try.f5 Rows.fnExactOfferRow.domain false) (Rows.fnExactOfferSpec.post enc Try.prog Try.f5 false true false false) := by
  refine returnsInHanded_of_change (C := Try.checked) own started (by kernel_rfl) Try.func5
    (ChangeSpec.witness6 (enc := enc) (C := Try.checked) false ⟨#[], #[.agg #[.int .i64 0, .slice none 0 0], .agg #[.int .i64 0, .int .i64 0, .int .i64 0, .int .i64 0, .int .i64 0, .int .i64 0]], []⟩ 8 (by kernel_rfl) (by kernel_rfl) (by kernel_rfl) (by kernel_rfl)) ?_
  intro W base args ds gs before hval0 hW hcnd _
  have hval : ∀ (j : Nat) t v, Try.f5.params[j]? = some t → args[j]? = some v → Value.okWide Try.prog W .any base t v := hval0
  have hW' := hW
  obtain ⟨p, q, hA0, hV, rfl, hfz, hnd⟩ := hW
  have hA : DataW.TrodAll enc Try.prog W 0 (fun _ => true) true Try.f5.params.toList args.toList ds p := hA0
  rw [Try.params5] at hA hval
  obtain ⟨v0, vs0, d0, ds0, p0, q0, hargs, rfl, rfl, h0, r0⟩ := trodAll_cons hA
  obtain ⟨v1, vs1, d1, ds1, p1, q1, rfl, rfl, rfl, h1, r1⟩ := trodAll_cons r0
  obtain ⟨rfl, rfl, rfl⟩ := trodAll_nil r1
  obtain rfl : args = #[v0, v1] := by cases args; simp_all
  obtain ⟨rfl, rfl⟩ := trodVars_none hV
  have k0_ := h0
  have lt0 : ∀ x ∈ p0, x.block < W.heap.size := by obtain ⟨m, hm⟩ := k0_; exact DataW.trod_lt m _ _ _ hm
  obtain ⟨x0_0, aL0_1, cL0_1, L0_1, rfl, hL0_1, mL0_1⟩ := OpenQueue.open_queue (hval 0 24 v0 rfl rfl) h0
  have k1_ := h1
  have lt1 : ∀ x ∈ p1, x.block < W.heap.size := by obtain ⟨m, hm⟩ := k1_; exact DataW.trod_lt m _ _ _ hm
  obtain ⟨x1_0, x1_1, x1_2, x1_3, x1_4, x1_5, rfl⟩ := OpenReq.open_req (hval 1 38 v1 rfl rfl) h1
  clear hA0 hval0
  refine (walk W x0_0 aL0_1 cL0_1 L0_1 hL0_1 mL0_1 x1_0 x1_1 x1_2 x1_3 x1_4 x1_5).mono fun e W' ⟨he, hb⟩ => ?_
  subst he
  exact ⟨_, rfl, _, _, _, [], _, [], hW', trodAll_cons_mk (shut_bool Try.underlying4 _) trodAll_mk0, (trodAll_cons_mk (Below.trod laidOut (by kernel_rfl) (of_decide_eq_true (by kernel_rfl)) k0_ hb lt0) (trodAll_cons_mk (Below.trod laidOut (by kernel_rfl) (of_decide_eq_true (by kernel_rfl)) k1_ hb lt1) trodAll_mk0)), rfl, hb.frame _, fun h => by cases h⟩

theorem over : Rows.fnExactOfferRow.holds Try.pinned (OpenSpec.ofChange Rows.fnExactOfferSpec) :=
  OpenClaim.holds_of_wide 5 Try.f5 rfl rfl rfl rfl rfl rfl rfl ⟨rfl, rfl, rfl, rfl, rfl⟩ rfl rfl rfl rfl rfl (by kernel_rfl) Try.func5 (by kernel_rfl)
    (of_decide_eq_true (by kernel_rfl)) (by unfold Func.isWrapper; first | (rw [if_pos (by decide +kernel)]; kernel_rfl) | (rw [if_neg (by decide +kernel)]; exact ⟨rfl, rfl⟩))
    (fun os started H enc _ => lifted os started H enc)

theorem proved : Rows.FnExactOfferSaid :=
  over
end Go.Proofs.Ytiodnkehfeigoaa.fnExactOffer
