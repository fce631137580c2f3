/- At every ledger and permit the program's Release answers as the model's, its answer owns its memory, and it writes into no argument (the law FnExactRelease returns true); no condition. -/
import Derived.Test.YtdmjffkcjkcdnaaDoorRows
import Derived.WalkKit
import Derived.WalkSmall
import Derived.BigQuiet
import Derived.ProofKit
import Derived.OpenShut
import Derived.Deep.RegionWith
import Derived.OpenVars
import Derived.LaidLaws
import Derived.Stop.LaidErr
import Derived.Stop.LaidTwo
import Derived.SevenTiedAt
import Derived.Lay
import Derived.HandedShaped
import Derived.Stop.Joined
import Derived.Deep.DeepCutAuto
import Derived.Test.YtdmjffkcjkcdnaaDoorListKit
import Derived.Test.YtdmjffkcjkcdnaaDoorSlotKit
import Derived.Test.YtdmjffkcjkcdnaaDoorSlotRows
import Derived.Test.YtdmjffkcjkcdnaaDoorLedgerKit
import Derived.Test.YtdmjffkcjkcdnaaDoorOpenKit
import Derived.Test.YtdmjffkcjkcdnaaDoorOpenLedger
import Derived.Test.YtdmjffkcjkcdnaaDoorLedBox
import Derived.Test.YtdmjffkcjkcdnaaDoorBoxKit
import Derived.Test.YtdmjffkcjkcdnaaDoorLedGrant
import Derived.Test.YtdmjffkcjkcdnaaDoorRegFlow
import Derived.Test.YtdmjffkcjkcdnaaDoorFlowKit
import Derived.Test.YtdmjffkcjkcdnaaDoorOpenPermit
import Derived.Test.YtdmjffkcjkcdnaaDoorLedHeld
import Derived.Test.YtdmjffkcjkcdnaaDoorLedRel
import Derived.Test.YtdmjffkcjkcdnaaDoorLedBothR
import Derived.Test.YtdmjffkcjkcdnaaDoorTie
import Derived.Test.YtdmjffkcjkcdnaaDoorCards
namespace Go.Proofs.YtdmjffkcjkcdnaaDoor.fnExactRelease
open Go.ChangeShapes Go.WideShapes Go.ChangeAt Go.RowKit ListKit SlotKit SlotRows LedgerKit LedBox BoxKit LedGrant LedHeld LedRel LedBothR
set_option linter.unusedVariables false
set_option linter.unusedSimpArgs false
set_option maxRecDepth 8000

set_option maxHeartbeats 8000000 in
theorem walk (W : World) (a : Option Addr) (c : Nat) (L : List Slot) (h : SlotRows.Arg W a L) (m : L.length ≤ maxLen) (x y : Int) (p q : Addr) (HE : Hid (Errs W p q)) :
    Calls Tryd.prog 3 #[.agg #[.slice a L.length c], .agg #[.int .i64 x, .int .i64 y]] W fun e w' => e = .returned (.bool true) ∧ Below W.heap.size W w' := by
  have hm : (L.length : Int) ≤ 9223372036854775807 := by unfold maxLen at m; omega
  have HS := sz_ledger a c L.length ((W.alloc (.cells #[.slice a L.length c] 24)).alloc (.cells #[.int .i64 x, .int .i64 y] 26)) hm
  have b0 : Hid (Below W.heap.size W ((W.alloc (.cells #[.slice a L.length c] 24)).alloc (.cells #[.int .i64 x, .int .i64 y] 26))) := n2 W _ _
  by_cases hl : (L.length : Int) ≤ 1048576
  · rw [if_pos hl] at HS
    have h0 : ¬ (1048576 - (L.length : Int)) < 0 := by omega
    obtain ⟨L2, ⟨s0, s1, s2, s3, s4⟩, B, HSP0, HIM0, hpl⟩ := both_release L x y p q (by omega)
    have HSP := fun W a c (h : Own 32 5 cells W a L) (hc : L.length ≤ c) => HSP0 a c W h hc
    have HIM := fun W a c (h : Own 32 5 cells W a L) (hc : L.length ≤ c) (he : Errs W p q) => HIM0 a c W h hc he
    have HPL : Hid (L2.length ≤ 1048577) := hpl
    have kp : ¬ (1 + 5 * (L2.length : Int)) < 0 := by omega
    have kk : ((1 + 5 * (L2.length : Int)) != (1 + 5 * (L2.length : Int))) = false := by simp
    have hBB : (B != B) = false := by simp
    clear HSP0 HIM0 hpl
    have HA : Hid (SlotRows.Arg W a L) := h
    have HL : Hid (L.length ≤ 1048577) := by show _ ≤ _; omega
    have kx : ¬ (1 + 5 * (L.length : Int)) < 0 := by omega
    have HX : Hid (Bel W ((W.alloc (.cells #[.slice a L.length c] 24)).alloc (.cells #[.int .i64 x, .int .i64 y] 26)) ∧ boxB ((W.alloc (.cells #[.slice a L.length c] 24)).alloc (.cells #[.int .i64 x, .int .i64 y] 26)) W.heap.size #[.slice a L.length c] 24 ∧ boxB ((W.alloc (.cells #[.slice a L.length c] 24)).alloc (.cells #[.int .i64 x, .int .i64 y] 26)) (W.heap.size + 1) #[.int .i64 x, .int .i64 y] 26) := ⟨b0.out, (boxB.new _ _ _).below (n1 _ _), new2 _ _ _ _⟩
    have HXS : Hid (((W.alloc (.cells #[.slice a L.length c] 24)).alloc (.cells #[.int .i64 x, .int .i64 y] 26)).heap.size = W.heap.size + 1 + 1) := sz2 W _ _
    clear b0 h m hm hl
    go_enter Tryd.func3, Tryd.ntmps3
    go_upto_region 5 with (go_at_call 4; refine HS.mono ?_; rintro e w1 ⟨rfl, hb⟩; have H1 : Hid (Bel W w1 ∧ boxB w1 W.heap.size #[.slice a L.length c] 24 ∧ boxB w1 (W.heap.size + 1) #[.int .i64 x, .int .i64 y] 26) := ⟨HX.out.1.below hb, HX.out.2.1.below hb, HX.out.2.2.below hb⟩; have HZ1 : Hid (W.heap.size + 1 + 1 ≤ w1.heap.size) := (by have h9 := hb.size; rw [HXS.out] at h9; exact h9); clear hb HS HX HXS)
    refine RegFlow.wp_region_flow (fun b u wI => ∃ (ws : World) (gw1 : Nat) (aw : Option Addr) (cw_ : Nat) (nw0 : Nat) (nw1 : Nat), wI = (FlowKit.Stored (b 12) (FlowKit.Stored (b 11) ws nw0 [.slice aw L2.length cw_]) nw1 [.int .i64 s0, .bool s1, .int .i64 s2, .int .i64 s3, .int .i64 s4]) ∧ Below w1.heap.size w1 ws ∧ (b 0 = true → u 0 = .agg #[.slice a L.length c]) ∧ (b 1 = true → u 1 = .agg #[.slice (some ⟨gw1, 0, none⟩) L.length L.length]) ∧ (b 2 = true → u 2 = .agg #[.int .i64 x, .int .i64 y]) ∧ (b 3 = true → u 3 = .agg #[.int .i64 x, .int .i64 y]) ∧ (b 4 = true → u 4 = .tuple #[.agg #[.slice aw L2.length cw_], .agg #[.int .i64 s0, .bool s1, .int .i64 s2, .int .i64 s3, .int .i64 s4], .bool B]) ∧ (b 5 = true → u 5 = .tuple #[.agg #[.slice aw L2.length cw_], .agg #[.int .i64 s0, .bool s1, .int .i64 s2, .int .i64 s3, .int .i64 s4], .bool B]) ∧ (b 6 = true → u 6 = .agg #[.slice aw L2.length cw_]) ∧ (b 7 = true → u 7 = .agg #[.int .i64 s0, .bool s1, .int .i64 s2, .int .i64 s3, .int .i64 s4]) ∧ (b 8 = true → u 8 = .bool B) ∧ (b 9 = true → u 9 = .pointer (some ⟨nw0, 0, none⟩)) ∧ (b 10 = true → u 10 = .pointer (some ⟨nw1, 0, none⟩)) ∧ (b 13 = true → u 13 = .bool B) ∧ (b 1 = true → Row 32 5 cells ws gw1 0 L) ∧ (b 4 = true → Own 32 5 cells ws aw L2 ∧ (∀ x, blkL aw L2 = some x → w1.heap.size ≤ x)) ∧ (b 9 = true → boxB ws nw0 #[.slice none 0 0] 30 ∧ w1.heap.size ≤ nw0) ∧ (b 10 = true → boxB ws nw1 #[.int .i64 0, .bool false, .int .i64 0, .int .i64 0, .int .i64 0] 32 ∧ w1.heap.size ≤ nw1) ∧ (b 4 = true → b 9 = true → ∀ x, blkL aw L2 = some x → x ≠ nw0) ∧ (b 4 = true → b 10 = true → ∀ x, blkL aw L2 = some x → x ≠ nw1) ∧ (b 9 = true → b 10 = true → nw0 ≠ nw1)) (by kernel_rfl) (by kernel_rfl) (by rfl) ⟨w1.drew, 0, none, 0, 0, 0, rfl, (Below.refl _ _).drew, fun h => FlowKit.no_way rfl h, fun h => FlowKit.no_way rfl h, fun h => FlowKit.no_way rfl h, fun h => FlowKit.no_way rfl h, fun h => FlowKit.no_way rfl h, fun h => FlowKit.no_way rfl h, fun h => FlowKit.no_way rfl h, fun h => FlowKit.no_way rfl h, fun h => FlowKit.no_way rfl h, fun h => FlowKit.no_way rfl h, fun h => FlowKit.no_way rfl h, fun h => FlowKit.no_way rfl h, fun h => FlowKit.no_way rfl h, fun h => FlowKit.no_way rfl h, fun h => FlowKit.no_way rfl h, fun h => FlowKit.no_way rfl h, fun h => FlowKit.no_way rfl h, fun h => FlowKit.no_way rfl h, fun h => FlowKit.no_way rfl h⟩ ⟨?_, ?_, ?_, ?_, ?_, ?_, ?_, ?_, ?_, ?_, ?_, ?_, ?_, ?_, trivial⟩ ?_
    · intro b u wI ρ hI hcl hp hk hρ
      obtain ⟨ws, gw1, aw, cw_, nw0, nw1, hw, hB, V0, V1, V2, V3, V4, V5, V6, V7, V8, V9, V10, V13, R1, O4, B9, B10, D9, D10, E9_10⟩ := hI
      have m1 : b 1 = false := hcl.no (i := 1) rfl (k := 0) (by rfl) hk
      have m3 : b 3 = false := hcl.no (i := 3) rfl (k := 1) (by rfl) m1
      have m4 : b 4 = false := hcl.no (i := 4) rfl (k := 1) (by rfl) m1
      have m5 : b 5 = false := hcl.no (i := 5) rfl (k := 4) (by rfl) m4
      have m6 : b 6 = false := hcl.no (i := 6) rfl (k := 5) (by rfl) m5
      have m7 : b 7 = false := hcl.no (i := 7) rfl (k := 5) (by rfl) m5
      have m8 : b 8 = false := hcl.no (i := 8) rfl (k := 5) (by rfl) m5
      have m11 : b 11 = false := hcl.no (i := 11) rfl (k := 0) (by rfl) hk
      have m12 : b 12 = false := hcl.no (i := 12) rfl (k := 0) (by rfl) hk
      have m13 : b 13 = false := hcl.no (i := 13) rfl (k := 0) (by rfl) hk
      rw [FlowKit.stored_no m12, FlowKit.stored_no m11] at hw
      have hw2 := hw.symm
      subst hw2
      have r2 : ρ (.tmp 2) = .pointer (some ⟨W.heap.size, 0, none⟩) := hρ (.tmp 2) (by simp [Op.operands, Call.operands])
      have c0 := (H1.out.2.1.below hB).cell 0
      refine RegFlow.gives_value (v := .agg #[.slice a L.length c]) (w' := ws) (by go_simp) ⟨ws, gw1, aw, cw_, nw0, nw1, by rw [FlowKit.stored_no (show RegFlow.setB b 0 12 = false from m12), FlowKit.stored_no (show RegFlow.setB b 0 11 = false from m11)], hB, fun _ => rfl, V1, V2, V3, V4, V5, V6, V7, V8, V9, V10, V13, R1, O4, B9, B10, D9, D10, E9_10⟩
    · intro b u wI ρ hI hcl hp hk hρ
      obtain ⟨ws, gw1, aw, cw_, nw0, nw1, hw, hB, V0, V1, V2, V3, V4, V5, V6, V7, V8, V9, V10, V13, R1, O4, B9, B10, D9, D10, E9_10⟩ := hI
      have hp2 : (b 0 && true) = true := hp
      simp only [Bool.and_eq_true, Bool.and_true] at hp2
      have p0 := hp2
      have m3 : b 3 = false := hcl.no (i := 3) rfl (k := 1) (by rfl) hk
      have m4 : b 4 = false := hcl.no (i := 4) rfl (k := 1) (by rfl) hk
      have m5 : b 5 = false := hcl.no (i := 5) rfl (k := 4) (by rfl) m4
      have m6 : b 6 = false := hcl.no (i := 6) rfl (k := 5) (by rfl) m5
      have m7 : b 7 = false := hcl.no (i := 7) rfl (k := 5) (by rfl) m5
      have m8 : b 8 = false := hcl.no (i := 8) rfl (k := 5) (by rfl) m5
      have m11 : b 11 = false := hcl.no (i := 11) rfl (k := 1) (by rfl) hk
      have m12 : b 12 = false := hcl.no (i := 12) rfl (k := 1) (by rfl) hk
      have m13 : b 13 = false := hcl.no (i := 13) rfl (k := 1) (by rfl) hk
      rw [FlowKit.stored_no m12, FlowKit.stored_no m11] at hw
      have hw2 := hw.symm
      subst hw2
      have r25 : ρ (.tmp 25) = .agg #[.slice a L.length c] := (hρ (.tmp 25) (by simp [Op.operands, Call.operands])).trans (V0 p0)
      have rf : ρ (.func 6) = .func (.func 6) #[] #[] := hρ (.func 6) (by simp [Op.operands, Call.operands])
      refine RegFlow.gives_call (f := 6) (args := #[.agg #[.slice a L.length c]]) (w' := ws) (by go_simp) (to_ledger a c L ws ((H1.out.1.below hB).arg HA.out) HL.out) ?_
      rintro e wN ⟨gN, rfl, hg, r, hb⟩
      exact ⟨_, rfl, wN, gN, aw, cw_, nw0, nw1, by rw [FlowKit.stored_no (show RegFlow.setB b 1 12 = false from m12), FlowKit.stored_no (show RegFlow.setB b 1 11 = false from m11)], hB.trans (hb.mono hB.size), V0, fun _ => rfl, V2, fun h => FlowKit.no_way m3 h, fun h => FlowKit.no_way m4 h, fun h => FlowKit.no_way m5 h, fun h => FlowKit.no_way m6 h, fun h => FlowKit.no_way m7 h, fun h => FlowKit.no_way m8 h, V9, V10, fun h => FlowKit.no_way m13 h, fun _ => r, fun h => ⟨(O4 h).1.below hb, (O4 h).2⟩, fun h => ⟨(B9 h).1.below hb, (B9 h).2⟩, fun h => ⟨(B10 h).1.below hb, (B10 h).2⟩, D9, D10, E9_10⟩
    · intro b u wI ρ hI hcl hp hk hρ
      obtain ⟨ws, gw1, aw, cw_, nw0, nw1, hw, hB, V0, V1, V2, V3, V4, V5, V6, V7, V8, V9, V10, V13, R1, O4, B9, B10, D9, D10, E9_10⟩ := hI
      have m3 : b 3 = false := hcl.no (i := 3) rfl (k := 2) (by rfl) hk
      have m4 : b 4 = false := hcl.no (i := 4) rfl (k := 3) (by rfl) m3
      have m5 : b 5 = false := hcl.no (i := 5) rfl (k := 4) (by rfl) m4
      have m6 : b 6 = false := hcl.no (i := 6) rfl (k := 5) (by rfl) m5
      have m7 : b 7 = false := hcl.no (i := 7) rfl (k := 5) (by rfl) m5
      have m8 : b 8 = false := hcl.no (i := 8) rfl (k := 5) (by rfl) m5
      have m11 : b 11 = false := hcl.no (i := 11) rfl (k := 2) (by rfl) hk
      have m12 : b 12 = false := hcl.no (i := 12) rfl (k := 2) (by rfl) hk
      have m13 : b 13 = false := hcl.no (i := 13) rfl (k := 2) (by rfl) hk
      rw [FlowKit.stored_no m12, FlowKit.stored_no m11] at hw
      have hw2 := hw.symm
      subst hw2
      have r3 : ρ (.tmp 3) = .pointer (some ⟨W.heap.size + 1, 0, none⟩) := hρ (.tmp 3) (by simp [Op.operands, Call.operands])
      have c0 := (H1.out.2.2.below hB).cell 0
      have c1 := (H1.out.2.2.below hB).cell 1
      refine RegFlow.gives_value (v := .agg #[.int .i64 x, .int .i64 y]) (w' := ws) (by go_simp) ⟨ws, gw1, aw, cw_, nw0, nw1, by rw [FlowKit.stored_no (show RegFlow.setB b 2 12 = false from m12), FlowKit.stored_no (show RegFlow.setB b 2 11 = false from m11)], hB, V0, V1, fun _ => rfl, V3, V4, V5, V6, V7, V8, V9, V10, V13, R1, O4, B9, B10, D9, D10, E9_10⟩
    · intro b u wI ρ hI hcl hp hk hρ
      obtain ⟨ws, gw1, aw, cw_, nw0, nw1, hw, hB, V0, V1, V2, V3, V4, V5, V6, V7, V8, V9, V10, V13, R1, O4, B9, B10, D9, D10, E9_10⟩ := hI
      have hp2 : (b 2 && (b 1 && true)) = true := hp
      simp only [Bool.and_eq_true, Bool.and_true] at hp2
      obtain ⟨p0, p1⟩ := hp2
      have m4 : b 4 = false := hcl.no (i := 4) rfl (k := 3) (by rfl) hk
      have m5 : b 5 = false := hcl.no (i := 5) rfl (k := 4) (by rfl) m4
      have m6 : b 6 = false := hcl.no (i := 6) rfl (k := 5) (by rfl) m5
      have m7 : b 7 = false := hcl.no (i := 7) rfl (k := 5) (by rfl) m5
      have m8 : b 8 = false := hcl.no (i := 8) rfl (k := 5) (by rfl) m5
      have m11 : b 11 = false := hcl.no (i := 11) rfl (k := 3) (by rfl) hk
      have m12 : b 12 = false := hcl.no (i := 12) rfl (k := 3) (by rfl) hk
      have m13 : b 13 = false := hcl.no (i := 13) rfl (k := 3) (by rfl) hk
      rw [FlowKit.stored_no m12, FlowKit.stored_no m11] at hw
      have hw2 := hw.symm
      subst hw2
      have r27 : ρ (.tmp 27) = .agg #[.int .i64 x, .int .i64 y] := (hρ (.tmp 27) (by simp [Op.operands, Call.operands])).trans (V2 p0)
      have rf : ρ (.func 7) = .func (.func 7) #[] #[] := hρ (.func 7) (by simp [Op.operands, Call.operands])
      refine RegFlow.gives_call (f := 7) (args := #[.agg #[.int .i64 x, .int .i64 y]]) (w' := ws) (by go_simp) (to_permit x y ws) ?_
      rintro e wN ⟨rfl, hb⟩
      exact ⟨_, rfl, wN, gw1, aw, cw_, nw0, nw1, by rw [FlowKit.stored_no (show RegFlow.setB b 3 12 = false from m12), FlowKit.stored_no (show RegFlow.setB b 3 11 = false from m11)], hB.trans (hb.mono hB.size), V0, V1, V2, fun _ => rfl, V4, V5, V6, V7, V8, V9, V10, V13, fun h => (R1 h).below hb, fun h => ⟨(O4 h).1.below hb, (O4 h).2⟩, fun h => ⟨(B9 h).1.below hb, (B9 h).2⟩, fun h => ⟨(B10 h).1.below hb, (B10 h).2⟩, D9, D10, E9_10⟩
    · intro b u wI ρ hI hcl hp hk hρ
      obtain ⟨ws, gw1, aw, cw_, nw0, nw1, hw, hB, V0, V1, V2, V3, V4, V5, V6, V7, V8, V9, V10, V13, R1, O4, B9, B10, D9, D10, E9_10⟩ := hI
      have hp2 : (b 1 && (b 3 && (b 3 && true))) = true := hp
      simp only [Bool.and_eq_true, Bool.and_true] at hp2
      obtain ⟨p0, p1, p2⟩ := hp2
      have m5 : b 5 = false := hcl.no (i := 5) rfl (k := 4) (by rfl) hk
      have m6 : b 6 = false := hcl.no (i := 6) rfl (k := 5) (by rfl) m5
      have m7 : b 7 = false := hcl.no (i := 7) rfl (k := 5) (by rfl) m5
      have m8 : b 8 = false := hcl.no (i := 8) rfl (k := 5) (by rfl) m5
      have m11 : b 11 = false := hcl.no (i := 11) rfl (k := 4) (by rfl) hk
      have m12 : b 12 = false := hcl.no (i := 12) rfl (k := 4) (by rfl) hk
      have m13 : b 13 = false := hcl.no (i := 13) rfl (k := 4) (by rfl) hk
      rw [FlowKit.stored_no m12, FlowKit.stored_no m11] at hw
      have hw2 := hw.symm
      subst hw2
      have r26 : ρ (.tmp 26) = .agg #[.slice (some ⟨gw1, 0, none⟩) L.length L.length] := (hρ (.tmp 26) (by simp [Op.operands, Call.operands])).trans (V1 p0)
      have r28 : ρ (.tmp 28) = .agg #[.int .i64 x, .int .i64 y] := (hρ (.tmp 28) (by simp [Op.operands, Call.operands])).trans (V3 p1)
      have rf : ρ (.func 5) = .func (.func 5) #[] #[] := hρ (.func 5) (by simp [Op.operands, Call.operands])
      refine RegFlow.gives_call (f := 5) (args := #[.agg #[.slice (some ⟨gw1, 0, none⟩) L.length L.length], .agg #[.int .i64 x, .int .i64 y]]) (w' := ws) (by go_simp) (HSP ws _ _ (Or.inr ⟨gw1, 0, rfl, R1 p0⟩) (Nat.le_refl _)) ?_
      rintro e wN ⟨aN, cN, rfl, hc_cN, oN, qN, hb⟩
      exact ⟨_, rfl, wN, gw1, aN, cN, nw0, nw1, by rw [FlowKit.stored_no (show RegFlow.setB b 4 12 = false from m12), FlowKit.stored_no (show RegFlow.setB b 4 11 = false from m11)], hB.trans (hb.mono hB.size), V0, V1, V2, V3, fun _ => rfl, fun h => FlowKit.no_way m5 h, fun h => FlowKit.no_way m6 h, fun h => FlowKit.no_way m7 h, fun h => FlowKit.no_way m8 h, V9, V10, fun h => FlowKit.no_way m13 h, fun h => (R1 h).below hb, fun _ => ⟨oN, fun x hx => Nat.le_trans hB.size (qN x hx)⟩, fun h => ⟨(B9 h).1.below hb, (B9 h).2⟩, fun h => ⟨(B10 h).1.below hb, (B10 h).2⟩, fun _ h x hx => Nat.ne_of_gt (Nat.lt_of_lt_of_le (B9 h).1.lt (qN x hx)), fun _ h x hx => Nat.ne_of_gt (Nat.lt_of_lt_of_le (B10 h).1.lt (qN x hx)), E9_10⟩
    · intro b u wI ρ hI hcl hp hk hρ
      obtain ⟨ws, gw1, aw, cw_, nw0, nw1, hw, hB, V0, V1, V2, V3, V4, V5, V6, V7, V8, V9, V10, V13, R1, O4, B9, B10, D9, D10, E9_10⟩ := hI
      have hp2 : (b 4 && true) = true := hp
      simp only [Bool.and_eq_true, Bool.and_true] at hp2
      have p0 := hp2
      have m6 : b 6 = false := hcl.no (i := 6) rfl (k := 5) (by rfl) hk
      have m7 : b 7 = false := hcl.no (i := 7) rfl (k := 5) (by rfl) hk
      have m8 : b 8 = false := hcl.no (i := 8) rfl (k := 5) (by rfl) hk
      have m11 : b 11 = false := hcl.no (i := 11) rfl (k := 5) (by rfl) hk
      have m12 : b 12 = false := hcl.no (i := 12) rfl (k := 5) (by rfl) hk
      have m13 : b 13 = false := hcl.no (i := 13) rfl (k := 5) (by rfl) hk
      have r29 : ρ (.tmp 29) = .tuple #[.agg #[.slice aw L2.length cw_], .agg #[.int .i64 s0, .bool s1, .int .i64 s2, .int .i64 s3, .int .i64 s4], .bool B] := (hρ (.tmp 29) (by simp [Op.operands, Call.operands])).trans (V4 p0)
      refine RegFlow.gives_value (v := .tuple #[.agg #[.slice aw L2.length cw_], .agg #[.int .i64 s0, .bool s1, .int .i64 s2, .int .i64 s3, .int .i64 s4], .bool B]) (w' := wI) (by go_simp) ⟨ws, gw1, aw, cw_, nw0, nw1, hw, hB, V0, V1, V2, V3, V4, fun _ => rfl, V6, V7, V8, V9, V10, V13, R1, O4, B9, B10, D9, D10, E9_10⟩
    · intro b u wI ρ hI hcl hp hk hρ
      obtain ⟨ws, gw1, aw, cw_, nw0, nw1, hw, hB, V0, V1, V2, V3, V4, V5, V6, V7, V8, V9, V10, V13, R1, O4, B9, B10, D9, D10, E9_10⟩ := hI
      have hp2 : (b 5 && true) = true := hp
      simp only [Bool.and_eq_true, Bool.and_true] at hp2
      have p0 := hp2
      have m11 : b 11 = false := hcl.no (i := 11) rfl (k := 6) (by rfl) hk
      have m12 : b 12 = false := hcl.no (i := 12) rfl (k := 6) (by rfl) hk
      have m13 : b 13 = false := hcl.no (i := 13) rfl (k := 6) (by rfl) hk
      have r24 : ρ (.tmp 24) = .tuple #[.agg #[.slice aw L2.length cw_], .agg #[.int .i64 s0, .bool s1, .int .i64 s2, .int .i64 s3, .int .i64 s4], .bool B] := (hρ (.tmp 24) (by simp [Op.operands, Call.operands])).trans (V5 p0)
      refine RegFlow.gives_value (v := .agg #[.slice aw L2.length cw_]) (w' := wI) (by go_simp) ⟨ws, gw1, aw, cw_, nw0, nw1, hw, hB, V0, V1, V2, V3, V4, V5, fun _ => rfl, V7, V8, V9, V10, V13, R1, O4, B9, B10, D9, D10, E9_10⟩
    · intro b u wI ρ hI hcl hp hk hρ
      obtain ⟨ws, gw1, aw, cw_, nw0, nw1, hw, hB, V0, V1, V2, V3, V4, V5, V6, V7, V8, V9, V10, V13, R1, O4, B9, B10, D9, D10, E9_10⟩ := hI
      have hp2 : (b 5 && true) = true := hp
      simp only [Bool.and_eq_true, Bool.and_true] at hp2
      have p0 := hp2
      have m12 : b 12 = false := hcl.no (i := 12) rfl (k := 7) (by rfl) hk
      have m13 : b 13 = false := hcl.no (i := 13) rfl (k := 7) (by rfl) hk
      have r24 : ρ (.tmp 24) = .tuple #[.agg #[.slice aw L2.length cw_], .agg #[.int .i64 s0, .bool s1, .int .i64 s2, .int .i64 s3, .int .i64 s4], .bool B] := (hρ (.tmp 24) (by simp [Op.operands, Call.operands])).trans (V5 p0)
      refine RegFlow.gives_value (v := .agg #[.int .i64 s0, .bool s1, .int .i64 s2, .int .i64 s3, .int .i64 s4]) (w' := wI) (by go_simp) ⟨ws, gw1, aw, cw_, nw0, nw1, hw, hB, V0, V1, V2, V3, V4, V5, V6, fun _ => rfl, V8, V9, V10, V13, R1, O4, B9, B10, D9, D10, E9_10⟩
    · intro b u wI ρ hI hcl hp hk hρ
      obtain ⟨ws, gw1, aw, cw_, nw0, nw1, hw, hB, V0, V1, V2, V3, V4, V5, V6, V7, V8, V9, V10, V13, R1, O4, B9, B10, D9, D10, E9_10⟩ := hI
      have hp2 : (b 5 && true) = true := hp
      simp only [Bool.and_eq_true, Bool.and_true] at hp2
      have p0 := hp2
      have m13 : b 13 = false := hcl.no (i := 13) rfl (k := 8) (by rfl) hk
      have r24 : ρ (.tmp 24) = .tuple #[.agg #[.slice aw L2.length cw_], .agg #[.int .i64 s0, .bool s1, .int .i64 s2, .int .i64 s3, .int .i64 s4], .bool B] := (hρ (.tmp 24) (by simp [Op.operands, Call.operands])).trans (V5 p0)
      refine RegFlow.gives_value (v := .bool B) (w' := wI) (by go_simp) ⟨ws, gw1, aw, cw_, nw0, nw1, hw, hB, V0, V1, V2, V3, V4, V5, V6, V7, fun _ => rfl, V9, V10, V13, R1, O4, B9, B10, D9, D10, E9_10⟩
    · intro b u wI ρ hI hcl hp hk hρ
      obtain ⟨ws, gw1, aw, cw_, nw0, nw1, hw, hB, V0, V1, V2, V3, V4, V5, V6, V7, V8, V9, V10, V13, R1, O4, B9, B10, D9, D10, E9_10⟩ := hI
      have m11 : b 11 = false := hcl.no (i := 11) rfl (k := 9) (by rfl) hk
      have m12 : b 12 = false := hcl.no (i := 12) rfl (k := 9) (by rfl) hk
      have m13 : b 13 = false := hcl.no (i := 13) rfl (k := 9) (by rfl) hk
      rw [FlowKit.stored_no m12, FlowKit.stored_no m11] at hw
      have hw2 := hw.symm
      subst hw2
      refine RegFlow.gives_value (v := .pointer (some ⟨ws.heap.size, 0, none⟩)) (w' := ws.alloc (.cells #[.slice none 0 0] 30)) (by go_simp) ⟨ws.alloc (.cells #[.slice none 0 0] 30), gw1, aw, cw_, ws.heap.size, nw1, by rw [FlowKit.stored_no (show RegFlow.setB b 9 12 = false from m12), FlowKit.stored_no (show RegFlow.setB b 9 11 = false from m11)], hB.alloc hB.size _, V0, V1, V2, V3, V4, V5, V6, V7, V8, fun _ => rfl, V10, V13, fun h => (R1 h).below (n1 ws _), fun h => ⟨(O4 h).1.below (n1 ws _), (O4 h).2⟩, fun _ => ⟨boxB.new _ _ _, hB.size⟩, fun h => ⟨(B10 h).1.below (n1 ws _), (B10 h).2⟩, fun h _ x hx => Nat.ne_of_lt ((O4 h).1.lt x hx), D10, fun _ h => Nat.ne_of_gt (B10 h).1.lt⟩
    · intro b u wI ρ hI hcl hp hk hρ
      obtain ⟨ws, gw1, aw, cw_, nw0, nw1, hw, hB, V0, V1, V2, V3, V4, V5, V6, V7, V8, V9, V10, V13, R1, O4, B9, B10, D9, D10, E9_10⟩ := hI
      have m11 : b 11 = false := hcl.no (i := 11) rfl (k := 10) (by rfl) hk
      have m12 : b 12 = false := hcl.no (i := 12) rfl (k := 10) (by rfl) hk
      have m13 : b 13 = false := hcl.no (i := 13) rfl (k := 10) (by rfl) hk
      rw [FlowKit.stored_no m12, FlowKit.stored_no m11] at hw
      have hw2 := hw.symm
      subst hw2
      refine RegFlow.gives_value (v := .pointer (some ⟨ws.heap.size, 0, none⟩)) (w' := ws.alloc (.cells #[.int .i64 0, .bool false, .int .i64 0, .int .i64 0, .int .i64 0] 32)) (by go_simp) ⟨ws.alloc (.cells #[.int .i64 0, .bool false, .int .i64 0, .int .i64 0, .int .i64 0] 32), gw1, aw, cw_, nw0, ws.heap.size, by rw [FlowKit.stored_no (show RegFlow.setB b 10 12 = false from m12), FlowKit.stored_no (show RegFlow.setB b 10 11 = false from m11)], hB.alloc hB.size _, V0, V1, V2, V3, V4, V5, V6, V7, V8, V9, fun _ => rfl, V13, fun h => (R1 h).below (n1 ws _), fun h => ⟨(O4 h).1.below (n1 ws _), (O4 h).2⟩, fun h => ⟨(B9 h).1.below (n1 ws _), (B9 h).2⟩, fun _ => ⟨boxB.new _ _ _, hB.size⟩, D9, fun h _ x hx => Nat.ne_of_lt ((O4 h).1.lt x hx), fun h _ => Nat.ne_of_lt (B9 h).1.lt⟩
    · intro b u wI ρ hI hcl hp hk hρ
      obtain ⟨ws, gw1, aw, cw_, nw0, nw1, hw, hB, V0, V1, V2, V3, V4, V5, V6, V7, V8, V9, V10, V13, R1, O4, B9, B10, D9, D10, E9_10⟩ := hI
      have hp2 : (b 9 && (b 6 && (b 4 && (b 0 && (b 1 && (b 2 && (b 3 && (b 4 && (b 5 && (b 6 && (b 9 && (b 10 && true)))))))))))) = true := hp
      simp only [Bool.and_eq_true, Bool.and_true] at hp2
      obtain ⟨p0, p1, p2, p3, p4, p5, p6, p7, p8, p9, p10, p11⟩ := hp2
      have m12 : b 12 = false := hcl.no (i := 12) rfl (k := 11) (by rfl) hk
      have m13 : b 13 = false := hcl.no (i := 13) rfl (k := 11) (by rfl) hk
      rw [FlowKit.stored_no m12, FlowKit.stored_no hk] at hw
      have hw2 := hw.symm
      subst hw2
      have r6 : ρ (.tmp 6) = .pointer (some ⟨nw0, 0, none⟩) := (hρ (.tmp 6) (by simp [Op.operands, Call.operands])).trans (V9 p0)
      have r30 : ρ (.tmp 30) = .agg #[.slice aw L2.length cw_] := (hρ (.tmp 30) (by simp [Op.operands, Call.operands])).trans (V6 p1)
      have bx : boxB ws nw0 #[.slice none 0 0] 30 := (B9 p0).1
      have c0 := bx.cell 0
      have f0 := fzB bx 0
      refine RegFlow.gives_skip (w' := sets ws nw0 0 [.slice aw L2.length cw_]) (by go_simp; rfl) ?_
      exact ⟨ws, gw1, aw, cw_, nw0, nw1, by rw [FlowKit.stored_no (show RegFlow.setB b 11 12 = false from m12), FlowKit.stored_yes (show RegFlow.setB b 11 11 = true from rfl)], hB, V0, V1, V2, V3, V4, V5, V6, V7, V8, V9, V10, V13, R1, O4, B9, B10, D9, D10, E9_10⟩
    · intro b u wI ρ hI hcl hp hk hρ
      obtain ⟨ws, gw1, aw, cw_, nw0, nw1, hw, hB, V0, V1, V2, V3, V4, V5, V6, V7, V8, V9, V10, V13, R1, O4, B9, B10, D9, D10, E9_10⟩ := hI
      have hp2 : (b 10 && (b 7 && (b 11 && (b 0 && (b 1 && (b 2 && (b 3 && (b 4 && (b 5 && (b 6 && (b 7 && (b 9 && (b 10 && (b 11 && true)))))))))))))) = true := hp
      simp only [Bool.and_eq_true, Bool.and_true] at hp2
      obtain ⟨p0, p1, p2, p3, p4, p5, p6, p7, p8, p9, p10, p11, p12, p13⟩ := hp2
      have m13 : b 13 = false := hcl.no (i := 13) rfl (k := 12) (by rfl) hk
      rw [FlowKit.stored_no hk, FlowKit.stored_yes p2] at hw
      have hw2 := hw.symm
      subst hw2
      have r7 : ρ (.tmp 7) = .pointer (some ⟨nw1, 0, none⟩) := (hρ (.tmp 7) (by simp [Op.operands, Call.operands])).trans (V10 p0)
      have r31 : ρ (.tmp 31) = .agg #[.int .i64 s0, .bool s1, .int .i64 s2, .int .i64 s3, .int .i64 s4] := (hρ (.tmp 31) (by simp [Op.operands, Call.operands])).trans (V7 p1)
      have bx : boxB (sets ws nw0 0 [.slice aw L2.length cw_]) nw1 #[.int .i64 0, .bool false, .int .i64 0, .int .i64 0, .int .i64 0] 32 := FlowKit.box_else ((B10 p0).1) (Ne.symm (E9_10 p11 p0)) [.slice aw L2.length cw_]
      generalize hwc : (sets ws nw0 0 [.slice aw L2.length cw_]) = wc at bx ⊢
      have c0 := bx.cell 0
      have f0 := fzB bx 0
      have c1 := bx.cell 1
      have f1 := fzB bx 1
      have c2 := bx.cell 2
      have f2 := fzB bx 2
      have c3 := bx.cell 3
      have f3 := fzB bx 3
      have c4 := bx.cell 4
      have f4 := fzB bx 4
      refine RegFlow.gives_skip (w' := sets wc nw1 0 [.int .i64 s0, .bool s1, .int .i64 s2, .int .i64 s3, .int .i64 s4]) (by go_simp; rfl) ?_
      subst hwc
      exact ⟨ws, gw1, aw, cw_, nw0, nw1, by rw [FlowKit.stored_yes (show RegFlow.setB b 12 12 = true from rfl), FlowKit.stored_yes (show RegFlow.setB b 12 11 = true from p2)], hB, V0, V1, V2, V3, V4, V5, V6, V7, V8, V9, V10, V13, R1, O4, B9, B10, D9, D10, E9_10⟩
    · intro b u wI ρ hI hcl hp hk hρ
      obtain ⟨ws, gw1, aw, cw_, nw0, nw1, hw, hB, V0, V1, V2, V3, V4, V5, V6, V7, V8, V9, V10, V13, R1, O4, B9, B10, D9, D10, E9_10⟩ := hI
      have hp2 : (b 8 && (b 12 && (b 0 && (b 1 && (b 2 && (b 3 && (b 4 && (b 5 && (b 6 && (b 7 && (b 8 && (b 9 && (b 10 && (b 11 && (b 12 && true))))))))))))))) = true := hp
      simp only [Bool.and_eq_true, Bool.and_true] at hp2
      obtain ⟨p0, p1, p2, p3, p4, p5, p6, p7, p8, p9, p10, p11, p12, p13, p14⟩ := hp2
      have r32 : ρ (.tmp 32) = .bool B := (hρ (.tmp 32) (by simp [Op.operands, Call.operands])).trans (V8 p0)
      refine RegFlow.gives_value (v := .bool B) (w' := wI) (by go_simp) ⟨ws, gw1, aw, cw_, nw0, nw1, hw, hB, V0, V1, V2, V3, V4, V5, V6, V7, V8, V9, V10, fun _ => rfl, R1, O4, B9, B10, D9, D10, E9_10⟩
    · intro u wF hI
      obtain ⟨ws, gw1, aw, cw_, nw0, nw1, hwF, hB, V0, V1, V2, V3, V4, V5, V6, V7, V8, V9, V10, V13, R1, O4, B9, B10, D9, D10, E9_10⟩ := hI
      have hwF2 : wF = (sets (sets ws nw0 0 [.slice aw L2.length cw_]) nw1 0 [.int .i64 s0, .bool s1, .int .i64 s2, .int .i64 s3, .int .i64 s4]) := hwF
      have e0 : u 0 = .agg #[.slice a L.length c] := V0 rfl
      have e1 : u 1 = .agg #[.slice (some ⟨gw1, 0, none⟩) L.length L.length] := V1 rfl
      have e2 : u 2 = .agg #[.int .i64 x, .int .i64 y] := V2 rfl
      have e3 : u 3 = .agg #[.int .i64 x, .int .i64 y] := V3 rfl
      have e4 : u 4 = .tuple #[.agg #[.slice aw L2.length cw_], .agg #[.int .i64 s0, .bool s1, .int .i64 s2, .int .i64 s3, .int .i64 s4], .bool B] := V4 rfl
      have e5 : u 5 = .tuple #[.agg #[.slice aw L2.length cw_], .agg #[.int .i64 s0, .bool s1, .int .i64 s2, .int .i64 s3, .int .i64 s4], .bool B] := V5 rfl
      have e6 : u 6 = .agg #[.slice aw L2.length cw_] := V6 rfl
      have e7 : u 7 = .agg #[.int .i64 s0, .bool s1, .int .i64 s2, .int .i64 s3, .int .i64 s4] := V7 rfl
      have e8 : u 8 = .bool B := V8 rfl
      have e9 : u 9 = .pointer (some ⟨nw0, 0, none⟩) := V9 rfl
      have e10 : u 10 = .pointer (some ⟨nw1, 0, none⟩) := V10 rfl
      have e13 : u 13 = .bool B := V13 rfl
      have O := O4 rfl
      have X9 := B9 rfl
      have Y9 := D9 rfl rfl
      have X10 := B10 rfl
      have Y10 := D10 rfl rfl
      have ZE9_10 := E9_10 rfl rfl
      have HBF : Below w1.heap.size w1 wF := by rw [hwF2]; exact FlowKit.bel_sets (FlowKit.bel_sets (hB) X9.2 _) X10.2 _
      have OF : Own 32 5 cells wF aw L2 := by rw [hwF2]; exact FlowKit.own_else (FlowKit.own_else (O.1) Y9 _) Y10 _
      have BF0 : boxB wF nw0 #[.slice aw L2.length cw_] 30 := by rw [hwF2]; exact FlowKit.box_else (FlowKit.box_stored (X9.1) _ rfl) ZE9_10 _
      have BF1 : boxB wF nw1 #[.int .i64 s0, .bool s1, .int .i64 s2, .int .i64 s3, .int .i64 s4] 32 := by rw [hwF2]; exact FlowKit.box_stored (FlowKit.box_else (X10.1) (Ne.symm ZE9_10) _) _ rfl
      have HSF : wF.heap.size = ws.heap.size := by rw [hwF2]; simp only [FlowKit.sets_size]
      have H2 : Hid (Bel W wF ∧ boxB wF W.heap.size #[.slice a L.length c] 24 ∧ boxB wF (W.heap.size + 1) #[.int .i64 x, .int .i64 y] 26 ∧ Own 32 5 cells wF aw L2 ∧ boxB wF nw0 #[.slice aw L2.length cw_] 30 ∧ boxB wF nw1 #[.int .i64 s0, .bool s1, .int .i64 s2, .int .i64 s3, .int .i64 s4] 32) := ⟨H1.out.1.below HBF, H1.out.2.1.below HBF, H1.out.2.2.below HBF, OF, BF0, BF1⟩
      have HQw : Hid ((∀ x, blkL aw L2 = some x → w1.heap.size ≤ x ∧ x < wF.heap.size ∧ x ≠ nw0 ∧ x ≠ nw1) ∧ w1.heap.size ≤ wF.heap.size ∧ w1.heap.size ≤ nw0 ∧ nw0 < wF.heap.size ∧ w1.heap.size ≤ nw1 ∧ nw1 < wF.heap.size ∧ nw0 ≠ nw1) := ⟨fun x hx => ⟨O.2 x hx, by rw [HSF]; exact O.1.lt x hx, Y9 x hx, Y10 x hx⟩, HBF.size, X9.2, by rw [HSF]; exact X9.1.lt, X10.2, by rw [HSF]; exact X10.1.lt, ZE9_10⟩
      simp only [RegFlow.fin, Act.put, e0, e1, e2, e3, e4, e5, e6, e7, e8, e9, e10, e13]
      clear e0 e1 e2 e3 e4 e5 e6 e7 e8 e9 e10 e13 V0 V1 V2 V3 V4 V5 V6 V7 V8 V9 V10 V13 R1 O4 B9 B10 D9 D10 E9_10 O X9 Y9 X10 Y10 ZE9_10 HBF OF HSF hwF2 hwF hB BF0 BF1 H1 u
      obtain ⟨ww, rfl⟩ : ∃ v, v = wF := ⟨_, rfl⟩
      have c0 := H2.out.2.1.cell 0
      go_wp2_with fail
      refine (to_ledger a c L _ (H2.out.1.arg HA.out) HL.out).mono ?_
      rintro e w2 ⟨g2, rfl, hg2, r2, b2⟩
      have HQx : Hid (ww.heap.size ≤ g2 ∧ g2 < w2.heap.size) := ⟨hg2, r2.lt⟩
      have H3 : Hid (Bel W (w2.alloc (.cells #[.slice (some ⟨g2, 0, none⟩) L.length L.length] 30)) ∧ boxB (w2.alloc (.cells #[.slice (some ⟨g2, 0, none⟩) L.length L.length] 30)) W.heap.size #[.slice a L.length c] 24 ∧ boxB (w2.alloc (.cells #[.slice (some ⟨g2, 0, none⟩) L.length L.length] 30)) (W.heap.size + 1) #[.int .i64 x, .int .i64 y] 26 ∧ Own 32 5 cells (w2.alloc (.cells #[.slice (some ⟨g2, 0, none⟩) L.length L.length] 30)) aw L2 ∧ boxB (w2.alloc (.cells #[.slice (some ⟨g2, 0, none⟩) L.length L.length] 30)) nw0 #[.slice aw L2.length cw_] 30 ∧ boxB (w2.alloc (.cells #[.slice (some ⟨g2, 0, none⟩) L.length L.length] 30)) nw1 #[.int .i64 s0, .bool s1, .int .i64 s2, .int .i64 s3, .int .i64 s4] 32 ∧ Row 32 5 cells (w2.alloc (.cells #[.slice (some ⟨g2, 0, none⟩) L.length L.length] 30)) g2 0 L ∧ boxB (w2.alloc (.cells #[.slice (some ⟨g2, 0, none⟩) L.length L.length] 30)) w2.heap.size #[.slice (some ⟨g2, 0, none⟩) L.length L.length] 30) := ⟨H2.out.1.below (b2.trans ((n1 w2 _).mono b2.size)), H2.out.2.1.below (b2.trans ((n1 w2 _).mono b2.size)), H2.out.2.2.1.below (b2.trans ((n1 w2 _).mono b2.size)), H2.out.2.2.2.1.below (b2.trans ((n1 w2 _).mono b2.size)), H2.out.2.2.2.2.1.below (b2.trans ((n1 w2 _).mono b2.size)), H2.out.2.2.2.2.2.below (b2.trans ((n1 w2 _).mono b2.size)), r2.below (n1 w2 _), boxB.new _ _ _⟩
      have HYx : Hid ((w2.alloc (.cells #[.slice (some ⟨g2, 0, none⟩) L.length L.length] 30)).heap.size = w2.heap.size + 1) := sz1 w2 _
      clear c0 b2 hg2 r2 H2
      go_upto_region 7 with fail
      generalize (w2.alloc (.cells #[.slice (some ⟨g2, 0, none⟩) L.length L.length] 30)) = wX at *
      obtain ⟨Nx, hNx⟩ : ∃ Nx, w2.heap.size = Nx := ⟨_, rfl⟩
      rw [hNx] at H3 HQx HYx ⊢
      clear hNx
      go_upto_region 7 with fail
      refine RegFlow.wp_region_flow (fun b u wI => ∃ (ws : World) (ag : Option Addr) (cg_ : Nat) (ng0 : Nat) (ng1 : Nat), wI = (FlowKit.Stored (b 11) (FlowKit.Stored (b 10) ws ng0 [.slice ag L2.length cg_]) ng1 [.int .i64 s0, .bool s1, .int .i64 s2, .int .i64 s3, .int .i64 s4]) ∧ Below wX.heap.size wX ws ∧ (b 0 = true → u 0 = .agg #[.slice (some ⟨g2, 0, none⟩) L.length L.length]) ∧ (b 1 = true → u 1 = .agg #[.int .i64 x, .int .i64 y]) ∧ (b 2 = true → u 2 = .agg #[.int .i64 x, .int .i64 y]) ∧ (b 3 = true → u 3 = .tuple #[.agg #[.slice ag L2.length cg_], .agg #[.int .i64 s0, .bool s1, .int .i64 s2, .int .i64 s3, .int .i64 s4], .bool B]) ∧ (b 4 = true → u 4 = .tuple #[.agg #[.slice ag L2.length cg_], .agg #[.int .i64 s0, .bool s1, .int .i64 s2, .int .i64 s3, .int .i64 s4], .bool B]) ∧ (b 5 = true → u 5 = .agg #[.slice ag L2.length cg_]) ∧ (b 6 = true → u 6 = .agg #[.int .i64 s0, .bool s1, .int .i64 s2, .int .i64 s3, .int .i64 s4]) ∧ (b 7 = true → u 7 = .bool B) ∧ (b 8 = true → u 8 = .pointer (some ⟨ng0, 0, none⟩)) ∧ (b 9 = true → u 9 = .pointer (some ⟨ng1, 0, none⟩)) ∧ (b 12 = true → u 12 = .bool B) ∧ (b 3 = true → Own 32 5 cells ws ag L2 ∧ (∀ x, blkL ag L2 = some x → wX.heap.size ≤ x)) ∧ (b 8 = true → boxB ws ng0 #[.slice none 0 0] 30 ∧ wX.heap.size ≤ ng0) ∧ (b 9 = true → boxB ws ng1 #[.int .i64 0, .bool false, .int .i64 0, .int .i64 0, .int .i64 0] 32 ∧ wX.heap.size ≤ ng1) ∧ (b 3 = true → b 8 = true → ∀ x, blkL ag L2 = some x → x ≠ ng0) ∧ (b 3 = true → b 9 = true → ∀ x, blkL ag L2 = some x → x ≠ ng1) ∧ (b 8 = true → b 9 = true → ng0 ≠ ng1)) (by kernel_rfl) (by kernel_rfl) (by rfl) ⟨wX.drew, none, 0, 0, 0, rfl, (Below.refl _ _).drew, fun h => FlowKit.no_way rfl h, fun h => FlowKit.no_way rfl h, fun h => FlowKit.no_way rfl h, fun h => FlowKit.no_way rfl h, fun h => FlowKit.no_way rfl h, fun h => FlowKit.no_way rfl h, fun h => FlowKit.no_way rfl h, fun h => FlowKit.no_way rfl h, fun h => FlowKit.no_way rfl h, fun h => FlowKit.no_way rfl h, fun h => FlowKit.no_way rfl h, fun h => FlowKit.no_way rfl h, fun h => FlowKit.no_way rfl h, fun h => FlowKit.no_way rfl h, fun h => FlowKit.no_way rfl h, fun h => FlowKit.no_way rfl h, fun h => FlowKit.no_way rfl h⟩ ⟨?_, ?_, ?_, ?_, ?_, ?_, ?_, ?_, ?_, ?_, ?_, ?_, ?_, trivial⟩ ?_
      · intro b u wI ρ hI hcl hp hk hρ
        obtain ⟨ws, ag, cg_, ng0, ng1, hw, hB, V0, V1, V2, V3, V4, V5, V6, V7, V8, V9, V12, O3, B8, B9, D8, D9, E8_9⟩ := hI
        have m3 : b 3 = false := hcl.no (i := 3) rfl (k := 0) (by rfl) hk
        have m4 : b 4 = false := hcl.no (i := 4) rfl (k := 3) (by rfl) m3
        have m5 : b 5 = false := hcl.no (i := 5) rfl (k := 4) (by rfl) m4
        have m6 : b 6 = false := hcl.no (i := 6) rfl (k := 4) (by rfl) m4
        have m7 : b 7 = false := hcl.no (i := 7) rfl (k := 4) (by rfl) m4
        have m10 : b 10 = false := hcl.no (i := 10) rfl (k := 0) (by rfl) hk
        have m11 : b 11 = false := hcl.no (i := 11) rfl (k := 0) (by rfl) hk
        have m12 : b 12 = false := hcl.no (i := 12) rfl (k := 0) (by rfl) hk
        rw [FlowKit.stored_no m11, FlowKit.stored_no m10] at hw
        have hw2 := hw.symm
        subst hw2
        have r9 : ρ (.tmp 9) = .pointer (some ⟨Nx, 0, none⟩) := hρ (.tmp 9) (by simp [Op.operands, Call.operands])
        have c0 := (H3.out.2.2.2.2.2.2.2.below hB).cell 0
        refine RegFlow.gives_value (v := .agg #[.slice (some ⟨g2, 0, none⟩) L.length L.length]) (w' := ws) (by go_simp) ⟨ws, ag, cg_, ng0, ng1, by rw [FlowKit.stored_no (show RegFlow.setB b 0 11 = false from m11), FlowKit.stored_no (show RegFlow.setB b 0 10 = false from m10)], hB, fun _ => rfl, V1, V2, V3, V4, V5, V6, V7, V8, V9, V12, O3, B8, B9, D8, D9, E8_9⟩
      · intro b u wI ρ hI hcl hp hk hρ
        obtain ⟨ws, ag, cg_, ng0, ng1, hw, hB, V0, V1, V2, V3, V4, V5, V6, V7, V8, V9, V12, O3, B8, B9, D8, D9, E8_9⟩ := hI
        have m2 : b 2 = false := hcl.no (i := 2) rfl (k := 1) (by rfl) hk
        have m3 : b 3 = false := hcl.no (i := 3) rfl (k := 2) (by rfl) m2
        have m4 : b 4 = false := hcl.no (i := 4) rfl (k := 3) (by rfl) m3
        have m5 : b 5 = false := hcl.no (i := 5) rfl (k := 4) (by rfl) m4
        have m6 : b 6 = false := hcl.no (i := 6) rfl (k := 4) (by rfl) m4
        have m7 : b 7 = false := hcl.no (i := 7) rfl (k := 4) (by rfl) m4
        have m10 : b 10 = false := hcl.no (i := 10) rfl (k := 1) (by rfl) hk
        have m11 : b 11 = false := hcl.no (i := 11) rfl (k := 1) (by rfl) hk
        have m12 : b 12 = false := hcl.no (i := 12) rfl (k := 1) (by rfl) hk
        rw [FlowKit.stored_no m11, FlowKit.stored_no m10] at hw
        have hw2 := hw.symm
        subst hw2
        have r3 : ρ (.tmp 3) = .pointer (some ⟨W.heap.size + 1, 0, none⟩) := hρ (.tmp 3) (by simp [Op.operands, Call.operands])
        have c0 := (H3.out.2.2.1.below hB).cell 0
        have c1 := (H3.out.2.2.1.below hB).cell 1
        refine RegFlow.gives_value (v := .agg #[.int .i64 x, .int .i64 y]) (w' := ws) (by go_simp) ⟨ws, ag, cg_, ng0, ng1, by rw [FlowKit.stored_no (show RegFlow.setB b 1 11 = false from m11), FlowKit.stored_no (show RegFlow.setB b 1 10 = false from m10)], hB, V0, fun _ => rfl, V2, V3, V4, V5, V6, V7, V8, V9, V12, O3, B8, B9, D8, D9, E8_9⟩
      · intro b u wI ρ hI hcl hp hk hρ
        obtain ⟨ws, ag, cg_, ng0, ng1, hw, hB, V0, V1, V2, V3, V4, V5, V6, V7, V8, V9, V12, O3, B8, B9, D8, D9, E8_9⟩ := hI
        have hp2 : (b 1 && true) = true := hp
        simp only [Bool.and_eq_true, Bool.and_true] at hp2
        have p0 := hp2
        have m3 : b 3 = false := hcl.no (i := 3) rfl (k := 2) (by rfl) hk
        have m4 : b 4 = false := hcl.no (i := 4) rfl (k := 3) (by rfl) m3
        have m5 : b 5 = false := hcl.no (i := 5) rfl (k := 4) (by rfl) m4
        have m6 : b 6 = false := hcl.no (i := 6) rfl (k := 4) (by rfl) m4
        have m7 : b 7 = false := hcl.no (i := 7) rfl (k := 4) (by rfl) m4
        have m10 : b 10 = false := hcl.no (i := 10) rfl (k := 2) (by rfl) hk
        have m11 : b 11 = false := hcl.no (i := 11) rfl (k := 2) (by rfl) hk
        have m12 : b 12 = false := hcl.no (i := 12) rfl (k := 2) (by rfl) hk
        rw [FlowKit.stored_no m11, FlowKit.stored_no m10] at hw
        have hw2 := hw.symm
        subst hw2
        have r37 : ρ (.tmp 37) = .agg #[.int .i64 x, .int .i64 y] := (hρ (.tmp 37) (by simp [Op.operands, Call.operands])).trans (V1 p0)
        have rf : ρ (.func 7) = .func (.func 7) #[] #[] := hρ (.func 7) (by simp [Op.operands, Call.operands])
        refine RegFlow.gives_call (f := 7) (args := #[.agg #[.int .i64 x, .int .i64 y]]) (w' := ws) (by go_simp) (to_permit x y ws) ?_
        rintro e wN ⟨rfl, hb⟩
        exact ⟨_, rfl, wN, ag, cg_, ng0, ng1, by rw [FlowKit.stored_no (show RegFlow.setB b 2 11 = false from m11), FlowKit.stored_no (show RegFlow.setB b 2 10 = false from m10)], hB.trans (hb.mono hB.size), V0, V1, fun _ => rfl, V3, V4, V5, V6, V7, V8, V9, V12, fun h => ⟨(O3 h).1.below hb, (O3 h).2⟩, fun h => ⟨(B8 h).1.below hb, (B8 h).2⟩, fun h => ⟨(B9 h).1.below hb, (B9 h).2⟩, D8, D9, E8_9⟩
      · intro b u wI ρ hI hcl hp hk hρ
        obtain ⟨ws, ag, cg_, ng0, ng1, hw, hB, V0, V1, V2, V3, V4, V5, V6, V7, V8, V9, V12, O3, B8, B9, D8, D9, E8_9⟩ := hI
        have hp2 : (b 0 && (b 2 && (b 2 && true))) = true := hp
        simp only [Bool.and_eq_true, Bool.and_true] at hp2
        obtain ⟨p0, p1, p2⟩ := hp2
        have m4 : b 4 = false := hcl.no (i := 4) rfl (k := 3) (by rfl) hk
        have m5 : b 5 = false := hcl.no (i := 5) rfl (k := 4) (by rfl) m4
        have m6 : b 6 = false := hcl.no (i := 6) rfl (k := 4) (by rfl) m4
        have m7 : b 7 = false := hcl.no (i := 7) rfl (k := 4) (by rfl) m4
        have m10 : b 10 = false := hcl.no (i := 10) rfl (k := 3) (by rfl) hk
        have m11 : b 11 = false := hcl.no (i := 11) rfl (k := 3) (by rfl) hk
        have m12 : b 12 = false := hcl.no (i := 12) rfl (k := 3) (by rfl) hk
        rw [FlowKit.stored_no m11, FlowKit.stored_no m10] at hw
        have hw2 := hw.symm
        subst hw2
        have r36 : ρ (.tmp 36) = .agg #[.slice (some ⟨g2, 0, none⟩) L.length L.length] := (hρ (.tmp 36) (by simp [Op.operands, Call.operands])).trans (V0 p0)
        have r38 : ρ (.tmp 38) = .agg #[.int .i64 x, .int .i64 y] := (hρ (.tmp 38) (by simp [Op.operands, Call.operands])).trans (V2 p1)
        have rf : ρ (.func 8) = .func (.func 8) #[] #[] := hρ (.func 8) (by simp [Op.operands, Call.operands])
        refine RegFlow.gives_call (f := 8) (args := #[.agg #[.slice (some ⟨g2, 0, none⟩) L.length L.length], .agg #[.int .i64 x, .int .i64 y]]) (w' := ws) (by go_simp) (HIM ws _ _ (Or.inr ⟨g2, 0, rfl, H3.out.2.2.2.2.2.2.1.below hB⟩) (Nat.le_refl _) (HE.out.below (H3.out.1.below hB))) ?_
        rintro e wN ⟨aN, cN, rfl, hc_cN, oN, qN, hb⟩
        exact ⟨_, rfl, wN, aN, cN, ng0, ng1, by rw [FlowKit.stored_no (show RegFlow.setB b 3 11 = false from m11), FlowKit.stored_no (show RegFlow.setB b 3 10 = false from m10)], hB.trans (hb.mono hB.size), V0, V1, V2, fun _ => rfl, fun h => FlowKit.no_way m4 h, fun h => FlowKit.no_way m5 h, fun h => FlowKit.no_way m6 h, fun h => FlowKit.no_way m7 h, V8, V9, fun h => FlowKit.no_way m12 h, fun _ => ⟨oN, fun x hx => Nat.le_trans hB.size (qN x hx)⟩, fun h => ⟨(B8 h).1.below hb, (B8 h).2⟩, fun h => ⟨(B9 h).1.below hb, (B9 h).2⟩, fun _ h x hx => Nat.ne_of_gt (Nat.lt_of_lt_of_le (B8 h).1.lt (qN x hx)), fun _ h x hx => Nat.ne_of_gt (Nat.lt_of_lt_of_le (B9 h).1.lt (qN x hx)), E8_9⟩
      · intro b u wI ρ hI hcl hp hk hρ
        obtain ⟨ws, ag, cg_, ng0, ng1, hw, hB, V0, V1, V2, V3, V4, V5, V6, V7, V8, V9, V12, O3, B8, B9, D8, D9, E8_9⟩ := hI
        have hp2 : (b 3 && true) = true := hp
        simp only [Bool.and_eq_true, Bool.and_true] at hp2
        have p0 := hp2
        have m5 : b 5 = false := hcl.no (i := 5) rfl (k := 4) (by rfl) hk
        have m6 : b 6 = false := hcl.no (i := 6) rfl (k := 4) (by rfl) hk
        have m7 : b 7 = false := hcl.no (i := 7) rfl (k := 4) (by rfl) hk
        have m10 : b 10 = false := hcl.no (i := 10) rfl (k := 4) (by rfl) hk
        have m11 : b 11 = false := hcl.no (i := 11) rfl (k := 4) (by rfl) hk
        have m12 : b 12 = false := hcl.no (i := 12) rfl (k := 4) (by rfl) hk
        have r39 : ρ (.tmp 39) = .tuple #[.agg #[.slice ag L2.length cg_], .agg #[.int .i64 s0, .bool s1, .int .i64 s2, .int .i64 s3, .int .i64 s4], .bool B] := (hρ (.tmp 39) (by simp [Op.operands, Call.operands])).trans (V3 p0)
        refine RegFlow.gives_value (v := .tuple #[.agg #[.slice ag L2.length cg_], .agg #[.int .i64 s0, .bool s1, .int .i64 s2, .int .i64 s3, .int .i64 s4], .bool B]) (w' := wI) (by go_simp) ⟨ws, ag, cg_, ng0, ng1, hw, hB, V0, V1, V2, V3, fun _ => rfl, V5, V6, V7, V8, V9, V12, O3, B8, B9, D8, D9, E8_9⟩
      · intro b u wI ρ hI hcl hp hk hρ
        obtain ⟨ws, ag, cg_, ng0, ng1, hw, hB, V0, V1, V2, V3, V4, V5, V6, V7, V8, V9, V12, O3, B8, B9, D8, D9, E8_9⟩ := hI
        have hp2 : (b 4 && true) = true := hp
        simp only [Bool.and_eq_true, Bool.and_true] at hp2
        have p0 := hp2
        have m10 : b 10 = false := hcl.no (i := 10) rfl (k := 5) (by rfl) hk
        have m11 : b 11 = false := hcl.no (i := 11) rfl (k := 5) (by rfl) hk
        have m12 : b 12 = false := hcl.no (i := 12) rfl (k := 5) (by rfl) hk
        have r35 : ρ (.tmp 35) = .tuple #[.agg #[.slice ag L2.length cg_], .agg #[.int .i64 s0, .bool s1, .int .i64 s2, .int .i64 s3, .int .i64 s4], .bool B] := (hρ (.tmp 35) (by simp [Op.operands, Call.operands])).trans (V4 p0)
        refine RegFlow.gives_value (v := .agg #[.slice ag L2.length cg_]) (w' := wI) (by go_simp) ⟨ws, ag, cg_, ng0, ng1, hw, hB, V0, V1, V2, V3, V4, fun _ => rfl, V6, V7, V8, V9, V12, O3, B8, B9, D8, D9, E8_9⟩
      · intro b u wI ρ hI hcl hp hk hρ
        obtain ⟨ws, ag, cg_, ng0, ng1, hw, hB, V0, V1, V2, V3, V4, V5, V6, V7, V8, V9, V12, O3, B8, B9, D8, D9, E8_9⟩ := hI
        have hp2 : (b 4 && true) = true := hp
        simp only [Bool.and_eq_true, Bool.and_true] at hp2
        have p0 := hp2
        have m11 : b 11 = false := hcl.no (i := 11) rfl (k := 6) (by rfl) hk
        have m12 : b 12 = false := hcl.no (i := 12) rfl (k := 6) (by rfl) hk
        have r35 : ρ (.tmp 35) = .tuple #[.agg #[.slice ag L2.length cg_], .agg #[.int .i64 s0, .bool s1, .int .i64 s2, .int .i64 s3, .int .i64 s4], .bool B] := (hρ (.tmp 35) (by simp [Op.operands, Call.operands])).trans (V4 p0)
        refine RegFlow.gives_value (v := .agg #[.int .i64 s0, .bool s1, .int .i64 s2, .int .i64 s3, .int .i64 s4]) (w' := wI) (by go_simp) ⟨ws, ag, cg_, ng0, ng1, hw, hB, V0, V1, V2, V3, V4, V5, fun _ => rfl, V7, V8, V9, V12, O3, B8, B9, D8, D9, E8_9⟩
      · intro b u wI ρ hI hcl hp hk hρ
        obtain ⟨ws, ag, cg_, ng0, ng1, hw, hB, V0, V1, V2, V3, V4, V5, V6, V7, V8, V9, V12, O3, B8, B9, D8, D9, E8_9⟩ := hI
        have hp2 : (b 4 && true) = true := hp
        simp only [Bool.and_eq_true, Bool.and_true] at hp2
        have p0 := hp2
        have m12 : b 12 = false := hcl.no (i := 12) rfl (k := 7) (by rfl) hk
        have r35 : ρ (.tmp 35) = .tuple #[.agg #[.slice ag L2.length cg_], .agg #[.int .i64 s0, .bool s1, .int .i64 s2, .int .i64 s3, .int .i64 s4], .bool B] := (hρ (.tmp 35) (by simp [Op.operands, Call.operands])).trans (V4 p0)
        refine RegFlow.gives_value (v := .bool B) (w' := wI) (by go_simp) ⟨ws, ag, cg_, ng0, ng1, hw, hB, V0, V1, V2, V3, V4, V5, V6, fun _ => rfl, V8, V9, V12, O3, B8, B9, D8, D9, E8_9⟩
      · intro b u wI ρ hI hcl hp hk hρ
        obtain ⟨ws, ag, cg_, ng0, ng1, hw, hB, V0, V1, V2, V3, V4, V5, V6, V7, V8, V9, V12, O3, B8, B9, D8, D9, E8_9⟩ := hI
        have m10 : b 10 = false := hcl.no (i := 10) rfl (k := 8) (by rfl) hk
        have m11 : b 11 = false := hcl.no (i := 11) rfl (k := 8) (by rfl) hk
        have m12 : b 12 = false := hcl.no (i := 12) rfl (k := 8) (by rfl) hk
        rw [FlowKit.stored_no m11, FlowKit.stored_no m10] at hw
        have hw2 := hw.symm
        subst hw2
        refine RegFlow.gives_value (v := .pointer (some ⟨ws.heap.size, 0, none⟩)) (w' := ws.alloc (.cells #[.slice none 0 0] 30)) (by go_simp) ⟨ws.alloc (.cells #[.slice none 0 0] 30), ag, cg_, ws.heap.size, ng1, by rw [FlowKit.stored_no (show RegFlow.setB b 8 11 = false from m11), FlowKit.stored_no (show RegFlow.setB b 8 10 = false from m10)], hB.alloc hB.size _, V0, V1, V2, V3, V4, V5, V6, V7, fun _ => rfl, V9, V12, fun h => ⟨(O3 h).1.below (n1 ws _), (O3 h).2⟩, fun _ => ⟨boxB.new _ _ _, hB.size⟩, fun h => ⟨(B9 h).1.below (n1 ws _), (B9 h).2⟩, fun h _ x hx => Nat.ne_of_lt ((O3 h).1.lt x hx), D9, fun _ h => Nat.ne_of_gt (B9 h).1.lt⟩
      · intro b u wI ρ hI hcl hp hk hρ
        obtain ⟨ws, ag, cg_, ng0, ng1, hw, hB, V0, V1, V2, V3, V4, V5, V6, V7, V8, V9, V12, O3, B8, B9, D8, D9, E8_9⟩ := hI
        have m10 : b 10 = false := hcl.no (i := 10) rfl (k := 9) (by rfl) hk
        have m11 : b 11 = false := hcl.no (i := 11) rfl (k := 9) (by rfl) hk
        have m12 : b 12 = false := hcl.no (i := 12) rfl (k := 9) (by rfl) hk
        rw [FlowKit.stored_no m11, FlowKit.stored_no m10] at hw
        have hw2 := hw.symm
        subst hw2
        refine RegFlow.gives_value (v := .pointer (some ⟨ws.heap.size, 0, none⟩)) (w' := ws.alloc (.cells #[.int .i64 0, .bool false, .int .i64 0, .int .i64 0, .int .i64 0] 32)) (by go_simp) ⟨ws.alloc (.cells #[.int .i64 0, .bool false, .int .i64 0, .int .i64 0, .int .i64 0] 32), ag, cg_, ng0, ws.heap.size, by rw [FlowKit.stored_no (show RegFlow.setB b 9 11 = false from m11), FlowKit.stored_no (show RegFlow.setB b 9 10 = false from m10)], hB.alloc hB.size _, V0, V1, V2, V3, V4, V5, V6, V7, V8, fun _ => rfl, V12, fun h => ⟨(O3 h).1.below (n1 ws _), (O3 h).2⟩, fun h => ⟨(B8 h).1.below (n1 ws _), (B8 h).2⟩, fun _ => ⟨boxB.new _ _ _, hB.size⟩, D8, fun h _ x hx => Nat.ne_of_lt ((O3 h).1.lt x hx), fun h _ => Nat.ne_of_lt (B8 h).1.lt⟩
      · intro b u wI ρ hI hcl hp hk hρ
        obtain ⟨ws, ag, cg_, ng0, ng1, hw, hB, V0, V1, V2, V3, V4, V5, V6, V7, V8, V9, V12, O3, B8, B9, D8, D9, E8_9⟩ := hI
        have hp2 : (b 8 && (b 5 && (b 3 && (b 0 && (b 1 && (b 2 && (b 3 && (b 4 && (b 5 && (b 8 && (b 9 && true))))))))))) = true := hp
        simp only [Bool.and_eq_true, Bool.and_true] at hp2
        obtain ⟨p0, p1, p2, p3, p4, p5, p6, p7, p8, p9, p10⟩ := hp2
        have m11 : b 11 = false := hcl.no (i := 11) rfl (k := 10) (by rfl) hk
        have m12 : b 12 = false := hcl.no (i := 12) rfl (k := 10) (by rfl) hk
        rw [FlowKit.stored_no m11, FlowKit.stored_no hk] at hw
        have hw2 := hw.symm
        subst hw2
        have r10 : ρ (.tmp 10) = .pointer (some ⟨ng0, 0, none⟩) := (hρ (.tmp 10) (by simp [Op.operands, Call.operands])).trans (V8 p0)
        have r40 : ρ (.tmp 40) = .agg #[.slice ag L2.length cg_] := (hρ (.tmp 40) (by simp [Op.operands, Call.operands])).trans (V5 p1)
        have bx : boxB ws ng0 #[.slice none 0 0] 30 := (B8 p0).1
        have c0 := bx.cell 0
        have f0 := fzB bx 0
        refine RegFlow.gives_skip (w' := sets ws ng0 0 [.slice ag L2.length cg_]) (by go_simp; rfl) ?_
        exact ⟨ws, ag, cg_, ng0, ng1, by rw [FlowKit.stored_no (show RegFlow.setB b 10 11 = false from m11), FlowKit.stored_yes (show RegFlow.setB b 10 10 = true from rfl)], hB, V0, V1, V2, V3, V4, V5, V6, V7, V8, V9, V12, O3, B8, B9, D8, D9, E8_9⟩
      · intro b u wI ρ hI hcl hp hk hρ
        obtain ⟨ws, ag, cg_, ng0, ng1, hw, hB, V0, V1, V2, V3, V4, V5, V6, V7, V8, V9, V12, O3, B8, B9, D8, D9, E8_9⟩ := hI
        have hp2 : (b 9 && (b 6 && (b 10 && (b 0 && (b 1 && (b 2 && (b 3 && (b 4 && (b 5 && (b 6 && (b 8 && (b 9 && (b 10 && true))))))))))))) = true := hp
        simp only [Bool.and_eq_true, Bool.and_true] at hp2
        obtain ⟨p0, p1, p2, p3, p4, p5, p6, p7, p8, p9, p10, p11, p12⟩ := hp2
        have m12 : b 12 = false := hcl.no (i := 12) rfl (k := 11) (by rfl) hk
        rw [FlowKit.stored_no hk, FlowKit.stored_yes p2] at hw
        have hw2 := hw.symm
        subst hw2
        have r11 : ρ (.tmp 11) = .pointer (some ⟨ng1, 0, none⟩) := (hρ (.tmp 11) (by simp [Op.operands, Call.operands])).trans (V9 p0)
        have r41 : ρ (.tmp 41) = .agg #[.int .i64 s0, .bool s1, .int .i64 s2, .int .i64 s3, .int .i64 s4] := (hρ (.tmp 41) (by simp [Op.operands, Call.operands])).trans (V6 p1)
        have bx : boxB (sets ws ng0 0 [.slice ag L2.length cg_]) ng1 #[.int .i64 0, .bool false, .int .i64 0, .int .i64 0, .int .i64 0] 32 := FlowKit.box_else ((B9 p0).1) (Ne.symm (E8_9 p10 p0)) [.slice ag L2.length cg_]
        generalize hwc : (sets ws ng0 0 [.slice ag L2.length cg_]) = wc at bx ⊢
        have c0 := bx.cell 0
        have f0 := fzB bx 0
        have c1 := bx.cell 1
        have f1 := fzB bx 1
        have c2 := bx.cell 2
        have f2 := fzB bx 2
        have c3 := bx.cell 3
        have f3 := fzB bx 3
        have c4 := bx.cell 4
        have f4 := fzB bx 4
        refine RegFlow.gives_skip (w' := sets wc ng1 0 [.int .i64 s0, .bool s1, .int .i64 s2, .int .i64 s3, .int .i64 s4]) (by go_simp; rfl) ?_
        subst hwc
        exact ⟨ws, ag, cg_, ng0, ng1, by rw [FlowKit.stored_yes (show RegFlow.setB b 11 11 = true from rfl), FlowKit.stored_yes (show RegFlow.setB b 11 10 = true from p2)], hB, V0, V1, V2, V3, V4, V5, V6, V7, V8, V9, V12, O3, B8, B9, D8, D9, E8_9⟩
      · intro b u wI ρ hI hcl hp hk hρ
        obtain ⟨ws, ag, cg_, ng0, ng1, hw, hB, V0, V1, V2, V3, V4, V5, V6, V7, V8, V9, V12, O3, B8, B9, D8, D9, E8_9⟩ := hI
        have hp2 : (b 7 && (b 11 && (b 0 && (b 1 && (b 2 && (b 3 && (b 4 && (b 5 && (b 6 && (b 7 && (b 8 && (b 9 && (b 10 && (b 11 && true)))))))))))))) = true := hp
        simp only [Bool.and_eq_true, Bool.and_true] at hp2
        obtain ⟨p0, p1, p2, p3, p4, p5, p6, p7, p8, p9, p10, p11, p12, p13⟩ := hp2
        have r42 : ρ (.tmp 42) = .bool B := (hρ (.tmp 42) (by simp [Op.operands, Call.operands])).trans (V7 p0)
        refine RegFlow.gives_value (v := .bool B) (w' := wI) (by go_simp) ⟨ws, ag, cg_, ng0, ng1, hw, hB, V0, V1, V2, V3, V4, V5, V6, V7, V8, V9, fun _ => rfl, O3, B8, B9, D8, D9, E8_9⟩
      · intro u wF hI
        obtain ⟨ws, ag, cg_, ng0, ng1, hwF, hB, V0, V1, V2, V3, V4, V5, V6, V7, V8, V9, V12, O3, B8, B9, D8, D9, E8_9⟩ := hI
        have hwF2 : wF = (sets (sets ws ng0 0 [.slice ag L2.length cg_]) ng1 0 [.int .i64 s0, .bool s1, .int .i64 s2, .int .i64 s3, .int .i64 s4]) := hwF
        have e0 : u 0 = .agg #[.slice (some ⟨g2, 0, none⟩) L.length L.length] := V0 rfl
        have e1 : u 1 = .agg #[.int .i64 x, .int .i64 y] := V1 rfl
        have e2 : u 2 = .agg #[.int .i64 x, .int .i64 y] := V2 rfl
        have e3 : u 3 = .tuple #[.agg #[.slice ag L2.length cg_], .agg #[.int .i64 s0, .bool s1, .int .i64 s2, .int .i64 s3, .int .i64 s4], .bool B] := V3 rfl
        have e4 : u 4 = .tuple #[.agg #[.slice ag L2.length cg_], .agg #[.int .i64 s0, .bool s1, .int .i64 s2, .int .i64 s3, .int .i64 s4], .bool B] := V4 rfl
        have e5 : u 5 = .agg #[.slice ag L2.length cg_] := V5 rfl
        have e6 : u 6 = .agg #[.int .i64 s0, .bool s1, .int .i64 s2, .int .i64 s3, .int .i64 s4] := V6 rfl
        have e7 : u 7 = .bool B := V7 rfl
        have e8 : u 8 = .pointer (some ⟨ng0, 0, none⟩) := V8 rfl
        have e9 : u 9 = .pointer (some ⟨ng1, 0, none⟩) := V9 rfl
        have e12 : u 12 = .bool B := V12 rfl
        have O := O3 rfl
        have X8 := B8 rfl
        have Y8 := D8 rfl rfl
        have X9 := B9 rfl
        have Y9 := D9 rfl rfl
        have ZE8_9 := E8_9 rfl rfl
        have HBF : Below wX.heap.size wX wF := by rw [hwF2]; exact FlowKit.bel_sets (FlowKit.bel_sets (hB) X8.2 _) X9.2 _
        have OF : Own 32 5 cells wF ag L2 := by rw [hwF2]; exact FlowKit.own_else (FlowKit.own_else (O.1) Y8 _) Y9 _
        have BF0 : boxB wF ng0 #[.slice ag L2.length cg_] 30 := by rw [hwF2]; exact FlowKit.box_else (FlowKit.box_stored (X8.1) _ rfl) ZE8_9 _
        have BF1 : boxB wF ng1 #[.int .i64 s0, .bool s1, .int .i64 s2, .int .i64 s3, .int .i64 s4] 32 := by rw [hwF2]; exact FlowKit.box_stored (FlowKit.box_else (X9.1) (Ne.symm ZE8_9) _) _ rfl
        have HSF : wF.heap.size = ws.heap.size := by rw [hwF2]; simp only [FlowKit.sets_size]
        have H4 : Hid (Bel W wF ∧ boxB wF W.heap.size #[.slice a L.length c] 24 ∧ boxB wF (W.heap.size + 1) #[.int .i64 x, .int .i64 y] 26 ∧ Own 32 5 cells wF aw L2 ∧ boxB wF nw0 #[.slice aw L2.length cw_] 30 ∧ boxB wF nw1 #[.int .i64 s0, .bool s1, .int .i64 s2, .int .i64 s3, .int .i64 s4] 32 ∧ Row 32 5 cells wF g2 0 L ∧ boxB wF Nx #[.slice (some ⟨g2, 0, none⟩) L.length L.length] 30 ∧ Own 32 5 cells wF ag L2 ∧ boxB wF ng0 #[.slice ag L2.length cg_] 30 ∧ boxB wF ng1 #[.int .i64 s0, .bool s1, .int .i64 s2, .int .i64 s3, .int .i64 s4] 32) := ⟨H3.out.1.below HBF, H3.out.2.1.below HBF, H3.out.2.2.1.below HBF, H3.out.2.2.2.1.below HBF, H3.out.2.2.2.2.1.below HBF, H3.out.2.2.2.2.2.1.below HBF, H3.out.2.2.2.2.2.2.1.below HBF, H3.out.2.2.2.2.2.2.2.below HBF, OF, BF0, BF1⟩
        have HQg : Hid ((∀ x, blkL ag L2 = some x → wX.heap.size ≤ x ∧ x < wF.heap.size ∧ x ≠ ng0 ∧ x ≠ ng1) ∧ wX.heap.size ≤ wF.heap.size ∧ wX.heap.size ≤ ng0 ∧ ng0 < wF.heap.size ∧ wX.heap.size ≤ ng1 ∧ ng1 < wF.heap.size ∧ ng0 ≠ ng1) := ⟨fun x hx => ⟨O.2 x hx, by rw [HSF]; exact O.1.lt x hx, Y8 x hx, Y9 x hx⟩, HBF.size, X8.2, by rw [HSF]; exact X8.1.lt, X9.2, by rw [HSF]; exact X9.1.lt, ZE8_9⟩
        simp only [RegFlow.fin, Act.put, e0, e1, e2, e3, e4, e5, e6, e7, e8, e9, e12]
        clear e0 e1 e2 e3 e4 e5 e6 e7 e8 e9 e12 V0 V1 V2 V3 V4 V5 V6 V7 V8 V9 V12 O3 B8 B9 D8 D9 E8_9 O X8 Y8 X9 Y9 ZE8_9 HBF OF HSF hwF2 hwF hB BF0 BF1 H3 u
        obtain ⟨wg, rfl⟩ : ∃ v, v = wF := ⟨_, rfl⟩
        have d0 := H4.out.2.2.2.2.2.2.2.2.2.1.cell 0
        have e0 := H4.out.2.2.2.2.1.cell 0
        go_wp2_with fail
        refine (eq_ledger _ _ _ _ L2 _ H4.out.2.2.2.2.2.2.2.2.1 H4.out.2.2.2.1 HPL.out).mono ?_
        rintro e w3 ⟨rfl, b3⟩
        have H5 : Hid (Bel W w3 ∧ boxB w3 W.heap.size #[.slice a L.length c] 24 ∧ boxB w3 (W.heap.size + 1) #[.int .i64 x, .int .i64 y] 26 ∧ Own 32 5 cells w3 aw L2 ∧ boxB w3 nw0 #[.slice aw L2.length cw_] 30 ∧ boxB w3 nw1 #[.int .i64 s0, .bool s1, .int .i64 s2, .int .i64 s3, .int .i64 s4] 32 ∧ Row 32 5 cells w3 g2 0 L ∧ boxB w3 Nx #[.slice (some ⟨g2, 0, none⟩) L.length L.length] 30 ∧ Own 32 5 cells w3 ag L2 ∧ boxB w3 ng0 #[.slice ag L2.length cg_] 30 ∧ boxB w3 ng1 #[.int .i64 s0, .bool s1, .int .i64 s2, .int .i64 s3, .int .i64 s4] 32) := ⟨H4.out.1.below b3, H4.out.2.1.below b3, H4.out.2.2.1.below b3, H4.out.2.2.2.1.below b3, H4.out.2.2.2.2.1.below b3, H4.out.2.2.2.2.2.1.below b3, H4.out.2.2.2.2.2.2.1.below b3, H4.out.2.2.2.2.2.2.2.1.below b3, H4.out.2.2.2.2.2.2.2.2.1.below b3, H4.out.2.2.2.2.2.2.2.2.2.1.below b3, H4.out.2.2.2.2.2.2.2.2.2.2.below b3⟩
        clear d0 e0 b3 H4
        have d0 := H5.out.2.2.2.2.2.2.2.2.2.2.cell 0
        have d1 := H5.out.2.2.2.2.2.2.2.2.2.2.cell 1
        have d2 := H5.out.2.2.2.2.2.2.2.2.2.2.cell 2
        have d3 := H5.out.2.2.2.2.2.2.2.2.2.2.cell 3
        have d4 := H5.out.2.2.2.2.2.2.2.2.2.2.cell 4
        have e0 := H5.out.2.2.2.2.2.1.cell 0
        have e1 := H5.out.2.2.2.2.2.1.cell 1
        have e2 := H5.out.2.2.2.2.2.1.cell 2
        have e3 := H5.out.2.2.2.2.2.1.cell 3
        have e4 := H5.out.2.2.2.2.2.1.cell 4
        go_wp2_with fail
        refine (eq_one s0 s1 s2 s3 s4 _).mono ?_
        rintro e w4 ⟨rfl, b4⟩
        have H6 : Hid (Bel W w4.drew ∧ boxB w4.drew W.heap.size #[.slice a L.length c] 24 ∧ boxB w4.drew (W.heap.size + 1) #[.int .i64 x, .int .i64 y] 26 ∧ Own 32 5 cells w4.drew aw L2 ∧ boxB w4.drew nw0 #[.slice aw L2.length cw_] 30 ∧ boxB w4.drew nw1 #[.int .i64 s0, .bool s1, .int .i64 s2, .int .i64 s3, .int .i64 s4] 32 ∧ Row 32 5 cells w4.drew g2 0 L ∧ boxB w4.drew Nx #[.slice (some ⟨g2, 0, none⟩) L.length L.length] 30 ∧ Own 32 5 cells w4.drew ag L2 ∧ boxB w4.drew ng0 #[.slice ag L2.length cg_] 30 ∧ boxB w4.drew ng1 #[.int .i64 s0, .bool s1, .int .i64 s2, .int .i64 s3, .int .i64 s4] 32) := ⟨H5.out.1.below b4.drew, H5.out.2.1.below b4.drew, H5.out.2.2.1.below b4.drew, H5.out.2.2.2.1.below b4.drew, H5.out.2.2.2.2.1.below b4.drew, H5.out.2.2.2.2.2.1.below b4.drew, H5.out.2.2.2.2.2.2.1.below b4.drew, H5.out.2.2.2.2.2.2.2.1.below b4.drew, H5.out.2.2.2.2.2.2.2.2.1.below b4.drew, H5.out.2.2.2.2.2.2.2.2.2.1.below b4.drew, H5.out.2.2.2.2.2.2.2.2.2.2.below b4.drew⟩
        clear d0 d1 d2 d3 d4 e0 e1 e2 e3 e4 b4 H5
        have c0 := H6.out.2.1.cell 0
        have x0 := H6.out.2.2.2.2.2.2.2.1.cell 0
        go_wp2
        go_region_with (first | (go_at_call 6; refine (to_ledger a c L _ (H6.out.1.arg HA.out) HL.out).mono ?_; rintro e w5 ⟨g3, rfl, _, r3, b5⟩; have H7 : Hid (Bel W w5 ∧ boxB w5 W.heap.size #[.slice a L.length c] 24 ∧ boxB w5 (W.heap.size + 1) #[.int .i64 x, .int .i64 y] 26 ∧ Own 32 5 cells w5 aw L2 ∧ boxB w5 nw0 #[.slice aw L2.length cw_] 30 ∧ boxB w5 nw1 #[.int .i64 s0, .bool s1, .int .i64 s2, .int .i64 s3, .int .i64 s4] 32 ∧ Row 32 5 cells w5 g2 0 L ∧ boxB w5 Nx #[.slice (some ⟨g2, 0, none⟩) L.length L.length] 30 ∧ Own 32 5 cells w5 ag L2 ∧ boxB w5 ng0 #[.slice ag L2.length cg_] 30 ∧ boxB w5 ng1 #[.int .i64 s0, .bool s1, .int .i64 s2, .int .i64 s3, .int .i64 s4] 32 ∧ Row 32 5 cells w5 g3 0 L) := ⟨H6.out.1.below b5, H6.out.2.1.below b5, H6.out.2.2.1.below b5, H6.out.2.2.2.1.below b5, H6.out.2.2.2.2.1.below b5, H6.out.2.2.2.2.2.1.below b5, H6.out.2.2.2.2.2.2.1.below b5, H6.out.2.2.2.2.2.2.2.1.below b5, H6.out.2.2.2.2.2.2.2.2.1.below b5, H6.out.2.2.2.2.2.2.2.2.2.1.below b5, H6.out.2.2.2.2.2.2.2.2.2.2.below b5, r3⟩; have y0 := H7.out.2.2.2.2.2.2.2.1.cell 0; clear b5 r3) | (go_at_call 9; refine (eq_ledger _ _ _ _ L _ (Or.inr ⟨g2, 0, rfl, H7.out.2.2.2.2.2.2.1⟩) (Or.inr ⟨g3, 0, rfl, H7.out.2.2.2.2.2.2.2.2.2.2.2⟩) HL.out).mono ?_; rintro e w6 ⟨rfl, b6⟩; have H8 : Hid (Bel W w6 ∧ boxB w6 W.heap.size #[.slice a L.length c] 24 ∧ boxB w6 (W.heap.size + 1) #[.int .i64 x, .int .i64 y] 26 ∧ Own 32 5 cells w6 aw L2 ∧ boxB w6 nw0 #[.slice aw L2.length cw_] 30 ∧ boxB w6 nw1 #[.int .i64 s0, .bool s1, .int .i64 s2, .int .i64 s3, .int .i64 s4] 32 ∧ Row 32 5 cells w6 g2 0 L ∧ boxB w6 Nx #[.slice (some ⟨g2, 0, none⟩) L.length L.length] 30 ∧ Own 32 5 cells w6 ag L2 ∧ boxB w6 ng0 #[.slice ag L2.length cg_] 30 ∧ boxB w6 ng1 #[.int .i64 s0, .bool s1, .int .i64 s2, .int .i64 s3, .int .i64 s4] 32) := ⟨H7.out.1.below b6, H7.out.2.1.below b6, H7.out.2.2.1.below b6, H7.out.2.2.2.1.below b6, H7.out.2.2.2.2.1.below b6, H7.out.2.2.2.2.2.1.below b6, H7.out.2.2.2.2.2.2.1.below b6, H7.out.2.2.2.2.2.2.2.1.below b6, H7.out.2.2.2.2.2.2.2.2.1.below b6, H7.out.2.2.2.2.2.2.2.2.2.1.below b6, H7.out.2.2.2.2.2.2.2.2.2.2.1.below b6⟩; clear b6))
        all_goals
          clear c0 x0 y0 H6 H7
          have x0 := H8.out.2.2.2.2.2.2.2.1.cell 0
          go_wp2_with fail
          refine (mark_ledger _ _ L _ (Or.inr ⟨g2, 0, rfl, H8.out.2.2.2.2.2.2.1⟩) HL.out).mono ?_
          rintro e w7 ⟨rfl, _, gr7⟩
          have ne7r : ∀ k, blkL (some ⟨g2, 0, none⟩) L = some k → k = g2 := fun k hk => by
            cases L with
            | nil => simp [blkL] at hk
            | cons q L9 => simp [blkL] at hk; exact hk.symm
          have ne7 : ∀ k, k ≠ g2 → some k ≠ blkL (some ⟨g2, 0, none⟩) L := fun k hk e => hk (ne7r k e.symm)
          have H9 : Hid (Bel W w7 ∧ boxB w7 W.heap.size #[.slice a L.length c] 24 ∧ boxB w7 (W.heap.size + 1) #[.int .i64 x, .int .i64 y] 26 ∧ Own 32 5 cells w7 aw L2 ∧ boxB w7 nw0 #[.slice aw L2.length cw_] 30 ∧ boxB w7 nw1 #[.int .i64 s0, .bool s1, .int .i64 s2, .int .i64 s3, .int .i64 s4] 32 ∧ Own 32 5 cells w7 ag L2 ∧ boxB w7 ng0 #[.slice ag L2.length cg_] 30 ∧ boxB w7 ng1 #[.int .i64 s0, .bool s1, .int .i64 s2, .int .i64 s3, .int .i64 s4] 32) := by
            have o0 := HZ1.out
            have o1 := HQw.out.2
            have o2 := HQx.out
            have o3 := HYx.out
            have o4 := HQg.out.2
            exact ⟨H8.out.1.grown gr7 (fun k hk => by have := ne7r k hk; omega), H8.out.2.1.grown gr7 (ne7 _ (by omega)), H8.out.2.2.1.grown gr7 (ne7 _ (by omega)), H8.out.2.2.2.1.grown gr7 (fun b hb => ne7 b (by have := HQw.out.1 b hb; omega)), H8.out.2.2.2.2.1.grown gr7 (ne7 _ (by omega)), H8.out.2.2.2.2.2.1.grown gr7 (ne7 _ (by omega)), H8.out.2.2.2.2.2.2.2.2.1.grown gr7 (fun b hb => ne7 b (by have := HQg.out.1 b hb; omega)), H8.out.2.2.2.2.2.2.2.2.2.1.grown gr7 (ne7 _ (by omega)), H8.out.2.2.2.2.2.2.2.2.2.2.grown gr7 (ne7 _ (by omega))⟩
          clear x0 gr7 ne7 ne7r H8
          have d0 := H9.out.2.2.2.2.2.2.2.1.cell 0
          have e0 := H9.out.2.2.2.2.1.cell 0
          go_wp2_with fail
          refine (eq_ledger _ _ _ _ L2 _ H9.out.2.2.2.2.2.2.1 H9.out.2.2.2.1 HPL.out).mono ?_
          rintro e w8 ⟨rfl, b8⟩
          have H10 : Hid (Bel W w8 ∧ boxB w8 W.heap.size #[.slice a L.length c] 24 ∧ boxB w8 (W.heap.size + 1) #[.int .i64 x, .int .i64 y] 26 ∧ Own 32 5 cells w8 aw L2 ∧ boxB w8 nw0 #[.slice aw L2.length cw_] 30 ∧ boxB w8 nw1 #[.int .i64 s0, .bool s1, .int .i64 s2, .int .i64 s3, .int .i64 s4] 32 ∧ Own 32 5 cells w8 ag L2 ∧ boxB w8 ng0 #[.slice ag L2.length cg_] 30 ∧ boxB w8 ng1 #[.int .i64 s0, .bool s1, .int .i64 s2, .int .i64 s3, .int .i64 s4] 32) := ⟨H9.out.1.below b8, H9.out.2.1.below b8, H9.out.2.2.1.below b8, H9.out.2.2.2.1.below b8, H9.out.2.2.2.2.1.below b8, H9.out.2.2.2.2.2.1.below b8, H9.out.2.2.2.2.2.2.1.below b8, H9.out.2.2.2.2.2.2.2.1.below b8, H9.out.2.2.2.2.2.2.2.2.below b8⟩
          clear d0 e0 b8 H9
          have d0 := H10.out.2.2.2.2.2.2.2.2.cell 0
          have d1 := H10.out.2.2.2.2.2.2.2.2.cell 1
          have d2 := H10.out.2.2.2.2.2.2.2.2.cell 2
          have d3 := H10.out.2.2.2.2.2.2.2.2.cell 3
          have d4 := H10.out.2.2.2.2.2.2.2.2.cell 4
          have e0 := H10.out.2.2.2.2.2.1.cell 0
          have e1 := H10.out.2.2.2.2.2.1.cell 1
          have e2 := H10.out.2.2.2.2.2.1.cell 2
          have e3 := H10.out.2.2.2.2.2.1.cell 3
          have e4 := H10.out.2.2.2.2.2.1.cell 4
          go_wp2_with fail
          refine (eq_one s0 s1 s2 s3 s4 _).mono ?_
          rintro e w9 ⟨rfl, b9⟩
          have H11 : Hid (Bel W w9 ∧ boxB w9 W.heap.size #[.slice a L.length c] 24 ∧ boxB w9 (W.heap.size + 1) #[.int .i64 x, .int .i64 y] 26 ∧ Own 32 5 cells w9 aw L2 ∧ boxB w9 nw0 #[.slice aw L2.length cw_] 30 ∧ boxB w9 nw1 #[.int .i64 s0, .bool s1, .int .i64 s2, .int .i64 s3, .int .i64 s4] 32 ∧ Own 32 5 cells w9 ag L2 ∧ boxB w9 ng0 #[.slice ag L2.length cg_] 30 ∧ boxB w9 ng1 #[.int .i64 s0, .bool s1, .int .i64 s2, .int .i64 s3, .int .i64 s4] 32) := ⟨H10.out.1.below b9, H10.out.2.1.below b9, H10.out.2.2.1.below b9, H10.out.2.2.2.1.below b9, H10.out.2.2.2.2.1.below b9, H10.out.2.2.2.2.2.1.below b9, H10.out.2.2.2.2.2.2.1.below b9, H10.out.2.2.2.2.2.2.2.1.below b9, H10.out.2.2.2.2.2.2.2.2.below b9⟩
          clear d0 d1 d2 d3 d4 e0 e1 e2 e3 e4 b9 H10
          have z0 := H11.out.2.2.2.2.2.2.2.1.cell 0
          go_wp2_with fail
          refine (mark_ledger _ _ L2 _ H11.out.2.2.2.2.2.2.1 HPL.out).mono ?_
          rintro e w10 ⟨rfl, m10, gr10⟩
          have ne10r : ∀ k, blkL ag L2 = some k → wX.heap.size ≤ k := fun k hk => (HQg.out.1 k hk).1
          have ne10 : ∀ k, (k < wX.heap.size ∨ k = ng0 ∨ k = ng1) → some k ≠ blkL ag L2 := fun k hk e => by have := HQg.out.1 k e.symm; omega
          have H12 : Hid (Bel W w10 ∧ boxB w10 W.heap.size #[.slice a L.length c] 24 ∧ boxB w10 (W.heap.size + 1) #[.int .i64 x, .int .i64 y] 26 ∧ Own 32 5 cells w10 aw L2 ∧ boxB w10 nw0 #[.slice aw L2.length cw_] 30 ∧ boxB w10 nw1 #[.int .i64 s0, .bool s1, .int .i64 s2, .int .i64 s3, .int .i64 s4] 32 ∧ Own 32 5 cells w10 ag (marks 1 L2.length) ∧ boxB w10 ng0 #[.slice ag L2.length cg_] 30 ∧ boxB w10 ng1 #[.int .i64 s0, .bool s1, .int .i64 s2, .int .i64 s3, .int .i64 s4] 32) := by
            have o0 := HZ1.out
            have o1 := HQw.out.2
            have o2 := HQx.out
            have o3 := HYx.out
            have o4 := HQg.out.2
            exact ⟨H11.out.1.grown gr10 (fun k hk => by have := ne10r k hk; omega), H11.out.2.1.grown gr10 (ne10 _ (by omega)), H11.out.2.2.1.grown gr10 (ne10 _ (by omega)), H11.out.2.2.2.1.grown gr10 (fun b hb => ne10 b (by have := HQw.out.1 b hb; omega)), H11.out.2.2.2.2.1.grown gr10 (ne10 _ (by omega)), H11.out.2.2.2.2.2.1.grown gr10 (ne10 _ (by omega)), m10, H11.out.2.2.2.2.2.2.2.1.grown gr10 (ne10 _ (by omega)), H11.out.2.2.2.2.2.2.2.2.grown gr10 (ne10 _ (by omega))⟩
          clear z0 gr10 ne10 ne10r m10 H11
          have z0 := H12.out.2.2.2.2.2.2.2.1.cell 0
          go_wp2_with fail
          refine (held_ledger ag cg_ L2.length _ H12.out.2.2.2.2.2.2.1 HPL.out).mono ?_
          rintro e w11 ⟨rfl, b11⟩
          have H13 : Hid (Bel W w11 ∧ boxB w11 W.heap.size #[.slice a L.length c] 24 ∧ boxB w11 (W.heap.size + 1) #[.int .i64 x, .int .i64 y] 26 ∧ Own 32 5 cells w11 aw L2 ∧ boxB w11 nw0 #[.slice aw L2.length cw_] 30 ∧ boxB w11 nw1 #[.int .i64 s0, .bool s1, .int .i64 s2, .int .i64 s3, .int .i64 s4] 32 ∧ Own 32 5 cells w11 ag (marks 1 L2.length) ∧ boxB w11 ng0 #[.slice ag L2.length cg_] 30 ∧ boxB w11 ng1 #[.int .i64 s0, .bool s1, .int .i64 s2, .int .i64 s3, .int .i64 s4] 32) := ⟨H12.out.1.below b11, H12.out.2.1.below b11, H12.out.2.2.1.below b11, H12.out.2.2.2.1.below b11, H12.out.2.2.2.2.1.below b11, H12.out.2.2.2.2.2.1.below b11, H12.out.2.2.2.2.2.2.1.below b11, H12.out.2.2.2.2.2.2.2.1.below b11, H12.out.2.2.2.2.2.2.2.2.below b11⟩
          clear z0 b11 H12
          go_upto_region 24 with fail
          refine RegFlow.wp_region_flow (fun b u wI => ∃ (ws : World) (gh1 : Nat) (ah : Option Addr) (ch_ : Nat) (nh0 : Nat) (nh1 : Nat), wI = (FlowKit.Stored (b 12) (FlowKit.Stored (b 11) ws nh0 [.slice ah L2.length ch_]) nh1 [.int .i64 s0, .bool s1, .int .i64 s2, .int .i64 s3, .int .i64 s4]) ∧ Below w11.heap.size w11 ws ∧ (b 0 = true → u 0 = .agg #[.slice a L.length c]) ∧ (b 1 = true → u 1 = .agg #[.slice (some ⟨gh1, 0, none⟩) L.length L.length]) ∧ (b 2 = true → u 2 = .agg #[.int .i64 x, .int .i64 y]) ∧ (b 3 = true → u 3 = .agg #[.int .i64 x, .int .i64 y]) ∧ (b 4 = true → u 4 = .tuple #[.agg #[.slice ah L2.length ch_], .agg #[.int .i64 s0, .bool s1, .int .i64 s2, .int .i64 s3, .int .i64 s4], .bool B]) ∧ (b 5 = true → u 5 = .tuple #[.agg #[.slice ah L2.length ch_], .agg #[.int .i64 s0, .bool s1, .int .i64 s2, .int .i64 s3, .int .i64 s4], .bool B]) ∧ (b 6 = true → u 6 = .agg #[.slice ah L2.length ch_]) ∧ (b 7 = true → u 7 = .agg #[.int .i64 s0, .bool s1, .int .i64 s2, .int .i64 s3, .int .i64 s4]) ∧ (b 8 = true → u 8 = .bool B) ∧ (b 9 = true → u 9 = .pointer (some ⟨nh0, 0, none⟩)) ∧ (b 10 = true → u 10 = .pointer (some ⟨nh1, 0, none⟩)) ∧ (b 13 = true → u 13 = .bool B) ∧ (b 1 = true → Row 32 5 cells ws gh1 0 L) ∧ (b 4 = true → Own 32 5 cells ws ah L2 ∧ (∀ x, blkL ah L2 = some x → w11.heap.size ≤ x)) ∧ (b 9 = true → boxB ws nh0 #[.slice none 0 0] 30 ∧ w11.heap.size ≤ nh0) ∧ (b 10 = true → boxB ws nh1 #[.int .i64 0, .bool false, .int .i64 0, .int .i64 0, .int .i64 0] 32 ∧ w11.heap.size ≤ nh1) ∧ (b 4 = true → b 9 = true → ∀ x, blkL ah L2 = some x → x ≠ nh0) ∧ (b 4 = true → b 10 = true → ∀ x, blkL ah L2 = some x → x ≠ nh1) ∧ (b 9 = true → b 10 = true → nh0 ≠ nh1)) (by kernel_rfl) (by kernel_rfl) (by rfl) ⟨w11.drew, 0, none, 0, 0, 0, rfl, (Below.refl _ _).drew, fun h => FlowKit.no_way rfl h, fun h => FlowKit.no_way rfl h, fun h => FlowKit.no_way rfl h, fun h => FlowKit.no_way rfl h, fun h => FlowKit.no_way rfl h, fun h => FlowKit.no_way rfl h, fun h => FlowKit.no_way rfl h, fun h => FlowKit.no_way rfl h, fun h => FlowKit.no_way rfl h, fun h => FlowKit.no_way rfl h, fun h => FlowKit.no_way rfl h, fun h => FlowKit.no_way rfl h, fun h => FlowKit.no_way rfl h, fun h => FlowKit.no_way rfl h, fun h => FlowKit.no_way rfl h, fun h => FlowKit.no_way rfl h, fun h => FlowKit.no_way rfl h, fun h => FlowKit.no_way rfl h, fun h => FlowKit.no_way rfl h⟩ ⟨?_, ?_, ?_, ?_, ?_, ?_, ?_, ?_, ?_, ?_, ?_, ?_, ?_, ?_, trivial⟩ ?_
          · intro b u wI ρ hI hcl hp hk hρ
            obtain ⟨ws, gh1, ah, ch_, nh0, nh1, hw, hB, V0, V1, V2, V3, V4, V5, V6, V7, V8, V9, V10, V13, R1, O4, B9, B10, D9, D10, E9_10⟩ := hI
            have m1 : b 1 = false := hcl.no (i := 1) rfl (k := 0) (by rfl) hk
            have m3 : b 3 = false := hcl.no (i := 3) rfl (k := 1) (by rfl) m1
            have m4 : b 4 = false := hcl.no (i := 4) rfl (k := 1) (by rfl) m1
            have m5 : b 5 = false := hcl.no (i := 5) rfl (k := 4) (by rfl) m4
            have m6 : b 6 = false := hcl.no (i := 6) rfl (k := 5) (by rfl) m5
            have m7 : b 7 = false := hcl.no (i := 7) rfl (k := 5) (by rfl) m5
            have m8 : b 8 = false := hcl.no (i := 8) rfl (k := 5) (by rfl) m5
            have m11 : b 11 = false := hcl.no (i := 11) rfl (k := 0) (by rfl) hk
            have m12 : b 12 = false := hcl.no (i := 12) rfl (k := 0) (by rfl) hk
            have m13 : b 13 = false := hcl.no (i := 13) rfl (k := 0) (by rfl) hk
            rw [FlowKit.stored_no m12, FlowKit.stored_no m11] at hw
            have hw2 := hw.symm
            subst hw2
            have r2 : ρ (.tmp 2) = .pointer (some ⟨W.heap.size, 0, none⟩) := hρ (.tmp 2) (by simp [Op.operands, Call.operands])
            have c0 := (H13.out.2.1.below hB).cell 0
            refine RegFlow.gives_value (v := .agg #[.slice a L.length c]) (w' := ws) (by go_simp) ⟨ws, gh1, ah, ch_, nh0, nh1, by rw [FlowKit.stored_no (show RegFlow.setB b 0 12 = false from m12), FlowKit.stored_no (show RegFlow.setB b 0 11 = false from m11)], hB, fun _ => rfl, V1, V2, V3, V4, V5, V6, V7, V8, V9, V10, V13, R1, O4, B9, B10, D9, D10, E9_10⟩
          · intro b u wI ρ hI hcl hp hk hρ
            obtain ⟨ws, gh1, ah, ch_, nh0, nh1, hw, hB, V0, V1, V2, V3, V4, V5, V6, V7, V8, V9, V10, V13, R1, O4, B9, B10, D9, D10, E9_10⟩ := hI
            have hp2 : (b 0 && true) = true := hp
            simp only [Bool.and_eq_true, Bool.and_true] at hp2
            have p0 := hp2
            have m3 : b 3 = false := hcl.no (i := 3) rfl (k := 1) (by rfl) hk
            have m4 : b 4 = false := hcl.no (i := 4) rfl (k := 1) (by rfl) hk
            have m5 : b 5 = false := hcl.no (i := 5) rfl (k := 4) (by rfl) m4
            have m6 : b 6 = false := hcl.no (i := 6) rfl (k := 5) (by rfl) m5
            have m7 : b 7 = false := hcl.no (i := 7) rfl (k := 5) (by rfl) m5
            have m8 : b 8 = false := hcl.no (i := 8) rfl (k := 5) (by rfl) m5
            have m11 : b 11 = false := hcl.no (i := 11) rfl (k := 1) (by rfl) hk
            have m12 : b 12 = false := hcl.no (i := 12) rfl (k := 1) (by rfl) hk
            have m13 : b 13 = false := hcl.no (i := 13) rfl (k := 1) (by rfl) hk
            rw [FlowKit.stored_no m12, FlowKit.stored_no m11] at hw
            have hw2 := hw.symm
            subst hw2
            have r97 : ρ (.tmp 97) = .agg #[.slice a L.length c] := (hρ (.tmp 97) (by simp [Op.operands, Call.operands])).trans (V0 p0)
            have rf : ρ (.func 6) = .func (.func 6) #[] #[] := hρ (.func 6) (by simp [Op.operands, Call.operands])
            refine RegFlow.gives_call (f := 6) (args := #[.agg #[.slice a L.length c]]) (w' := ws) (by go_simp) (to_ledger a c L ws ((H13.out.1.below hB).arg HA.out) HL.out) ?_
            rintro e wN ⟨gN, rfl, hg, r, hb⟩
            exact ⟨_, rfl, wN, gN, ah, ch_, nh0, nh1, by rw [FlowKit.stored_no (show RegFlow.setB b 1 12 = false from m12), FlowKit.stored_no (show RegFlow.setB b 1 11 = false from m11)], hB.trans (hb.mono hB.size), V0, fun _ => rfl, V2, fun h => FlowKit.no_way m3 h, fun h => FlowKit.no_way m4 h, fun h => FlowKit.no_way m5 h, fun h => FlowKit.no_way m6 h, fun h => FlowKit.no_way m7 h, fun h => FlowKit.no_way m8 h, V9, V10, fun h => FlowKit.no_way m13 h, fun _ => r, fun h => ⟨(O4 h).1.below hb, (O4 h).2⟩, fun h => ⟨(B9 h).1.below hb, (B9 h).2⟩, fun h => ⟨(B10 h).1.below hb, (B10 h).2⟩, D9, D10, E9_10⟩
          · intro b u wI ρ hI hcl hp hk hρ
            obtain ⟨ws, gh1, ah, ch_, nh0, nh1, hw, hB, V0, V1, V2, V3, V4, V5, V6, V7, V8, V9, V10, V13, R1, O4, B9, B10, D9, D10, E9_10⟩ := hI
            have m3 : b 3 = false := hcl.no (i := 3) rfl (k := 2) (by rfl) hk
            have m4 : b 4 = false := hcl.no (i := 4) rfl (k := 3) (by rfl) m3
            have m5 : b 5 = false := hcl.no (i := 5) rfl (k := 4) (by rfl) m4
            have m6 : b 6 = false := hcl.no (i := 6) rfl (k := 5) (by rfl) m5
            have m7 : b 7 = false := hcl.no (i := 7) rfl (k := 5) (by rfl) m5
            have m8 : b 8 = false := hcl.no (i := 8) rfl (k := 5) (by rfl) m5
            have m11 : b 11 = false := hcl.no (i := 11) rfl (k := 2) (by rfl) hk
            have m12 : b 12 = false := hcl.no (i := 12) rfl (k := 2) (by rfl) hk
            have m13 : b 13 = false := hcl.no (i := 13) rfl (k := 2) (by rfl) hk
            rw [FlowKit.stored_no m12, FlowKit.stored_no m11] at hw
            have hw2 := hw.symm
            subst hw2
            have r3 : ρ (.tmp 3) = .pointer (some ⟨W.heap.size + 1, 0, none⟩) := hρ (.tmp 3) (by simp [Op.operands, Call.operands])
            have c0 := (H13.out.2.2.1.below hB).cell 0
            have c1 := (H13.out.2.2.1.below hB).cell 1
            refine RegFlow.gives_value (v := .agg #[.int .i64 x, .int .i64 y]) (w' := ws) (by go_simp) ⟨ws, gh1, ah, ch_, nh0, nh1, by rw [FlowKit.stored_no (show RegFlow.setB b 2 12 = false from m12), FlowKit.stored_no (show RegFlow.setB b 2 11 = false from m11)], hB, V0, V1, fun _ => rfl, V3, V4, V5, V6, V7, V8, V9, V10, V13, R1, O4, B9, B10, D9, D10, E9_10⟩
          · intro b u wI ρ hI hcl hp hk hρ
            obtain ⟨ws, gh1, ah, ch_, nh0, nh1, hw, hB, V0, V1, V2, V3, V4, V5, V6, V7, V8, V9, V10, V13, R1, O4, B9, B10, D9, D10, E9_10⟩ := hI
            have hp2 : (b 2 && (b 1 && true)) = true := hp
            simp only [Bool.and_eq_true, Bool.and_true] at hp2
            obtain ⟨p0, p1⟩ := hp2
            have m4 : b 4 = false := hcl.no (i := 4) rfl (k := 3) (by rfl) hk
            have m5 : b 5 = false := hcl.no (i := 5) rfl (k := 4) (by rfl) m4
            have m6 : b 6 = false := hcl.no (i := 6) rfl (k := 5) (by rfl) m5
            have m7 : b 7 = false := hcl.no (i := 7) rfl (k := 5) (by rfl) m5
            have m8 : b 8 = false := hcl.no (i := 8) rfl (k := 5) (by rfl) m5
            have m11 : b 11 = false := hcl.no (i := 11) rfl (k := 3) (by rfl) hk
            have m12 : b 12 = false := hcl.no (i := 12) rfl (k := 3) (by rfl) hk
            have m13 : b 13 = false := hcl.no (i := 13) rfl (k := 3) (by rfl) hk
            rw [FlowKit.stored_no m12, FlowKit.stored_no m11] at hw
            have hw2 := hw.symm
            subst hw2
            have r99 : ρ (.tmp 99) = .agg #[.int .i64 x, .int .i64 y] := (hρ (.tmp 99) (by simp [Op.operands, Call.operands])).trans (V2 p0)
            have rf : ρ (.func 7) = .func (.func 7) #[] #[] := hρ (.func 7) (by simp [Op.operands, Call.operands])
            refine RegFlow.gives_call (f := 7) (args := #[.agg #[.int .i64 x, .int .i64 y]]) (w' := ws) (by go_simp) (to_permit x y ws) ?_
            rintro e wN ⟨rfl, hb⟩
            exact ⟨_, rfl, wN, gh1, ah, ch_, nh0, nh1, by rw [FlowKit.stored_no (show RegFlow.setB b 3 12 = false from m12), FlowKit.stored_no (show RegFlow.setB b 3 11 = false from m11)], hB.trans (hb.mono hB.size), V0, V1, V2, fun _ => rfl, V4, V5, V6, V7, V8, V9, V10, V13, fun h => (R1 h).below hb, fun h => ⟨(O4 h).1.below hb, (O4 h).2⟩, fun h => ⟨(B9 h).1.below hb, (B9 h).2⟩, fun h => ⟨(B10 h).1.below hb, (B10 h).2⟩, D9, D10, E9_10⟩
          · intro b u wI ρ hI hcl hp hk hρ
            obtain ⟨ws, gh1, ah, ch_, nh0, nh1, hw, hB, V0, V1, V2, V3, V4, V5, V6, V7, V8, V9, V10, V13, R1, O4, B9, B10, D9, D10, E9_10⟩ := hI
            have hp2 : (b 1 && (b 3 && (b 3 && true))) = true := hp
            simp only [Bool.and_eq_true, Bool.and_true] at hp2
            obtain ⟨p0, p1, p2⟩ := hp2
            have m5 : b 5 = false := hcl.no (i := 5) rfl (k := 4) (by rfl) hk
            have m6 : b 6 = false := hcl.no (i := 6) rfl (k := 5) (by rfl) m5
            have m7 : b 7 = false := hcl.no (i := 7) rfl (k := 5) (by rfl) m5
            have m8 : b 8 = false := hcl.no (i := 8) rfl (k := 5) (by rfl) m5
            have m11 : b 11 = false := hcl.no (i := 11) rfl (k := 4) (by rfl) hk
            have m12 : b 12 = false := hcl.no (i := 12) rfl (k := 4) (by rfl) hk
            have m13 : b 13 = false := hcl.no (i := 13) rfl (k := 4) (by rfl) hk
            rw [FlowKit.stored_no m12, FlowKit.stored_no m11] at hw
            have hw2 := hw.symm
            subst hw2
            have r98 : ρ (.tmp 98) = .agg #[.slice (some ⟨gh1, 0, none⟩) L.length L.length] := (hρ (.tmp 98) (by simp [Op.operands, Call.operands])).trans (V1 p0)
            have r100 : ρ (.tmp 100) = .agg #[.int .i64 x, .int .i64 y] := (hρ (.tmp 100) (by simp [Op.operands, Call.operands])).trans (V3 p1)
            have rf : ρ (.func 8) = .func (.func 8) #[] #[] := hρ (.func 8) (by simp [Op.operands, Call.operands])
            refine RegFlow.gives_call (f := 8) (args := #[.agg #[.slice (some ⟨gh1, 0, none⟩) L.length L.length], .agg #[.int .i64 x, .int .i64 y]]) (w' := ws) (by go_simp) (HIM ws _ _ (Or.inr ⟨gh1, 0, rfl, R1 p0⟩) (Nat.le_refl _) (HE.out.below (H13.out.1.below hB))) ?_
            rintro e wN ⟨aN, cN, rfl, hc_cN, oN, qN, hb⟩
            exact ⟨_, rfl, wN, gh1, aN, cN, nh0, nh1, by rw [FlowKit.stored_no (show RegFlow.setB b 4 12 = false from m12), FlowKit.stored_no (show RegFlow.setB b 4 11 = false from m11)], hB.trans (hb.mono hB.size), V0, V1, V2, V3, fun _ => rfl, fun h => FlowKit.no_way m5 h, fun h => FlowKit.no_way m6 h, fun h => FlowKit.no_way m7 h, fun h => FlowKit.no_way m8 h, V9, V10, fun h => FlowKit.no_way m13 h, fun h => (R1 h).below hb, fun _ => ⟨oN, fun x hx => Nat.le_trans hB.size (qN x hx)⟩, fun h => ⟨(B9 h).1.below hb, (B9 h).2⟩, fun h => ⟨(B10 h).1.below hb, (B10 h).2⟩, fun _ h x hx => Nat.ne_of_gt (Nat.lt_of_lt_of_le (B9 h).1.lt (qN x hx)), fun _ h x hx => Nat.ne_of_gt (Nat.lt_of_lt_of_le (B10 h).1.lt (qN x hx)), E9_10⟩
          · intro b u wI ρ hI hcl hp hk hρ
            obtain ⟨ws, gh1, ah, ch_, nh0, nh1, hw, hB, V0, V1, V2, V3, V4, V5, V6, V7, V8, V9, V10, V13, R1, O4, B9, B10, D9, D10, E9_10⟩ := hI
            have hp2 : (b 4 && true) = true := hp
            simp only [Bool.and_eq_true, Bool.and_true] at hp2
            have p0 := hp2
            have m6 : b 6 = false := hcl.no (i := 6) rfl (k := 5) (by rfl) hk
            have m7 : b 7 = false := hcl.no (i := 7) rfl (k := 5) (by rfl) hk
            have m8 : b 8 = false := hcl.no (i := 8) rfl (k := 5) (by rfl) hk
            have m11 : b 11 = false := hcl.no (i := 11) rfl (k := 5) (by rfl) hk
            have m12 : b 12 = false := hcl.no (i := 12) rfl (k := 5) (by rfl) hk
            have m13 : b 13 = false := hcl.no (i := 13) rfl (k := 5) (by rfl) hk
            have r101 : ρ (.tmp 101) = .tuple #[.agg #[.slice ah L2.length ch_], .agg #[.int .i64 s0, .bool s1, .int .i64 s2, .int .i64 s3, .int .i64 s4], .bool B] := (hρ (.tmp 101) (by simp [Op.operands, Call.operands])).trans (V4 p0)
            refine RegFlow.gives_value (v := .tuple #[.agg #[.slice ah L2.length ch_], .agg #[.int .i64 s0, .bool s1, .int .i64 s2, .int .i64 s3, .int .i64 s4], .bool B]) (w' := wI) (by go_simp) ⟨ws, gh1, ah, ch_, nh0, nh1, hw, hB, V0, V1, V2, V3, V4, fun _ => rfl, V6, V7, V8, V9, V10, V13, R1, O4, B9, B10, D9, D10, E9_10⟩
          · intro b u wI ρ hI hcl hp hk hρ
            obtain ⟨ws, gh1, ah, ch_, nh0, nh1, hw, hB, V0, V1, V2, V3, V4, V5, V6, V7, V8, V9, V10, V13, R1, O4, B9, B10, D9, D10, E9_10⟩ := hI
            have hp2 : (b 5 && true) = true := hp
            simp only [Bool.and_eq_true, Bool.and_true] at hp2
            have p0 := hp2
            have m11 : b 11 = false := hcl.no (i := 11) rfl (k := 6) (by rfl) hk
            have m12 : b 12 = false := hcl.no (i := 12) rfl (k := 6) (by rfl) hk
            have m13 : b 13 = false := hcl.no (i := 13) rfl (k := 6) (by rfl) hk
            have r96 : ρ (.tmp 96) = .tuple #[.agg #[.slice ah L2.length ch_], .agg #[.int .i64 s0, .bool s1, .int .i64 s2, .int .i64 s3, .int .i64 s4], .bool B] := (hρ (.tmp 96) (by simp [Op.operands, Call.operands])).trans (V5 p0)
            refine RegFlow.gives_value (v := .agg #[.slice ah L2.length ch_]) (w' := wI) (by go_simp) ⟨ws, gh1, ah, ch_, nh0, nh1, hw, hB, V0, V1, V2, V3, V4, V5, fun _ => rfl, V7, V8, V9, V10, V13, R1, O4, B9, B10, D9, D10, E9_10⟩
          · intro b u wI ρ hI hcl hp hk hρ
            obtain ⟨ws, gh1, ah, ch_, nh0, nh1, hw, hB, V0, V1, V2, V3, V4, V5, V6, V7, V8, V9, V10, V13, R1, O4, B9, B10, D9, D10, E9_10⟩ := hI
            have hp2 : (b 5 && true) = true := hp
            simp only [Bool.and_eq_true, Bool.and_true] at hp2
            have p0 := hp2
            have m12 : b 12 = false := hcl.no (i := 12) rfl (k := 7) (by rfl) hk
            have m13 : b 13 = false := hcl.no (i := 13) rfl (k := 7) (by rfl) hk
            have r96 : ρ (.tmp 96) = .tuple #[.agg #[.slice ah L2.length ch_], .agg #[.int .i64 s0, .bool s1, .int .i64 s2, .int .i64 s3, .int .i64 s4], .bool B] := (hρ (.tmp 96) (by simp [Op.operands, Call.operands])).trans (V5 p0)
            refine RegFlow.gives_value (v := .agg #[.int .i64 s0, .bool s1, .int .i64 s2, .int .i64 s3, .int .i64 s4]) (w' := wI) (by go_simp) ⟨ws, gh1, ah, ch_, nh0, nh1, hw, hB, V0, V1, V2, V3, V4, V5, V6, fun _ => rfl, V8, V9, V10, V13, R1, O4, B9, B10, D9, D10, E9_10⟩
          · intro b u wI ρ hI hcl hp hk hρ
            obtain ⟨ws, gh1, ah, ch_, nh0, nh1, hw, hB, V0, V1, V2, V3, V4, V5, V6, V7, V8, V9, V10, V13, R1, O4, B9, B10, D9, D10, E9_10⟩ := hI
            have hp2 : (b 5 && true) = true := hp
            simp only [Bool.and_eq_true, Bool.and_true] at hp2
            have p0 := hp2
            have m13 : b 13 = false := hcl.no (i := 13) rfl (k := 8) (by rfl) hk
            have r96 : ρ (.tmp 96) = .tuple #[.agg #[.slice ah L2.length ch_], .agg #[.int .i64 s0, .bool s1, .int .i64 s2, .int .i64 s3, .int .i64 s4], .bool B] := (hρ (.tmp 96) (by simp [Op.operands, Call.operands])).trans (V5 p0)
            refine RegFlow.gives_value (v := .bool B) (w' := wI) (by go_simp) ⟨ws, gh1, ah, ch_, nh0, nh1, hw, hB, V0, V1, V2, V3, V4, V5, V6, V7, fun _ => rfl, V9, V10, V13, R1, O4, B9, B10, D9, D10, E9_10⟩
          · intro b u wI ρ hI hcl hp hk hρ
            obtain ⟨ws, gh1, ah, ch_, nh0, nh1, hw, hB, V0, V1, V2, V3, V4, V5, V6, V7, V8, V9, V10, V13, R1, O4, B9, B10, D9, D10, E9_10⟩ := hI
            have m11 : b 11 = false := hcl.no (i := 11) rfl (k := 9) (by rfl) hk
            have m12 : b 12 = false := hcl.no (i := 12) rfl (k := 9) (by rfl) hk
            have m13 : b 13 = false := hcl.no (i := 13) rfl (k := 9) (by rfl) hk
            rw [FlowKit.stored_no m12, FlowKit.stored_no m11] at hw
            have hw2 := hw.symm
            subst hw2
            refine RegFlow.gives_value (v := .pointer (some ⟨ws.heap.size, 0, none⟩)) (w' := ws.alloc (.cells #[.slice none 0 0] 30)) (by go_simp) ⟨ws.alloc (.cells #[.slice none 0 0] 30), gh1, ah, ch_, ws.heap.size, nh1, by rw [FlowKit.stored_no (show RegFlow.setB b 9 12 = false from m12), FlowKit.stored_no (show RegFlow.setB b 9 11 = false from m11)], hB.alloc hB.size _, V0, V1, V2, V3, V4, V5, V6, V7, V8, fun _ => rfl, V10, V13, fun h => (R1 h).below (n1 ws _), fun h => ⟨(O4 h).1.below (n1 ws _), (O4 h).2⟩, fun _ => ⟨boxB.new _ _ _, hB.size⟩, fun h => ⟨(B10 h).1.below (n1 ws _), (B10 h).2⟩, fun h _ x hx => Nat.ne_of_lt ((O4 h).1.lt x hx), D10, fun _ h => Nat.ne_of_gt (B10 h).1.lt⟩
          · intro b u wI ρ hI hcl hp hk hρ
            obtain ⟨ws, gh1, ah, ch_, nh0, nh1, hw, hB, V0, V1, V2, V3, V4, V5, V6, V7, V8, V9, V10, V13, R1, O4, B9, B10, D9, D10, E9_10⟩ := hI
            have m11 : b 11 = false := hcl.no (i := 11) rfl (k := 10) (by rfl) hk
            have m12 : b 12 = false := hcl.no (i := 12) rfl (k := 10) (by rfl) hk
            have m13 : b 13 = false := hcl.no (i := 13) rfl (k := 10) (by rfl) hk
            rw [FlowKit.stored_no m12, FlowKit.stored_no m11] at hw
            have hw2 := hw.symm
            subst hw2
            refine RegFlow.gives_value (v := .pointer (some ⟨ws.heap.size, 0, none⟩)) (w' := ws.alloc (.cells #[.int .i64 0, .bool false, .int .i64 0, .int .i64 0, .int .i64 0] 32)) (by go_simp) ⟨ws.alloc (.cells #[.int .i64 0, .bool false, .int .i64 0, .int .i64 0, .int .i64 0] 32), gh1, ah, ch_, nh0, ws.heap.size, by rw [FlowKit.stored_no (show RegFlow.setB b 10 12 = false from m12), FlowKit.stored_no (show RegFlow.setB b 10 11 = false from m11)], hB.alloc hB.size _, V0, V1, V2, V3, V4, V5, V6, V7, V8, V9, fun _ => rfl, V13, fun h => (R1 h).below (n1 ws _), fun h => ⟨(O4 h).1.below (n1 ws _), (O4 h).2⟩, fun h => ⟨(B9 h).1.below (n1 ws _), (B9 h).2⟩, fun _ => ⟨boxB.new _ _ _, hB.size⟩, D9, fun h _ x hx => Nat.ne_of_lt ((O4 h).1.lt x hx), fun h _ => Nat.ne_of_lt (B9 h).1.lt⟩
          · intro b u wI ρ hI hcl hp hk hρ
            obtain ⟨ws, gh1, ah, ch_, nh0, nh1, hw, hB, V0, V1, V2, V3, V4, V5, V6, V7, V8, V9, V10, V13, R1, O4, B9, B10, D9, D10, E9_10⟩ := hI
            have hp2 : (b 9 && (b 6 && (b 4 && (b 0 && (b 1 && (b 2 && (b 3 && (b 4 && (b 5 && (b 6 && (b 9 && (b 10 && true)))))))))))) = true := hp
            simp only [Bool.and_eq_true, Bool.and_true] at hp2
            obtain ⟨p0, p1, p2, p3, p4, p5, p6, p7, p8, p9, p10, p11⟩ := hp2
            have m12 : b 12 = false := hcl.no (i := 12) rfl (k := 11) (by rfl) hk
            have m13 : b 13 = false := hcl.no (i := 13) rfl (k := 11) (by rfl) hk
            rw [FlowKit.stored_no m12, FlowKit.stored_no hk] at hw
            have hw2 := hw.symm
            subst hw2
            have r16 : ρ (.tmp 16) = .pointer (some ⟨nh0, 0, none⟩) := (hρ (.tmp 16) (by simp [Op.operands, Call.operands])).trans (V9 p0)
            have r102 : ρ (.tmp 102) = .agg #[.slice ah L2.length ch_] := (hρ (.tmp 102) (by simp [Op.operands, Call.operands])).trans (V6 p1)
            have bx : boxB ws nh0 #[.slice none 0 0] 30 := (B9 p0).1
            have c0 := bx.cell 0
            have f0 := fzB bx 0
            refine RegFlow.gives_skip (w' := sets ws nh0 0 [.slice ah L2.length ch_]) (by go_simp; rfl) ?_
            exact ⟨ws, gh1, ah, ch_, nh0, nh1, by rw [FlowKit.stored_no (show RegFlow.setB b 11 12 = false from m12), FlowKit.stored_yes (show RegFlow.setB b 11 11 = true from rfl)], hB, V0, V1, V2, V3, V4, V5, V6, V7, V8, V9, V10, V13, R1, O4, B9, B10, D9, D10, E9_10⟩
          · intro b u wI ρ hI hcl hp hk hρ
            obtain ⟨ws, gh1, ah, ch_, nh0, nh1, hw, hB, V0, V1, V2, V3, V4, V5, V6, V7, V8, V9, V10, V13, R1, O4, B9, B10, D9, D10, E9_10⟩ := hI
            have hp2 : (b 10 && (b 7 && (b 11 && (b 0 && (b 1 && (b 2 && (b 3 && (b 4 && (b 5 && (b 6 && (b 7 && (b 9 && (b 10 && (b 11 && true)))))))))))))) = true := hp
            simp only [Bool.and_eq_true, Bool.and_true] at hp2
            obtain ⟨p0, p1, p2, p3, p4, p5, p6, p7, p8, p9, p10, p11, p12, p13⟩ := hp2
            have m13 : b 13 = false := hcl.no (i := 13) rfl (k := 12) (by rfl) hk
            rw [FlowKit.stored_no hk, FlowKit.stored_yes p2] at hw
            have hw2 := hw.symm
            subst hw2
            have r17 : ρ (.tmp 17) = .pointer (some ⟨nh1, 0, none⟩) := (hρ (.tmp 17) (by simp [Op.operands, Call.operands])).trans (V10 p0)
            have r103 : ρ (.tmp 103) = .agg #[.int .i64 s0, .bool s1, .int .i64 s2, .int .i64 s3, .int .i64 s4] := (hρ (.tmp 103) (by simp [Op.operands, Call.operands])).trans (V7 p1)
            have bx : boxB (sets ws nh0 0 [.slice ah L2.length ch_]) nh1 #[.int .i64 0, .bool false, .int .i64 0, .int .i64 0, .int .i64 0] 32 := FlowKit.box_else ((B10 p0).1) (Ne.symm (E9_10 p11 p0)) [.slice ah L2.length ch_]
            generalize hwc : (sets ws nh0 0 [.slice ah L2.length ch_]) = wc at bx ⊢
            have c0 := bx.cell 0
            have f0 := fzB bx 0
            have c1 := bx.cell 1
            have f1 := fzB bx 1
            have c2 := bx.cell 2
            have f2 := fzB bx 2
            have c3 := bx.cell 3
            have f3 := fzB bx 3
            have c4 := bx.cell 4
            have f4 := fzB bx 4
            refine RegFlow.gives_skip (w' := sets wc nh1 0 [.int .i64 s0, .bool s1, .int .i64 s2, .int .i64 s3, .int .i64 s4]) (by go_simp; rfl) ?_
            subst hwc
            exact ⟨ws, gh1, ah, ch_, nh0, nh1, by rw [FlowKit.stored_yes (show RegFlow.setB b 12 12 = true from rfl), FlowKit.stored_yes (show RegFlow.setB b 12 11 = true from p2)], hB, V0, V1, V2, V3, V4, V5, V6, V7, V8, V9, V10, V13, R1, O4, B9, B10, D9, D10, E9_10⟩
          · intro b u wI ρ hI hcl hp hk hρ
            obtain ⟨ws, gh1, ah, ch_, nh0, nh1, hw, hB, V0, V1, V2, V3, V4, V5, V6, V7, V8, V9, V10, V13, R1, O4, B9, B10, D9, D10, E9_10⟩ := hI
            have hp2 : (b 8 && (b 12 && (b 0 && (b 1 && (b 2 && (b 3 && (b 4 && (b 5 && (b 6 && (b 7 && (b 8 && (b 9 && (b 10 && (b 11 && (b 12 && true))))))))))))))) = true := hp
            simp only [Bool.and_eq_true, Bool.and_true] at hp2
            obtain ⟨p0, p1, p2, p3, p4, p5, p6, p7, p8, p9, p10, p11, p12, p13, p14⟩ := hp2
            have r104 : ρ (.tmp 104) = .bool B := (hρ (.tmp 104) (by simp [Op.operands, Call.operands])).trans (V8 p0)
            refine RegFlow.gives_value (v := .bool B) (w' := wI) (by go_simp) ⟨ws, gh1, ah, ch_, nh0, nh1, hw, hB, V0, V1, V2, V3, V4, V5, V6, V7, V8, V9, V10, fun _ => rfl, R1, O4, B9, B10, D9, D10, E9_10⟩
          · intro u wF hI
            obtain ⟨ws, gh1, ah, ch_, nh0, nh1, hwF, hB, V0, V1, V2, V3, V4, V5, V6, V7, V8, V9, V10, V13, R1, O4, B9, B10, D9, D10, E9_10⟩ := hI
            have hwF2 : wF = (sets (sets ws nh0 0 [.slice ah L2.length ch_]) nh1 0 [.int .i64 s0, .bool s1, .int .i64 s2, .int .i64 s3, .int .i64 s4]) := hwF
            have e0 : u 0 = .agg #[.slice a L.length c] := V0 rfl
            have e1 : u 1 = .agg #[.slice (some ⟨gh1, 0, none⟩) L.length L.length] := V1 rfl
            have e2 : u 2 = .agg #[.int .i64 x, .int .i64 y] := V2 rfl
            have e3 : u 3 = .agg #[.int .i64 x, .int .i64 y] := V3 rfl
            have e4 : u 4 = .tuple #[.agg #[.slice ah L2.length ch_], .agg #[.int .i64 s0, .bool s1, .int .i64 s2, .int .i64 s3, .int .i64 s4], .bool B] := V4 rfl
            have e5 : u 5 = .tuple #[.agg #[.slice ah L2.length ch_], .agg #[.int .i64 s0, .bool s1, .int .i64 s2, .int .i64 s3, .int .i64 s4], .bool B] := V5 rfl
            have e6 : u 6 = .agg #[.slice ah L2.length ch_] := V6 rfl
            have e7 : u 7 = .agg #[.int .i64 s0, .bool s1, .int .i64 s2, .int .i64 s3, .int .i64 s4] := V7 rfl
            have e8 : u 8 = .bool B := V8 rfl
            have e9 : u 9 = .pointer (some ⟨nh0, 0, none⟩) := V9 rfl
            have e10 : u 10 = .pointer (some ⟨nh1, 0, none⟩) := V10 rfl
            have e13 : u 13 = .bool B := V13 rfl
            have O := O4 rfl
            have X9 := B9 rfl
            have Y9 := D9 rfl rfl
            have X10 := B10 rfl
            have Y10 := D10 rfl rfl
            have ZE9_10 := E9_10 rfl rfl
            have HBF : Below w11.heap.size w11 wF := by rw [hwF2]; exact FlowKit.bel_sets (FlowKit.bel_sets (hB) X9.2 _) X10.2 _
            have OF : Own 32 5 cells wF ah L2 := by rw [hwF2]; exact FlowKit.own_else (FlowKit.own_else (O.1) Y9 _) Y10 _
            have BF0 : boxB wF nh0 #[.slice ah L2.length ch_] 30 := by rw [hwF2]; exact FlowKit.box_else (FlowKit.box_stored (X9.1) _ rfl) ZE9_10 _
            have BF1 : boxB wF nh1 #[.int .i64 s0, .bool s1, .int .i64 s2, .int .i64 s3, .int .i64 s4] 32 := by rw [hwF2]; exact FlowKit.box_stored (FlowKit.box_else (X10.1) (Ne.symm ZE9_10) _) _ rfl
            have HSF : wF.heap.size = ws.heap.size := by rw [hwF2]; simp only [FlowKit.sets_size]
            have H14 : Hid (Bel W wF ∧ boxB wF W.heap.size #[.slice a L.length c] 24 ∧ boxB wF (W.heap.size + 1) #[.int .i64 x, .int .i64 y] 26 ∧ Own 32 5 cells wF aw L2 ∧ boxB wF nw0 #[.slice aw L2.length cw_] 30 ∧ boxB wF nw1 #[.int .i64 s0, .bool s1, .int .i64 s2, .int .i64 s3, .int .i64 s4] 32 ∧ Own 32 5 cells wF ag (marks 1 L2.length) ∧ boxB wF ng0 #[.slice ag L2.length cg_] 30 ∧ boxB wF ng1 #[.int .i64 s0, .bool s1, .int .i64 s2, .int .i64 s3, .int .i64 s4] 32 ∧ Own 32 5 cells wF ah L2 ∧ boxB wF nh0 #[.slice ah L2.length ch_] 30 ∧ boxB wF nh1 #[.int .i64 s0, .bool s1, .int .i64 s2, .int .i64 s3, .int .i64 s4] 32) := ⟨H13.out.1.below HBF, H13.out.2.1.below HBF, H13.out.2.2.1.below HBF, H13.out.2.2.2.1.below HBF, H13.out.2.2.2.2.1.below HBF, H13.out.2.2.2.2.2.1.below HBF, H13.out.2.2.2.2.2.2.1.below HBF, H13.out.2.2.2.2.2.2.2.1.below HBF, H13.out.2.2.2.2.2.2.2.2.below HBF, OF, BF0, BF1⟩
            have HQh : Hid ((∀ x, blkL ah L2 = some x → w11.heap.size ≤ x ∧ x < wF.heap.size ∧ x ≠ nh0 ∧ x ≠ nh1) ∧ w11.heap.size ≤ wF.heap.size ∧ w11.heap.size ≤ nh0 ∧ nh0 < wF.heap.size ∧ w11.heap.size ≤ nh1 ∧ nh1 < wF.heap.size ∧ nh0 ≠ nh1) := ⟨fun x hx => ⟨O.2 x hx, by rw [HSF]; exact O.1.lt x hx, Y9 x hx, Y10 x hx⟩, HBF.size, X9.2, by rw [HSF]; exact X9.1.lt, X10.2, by rw [HSF]; exact X10.1.lt, ZE9_10⟩
            simp only [RegFlow.fin, Act.put, e0, e1, e2, e3, e4, e5, e6, e7, e8, e9, e10, e13]
            clear e0 e1 e2 e3 e4 e5 e6 e7 e8 e9 e10 e13 V0 V1 V2 V3 V4 V5 V6 V7 V8 V9 V10 V13 R1 O4 B9 B10 D9 D10 E9_10 O X9 Y9 X10 Y10 ZE9_10 HBF OF HSF hwF2 hwF hB BF0 BF1 H13 u
            obtain ⟨wh, rfl⟩ : ∃ v, v = wF := ⟨_, rfl⟩
            have d0 := H14.out.2.2.2.2.2.2.2.2.2.2.1.cell 0
            have e0 := H14.out.2.2.2.2.1.cell 0
            go_wp2_with fail
            refine (eq_ledger _ _ _ _ L2 _ H14.out.2.2.2.2.2.2.2.2.2.1 H14.out.2.2.2.1 HPL.out).mono ?_
            rintro e w12 ⟨rfl, b12⟩
            have H15 : Hid (Bel W w12 ∧ boxB w12 W.heap.size #[.slice a L.length c] 24 ∧ boxB w12 (W.heap.size + 1) #[.int .i64 x, .int .i64 y] 26 ∧ Own 32 5 cells w12 aw L2 ∧ boxB w12 nw0 #[.slice aw L2.length cw_] 30 ∧ boxB w12 nw1 #[.int .i64 s0, .bool s1, .int .i64 s2, .int .i64 s3, .int .i64 s4] 32 ∧ Own 32 5 cells w12 ag (marks 1 L2.length) ∧ boxB w12 ng0 #[.slice ag L2.length cg_] 30 ∧ boxB w12 ng1 #[.int .i64 s0, .bool s1, .int .i64 s2, .int .i64 s3, .int .i64 s4] 32 ∧ Own 32 5 cells w12 ah L2 ∧ boxB w12 nh0 #[.slice ah L2.length ch_] 30 ∧ boxB w12 nh1 #[.int .i64 s0, .bool s1, .int .i64 s2, .int .i64 s3, .int .i64 s4] 32) := ⟨H14.out.1.below b12, H14.out.2.1.below b12, H14.out.2.2.1.below b12, H14.out.2.2.2.1.below b12, H14.out.2.2.2.2.1.below b12, H14.out.2.2.2.2.2.1.below b12, H14.out.2.2.2.2.2.2.1.below b12, H14.out.2.2.2.2.2.2.2.1.below b12, H14.out.2.2.2.2.2.2.2.2.1.below b12, H14.out.2.2.2.2.2.2.2.2.2.1.below b12, H14.out.2.2.2.2.2.2.2.2.2.2.1.below b12, H14.out.2.2.2.2.2.2.2.2.2.2.2.below b12⟩
            clear d0 e0 b12 H14
            have d0 := H15.out.2.2.2.2.2.2.2.2.2.2.2.cell 0
            have d1 := H15.out.2.2.2.2.2.2.2.2.2.2.2.cell 1
            have d2 := H15.out.2.2.2.2.2.2.2.2.2.2.2.cell 2
            have d3 := H15.out.2.2.2.2.2.2.2.2.2.2.2.cell 3
            have d4 := H15.out.2.2.2.2.2.2.2.2.2.2.2.cell 4
            have e0 := H15.out.2.2.2.2.2.1.cell 0
            have e1 := H15.out.2.2.2.2.2.1.cell 1
            have e2 := H15.out.2.2.2.2.2.1.cell 2
            have e3 := H15.out.2.2.2.2.2.1.cell 3
            have e4 := H15.out.2.2.2.2.2.1.cell 4
            go_wp2_with fail
            refine (eq_one s0 s1 s2 s3 s4 _).mono ?_
            rintro e w13 ⟨rfl, b13⟩
            have H16 : Hid (Bel W w13 ∧ boxB w13 W.heap.size #[.slice a L.length c] 24 ∧ boxB w13 (W.heap.size + 1) #[.int .i64 x, .int .i64 y] 26 ∧ Own 32 5 cells w13 aw L2 ∧ boxB w13 nw0 #[.slice aw L2.length cw_] 30 ∧ boxB w13 nw1 #[.int .i64 s0, .bool s1, .int .i64 s2, .int .i64 s3, .int .i64 s4] 32 ∧ Own 32 5 cells w13 ag (marks 1 L2.length) ∧ boxB w13 ng0 #[.slice ag L2.length cg_] 30 ∧ boxB w13 ng1 #[.int .i64 s0, .bool s1, .int .i64 s2, .int .i64 s3, .int .i64 s4] 32 ∧ Own 32 5 cells w13 ah L2 ∧ boxB w13 nh0 #[.slice ah L2.length ch_] 30 ∧ boxB w13 nh1 #[.int .i64 s0, .bool s1, .int .i64 s2, .int .i64 s3, .int .i64 s4] 32) := ⟨H15.out.1.below b13, H15.out.2.1.below b13, H15.out.2.2.1.below b13, H15.out.2.2.2.1.below b13, H15.out.2.2.2.2.1.below b13, H15.out.2.2.2.2.2.1.below b13, H15.out.2.2.2.2.2.2.1.below b13, H15.out.2.2.2.2.2.2.2.1.below b13, H15.out.2.2.2.2.2.2.2.2.1.below b13, H15.out.2.2.2.2.2.2.2.2.2.1.below b13, H15.out.2.2.2.2.2.2.2.2.2.2.1.below b13, H15.out.2.2.2.2.2.2.2.2.2.2.2.below b13⟩
            clear d0 d1 d2 d3 d4 e0 e1 e2 e3 e4 b13 H15
            have z0 := H16.out.2.2.2.2.2.2.2.1.cell 0
            go_wp2_with fail
            refine (held_ledger ag cg_ L2.length _ H16.out.2.2.2.2.2.2.1 HPL.out).mono ?_
            rintro e w14 ⟨rfl, b14⟩
            have H17 : Hid (Bel W w14 ∧ boxB w14 W.heap.size #[.slice a L.length c] 24 ∧ boxB w14 (W.heap.size + 1) #[.int .i64 x, .int .i64 y] 26 ∧ Own 32 5 cells w14 aw L2 ∧ boxB w14 nw0 #[.slice aw L2.length cw_] 30 ∧ boxB w14 nw1 #[.int .i64 s0, .bool s1, .int .i64 s2, .int .i64 s3, .int .i64 s4] 32 ∧ Own 32 5 cells w14 ag (marks 1 L2.length) ∧ boxB w14 ng0 #[.slice ag L2.length cg_] 30 ∧ boxB w14 ng1 #[.int .i64 s0, .bool s1, .int .i64 s2, .int .i64 s3, .int .i64 s4] 32 ∧ Own 32 5 cells w14 ah L2 ∧ boxB w14 nh0 #[.slice ah L2.length ch_] 30 ∧ boxB w14 nh1 #[.int .i64 s0, .bool s1, .int .i64 s2, .int .i64 s3, .int .i64 s4] 32) := ⟨H16.out.1.below b14, H16.out.2.1.below b14, H16.out.2.2.1.below b14, H16.out.2.2.2.1.below b14, H16.out.2.2.2.2.1.below b14, H16.out.2.2.2.2.2.1.below b14, H16.out.2.2.2.2.2.2.1.below b14, H16.out.2.2.2.2.2.2.2.1.below b14, H16.out.2.2.2.2.2.2.2.2.1.below b14, H16.out.2.2.2.2.2.2.2.2.2.1.below b14, H16.out.2.2.2.2.2.2.2.2.2.2.1.below b14, H16.out.2.2.2.2.2.2.2.2.2.2.2.below b14⟩
            clear z0 b14 H16
            go_wp2
            go_ret
            exact ⟨rfl, H17.out.1⟩
  · rw [if_neg hl] at HS
    go_enter Tryd.func3, Tryd.ntmps3
    go_wp2_with (go_at_call 4; refine HS.mono ?_; rintro e w1 ⟨rfl, hb⟩)
    go_ret
    exact ⟨rfl, b0.out.trans (hb.mono b0.out.size)⟩

theorem own : ownKnob Tryd.prog.godebug = none := by kernel_rfl
theorem laidOut : laidOutB Tryd.prog = true := by kernel_rfl
theorem gW : Tryd.prog.globalNamed "loop.example/g00685/impl.errWrongLedger" = some 1 := by kernel_rfl
theorem gP : Tryd.prog.globalNamed "loop.example/g00685/impl.errPermitGone" = some 0 := by kernel_rfl
theorem gWType : (Tryd.prog.globals[1]?).map (·.type) = some 48 := by kernel_rfl
theorem gPType : (Tryd.prog.globals[0]?).map (·.type) = some 48 := by kernel_rfl
theorem cellsE : Tryd.prog.cellsOf 103 = 1 := by kernel_rfl
theorem cellsS : Tryd.prog.cellsOf 9 = 1 := by kernel_rfl
theorem star : "*" ++ "errors.errorString" = "*errors.errorString" := by decide
theorem rowE (u : TypeId) (h : Tryd.prog.typeName? 3 u = some "*errors.errorString") : u = 77 :=
  typeName_ptr_named (nm := "errors.errorString") (by rw [star]; kernel_rfl) (by kernel_rfl) (by decide) u (by rw [star]; exact h)

/-- The plain wrap with a condition on the world, the world's shape kept. -/
theorem wrap_and_shaped {H : Type} {enc : TypeId × Value → H} {a : Assume} {C : Checked} {os : Os} {f : FuncId} {fn : Func} {s : ChangeSpec} {conds : List PathCond} {apart fresh handsOn again : Bool} {X : World → Array Value → Prop}
    (hX : ∀ (w w' : World) (args : Array Value), w.heap = w'.heap → X w args → X w' args)
    (own : ownKnob C.prog.godebug = none) (started : os.Started) (noInit : C.prog.inits.idxOf? f = none) (hfn : C.prog.funcs[f]? = some fn)
    (witness : ∃ (w : World) (tape : Tape) (i : Input), w.os = os ∧ (w.forCall tape i).Shaped C.prog ∧ i.vars = [] ∧ Input.okWide C.prog (w.forCall tape i) .any w.heap.size f i ∧
      ((s.pre enc C.prog fn conds apart (w.forCall tape i).memory i.args ∧ X (w.forCall tape i).memory i.args) ∧ sizedMet enc C.prog fn (OpenSpec.ofChange s) apart (w.forCall tape i).memory i.args) ∧ a.holds C.prog (lone (Frame.enter C.prog f i.args .normal) [] (w.forCall tape i)))
    (contract : ∀ (W : World) (base : Nat) (args : Array Value) (ds gs : List (DataW H)) (before : List MemPlace),
      (∀ (j : Nat) t v, fn.params[j]? = some t → args[j]? = some v → Value.okWide C.prog W .any base t v) →
      DataW.Whole enc C.prog fn.params.toList s.vars apart W args.toList ds gs before → X W args →
      Calls C.prog f args W fun e W' => ∃ v, e = .returned v ∧ s.post enc C.prog fn apart fresh handsOn again W args v W') :
    ReturnsInHanded a C os f .any (fun w args => (s.pre enc C.prog fn conds apart w args ∧ X w args) ∧ sizedMet enc C.prog fn (OpenSpec.ofChange s) apart w args) (s.post enc C.prog fn apart fresh handsOn again) := by
  refine returnsInHanded_of_calls own started noInit witness ?_
  intro w tape i _ hsh _ hok hpre hholds
  obtain ⟨_, _, _, fn', hfn', _, _, _, _, hval⟩ := hok
  have e : fn' = fn := Option.some.inj (hfn'.symm.trans hfn)
  subst e
  obtain ⟨⟨⟨ds, gs, before, hw, hc⟩, hx⟩, hz⟩ := hpre
  have hw' := DataW.Whole.of_heap (w' := w.forCall tape i) (by rfl) hw
  refine (contract (w.forCall tape i) w.heap.size i.args ds gs before hval hw' (hX _ _ _ (by rfl) hx)).mono fun e W' ⟨v, he, hp⟩ => ?_
  subst he
  exact ChangeSpec.post_blind hp

set_option maxRecDepth 100000 in
theorem lifted (os : Os) (started : os.Started) (H : Type) (enc : TypeId × Value → H) :
    ReturnsInHanded {} Tryd.checked os 3 .any (fun w args => (Rows.fnExactReleaseSpec.pre enc Tryd.prog Tryd.f3 Rows.fnExactReleaseRow.domain false w args ∧ laidMetH Tryd.prog Rows.fnExactReleaseRow.laid w) ∧ sizedMet enc Tryd.prog Tryd.f3 (OpenSpec.ofChange Rows.fnExactReleaseSpec) false w args)
      (Rows.fnExactReleaseSpec.post enc Tryd.prog Tryd.f3 false true false false) := by
  refine wrap_and_shaped (C := Tryd.checked) (X := fun w _ => laidMetH Tryd.prog Rows.fnExactReleaseRow.laid w) (fun _ _ _ hh h => h.of_heap hh) own started (by kernel_rfl) Tryd.func3
    (ChangeSpec.witness_shaped (enc := enc) (C := Tryd.checked) (os := os) (X := fun w _ => laidMetH Tryd.prog Rows.fnExactReleaseRow.laid w) false (World.laidAll Tryd.prog os Rows.fnExactReleaseRow.laid) #[.agg #[.slice none 0 0], .agg #[.int .i64 0, .int .i64 0]] 8 (World.laidAll_os _ _ _)
      (World.shaped_of_ZipB (by kernel_rfl) (by kernel_rfl)) (by kernel_rfl) (by kernel_rfl) (by kernel_rfl)
      (by rw [MakeChecks.laidMetH_plain _ _ _ (by kernel_rfl)]; exact laidMet_laidAll _ (by kernel_rfl) (by kernel_rfl))) ?_
  intro W base args ds gs before hval0 hW hL
  rw [MakeChecks.laidMetH_plain _ _ _ (by kernel_rfl)] at hL
  have hval : ∀ (j : Nat) t v, Tryd.f3.params[j]? = some t → args[j]? = some v → Value.okWide Tryd.prog W .any base t v := hval0
  have hW' := hW
  obtain ⟨p, q, hA0, hV0, rfl, hfz, hnd⟩ := hW
  have hA : DataW.TrodAll enc Tryd.prog W 0 (fun _ => true) true Tryd.f3.params.toList args.toList ds p := hA0
  have hV : DataW.TrodVars enc Tryd.prog W (fun _ => true) ["loop.example/g00685/impl.errPermitGone", "loop.example/g00685/impl.errWrongLedger"] gs q := hV0
  rw [Tryd.params3] at hA hval
  obtain ⟨v0, vs0, d0, ds0, p0, q0, hargs, rfl, rfl, h0, r0⟩ := trodAll_cons hA
  obtain ⟨v1, vs1, d1, ds1, p1, q1, rfl, rfl, rfl, h1, r1⟩ := trodAll_cons r0
  obtain ⟨rfl, rfl, rfl⟩ := trodAll_nil r1
  obtain rfl : args = #[v0, v1] := by cases args; simp_all
  obtain ⟨G0, G1, rfl⟩ : ∃ G0 G1, gs = [G0, G1] := by
    match gs, hV with
    | [], h => exact h.elim
    | [_], h => obtain ⟨_, _, _, _, _, _, _, _, _, _, h2, _⟩ := h; exact h2.elim
    | [a, b], _ => exact ⟨a, b, rfl⟩
    | _ :: _ :: _ :: _, h => obtain ⟨_, _, _, _, _, _, _, _, _, _, h2, _⟩ := h; obtain ⟨_, _, _, _, _, _, _, _, _, _, h3, _⟩ := h2; exact h3.elim
  have k0 := h0
  have lt0 : ∀ x ∈ p0, x.block < W.heap.size := by obtain ⟨m, hm⟩ := k0; exact DataW.trod_lt m _ _ _ hm
  obtain ⟨aL0, cL0, L0, rfl, hL0, mL0⟩ := OpenLedger.open_ledger (hval 0 24 v0 rfl rfl) h0
  have k1 := h1
  have lt1 : ∀ x ∈ p1, x.block < W.heap.size := by obtain ⟨m, hm⟩ := k1; exact DataW.trod_lt m _ _ _ hm
  obtain ⟨x1, y1, rfl⟩ := OpenPermit.open_permit (hval 1 26 v1 rfl rfl) h1
  obtain ⟨b0, b1, s0, s1, c0, c1, t0, t1, hv0, hv1, hc0, hs0, hz0, hc1, hs1, hz1, hne, hb0, hb1⟩ := laid_sentinels2 hL gW gWType gP gPType Tryd.underlying48 rowE Tryd.underlying77 Tryd.underlying103 rfl rfl Tryd.underlying9 cellsE cellsS
  have hE : Errs W b1 b0 := ⟨by simpa using World.var?_cell gP hv1 0, by simpa using World.var?_cell gW hv0 0, hne, ⟨c1, t1, hb1⟩, ⟨c0, t0, hb0⟩⟩
  clear hA0 hval0 hV0
  refine (walk W aL0 cL0 L0 (LedBox.arg_of hL0) mL0 x1 y1 b1 b0 hE).mono fun e W' ⟨he, hb⟩ => ?_
  subst he
  exact ⟨_, rfl, _, _, _, [], _, _, hW', trodAll_cons_mk (shut_bool Tryd.underlying4 _) trodAll_mk0, (trodAll_cons_mk (Below.trod laidOut (by kernel_rfl) (of_decide_eq_true (by kernel_rfl)) k0 hb lt0) (trodAll_cons_mk (Below.trod laidOut (by kernel_rfl) (of_decide_eq_true (by kernel_rfl)) k1 hb lt1) trodAll_mk0)), Below.trodVars laidOut hb (by kernel_rfl) hV, hb.frame _, fun h => by cases h⟩

theorem over : Rows.fnExactReleaseRow.holds Tryd.pinned (OpenSpec.ofChange Rows.fnExactReleaseSpec) :=
  OpenClaim.holds_of_wide 3 Tryd.f3 rfl rfl rfl rfl rfl rfl rfl ⟨rfl, rfl, rfl, rfl, rfl⟩ rfl rfl rfl rfl rfl (by kernel_rfl) Tryd.func3 (by kernel_rfl)
    (of_decide_eq_true (by kernel_rfl)) (by unfold Func.isWrapper; first | (rw [if_pos (by decide +kernel)]; kernel_rfl) | (rw [if_neg (by decide +kernel)]; exact ⟨rfl, rfl⟩))
    (fun os started H enc _ => lifted os started H enc)

theorem proved : Rows.FnExactReleaseCardSaid :=
  Claim7.holds_tied_plain_at .later [] [.sentinel, .sentinel] true (true, "cacb031fa266dc34ff5b923eb9e9c1aa34396a0f6b57aab4ec90b7c9247961df") true over (fun _ h => by cases h) (by kernel_rfl) (fun _ h => by cases h) fnExactRelease_row_tie rfl ⟨rfl, rfl⟩ (by kernel_rfl) rfl
    (fun f fn hf hfn => by
      obtain rfl : f = 3 := Option.some.inj ((show Tryd.prog.funcNamed "loop.example/g00685/laws.FnExactRelease" = some 3 by kernel_rfl).symm.trans hf) |>.symm
      obtain rfl : fn = Tryd.f3 := (Option.some.inj (Tryd.func3.symm.trans hfn)).symm
      exact ⟨by kernel_rfl, fun j t ht => by
        rw [Tryd.params3] at ht
        have hm : t ∈ [24, 26] := by simpa using Array.mem_of_getElem? ht
        have hall : ([24, 26].all fun u => !Tryd.prog.wantsStandIn u) = true := by kernel_rfl
        exact (show Tryd.prog.wantsStandIn t = false by simpa using List.all_eq_true.1 hall t hm)⟩)
    (by kernel_rfl)
end Go.Proofs.YtdmjffkcjkcdnaaDoor.fnExactRelease
