/- At every ledger and client the program's FlyingOf answers as the model's, and it writes into no argument (the law FnExactFlyingOf returns true); no condition. -/
import Derived.Test.YtdmjffkcjkcdnaaRows
import Derived.WalkKit
import Derived.WalkSmall
import Derived.BigQuiet
import Derived.ProofKit
import Derived.OpenShut
import Derived.Deep.RegionWith
import Derived.Test.YtdmjffkcjkcdnaaListKit
import Derived.Test.YtdmjffkcjkcdnaaSlotKit
import Derived.Test.YtdmjffkcjkcdnaaSlotRows
import Derived.Test.YtdmjffkcjkcdnaaLedgerKit
import Derived.Test.YtdmjffkcjkcdnaaOpenKit
import Derived.Test.YtdmjffkcjkcdnaaOpenLedger
import Derived.Test.YtdmjffkcjkcdnaaLedBox
import Derived.Test.YtdmjffkcjkcdnaaLedCount
namespace Go.Proofs.Ytdmjffkcjkcdnaa.fnExactFlyingOf
open Go.ChangeShapes Go.WideShapes Go.ChangeAt Go.RowKit ListKit SlotKit SlotRows LedgerKit LedBox LedCount
set_option linter.unusedVariables false
set_option linter.unusedSimpArgs false
set_option maxRecDepth 8000

set_option maxHeartbeats 4000000 in
theorem walk (W : World) (a : Option Addr) (c : Nat) (L : List Slot) (h : SlotRows.Arg W a L) (m : L.length ≤ maxLen) (cl : Int) (wcl : (Lit.int .i64 cl).wf = true) :
    Calls Try.prog 6 #[.agg #[.slice a L.length c], .int .i64 cl] W fun e w' => e = .returned (.bool true) ∧ Below W.heap.size W w' := by
  have hm : (L.length : Int) ≤ 9223372036854775807 := by unfold maxLen at m; omega
  have b0 : Below W.heap.size W (W.alloc (.cells #[.slice a L.length c] 30)) := (Below.refl _ _).alloc (Nat.le_refl _) _
  have HS := sz_ledger a c L.length (W.alloc (.cells #[.slice a L.length c] 30)) hm
  clear wcl
  by_cases hl : (L.length : Int) ≤ 1048576
  · rw [if_pos hl] at HS
    have h0 : ¬ (1048576 - (L.length : Int)) < 0 := by omega
    have hBB : ((cnt (isBy cl) L L.length : Int) != (cnt (isBy cl) L L.length : Int)) = false := by simp
    have HSP := fun W a c (h : Own 25 5 cells W a L) (hc : L.length ≤ c) => spec_flyingof a c L cl W h (by omega)
    have HIM := fun W a c (h : Own 25 5 cells W a L) (hc : L.length ≤ c) => impl_flyingof a c L cl W h (by omega)
    have HX : Hid (StB W (W.alloc (.cells #[.slice a L.length c] 30)) #[.slice a L.length c] 30 a L) := StB.start h
    have HL : Hid (L.length ≤ 1048577) := by show _ ≤ _; omega
    clear b0 h m hm hl
    go_enter Try.func6, Try.ntmps6
    go_wp2_with (go_at_call 12; refine HS.mono ?_; rintro e w1 ⟨rfl, hb⟩; have H1 : Hid (StB W w1 #[.slice a L.length c] 30 a L) := HX.out.next hb; have c0 := H1.out.1.cell 0; clear hb HS HX)
    refine (to_ledger a c L w1 H1.out.arg HL.out).mono ?_
    rintro e w2 ⟨g1, rfl, _, r1, b2⟩
    have H2 : Hid (StB W w2 #[.slice a L.length c] 30 a L) := H1.out.next b2
    clear c0 b2 H1
    go_wp2_with fail
    refine (HSP w2 _ _ (Or.inr ⟨g1, 0, rfl, r1⟩) (Nat.le_refl _)).mono ?_
    rintro e w3 ⟨rfl, b3⟩
    have H3 : Hid (StB W w3 #[.slice a L.length c] 30 a L) := H2.out.next b3
    have c0 := H3.out.1.cell 0
    clear b3 r1 H2
    go_wp2_with fail
    refine (to_ledger a c L _ H3.out.arg HL.out).mono ?_
    rintro e w4 ⟨g2, rfl, hg2, r2, b4⟩
    have n4 : ∀ o : Obj, Below w4.heap.size w4 (w4.alloc o) := fun o => (Below.refl _ _).alloc (Nat.le_refl _) _
    have H4 : Hid (StB W (w4.alloc (.cells #[.slice (some ⟨g2, 0, none⟩) L.length L.length] 35)) #[.slice a L.length c] 30 a L ∧ boxB (w4.alloc (.cells #[.slice (some ⟨g2, 0, none⟩) L.length L.length] 35)) w4.heap.size #[.slice (some ⟨g2, 0, none⟩) L.length L.length] 35 ∧ Row 25 5 cells (w4.alloc (.cells #[.slice (some ⟨g2, 0, none⟩) L.length L.length] 35)) g2 0 L) := ⟨(H3.out.next b4).next (n4 _), boxB.new _ _ _, r2.below (n4 _)⟩
    clear c0 b4 r2 hg2 H3 n4
    go_wp2_with fail
    refine (HIM _ _ _ (Or.inr ⟨g2, 0, rfl, H4.out.2.2⟩) (Nat.le_refl _)).mono ?_
    rintro e w5 ⟨rfl, b5⟩
    have H5 : Hid (StB W w5.drew #[.slice a L.length c] 30 a L ∧ boxB w5.drew w4.heap.size #[.slice (some ⟨g2, 0, none⟩) L.length L.length] 35 ∧ Row 25 5 cells w5.drew g2 0 L) := ⟨(H4.out.1.next b5).drew, H4.out.2.1.below b5.drew, H4.out.2.2.below b5.drew⟩
    have c0 := H5.out.1.1.cell 0
    have x0 := H5.out.2.1.cell 0
    clear b5 H4
    go_wp2
    go_region_with (first | (go_at_call 14; refine (to_ledger a c L _ H5.out.1.arg HL.out).mono ?_; rintro e w7 ⟨g3, rfl, _, r3, b7⟩; have H7 : Hid (StB W w7 #[.slice a L.length c] 30 a L ∧ boxB w7 w4.heap.size #[.slice (some ⟨g2, 0, none⟩) L.length L.length] 35 ∧ Row 25 5 cells w7 g2 0 L ∧ Row 25 5 cells w7 g3 0 L) := ⟨H5.out.1.next b7, H5.out.2.1.below b7, H5.out.2.2.below b7, r3⟩; have y0 := H7.out.2.1.cell 0; clear b7 r3) | (go_at_call 16; refine (eq_ledger _ _ _ _ L _ (Or.inr ⟨g2, 0, rfl, H7.out.2.2.1⟩) (Or.inr ⟨g3, 0, rfl, H7.out.2.2.2⟩) HL.out).mono ?_; rintro e w8 ⟨rfl, b8⟩; have H8 : Hid (Below W.heap.size W w8) := (H7.out.1.next b8).2.1; clear b8))
    all_goals
      clear c0 x0 y0 H5 H7
      go_wp2
      go_ret
      exact ⟨rfl, H8.out⟩
  · rw [if_neg hl] at HS
    go_enter Try.func6, Try.ntmps6
    go_wp2_with (go_at_call 12; refine HS.mono ?_; rintro e w1 ⟨rfl, hb⟩)
    go_ret
    exact ⟨rfl, b0.trans (hb.mono (by simp))⟩

theorem own : ownKnob Try.prog.godebug = none := by kernel_rfl
theorem laidOut : laidOutB Try.prog = true := by kernel_rfl

set_option maxRecDepth 100000 in
theorem lifted (os : Os) (started : os.Started) (H : Type) (enc : TypeId × Value → H) :
    ReturnsInHanded {} Try.checked os 6 .any (Rows.fnExactFlyingOfSpec.pre6 enc Try.prog Try.f6 Rows.fnExactFlyingOfRow.domain false) (Rows.fnExactFlyingOfSpec.post enc Try.prog Try.f6 false true false false) := by
  refine returnsInHanded_of_change (C := Try.checked) own started (by kernel_rfl) Try.func6
    (ChangeSpec.witness6 (enc := enc) (C := Try.checked) false ⟨#[], #[.agg #[.slice none 0 0], .int .i64 0], []⟩ 8 (by kernel_rfl) (by kernel_rfl) (by kernel_rfl) (by kernel_rfl)) ?_
  intro W base args ds gs before hval0 hW hcnd _
  have hval : ∀ (j : Nat) t v, Try.f6.params[j]? = some t → args[j]? = some v → Value.okWide Try.prog W .any base t v := hval0
  have hW' := hW
  obtain ⟨p, q, hA0, hV, rfl, hfz, hnd⟩ := hW
  have hA : DataW.TrodAll enc Try.prog W 0 (fun _ => true) true Try.f6.params.toList args.toList ds p := hA0
  rw [Try.params6] at hA hval
  obtain ⟨v0, vs0, d0, ds0, p0, q0, hargs, rfl, rfl, h0, r0⟩ := trodAll_cons hA
  obtain ⟨v1, vs1, d1, ds1, p1, q1, rfl, rfl, rfl, h1, r1⟩ := trodAll_cons r0
  obtain ⟨rfl, rfl, rfl⟩ := trodAll_nil r1
  obtain rfl : args = #[v0, v1] := by cases args; simp_all
  obtain ⟨rfl, rfl⟩ := trodVars_none hV
  have k0_ := h0
  have lt0 : ∀ x ∈ p0, x.block < W.heap.size := by obtain ⟨m, hm⟩ := k0_; exact DataW.trod_lt m _ _ _ hm
  obtain ⟨aL0, cL0, L0, rfl, hL0, mL0⟩ := OpenLedger.open_ledger (hval 0 30 v0 rfl rfl) h0
  obtain ⟨a1, rfl, rfl, rfl, w1⟩ := open_int Try.underlying3 (hval 1 3 v1 rfl rfl) h1
  clear hA0 hval0
  refine (walk W aL0 cL0 L0 (LedBox.arg_of hL0) mL0 a1 w1).mono fun e W' ⟨he, hb⟩ => ?_
  subst he
  exact ⟨_, rfl, _, _, _, [], _, [], hW', trodAll_cons_mk (shut_bool Try.underlying4 _) trodAll_mk0, (trodAll_cons_mk (Below.trod laidOut (by kernel_rfl) (of_decide_eq_true (by kernel_rfl)) k0_ hb lt0) (trodAll_cons_mk (shut_int Try.underlying3 w1) trodAll_mk0)), rfl, hb.frame _, fun h => by cases h⟩

theorem over : Rows.fnExactFlyingOfRow.holds Try.pinned (OpenSpec.ofChange Rows.fnExactFlyingOfSpec) :=
  OpenClaim.holds_of_wide 6 Try.f6 rfl rfl rfl rfl rfl rfl rfl ⟨rfl, rfl, rfl, rfl, rfl⟩ rfl rfl rfl rfl rfl (by kernel_rfl) Try.func6 (by kernel_rfl)
    (of_decide_eq_true (by kernel_rfl)) (by unfold Func.isWrapper; first | (rw [if_pos (by decide +kernel)]; kernel_rfl) | (rw [if_neg (by decide +kernel)]; exact ⟨rfl, rfl⟩))
    (fun os started H enc _ => lifted os started H enc)

theorem proved : Rows.FnExactFlyingOfSaid :=
  over
end Go.Proofs.Ytdmjffkcjkcdnaa.fnExactFlyingOf
