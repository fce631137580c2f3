/- At every slot the program's SlotOk answers as the model's (the law FnExactSlotOk returns true); no condition. -/
import Derived.Test.YtdmjffkcjkcdnaaRows
import Derived.WalkKit
import Derived.WalkSmall
import Derived.BigQuiet
import Derived.ProofKit
import Derived.OpenShut
import Derived.Deep.RegionWith
import Derived.Test.YtdmjffkcjkcdnaaListKit
import Derived.Test.YtdmjffkcjkcdnaaSlotKit
import Derived.Test.YtdmjffkcjkcdnaaSlotRows
import Derived.Test.YtdmjffkcjkcdnaaSlotOks
import Derived.Test.YtdmjffkcjkcdnaaOpenKit
import Derived.Test.YtdmjffkcjkcdnaaOpenSlot
import Derived.Test.YtdmjffkcjkcdnaaLedBox
namespace Go.Proofs.Ytdmjffkcjkcdnaa.fnExactSlotOk
open Go.ChangeShapes Go.WideShapes Go.ChangeAt Go.RowKit ListKit SlotKit SlotRows SlotOks LedBox
set_option linter.unusedVariables false
set_option linter.unusedSimpArgs false
set_option maxRecDepth 8000

set_option maxHeartbeats 1000000 in
theorem walk (W : World) (x0 : Int) (x1 : Bool) (x2 x3 x4 : Int) :
    Calls Try.prog 3 #[.agg #[.int .i64 x0, .bool x1, .int .i64 x2, .int .i64 x3, .int .i64 x4]] W fun e w' => e = .returned (.bool true) ∧ Below W.heap.size W w' := by
  have HSP := fun W => spec_slotok x0 x1 x2 x3 x4 W
  have HIM := fun W => impl_slotok x0 x1 x2 x3 x4 W
  obtain ⟨B, hB⟩ : ∃ B, slotOk ⟨x0, x1, x2, x3, x4⟩ = B := ⟨_, rfl⟩
  rw [hB] at HSP HIM
  clear hB
  have hBB : (B != B) = false := by simp
  have H0 : Hid (boxB (W.alloc (.cells #[.int .i64 x0, .bool x1, .int .i64 x2, .int .i64 x3, .int .i64 x4] 23)) W.heap.size #[.int .i64 x0, .bool x1, .int .i64 x2, .int .i64 x3, .int .i64 x4] 23 ∧ Below W.heap.size W (W.alloc (.cells #[.int .i64 x0, .bool x1, .int .i64 x2, .int .i64 x3, .int .i64 x4] 23))) := ⟨boxB.new _ _ _, (Below.refl _ _).alloc (Nat.le_refl _) _⟩
  go_enter Try.func3, Try.ntmps3
  go_wp2_with fail
  refine (to_one x0 x1 x2 x3 x4 _).mono ?_
  rintro e w1 ⟨rfl, b1⟩
  have H1 : Hid (boxB w1 W.heap.size #[.int .i64 x0, .bool x1, .int .i64 x2, .int .i64 x3, .int .i64 x4] 23 ∧ Below W.heap.size W w1) := ⟨H0.out.1.below b1, H0.out.2.trans (b1.mono H0.out.2.size)⟩
  clear b1 H0
  go_wp2_with fail
  refine (HSP _).mono ?_
  rintro e w2 ⟨rfl, b2⟩
  have H2 : Hid (boxB w2 W.heap.size #[.int .i64 x0, .bool x1, .int .i64 x2, .int .i64 x3, .int .i64 x4] 23 ∧ Below W.heap.size W w2) := ⟨H1.out.1.below b2, H1.out.2.trans (b2.mono H1.out.2.size)⟩
  have c0 := H2.out.1.cell 0
  have c1 := H2.out.1.cell 1
  have c2 := H2.out.1.cell 2
  have c3 := H2.out.1.cell 3
  have c4 := H2.out.1.cell 4
  clear b2 H1
  go_wp2_with fail
  refine (to_one x0 x1 x2 x3 x4 _).mono ?_
  rintro e w3 ⟨rfl, b3⟩
  have B3 : Hid (Below W.heap.size W w3) := H2.out.2.trans (b3.mono H2.out.2.size)
  clear b3 c0 c1 c2 c3 c4 H2
  go_wp2_with fail
  refine (HIM _).mono ?_
  rintro e w4 ⟨rfl, b4⟩
  have B4 : Hid (Below W.heap.size W w4) := B3.out.trans (b4.mono B3.out.size)
  clear b4
  go_wp2
  go_ret
  exact ⟨rfl, B4.out⟩

theorem own : ownKnob Try.prog.godebug = none := by kernel_rfl
theorem laidOut : laidOutB Try.prog = true := by kernel_rfl

set_option maxRecDepth 100000 in
theorem lifted (os : Os) (started : os.Started) (H : Type) (enc : TypeId × Value → H) :
    ReturnsInHanded {} Try.checked os 3 .any (Rows.fnExactSlotOkSpec.pre6 enc Try.prog Try.f3 Rows.fnExactSlotOkRow.domain false) (Rows.fnExactSlotOkSpec.post enc Try.prog Try.f3 false true false false) := by
  refine returnsInHanded_of_change (C := Try.checked) own started (by kernel_rfl) Try.func3
    (ChangeSpec.witness6 (enc := enc) (C := Try.checked) false ⟨#[], #[.agg #[.int .i64 0, .bool false, .int .i64 0, .int .i64 0, .int .i64 0]], []⟩ 8 (by kernel_rfl) (by kernel_rfl) (by kernel_rfl) (by kernel_rfl)) ?_
  intro W base args ds gs before hval0 hW hcnd _
  have hval : ∀ (j : Nat) t v, Try.f3.params[j]? = some t → args[j]? = some v → Value.okWide Try.prog W .any base t v := hval0
  have hW' := hW
  obtain ⟨p, q, hA0, hV, rfl, hfz, hnd⟩ := hW
  have hA : DataW.TrodAll enc Try.prog W 0 (fun _ => true) true Try.f3.params.toList args.toList ds p := hA0
  rw [Try.params3] at hA hval
  obtain ⟨v0, vs0, d0, ds0, p0, q0, hargs, rfl, rfl, h0, r0⟩ := trodAll_cons hA
  obtain ⟨rfl, rfl, rfl⟩ := trodAll_nil r0
  obtain rfl : args = #[v0] := by cases args; simp_all
  obtain ⟨rfl, rfl⟩ := trodVars_none hV
  have k0_ := h0
  have lt0 : ∀ x ∈ p0, x.block < W.heap.size := by obtain ⟨m, hm⟩ := k0_; exact DataW.trod_lt m _ _ _ hm
  obtain ⟨x0_0, x0_1, x0_2, x0_3, x0_4, rfl⟩ := OpenSlot.open_slot (hval 0 23 v0 rfl rfl) h0
  clear hA0 hval0
  refine (walk W x0_0 x0_1 x0_2 x0_3 x0_4).mono fun e W' ⟨he, hb⟩ => ?_
  subst he
  exact ⟨_, rfl, _, _, _, [], _, [], hW', trodAll_cons_mk (shut_bool Try.underlying4 _) trodAll_mk0, (trodAll_cons_mk (Below.trod laidOut (by kernel_rfl) (of_decide_eq_true (by kernel_rfl)) k0_ hb lt0) trodAll_mk0), rfl, hb.frame _, fun h => by cases h⟩

theorem over : Rows.fnExactSlotOkRow.holds Try.pinned (OpenSpec.ofChange Rows.fnExactSlotOkSpec) :=
  OpenClaim.holds_of_wide 3 Try.f3 rfl rfl rfl rfl rfl rfl rfl ⟨rfl, rfl, rfl, rfl, rfl⟩ rfl rfl rfl rfl rfl (by kernel_rfl) Try.func3 (by kernel_rfl)
    (of_decide_eq_true (by kernel_rfl)) (by unfold Func.isWrapper; first | (rw [if_pos (by decide +kernel)]; kernel_rfl) | (rw [if_neg (by decide +kernel)]; exact ⟨rfl, rfl⟩))
    (fun os started H enc _ => lifted os started H enc)

theorem proved : Rows.FnExactSlotOkSaid :=
  over
end Go.Proofs.Ytdmjffkcjkcdnaa.fnExactSlotOk
