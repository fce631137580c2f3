/- At every limit the program's LimOk answers as the model's (the law FnExactLimOk returns true); no condition. -/
import Derived.Test.YtocibihmkhfceaaRows
import Derived.WalkKit
import Derived.WalkSmall
import Derived.BigQuiet
import Derived.ProofKit
import Derived.OpenShut
import Derived.Deep.RegionWith
import Derived.Test.YtocibihmkhfceaaPairWalks
import Derived.Test.YtocibihmkhfceaaMarkKit
import Derived.Test.YtocibihmkhfceaaOpenKit
import Derived.Test.YtocibihmkhfceaaOpenLim
import Derived.Test.YtocibihmkhfceaaLawBox
import Derived.Test.YtocibihmkhfceaaLimKit
import Derived.Test.YtocibihmkhfceaaLimCopy
import Derived.Test.YtocibihmkhfceaaLimSpec
import Derived.Test.YtocibihmkhfceaaLimImpl
namespace Go.Proofs.Ytocibihmkhfceaa.fnExactLimOk
open Go.ChangeShapes Go.WideShapes Go.ChangeAt Go.RowKit PairWalks MarkKit LawBox LimKit LimCopy LimSpec LimImpl
set_option linter.unusedVariables false
set_option linter.unusedSimpArgs false
set_option maxRecDepth 8000

set_option maxHeartbeats 4000000 in
theorem walk (W : World) (k mn mx sp sl li gd av ws : Int) (a : Option Addr) (c : Nat) (L : List (Int × Int)) (h : Arg W a L) (m : L.length ≤ maxLen) :
    Calls Try.prog 4 #[.agg #[.int .i64 k, .int .i64 mn, .int .i64 mx, .int .i64 sp, .int .i64 sl, .int .i64 li, .int .i64 gd, .int .i64 av, .int .i64 ws, .slice a L.length c]] W fun e w' => e = .returned (.bool true) ∧ Below W.heap.size W w' := by
  have hm : (L.length : Int) ≤ 9223372036854775807 := by unfold maxLen at m; omega
  have b0 : Below W.heap.size W (W.alloc (.cells #[.int .i64 k, .int .i64 mn, .int .i64 mx, .int .i64 sp, .int .i64 sl, .int .i64 li, .int .i64 gd, .int .i64 av, .int .i64 ws, .slice a L.length c] 32)) := (Below.refl _ _).alloc (Nat.le_refl _) _
  have HS := sz_lim k mn mx sp sl li gd av ws a c L.length (W.alloc (.cells #[.int .i64 k, .int .i64 mn, .int .i64 mx, .int .i64 sp, .int .i64 sl, .int .i64 li, .int .i64 gd, .int .i64 av, .int .i64 ws, .slice a L.length c] 32)) hm
  by_cases hl : (L.length : Int) ≤ 1048576
  · rw [if_pos hl] at HS
    have h0 : ¬ (1048576 - (L.length : Int)) < 0 := by omega
    obtain ⟨B, HB⟩ := flag (limOk k mn mx sp sl li gd av ws L)
    have hBB : (B != B) = false := by simp
    have HSP := fun W a c h => spec_limok k mn mx sp sl li gd av ws a c L B W h (by omega) HB
    have HIM := fun W a c h => impl_limok k mn mx sp sl li gd av ws a c L B W h (by omega) HB
    have HX : Hid (StB W (W.alloc (.cells #[.int .i64 k, .int .i64 mn, .int .i64 mx, .int .i64 sp, .int .i64 sl, .int .i64 li, .int .i64 gd, .int .i64 av, .int .i64 ws, .slice a L.length c] 32)) #[.int .i64 k, .int .i64 mn, .int .i64 mx, .int .i64 sp, .int .i64 sl, .int .i64 li, .int .i64 gd, .int .i64 av, .int .i64 ws, .slice a L.length c] 32 a L) := StB.start h
    have HL : Hid (L.length ≤ 1048577) := by show _ ≤ _; omega
    clear b0 h m hm hl
    go_enter Try.func4, Try.ntmps4
    go_wp2_with (go_at_call 13; refine HS.mono ?_; rintro e w1 ⟨rfl, hb⟩; have H1 : Hid (StB W w1 #[.int .i64 k, .int .i64 mn, .int .i64 mx, .int .i64 sp, .int .i64 sl, .int .i64 li, .int .i64 gd, .int .i64 av, .int .i64 ws, .slice a L.length c] 32 a L) := HX.out.next hb; have c0 := H1.out.1.cell 0; have c1 := H1.out.1.cell 1; have c2 := H1.out.1.cell 2; have c3 := H1.out.1.cell 3; have c4 := H1.out.1.cell 4; have c5 := H1.out.1.cell 5; have c6 := H1.out.1.cell 6; have c7 := H1.out.1.cell 7; have c8 := H1.out.1.cell 8; have c9 := H1.out.1.cell 9; clear hb HS HX)
    refine (to_lim k mn mx sp sl li gd av ws a c L w1 H1.out.arg HL.out).mono ?_
    rintro e w2 ⟨g1, rfl, _, r1, b2⟩
    have H2 : Hid (StB W w2 #[.int .i64 k, .int .i64 mn, .int .i64 mx, .int .i64 sp, .int .i64 sl, .int .i64 li, .int .i64 gd, .int .i64 av, .int .i64 ws, .slice a L.length c] 32 a L) := H1.out.next b2
    clear c0 c1 c2 c3 c4 c5 c6 c7 c8 c9 b2 H1
    go_wp2_with fail
    refine (HSP w2 _ _ (Or.inr ⟨g1, 0, rfl, r1⟩)).mono ?_
    rintro e w3 ⟨rfl, b3⟩
    have H3 : Hid (StB W w3 #[.int .i64 k, .int .i64 mn, .int .i64 mx, .int .i64 sp, .int .i64 sl, .int .i64 li, .int .i64 gd, .int .i64 av, .int .i64 ws, .slice a L.length c] 32 a L) := H2.out.next b3
    have c0 := H3.out.1.cell 0
    have c1 := H3.out.1.cell 1
    have c2 := H3.out.1.cell 2
    have c3 := H3.out.1.cell 3
    have c4 := H3.out.1.cell 4
    have c5 := H3.out.1.cell 5
    have c6 := H3.out.1.cell 6
    have c7 := H3.out.1.cell 7
    have c8 := H3.out.1.cell 8
    have c9 := H3.out.1.cell 9
    clear b3 r1 H2
    go_wp2_with fail
    refine (to_lim k mn mx sp sl li gd av ws a c L _ H3.out.arg HL.out).mono ?_
    rintro e w4 ⟨g2, rfl, hg2, r2, b4⟩
    have n4 : ∀ o : Obj, Below w4.heap.size w4 (w4.alloc o) := fun o => (Below.refl _ _).alloc (Nat.le_refl _) _
    have H4 : Hid (StB W (w4.alloc (.cells #[.int .i64 k, .int .i64 mn, .int .i64 mx, .int .i64 sp, .int .i64 sl, .int .i64 li, .int .i64 gd, .int .i64 av, .int .i64 ws, .slice (some ⟨g2, 0, none⟩) L.length L.length] 39)) #[.int .i64 k, .int .i64 mn, .int .i64 mx, .int .i64 sp, .int .i64 sl, .int .i64 li, .int .i64 gd, .int .i64 av, .int .i64 ws, .slice a L.length c] 32 a L ∧ boxB (w4.alloc (.cells #[.int .i64 k, .int .i64 mn, .int .i64 mx, .int .i64 sp, .int .i64 sl, .int .i64 li, .int .i64 gd, .int .i64 av, .int .i64 ws, .slice (some ⟨g2, 0, none⟩) L.length L.length] 39)) w4.heap.size #[.int .i64 k, .int .i64 mn, .int .i64 mx, .int .i64 sp, .int .i64 sl, .int .i64 li, .int .i64 gd, .int .i64 av, .int .i64 ws, .slice (some ⟨g2, 0, none⟩) L.length L.length] 39 ∧ PRow (w4.alloc (.cells #[.int .i64 k, .int .i64 mn, .int .i64 mx, .int .i64 sp, .int .i64 sl, .int .i64 li, .int .i64 gd, .int .i64 av, .int .i64 ws, .slice (some ⟨g2, 0, none⟩) L.length L.length] 39)) g2 0 L) := ⟨(H3.out.next b4).next (n4 _), boxB.new _ _ _, r2.below (n4 _)⟩
    clear c0 c1 c2 c3 c4 c5 c6 c7 c8 c9 b4 r2 hg2 H3 n4
    go_wp2_with fail
    refine (HIM _ _ _ (Or.inr ⟨g2, 0, rfl, H4.out.2.2⟩)).mono ?_
    rintro e w5 ⟨rfl, b5⟩
    have H5 : Hid (StB W w5.drew #[.int .i64 k, .int .i64 mn, .int .i64 mx, .int .i64 sp, .int .i64 sl, .int .i64 li, .int .i64 gd, .int .i64 av, .int .i64 ws, .slice a L.length c] 32 a L ∧ boxB w5.drew w4.heap.size #[.int .i64 k, .int .i64 mn, .int .i64 mx, .int .i64 sp, .int .i64 sl, .int .i64 li, .int .i64 gd, .int .i64 av, .int .i64 ws, .slice (some ⟨g2, 0, none⟩) L.length L.length] 39 ∧ PRow w5.drew g2 0 L) := ⟨(H4.out.1.next b5).drew, H4.out.2.1.below b5.drew, H4.out.2.2.below b5.drew⟩
    have c0 := H5.out.1.1.cell 0
    have c1 := H5.out.1.1.cell 1
    have c2 := H5.out.1.1.cell 2
    have c3 := H5.out.1.1.cell 3
    have c4 := H5.out.1.1.cell 4
    have c5 := H5.out.1.1.cell 5
    have c6 := H5.out.1.1.cell 6
    have c7 := H5.out.1.1.cell 7
    have c8 := H5.out.1.1.cell 8
    have c9 := H5.out.1.1.cell 9
    have x0 := H5.out.2.1.cell 0
    have x1 := H5.out.2.1.cell 1
    have x2 := H5.out.2.1.cell 2
    have x3 := H5.out.2.1.cell 3
    have x4 := H5.out.2.1.cell 4
    have x5 := H5.out.2.1.cell 5
    have x6 := H5.out.2.1.cell 6
    have x7 := H5.out.2.1.cell 7
    have x8 := H5.out.2.1.cell 8
    have x9 := H5.out.2.1.cell 9
    clear b5 H4
    go_wp2
    go_region_with (first | (go_at_call 15; refine (to_lim k mn mx sp sl li gd av ws a c L _ H5.out.1.arg HL.out).mono ?_; rintro e w7 ⟨g3, rfl, _, r3, b7⟩; have H7 : Hid (StB W w7 #[.int .i64 k, .int .i64 mn, .int .i64 mx, .int .i64 sp, .int .i64 sl, .int .i64 li, .int .i64 gd, .int .i64 av, .int .i64 ws, .slice a L.length c] 32 a L ∧ boxB w7 w4.heap.size #[.int .i64 k, .int .i64 mn, .int .i64 mx, .int .i64 sp, .int .i64 sl, .int .i64 li, .int .i64 gd, .int .i64 av, .int .i64 ws, .slice (some ⟨g2, 0, none⟩) L.length L.length] 39 ∧ PRow w7 g2 0 L ∧ PRow w7 g3 0 L) := ⟨H5.out.1.next b7, H5.out.2.1.below b7, H5.out.2.2.below b7, r3⟩; have y0 := H7.out.2.1.cell 0; have y1 := H7.out.2.1.cell 1; have y2 := H7.out.2.1.cell 2; have y3 := H7.out.2.1.cell 3; have y4 := H7.out.2.1.cell 4; have y5 := H7.out.2.1.cell 5; have y6 := H7.out.2.1.cell 6; have y7 := H7.out.2.1.cell 7; have y8 := H7.out.2.1.cell 8; have y9 := H7.out.2.1.cell 9; clear b7 r3) | (go_at_call 17; refine (eq_lim k mn mx sp sl li gd av ws _ _ _ _ L _ (Or.inr ⟨g2, 0, rfl, H7.out.2.2.1⟩) (Or.inr ⟨g3, 0, rfl, H7.out.2.2.2⟩) HL.out).mono ?_; rintro e w8 ⟨rfl, b8⟩; have H8 : Hid (Below W.heap.size W w8) := (H7.out.1.next b8).2.1; clear b8))
    all_goals
      clear c0 c1 c2 c3 c4 c5 c6 c7 c8 c9 x0 x1 x2 x3 x4 x5 x6 x7 x8 x9 y0 y1 y2 y3 y4 y5 y6 y7 y8 y9 H5 H7
      go_wp2
      go_ret
      exact ⟨rfl, H8.out⟩
  · rw [if_neg hl] at HS
    go_enter Try.func4, Try.ntmps4
    go_wp2_with (go_at_call 13; refine HS.mono ?_; rintro e w1 ⟨rfl, hb⟩)
    go_ret
    exact ⟨rfl, b0.trans (hb.mono (by simp))⟩

theorem own : ownKnob Try.prog.godebug = none := by kernel_rfl
theorem laidOut : laidOutB Try.prog = true := by kernel_rfl

set_option maxRecDepth 100000 in
theorem lifted (os : Os) (started : os.Started) (H : Type) (enc : TypeId × Value → H) :
    ReturnsInHanded {} Try.checked os 4 .any (Rows.fnExactLimOkSpec.pre6 enc Try.prog Try.f4 Rows.fnExactLimOkRow.domain false) (Rows.fnExactLimOkSpec.post enc Try.prog Try.f4 false true false false) := by
  refine returnsInHanded_of_change (C := Try.checked) own started (by kernel_rfl) Try.func4
    (ChangeSpec.witness6 (enc := enc) (C := Try.checked) false ⟨#[], #[.agg #[.int .i64 0, .int .i64 0, .int .i64 0, .int .i64 0, .int .i64 0, .int .i64 0, .int .i64 0, .int .i64 0, .int .i64 0, .slice none 0 0]], []⟩ 8 (by kernel_rfl) (by kernel_rfl) (by kernel_rfl) (by kernel_rfl)) ?_
  intro W base args ds gs before hval0 hW hcnd _
  have hval : ∀ (j : Nat) t v, Try.f4.params[j]? = some t → args[j]? = some v → Value.okWide Try.prog W .any base t v := hval0
  have hW' := hW
  obtain ⟨p, q, hA0, hV, rfl, hfz, hnd⟩ := hW
  have hA : DataW.TrodAll enc Try.prog W 0 (fun _ => true) true Try.f4.params.toList args.toList ds p := hA0
  rw [Try.params4] at hA hval
  obtain ⟨v0, vs0, d0, ds0, p0, q0, hargs, rfl, rfl, h0, r0⟩ := trodAll_cons hA
  obtain ⟨rfl, rfl, rfl⟩ := trodAll_nil r0
  obtain rfl : args = #[v0] := by cases args; simp_all
  obtain ⟨rfl, rfl⟩ := trodVars_none hV
  have k0_ := h0
  have lt0 : ∀ x ∈ p0, x.block < W.heap.size := by obtain ⟨m, hm⟩ := k0_; exact DataW.trod_lt m _ _ _ hm
  obtain ⟨k0, mn0, mx0, sp0, sl0, li0, gd0, av0, ws0, aL0, cL0, L0, rfl, hL0, mL0⟩ := OpenLim.open_lim (hval 0 32 v0 rfl rfl) h0
  clear hA0 hval0
  refine (walk W k0 mn0 mx0 sp0 sl0 li0 gd0 av0 ws0 aL0 cL0 L0 (LawBox.Arg.of hL0) mL0).mono fun e W' ⟨he, hb⟩ => ?_
  subst he
  exact ⟨_, rfl, _, _, _, [], _, [], hW', trodAll_cons_mk (shut_bool Try.underlying4 _) trodAll_mk0, (trodAll_cons_mk (Below.trod laidOut (by kernel_rfl) (of_decide_eq_true (by kernel_rfl)) k0_ hb lt0) trodAll_mk0), rfl, hb.frame _, fun h => by cases h⟩

theorem over : Rows.fnExactLimOkRow.holds Try.pinned (OpenSpec.ofChange Rows.fnExactLimOkSpec) :=
  OpenClaim.holds_of_wide 4 Try.f4 rfl rfl rfl rfl rfl rfl rfl ⟨rfl, rfl, rfl, rfl, rfl⟩ rfl rfl rfl rfl rfl (by kernel_rfl) Try.func4 (by kernel_rfl)
    (of_decide_eq_true (by kernel_rfl)) (by unfold Func.isWrapper; first | (rw [if_pos (by decide +kernel)]; kernel_rfl) | (rw [if_neg (by decide +kernel)]; exact ⟨rfl, rfl⟩))
    (fun os started H enc _ => lifted os started H enc)

theorem proved : Rows.FnExactLimOkSaid :=
  over
end Go.Proofs.Ytocibihmkhfceaa.fnExactLimOk
