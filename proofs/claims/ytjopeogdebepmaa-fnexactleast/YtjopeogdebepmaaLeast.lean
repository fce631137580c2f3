/- At every window and time the program's Least answers as the model's Least (the law FnExactLeast returns true), and the argument is left as it was; no condition. -/
import Derived.Test.YtjopeogdebepmaaRows
import Derived.WalkKit
import Derived.WalkSmall
import Derived.BigQuiet
import Derived.ProofKit
import Derived.OpenShut
import Derived.Deep.RegionWith
import Derived.Test.YtjopeogdebepmaaPairWalks
import Derived.Test.YtjopeogdebepmaaWinOk
import Derived.Test.YtjopeogdebepmaaTrimWalks
import Derived.Test.YtjopeogdebepmaaPushWalks
import Derived.Test.YtjopeogdebepmaaImplTrim
import Derived.Test.YtjopeogdebepmaaLeastWalks
import Derived.Test.YtjopeogdebepmaaWinArg
namespace Go.Proofs.Ytjopeogdebepmaa.fnExactLeast
open Go.ChangeShapes Go.WideShapes Go.ChangeAt Go.RowKit PairWalks WinOk TrimWalks PushWalks ImplTrim LeastWalks WinArg
set_option linter.unusedVariables false

set_option maxHeartbeats 1000000 in
theorem walk (W : World) (span : Int) (a : Option Addr) (c : Nat) (L : List (Int × Int)) (h : Arg W a L) (m : L.length ≤ maxLen) (now : Int) (w1 : (Lit.int .i64 now).wf = true) :
    Calls Try.prog 5 #[.agg #[.int .i64 span, .slice a L.length c], .int .i64 now] W fun e w' => e = .returned (.bool true) ∧ Below W.heap.size W w' := by
  have hm : (L.length : Int) ≤ 9223372036854775807 := by unfold maxLen at m; omega
  have b0 : Below W.heap.size W (W.alloc (.cells #[.int .i64 span, .slice a L.length c] 24)) := (Below.refl _ _).alloc (Nat.le_refl _) _
  have HS := sz_window span a c L.length (W.alloc (.cells #[.int .i64 span, .slice a L.length c] 24)) hm
  clear w1
  by_cases hl : (L.length : Int) ≤ 1048576
  · rw [if_pos hl] at HS
    have h0 : ¬ (1048576 - (L.length : Int)) < 0 := by omega
    have HSP := fun W a c h => spec_least span now a c L W h (by omega)
    have HIM := fun W a c h => impl_least span now a c L W h (by omega)
    obtain ⟨r, hr⟩ : ∃ r, leastOf span L now = r := ⟨_, rfl⟩
    rw [hr] at HSP HIM
    have hrr : (r != r) = false := by simp
    have HX : Hid (St W (W.alloc (.cells #[.int .i64 span, .slice a L.length c] 24)) span a L.length c L) := St.start 24 h
    have HL : Hid (L.length ≤ 1048577) := by show _ ≤ _; omega
    clear b0 h m hm hl hr
    go_enter Try.func5, Try.ntmps5
    go_wp2_with (go_at_call 7; refine HS.mono ?_; rintro e w1 ⟨rfl, hb⟩; have H1 : Hid (St W w1 span a L.length c L) := HX.out.next hb; have c0 := H1.out.1.1; have c1 := H1.out.1.2; clear hb HS HX)
    refine (to_window span a c L w1 H1.out.arg HL.out).mono ?_
    rintro e w2 ⟨g1, rfl, _, r1, b2⟩
    have H2 : Hid (St W w2 span a L.length c L) := H1.out.next b2
    clear c0 c1 b2
    go_wp2_with fail
    refine (HSP w2 _ _ (Or.inr ⟨g1, 0, rfl, r1⟩)).mono ?_
    rintro e w3 ⟨rfl, b3⟩
    have H3 : Hid (St W w3 span a L.length c L) := H2.out.next b3
    have c0 := H3.out.1.1
    have c1 := H3.out.1.2
    clear b3 r1
    go_wp2_with fail
    refine (to_window span a c L w3 H3.out.arg HL.out).mono ?_
    rintro e w4 ⟨g2, rfl, _, r2, b4⟩
    have H4 : Hid (St W (w4.alloc (.cells #[.int .i64 span, .slice (some ⟨g2, 0, none⟩) L.length L.length] 28)) span a L.length c L ∧ boxAt (w4.alloc (.cells #[.int .i64 span, .slice (some ⟨g2, 0, none⟩) L.length L.length] 28)) w4.heap.size (.int .i64 span) (.slice (some ⟨g2, 0, none⟩) L.length L.length) ∧ PRow (w4.alloc (.cells #[.int .i64 span, .slice (some ⟨g2, 0, none⟩) L.length L.length] 28)) g2 0 L) := ⟨(H3.out.next b4).next ((Below.refl _ _).alloc (Nat.le_refl _) _), boxAt.new _ _ _ _, r2.below ((Below.refl _ _).alloc (Nat.le_refl _) _)⟩
    clear c0 c1 b4 r2
    go_wp2_with fail
    refine (HIM _ _ _ (Or.inr ⟨g2, 0, rfl, H4.out.2.2⟩)).mono ?_
    rintro e w5 ⟨rfl, b5⟩
    have H5 : Hid (St W w5.drew span a L.length c L ∧ boxAt w5.drew w4.heap.size (.int .i64 span) (.slice (some ⟨g2, 0, none⟩) L.length L.length) ∧ PRow w5.drew g2 0 L) := ⟨(H4.out.1.next b5).drew, H4.out.2.1.below b5.drew, H4.out.2.2.below b5.drew⟩
    have c0 := H5.out.1.1.1
    have c1 := H5.out.1.1.2
    have x0 := H5.out.2.1.1
    have x1 := H5.out.2.1.2
    clear b5 HSP HIM
    go_wp2
    go_region_with (first | (go_at_call 9; refine (to_window span a c L _ H5.out.1.arg HL.out).mono ?_; rintro e w6 ⟨g3, rfl, _, r3, b6⟩; have y0 := (H5.out.2.1.below b6).1; have y1 := (H5.out.2.1.below b6).2; have H6 : Hid (St W w6 span a L.length c L ∧ PRow w6 g2 0 L ∧ PRow w6 g3 0 L) := ⟨H5.out.1.next b6, H5.out.2.2.below b6, r3⟩; clear b6 r3) | (go_at_call 11; refine (eq_window span _ _ _ _ L _ (Or.inr ⟨g2, 0, rfl, H6.out.2.1⟩) (Or.inr ⟨g3, 0, rfl, H6.out.2.2⟩) HL.out).mono ?_; rintro e w7 ⟨rfl, b7⟩; have H7 : Hid (St W w7 span a L.length c L) := H6.out.1.next b7; clear b7))
    all_goals
      go_wp2
      go_ret
      exact ⟨rfl, H7.out.2.1⟩
  · rw [if_neg hl] at HS
    go_enter Try.func5, Try.ntmps5
    go_wp2_with (go_at_call 7; refine HS.mono ?_; rintro e w1 ⟨rfl, hb⟩)
    go_ret
    exact ⟨rfl, b0.trans (hb.mono (by simp))⟩

theorem own : ownKnob Try.prog.godebug = none := by kernel_rfl
theorem laidOut : laidOutB Try.prog = true := by kernel_rfl

set_option maxRecDepth 100000 in
theorem lifted (os : Os) (started : os.Started) (H : Type) (enc : TypeId × Value → H) :
    ReturnsInHanded {} Try.checked os 5 .any (Rows.fnExactLeastSpec.pre6 enc Try.prog Try.f5 Rows.fnExactLeastRow.domain false) (Rows.fnExactLeastSpec.post enc Try.prog Try.f5 false true false false) := by
  refine returnsInHanded_of_change (C := Try.checked) own started (by kernel_rfl) Try.func5
    (ChangeSpec.witness6 (enc := enc) (C := Try.checked) false ⟨#[], #[.agg #[.int .i64 0, .slice none 0 0], .int .i64 0], []⟩ 8 (by kernel_rfl) (by kernel_rfl) (by kernel_rfl) (by kernel_rfl)) ?_
  intro W base args ds gs before hval0 hW hcnd _
  have hval : ∀ (j : Nat) t v, Try.f5.params[j]? = some t → args[j]? = some v → Value.okWide Try.prog W .any base t v := hval0
  have hW' := hW
  obtain ⟨p, q, hA0, hV, rfl, hfz, hnd⟩ := hW
  have hA : DataW.TrodAll enc Try.prog W 0 (fun _ => true) true Try.f5.params.toList args.toList ds p := hA0
  rw [Try.params5] at hA hval
  obtain ⟨v0, vs0, d0, ds0, p0, q0, hargs, rfl, rfl, h0, r0⟩ := trodAll_cons hA
  obtain ⟨v1, vs1, d1, ds1, p1, q1, rfl, rfl, rfl, h1, r1⟩ := trodAll_cons r0
  obtain ⟨rfl, rfl, rfl⟩ := trodAll_nil r1
  obtain rfl : args = #[v0, v1] := by cases args; simp_all
  obtain ⟨rfl, rfl⟩ := trodVars_none hV
  have k0 := h0
  have lt0 : ∀ x ∈ p0, x.block < W.heap.size := by obtain ⟨m, hm⟩ := k0; exact DataW.trod_lt m _ _ _ hm
  obtain ⟨s0, a0, c0, L0, rfl, hr0, m0⟩ := WinArg.open_window (hval 0 24 v0 rfl rfl) h0
  obtain ⟨a1, rfl, rfl, rfl, w1⟩ := open_int Try.underlying3 (hval 1 3 v1 rfl rfl) h1
  clear hA0 hval0
  refine (walk W s0 a0 c0 L0 hr0 m0 a1 w1).mono fun e W' ⟨he, hb⟩ => ?_
  subst he
  exact ⟨_, rfl, _, _, _, [], _, [], hW', trodAll_cons_mk (shut_bool Try.underlying4 _) trodAll_mk0, (trodAll_cons_mk (Below.trod laidOut (by kernel_rfl) (of_decide_eq_true (by kernel_rfl)) k0 hb lt0) (trodAll_cons_mk (shut_int Try.underlying3 w1) trodAll_mk0)), rfl, hb.frame _, fun h => by cases h⟩

theorem over : Rows.fnExactLeastRow.holds Try.pinned (OpenSpec.ofChange Rows.fnExactLeastSpec) :=
  OpenClaim.holds_of_wide 5 Try.f5 rfl rfl rfl rfl rfl rfl rfl ⟨rfl, rfl, rfl, rfl, rfl⟩ rfl rfl rfl rfl rfl (by kernel_rfl) Try.func5 (by kernel_rfl)
    (of_decide_eq_true (by kernel_rfl)) (by unfold Func.isWrapper; first | (rw [if_pos (by decide +kernel)]; kernel_rfl) | (rw [if_neg (by decide +kernel)]; exact ⟨rfl, rfl⟩))
    (fun os started H enc _ => lifted os started H enc)

theorem proved : Rows.FnExactLeastSaid :=
  over
end Go.Proofs.Ytjopeogdebepmaa.fnExactLeast
