/- At every window, time and latency the program's Push answers as the model's Push, its answer owns its memory, and it writes into no argument (the law FnExactPush returns true); no condition. -/
import Derived.Test.YtjopeogdebepmaaRows
import Derived.WalkKit
import Derived.WalkSmall
import Derived.BigQuiet
import Derived.ProofKit
import Derived.OpenShut
import Derived.Deep.RegionWith
import Derived.Test.YtjopeogdebepmaaPairWalks
import Derived.Test.YtjopeogdebepmaaWinOk
import Derived.Test.YtjopeogdebepmaaTrimWalks
import Derived.Test.YtjopeogdebepmaaPushWalks
import Derived.Test.YtjopeogdebepmaaImplPush
import Derived.Test.YtjopeogdebepmaaWinArg
import Derived.Test.YtjopeogdebepmaaLawKit
namespace Go.Proofs.Ytjopeogdebepmaa.fnExactPush
open Go.ChangeShapes Go.WideShapes Go.ChangeAt Go.RowKit PairWalks WinOk TrimWalks PushWalks ImplPush WinArg LawKit
set_option linter.unusedVariables false

set_option maxHeartbeats 2000000 in
set_option maxRecDepth 8000 in
theorem walk (W : World) (span : Int) (a : Option Addr) (c : Nat) (L : List (Int × Int)) (h : Arg W a L) (m : L.length ≤ maxLen) (now : Int) (wn : (Lit.int .i64 now).wf = true) (lat : Int) (wl : (Lit.int .i64 lat).wf = true) :
    Calls Try.prog 4 #[.agg #[.int .i64 span, .slice a L.length c], .int .i64 now, .int .i64 lat] W fun e w' => e = .returned (.bool true) ∧ Below W.heap.size W w' := by
  have hm : (L.length : Int) ≤ 9223372036854775807 := by unfold maxLen at m; omega
  have b0 : Below W.heap.size W (W.alloc (.cells #[.int .i64 span, .slice a L.length c] 24)) := (Below.refl _ _).alloc (Nat.le_refl _) _
  have HS := sz_window span a c L.length (W.alloc (.cells #[.int .i64 span, .slice a L.length c] 24)) hm
  clear wn wl
  by_cases hl : (L.length : Int) ≤ 1048576
  · rw [if_pos hl] at HS
    have h0 : ¬ (1048576 - (L.length : Int)) < 0 := by omega
    have HSP := fun W a c h => spec_push span now lat a c L W h (by omega)
    have HIM := fun W a c h => impl_push span now lat a c L W h (by omega)
    have hpl : (pushed span now lat L).length ≤ 1048577 := by have := pushed_len span now lat L; omega
    obtain ⟨P, hP⟩ : ∃ P, pushed span now lat L = P := ⟨_, rfl⟩
    obtain ⟨s, hs⟩ : ∃ s, pushSpan span now lat L = s := ⟨_, rfl⟩
    rw [hP, hs] at HSP HIM
    rw [hP] at hpl
    have HX : Hid (St W (W.alloc (.cells #[.int .i64 span, .slice a L.length c] 24)) span a L.length c L) := St.start 24 h
    have HL : Hid (L.length ≤ 1048577) := by show _ ≤ _; omega
    have HPL : Hid (P.length ≤ 1048577) := hpl
    have kx : ¬ (1 + 2 * (L.length : Int)) < 0 := by omega
    have kp : ¬ (1 + 2 * (P.length : Int)) < 0 := by omega
    have kk : ((1 + 2 * (P.length : Int)) != (1 + 2 * (P.length : Int))) = false := by simp
    clear b0 h m hm hl hP hs hpl
    go_enter Try.func4, Try.ntmps4
    go_wp2_with (go_at_call 7; refine HS.mono ?_; rintro e w1 ⟨rfl, hb⟩; have H1 : Hid (St W w1 span a L.length c L ∧ W.heap.size < w1.heap.size) := ⟨HX.out.next hb, by have := hb.size; simp at this; omega⟩; have c0 := H1.out.1.1.1; have c1 := H1.out.1.1.2; clear hb HS HX)
    refine (to_window span a c L w1 H1.out.1.arg HL.out).mono ?_
    rintro e w2 ⟨g1, rfl, _, r1, b2⟩
    have H2 : Hid (St W w2 span a L.length c L ∧ W.heap.size < w2.heap.size) := ⟨H1.out.1.next b2, by have := b2.size; have := H1.out.2; omega⟩
    clear c0 c1 b2
    go_wp2_with fail
    refine (HSP w2 _ _ (Or.inr ⟨g1, 0, rfl, r1⟩)).mono ?_
    rintro e w3 ⟨aw, cw, rfl, rw3, gw, b3⟩
    have H3 : Hid (St W (w3.alloc (.cells #[.int .i64 s, .slice aw P.length cw] 28)) span a L.length c L ∧ boxAt (w3.alloc (.cells #[.int .i64 s, .slice aw P.length cw] 28)) w3.heap.size (.int .i64 s) (.slice aw P.length cw) ∧ WOk (w3.alloc (.cells #[.int .i64 s, .slice aw P.length cw] 28)) aw P) := ⟨(H2.out.1.next b3).next ((Below.refl _ _).alloc (Nat.le_refl _) _), boxAt.new _ _ _ _, rw3.below ((Below.refl _ _).alloc (Nat.le_refl _) _)⟩
    have HGW : Hid ((∀ g, blkL aw P = some g → g < w3.heap.size) ∧ W.heap.size < w3.heap.size) := ⟨blkL_lt rw3, by have := b3.size; have := H2.out.2; omega⟩
    have c0 := H3.out.1.1.1
    have c1 := H3.out.1.1.2
    clear b3 r1 rw3 gw
    go_wp2_with fail
    refine (to_window span a c L _ H3.out.1.arg HL.out).mono ?_
    rintro e w4 ⟨g2, rfl, hg2, r2, b4⟩
    have H4 : Hid (St W (w4.alloc (.cells #[.int .i64 span, .slice (some ⟨g2, 0, none⟩) L.length L.length] 28)) span a L.length c L ∧ boxAt (w4.alloc (.cells #[.int .i64 span, .slice (some ⟨g2, 0, none⟩) L.length L.length] 28)) w3.heap.size (.int .i64 s) (.slice aw P.length cw) ∧ WOk (w4.alloc (.cells #[.int .i64 span, .slice (some ⟨g2, 0, none⟩) L.length L.length] 28)) aw P ∧ boxAt (w4.alloc (.cells #[.int .i64 span, .slice (some ⟨g2, 0, none⟩) L.length L.length] 28)) w4.heap.size (.int .i64 span) (.slice (some ⟨g2, 0, none⟩) L.length L.length) ∧ PRow (w4.alloc (.cells #[.int .i64 span, .slice (some ⟨g2, 0, none⟩) L.length L.length] 28)) g2 0 L) := ⟨(H3.out.1.next b4).next ((Below.refl _ _).alloc (Nat.le_refl _) _), (H3.out.2.1.below b4).below ((Below.refl _ _).alloc (Nat.le_refl _) _), (H3.out.2.2.below b4).below ((Below.refl _ _).alloc (Nat.le_refl _) _), boxAt.new _ _ _ _, r2.below ((Below.refl _ _).alloc (Nat.le_refl _) _)⟩
    have HG2 : Hid (w3.heap.size < g2 ∧ g2 < w4.heap.size) := ⟨by simp at hg2; omega, r2.lt⟩
    clear c0 c1 b4 r2 hg2 H3
    go_wp2_with fail
    refine (HIM _ _ _ (Or.inr ⟨g2, 0, rfl, H4.out.2.2.2.2⟩)).mono ?_
    rintro e w5 ⟨ag, cg, rfl, rg, gg, b5⟩
    have HGG : Hid ((∀ g, blkL ag P = some g → w4.heap.size < g ∧ g < w5.heap.size) ∧ w4.heap.size < w5.heap.size) := ⟨fun g hg => ⟨by have := blkL_ge gg g hg; simp at this; omega, blkL_lt rg g hg⟩, by have := b5.size; simp at this; omega⟩
    have B5 : Below w5.heap.size w5 (w5.alloc (.cells #[.int .i64 s, .slice ag P.length cg] 28)) := (Below.refl _ _).alloc (Nat.le_refl _) _
    have H5 : Hid (St W (w5.alloc (.cells #[.int .i64 s, .slice ag P.length cg] 28)) span a L.length c L ∧ boxAt (w5.alloc (.cells #[.int .i64 s, .slice ag P.length cg] 28)) w3.heap.size (.int .i64 s) (.slice aw P.length cw) ∧ WOk (w5.alloc (.cells #[.int .i64 s, .slice ag P.length cg] 28)) aw P ∧ boxAt (w5.alloc (.cells #[.int .i64 s, .slice ag P.length cg] 28)) w4.heap.size (.int .i64 span) (.slice (some ⟨g2, 0, none⟩) L.length L.length) ∧ PRow (w5.alloc (.cells #[.int .i64 s, .slice ag P.length cg] 28)) g2 0 L ∧ boxAt (w5.alloc (.cells #[.int .i64 s, .slice ag P.length cg] 28)) w5.heap.size (.int .i64 s) (.slice ag P.length cg) ∧ WOk (w5.alloc (.cells #[.int .i64 s, .slice ag P.length cg] 28)) ag P) := ⟨(H4.out.1.next b5).next B5, (H4.out.2.1.below b5).below B5, (H4.out.2.2.1.below b5).below B5, (H4.out.2.2.2.1.below b5).below B5, (H4.out.2.2.2.2.below b5).below B5, boxAt.new _ _ _ _, rg.below B5⟩
    have e0 := H5.out.2.1.1
    have e1 := H5.out.2.1.2
    clear b5 B5 rg gg H4
    go_wp2_with fail
    refine (eq_window s _ _ _ _ P _ H5.out.2.2.2.2.2.2 H5.out.2.2.1 HPL.out).mono ?_
    rintro e w6 ⟨rfl, b6⟩
    have H6 : Hid (St W w6.drew span a L.length c L ∧ boxAt w6.drew w3.heap.size (.int .i64 s) (.slice aw P.length cw) ∧ WOk w6.drew aw P ∧ boxAt w6.drew w4.heap.size (.int .i64 span) (.slice (some ⟨g2, 0, none⟩) L.length L.length) ∧ PRow w6.drew g2 0 L ∧ boxAt w6.drew w5.heap.size (.int .i64 s) (.slice ag P.length cg) ∧ WOk w6.drew ag P) := ⟨(H5.out.1.next b6).drew, H5.out.2.1.below b6.drew, H5.out.2.2.1.below b6.drew, H5.out.2.2.2.1.below b6.drew, H5.out.2.2.2.2.1.below b6.drew, H5.out.2.2.2.2.2.1.below b6.drew, H5.out.2.2.2.2.2.2.below b6.drew⟩
    have c0 := H6.out.1.1.1
    have c1 := H6.out.1.1.2
    have x0 := H6.out.2.2.2.1.1
    have x1 := H6.out.2.2.2.1.2
    clear b6 e0 e1 H5
    go_wp2
    go_region_with (first | (go_at_call 9; refine (to_window span a c L _ H6.out.1.arg HL.out).mono ?_; rintro e w7 ⟨g3, rfl, _, r3, b7⟩; have y0 := (H6.out.2.2.2.1.below b7).1; have y1 := (H6.out.2.2.2.1.below b7).2; have H7 : Hid (St W w7 span a L.length c L ∧ boxAt w7 w3.heap.size (.int .i64 s) (.slice aw P.length cw) ∧ WOk w7 aw P ∧ boxAt w7 w4.heap.size (.int .i64 span) (.slice (some ⟨g2, 0, none⟩) L.length L.length) ∧ PRow w7 g2 0 L ∧ boxAt w7 w5.heap.size (.int .i64 s) (.slice ag P.length cg) ∧ WOk w7 ag P ∧ PRow w7 g3 0 L) := ⟨H6.out.1.next b7, H6.out.2.1.below b7, H6.out.2.2.1.below b7, H6.out.2.2.2.1.below b7, H6.out.2.2.2.2.1.below b7, H6.out.2.2.2.2.2.1.below b7, H6.out.2.2.2.2.2.2.below b7, r3⟩; clear b7 r3) | (go_at_call 11; refine (eq_window span _ _ _ _ L _ (Or.inr ⟨g2, 0, rfl, H7.out.2.2.2.2.1⟩) (Or.inr ⟨g3, 0, rfl, H7.out.2.2.2.2.2.2.2⟩) HL.out).mono ?_; rintro e w8 ⟨rfl, b8⟩; have H8 : Hid (St W w8 span a L.length c L ∧ boxAt w8 w3.heap.size (.int .i64 s) (.slice aw P.length cw) ∧ WOk w8 aw P ∧ boxAt w8 w4.heap.size (.int .i64 span) (.slice (some ⟨g2, 0, none⟩) L.length L.length) ∧ PRow w8 g2 0 L ∧ boxAt w8 w5.heap.size (.int .i64 s) (.slice ag P.length cg) ∧ WOk w8 ag P) := ⟨H7.out.1.next b8, H7.out.2.1.below b8, H7.out.2.2.1.below b8, H7.out.2.2.2.1.below b8, H7.out.2.2.2.2.1.below b8, H7.out.2.2.2.2.2.1.below b8, H7.out.2.2.2.2.2.2.1.below b8⟩; clear b8))
    all_goals
      clear c0 c1 x0 x1 y0 y1 H6 H7
      have x0 := H8.out.2.2.2.1.1
      have x1 := H8.out.2.2.2.1.2
      go_wp2_with fail
      refine (mark_list span _ _ L _ (Or.inr ⟨g2, 0, rfl, H8.out.2.2.2.2.1⟩) HL.out).mono ?_
      rintro e w9 ⟨rfl, _, gr9⟩
      have hr9 : ∀ k, blkL (some ⟨g2, 0, none⟩) L = some k → k = g2 := fun k hk => by
        cases L with
        | nil => simp [blkL] at hk
        | cons q L => simp [blkL, blk] at hk; exact hk.symm
      have hne9 : ∀ k, k ≠ g2 → some k ≠ blkL (some ⟨g2, 0, none⟩) L := fun k hk e => hk (hr9 k e.symm)
      have H9 : Hid (St W w9 span a L.length c L ∧ boxAt w9 w3.heap.size (.int .i64 s) (.slice aw P.length cw) ∧ WOk w9 aw P ∧ boxAt w9 w5.heap.size (.int .i64 s) (.slice ag P.length cg) ∧ WOk w9 ag P) := by
        have o1 := HG2.out
        have o2 := HGW.out
        have o3 := HGG.out
        exact ⟨H8.out.1.grow gr9 (fun k hk => by have := hr9 k hk; omega), H8.out.2.1.grown gr9 (hne9 _ (by omega)), wok_grown H8.out.2.2.1 gr9 (fun g hg => hne9 g (by have := o2.1 g hg; omega)), H8.out.2.2.2.2.2.1.grown gr9 (hne9 _ (by omega)), wok_grown H8.out.2.2.2.2.2.2 gr9 (fun g hg => hne9 g (by have := o3.1 g hg; omega))⟩
      have e0 := H9.out.2.1.1
      have e1 := H9.out.2.1.2
      have z0 := H9.out.2.2.2.1.1
      have z1 := H9.out.2.2.2.1.2
      clear x0 x1 gr9 hr9 hne9 H8
      go_wp2_with fail
      refine (eq_window s _ _ _ _ P _ H9.out.2.2.2.2 H9.out.2.2.1 HPL.out).mono ?_
      rintro e w10 ⟨rfl, b10⟩
      have H10 : Hid (St W w10 span a L.length c L ∧ boxAt w10 w3.heap.size (.int .i64 s) (.slice aw P.length cw) ∧ WOk w10 aw P ∧ boxAt w10 w5.heap.size (.int .i64 s) (.slice ag P.length cg) ∧ WOk w10 ag P) := ⟨H9.out.1.next b10, H9.out.2.1.below b10, H9.out.2.2.1.below b10, H9.out.2.2.2.1.below b10, H9.out.2.2.2.2.below b10⟩
      clear e0 e1 z0 z1 b10 H9
      have z0 := H10.out.2.2.2.1.1
      have z1 := H10.out.2.2.2.1.2
      go_wp2_with fail
      refine (mark_list s ag cg P _ H10.out.2.2.2.2 HPL.out).mono ?_
      rintro e w11 ⟨rfl, m11, gr11⟩
      have hne11 : ∀ k, ¬ (w4.heap.size < k ∧ k < w5.heap.size) → some k ≠ blkL ag P := fun k hk e => hk (HGG.out.1 k e.symm)
      have H11 : Hid (St W w11 span a L.length c L ∧ boxAt w11 w3.heap.size (.int .i64 s) (.slice aw P.length cw) ∧ WOk w11 aw P ∧ boxAt w11 w5.heap.size (.int .i64 s) (.slice ag P.length cg) ∧ WOk w11 ag (pmarks 1 P.length)) := by
        have o1 := HG2.out
        have o2 := HGW.out
        have o3 := HGG.out
        exact ⟨H10.out.1.grow gr11 (fun k hk => by have := o3.1 k hk; omega), H10.out.2.1.grown gr11 (hne11 _ (by omega)), wok_grown H10.out.2.2.1 gr11 (fun g hg => hne11 g (by have := o2.1 g hg; omega)), H10.out.2.2.2.1.grown gr11 (hne11 _ (by omega)), m11⟩
      clear z0 z1 gr11 hne11 H10 m11
      have z0 := H11.out.2.2.2.1.1
      have z1 := H11.out.2.2.2.1.2
      go_wp2_with fail
      refine (held_window s ag cg P.length _ H11.out.2.2.2.2 HPL.out).mono ?_
      rintro e w12 ⟨rfl, b12⟩
      have H12 : Hid (St W w12 span a L.length c L ∧ boxAt w12 w3.heap.size (.int .i64 s) (.slice aw P.length cw) ∧ WOk w12 aw P ∧ boxAt w12 w5.heap.size (.int .i64 s) (.slice ag P.length cg) ∧ WOk w12 ag (pmarks 1 P.length)) := ⟨H11.out.1.next b12, H11.out.2.1.below b12, H11.out.2.2.1.below b12, H11.out.2.2.2.1.below b12, H11.out.2.2.2.2.below b12⟩
      clear z0 z1 b12 H11
      have c0 := H12.out.1.1.1
      have c1 := H12.out.1.1.2
      go_wp2_with fail
      refine (to_window span a c L _ H12.out.1.arg HL.out).mono ?_
      rintro e w13 ⟨g4, rfl, _, r4, b13⟩
      have H13 : Hid (St W w13 span a L.length c L ∧ boxAt w13 w3.heap.size (.int .i64 s) (.slice aw P.length cw) ∧ WOk w13 aw P ∧ boxAt w13 w5.heap.size (.int .i64 s) (.slice ag P.length cg) ∧ WOk w13 ag (pmarks 1 P.length)) := ⟨H12.out.1.next b13, H12.out.2.1.below b13, H12.out.2.2.1.below b13, H12.out.2.2.2.1.below b13, H12.out.2.2.2.2.below b13⟩
      clear c0 c1 b13 H12
      go_wp2_with fail
      refine (HIM _ _ _ (Or.inr ⟨g4, 0, rfl, r4⟩)).mono ?_
      rintro e w14 ⟨ah, ch, rfl, rh, _, b14⟩
      have B14 : Below w14.heap.size w14 (w14.alloc (.cells #[.int .i64 s, .slice ah P.length ch] 28)) := (Below.refl _ _).alloc (Nat.le_refl _) _
      have H14 : Hid (St W (w14.alloc (.cells #[.int .i64 s, .slice ah P.length ch] 28)) span a L.length c L ∧ boxAt (w14.alloc (.cells #[.int .i64 s, .slice ah P.length ch] 28)) w3.heap.size (.int .i64 s) (.slice aw P.length cw) ∧ WOk (w14.alloc (.cells #[.int .i64 s, .slice ah P.length ch] 28)) aw P ∧ boxAt (w14.alloc (.cells #[.int .i64 s, .slice ah P.length ch] 28)) w5.heap.size (.int .i64 s) (.slice ag P.length cg) ∧ WOk (w14.alloc (.cells #[.int .i64 s, .slice ah P.length ch] 28)) ag (pmarks 1 P.length) ∧ WOk (w14.alloc (.cells #[.int .i64 s, .slice ah P.length ch] 28)) ah P) := ⟨(H13.out.1.next b14).next B14, (H13.out.2.1.below b14).below B14, (H13.out.2.2.1.below b14).below B14, (H13.out.2.2.2.1.below b14).below B14, (H13.out.2.2.2.2.below b14).below B14, rh.below B14⟩
      have e0 := H14.out.2.1.1
      have e1 := H14.out.2.1.2
      clear b14 B14 rh r4 H13
      go_wp2_with fail
      refine (eq_window s _ _ _ _ P _ H14.out.2.2.2.2.2 H14.out.2.2.1 HPL.out).mono ?_
      rintro e w15 ⟨rfl, b15⟩
      have H15 : Hid (St W w15 span a L.length c L ∧ boxAt w15 w5.heap.size (.int .i64 s) (.slice ag P.length cg) ∧ WOk w15 ag (pmarks 1 P.length)) := ⟨H14.out.1.next b15, H14.out.2.2.2.1.below b15, H14.out.2.2.2.2.1.below b15⟩
      clear e0 e1 b15 H14
      have z0 := H15.out.2.1.1
      have z1 := H15.out.2.1.2
      go_wp2_with fail
      refine (held_window s ag cg P.length _ H15.out.2.2 HPL.out).mono ?_
      rintro e w16 ⟨rfl, b16⟩
      have H16 : Hid (St W w16 span a L.length c L) := H15.out.1.next b16
      clear z0 z1 b16 H15
      go_wp2
      go_ret
      exact ⟨rfl, H16.out.2.1⟩
  · rw [if_neg hl] at HS
    go_enter Try.func4, Try.ntmps4
    go_wp2_with (go_at_call 7; refine HS.mono ?_; rintro e w1 ⟨rfl, hb⟩)
    go_ret
    exact ⟨rfl, b0.trans (hb.mono (by simp))⟩

theorem own : ownKnob Try.prog.godebug = none := by kernel_rfl
theorem laidOut : laidOutB Try.prog = true := by kernel_rfl

set_option maxRecDepth 100000 in
theorem lifted (os : Os) (started : os.Started) (H : Type) (enc : TypeId × Value → H) :
    ReturnsInHanded {} Try.checked os 4 .any (Rows.fnExactPushSpec.pre6 enc Try.prog Try.f4 Rows.fnExactPushRow.domain false) (Rows.fnExactPushSpec.post enc Try.prog Try.f4 false true false false) := by
  refine returnsInHanded_of_change (C := Try.checked) own started (by kernel_rfl) Try.func4
    (ChangeSpec.witness6 (enc := enc) (C := Try.checked) false ⟨#[], #[.agg #[.int .i64 0, .slice none 0 0], .int .i64 0, .int .i64 0], []⟩ 8 (by kernel_rfl) (by kernel_rfl) (by kernel_rfl) (by kernel_rfl)) ?_
  intro W base args ds gs before hval0 hW hcnd _
  have hval : ∀ (j : Nat) t v, Try.f4.params[j]? = some t → args[j]? = some v → Value.okWide Try.prog W .any base t v := hval0
  have hW' := hW
  obtain ⟨p, q, hA0, hV, rfl, hfz, hnd⟩ := hW
  have hA : DataW.TrodAll enc Try.prog W 0 (fun _ => true) true Try.f4.params.toList args.toList ds p := hA0
  rw [Try.params4] at hA hval
  obtain ⟨v0, vs0, d0, ds0, p0, q0, hargs, rfl, rfl, h0, r0⟩ := trodAll_cons hA
  obtain ⟨v1, vs1, d1, ds1, p1, q1, rfl, rfl, rfl, h1, r1⟩ := trodAll_cons r0
  obtain ⟨v2, vs2, d2, ds2, p2, q2, rfl, rfl, rfl, h2, r2⟩ := trodAll_cons r1
  obtain ⟨rfl, rfl, rfl⟩ := trodAll_nil r2
  obtain rfl : args = #[v0, v1, v2] := by cases args; simp_all
  obtain ⟨rfl, rfl⟩ := trodVars_none hV
  have k0 := h0
  have lt0 : ∀ x ∈ p0, x.block < W.heap.size := by obtain ⟨m, hm⟩ := k0; exact DataW.trod_lt m _ _ _ hm
  obtain ⟨s0, a0, c0, L0, rfl, hr0, m0⟩ := WinArg.open_window (hval 0 24 v0 rfl rfl) h0
  obtain ⟨a1, rfl, rfl, rfl, w1⟩ := open_int Try.underlying3 (hval 1 3 v1 rfl rfl) h1
  obtain ⟨a2, rfl, rfl, rfl, w2⟩ := open_int Try.underlying3 (hval 2 3 v2 rfl rfl) h2
  clear hA0 hval0
  refine (walk W s0 a0 c0 L0 hr0 m0 a1 w1 a2 w2).mono fun e W' ⟨he, hb⟩ => ?_
  subst he
  exact ⟨_, rfl, _, _, _, [], _, [], hW', trodAll_cons_mk (shut_bool Try.underlying4 _) trodAll_mk0, (trodAll_cons_mk (Below.trod laidOut (by kernel_rfl) (of_decide_eq_true (by kernel_rfl)) k0 hb lt0) (trodAll_cons_mk (shut_int Try.underlying3 w1) (trodAll_cons_mk (shut_int Try.underlying3 w2) trodAll_mk0))), rfl, hb.frame _, fun h => by cases h⟩

theorem over : Rows.fnExactPushRow.holds Try.pinned (OpenSpec.ofChange Rows.fnExactPushSpec) :=
  OpenClaim.holds_of_wide 4 Try.f4 rfl rfl rfl rfl rfl rfl rfl ⟨rfl, rfl, rfl, rfl, rfl⟩ rfl rfl rfl rfl rfl (by kernel_rfl) Try.func4 (by kernel_rfl)
    (of_decide_eq_true (by kernel_rfl)) (by unfold Func.isWrapper; first | (rw [if_pos (by decide +kernel)]; kernel_rfl) | (rw [if_neg (by decide +kernel)]; exact ⟨rfl, rfl⟩))
    (fun os started H enc _ => lifted os started H enc)

theorem proved : Rows.FnExactPushSaid :=
  over
end Go.Proofs.Ytjopeogdebepmaa.fnExactPush
