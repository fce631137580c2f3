/- At every ledger, request, client and time the program's Grant answers as the model's, its answer owns its memory, and it writes into no argument (the law FnExactGrant returns true); no condition. -/
import Derived.Test.YtdmjffkcjkcdnaaRows
import Derived.WalkKit
import Derived.WalkSmall
import Derived.BigQuiet
import Derived.ProofKit
import Derived.OpenShut
import Derived.Deep.RegionWith
import Derived.Test.YtdmjffkcjkcdnaaListKit
import Derived.Test.YtdmjffkcjkcdnaaSlotKit
import Derived.Test.YtdmjffkcjkcdnaaSlotRows
import Derived.Test.YtdmjffkcjkcdnaaLedgerKit
import Derived.Test.YtdmjffkcjkcdnaaOpenKit
import Derived.Test.YtdmjffkcjkcdnaaOpenLedger
import Derived.Test.YtdmjffkcjkcdnaaLedBox
import Derived.Test.YtdmjffkcjkcdnaaBoxKit
import Derived.Test.YtdmjffkcjkcdnaaLedGrant
import Derived.Test.YtdmjffkcjkcdnaaLedBoth
namespace Go.Proofs.Ytdmjffkcjkcdnaa.fnExactGrant
open Go.ChangeShapes Go.WideShapes Go.ChangeAt Go.RowKit ListKit SlotKit SlotRows LedgerKit LedBox BoxKit LedGrant LedBoth
set_option linter.unusedVariables false
set_option linter.unusedSimpArgs false
set_option maxRecDepth 8000

set_option maxHeartbeats 8000000 in
theorem walk (W : World) (a : Option Addr) (c : Nat) (L : List Slot) (h : SlotRows.Arg W a L) (m : L.length ≤ maxLen) (req : Int) (wreq : (Lit.int .i64 req).wf = true) (cl : Int) (wcl : (Lit.int .i64 cl).wf = true) (now : Int) (wnow : (Lit.int .i64 now).wf = true) :
    Calls Try.prog 7 #[.agg #[.slice a L.length c], .int .i64 req, .int .i64 cl, .int .i64 now] W fun e w' => e = .returned (.bool true) ∧ Below W.heap.size W w' := by
  have hm : (L.length : Int) ≤ 9223372036854775807 := by unfold maxLen at m; omega
  have HS := sz_ledger a c L.length (W.alloc (.cells #[.slice a L.length c] 30)) hm
  have b0 : Hid (Below W.heap.size W (W.alloc (.cells #[.slice a L.length c] 30))) := n1 W _
  by_cases hl : (L.length : Int) ≤ 1048576
  · rw [if_pos hl] at HS
    have h0 : ¬ (1048576 - (L.length : Int)) < 0 := by omega
    obtain ⟨L2, P, G, B, HSP0, HIM0, hpl⟩ := both_grant L req cl now (by omega)
    have HSP := fun W a c (h : Own 25 5 cells W a L) (hc : L.length ≤ c) => HSP0 a c W h hc
    have HIM := fun W a c (h : Own 25 5 cells W a L) (hc : L.length ≤ c) => HIM0 a c W h hc
    have HPL : Hid (L2.length ≤ 1048577) := hpl
    have kp : ¬ (1 + 5 * (L2.length : Int)) < 0 := by omega
    have kk : ((1 + 5 * (L2.length : Int)) != (1 + 5 * (L2.length : Int))) = false := by simp
    have hBB : (B != B) = false := by simp
    clear HSP0 HIM0 hpl wreq wcl wnow
    have HA : Hid (SlotRows.Arg W a L) := h
    have HL : Hid (L.length ≤ 1048577) := by show _ ≤ _; omega
    have kx : ¬ (1 + 5 * (L.length : Int)) < 0 := by omega
    have HX : Hid (Bel W (W.alloc (.cells #[.slice a L.length c] 30)) ∧ boxB (W.alloc (.cells #[.slice a L.length c] 30)) W.heap.size #[.slice a L.length c] 30) := ⟨b0.out, boxB.new _ _ _⟩
    have HXS : Hid ((W.alloc (.cells #[.slice a L.length c] 30)).heap.size = W.heap.size + 1) := sz1 W _
    clear b0 h m hm hl
    go_enter Try.func7, Try.ntmps7
    go_wp2_with (go_at_call 12; refine HS.mono ?_; rintro e w1 ⟨rfl, hb⟩; have H1 : Hid (Bel W w1 ∧ boxB w1 W.heap.size #[.slice a L.length c] 30) := ⟨HX.out.1.below hb, HX.out.2.below hb⟩; have HZ1 : Hid (W.heap.size + 1 ≤ w1.heap.size) := (by have h9 := hb.size; rw [HXS.out] at h9; exact h9); have c0 := H1.out.2.cell 0; clear hb HS HX HXS)
    refine (to_ledger a c L _ (H1.out.1.arg HA.out) HL.out).mono ?_
    rintro e w2 ⟨g1, rfl, hg1, r1, b2⟩
    have H2 : Hid (Bel W w2 ∧ boxB w2 W.heap.size #[.slice a L.length c] 30 ∧ Row 25 5 cells w2 g1 0 L) := ⟨H1.out.1.below b2, H1.out.2.below b2, r1⟩
    have HZ2 : Hid (w1.heap.size ≤ w2.heap.size) := b2.size
    clear c0 b2 hg1 r1 H1
    go_wp2_with fail
    refine (HSP _ _ _ (Or.inr ⟨g1, 0, rfl, H2.out.2.2⟩) (Nat.le_refl _)).mono ?_
    rintro e w3 ⟨aw, cw_, rfl, hc_cw_, ow_, qw, b3⟩
    have HQw : Hid (∀ b, blkL aw L2 = some b → w2.heap.size ≤ b ∧ b < w3.heap.size) := fun b hb => ⟨qw b hb, ow_.lt b hb⟩
    have HZ3 : Hid (w2.heap.size ≤ w3.heap.size) := b3.size
    have H3 : Hid (Bel W ((w3.alloc (.cells #[.slice aw L2.length cw_] 35)).alloc (.cells #[.int .i64 P, .int .i64 G] 43)) ∧ boxB ((w3.alloc (.cells #[.slice aw L2.length cw_] 35)).alloc (.cells #[.int .i64 P, .int .i64 G] 43)) W.heap.size #[.slice a L.length c] 30 ∧ Own 25 5 cells ((w3.alloc (.cells #[.slice aw L2.length cw_] 35)).alloc (.cells #[.int .i64 P, .int .i64 G] 43)) aw L2 ∧ boxB ((w3.alloc (.cells #[.slice aw L2.length cw_] 35)).alloc (.cells #[.int .i64 P, .int .i64 G] 43)) w3.heap.size #[.slice aw L2.length cw_] 35 ∧ boxB ((w3.alloc (.cells #[.slice aw L2.length cw_] 35)).alloc (.cells #[.int .i64 P, .int .i64 G] 43)) (w3.heap.size + 1) #[.int .i64 P, .int .i64 G] 43) := ⟨H2.out.1.below (b3.trans ((n2 w3 _ _).mono b3.size)), H2.out.2.1.below (b3.trans ((n2 w3 _ _).mono b3.size)), ow_.below (n2 w3 _ _), (boxB.new _ _ _).below (n1 _ _), new2 _ _ _ _⟩
    have HY3 : Hid (((w3.alloc (.cells #[.slice aw L2.length cw_] 35)).alloc (.cells #[.int .i64 P, .int .i64 G] 43)).heap.size = w3.heap.size + 1 + 1) := sz2 w3 _ _
    clear b3 H2 ow_ qw
    have c0 := H3.out.2.1.cell 0
    go_wp2_with fail
    refine (to_ledger a c L _ (H3.out.1.arg HA.out) HL.out).mono ?_
    rintro e w4 ⟨g2, rfl, hg2, r2, b4⟩
    have HQx : Hid (((w3.alloc (.cells #[.slice aw L2.length cw_] 35)).alloc (.cells #[.int .i64 P, .int .i64 G] 43)).heap.size ≤ g2 ∧ g2 < w4.heap.size) := ⟨hg2, r2.lt⟩
    have HZ4 : Hid (((w3.alloc (.cells #[.slice aw L2.length cw_] 35)).alloc (.cells #[.int .i64 P, .int .i64 G] 43)).heap.size ≤ w4.heap.size) := b4.size
    have H4 : Hid (Bel W (w4.alloc (.cells #[.slice (some ⟨g2, 0, none⟩) L.length L.length] 35)) ∧ boxB (w4.alloc (.cells #[.slice (some ⟨g2, 0, none⟩) L.length L.length] 35)) W.heap.size #[.slice a L.length c] 30 ∧ Own 25 5 cells (w4.alloc (.cells #[.slice (some ⟨g2, 0, none⟩) L.length L.length] 35)) aw L2 ∧ boxB (w4.alloc (.cells #[.slice (some ⟨g2, 0, none⟩) L.length L.length] 35)) w3.heap.size #[.slice aw L2.length cw_] 35 ∧ boxB (w4.alloc (.cells #[.slice (some ⟨g2, 0, none⟩) L.length L.length] 35)) (w3.heap.size + 1) #[.int .i64 P, .int .i64 G] 43 ∧ Row 25 5 cells (w4.alloc (.cells #[.slice (some ⟨g2, 0, none⟩) L.length L.length] 35)) g2 0 L ∧ boxB (w4.alloc (.cells #[.slice (some ⟨g2, 0, none⟩) L.length L.length] 35)) w4.heap.size #[.slice (some ⟨g2, 0, none⟩) L.length L.length] 35) := ⟨H3.out.1.below (b4.trans ((n1 w4 _).mono b4.size)), H3.out.2.1.below (b4.trans ((n1 w4 _).mono b4.size)), H3.out.2.2.1.below (b4.trans ((n1 w4 _).mono b4.size)), H3.out.2.2.2.1.below (b4.trans ((n1 w4 _).mono b4.size)), H3.out.2.2.2.2.below (b4.trans ((n1 w4 _).mono b4.size)), r2.below (n1 w4 _), boxB.new _ _ _⟩
    have HY4 : Hid ((w4.alloc (.cells #[.slice (some ⟨g2, 0, none⟩) L.length L.length] 35)).heap.size = w4.heap.size + 1) := sz1 w4 _
    clear c0 b4 hg2 r2 H3
    go_wp2_with fail
    refine (HIM _ _ _ (Or.inr ⟨g2, 0, rfl, H4.out.2.2.2.2.2.1⟩) (Nat.le_refl _)).mono ?_
    rintro e w5 ⟨ag, cg_, rfl, hc_cg_, og_, qg, b5⟩
    have HQg : Hid (∀ b, blkL ag L2 = some b → (w4.alloc (.cells #[.slice (some ⟨g2, 0, none⟩) L.length L.length] 35)).heap.size ≤ b ∧ b < w5.heap.size) := fun b hb => ⟨qg b hb, og_.lt b hb⟩
    have HZ5 : Hid ((w4.alloc (.cells #[.slice (some ⟨g2, 0, none⟩) L.length L.length] 35)).heap.size ≤ w5.heap.size) := b5.size
    have H5 : Hid (Bel W ((w5.alloc (.cells #[.slice ag L2.length cg_] 35)).alloc (.cells #[.int .i64 P, .int .i64 G] 43)) ∧ boxB ((w5.alloc (.cells #[.slice ag L2.length cg_] 35)).alloc (.cells #[.int .i64 P, .int .i64 G] 43)) W.heap.size #[.slice a L.length c] 30 ∧ Own 25 5 cells ((w5.alloc (.cells #[.slice ag L2.length cg_] 35)).alloc (.cells #[.int .i64 P, .int .i64 G] 43)) aw L2 ∧ boxB ((w5.alloc (.cells #[.slice ag L2.length cg_] 35)).alloc (.cells #[.int .i64 P, .int .i64 G] 43)) w3.heap.size #[.slice aw L2.length cw_] 35 ∧ boxB ((w5.alloc (.cells #[.slice ag L2.length cg_] 35)).alloc (.cells #[.int .i64 P, .int .i64 G] 43)) (w3.heap.size + 1) #[.int .i64 P, .int .i64 G] 43 ∧ Row 25 5 cells ((w5.alloc (.cells #[.slice ag L2.length cg_] 35)).alloc (.cells #[.int .i64 P, .int .i64 G] 43)) g2 0 L ∧ boxB ((w5.alloc (.cells #[.slice ag L2.length cg_] 35)).alloc (.cells #[.int .i64 P, .int .i64 G] 43)) w4.heap.size #[.slice (some ⟨g2, 0, none⟩) L.length L.length] 35 ∧ Own 25 5 cells ((w5.alloc (.cells #[.slice ag L2.length cg_] 35)).alloc (.cells #[.int .i64 P, .int .i64 G] 43)) ag L2 ∧ boxB ((w5.alloc (.cells #[.slice ag L2.length cg_] 35)).alloc (.cells #[.int .i64 P, .int .i64 G] 43)) w5.heap.size #[.slice ag L2.length cg_] 35 ∧ boxB ((w5.alloc (.cells #[.slice ag L2.length cg_] 35)).alloc (.cells #[.int .i64 P, .int .i64 G] 43)) (w5.heap.size + 1) #[.int .i64 P, .int .i64 G] 43) := ⟨H4.out.1.below (b5.trans ((n2 w5 _ _).mono b5.size)), H4.out.2.1.below (b5.trans ((n2 w5 _ _).mono b5.size)), H4.out.2.2.1.below (b5.trans ((n2 w5 _ _).mono b5.size)), H4.out.2.2.2.1.below (b5.trans ((n2 w5 _ _).mono b5.size)), H4.out.2.2.2.2.1.below (b5.trans ((n2 w5 _ _).mono b5.size)), H4.out.2.2.2.2.2.1.below (b5.trans ((n2 w5 _ _).mono b5.size)), H4.out.2.2.2.2.2.2.below (b5.trans ((n2 w5 _ _).mono b5.size)), og_.below (n2 w5 _ _), (boxB.new _ _ _).below (n1 _ _), new2 _ _ _ _⟩
    have HY5 : Hid (((w5.alloc (.cells #[.slice ag L2.length cg_] 35)).alloc (.cells #[.int .i64 P, .int .i64 G] 43)).heap.size = w5.heap.size + 1 + 1) := sz2 w5 _ _
    clear b5 H4 og_ qg
    have d0 := H5.out.2.2.2.2.2.2.2.2.1.cell 0
    have e0 := H5.out.2.2.2.1.cell 0
    go_wp2_with fail
    refine (eq_ledger _ _ _ _ L2 _ H5.out.2.2.2.2.2.2.2.1 H5.out.2.2.1 HPL.out).mono ?_
    rintro e w6 ⟨rfl, b6⟩
    have HZ6 : Hid (((w5.alloc (.cells #[.slice ag L2.length cg_] 35)).alloc (.cells #[.int .i64 P, .int .i64 G] 43)).heap.size ≤ w6.heap.size) := b6.size
    have H6 : Hid (Bel W w6 ∧ boxB w6 W.heap.size #[.slice a L.length c] 30 ∧ Own 25 5 cells w6 aw L2 ∧ boxB w6 w3.heap.size #[.slice aw L2.length cw_] 35 ∧ boxB w6 (w3.heap.size + 1) #[.int .i64 P, .int .i64 G] 43 ∧ Row 25 5 cells w6 g2 0 L ∧ boxB w6 w4.heap.size #[.slice (some ⟨g2, 0, none⟩) L.length L.length] 35 ∧ Own 25 5 cells w6 ag L2 ∧ boxB w6 w5.heap.size #[.slice ag L2.length cg_] 35 ∧ boxB w6 (w5.heap.size + 1) #[.int .i64 P, .int .i64 G] 43) := ⟨H5.out.1.below b6, H5.out.2.1.below b6, H5.out.2.2.1.below b6, H5.out.2.2.2.1.below b6, H5.out.2.2.2.2.1.below b6, H5.out.2.2.2.2.2.1.below b6, H5.out.2.2.2.2.2.2.1.below b6, H5.out.2.2.2.2.2.2.2.1.below b6, H5.out.2.2.2.2.2.2.2.2.1.below b6, H5.out.2.2.2.2.2.2.2.2.2.below b6⟩
    clear d0 e0 b6 H5
    have d0 := H6.out.2.2.2.2.2.2.2.2.2.cell 0
    have d1 := H6.out.2.2.2.2.2.2.2.2.2.cell 1
    have e0 := H6.out.2.2.2.2.1.cell 0
    have e1 := H6.out.2.2.2.2.1.cell 1
    go_wp2_with fail
    refine (eq_permit P G _).mono ?_
    rintro e w7 ⟨rfl, b7⟩
    have HZ7 : Hid (w6.heap.size ≤ w7.drew.heap.size) := b7.drew.size
    have H7 : Hid (Bel W w7.drew ∧ boxB w7.drew W.heap.size #[.slice a L.length c] 30 ∧ Own 25 5 cells w7.drew aw L2 ∧ boxB w7.drew w3.heap.size #[.slice aw L2.length cw_] 35 ∧ boxB w7.drew (w3.heap.size + 1) #[.int .i64 P, .int .i64 G] 43 ∧ Row 25 5 cells w7.drew g2 0 L ∧ boxB w7.drew w4.heap.size #[.slice (some ⟨g2, 0, none⟩) L.length L.length] 35 ∧ Own 25 5 cells w7.drew ag L2 ∧ boxB w7.drew w5.heap.size #[.slice ag L2.length cg_] 35 ∧ boxB w7.drew (w5.heap.size + 1) #[.int .i64 P, .int .i64 G] 43) := ⟨H6.out.1.below b7.drew, H6.out.2.1.below b7.drew, H6.out.2.2.1.below b7.drew, H6.out.2.2.2.1.below b7.drew, H6.out.2.2.2.2.1.below b7.drew, H6.out.2.2.2.2.2.1.below b7.drew, H6.out.2.2.2.2.2.2.1.below b7.drew, H6.out.2.2.2.2.2.2.2.1.below b7.drew, H6.out.2.2.2.2.2.2.2.2.1.below b7.drew, H6.out.2.2.2.2.2.2.2.2.2.below b7.drew⟩
    clear d0 d1 e0 e1 b7 H6
    have c0 := H7.out.2.1.cell 0
    have x0 := H7.out.2.2.2.2.2.2.1.cell 0
    go_wp2
    go_region_with (first | (go_at_call 14; refine (to_ledger a c L _ (H7.out.1.arg HA.out) HL.out).mono ?_; rintro e w8 ⟨g3, rfl, _, r3, b8⟩; have H8 : Hid (Bel W w8 ∧ boxB w8 W.heap.size #[.slice a L.length c] 30 ∧ Own 25 5 cells w8 aw L2 ∧ boxB w8 w3.heap.size #[.slice aw L2.length cw_] 35 ∧ boxB w8 (w3.heap.size + 1) #[.int .i64 P, .int .i64 G] 43 ∧ Row 25 5 cells w8 g2 0 L ∧ boxB w8 w4.heap.size #[.slice (some ⟨g2, 0, none⟩) L.length L.length] 35 ∧ Own 25 5 cells w8 ag L2 ∧ boxB w8 w5.heap.size #[.slice ag L2.length cg_] 35 ∧ boxB w8 (w5.heap.size + 1) #[.int .i64 P, .int .i64 G] 43 ∧ Row 25 5 cells w8 g3 0 L) := ⟨H7.out.1.below b8, H7.out.2.1.below b8, H7.out.2.2.1.below b8, H7.out.2.2.2.1.below b8, H7.out.2.2.2.2.1.below b8, H7.out.2.2.2.2.2.1.below b8, H7.out.2.2.2.2.2.2.1.below b8, H7.out.2.2.2.2.2.2.2.1.below b8, H7.out.2.2.2.2.2.2.2.2.1.below b8, H7.out.2.2.2.2.2.2.2.2.2.below b8, r3⟩; have HZ8 : Hid (w7.drew.heap.size ≤ w8.heap.size) := b8.size; have y0 := H8.out.2.2.2.2.2.2.1.cell 0; clear b8 r3) | (go_at_call 16; refine (eq_ledger _ _ _ _ L _ (Or.inr ⟨g2, 0, rfl, H8.out.2.2.2.2.2.1⟩) (Or.inr ⟨g3, 0, rfl, H8.out.2.2.2.2.2.2.2.2.2.2⟩) HL.out).mono ?_; rintro e w9 ⟨rfl, b9⟩; have H9 : Hid (Bel W w9 ∧ boxB w9 W.heap.size #[.slice a L.length c] 30 ∧ Own 25 5 cells w9 aw L2 ∧ boxB w9 w3.heap.size #[.slice aw L2.length cw_] 35 ∧ boxB w9 (w3.heap.size + 1) #[.int .i64 P, .int .i64 G] 43 ∧ Row 25 5 cells w9 g2 0 L ∧ boxB w9 w4.heap.size #[.slice (some ⟨g2, 0, none⟩) L.length L.length] 35 ∧ Own 25 5 cells w9 ag L2 ∧ boxB w9 w5.heap.size #[.slice ag L2.length cg_] 35 ∧ boxB w9 (w5.heap.size + 1) #[.int .i64 P, .int .i64 G] 43) := ⟨H8.out.1.below b9, H8.out.2.1.below b9, H8.out.2.2.1.below b9, H8.out.2.2.2.1.below b9, H8.out.2.2.2.2.1.below b9, H8.out.2.2.2.2.2.1.below b9, H8.out.2.2.2.2.2.2.1.below b9, H8.out.2.2.2.2.2.2.2.1.below b9, H8.out.2.2.2.2.2.2.2.2.1.below b9, H8.out.2.2.2.2.2.2.2.2.2.1.below b9⟩; have HZ9 : Hid (w8.heap.size ≤ w9.heap.size) := b9.size; clear b9))
    all_goals
      clear c0 x0 y0 H7 H8
      have x0 := H9.out.2.2.2.2.2.2.1.cell 0
      go_wp2_with fail
      refine (mark_ledger _ _ L _ (Or.inr ⟨g2, 0, rfl, H9.out.2.2.2.2.2.1⟩) HL.out).mono ?_
      rintro e w10 ⟨rfl, _, gr10⟩
      have ne10r : ∀ k, blkL (some ⟨g2, 0, none⟩) L = some k → k = g2 := fun k hk => by
        cases L with
        | nil => simp [blkL] at hk
        | cons q L9 => simp [blkL] at hk; exact hk.symm
      have ne10 : ∀ k, k ≠ g2 → some k ≠ blkL (some ⟨g2, 0, none⟩) L := fun k hk e => hk (ne10r k e.symm)
      have H10 : Hid (Bel W w10 ∧ boxB w10 W.heap.size #[.slice a L.length c] 30 ∧ Own 25 5 cells w10 aw L2 ∧ boxB w10 w3.heap.size #[.slice aw L2.length cw_] 35 ∧ boxB w10 (w3.heap.size + 1) #[.int .i64 P, .int .i64 G] 43 ∧ Own 25 5 cells w10 ag L2 ∧ boxB w10 w5.heap.size #[.slice ag L2.length cg_] 35 ∧ boxB w10 (w5.heap.size + 1) #[.int .i64 P, .int .i64 G] 43) := by
        have o0 := HZ1.out
        have o1 := HZ2.out
        have o2 := HZ3.out
        have o3 := HY3.out
        have o4 := HQx.out
        have o5 := HZ4.out
        have o6 := HY4.out
        have o7 := HZ5.out
        have o8 := HY5.out
        have o9 := HZ6.out
        have o10 := HZ7.out
        have o11 := HZ8.out
        have o12 := HZ9.out
        exact ⟨H9.out.1.grown gr10 (fun k hk => by have := ne10r k hk; omega), H9.out.2.1.grown gr10 (ne10 _ (by omega)), H9.out.2.2.1.grown gr10 (fun b hb => ne10 b (by have := HQw.out b hb; omega)), H9.out.2.2.2.1.grown gr10 (ne10 _ (by omega)), H9.out.2.2.2.2.1.grown gr10 (ne10 _ (by omega)), H9.out.2.2.2.2.2.2.2.1.grown gr10 (fun b hb => ne10 b (by have := HQg.out b hb; omega)), H9.out.2.2.2.2.2.2.2.2.1.grown gr10 (ne10 _ (by omega)), H9.out.2.2.2.2.2.2.2.2.2.grown gr10 (ne10 _ (by omega))⟩
      have HZ10 : Hid (w9.heap.size ≤ w10.heap.size) := gr10.size
      clear x0 gr10 ne10 ne10r H9
      have d0 := H10.out.2.2.2.2.2.2.1.cell 0
      have e0 := H10.out.2.2.2.1.cell 0
      go_wp2_with fail
      refine (eq_ledger _ _ _ _ L2 _ H10.out.2.2.2.2.2.1 H10.out.2.2.1 HPL.out).mono ?_
      rintro e w11 ⟨rfl, b11⟩
      have HZ11 : Hid (w10.heap.size ≤ w11.heap.size) := b11.size
      have H11 : Hid (Bel W w11 ∧ boxB w11 W.heap.size #[.slice a L.length c] 30 ∧ Own 25 5 cells w11 aw L2 ∧ boxB w11 w3.heap.size #[.slice aw L2.length cw_] 35 ∧ boxB w11 (w3.heap.size + 1) #[.int .i64 P, .int .i64 G] 43 ∧ Own 25 5 cells w11 ag L2 ∧ boxB w11 w5.heap.size #[.slice ag L2.length cg_] 35 ∧ boxB w11 (w5.heap.size + 1) #[.int .i64 P, .int .i64 G] 43) := ⟨H10.out.1.below b11, H10.out.2.1.below b11, H10.out.2.2.1.below b11, H10.out.2.2.2.1.below b11, H10.out.2.2.2.2.1.below b11, H10.out.2.2.2.2.2.1.below b11, H10.out.2.2.2.2.2.2.1.below b11, H10.out.2.2.2.2.2.2.2.below b11⟩
      clear d0 e0 b11 H10
      have d0 := H11.out.2.2.2.2.2.2.2.cell 0
      have d1 := H11.out.2.2.2.2.2.2.2.cell 1
      have e0 := H11.out.2.2.2.2.1.cell 0
      have e1 := H11.out.2.2.2.2.1.cell 1
      go_wp2_with fail
      refine (eq_permit P G _).mono ?_
      rintro e w12 ⟨rfl, b12⟩
      have HZ12 : Hid (w11.heap.size ≤ w12.heap.size) := b12.size
      have H12 : Hid (Bel W w12 ∧ boxB w12 W.heap.size #[.slice a L.length c] 30 ∧ Own 25 5 cells w12 aw L2 ∧ boxB w12 w3.heap.size #[.slice aw L2.length cw_] 35 ∧ boxB w12 (w3.heap.size + 1) #[.int .i64 P, .int .i64 G] 43 ∧ Own 25 5 cells w12 ag L2 ∧ boxB w12 w5.heap.size #[.slice ag L2.length cg_] 35 ∧ boxB w12 (w5.heap.size + 1) #[.int .i64 P, .int .i64 G] 43) := ⟨H11.out.1.below b12, H11.out.2.1.below b12, H11.out.2.2.1.below b12, H11.out.2.2.2.1.below b12, H11.out.2.2.2.2.1.below b12, H11.out.2.2.2.2.2.1.below b12, H11.out.2.2.2.2.2.2.1.below b12, H11.out.2.2.2.2.2.2.2.below b12⟩
      clear d0 d1 e0 e1 b12 H11
      have z0 := H12.out.2.2.2.2.2.2.1.cell 0
      go_wp2_with fail
      refine (mark_ledger _ _ L2 _ H12.out.2.2.2.2.2.1 HPL.out).mono ?_
      rintro e w13 ⟨rfl, m13, gr13⟩
      have ne13r : ∀ k, blkL ag L2 = some k → (w4.alloc (.cells #[.slice (some ⟨g2, 0, none⟩) L.length L.length] 35)).heap.size ≤ k ∧ k < w5.heap.size := HQg.out
      have ne13 : ∀ k, ¬ ((w4.alloc (.cells #[.slice (some ⟨g2, 0, none⟩) L.length L.length] 35)).heap.size ≤ k ∧ k < w5.heap.size) → some k ≠ blkL ag L2 := fun k hk e => hk (HQg.out k e.symm)
      have H13 : Hid (Bel W w13 ∧ boxB w13 W.heap.size #[.slice a L.length c] 30 ∧ Own 25 5 cells w13 aw L2 ∧ boxB w13 w3.heap.size #[.slice aw L2.length cw_] 35 ∧ boxB w13 (w3.heap.size + 1) #[.int .i64 P, .int .i64 G] 43 ∧ Own 25 5 cells w13 ag (marks 1 L2.length) ∧ boxB w13 w5.heap.size #[.slice ag L2.length cg_] 35 ∧ boxB w13 (w5.heap.size + 1) #[.int .i64 P, .int .i64 G] 43) := by
        have o0 := HZ1.out
        have o1 := HZ2.out
        have o2 := HZ3.out
        have o3 := HY3.out
        have o4 := HQx.out
        have o5 := HZ4.out
        have o6 := HY4.out
        have o7 := HZ5.out
        have o8 := HY5.out
        have o9 := HZ6.out
        have o10 := HZ7.out
        have o11 := HZ8.out
        have o12 := HZ9.out
        have o13 := HZ10.out
        have o14 := HZ11.out
        have o15 := HZ12.out
        exact ⟨H12.out.1.grown gr13 (fun k hk => by have := ne13r k hk; omega), H12.out.2.1.grown gr13 (ne13 _ (by omega)), H12.out.2.2.1.grown gr13 (fun b hb => ne13 b (by have := HQw.out b hb; omega)), H12.out.2.2.2.1.grown gr13 (ne13 _ (by omega)), H12.out.2.2.2.2.1.grown gr13 (ne13 _ (by omega)), m13, H12.out.2.2.2.2.2.2.1.grown gr13 (ne13 _ (by omega)), H12.out.2.2.2.2.2.2.2.grown gr13 (ne13 _ (by omega))⟩
      have HZ13 : Hid (w12.heap.size ≤ w13.heap.size) := gr13.size
      clear z0 gr13 ne13 ne13r m13 H12
      have z0 := H13.out.2.2.2.2.2.2.1.cell 0
      go_wp2_with fail
      refine (held_ledger ag cg_ L2.length _ H13.out.2.2.2.2.2.1 HPL.out).mono ?_
      rintro e w14 ⟨rfl, b14⟩
      have H14 : Hid (Bel W w14 ∧ boxB w14 W.heap.size #[.slice a L.length c] 30 ∧ Own 25 5 cells w14 aw L2 ∧ boxB w14 w3.heap.size #[.slice aw L2.length cw_] 35 ∧ boxB w14 (w3.heap.size + 1) #[.int .i64 P, .int .i64 G] 43 ∧ Own 25 5 cells w14 ag (marks 1 L2.length) ∧ boxB w14 w5.heap.size #[.slice ag L2.length cg_] 35 ∧ boxB w14 (w5.heap.size + 1) #[.int .i64 P, .int .i64 G] 43) := ⟨H13.out.1.below b14, H13.out.2.1.below b14, H13.out.2.2.1.below b14, H13.out.2.2.2.1.below b14, H13.out.2.2.2.2.1.below b14, H13.out.2.2.2.2.2.1.below b14, H13.out.2.2.2.2.2.2.1.below b14, H13.out.2.2.2.2.2.2.2.below b14⟩
      have HZ14 : Hid (w13.heap.size ≤ w14.heap.size) := b14.size
      clear z0 b14 H13
      have c0 := H14.out.2.1.cell 0
      go_wp2_with fail
      refine (to_ledger a c L _ (H14.out.1.arg HA.out) HL.out).mono ?_
      rintro e w15 ⟨g4, rfl, hg4, r4, b15⟩
      have H15 : Hid (Bel W w15 ∧ boxB w15 W.heap.size #[.slice a L.length c] 30 ∧ Own 25 5 cells w15 aw L2 ∧ boxB w15 w3.heap.size #[.slice aw L2.length cw_] 35 ∧ boxB w15 (w3.heap.size + 1) #[.int .i64 P, .int .i64 G] 43 ∧ Own 25 5 cells w15 ag (marks 1 L2.length) ∧ boxB w15 w5.heap.size #[.slice ag L2.length cg_] 35 ∧ boxB w15 (w5.heap.size + 1) #[.int .i64 P, .int .i64 G] 43 ∧ Row 25 5 cells w15 g4 0 L) := ⟨H14.out.1.below b15, H14.out.2.1.below b15, H14.out.2.2.1.below b15, H14.out.2.2.2.1.below b15, H14.out.2.2.2.2.1.below b15, H14.out.2.2.2.2.2.1.below b15, H14.out.2.2.2.2.2.2.1.below b15, H14.out.2.2.2.2.2.2.2.below b15, r4⟩
      have HZ15 : Hid (w14.heap.size ≤ w15.heap.size) := b15.size
      clear c0 b15 hg4 r4 H14
      go_wp2_with fail
      refine (HIM _ _ _ (Or.inr ⟨g4, 0, rfl, H15.out.2.2.2.2.2.2.2.2⟩) (Nat.le_refl _)).mono ?_
      rintro e w16 ⟨ah, ch_, rfl, hc_ch_, oh_, qh, b16⟩
      have HQh : Hid (∀ b, blkL ah L2 = some b → w15.heap.size ≤ b ∧ b < w16.heap.size) := fun b hb => ⟨qh b hb, oh_.lt b hb⟩
      have HZ16 : Hid (w15.heap.size ≤ w16.heap.size) := b16.size
      have H16 : Hid (Bel W ((w16.alloc (.cells #[.slice ah L2.length ch_] 35)).alloc (.cells #[.int .i64 P, .int .i64 G] 43)) ∧ boxB ((w16.alloc (.cells #[.slice ah L2.length ch_] 35)).alloc (.cells #[.int .i64 P, .int .i64 G] 43)) W.heap.size #[.slice a L.length c] 30 ∧ Own 25 5 cells ((w16.alloc (.cells #[.slice ah L2.length ch_] 35)).alloc (.cells #[.int .i64 P, .int .i64 G] 43)) aw L2 ∧ boxB ((w16.alloc (.cells #[.slice ah L2.length ch_] 35)).alloc (.cells #[.int .i64 P, .int .i64 G] 43)) w3.heap.size #[.slice aw L2.length cw_] 35 ∧ boxB ((w16.alloc (.cells #[.slice ah L2.length ch_] 35)).alloc (.cells #[.int .i64 P, .int .i64 G] 43)) (w3.heap.size + 1) #[.int .i64 P, .int .i64 G] 43 ∧ Own 25 5 cells ((w16.alloc (.cells #[.slice ah L2.length ch_] 35)).alloc (.cells #[.int .i64 P, .int .i64 G] 43)) ag (marks 1 L2.length) ∧ boxB ((w16.alloc (.cells #[.slice ah L2.length ch_] 35)).alloc (.cells #[.int .i64 P, .int .i64 G] 43)) w5.heap.size #[.slice ag L2.length cg_] 35 ∧ boxB ((w16.alloc (.cells #[.slice ah L2.length ch_] 35)).alloc (.cells #[.int .i64 P, .int .i64 G] 43)) (w5.heap.size + 1) #[.int .i64 P, .int .i64 G] 43 ∧ Own 25 5 cells ((w16.alloc (.cells #[.slice ah L2.length ch_] 35)).alloc (.cells #[.int .i64 P, .int .i64 G] 43)) ah L2 ∧ boxB ((w16.alloc (.cells #[.slice ah L2.length ch_] 35)).alloc (.cells #[.int .i64 P, .int .i64 G] 43)) w16.heap.size #[.slice ah L2.length ch_] 35 ∧ boxB ((w16.alloc (.cells #[.slice ah L2.length ch_] 35)).alloc (.cells #[.int .i64 P, .int .i64 G] 43)) (w16.heap.size + 1) #[.int .i64 P, .int .i64 G] 43) := ⟨H15.out.1.below (b16.trans ((n2 w16 _ _).mono b16.size)), H15.out.2.1.below (b16.trans ((n2 w16 _ _).mono b16.size)), H15.out.2.2.1.below (b16.trans ((n2 w16 _ _).mono b16.size)), H15.out.2.2.2.1.below (b16.trans ((n2 w16 _ _).mono b16.size)), H15.out.2.2.2.2.1.below (b16.trans ((n2 w16 _ _).mono b16.size)), H15.out.2.2.2.2.2.1.below (b16.trans ((n2 w16 _ _).mono b16.size)), H15.out.2.2.2.2.2.2.1.below (b16.trans ((n2 w16 _ _).mono b16.size)), H15.out.2.2.2.2.2.2.2.1.below (b16.trans ((n2 w16 _ _).mono b16.size)), oh_.below (n2 w16 _ _), (boxB.new _ _ _).below (n1 _ _), new2 _ _ _ _⟩
      have HY16 : Hid (((w16.alloc (.cells #[.slice ah L2.length ch_] 35)).alloc (.cells #[.int .i64 P, .int .i64 G] 43)).heap.size = w16.heap.size + 1 + 1) := sz2 w16 _ _
      clear b16 H15 oh_ qh
      have d0 := H16.out.2.2.2.2.2.2.2.2.2.1.cell 0
      have e0 := H16.out.2.2.2.1.cell 0
      go_wp2_with fail
      refine (eq_ledger _ _ _ _ L2 _ H16.out.2.2.2.2.2.2.2.2.1 H16.out.2.2.1 HPL.out).mono ?_
      rintro e w17 ⟨rfl, b17⟩
      have HZ17 : Hid (((w16.alloc (.cells #[.slice ah L2.length ch_] 35)).alloc (.cells #[.int .i64 P, .int .i64 G] 43)).heap.size ≤ w17.heap.size) := b17.size
      have H17 : Hid (Bel W w17 ∧ boxB w17 W.heap.size #[.slice a L.length c] 30 ∧ Own 25 5 cells w17 aw L2 ∧ boxB w17 w3.heap.size #[.slice aw L2.length cw_] 35 ∧ boxB w17 (w3.heap.size + 1) #[.int .i64 P, .int .i64 G] 43 ∧ Own 25 5 cells w17 ag (marks 1 L2.length) ∧ boxB w17 w5.heap.size #[.slice ag L2.length cg_] 35 ∧ boxB w17 (w5.heap.size + 1) #[.int .i64 P, .int .i64 G] 43 ∧ Own 25 5 cells w17 ah L2 ∧ boxB w17 w16.heap.size #[.slice ah L2.length ch_] 35 ∧ boxB w17 (w16.heap.size + 1) #[.int .i64 P, .int .i64 G] 43) := ⟨H16.out.1.below b17, H16.out.2.1.below b17, H16.out.2.2.1.below b17, H16.out.2.2.2.1.below b17, H16.out.2.2.2.2.1.below b17, H16.out.2.2.2.2.2.1.below b17, H16.out.2.2.2.2.2.2.1.below b17, H16.out.2.2.2.2.2.2.2.1.below b17, H16.out.2.2.2.2.2.2.2.2.1.below b17, H16.out.2.2.2.2.2.2.2.2.2.1.below b17, H16.out.2.2.2.2.2.2.2.2.2.2.below b17⟩
      clear d0 e0 b17 H16
      have d0 := H17.out.2.2.2.2.2.2.2.2.2.2.cell 0
      have d1 := H17.out.2.2.2.2.2.2.2.2.2.2.cell 1
      have e0 := H17.out.2.2.2.2.1.cell 0
      have e1 := H17.out.2.2.2.2.1.cell 1
      go_wp2_with fail
      refine (eq_permit P G _).mono ?_
      rintro e w18 ⟨rfl, b18⟩
      have HZ18 : Hid (w17.heap.size ≤ w18.heap.size) := b18.size
      have H18 : Hid (Bel W w18 ∧ boxB w18 W.heap.size #[.slice a L.length c] 30 ∧ Own 25 5 cells w18 aw L2 ∧ boxB w18 w3.heap.size #[.slice aw L2.length cw_] 35 ∧ boxB w18 (w3.heap.size + 1) #[.int .i64 P, .int .i64 G] 43 ∧ Own 25 5 cells w18 ag (marks 1 L2.length) ∧ boxB w18 w5.heap.size #[.slice ag L2.length cg_] 35 ∧ boxB w18 (w5.heap.size + 1) #[.int .i64 P, .int .i64 G] 43 ∧ Own 25 5 cells w18 ah L2 ∧ boxB w18 w16.heap.size #[.slice ah L2.length ch_] 35 ∧ boxB w18 (w16.heap.size + 1) #[.int .i64 P, .int .i64 G] 43) := ⟨H17.out.1.below b18, H17.out.2.1.below b18, H17.out.2.2.1.below b18, H17.out.2.2.2.1.below b18, H17.out.2.2.2.2.1.below b18, H17.out.2.2.2.2.2.1.below b18, H17.out.2.2.2.2.2.2.1.below b18, H17.out.2.2.2.2.2.2.2.1.below b18, H17.out.2.2.2.2.2.2.2.2.1.below b18, H17.out.2.2.2.2.2.2.2.2.2.1.below b18, H17.out.2.2.2.2.2.2.2.2.2.2.below b18⟩
      clear d0 d1 e0 e1 b18 H17
      have z0 := H18.out.2.2.2.2.2.2.1.cell 0
      go_wp2_with fail
      refine (held_ledger ag cg_ L2.length _ H18.out.2.2.2.2.2.1 HPL.out).mono ?_
      rintro e w19 ⟨rfl, b19⟩
      have H19 : Hid (Bel W w19 ∧ boxB w19 W.heap.size #[.slice a L.length c] 30 ∧ Own 25 5 cells w19 aw L2 ∧ boxB w19 w3.heap.size #[.slice aw L2.length cw_] 35 ∧ boxB w19 (w3.heap.size + 1) #[.int .i64 P, .int .i64 G] 43 ∧ Own 25 5 cells w19 ag (marks 1 L2.length) ∧ boxB w19 w5.heap.size #[.slice ag L2.length cg_] 35 ∧ boxB w19 (w5.heap.size + 1) #[.int .i64 P, .int .i64 G] 43 ∧ Own 25 5 cells w19 ah L2 ∧ boxB w19 w16.heap.size #[.slice ah L2.length ch_] 35 ∧ boxB w19 (w16.heap.size + 1) #[.int .i64 P, .int .i64 G] 43) := ⟨H18.out.1.below b19, H18.out.2.1.below b19, H18.out.2.2.1.below b19, H18.out.2.2.2.1.below b19, H18.out.2.2.2.2.1.below b19, H18.out.2.2.2.2.2.1.below b19, H18.out.2.2.2.2.2.2.1.below b19, H18.out.2.2.2.2.2.2.2.1.below b19, H18.out.2.2.2.2.2.2.2.2.1.below b19, H18.out.2.2.2.2.2.2.2.2.2.1.below b19, H18.out.2.2.2.2.2.2.2.2.2.2.below b19⟩
      have HZ19 : Hid (w18.heap.size ≤ w19.heap.size) := b19.size
      clear z0 b19 H18
      go_wp2
      go_ret
      exact ⟨rfl, H19.out.1⟩
  · rw [if_neg hl] at HS
    go_enter Try.func7, Try.ntmps7
    go_wp2_with (go_at_call 12; refine HS.mono ?_; rintro e w1 ⟨rfl, hb⟩)
    go_ret
    exact ⟨rfl, b0.out.trans (hb.mono b0.out.size)⟩

theorem own : ownKnob Try.prog.godebug = none := by kernel_rfl
theorem laidOut : laidOutB Try.prog = true := by kernel_rfl

set_option maxRecDepth 100000 in
theorem lifted (os : Os) (started : os.Started) (H : Type) (enc : TypeId × Value → H) :
    ReturnsInHanded {} Try.checked os 7 .any (Rows.fnExactGrantSpec.pre6 enc Try.prog Try.f7 Rows.fnExactGrantRow.domain false) (Rows.fnExactGrantSpec.post enc Try.prog Try.f7 false true false false) := by
  refine returnsInHanded_of_change (C := Try.checked) own started (by kernel_rfl) Try.func7
    (ChangeSpec.witness6 (enc := enc) (C := Try.checked) false ⟨#[], #[.agg #[.slice none 0 0], .int .i64 0, .int .i64 0, .int .i64 0], []⟩ 8 (by kernel_rfl) (by kernel_rfl) (by kernel_rfl) (by kernel_rfl)) ?_
  intro W base args ds gs before hval0 hW hcnd _
  have hval : ∀ (j : Nat) t v, Try.f7.params[j]? = some t → args[j]? = some v → Value.okWide Try.prog W .any base t v := hval0
  have hW' := hW
  obtain ⟨p, q, hA0, hV, rfl, hfz, hnd⟩ := hW
  have hA : DataW.TrodAll enc Try.prog W 0 (fun _ => true) true Try.f7.params.toList args.toList ds p := hA0
  rw [Try.params7] at hA hval
  obtain ⟨v0, vs0, d0, ds0, p0, q0, hargs, rfl, rfl, h0, r0⟩ := trodAll_cons hA
  obtain ⟨v1, vs1, d1, ds1, p1, q1, rfl, rfl, rfl, h1, r1⟩ := trodAll_cons r0
  obtain ⟨v2, vs2, d2, ds2, p2, q2, rfl, rfl, rfl, h2, r2⟩ := trodAll_cons r1
  obtain ⟨v3, vs3, d3, ds3, p3, q3, rfl, rfl, rfl, h3, r3⟩ := trodAll_cons r2
  obtain ⟨rfl, rfl, rfl⟩ := trodAll_nil r3
  obtain rfl : args = #[v0, v1, v2, v3] := by cases args; simp_all
  obtain ⟨rfl, rfl⟩ := trodVars_none hV
  have k0_ := h0
  have lt0 : ∀ x ∈ p0, x.block < W.heap.size := by obtain ⟨m, hm⟩ := k0_; exact DataW.trod_lt m _ _ _ hm
  obtain ⟨aL0, cL0, L0, rfl, hL0, mL0⟩ := OpenLedger.open_ledger (hval 0 30 v0 rfl rfl) h0
  obtain ⟨a1, rfl, rfl, rfl, w1⟩ := open_int Try.underlying3 (hval 1 3 v1 rfl rfl) h1
  obtain ⟨a2, rfl, rfl, rfl, w2⟩ := open_int Try.underlying3 (hval 2 3 v2 rfl rfl) h2
  obtain ⟨a3, rfl, rfl, rfl, w3⟩ := open_int Try.underlying3 (hval 3 3 v3 rfl rfl) h3
  clear hA0 hval0
  refine (walk W aL0 cL0 L0 (LedBox.arg_of hL0) mL0 a1 w1 a2 w2 a3 w3).mono fun e W' ⟨he, hb⟩ => ?_
  subst he
  exact ⟨_, rfl, _, _, _, [], _, [], hW', trodAll_cons_mk (shut_bool Try.underlying4 _) trodAll_mk0, (trodAll_cons_mk (Below.trod laidOut (by kernel_rfl) (of_decide_eq_true (by kernel_rfl)) k0_ hb lt0) (trodAll_cons_mk (shut_int Try.underlying3 w1) (trodAll_cons_mk (shut_int Try.underlying3 w2) (trodAll_cons_mk (shut_int Try.underlying3 w3) trodAll_mk0)))), rfl, hb.frame _, fun h => by cases h⟩

theorem over : Rows.fnExactGrantRow.holds Try.pinned (OpenSpec.ofChange Rows.fnExactGrantSpec) :=
  OpenClaim.holds_of_wide 7 Try.f7 rfl rfl rfl rfl rfl rfl rfl ⟨rfl, rfl, rfl, rfl, rfl⟩ rfl rfl rfl rfl rfl (by kernel_rfl) Try.func7 (by kernel_rfl)
    (of_decide_eq_true (by kernel_rfl)) (by unfold Func.isWrapper; first | (rw [if_pos (by decide +kernel)]; kernel_rfl) | (rw [if_neg (by decide +kernel)]; exact ⟨rfl, rfl⟩))
    (fun os started H enc _ => lifted os started H enc)

theorem proved : Rows.FnExactGrantSaid :=
  over
end Go.Proofs.Ytdmjffkcjkcdnaa.fnExactGrant
