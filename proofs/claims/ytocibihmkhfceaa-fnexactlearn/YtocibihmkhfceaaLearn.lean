/- At every limit, time, latency and outcome the program's Learn answers as the model's, its answer owns its memory, and it writes into no argument (the law FnExactLearn returns true); no condition. -/
import Derived.Test.YtocibihmkhfceaaRows
import Derived.WalkKit
import Derived.WalkSmall
import Derived.BigQuiet
import Derived.ProofKit
import Derived.OpenShut
import Derived.Deep.RegionWith
import Derived.Test.YtocibihmkhfceaaPairWalks
import Derived.Test.YtocibihmkhfceaaMarkKit
import Derived.Test.YtocibihmkhfceaaOpenKit
import Derived.Test.YtocibihmkhfceaaOpenLim
import Derived.Test.YtocibihmkhfceaaLawBox
import Derived.Test.YtocibihmkhfceaaLimKit
import Derived.Test.YtocibihmkhfceaaLimCopy
import Derived.Test.YtocibihmkhfceaaLimBothC
namespace Go.Proofs.Ytocibihmkhfceaa.fnExactLearn
open Go.ChangeShapes Go.WideShapes Go.ChangeAt Go.RowKit PairWalks MarkKit LawBox LimKit LimCopy LimBothC
set_option linter.unusedVariables false
set_option linter.unusedSimpArgs false
set_option maxRecDepth 8000

set_option maxHeartbeats 4000000 in
theorem walk (W : World) (k mn mx sp sl li gd av ws : Int) (a : Option Addr) (c : Nat) (L : List (Int × Int)) (h : Arg W a L) (m : L.length ≤ maxLen) (now : Int) (wnow : (Lit.int .i64 now).wf = true) (lat : Int) (wlat : (Lit.int .i64 lat).wf = true) (ok : Bool) :
    Calls Try.prog 9 #[.agg #[.int .i64 k, .int .i64 mn, .int .i64 mx, .int .i64 sp, .int .i64 sl, .int .i64 li, .int .i64 gd, .int .i64 av, .int .i64 ws, .slice a L.length c], .int .i64 now, .int .i64 lat, .bool ok] W fun e w' => e = .returned (.bool true) ∧ Below W.heap.size W w' := by
  have hm : (L.length : Int) ≤ 9223372036854775807 := by unfold maxLen at m; omega
  have b0 : Below W.heap.size W (W.alloc (.cells #[.int .i64 k, .int .i64 mn, .int .i64 mx, .int .i64 sp, .int .i64 sl, .int .i64 li, .int .i64 gd, .int .i64 av, .int .i64 ws, .slice a L.length c] 32)) := (Below.refl _ _).alloc (Nat.le_refl _) _
  have HS := sz_lim k mn mx sp sl li gd av ws a c L.length (W.alloc (.cells #[.int .i64 k, .int .i64 mn, .int .i64 mx, .int .i64 sp, .int .i64 sl, .int .i64 li, .int .i64 gd, .int .i64 av, .int .i64 ws, .slice a L.length c] 32)) hm
  clear wnow wlat
  by_cases hl : (L.length : Int) ≤ 1048576
  · rw [if_pos hl] at HS
    have h0 : ¬ (1048576 - (L.length : Int)) < 0 := by omega
    obtain ⟨k2, mn2, mx2, sp2, sl2, li2, gd2, av2, ws2, P, HSP, HIM, hpl⟩ := both_learn k mn mx sp sl li gd av ws L now lat ok (by omega)
    have HX : Hid (StB W (W.alloc (.cells #[.int .i64 k, .int .i64 mn, .int .i64 mx, .int .i64 sp, .int .i64 sl, .int .i64 li, .int .i64 gd, .int .i64 av, .int .i64 ws, .slice a L.length c] 32)) #[.int .i64 k, .int .i64 mn, .int .i64 mx, .int .i64 sp, .int .i64 sl, .int .i64 li, .int .i64 gd, .int .i64 av, .int .i64 ws, .slice a L.length c] 32 a L) := StB.start h
    have HL : Hid (L.length ≤ 1048577) := by show _ ≤ _; omega
    have HPL : Hid (P.length ≤ 1048577) := hpl
    have kx : ¬ (1 + 2 * (L.length : Int)) < 0 := by omega
    have kp : ¬ (1 + 2 * (P.length : Int)) < 0 := by omega
    have kk : ((1 + 2 * (P.length : Int)) != (1 + 2 * (P.length : Int))) = false := by simp
    clear b0 h m hm hl hpl
    go_enter Try.func9, Try.ntmps9
    go_wp2_with (go_at_call 13; refine HS.mono ?_; rintro e w1 ⟨rfl, hb⟩; have H1 : Hid (StB W w1 #[.int .i64 k, .int .i64 mn, .int .i64 mx, .int .i64 sp, .int .i64 sl, .int .i64 li, .int .i64 gd, .int .i64 av, .int .i64 ws, .slice a L.length c] 32 a L ∧ W.heap.size < w1.heap.size) := ⟨HX.out.next hb, by have := hb.size; simp at this; omega⟩; have c0 := H1.out.1.1.cell 0; have c1 := H1.out.1.1.cell 1; have c2 := H1.out.1.1.cell 2; have c3 := H1.out.1.1.cell 3; have c4 := H1.out.1.1.cell 4; have c5 := H1.out.1.1.cell 5; have c6 := H1.out.1.1.cell 6; have c7 := H1.out.1.1.cell 7; have c8 := H1.out.1.1.cell 8; have c9 := H1.out.1.1.cell 9; clear hb HS HX)
    refine (to_lim k mn mx sp sl li gd av ws a c L w1 H1.out.1.arg HL.out).mono ?_
    rintro e w2 ⟨g1, rfl, _, r1, b2⟩
    have H2 : Hid (StB W w2 #[.int .i64 k, .int .i64 mn, .int .i64 mx, .int .i64 sp, .int .i64 sl, .int .i64 li, .int .i64 gd, .int .i64 av, .int .i64 ws, .slice a L.length c] 32 a L ∧ W.heap.size < w2.heap.size) := ⟨H1.out.1.next b2, by have := b2.size; have := H1.out.2; omega⟩
    clear c0 c1 c2 c3 c4 c5 c6 c7 c8 c9 b2 H1
    go_wp2_with fail
    refine (HSP w2 _ _ (Or.inr ⟨g1, 0, rfl, r1⟩)).mono ?_
    rintro e w3 ⟨aw, cw, rfl, rw3, gw, b3⟩
    have n3 : ∀ o : Obj, Below w3.heap.size w3 (w3.alloc o) := fun o => (Below.refl _ _).alloc (Nat.le_refl _) _
    have H3 : Hid (StB W (w3.alloc (.cells #[.int .i64 k2, .int .i64 mn2, .int .i64 mx2, .int .i64 sp2, .int .i64 sl2, .int .i64 li2, .int .i64 gd2, .int .i64 av2, .int .i64 ws2, .slice aw P.length cw] 39)) #[.int .i64 k, .int .i64 mn, .int .i64 mx, .int .i64 sp, .int .i64 sl, .int .i64 li, .int .i64 gd, .int .i64 av, .int .i64 ws, .slice a L.length c] 32 a L ∧ boxB (w3.alloc (.cells #[.int .i64 k2, .int .i64 mn2, .int .i64 mx2, .int .i64 sp2, .int .i64 sl2, .int .i64 li2, .int .i64 gd2, .int .i64 av2, .int .i64 ws2, .slice aw P.length cw] 39)) w3.heap.size #[.int .i64 k2, .int .i64 mn2, .int .i64 mx2, .int .i64 sp2, .int .i64 sl2, .int .i64 li2, .int .i64 gd2, .int .i64 av2, .int .i64 ws2, .slice aw P.length cw] 39 ∧ WOk (w3.alloc (.cells #[.int .i64 k2, .int .i64 mn2, .int .i64 mx2, .int .i64 sp2, .int .i64 sl2, .int .i64 li2, .int .i64 gd2, .int .i64 av2, .int .i64 ws2, .slice aw P.length cw] 39)) aw P) := ⟨(H2.out.1.next b3).next (n3 _), boxB.new _ _ _, rw3.below (n3 _)⟩
    have HGW : Hid ((∀ g, blkL aw P = some g → g < w3.heap.size) ∧ W.heap.size < w3.heap.size) := ⟨blkL_lt rw3, by have := b3.size; have := H2.out.2; omega⟩
    have c0 := H3.out.1.1.cell 0
    have c1 := H3.out.1.1.cell 1
    have c2 := H3.out.1.1.cell 2
    have c3 := H3.out.1.1.cell 3
    have c4 := H3.out.1.1.cell 4
    have c5 := H3.out.1.1.cell 5
    have c6 := H3.out.1.1.cell 6
    have c7 := H3.out.1.1.cell 7
    have c8 := H3.out.1.1.cell 8
    have c9 := H3.out.1.1.cell 9
    clear b3 r1 rw3 gw n3 H2
    go_wp2_with fail
    refine (to_lim k mn mx sp sl li gd av ws a c L _ H3.out.1.arg HL.out).mono ?_
    rintro e w4 ⟨g2, rfl, hg2, r2, b4⟩
    have n4 : ∀ o : Obj, Below w4.heap.size w4 (w4.alloc o) := fun o => (Below.refl _ _).alloc (Nat.le_refl _) _
    have H4 : Hid (StB W (w4.alloc (.cells #[.int .i64 k, .int .i64 mn, .int .i64 mx, .int .i64 sp, .int .i64 sl, .int .i64 li, .int .i64 gd, .int .i64 av, .int .i64 ws, .slice (some ⟨g2, 0, none⟩) L.length L.length] 39)) #[.int .i64 k, .int .i64 mn, .int .i64 mx, .int .i64 sp, .int .i64 sl, .int .i64 li, .int .i64 gd, .int .i64 av, .int .i64 ws, .slice a L.length c] 32 a L ∧ boxB (w4.alloc (.cells #[.int .i64 k, .int .i64 mn, .int .i64 mx, .int .i64 sp, .int .i64 sl, .int .i64 li, .int .i64 gd, .int .i64 av, .int .i64 ws, .slice (some ⟨g2, 0, none⟩) L.length L.length] 39)) w3.heap.size #[.int .i64 k2, .int .i64 mn2, .int .i64 mx2, .int .i64 sp2, .int .i64 sl2, .int .i64 li2, .int .i64 gd2, .int .i64 av2, .int .i64 ws2, .slice aw P.length cw] 39 ∧ WOk (w4.alloc (.cells #[.int .i64 k, .int .i64 mn, .int .i64 mx, .int .i64 sp, .int .i64 sl, .int .i64 li, .int .i64 gd, .int .i64 av, .int .i64 ws, .slice (some ⟨g2, 0, none⟩) L.length L.length] 39)) aw P ∧ boxB (w4.alloc (.cells #[.int .i64 k, .int .i64 mn, .int .i64 mx, .int .i64 sp, .int .i64 sl, .int .i64 li, .int .i64 gd, .int .i64 av, .int .i64 ws, .slice (some ⟨g2, 0, none⟩) L.length L.length] 39)) w4.heap.size #[.int .i64 k, .int .i64 mn, .int .i64 mx, .int .i64 sp, .int .i64 sl, .int .i64 li, .int .i64 gd, .int .i64 av, .int .i64 ws, .slice (some ⟨g2, 0, none⟩) L.length L.length] 39 ∧ PRow (w4.alloc (.cells #[.int .i64 k, .int .i64 mn, .int .i64 mx, .int .i64 sp, .int .i64 sl, .int .i64 li, .int .i64 gd, .int .i64 av, .int .i64 ws, .slice (some ⟨g2, 0, none⟩) L.length L.length] 39)) g2 0 L) := ⟨(H3.out.1.next b4).next (n4 _), (H3.out.2.1.below b4).below (n4 _), (H3.out.2.2.below b4).below (n4 _), boxB.new _ _ _, r2.below (n4 _)⟩
    have HG2 : Hid (w3.heap.size < g2 ∧ g2 < w4.heap.size) := ⟨by simp at hg2; omega, r2.lt⟩
    clear c0 c1 c2 c3 c4 c5 c6 c7 c8 c9 b4 r2 hg2 H3 n4
    go_wp2_with fail
    refine (HIM _ _ _ (Or.inr ⟨g2, 0, rfl, H4.out.2.2.2.2⟩)).mono ?_
    rintro e w5 ⟨ag, cg, rfl, rg, gg, b5⟩
    have HGG : Hid ((∀ g, blkL ag P = some g → w4.heap.size < g ∧ g < w5.heap.size) ∧ w4.heap.size < w5.heap.size) := ⟨fun g hg => ⟨by have := blkL_ge gg g hg; simp at this; omega, blkL_lt rg g hg⟩, by have := b5.size; simp at this; omega⟩
    have n5 : ∀ o : Obj, Below w5.heap.size w5 (w5.alloc o) := fun o => (Below.refl _ _).alloc (Nat.le_refl _) _
    have H5 : Hid (StB W (w5.alloc (.cells #[.int .i64 k2, .int .i64 mn2, .int .i64 mx2, .int .i64 sp2, .int .i64 sl2, .int .i64 li2, .int .i64 gd2, .int .i64 av2, .int .i64 ws2, .slice ag P.length cg] 39)) #[.int .i64 k, .int .i64 mn, .int .i64 mx, .int .i64 sp, .int .i64 sl, .int .i64 li, .int .i64 gd, .int .i64 av, .int .i64 ws, .slice a L.length c] 32 a L ∧ boxB (w5.alloc (.cells #[.int .i64 k2, .int .i64 mn2, .int .i64 mx2, .int .i64 sp2, .int .i64 sl2, .int .i64 li2, .int .i64 gd2, .int .i64 av2, .int .i64 ws2, .slice ag P.length cg] 39)) w3.heap.size #[.int .i64 k2, .int .i64 mn2, .int .i64 mx2, .int .i64 sp2, .int .i64 sl2, .int .i64 li2, .int .i64 gd2, .int .i64 av2, .int .i64 ws2, .slice aw P.length cw] 39 ∧ WOk (w5.alloc (.cells #[.int .i64 k2, .int .i64 mn2, .int .i64 mx2, .int .i64 sp2, .int .i64 sl2, .int .i64 li2, .int .i64 gd2, .int .i64 av2, .int .i64 ws2, .slice ag P.length cg] 39)) aw P ∧ boxB (w5.alloc (.cells #[.int .i64 k2, .int .i64 mn2, .int .i64 mx2, .int .i64 sp2, .int .i64 sl2, .int .i64 li2, .int .i64 gd2, .int .i64 av2, .int .i64 ws2, .slice ag P.length cg] 39)) w4.heap.size #[.int .i64 k, .int .i64 mn, .int .i64 mx, .int .i64 sp, .int .i64 sl, .int .i64 li, .int .i64 gd, .int .i64 av, .int .i64 ws, .slice (some ⟨g2, 0, none⟩) L.length L.length] 39 ∧ PRow (w5.alloc (.cells #[.int .i64 k2, .int .i64 mn2, .int .i64 mx2, .int .i64 sp2, .int .i64 sl2, .int .i64 li2, .int .i64 gd2, .int .i64 av2, .int .i64 ws2, .slice ag P.length cg] 39)) g2 0 L ∧ boxB (w5.alloc (.cells #[.int .i64 k2, .int .i64 mn2, .int .i64 mx2, .int .i64 sp2, .int .i64 sl2, .int .i64 li2, .int .i64 gd2, .int .i64 av2, .int .i64 ws2, .slice ag P.length cg] 39)) w5.heap.size #[.int .i64 k2, .int .i64 mn2, .int .i64 mx2, .int .i64 sp2, .int .i64 sl2, .int .i64 li2, .int .i64 gd2, .int .i64 av2, .int .i64 ws2, .slice ag P.length cg] 39 ∧ WOk (w5.alloc (.cells #[.int .i64 k2, .int .i64 mn2, .int .i64 mx2, .int .i64 sp2, .int .i64 sl2, .int .i64 li2, .int .i64 gd2, .int .i64 av2, .int .i64 ws2, .slice ag P.length cg] 39)) ag P) := ⟨(H4.out.1.next b5).next (n5 _), (H4.out.2.1.below b5).below (n5 _), (H4.out.2.2.1.below b5).below (n5 _), (H4.out.2.2.2.1.below b5).below (n5 _), (H4.out.2.2.2.2.below b5).below (n5 _), boxB.new _ _ _, rg.below (n5 _)⟩
    have e0 := H5.out.2.1.cell 0
    have e1 := H5.out.2.1.cell 1
    have e2 := H5.out.2.1.cell 2
    have e3 := H5.out.2.1.cell 3
    have e4 := H5.out.2.1.cell 4
    have e5 := H5.out.2.1.cell 5
    have e6 := H5.out.2.1.cell 6
    have e7 := H5.out.2.1.cell 7
    have e8 := H5.out.2.1.cell 8
    have e9 := H5.out.2.1.cell 9
    clear b5 n5 rg gg H4
    go_wp2_with fail
    refine (eq_lim k2 mn2 mx2 sp2 sl2 li2 gd2 av2 ws2 _ _ _ _ P _ H5.out.2.2.2.2.2.2 H5.out.2.2.1 HPL.out).mono ?_
    rintro e w6 ⟨rfl, b6⟩
    have H6 : Hid (StB W w6.drew #[.int .i64 k, .int .i64 mn, .int .i64 mx, .int .i64 sp, .int .i64 sl, .int .i64 li, .int .i64 gd, .int .i64 av, .int .i64 ws, .slice a L.length c] 32 a L ∧ boxB w6.drew w3.heap.size #[.int .i64 k2, .int .i64 mn2, .int .i64 mx2, .int .i64 sp2, .int .i64 sl2, .int .i64 li2, .int .i64 gd2, .int .i64 av2, .int .i64 ws2, .slice aw P.length cw] 39 ∧ WOk w6.drew aw P ∧ boxB w6.drew w4.heap.size #[.int .i64 k, .int .i64 mn, .int .i64 mx, .int .i64 sp, .int .i64 sl, .int .i64 li, .int .i64 gd, .int .i64 av, .int .i64 ws, .slice (some ⟨g2, 0, none⟩) L.length L.length] 39 ∧ PRow w6.drew g2 0 L ∧ boxB w6.drew w5.heap.size #[.int .i64 k2, .int .i64 mn2, .int .i64 mx2, .int .i64 sp2, .int .i64 sl2, .int .i64 li2, .int .i64 gd2, .int .i64 av2, .int .i64 ws2, .slice ag P.length cg] 39 ∧ WOk w6.drew ag P) := ⟨(H5.out.1.next b6).drew, H5.out.2.1.below b6.drew, H5.out.2.2.1.below b6.drew, H5.out.2.2.2.1.below b6.drew, H5.out.2.2.2.2.1.below b6.drew, H5.out.2.2.2.2.2.1.below b6.drew, H5.out.2.2.2.2.2.2.below b6.drew⟩
    have c0 := H6.out.1.1.cell 0
    have c1 := H6.out.1.1.cell 1
    have c2 := H6.out.1.1.cell 2
    have c3 := H6.out.1.1.cell 3
    have c4 := H6.out.1.1.cell 4
    have c5 := H6.out.1.1.cell 5
    have c6 := H6.out.1.1.cell 6
    have c7 := H6.out.1.1.cell 7
    have c8 := H6.out.1.1.cell 8
    have c9 := H6.out.1.1.cell 9
    have x0 := H6.out.2.2.2.1.cell 0
    have x1 := H6.out.2.2.2.1.cell 1
    have x2 := H6.out.2.2.2.1.cell 2
    have x3 := H6.out.2.2.2.1.cell 3
    have x4 := H6.out.2.2.2.1.cell 4
    have x5 := H6.out.2.2.2.1.cell 5
    have x6 := H6.out.2.2.2.1.cell 6
    have x7 := H6.out.2.2.2.1.cell 7
    have x8 := H6.out.2.2.2.1.cell 8
    have x9 := H6.out.2.2.2.1.cell 9
    clear b6 e0 e1 e2 e3 e4 e5 e6 e7 e8 e9 H5
    go_wp2
    go_region_with (first | (go_at_call 15; refine (to_lim k mn mx sp sl li gd av ws a c L _ H6.out.1.arg HL.out).mono ?_; rintro e w7 ⟨g3, rfl, _, r3, b7⟩; have H7 : Hid (StB W w7 #[.int .i64 k, .int .i64 mn, .int .i64 mx, .int .i64 sp, .int .i64 sl, .int .i64 li, .int .i64 gd, .int .i64 av, .int .i64 ws, .slice a L.length c] 32 a L ∧ boxB w7 w3.heap.size #[.int .i64 k2, .int .i64 mn2, .int .i64 mx2, .int .i64 sp2, .int .i64 sl2, .int .i64 li2, .int .i64 gd2, .int .i64 av2, .int .i64 ws2, .slice aw P.length cw] 39 ∧ WOk w7 aw P ∧ boxB w7 w4.heap.size #[.int .i64 k, .int .i64 mn, .int .i64 mx, .int .i64 sp, .int .i64 sl, .int .i64 li, .int .i64 gd, .int .i64 av, .int .i64 ws, .slice (some ⟨g2, 0, none⟩) L.length L.length] 39 ∧ PRow w7 g2 0 L ∧ boxB w7 w5.heap.size #[.int .i64 k2, .int .i64 mn2, .int .i64 mx2, .int .i64 sp2, .int .i64 sl2, .int .i64 li2, .int .i64 gd2, .int .i64 av2, .int .i64 ws2, .slice ag P.length cg] 39 ∧ WOk w7 ag P ∧ PRow w7 g3 0 L) := ⟨H6.out.1.next b7, H6.out.2.1.below b7, H6.out.2.2.1.below b7, H6.out.2.2.2.1.below b7, H6.out.2.2.2.2.1.below b7, H6.out.2.2.2.2.2.1.below b7, H6.out.2.2.2.2.2.2.below b7, r3⟩; have y0 := H7.out.2.2.2.1.cell 0; have y1 := H7.out.2.2.2.1.cell 1; have y2 := H7.out.2.2.2.1.cell 2; have y3 := H7.out.2.2.2.1.cell 3; have y4 := H7.out.2.2.2.1.cell 4; have y5 := H7.out.2.2.2.1.cell 5; have y6 := H7.out.2.2.2.1.cell 6; have y7 := H7.out.2.2.2.1.cell 7; have y8 := H7.out.2.2.2.1.cell 8; have y9 := H7.out.2.2.2.1.cell 9; clear b7 r3) | (go_at_call 17; refine (eq_lim k mn mx sp sl li gd av ws _ _ _ _ L _ (Or.inr ⟨g2, 0, rfl, H7.out.2.2.2.2.1⟩) (Or.inr ⟨g3, 0, rfl, H7.out.2.2.2.2.2.2.2⟩) HL.out).mono ?_; rintro e w8 ⟨rfl, b8⟩; have H8 : Hid (StB W w8 #[.int .i64 k, .int .i64 mn, .int .i64 mx, .int .i64 sp, .int .i64 sl, .int .i64 li, .int .i64 gd, .int .i64 av, .int .i64 ws, .slice a L.length c] 32 a L ∧ boxB w8 w3.heap.size #[.int .i64 k2, .int .i64 mn2, .int .i64 mx2, .int .i64 sp2, .int .i64 sl2, .int .i64 li2, .int .i64 gd2, .int .i64 av2, .int .i64 ws2, .slice aw P.length cw] 39 ∧ WOk w8 aw P ∧ boxB w8 w4.heap.size #[.int .i64 k, .int .i64 mn, .int .i64 mx, .int .i64 sp, .int .i64 sl, .int .i64 li, .int .i64 gd, .int .i64 av, .int .i64 ws, .slice (some ⟨g2, 0, none⟩) L.length L.length] 39 ∧ PRow w8 g2 0 L ∧ boxB w8 w5.heap.size #[.int .i64 k2, .int .i64 mn2, .int .i64 mx2, .int .i64 sp2, .int .i64 sl2, .int .i64 li2, .int .i64 gd2, .int .i64 av2, .int .i64 ws2, .slice ag P.length cg] 39 ∧ WOk w8 ag P) := ⟨H7.out.1.next b8, H7.out.2.1.below b8, H7.out.2.2.1.below b8, H7.out.2.2.2.1.below b8, H7.out.2.2.2.2.1.below b8, H7.out.2.2.2.2.2.1.below b8, H7.out.2.2.2.2.2.2.1.below b8⟩; clear b8))
    all_goals
      clear c0 c1 c2 c3 c4 c5 c6 c7 c8 c9 x0 x1 x2 x3 x4 x5 x6 x7 x8 x9 y0 y1 y2 y3 y4 y5 y6 y7 y8 y9 H6 H7
      have x0 := H8.out.2.2.2.1.cell 0
      have x1 := H8.out.2.2.2.1.cell 1
      have x2 := H8.out.2.2.2.1.cell 2
      have x3 := H8.out.2.2.2.1.cell 3
      have x4 := H8.out.2.2.2.1.cell 4
      have x5 := H8.out.2.2.2.1.cell 5
      have x6 := H8.out.2.2.2.1.cell 6
      have x7 := H8.out.2.2.2.1.cell 7
      have x8 := H8.out.2.2.2.1.cell 8
      have x9 := H8.out.2.2.2.1.cell 9
      go_wp2_with fail
      refine (mark_lim k mn mx sp sl li gd av ws _ _ L _ (Or.inr ⟨g2, 0, rfl, H8.out.2.2.2.2.1⟩) HL.out).mono ?_
      rintro e w9 ⟨rfl, _, gr9⟩
      have hr9 : ∀ k, blkL (some ⟨g2, 0, none⟩) L = some k → k = g2 := fun k hk => by
        cases L with
        | nil => simp [blkL] at hk
        | cons q L => simp [blkL, blk] at hk; exact hk.symm
      have hne9 : ∀ k, k ≠ g2 → some k ≠ blkL (some ⟨g2, 0, none⟩) L := fun k hk e => hk (hr9 k e.symm)
      have H9 : Hid (StB W w9 #[.int .i64 k, .int .i64 mn, .int .i64 mx, .int .i64 sp, .int .i64 sl, .int .i64 li, .int .i64 gd, .int .i64 av, .int .i64 ws, .slice a L.length c] 32 a L ∧ boxB w9 w3.heap.size #[.int .i64 k2, .int .i64 mn2, .int .i64 mx2, .int .i64 sp2, .int .i64 sl2, .int .i64 li2, .int .i64 gd2, .int .i64 av2, .int .i64 ws2, .slice aw P.length cw] 39 ∧ WOk w9 aw P ∧ boxB w9 w5.heap.size #[.int .i64 k2, .int .i64 mn2, .int .i64 mx2, .int .i64 sp2, .int .i64 sl2, .int .i64 li2, .int .i64 gd2, .int .i64 av2, .int .i64 ws2, .slice ag P.length cg] 39 ∧ WOk w9 ag P) := by
        have o1 := HG2.out
        have o2 := HGW.out
        have o3 := HGG.out
        exact ⟨H8.out.1.grow gr9 (fun k hk => by have := hr9 k hk; omega), H8.out.2.1.grown gr9 (hne9 _ (by omega)), wok_grown H8.out.2.2.1 gr9 (fun g hg => hne9 g (by have := o2.1 g hg; omega)), H8.out.2.2.2.2.2.1.grown gr9 (hne9 _ (by omega)), wok_grown H8.out.2.2.2.2.2.2 gr9 (fun g hg => hne9 g (by have := o3.1 g hg; omega))⟩
      have e0 := H9.out.2.1.cell 0
      have e1 := H9.out.2.1.cell 1
      have e2 := H9.out.2.1.cell 2
      have e3 := H9.out.2.1.cell 3
      have e4 := H9.out.2.1.cell 4
      have e5 := H9.out.2.1.cell 5
      have e6 := H9.out.2.1.cell 6
      have e7 := H9.out.2.1.cell 7
      have e8 := H9.out.2.1.cell 8
      have e9 := H9.out.2.1.cell 9
      have z0 := H9.out.2.2.2.1.cell 0
      have z1 := H9.out.2.2.2.1.cell 1
      have z2 := H9.out.2.2.2.1.cell 2
      have z3 := H9.out.2.2.2.1.cell 3
      have z4 := H9.out.2.2.2.1.cell 4
      have z5 := H9.out.2.2.2.1.cell 5
      have z6 := H9.out.2.2.2.1.cell 6
      have z7 := H9.out.2.2.2.1.cell 7
      have z8 := H9.out.2.2.2.1.cell 8
      have z9 := H9.out.2.2.2.1.cell 9
      clear x0 x1 x2 x3 x4 x5 x6 x7 x8 x9 gr9 hr9 hne9 H8
      go_wp2_with fail
      refine (eq_lim k2 mn2 mx2 sp2 sl2 li2 gd2 av2 ws2 _ _ _ _ P _ H9.out.2.2.2.2 H9.out.2.2.1 HPL.out).mono ?_
      rintro e w10 ⟨rfl, b10⟩
      have H10 : Hid (StB W w10 #[.int .i64 k, .int .i64 mn, .int .i64 mx, .int .i64 sp, .int .i64 sl, .int .i64 li, .int .i64 gd, .int .i64 av, .int .i64 ws, .slice a L.length c] 32 a L ∧ boxB w10 w3.heap.size #[.int .i64 k2, .int .i64 mn2, .int .i64 mx2, .int .i64 sp2, .int .i64 sl2, .int .i64 li2, .int .i64 gd2, .int .i64 av2, .int .i64 ws2, .slice aw P.length cw] 39 ∧ WOk w10 aw P ∧ boxB w10 w5.heap.size #[.int .i64 k2, .int .i64 mn2, .int .i64 mx2, .int .i64 sp2, .int .i64 sl2, .int .i64 li2, .int .i64 gd2, .int .i64 av2, .int .i64 ws2, .slice ag P.length cg] 39 ∧ WOk w10 ag P) := ⟨H9.out.1.next b10, H9.out.2.1.below b10, H9.out.2.2.1.below b10, H9.out.2.2.2.1.below b10, H9.out.2.2.2.2.below b10⟩
      clear e0 e1 e2 e3 e4 e5 e6 e7 e8 e9 z0 z1 z2 z3 z4 z5 z6 z7 z8 z9 b10 H9
      have z0 := H10.out.2.2.2.1.cell 0
      have z1 := H10.out.2.2.2.1.cell 1
      have z2 := H10.out.2.2.2.1.cell 2
      have z3 := H10.out.2.2.2.1.cell 3
      have z4 := H10.out.2.2.2.1.cell 4
      have z5 := H10.out.2.2.2.1.cell 5
      have z6 := H10.out.2.2.2.1.cell 6
      have z7 := H10.out.2.2.2.1.cell 7
      have z8 := H10.out.2.2.2.1.cell 8
      have z9 := H10.out.2.2.2.1.cell 9
      go_wp2_with fail
      refine (mark_lim k2 mn2 mx2 sp2 sl2 li2 gd2 av2 ws2 ag cg P _ H10.out.2.2.2.2 HPL.out).mono ?_
      rintro e w11 ⟨rfl, m11, gr11⟩
      have hne11 : ∀ k, ¬ (w4.heap.size < k ∧ k < w5.heap.size) → some k ≠ blkL ag P := fun k hk e => hk (HGG.out.1 k e.symm)
      have H11 : Hid (StB W w11 #[.int .i64 k, .int .i64 mn, .int .i64 mx, .int .i64 sp, .int .i64 sl, .int .i64 li, .int .i64 gd, .int .i64 av, .int .i64 ws, .slice a L.length c] 32 a L ∧ boxB w11 w3.heap.size #[.int .i64 k2, .int .i64 mn2, .int .i64 mx2, .int .i64 sp2, .int .i64 sl2, .int .i64 li2, .int .i64 gd2, .int .i64 av2, .int .i64 ws2, .slice aw P.length cw] 39 ∧ WOk w11 aw P ∧ boxB w11 w5.heap.size #[.int .i64 k2, .int .i64 mn2, .int .i64 mx2, .int .i64 sp2, .int .i64 sl2, .int .i64 li2, .int .i64 gd2, .int .i64 av2, .int .i64 ws2, .slice ag P.length cg] 39 ∧ WOk w11 ag (pmarks 1 P.length)) := by
        have o1 := HG2.out
        have o2 := HGW.out
        have o3 := HGG.out
        exact ⟨H10.out.1.grow gr11 (fun k hk => by have := o3.1 k hk; omega), H10.out.2.1.grown gr11 (hne11 _ (by omega)), wok_grown H10.out.2.2.1 gr11 (fun g hg => hne11 g (by have := o2.1 g hg; omega)), H10.out.2.2.2.1.grown gr11 (hne11 _ (by omega)), m11⟩
      clear z0 z1 z2 z3 z4 z5 z6 z7 z8 z9 gr11 hne11 H10 m11
      have z0 := H11.out.2.2.2.1.cell 0
      have z1 := H11.out.2.2.2.1.cell 1
      have z2 := H11.out.2.2.2.1.cell 2
      have z3 := H11.out.2.2.2.1.cell 3
      have z4 := H11.out.2.2.2.1.cell 4
      have z5 := H11.out.2.2.2.1.cell 5
      have z6 := H11.out.2.2.2.1.cell 6
      have z7 := H11.out.2.2.2.1.cell 7
      have z8 := H11.out.2.2.2.1.cell 8
      have z9 := H11.out.2.2.2.1.cell 9
      go_wp2_with fail
      refine (held_lim k2 mn2 mx2 sp2 sl2 li2 gd2 av2 ws2 ag cg P.length _ H11.out.2.2.2.2 HPL.out).mono ?_
      rintro e w12 ⟨rfl, b12⟩
      have H12 : Hid (StB W w12 #[.int .i64 k, .int .i64 mn, .int .i64 mx, .int .i64 sp, .int .i64 sl, .int .i64 li, .int .i64 gd, .int .i64 av, .int .i64 ws, .slice a L.length c] 32 a L ∧ boxB w12 w3.heap.size #[.int .i64 k2, .int .i64 mn2, .int .i64 mx2, .int .i64 sp2, .int .i64 sl2, .int .i64 li2, .int .i64 gd2, .int .i64 av2, .int .i64 ws2, .slice aw P.length cw] 39 ∧ WOk w12 aw P ∧ boxB w12 w5.heap.size #[.int .i64 k2, .int .i64 mn2, .int .i64 mx2, .int .i64 sp2, .int .i64 sl2, .int .i64 li2, .int .i64 gd2, .int .i64 av2, .int .i64 ws2, .slice ag P.length cg] 39 ∧ WOk w12 ag (pmarks 1 P.length)) := ⟨H11.out.1.next b12, H11.out.2.1.below b12, H11.out.2.2.1.below b12, H11.out.2.2.2.1.below b12, H11.out.2.2.2.2.below b12⟩
      clear z0 z1 z2 z3 z4 z5 z6 z7 z8 z9 b12 H11
      have c0 := H12.out.1.1.cell 0
      have c1 := H12.out.1.1.cell 1
      have c2 := H12.out.1.1.cell 2
      have c3 := H12.out.1.1.cell 3
      have c4 := H12.out.1.1.cell 4
      have c5 := H12.out.1.1.cell 5
      have c6 := H12.out.1.1.cell 6
      have c7 := H12.out.1.1.cell 7
      have c8 := H12.out.1.1.cell 8
      have c9 := H12.out.1.1.cell 9
      go_wp2_with fail
      refine (to_lim k mn mx sp sl li gd av ws a c L _ H12.out.1.arg HL.out).mono ?_
      rintro e w13 ⟨g4, rfl, _, r4, b13⟩
      have H13 : Hid (StB W w13 #[.int .i64 k, .int .i64 mn, .int .i64 mx, .int .i64 sp, .int .i64 sl, .int .i64 li, .int .i64 gd, .int .i64 av, .int .i64 ws, .slice a L.length c] 32 a L ∧ boxB w13 w3.heap.size #[.int .i64 k2, .int .i64 mn2, .int .i64 mx2, .int .i64 sp2, .int .i64 sl2, .int .i64 li2, .int .i64 gd2, .int .i64 av2, .int .i64 ws2, .slice aw P.length cw] 39 ∧ WOk w13 aw P ∧ boxB w13 w5.heap.size #[.int .i64 k2, .int .i64 mn2, .int .i64 mx2, .int .i64 sp2, .int .i64 sl2, .int .i64 li2, .int .i64 gd2, .int .i64 av2, .int .i64 ws2, .slice ag P.length cg] 39 ∧ WOk w13 ag (pmarks 1 P.length)) := ⟨H12.out.1.next b13, H12.out.2.1.below b13, H12.out.2.2.1.below b13, H12.out.2.2.2.1.below b13, H12.out.2.2.2.2.below b13⟩
      clear c0 c1 c2 c3 c4 c5 c6 c7 c8 c9 b13 H12
      go_wp2_with fail
      refine (HIM _ _ _ (Or.inr ⟨g4, 0, rfl, r4⟩)).mono ?_
      rintro e w14 ⟨ah, ch, rfl, rh, _, b14⟩
      have n14 : ∀ o : Obj, Below w14.heap.size w14 (w14.alloc o) := fun o => (Below.refl _ _).alloc (Nat.le_refl _) _
      have H14 : Hid (StB W (w14.alloc (.cells #[.int .i64 k2, .int .i64 mn2, .int .i64 mx2, .int .i64 sp2, .int .i64 sl2, .int .i64 li2, .int .i64 gd2, .int .i64 av2, .int .i64 ws2, .slice ah P.length ch] 39)) #[.int .i64 k, .int .i64 mn, .int .i64 mx, .int .i64 sp, .int .i64 sl, .int .i64 li, .int .i64 gd, .int .i64 av, .int .i64 ws, .slice a L.length c] 32 a L ∧ boxB (w14.alloc (.cells #[.int .i64 k2, .int .i64 mn2, .int .i64 mx2, .int .i64 sp2, .int .i64 sl2, .int .i64 li2, .int .i64 gd2, .int .i64 av2, .int .i64 ws2, .slice ah P.length ch] 39)) w3.heap.size #[.int .i64 k2, .int .i64 mn2, .int .i64 mx2, .int .i64 sp2, .int .i64 sl2, .int .i64 li2, .int .i64 gd2, .int .i64 av2, .int .i64 ws2, .slice aw P.length cw] 39 ∧ WOk (w14.alloc (.cells #[.int .i64 k2, .int .i64 mn2, .int .i64 mx2, .int .i64 sp2, .int .i64 sl2, .int .i64 li2, .int .i64 gd2, .int .i64 av2, .int .i64 ws2, .slice ah P.length ch] 39)) aw P ∧ boxB (w14.alloc (.cells #[.int .i64 k2, .int .i64 mn2, .int .i64 mx2, .int .i64 sp2, .int .i64 sl2, .int .i64 li2, .int .i64 gd2, .int .i64 av2, .int .i64 ws2, .slice ah P.length ch] 39)) w5.heap.size #[.int .i64 k2, .int .i64 mn2, .int .i64 mx2, .int .i64 sp2, .int .i64 sl2, .int .i64 li2, .int .i64 gd2, .int .i64 av2, .int .i64 ws2, .slice ag P.length cg] 39 ∧ WOk (w14.alloc (.cells #[.int .i64 k2, .int .i64 mn2, .int .i64 mx2, .int .i64 sp2, .int .i64 sl2, .int .i64 li2, .int .i64 gd2, .int .i64 av2, .int .i64 ws2, .slice ah P.length ch] 39)) ag (pmarks 1 P.length) ∧ WOk (w14.alloc (.cells #[.int .i64 k2, .int .i64 mn2, .int .i64 mx2, .int .i64 sp2, .int .i64 sl2, .int .i64 li2, .int .i64 gd2, .int .i64 av2, .int .i64 ws2, .slice ah P.length ch] 39)) ah P) := ⟨(H13.out.1.next b14).next (n14 _), (H13.out.2.1.below b14).below (n14 _), (H13.out.2.2.1.below b14).below (n14 _), (H13.out.2.2.2.1.below b14).below (n14 _), (H13.out.2.2.2.2.below b14).below (n14 _), rh.below (n14 _)⟩
      have e0 := H14.out.2.1.cell 0
      have e1 := H14.out.2.1.cell 1
      have e2 := H14.out.2.1.cell 2
      have e3 := H14.out.2.1.cell 3
      have e4 := H14.out.2.1.cell 4
      have e5 := H14.out.2.1.cell 5
      have e6 := H14.out.2.1.cell 6
      have e7 := H14.out.2.1.cell 7
      have e8 := H14.out.2.1.cell 8
      have e9 := H14.out.2.1.cell 9
      clear b14 n14 rh r4 H13
      go_wp2_with fail
      refine (eq_lim k2 mn2 mx2 sp2 sl2 li2 gd2 av2 ws2 _ _ _ _ P _ H14.out.2.2.2.2.2 H14.out.2.2.1 HPL.out).mono ?_
      rintro e w15 ⟨rfl, b15⟩
      have H15 : Hid (StB W w15 #[.int .i64 k, .int .i64 mn, .int .i64 mx, .int .i64 sp, .int .i64 sl, .int .i64 li, .int .i64 gd, .int .i64 av, .int .i64 ws, .slice a L.length c] 32 a L ∧ boxB w15 w5.heap.size #[.int .i64 k2, .int .i64 mn2, .int .i64 mx2, .int .i64 sp2, .int .i64 sl2, .int .i64 li2, .int .i64 gd2, .int .i64 av2, .int .i64 ws2, .slice ag P.length cg] 39 ∧ WOk w15 ag (pmarks 1 P.length)) := ⟨H14.out.1.next b15, H14.out.2.2.2.1.below b15, H14.out.2.2.2.2.1.below b15⟩
      clear e0 e1 e2 e3 e4 e5 e6 e7 e8 e9 b15 H14
      have z0 := H15.out.2.1.cell 0
      have z1 := H15.out.2.1.cell 1
      have z2 := H15.out.2.1.cell 2
      have z3 := H15.out.2.1.cell 3
      have z4 := H15.out.2.1.cell 4
      have z5 := H15.out.2.1.cell 5
      have z6 := H15.out.2.1.cell 6
      have z7 := H15.out.2.1.cell 7
      have z8 := H15.out.2.1.cell 8
      have z9 := H15.out.2.1.cell 9
      go_wp2_with fail
      refine (held_lim k2 mn2 mx2 sp2 sl2 li2 gd2 av2 ws2 ag cg P.length _ H15.out.2.2 HPL.out).mono ?_
      rintro e w16 ⟨rfl, b16⟩
      have H16 : Hid (StB W w16 #[.int .i64 k, .int .i64 mn, .int .i64 mx, .int .i64 sp, .int .i64 sl, .int .i64 li, .int .i64 gd, .int .i64 av, .int .i64 ws, .slice a L.length c] 32 a L) := H15.out.1.next b16
      clear z0 z1 z2 z3 z4 z5 z6 z7 z8 z9 b16 H15
      go_wp2
      go_ret
      exact ⟨rfl, H16.out.2.1⟩
  · rw [if_neg hl] at HS
    go_enter Try.func9, Try.ntmps9
    go_wp2_with (go_at_call 13; refine HS.mono ?_; rintro e w1 ⟨rfl, hb⟩)
    go_ret
    exact ⟨rfl, b0.trans (hb.mono (by simp))⟩

theorem own : ownKnob Try.prog.godebug = none := by kernel_rfl
theorem laidOut : laidOutB Try.prog = true := by kernel_rfl

set_option maxRecDepth 100000 in
theorem lifted (os : Os) (started : os.Started) (H : Type) (enc : TypeId × Value → H) :
    ReturnsInHanded {} Try.checked os 9 .any (Rows.fnExactLearnSpec.pre6 enc Try.prog Try.f9 Rows.fnExactLearnRow.domain false) (Rows.fnExactLearnSpec.post enc Try.prog Try.f9 false true false false) := by
  refine returnsInHanded_of_change (C := Try.checked) own started (by kernel_rfl) Try.func9
    (ChangeSpec.witness6 (enc := enc) (C := Try.checked) false ⟨#[], #[.agg #[.int .i64 0, .int .i64 0, .int .i64 0, .int .i64 0, .int .i64 0, .int .i64 0, .int .i64 0, .int .i64 0, .int .i64 0, .slice none 0 0], .int .i64 0, .int .i64 0, .bool false], []⟩ 8 (by kernel_rfl) (by kernel_rfl) (by kernel_rfl) (by kernel_rfl)) ?_
  intro W base args ds gs before hval0 hW hcnd _
  have hval : ∀ (j : Nat) t v, Try.f9.params[j]? = some t → args[j]? = some v → Value.okWide Try.prog W .any base t v := hval0
  have hW' := hW
  obtain ⟨p, q, hA0, hV, rfl, hfz, hnd⟩ := hW
  have hA : DataW.TrodAll enc Try.prog W 0 (fun _ => true) true Try.f9.params.toList args.toList ds p := hA0
  rw [Try.params9] at hA hval
  obtain ⟨v0, vs0, d0, ds0, p0, q0, hargs, rfl, rfl, h0, r0⟩ := trodAll_cons hA
  obtain ⟨v1, vs1, d1, ds1, p1, q1, rfl, rfl, rfl, h1, r1⟩ := trodAll_cons r0
  obtain ⟨v2, vs2, d2, ds2, p2, q2, rfl, rfl, rfl, h2, r2⟩ := trodAll_cons r1
  obtain ⟨v3, vs3, d3, ds3, p3, q3, rfl, rfl, rfl, h3, r3⟩ := trodAll_cons r2
  obtain ⟨rfl, rfl, rfl⟩ := trodAll_nil r3
  obtain rfl : args = #[v0, v1, v2, v3] := by cases args; simp_all
  obtain ⟨rfl, rfl⟩ := trodVars_none hV
  have k0_ := h0
  have lt0 : ∀ x ∈ p0, x.block < W.heap.size := by obtain ⟨m, hm⟩ := k0_; exact DataW.trod_lt m _ _ _ hm
  obtain ⟨k0, mn0, mx0, sp0, sl0, li0, gd0, av0, ws0, aL0, cL0, L0, rfl, hL0, mL0⟩ := OpenLim.open_lim (hval 0 32 v0 rfl rfl) h0
  obtain ⟨a1, rfl, rfl, rfl, w1⟩ := open_int Try.underlying3 (hval 1 3 v1 rfl rfl) h1
  obtain ⟨a2, rfl, rfl, rfl, w2⟩ := open_int Try.underlying3 (hval 2 3 v2 rfl rfl) h2
  obtain ⟨a3, rfl, rfl, rfl⟩ := open_bool Try.underlying4 (hval 3 4 v3 rfl rfl) h3
  clear hA0 hval0
  refine (walk W k0 mn0 mx0 sp0 sl0 li0 gd0 av0 ws0 aL0 cL0 L0 (LawBox.Arg.of hL0) mL0 a1 w1 a2 w2 a3).mono fun e W' ⟨he, hb⟩ => ?_
  subst he
  exact ⟨_, rfl, _, _, _, [], _, [], hW', trodAll_cons_mk (shut_bool Try.underlying4 _) trodAll_mk0, (trodAll_cons_mk (Below.trod laidOut (by kernel_rfl) (of_decide_eq_true (by kernel_rfl)) k0_ hb lt0) (trodAll_cons_mk (shut_int Try.underlying3 w1) (trodAll_cons_mk (shut_int Try.underlying3 w2) (trodAll_cons_mk (shut_bool Try.underlying4 a3) trodAll_mk0)))), rfl, hb.frame _, fun h => by cases h⟩

theorem over : Rows.fnExactLearnRow.holds Try.pinned (OpenSpec.ofChange Rows.fnExactLearnSpec) :=
  OpenClaim.holds_of_wide 9 Try.f9 rfl rfl rfl rfl rfl rfl rfl ⟨rfl, rfl, rfl, rfl, rfl⟩ rfl rfl rfl rfl rfl (by kernel_rfl) Try.func9 (by kernel_rfl)
    (of_decide_eq_true (by kernel_rfl)) (by unfold Func.isWrapper; first | (rw [if_pos (by decide +kernel)]; kernel_rfl) | (rw [if_neg (by decide +kernel)]; exact ⟨rfl, rfl⟩))
    (fun os started H enc _ => lifted os started H enc)

theorem proved : Rows.FnExactLearnSaid :=
  over
end Go.Proofs.Ytocibihmkhfceaa.fnExactLearn
