/- At every configuration and start the program's LimNew answers as the model's, and its answer owns its memory (the law FnExactLimNew returns true); no condition. -/
import Derived.Test.YtocibihmkhfceaaRows
import Derived.WalkKit
import Derived.WalkSmall
import Derived.BigQuiet
import Derived.ProofKit
import Derived.OpenShut
import Derived.Deep.RegionWith
import Derived.Test.YtocibihmkhfceaaPairWalks
import Derived.Test.YtocibihmkhfceaaMarkKit
import Derived.Test.YtocibihmkhfceaaLimKit
import Derived.Test.YtocibihmkhfceaaLimNews
import Derived.Test.YtocibihmkhfceaaOpenKit
import Derived.Test.YtocibihmkhfceaaOpenLimCfg
import Derived.Test.YtocibihmkhfceaaLawBox
namespace Go.Proofs.Ytocibihmkhfceaa.fnExactLimNew
open Go.ChangeShapes Go.WideShapes Go.ChangeAt Go.RowKit PairWalks MarkKit LimKit LimNews LawBox
set_option linter.unusedVariables false
set_option linter.unusedSimpArgs false
set_option maxRecDepth 8000

set_option maxHeartbeats 2000000 in
theorem walk (W : World) (k mn mx sp sl : Int) (st : Int) (wst : (Lit.int .i64 st).wf = true) :
    Calls Try.prog 5 #[.agg #[.int .i64 k, .int .i64 mn, .int .i64 mx, .int .i64 sp, .int .i64 sl], .int .i64 st] W fun e w' => e = .returned (.bool true) ∧ Below W.heap.size W w' := by
  obtain ⟨k2, mn2, mx2, sp2, sl2, li2, gd2, av2, ws2, B, HSP, HIM⟩ := both_new k mn mx sp sl st
  have hBB : (B != B) = false := by simp
  have H0 : Hid (boxB (W.alloc (.cells #[.int .i64 k, .int .i64 mn, .int .i64 mx, .int .i64 sp, .int .i64 sl] 23)) W.heap.size #[.int .i64 k, .int .i64 mn, .int .i64 mx, .int .i64 sp, .int .i64 sl] 23 ∧ Below W.heap.size W (W.alloc (.cells #[.int .i64 k, .int .i64 mn, .int .i64 mx, .int .i64 sp, .int .i64 sl] 23))) := ⟨boxB.new _ _ _, (Below.refl _ _).alloc (Nat.le_refl _) _⟩
  clear wst
  go_enter Try.func5, Try.ntmps5
  go_wp2_with fail
  refine (to_cfg k mn mx sp sl _).mono ?_
  rintro e w1 ⟨rfl, b1⟩
  have H1 : Hid (boxB w1 W.heap.size #[.int .i64 k, .int .i64 mn, .int .i64 mx, .int .i64 sp, .int .i64 sl] 23 ∧ Below W.heap.size W w1) := ⟨H0.out.1.below b1, H0.out.2.trans (b1.mono H0.out.2.size)⟩
  clear b1 H0
  go_wp2_with fail
  refine (HSP _).mono ?_
  rintro e w2 ⟨rfl, b2⟩
  have H2' : Hid (boxB w2 W.heap.size #[.int .i64 k, .int .i64 mn, .int .i64 mx, .int .i64 sp, .int .i64 sl] 23 ∧ Below W.heap.size W w2) := ⟨H1.out.1.below b2, H1.out.2.trans (b2.mono H1.out.2.size)⟩
  have n2 : ∀ o : Obj, Below w2.heap.size w2 (w2.alloc o) := fun o => (Below.refl _ _).alloc (Nat.le_refl _) _
  have H2 : Hid (boxB (w2.alloc (.cells #[.int .i64 k2, .int .i64 mn2, .int .i64 mx2, .int .i64 sp2, .int .i64 sl2, .int .i64 li2, .int .i64 gd2, .int .i64 av2, .int .i64 ws2, .slice none 0 0] 39)) W.heap.size #[.int .i64 k, .int .i64 mn, .int .i64 mx, .int .i64 sp, .int .i64 sl] 23 ∧ Below W.heap.size W (w2.alloc (.cells #[.int .i64 k2, .int .i64 mn2, .int .i64 mx2, .int .i64 sp2, .int .i64 sl2, .int .i64 li2, .int .i64 gd2, .int .i64 av2, .int .i64 ws2, .slice none 0 0] 39)) ∧ boxB (w2.alloc (.cells #[.int .i64 k2, .int .i64 mn2, .int .i64 mx2, .int .i64 sp2, .int .i64 sl2, .int .i64 li2, .int .i64 gd2, .int .i64 av2, .int .i64 ws2, .slice none 0 0] 39)) w2.heap.size #[.int .i64 k2, .int .i64 mn2, .int .i64 mx2, .int .i64 sp2, .int .i64 sl2, .int .i64 li2, .int .i64 gd2, .int .i64 av2, .int .i64 ws2, .slice none 0 0] 39) := ⟨H2'.out.1.below (n2 _), H2'.out.2.alloc H2'.out.2.size _, boxB.new _ _ _⟩
  have a0 := H2.out.1.cell 0
  have a1 := H2.out.1.cell 1
  have a2 := H2.out.1.cell 2
  have a3 := H2.out.1.cell 3
  have a4 := H2.out.1.cell 4
  clear b2 H1 H2' n2
  go_wp2_with fail
  refine (to_cfg k mn mx sp sl _).mono ?_
  rintro e w3 ⟨rfl, b3⟩
  have H3 : Hid (boxB w3 W.heap.size #[.int .i64 k, .int .i64 mn, .int .i64 mx, .int .i64 sp, .int .i64 sl] 23 ∧ Below W.heap.size W w3 ∧ boxB w3 w2.heap.size #[.int .i64 k2, .int .i64 mn2, .int .i64 mx2, .int .i64 sp2, .int .i64 sl2, .int .i64 li2, .int .i64 gd2, .int .i64 av2, .int .i64 ws2, .slice none 0 0] 39) := ⟨H2.out.1.below b3, H2.out.2.1.trans (b3.mono H2.out.2.1.size), H2.out.2.2.below b3⟩
  clear b3 H2 a0 a1 a2 a3 a4
  go_wp2_with fail
  refine (HIM _).mono ?_
  rintro e w4 ⟨rfl, b4⟩
  have H4' : Hid (boxB w4 W.heap.size #[.int .i64 k, .int .i64 mn, .int .i64 mx, .int .i64 sp, .int .i64 sl] 23 ∧ Below W.heap.size W w4 ∧ boxB w4 w2.heap.size #[.int .i64 k2, .int .i64 mn2, .int .i64 mx2, .int .i64 sp2, .int .i64 sl2, .int .i64 li2, .int .i64 gd2, .int .i64 av2, .int .i64 ws2, .slice none 0 0] 39) := ⟨H3.out.1.below b4, H3.out.2.1.trans (b4.mono H3.out.2.1.size), H3.out.2.2.below b4⟩
  have n4 : ∀ o : Obj, Below w4.heap.size w4 (w4.alloc o) := fun o => (Below.refl _ _).alloc (Nat.le_refl _) _
  have H4 : Hid (boxB (w4.alloc (.cells #[.int .i64 k2, .int .i64 mn2, .int .i64 mx2, .int .i64 sp2, .int .i64 sl2, .int .i64 li2, .int .i64 gd2, .int .i64 av2, .int .i64 ws2, .slice none 0 0] 39)) W.heap.size #[.int .i64 k, .int .i64 mn, .int .i64 mx, .int .i64 sp, .int .i64 sl] 23 ∧ Below W.heap.size W (w4.alloc (.cells #[.int .i64 k2, .int .i64 mn2, .int .i64 mx2, .int .i64 sp2, .int .i64 sl2, .int .i64 li2, .int .i64 gd2, .int .i64 av2, .int .i64 ws2, .slice none 0 0] 39)) ∧ boxB (w4.alloc (.cells #[.int .i64 k2, .int .i64 mn2, .int .i64 mx2, .int .i64 sp2, .int .i64 sl2, .int .i64 li2, .int .i64 gd2, .int .i64 av2, .int .i64 ws2, .slice none 0 0] 39)) w2.heap.size #[.int .i64 k2, .int .i64 mn2, .int .i64 mx2, .int .i64 sp2, .int .i64 sl2, .int .i64 li2, .int .i64 gd2, .int .i64 av2, .int .i64 ws2, .slice none 0 0] 39 ∧ boxB (w4.alloc (.cells #[.int .i64 k2, .int .i64 mn2, .int .i64 mx2, .int .i64 sp2, .int .i64 sl2, .int .i64 li2, .int .i64 gd2, .int .i64 av2, .int .i64 ws2, .slice none 0 0] 39)) w4.heap.size #[.int .i64 k2, .int .i64 mn2, .int .i64 mx2, .int .i64 sp2, .int .i64 sl2, .int .i64 li2, .int .i64 gd2, .int .i64 av2, .int .i64 ws2, .slice none 0 0] 39) := ⟨H4'.out.1.below (n4 _), H4'.out.2.1.alloc H4'.out.2.1.size _, H4'.out.2.2.below (n4 _), boxB.new _ _ _⟩
  have c0 := H4.out.2.2.1.cell 0
  have c1 := H4.out.2.2.1.cell 1
  have c2 := H4.out.2.2.1.cell 2
  have c3 := H4.out.2.2.1.cell 3
  have c4 := H4.out.2.2.1.cell 4
  have c5 := H4.out.2.2.1.cell 5
  have c6 := H4.out.2.2.1.cell 6
  have c7 := H4.out.2.2.1.cell 7
  have c8 := H4.out.2.2.1.cell 8
  have c9 := H4.out.2.2.1.cell 9
  clear b4 H3 H4' n4
  go_wp2_with fail
  refine (eq_lim k2 mn2 mx2 sp2 sl2 li2 gd2 av2 ws2 none none 0 0 [] _ (Or.inl rfl) (Or.inl rfl) (by simp)).mono ?_
  rintro e w5 ⟨rfl, b5⟩
  have H5 : Hid (boxB w5 W.heap.size #[.int .i64 k, .int .i64 mn, .int .i64 mx, .int .i64 sp, .int .i64 sl] 23 ∧ Below W.heap.size W w5 ∧ boxB w5 w2.heap.size #[.int .i64 k2, .int .i64 mn2, .int .i64 mx2, .int .i64 sp2, .int .i64 sl2, .int .i64 li2, .int .i64 gd2, .int .i64 av2, .int .i64 ws2, .slice none 0 0] 39 ∧ boxB w5 w4.heap.size #[.int .i64 k2, .int .i64 mn2, .int .i64 mx2, .int .i64 sp2, .int .i64 sl2, .int .i64 li2, .int .i64 gd2, .int .i64 av2, .int .i64 ws2, .slice none 0 0] 39) := ⟨H4.out.1.below b5, H4.out.2.1.trans (b5.mono H4.out.2.1.size), H4.out.2.2.1.below b5, H4.out.2.2.2.below b5⟩
  clear b5 H4 c0 c1 c2 c3 c4 c5 c6 c7 c8 c9
  have d0 := H5.out.2.2.2.cell 0
  have d1 := H5.out.2.2.2.cell 1
  have d2 := H5.out.2.2.2.cell 2
  have d3 := H5.out.2.2.2.cell 3
  have d4 := H5.out.2.2.2.cell 4
  have d5 := H5.out.2.2.2.cell 5
  have d6 := H5.out.2.2.2.cell 6
  have d7 := H5.out.2.2.2.cell 7
  have d8 := H5.out.2.2.2.cell 8
  have d9 := H5.out.2.2.2.cell 9
  go_wp2_with fail
  refine (mark_lim k2 mn2 mx2 sp2 sl2 li2 gd2 av2 ws2 none 0 [] _ (Or.inl rfl) (by simp)).mono ?_
  rintro e w6 ⟨rfl, _, g6⟩
  have H6 : Hid (boxB w6 W.heap.size #[.int .i64 k, .int .i64 mn, .int .i64 mx, .int .i64 sp, .int .i64 sl] 23 ∧ Below W.heap.size W w6 ∧ boxB w6 w2.heap.size #[.int .i64 k2, .int .i64 mn2, .int .i64 mx2, .int .i64 sp2, .int .i64 sl2, .int .i64 li2, .int .i64 gd2, .int .i64 av2, .int .i64 ws2, .slice none 0 0] 39 ∧ boxB w6 w4.heap.size #[.int .i64 k2, .int .i64 mn2, .int .i64 mx2, .int .i64 sp2, .int .i64 sl2, .int .i64 li2, .int .i64 gd2, .int .i64 av2, .int .i64 ws2, .slice none 0 0] 39) := ⟨H5.out.1.grown g6 (by simp [blkL]), H5.out.2.1.grown g6 H5.out.2.1.size (fun k hk => by simp [blkL] at hk), H5.out.2.2.1.grown g6 (by simp [blkL]), H5.out.2.2.2.grown g6 (by simp [blkL])⟩
  clear g6 H5 d0 d1 d2 d3 d4 d5 d6 d7 d8 d9
  have d0 := H6.out.2.2.2.cell 0
  have d1 := H6.out.2.2.2.cell 1
  have d2 := H6.out.2.2.2.cell 2
  have d3 := H6.out.2.2.2.cell 3
  have d4 := H6.out.2.2.2.cell 4
  have d5 := H6.out.2.2.2.cell 5
  have d6 := H6.out.2.2.2.cell 6
  have d7 := H6.out.2.2.2.cell 7
  have d8 := H6.out.2.2.2.cell 8
  have d9 := H6.out.2.2.2.cell 9
  go_wp2_with fail
  refine (held_lim k2 mn2 mx2 sp2 sl2 li2 gd2 av2 ws2 none 0 0 _ (Or.inl rfl) (by simp)).mono ?_
  rintro e w7 ⟨rfl, b7⟩
  have H7 : Hid (boxB w7 W.heap.size #[.int .i64 k, .int .i64 mn, .int .i64 mx, .int .i64 sp, .int .i64 sl] 23 ∧ Below W.heap.size W w7 ∧ boxB w7 w2.heap.size #[.int .i64 k2, .int .i64 mn2, .int .i64 mx2, .int .i64 sp2, .int .i64 sl2, .int .i64 li2, .int .i64 gd2, .int .i64 av2, .int .i64 ws2, .slice none 0 0] 39 ∧ boxB w7 w4.heap.size #[.int .i64 k2, .int .i64 mn2, .int .i64 mx2, .int .i64 sp2, .int .i64 sl2, .int .i64 li2, .int .i64 gd2, .int .i64 av2, .int .i64 ws2, .slice none 0 0] 39) := ⟨H6.out.1.below b7, H6.out.2.1.trans (b7.mono H6.out.2.1.size), H6.out.2.2.1.below b7, H6.out.2.2.2.below b7⟩
  clear b7 H6 d0 d1 d2 d3 d4 d5 d6 d7 d8 d9
  have a0 := H7.out.1.cell 0
  have a1 := H7.out.1.cell 1
  have a2 := H7.out.1.cell 2
  have a3 := H7.out.1.cell 3
  have a4 := H7.out.1.cell 4
  go_wp2_with fail
  refine (to_cfg k mn mx sp sl _).mono ?_
  rintro e w8 ⟨rfl, b8⟩
  have H8 : Hid (Below W.heap.size W w8 ∧ boxB w8 w2.heap.size #[.int .i64 k2, .int .i64 mn2, .int .i64 mx2, .int .i64 sp2, .int .i64 sl2, .int .i64 li2, .int .i64 gd2, .int .i64 av2, .int .i64 ws2, .slice none 0 0] 39 ∧ boxB w8 w4.heap.size #[.int .i64 k2, .int .i64 mn2, .int .i64 mx2, .int .i64 sp2, .int .i64 sl2, .int .i64 li2, .int .i64 gd2, .int .i64 av2, .int .i64 ws2, .slice none 0 0] 39) := ⟨H7.out.2.1.trans (b8.mono H7.out.2.1.size), H7.out.2.2.1.below b8, H7.out.2.2.2.below b8⟩
  clear b8 H7 a0 a1 a2 a3 a4
  go_wp2_with fail
  refine (HIM _).mono ?_
  rintro e w9 ⟨rfl, b9⟩
  have H9' : Hid (Below W.heap.size W w9 ∧ boxB w9 w2.heap.size #[.int .i64 k2, .int .i64 mn2, .int .i64 mx2, .int .i64 sp2, .int .i64 sl2, .int .i64 li2, .int .i64 gd2, .int .i64 av2, .int .i64 ws2, .slice none 0 0] 39 ∧ boxB w9 w4.heap.size #[.int .i64 k2, .int .i64 mn2, .int .i64 mx2, .int .i64 sp2, .int .i64 sl2, .int .i64 li2, .int .i64 gd2, .int .i64 av2, .int .i64 ws2, .slice none 0 0] 39) := ⟨H8.out.1.trans (b9.mono H8.out.1.size), H8.out.2.1.below b9, H8.out.2.2.below b9⟩
  have n9 : ∀ o : Obj, Below w9.heap.size w9 (w9.alloc o) := fun o => (Below.refl _ _).alloc (Nat.le_refl _) _
  have H9 : Hid (Below W.heap.size W (w9.alloc (.cells #[.int .i64 k2, .int .i64 mn2, .int .i64 mx2, .int .i64 sp2, .int .i64 sl2, .int .i64 li2, .int .i64 gd2, .int .i64 av2, .int .i64 ws2, .slice none 0 0] 39)) ∧ boxB (w9.alloc (.cells #[.int .i64 k2, .int .i64 mn2, .int .i64 mx2, .int .i64 sp2, .int .i64 sl2, .int .i64 li2, .int .i64 gd2, .int .i64 av2, .int .i64 ws2, .slice none 0 0] 39)) w2.heap.size #[.int .i64 k2, .int .i64 mn2, .int .i64 mx2, .int .i64 sp2, .int .i64 sl2, .int .i64 li2, .int .i64 gd2, .int .i64 av2, .int .i64 ws2, .slice none 0 0] 39 ∧ boxB (w9.alloc (.cells #[.int .i64 k2, .int .i64 mn2, .int .i64 mx2, .int .i64 sp2, .int .i64 sl2, .int .i64 li2, .int .i64 gd2, .int .i64 av2, .int .i64 ws2, .slice none 0 0] 39)) w4.heap.size #[.int .i64 k2, .int .i64 mn2, .int .i64 mx2, .int .i64 sp2, .int .i64 sl2, .int .i64 li2, .int .i64 gd2, .int .i64 av2, .int .i64 ws2, .slice none 0 0] 39) := ⟨H9'.out.1.alloc H9'.out.1.size _, H9'.out.2.1.below (n9 _), H9'.out.2.2.below (n9 _)⟩
  have c0 := H9.out.2.1.cell 0
  have c1 := H9.out.2.1.cell 1
  have c2 := H9.out.2.1.cell 2
  have c3 := H9.out.2.1.cell 3
  have c4 := H9.out.2.1.cell 4
  have c5 := H9.out.2.1.cell 5
  have c6 := H9.out.2.1.cell 6
  have c7 := H9.out.2.1.cell 7
  have c8 := H9.out.2.1.cell 8
  have c9 := H9.out.2.1.cell 9
  clear b9 H8 H9' n9
  go_wp2_with fail
  refine (eq_lim k2 mn2 mx2 sp2 sl2 li2 gd2 av2 ws2 none none 0 0 [] _ (Or.inl rfl) (Or.inl rfl) (by simp)).mono ?_
  rintro e w10 ⟨rfl, b10⟩
  have H10 : Hid (Below W.heap.size W w10 ∧ boxB w10 w4.heap.size #[.int .i64 k2, .int .i64 mn2, .int .i64 mx2, .int .i64 sp2, .int .i64 sl2, .int .i64 li2, .int .i64 gd2, .int .i64 av2, .int .i64 ws2, .slice none 0 0] 39) := ⟨H9.out.1.trans (b10.mono H9.out.1.size), H9.out.2.2.below b10⟩
  clear b10 H9 c0 c1 c2 c3 c4 c5 c6 c7 c8 c9
  have d0 := H10.out.2.cell 0
  have d1 := H10.out.2.cell 1
  have d2 := H10.out.2.cell 2
  have d3 := H10.out.2.cell 3
  have d4 := H10.out.2.cell 4
  have d5 := H10.out.2.cell 5
  have d6 := H10.out.2.cell 6
  have d7 := H10.out.2.cell 7
  have d8 := H10.out.2.cell 8
  have d9 := H10.out.2.cell 9
  go_wp2_with fail
  refine (held_lim k2 mn2 mx2 sp2 sl2 li2 gd2 av2 ws2 none 0 0 _ (Or.inl rfl) (by simp)).mono ?_
  rintro e w11 ⟨rfl, b11⟩
  have H11 : Hid (Below W.heap.size W w11) := H10.out.1.trans (b11.mono H10.out.1.size)
  clear b11 H10 d0 d1 d2 d3 d4 d5 d6 d7 d8 d9
  go_wp2
  go_ret
  exact ⟨rfl, H11.out⟩

theorem own : ownKnob Try.prog.godebug = none := by kernel_rfl
theorem laidOut : laidOutB Try.prog = true := by kernel_rfl

set_option maxRecDepth 100000 in
theorem lifted (os : Os) (started : os.Started) (H : Type) (enc : TypeId × Value → H) :
    ReturnsInHanded {} Try.checked os 5 .any (Rows.fnExactLimNewSpec.pre6 enc Try.prog Try.f5 Rows.fnExactLimNewRow.domain false) (Rows.fnExactLimNewSpec.post enc Try.prog Try.f5 false true false false) := by
  refine returnsInHanded_of_change (C := Try.checked) own started (by kernel_rfl) Try.func5
    (ChangeSpec.witness6 (enc := enc) (C := Try.checked) false ⟨#[], #[.agg #[.int .i64 0, .int .i64 0, .int .i64 0, .int .i64 0, .int .i64 0], .int .i64 0], []⟩ 8 (by kernel_rfl) (by kernel_rfl) (by kernel_rfl) (by kernel_rfl)) ?_
  intro W base args ds gs before hval0 hW hcnd _
  have hval : ∀ (j : Nat) t v, Try.f5.params[j]? = some t → args[j]? = some v → Value.okWide Try.prog W .any base t v := hval0
  have hW' := hW
  obtain ⟨p, q, hA0, hV, rfl, hfz, hnd⟩ := hW
  have hA : DataW.TrodAll enc Try.prog W 0 (fun _ => true) true Try.f5.params.toList args.toList ds p := hA0
  rw [Try.params5] at hA hval
  obtain ⟨v0, vs0, d0, ds0, p0, q0, hargs, rfl, rfl, h0, r0⟩ := trodAll_cons hA
  obtain ⟨v1, vs1, d1, ds1, p1, q1, rfl, rfl, rfl, h1, r1⟩ := trodAll_cons r0
  obtain ⟨rfl, rfl, rfl⟩ := trodAll_nil r1
  obtain rfl : args = #[v0, v1] := by cases args; simp_all
  obtain ⟨rfl, rfl⟩ := trodVars_none hV
  have k0_ := h0
  have lt0 : ∀ x ∈ p0, x.block < W.heap.size := by obtain ⟨m, hm⟩ := k0_; exact DataW.trod_lt m _ _ _ hm
  obtain ⟨k0, mn0, mx0, sp0, sl0, rfl⟩ := OpenLimCfg.open_limCfg (hval 0 23 v0 rfl rfl) h0
  obtain ⟨a1, rfl, rfl, rfl, w1⟩ := open_int Try.underlying3 (hval 1 3 v1 rfl rfl) h1
  clear hA0 hval0
  refine (walk W k0 mn0 mx0 sp0 sl0 a1 w1).mono fun e W' ⟨he, hb⟩ => ?_
  subst he
  exact ⟨_, rfl, _, _, _, [], _, [], hW', trodAll_cons_mk (shut_bool Try.underlying4 _) trodAll_mk0, (trodAll_cons_mk (Below.trod laidOut (by kernel_rfl) (of_decide_eq_true (by kernel_rfl)) k0_ hb lt0) (trodAll_cons_mk (shut_int Try.underlying3 w1) trodAll_mk0)), rfl, hb.frame _, fun h => by cases h⟩

theorem over : Rows.fnExactLimNewRow.holds Try.pinned (OpenSpec.ofChange Rows.fnExactLimNewSpec) :=
  OpenClaim.holds_of_wide 5 Try.f5 rfl rfl rfl rfl rfl rfl rfl ⟨rfl, rfl, rfl, rfl, rfl⟩ rfl rfl rfl rfl rfl (by kernel_rfl) Try.func5 (by kernel_rfl)
    (of_decide_eq_true (by kernel_rfl)) (by unfold Func.isWrapper; first | (rw [if_pos (by decide +kernel)]; kernel_rfl) | (rw [if_neg (by decide +kernel)]; exact ⟨rfl, rfl⟩))
    (fun os started H enc _ => lifted os started H enc)

theorem proved : Rows.FnExactLimNewSaid :=
  over
end Go.Proofs.Ytocibihmkhfceaa.fnExactLimNew
