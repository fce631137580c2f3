/- At every queue that may be slow, time and list of waits the program's SeeAll answers as the model's, and it writes into no argument (the law FnExactSeeAll returns true); no condition. -/
import Derived.Test.YtflngiakbhjnaaaRows
import Derived.WalkKit
import Derived.WalkSmall
import Derived.BigQuiet
import Derived.ProofKit
import Derived.OpenShut
import Derived.Deep.RegionWith
import Derived.Deep.DeepCutAuto
import Derived.Test.YtflngiakbhjnaaaListKit
import Derived.Test.YtflngiakbhjnaaaHoldKit
import Derived.Test.YtflngiakbhjnaaaRegFlow
import Derived.Test.YtflngiakbhjnaaaFlowHold
import Derived.Test.YtflngiakbhjnaaaIntKit
import Derived.Test.YtflngiakbhjnaaaIntRows
import Derived.Test.YtflngiakbhjnaaaFlatCodel
import Derived.Test.YtflngiakbhjnaaaLawIntS
import Derived.Test.YtflngiakbhjnaaaOpenKit
import Derived.Test.YtflngiakbhjnaaaOpenCodel
import Derived.Test.YtflngiakbhjnaaaOpenInts
import Derived.Test.YtflngiakbhjnaaaCodBothAll
namespace Go.Proofs.Ytflngiakbhjnaaa.fnExactSeeAll
open Go.ChangeShapes Go.WideShapes Go.ChangeAt Go.RowKit ListKit HoldKit CodBothAll
set_option linter.unusedVariables false
set_option linter.unusedSimpArgs false
set_option maxRecDepth 8000

set_option maxHeartbeats 8000000 in
theorem walk (W : World) (pa0 : Int) (pa1 : Int) (pa2 : Int) (pa3 : Bool) (pa4 : Int) (pa5 : Int) (i1 : Int) (wi1 : (Lit.int .i64 i1).wf = true) (pcA0 : Option Addr) (pcC0 : Nat) (pcL0 : List Int) (h_pc0 : IntRows.Arg W pcA0 pcL0) (m_pc0 : pcL0.length ≤ maxLen) (f_pc0 : ∀ (k : Nat) (h : k < pcL0.length), (Lit.int .i64 pcL0[k]).wf = true) :
    Calls Try.prog 7 #[.agg #[.int .i64 pa0, .int .i64 pa1, .int .i64 pa2, .bool pa3, .int .i64 pa4, .int .i64 pa5], .int .i64 i1, .slice pcA0 pcL0.length pcC0] W fun e w' => e = .returned (.bool true) ∧ Below W.heap.size W w' := by
  have hm_pc0 : (pcL0.length : Int) ≤ 9223372036854775807 := by unfold maxLen at m_pc0; omega
  by_cases hl0 : (pcL0.length : Int) ≤ 1048576
  · skip
    have hk0 : ¬ 1048576 < (pcL0.length : Int) := by omega
    obtain ⟨qa0, qa1, qa2, qa3, qa4, qa5, qb, HSP, HIM⟩ := both_seeall pa0 pa1 pa2 pa3 pa4 pa5 i1 pcL0 (by omega)
    have HA_pc0 : Hid (IntRows.Arg W pcA0 pcL0) := h_pc0
    have HL_pcL0 : Hid (pcL0.length ≤ 1048577) := by show _ ≤ _; omega
    have t_qa0 : (qa0 != qa0) = false := by simp
    have t_qa1 : (qa1 != qa1) = false := by simp
    have t_qa2 : (qa2 != qa2) = false := by simp
    have t_qa3 : (qa3 != qa3) = false := by simp
    have t_qa4 : (qa4 != qa4) = false := by simp
    have t_qa5 : (qa5 != qa5) = false := by simp
    have t_qb : (qb != qb) = false := by simp
    have kx1 : ¬ (1 + 1 * (pcL0.length : Int)) < 0 := by omega
    have ky1 : ((1 + 1 * (pcL0.length : Int)) != (1 + 1 * (pcL0.length : Int))) = false := by simp
    have H0 : Hid (Bel W (W.alloc (.cells #[.int .i64 pa0, .int .i64 pa1, .int .i64 pa2, .bool pa3, .int .i64 pa4, .int .i64 pa5] 23)) ∧ boxB (W.alloc (.cells #[.int .i64 pa0, .int .i64 pa1, .int .i64 pa2, .bool pa3, .int .i64 pa4, .int .i64 pa5] 23)) (W.heap.size) #[.int .i64 pa0, .int .i64 pa1, .int .i64 pa2, .bool pa3, .int .i64 pa4, .int .i64 pa5] 23) := ⟨n1 W _, boxB.new _ _ _⟩
    clear h_pc0 m_pc0 f_pc0 wi1
    go_enter Try.func7, Try.ntmps7
    have c0 := (H0.out.2).cell 0
    have c1 := (H0.out.2).cell 1
    have c2 := (H0.out.2).cell 2
    have c3 := (H0.out.2).cell 3
    have c4 := (H0.out.2).cell 4
    have c5 := (H0.out.2).cell 5
    go_wp2_with fail
    refine (FlatCodel.to_one pa0 pa1 pa2 pa3 pa4 pa5 _).mono ?_
    rintro e w1 ⟨rfl, b1⟩
    have H1 : Hid (Bel W w1 ∧ boxB w1 (W.heap.size) #[.int .i64 pa0, .int .i64 pa1, .int .i64 pa2, .bool pa3, .int .i64 pa4, .int .i64 pa5] 23) := ⟨(H0.out.1).below b1, (H0.out.2).below b1⟩
    clear c0 c1 c2 c3 c4 c5 b1 H0
    go_wp2_with fail
    refine (LawIntS.to_ints  pcA0 pcC0 pcL0 _ (HA_pc0.out.below (H1.out.1)) HL_pcL0.out).mono ?_
    rintro e w2 ⟨gw2_0, rfl, hhw2, b2⟩
    have LW_tpc : Hid (W.heap.size ≤ w1.heap.size) := (H1.out.1).size
    have O0_ : Hid (Off (W.heap.size) [⟨(some ⟨gw2_0, 0, none⟩), 3, 1, (pcL0).map IntKit.cells⟩]) := Off.under (hhw2) (by have h9 := (H1.out.2).lt; omega)
    have H2 : Hid (Bel W w2 ∧ boxB w2 (W.heap.size) #[.int .i64 pa0, .int .i64 pa1, .int .i64 pa2, .bool pa3, .int .i64 pa4, .int .i64 pa5] 23 ∧ Holds w2 (w1.heap.size) [⟨(some ⟨gw2_0, 0, none⟩), 3, 1, (pcL0).map IntKit.cells⟩]) := ⟨(H1.out.1).below b2, (H1.out.2).below b2, hhw2⟩
    clear b2 H1 hhw2
    go_wp2_with fail
    refine (HSP (some ⟨gw2_0, 0, none⟩) pcL0.length _ (H2.out.2.2.get (by simp)) (Nat.le_refl _)).mono ?_
    rintro e w3 ⟨rfl, b3⟩
    have H3 : Hid (Bel W (w3.alloc (.cells #[.int .i64 qa0, .int .i64 qa1, .int .i64 qa2, .bool qa3, .int .i64 qa4, .int .i64 qa5] 25)) ∧ boxB (w3.alloc (.cells #[.int .i64 qa0, .int .i64 qa1, .int .i64 qa2, .bool qa3, .int .i64 qa4, .int .i64 qa5] 25)) (W.heap.size) #[.int .i64 pa0, .int .i64 pa1, .int .i64 pa2, .bool pa3, .int .i64 pa4, .int .i64 pa5] 23 ∧ boxB (w3.alloc (.cells #[.int .i64 qa0, .int .i64 qa1, .int .i64 qa2, .bool qa3, .int .i64 qa4, .int .i64 qa5] 25)) (w3.heap.size) #[.int .i64 qa0, .int .i64 qa1, .int .i64 qa2, .bool qa3, .int .i64 qa4, .int .i64 qa5] 25) := ⟨(H2.out.1).below (b3.trans ((n1 w3 _).mono b3.size)), (H2.out.2.1).below (b3.trans ((n1 w3 _).mono b3.size)), boxB.new _ _ _⟩
    clear b3 H2
    go_wp2_with fail
    refine (LawIntS.to_ints  pcA0 pcC0 pcL0 _ (HA_pc0.out.below (H3.out.1)) HL_pcL0.out).mono ?_
    rintro e w4 ⟨gw4_0, rfl, hhw4, b4⟩
    have LW_x2 : Hid (W.heap.size ≤ (w3.alloc (.cells #[.int .i64 qa0, .int .i64 qa1, .int .i64 qa2, .bool qa3, .int .i64 qa4, .int .i64 qa5] 25)).heap.size) := (H3.out.1).size
    have O1_ : Hid (Off (W.heap.size) [⟨(some ⟨gw4_0, 0, none⟩), 3, 1, (pcL0).map IntKit.cells⟩]) := Off.under (hhw4) (by have h9 := (H3.out.2.1).lt; omega)
    have O2_ : Hid (Off (w3.heap.size) [⟨(some ⟨gw4_0, 0, none⟩), 3, 1, (pcL0).map IntKit.cells⟩]) := Off.under (hhw4) (by have h9 := (H3.out.2.2).lt; omega)
    have H4 : Hid (Bel W w4 ∧ boxB w4 (W.heap.size) #[.int .i64 pa0, .int .i64 pa1, .int .i64 pa2, .bool pa3, .int .i64 pa4, .int .i64 pa5] 23 ∧ boxB w4 (w3.heap.size) #[.int .i64 qa0, .int .i64 qa1, .int .i64 qa2, .bool qa3, .int .i64 qa4, .int .i64 qa5] 25 ∧ Holds w4 ((w3.alloc (.cells #[.int .i64 qa0, .int .i64 qa1, .int .i64 qa2, .bool qa3, .int .i64 qa4, .int .i64 qa5] 25)).heap.size) [⟨(some ⟨gw4_0, 0, none⟩), 3, 1, (pcL0).map IntKit.cells⟩]) := ⟨(H3.out.1).below b4, (H3.out.2.1).below b4, (H3.out.2.2).below b4, hhw4⟩
    clear b4 H3 hhw4
    have c0 := (H4.out.2.1).cell 0
    have c1 := (H4.out.2.1).cell 1
    have c2 := (H4.out.2.1).cell 2
    have c3 := (H4.out.2.1).cell 3
    have c4 := (H4.out.2.1).cell 4
    have c5 := (H4.out.2.1).cell 5
    go_wp2_with fail
    refine (FlatCodel.to_one pa0 pa1 pa2 pa3 pa4 pa5 _).mono ?_
    rintro e w5 ⟨rfl, b5⟩
    have H5 : Hid (Bel W w5 ∧ boxB w5 (W.heap.size) #[.int .i64 pa0, .int .i64 pa1, .int .i64 pa2, .bool pa3, .int .i64 pa4, .int .i64 pa5] 23 ∧ boxB w5 (w3.heap.size) #[.int .i64 qa0, .int .i64 qa1, .int .i64 qa2, .bool qa3, .int .i64 qa4, .int .i64 qa5] 25 ∧ Holds w5 ((w3.alloc (.cells #[.int .i64 qa0, .int .i64 qa1, .int .i64 qa2, .bool qa3, .int .i64 qa4, .int .i64 qa5] 25)).heap.size) [⟨(some ⟨gw4_0, 0, none⟩), 3, 1, (pcL0).map IntKit.cells⟩]) := ⟨(H4.out.1).below b5, (H4.out.2.1).below b5, (H4.out.2.2.1).below b5, (H4.out.2.2.2).below b5⟩
    clear c0 c1 c2 c3 c4 c5 b5 H4
    go_wp2_with fail
    refine (HIM (some ⟨gw4_0, 0, none⟩) pcL0.length _ (H5.out.2.2.2.get (by simp)) (Nat.le_refl _)).mono ?_
    rintro e w6 ⟨rfl, b6⟩
    have O3_ : Hid (Off (w6.heap.size) [⟨(some ⟨gw4_0, 0, none⟩), 3, 1, (pcL0).map IntKit.cells⟩]) := Off.above (H5.out.2.2.2) (by have h9 := b6.size; omega)
    have H6 : Hid (Bel W (w6.alloc (.cells #[.int .i64 qa0, .int .i64 qa1, .int .i64 qa2, .bool qa3, .int .i64 qa4, .int .i64 qa5] 25)) ∧ boxB (w6.alloc (.cells #[.int .i64 qa0, .int .i64 qa1, .int .i64 qa2, .bool qa3, .int .i64 qa4, .int .i64 qa5] 25)) (W.heap.size) #[.int .i64 pa0, .int .i64 pa1, .int .i64 pa2, .bool pa3, .int .i64 pa4, .int .i64 pa5] 23 ∧ boxB (w6.alloc (.cells #[.int .i64 qa0, .int .i64 qa1, .int .i64 qa2, .bool qa3, .int .i64 qa4, .int .i64 qa5] 25)) (w3.heap.size) #[.int .i64 qa0, .int .i64 qa1, .int .i64 qa2, .bool qa3, .int .i64 qa4, .int .i64 qa5] 25 ∧ Holds (w6.alloc (.cells #[.int .i64 qa0, .int .i64 qa1, .int .i64 qa2, .bool qa3, .int .i64 qa4, .int .i64 qa5] 25)) ((w3.alloc (.cells #[.int .i64 qa0, .int .i64 qa1, .int .i64 qa2, .bool qa3, .int .i64 qa4, .int .i64 qa5] 25)).heap.size) [⟨(some ⟨gw4_0, 0, none⟩), 3, 1, (pcL0).map IntKit.cells⟩] ∧ boxB (w6.alloc (.cells #[.int .i64 qa0, .int .i64 qa1, .int .i64 qa2, .bool qa3, .int .i64 qa4, .int .i64 qa5] 25)) (w6.heap.size) #[.int .i64 qa0, .int .i64 qa1, .int .i64 qa2, .bool qa3, .int .i64 qa4, .int .i64 qa5] 25) := ⟨(H5.out.1).below (b6.trans ((n1 w6 _).mono b6.size)), (H5.out.2.1).below (b6.trans ((n1 w6 _).mono b6.size)), (H5.out.2.2.1).below (b6.trans ((n1 w6 _).mono b6.size)), (H5.out.2.2.2).below (b6.trans ((n1 w6 _).mono b6.size)), boxB.new _ _ _⟩
    clear b6 H5
    have d0 := (H6.out.2.2.2.2).cell 0
    have d1 := (H6.out.2.2.2.2).cell 1
    have d2 := (H6.out.2.2.2.2).cell 2
    have d3 := (H6.out.2.2.2.2).cell 3
    have d4 := (H6.out.2.2.2.2).cell 4
    have d5 := (H6.out.2.2.2.2).cell 5
    have e0 := (H6.out.2.2.1).cell 0
    have e1 := (H6.out.2.2.1).cell 1
    have e2 := (H6.out.2.2.1).cell 2
    have e3 := (H6.out.2.2.1).cell 3
    have e4 := (H6.out.2.2.1).cell 4
    have e5 := (H6.out.2.2.1).cell 5
    go_wp2_with fail
    refine (FlatCodel.eq_one qa0 qa1 qa2 qa3 qa4 qa5 _).mono ?_
    rintro e w7 ⟨rfl, b7⟩
    have H7 : Hid (Bel W w7 ∧ boxB w7 (W.heap.size) #[.int .i64 pa0, .int .i64 pa1, .int .i64 pa2, .bool pa3, .int .i64 pa4, .int .i64 pa5] 23 ∧ boxB w7 (w3.heap.size) #[.int .i64 qa0, .int .i64 qa1, .int .i64 qa2, .bool qa3, .int .i64 qa4, .int .i64 qa5] 25 ∧ Holds w7 ((w3.alloc (.cells #[.int .i64 qa0, .int .i64 qa1, .int .i64 qa2, .bool qa3, .int .i64 qa4, .int .i64 qa5] 25)).heap.size) [⟨(some ⟨gw4_0, 0, none⟩), 3, 1, (pcL0).map IntKit.cells⟩] ∧ boxB w7 (w6.heap.size) #[.int .i64 qa0, .int .i64 qa1, .int .i64 qa2, .bool qa3, .int .i64 qa4, .int .i64 qa5] 25) := ⟨(H6.out.1).below b7, (H6.out.2.1).below b7, (H6.out.2.2.1).below b7, (H6.out.2.2.2.1).below b7, (H6.out.2.2.2.2).below b7⟩
    clear d0 d1 d2 d3 d4 d5 e0 e1 e2 e3 e4 e5 b7 H6
    go_wp2_with fail
    refine (LawIntS.to_ints  pcA0 pcC0 pcL0 _ (HA_pc0.out.below (H7.out.1)) HL_pcL0.out).mono ?_
    rintro e w8 ⟨gw8_0, rfl, hhw8, b8⟩
    have LW_ty : Hid (W.heap.size ≤ w7.heap.size) := (H7.out.1).size
    have O4_ : Hid (Off (W.heap.size) [⟨(some ⟨gw8_0, 0, none⟩), 3, 1, (pcL0).map IntKit.cells⟩]) := Off.under (hhw8) (by have h9 := (H7.out.2.1).lt; omega)
    have O5_ : Hid (Off (w3.heap.size) [⟨(some ⟨gw8_0, 0, none⟩), 3, 1, (pcL0).map IntKit.cells⟩]) := Off.under (hhw8) (by have h9 := (H7.out.2.2.1).lt; omega)
    have Q0_ : Hid (Apart [⟨(some ⟨gw4_0, 0, none⟩), 3, 1, (pcL0).map IntKit.cells⟩] [⟨(some ⟨gw8_0, 0, none⟩), 3, 1, (pcL0).map IntKit.cells⟩]) := Apart.under (H7.out.2.2.2.1) (hhw8) (Nat.le_refl _)
    have O6_ : Hid (Off (w6.heap.size) [⟨(some ⟨gw8_0, 0, none⟩), 3, 1, (pcL0).map IntKit.cells⟩]) := Off.under (hhw8) (by have h9 := (H7.out.2.2.2.2).lt; omega)
    have H8 : Hid (Bel W w8 ∧ boxB w8 (W.heap.size) #[.int .i64 pa0, .int .i64 pa1, .int .i64 pa2, .bool pa3, .int .i64 pa4, .int .i64 pa5] 23 ∧ boxB w8 (w3.heap.size) #[.int .i64 qa0, .int .i64 qa1, .int .i64 qa2, .bool qa3, .int .i64 qa4, .int .i64 qa5] 25 ∧ Holds w8 ((w3.alloc (.cells #[.int .i64 qa0, .int .i64 qa1, .int .i64 qa2, .bool qa3, .int .i64 qa4, .int .i64 qa5] 25)).heap.size) [⟨(some ⟨gw4_0, 0, none⟩), 3, 1, (pcL0).map IntKit.cells⟩] ∧ boxB w8 (w6.heap.size) #[.int .i64 qa0, .int .i64 qa1, .int .i64 qa2, .bool qa3, .int .i64 qa4, .int .i64 qa5] 25 ∧ Holds w8 (w7.heap.size) [⟨(some ⟨gw8_0, 0, none⟩), 3, 1, (pcL0).map IntKit.cells⟩]) := ⟨(H7.out.1).below b8, (H7.out.2.1).below b8, (H7.out.2.2.1).below b8, (H7.out.2.2.2.1).below b8, (H7.out.2.2.2.2).below b8, hhw8⟩
    clear b8 H7 hhw8
    go_wp2_with fail
    refine (LawIntS.eq_ints  (some ⟨gw4_0, 0, none⟩) pcL0.length pcL0 (some ⟨gw8_0, 0, none⟩) pcL0.length _ (H8.out.2.2.2.1.get (by simp)) (H8.out.2.2.2.2.2.get (by simp)) HL_pcL0.out).mono ?_
    rintro e w9 ⟨rfl, b9⟩
    have H9 : Hid (Bel W w9 ∧ boxB w9 (W.heap.size) #[.int .i64 pa0, .int .i64 pa1, .int .i64 pa2, .bool pa3, .int .i64 pa4, .int .i64 pa5] 23 ∧ boxB w9 (w3.heap.size) #[.int .i64 qa0, .int .i64 qa1, .int .i64 qa2, .bool qa3, .int .i64 qa4, .int .i64 qa5] 25 ∧ Holds w9 ((w3.alloc (.cells #[.int .i64 qa0, .int .i64 qa1, .int .i64 qa2, .bool qa3, .int .i64 qa4, .int .i64 qa5] 25)).heap.size) [⟨(some ⟨gw4_0, 0, none⟩), 3, 1, (pcL0).map IntKit.cells⟩] ∧ boxB w9 (w6.heap.size) #[.int .i64 qa0, .int .i64 qa1, .int .i64 qa2, .bool qa3, .int .i64 qa4, .int .i64 qa5] 25) := ⟨(H8.out.1).below b9, (H8.out.2.1).below b9, (H8.out.2.2.1).below b9, (H8.out.2.2.2.1).below b9, (H8.out.2.2.2.2.1).below b9⟩
    clear b9 H8
    go_wp2
    go_ret
    exact ⟨rfl, (H9.out.1).out⟩
  · skip
    have b0 : Below W.heap.size W (W.alloc (.cells #[.int .i64 pa0, .int .i64 pa1, .int .i64 pa2, .bool pa3, .int .i64 pa4, .int .i64 pa5] 23)) := n1 W _
    have hk0 : 1048576 < (pcL0.length : Int) := by omega
    go_enter Try.func7, Try.ntmps7
    go_wp2
    go_ret
    exact ⟨rfl, b0⟩

theorem own : ownKnob Try.prog.godebug = none := by kernel_rfl
theorem laidOut : laidOutB Try.prog = true := by kernel_rfl

set_option maxRecDepth 100000 in
theorem lifted (os : Os) (started : os.Started) (H : Type) (enc : TypeId × Value → H) :
    ReturnsInHanded {} Try.checked os 7 .any (Rows.fnExactSeeAllSpec.pre6 enc Try.prog Try.f7 Rows.fnExactSeeAllRow.domain false) (Rows.fnExactSeeAllSpec.post enc Try.prog Try.f7 false true false false) := by
  refine returnsInHanded_of_change (C := Try.checked) own started (by kernel_rfl) Try.func7
    (ChangeSpec.witness6 (enc := enc) (C := Try.checked) false ⟨#[], #[.agg #[.int .i64 0, .int .i64 0, .int .i64 0, .bool false, .int .i64 0, .int .i64 0], .int .i64 0, .slice none 0 0], []⟩ 8 (by kernel_rfl) (by kernel_rfl) (by kernel_rfl) (by kernel_rfl)) ?_
  intro W base args ds gs before hval0 hW hcnd _
  have hval : ∀ (j : Nat) t v, Try.f7.params[j]? = some t → args[j]? = some v → Value.okWide Try.prog W .any base t v := hval0
  have hW' := hW
  obtain ⟨p, q, hA0, hV, rfl, hfz, hnd⟩ := hW
  have hA : DataW.TrodAll enc Try.prog W 0 (fun _ => true) true Try.f7.params.toList args.toList ds p := hA0
  rw [Try.params7] at hA hval
  obtain ⟨v0, vs0, d0, ds0, p0, q0, hargs, rfl, rfl, h0, r0⟩ := trodAll_cons hA
  obtain ⟨v1, vs1, d1, ds1, p1, q1, rfl, rfl, rfl, h1, r1⟩ := trodAll_cons r0
  obtain ⟨v2, vs2, d2, ds2, p2, q2, rfl, rfl, rfl, h2, r2⟩ := trodAll_cons r1
  obtain ⟨rfl, rfl, rfl⟩ := trodAll_nil r2
  obtain rfl : args = #[v0, v1, v2] := by cases args; simp_all
  obtain ⟨rfl, rfl⟩ := trodVars_none hV
  have k0_ := h0
  have lt0 : ∀ x ∈ p0, x.block < W.heap.size := by obtain ⟨m, hm⟩ := k0_; exact DataW.trod_lt m _ _ _ hm
  obtain ⟨x0_0, x0_1, x0_2, x0_3, x0_4, x0_5, rfl⟩ := OpenCodel.open_codel (hval 0 23 v0 rfl rfl) h0
  obtain ⟨a1, rfl, rfl, rfl, w1⟩ := open_int Try.underlying3 (hval 1 3 v1 rfl rfl) h1
  have k2_ := h2
  have lt2 : ∀ x ∈ p2, x.block < W.heap.size := by obtain ⟨m, hm⟩ := k2_; exact DataW.trod_lt m _ _ _ hm
  obtain ⟨aL2, cL2, L2, rfl, hL2, mL2, fL2⟩ := OpenInts.open_ints_wf (hval 2 35 v2 rfl rfl) h2
  clear hA0 hval0
  refine (walk W x0_0 x0_1 x0_2 x0_3 x0_4 x0_5 a1 w1 aL2 cL2 L2 hL2 mL2 fL2).mono fun e W' ⟨he, hb⟩ => ?_
  subst he
  exact ⟨_, rfl, _, _, _, [], _, [], hW', trodAll_cons_mk (shut_bool Try.underlying4 _) trodAll_mk0, (trodAll_cons_mk (Below.trod laidOut (by kernel_rfl) (of_decide_eq_true (by kernel_rfl)) k0_ hb lt0) (trodAll_cons_mk (shut_int Try.underlying3 w1) (trodAll_cons_mk (Below.trod laidOut (by kernel_rfl) (of_decide_eq_true (by kernel_rfl)) k2_ hb lt2) trodAll_mk0))), rfl, hb.frame _, fun h => by cases h⟩

theorem over : Rows.fnExactSeeAllRow.holds Try.pinned (OpenSpec.ofChange Rows.fnExactSeeAllSpec) :=
  OpenClaim.holds_of_wide 7 Try.f7 rfl rfl rfl rfl rfl rfl rfl ⟨rfl, rfl, rfl, rfl, rfl⟩ rfl rfl rfl rfl rfl (by kernel_rfl) Try.func7 (by kernel_rfl)
    (of_decide_eq_true (by kernel_rfl)) (by unfold Func.isWrapper; first | (rw [if_pos (by decide +kernel)]; kernel_rfl) | (rw [if_neg (by decide +kernel)]; exact ⟨rfl, rfl⟩))
    (fun os started H enc _ => lifted os started H enc)

theorem proved : Rows.FnExactSeeAllSaid :=
  over
end Go.Proofs.Ytflngiakbhjnaaa.fnExactSeeAll
