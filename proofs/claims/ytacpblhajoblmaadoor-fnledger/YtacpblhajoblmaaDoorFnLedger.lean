/- Permits of requests that fly are different ones, and each brings its own request back, once (the law FnLedger returns true); no condition. -/
import Derived.Test.YtacpblhajoblmaaDoorRows
import Derived.WalkKit
import Derived.WalkSmall
import Derived.BigQuiet
import Derived.ProofKit
import Derived.OpenShut
import Derived.ChangeSlices
import Derived.Deep.RegionWith
import Derived.Deep.DeepCutAuto
import Derived.OpenVars
import Derived.LaidLaws
import Derived.Stop.LaidErr
import Derived.Stop.LaidTwo
import Derived.SevenTiedAt
import Derived.Lay
import Derived.HandedShaped
import Derived.Stop.Joined
import Derived.Test.YtacpblhajoblmaaDoorListKit
import Derived.Test.YtacpblhajoblmaaDoorSlotKit
import Derived.Test.YtacpblhajoblmaaDoorSlotOks
import Derived.Test.YtacpblhajoblmaaDoorLedFind
import Derived.Test.YtacpblhajoblmaaDoorNearKit
import Derived.Test.YtacpblhajoblmaaDoorLedCount
import Derived.Test.YtacpblhajoblmaaDoorLedOk
import Derived.Test.YtacpblhajoblmaaDoorLedPermit
import Derived.Test.YtacpblhajoblmaaDoorLedCopy
import Derived.Test.YtacpblhajoblmaaDoorLedGrant
import Derived.Test.YtacpblhajoblmaaDoorLedMath
import Derived.Test.YtacpblhajoblmaaDoorLedHeld
import Derived.Test.YtacpblhajoblmaaDoorLedRel
import Derived.Test.YtacpblhajoblmaaDoorLedBothR
import Derived.Test.YtacpblhajoblmaaDoorLedInv
import Derived.Test.YtacpblhajoblmaaDoorDrawWalks
import Derived.Test.YtacpblhajoblmaaDoorCodeArg
import Derived.Test.YtacpblhajoblmaaDoorDrawKit
import Derived.Test.YtacpblhajoblmaaDoorLedDraw
import Derived.Test.YtacpblhajoblmaaDoorLawMini
import Derived.Test.YtacpblhajoblmaaDoorTie
import Derived.Test.YtacpblhajoblmaaDoorCards
namespace Go.Proofs.YtacpblhajoblmaaDoor.fnLedger
open Go.ChangeShapes Go.WideShapes Go.ChangeAt Go.RowKit ListKit SlotKit SlotOks LedFind NearKit LedCount LedOk LedPermit LedCopy LedGrant LedMath LedHeld LedRel LedBothR CodeArg LedDraw LawMini
open DrawWalks (CodeOk)
set_option linter.unusedVariables false
set_option linter.unusedSimpArgs false
set_option maxRecDepth 8000

set_option maxHeartbeats 16000000 in
theorem walk_in (a : Option Addr) (len cap : Nat) (W : World) (hlen : (len : Int) ≤ 1048576) (hok : CodeOk W W.heap.size a len) (p q : Addr) (HE : Hid (Errs W p q)) :
    Calls Tryd.prog 3 #[.slice a len cap] W fun e w' => e = .returned (.bool true) ∧ Below W.heap.size W w' := by
  have HO : Hid (CodeOk W W.heap.size a len) := hok
  clear hok
  go_enter Tryd.func3, Tryd.ntmps3
  go_wp2_with fail
  refine (make_led len a cap W hlen HO.out).mono ?_
  rintro e w1 ⟨aL, cL, L, rfl, hcL, hgd, hoL, hfL, b1⟩
  have HGD : Hid (LedInv.Good 9 L) := hgd
  have hlen9 := hgd.2.1
  obtain ⟨L2, P, G, B, hgr⟩ := gr_ex L 777 3 40
  obtain ⟨rfl, hok2, k, rfl, hput⟩ := LedInv.grant_777 hgd hgr
  have HGT : Hid (LedInv.Got L L2 k G) := ⟨hok2, hput⟩
  obtain ⟨L5, P5, G5, B5, hgr5⟩ := gr_ex L2 777 3 40
  obtain rfl := LedInv.got_again HGT.out hgr5
  have hl2 := gr_len hgr
  have HLN : Hid (L2.length ≤ 10) := by show _ ≤ _; omega
  have HG1 := fun (W : World) h => impl_grant aL cL L L2 777 3 40 (k : Int) G true W h (by omega) hcL hgr
  have HLO2 := fun (W : World) a2 c2 h (hc : L2.length ≤ c2) => impl_ledok a2 c2 L2 true W h (by omega) hc ⟨fun _ => hok2, fun _ => rfl⟩
  have HG2 := fun (W : World) a2 c2 h (hc : L2.length ≤ c2) => impl_grant a2 c2 L2 L5 777 3 40 P5 G5 false W h (by omega) hc hgr5
  have HF1 := fun (W : World) h => impl_flying aL cL L W h (by omega)
  have HF2 := fun (W : World) a2 c2 h => impl_flying a2 c2 L2 W h (by omega)
  have HB1 := fun (W : World) h => impl_flyingof aL cL L 3 W h (by omega)
  have HB2 := fun (W : World) a2 c2 h => impl_flyingof a2 c2 L2 3 W h (by omega)
  obtain ⟨u, hu⟩ : ∃ u, cnt isUsed L L.length = u := ⟨_, rfl⟩
  obtain ⟨v, hv⟩ : ∃ v, cnt (isBy 3) L L.length = v := ⟨_, rfl⟩
  have hu9 : u ≤ 9 := by have := cnt_le isUsed L L.length; omega
  have hv9 : v ≤ 9 := by have := cnt_le (isBy 3) L L.length; omega
  rw [hu] at HF1
  rw [hv] at HB1
  rw [LedInv.got_used HGT.out, hu] at HF2
  rw [LedInv.got_by HGT.out, hv] at HB2
  have HU : Hid (cnt isUsed L L.length = u) := hu
  have wu : IntKind.i64.wrap ((u : Int) + 1) = ((u + 1 : Nat) : Int) := by rw [IntKind.wrap_i64]; omega
  have wv : IntKind.i64.wrap ((v : Int) + 1) = ((v + 1 : Nat) : Int) := by rw [IntKind.wrap_i64]; omega
  have nu : (((u + 1 : Nat) : Int) != ((u + 1 : Nat) : Int)) = false := by simp
  have nv : (((v + 1 : Nat) : Int) != ((v + 1 : Nat) : Int)) = false := by simp
  clear hgd hgr hgr5 hput hok2 hu hv
  have H1 : Hid (Bel W (w1.alloc (.cells #[.slice aL L.length cL] 25)) ∧ Errs (w1.alloc (.cells #[.slice aL L.length cL] 25)) p q ∧ Own 35 5 cells (w1.alloc (.cells #[.slice aL L.length cL] 25)) aL L ∧ boxB (w1.alloc (.cells #[.slice aL L.length cL] 25)) w1.heap.size #[.slice aL L.length cL] 25) := ⟨Bel.below b1 (n1 w1 _), HE.out.below (b1.trans ((n1 w1 _).mono b1.size)), hoL.below (n1 w1 _), boxB.new _ _ _⟩
  clear b1 hoL hfL HE HO
  have c0 := H1.out.2.2.2.cell 0
  go_wp2_with fail
  refine (HG1 _ H1.out.2.2.1).mono ?_
  rintro e w2 ⟨a2, c2, rfl, hc2, o2, q2, b2⟩
  have H2 : Hid (Bel W ((w2.alloc (.cells #[.slice a2 L2.length c2] 25)).alloc (.cells #[.int .i64 (k : Int), .int .i64 G] 28)) ∧ Errs ((w2.alloc (.cells #[.slice a2 L2.length c2] 25)).alloc (.cells #[.int .i64 (k : Int), .int .i64 G] 28)) p q ∧ Own 35 5 cells ((w2.alloc (.cells #[.slice a2 L2.length c2] 25)).alloc (.cells #[.int .i64 (k : Int), .int .i64 G] 28)) aL L ∧ boxB ((w2.alloc (.cells #[.slice a2 L2.length c2] 25)).alloc (.cells #[.int .i64 (k : Int), .int .i64 G] 28)) w1.heap.size #[.slice aL L.length cL] 25 ∧ Own 35 5 cells ((w2.alloc (.cells #[.slice a2 L2.length c2] 25)).alloc (.cells #[.int .i64 (k : Int), .int .i64 G] 28)) a2 L2 ∧ boxB ((w2.alloc (.cells #[.slice a2 L2.length c2] 25)).alloc (.cells #[.int .i64 (k : Int), .int .i64 G] 28)) w2.heap.size #[.slice a2 L2.length c2] 25 ∧ boxB ((w2.alloc (.cells #[.slice a2 L2.length c2] 25)).alloc (.cells #[.int .i64 (k : Int), .int .i64 G] 28)) (w2.heap.size + 1) #[.int .i64 (k : Int), .int .i64 G] 28) := ⟨H1.out.1.below (b2.trans ((n2 w2 _ _).mono b2.size)), H1.out.2.1.below (b2.trans ((n2 w2 _ _).mono b2.size)), H1.out.2.2.1.below (b2.trans ((n2 w2 _ _).mono b2.size)), H1.out.2.2.2.below (b2.trans ((n2 w2 _ _).mono b2.size)), o2.below (n2 w2 _ _), (boxB.new _ _ _).below (n1 _ _), new2 _ _ _ _⟩
  clear c0 b2 o2 q2 H1
  have c0 := H2.out.2.2.2.2.2.1.cell 0
  go_wp2_with fail
  refine (HG2 _ a2 c2 H2.out.2.2.2.2.1 hc2).mono ?_
  rintro e w3 ⟨a5, c5, rfl, hc5, o5, q5, b3⟩
  have H3 : Hid (Bel W ((w3.alloc (.cells #[.slice a5 L5.length c5] 25)).alloc (.cells #[.int .i64 P5, .int .i64 G5] 28)) ∧ Errs ((w3.alloc (.cells #[.slice a5 L5.length c5] 25)).alloc (.cells #[.int .i64 P5, .int .i64 G5] 28)) p q ∧ Own 35 5 cells ((w3.alloc (.cells #[.slice a5 L5.length c5] 25)).alloc (.cells #[.int .i64 P5, .int .i64 G5] 28)) aL L ∧ boxB ((w3.alloc (.cells #[.slice a5 L5.length c5] 25)).alloc (.cells #[.int .i64 P5, .int .i64 G5] 28)) w1.heap.size #[.slice aL L.length cL] 25 ∧ Own 35 5 cells ((w3.alloc (.cells #[.slice a5 L5.length c5] 25)).alloc (.cells #[.int .i64 P5, .int .i64 G5] 28)) a2 L2 ∧ boxB ((w3.alloc (.cells #[.slice a5 L5.length c5] 25)).alloc (.cells #[.int .i64 P5, .int .i64 G5] 28)) w2.heap.size #[.slice a2 L2.length c2] 25 ∧ boxB ((w3.alloc (.cells #[.slice a5 L5.length c5] 25)).alloc (.cells #[.int .i64 P5, .int .i64 G5] 28)) (w2.heap.size + 1) #[.int .i64 (k : Int), .int .i64 G] 28) := ⟨H2.out.1.below (b3.trans ((n2 w3 _ _).mono b3.size)), H2.out.2.1.below (b3.trans ((n2 w3 _ _).mono b3.size)), H2.out.2.2.1.below (b3.trans ((n2 w3 _ _).mono b3.size)), H2.out.2.2.2.1.below (b3.trans ((n2 w3 _ _).mono b3.size)), H2.out.2.2.2.2.1.below (b3.trans ((n2 w3 _ _).mono b3.size)), H2.out.2.2.2.2.2.1.below (b3.trans ((n2 w3 _ _).mono b3.size)), H2.out.2.2.2.2.2.2.below (b3.trans ((n2 w3 _ _).mono b3.size))⟩
  clear c0 b3 o5 q5 hc5 H2
  go_upto_region 6 with fail
  generalize ((w3.alloc (.cells #[.slice a5 L5.length c5] 25)).alloc (.cells #[.int .i64 P5, .int .i64 G5] 28)) = w4 at *
  have x3_0 := H3.out.2.2.2.1.cell 0
  have x4_0 := H3.out.2.2.2.2.2.1.cell 0
  have X3 := Near.cell x3_0
  have X4 := Near.cell x4_0
  clear x3_0 x4_0
  have near := Near.is w4
  refine wp_region_near (by kernel_rfl) (by kernel_rfl) ?_
  repeat (go_big_quiet_step (first | (go_at_call 6; exact near_call (HLO2 _ a2 c2 (H3.out.2.2.2.2.1.below (Near.near _)) hc2)) | (go_at_call 7; first | exact near_call (HF2 _ a2 c2 (H3.out.2.2.2.2.1.below (Near.near _))) | exact near_call (HF1 _ (H3.out.2.2.1.below (Near.near _)))) | (go_at_call 8; first | exact near_call (HB2 _ a2 c2 (H3.out.2.2.2.2.1.below (Near.near _))) | exact near_call (HB1 _ (H3.out.2.2.1.below (Near.near _))))))
  refine wpQuiet_nil ?_
  intro wx hwx
  obtain ⟨y, hy⟩ := hwx
  subst hy
  have H4 : Hid (Bel W y.w ∧ Errs y.w p q ∧ Own 35 5 cells y.w aL L ∧ boxB y.w w1.heap.size #[.slice aL L.length cL] 25 ∧ Own 35 5 cells y.w a2 L2 ∧ boxB y.w w2.heap.size #[.slice a2 L2.length c2] 25 ∧ boxB y.w (w2.heap.size + 1) #[.int .i64 (k : Int), .int .i64 G] 28) := ⟨H3.out.1.below y.near, H3.out.2.1.below y.near, H3.out.2.2.1.below y.near, H3.out.2.2.2.1.below y.near, H3.out.2.2.2.2.1.below y.near, H3.out.2.2.2.2.2.1.below y.near, H3.out.2.2.2.2.2.2.below y.near⟩
  obtain ⟨w5, hw5⟩ : ∃ w5, y.w = w5 := ⟨_, rfl⟩
  rw [hw5] at H4 ⊢
  clear hw5 y near X3 X4 H3
  have c0 := H4.out.2.2.2.1.cell 0
  go_upto_region 9 with fail
  clear c0
  go_loopw [68] (fun i wr => ∃ j : Nat, j ≤ L.length ∧ i = .int .i64 (j : Int) ∧ Hid (Bel W wr ∧ Errs wr p q ∧ Own 35 5 cells wr aL L ∧ boxB wr w1.heap.size #[.slice aL L.length cL] 25 ∧ Own 35 5 cells wr a2 L2 ∧ boxB wr w2.heap.size #[.slice a2 L2.length c2] 25 ∧ boxB wr (w2.heap.size + 1) #[.int .i64 (k : Int), .int .i64 G] 28)) (fun i _ => L.length - (intOf i).toNat)
  case atStart => exact ⟨0, Nat.zero_le _, rfl, H4⟩
  case round =>
    clear H4
    obtain ⟨j, hj, rfl, HR⟩ := hrel
    by_cases hlt : j < L.length
    · obtain ⟨x0, x1, x2, x3, x4, HS⟩ : ∃ x0 x1 x2 x3 x4, Hid (L[j] = (⟨x0, x1, x2, x3, x4⟩ : Slot)) := ⟨_, _, _, _, _, (rfl : L[j] = _)⟩
      obtain ⟨g, o, rfl, hrow⟩ := HR.out.2.2.1.resolve_left (fun e => by rw [e] at hlt; simp at hlt)
      have u9 := fun k hk => hrow.cell j hlt k hk
      rw [HS.out] at u9
      have r0 : wr.cell? ⟨g, o + j * 5, none⟩ = some (.int .i64 x0) := u9 0 (by omega)
      have r1 : wr.cell? ⟨g, o + j * 5 + 1, none⟩ = some (.bool x1) := u9 1 (by omega)
      have r2 : wr.cell? ⟨g, o + j * 5 + 2, none⟩ = some (.int .i64 x2) := u9 2 (by omega)
      have r3 : wr.cell? ⟨g, o + j * 5 + 3, none⟩ = some (.int .i64 x3) := u9 3 (by omega)
      have r4 : wr.cell? ⟨g, o + j * 5 + 4, none⟩ = some (.int .i64 x4) := u9 4 (by omega)
      clear u9 hrow
      have h0j : (0 : Int) ≤ (j : Int) := by omega
      have hjl : (j : Int) < (L.length : Int) := by omega
      cases x1 with
      | false =>
        go_wp2
        go_roundw
        case rel => exact ⟨j + 1, by omega, by go_num, (by have H5 : Hid (Bel W (wr.alloc (.cells #[.int .i64 x0, .bool false, .int .i64 x2, .int .i64 x3, .int .i64 x4] 35)) ∧ Errs (wr.alloc (.cells #[.int .i64 x0, .bool false, .int .i64 x2, .int .i64 x3, .int .i64 x4] 35)) p q ∧ Own 35 5 cells (wr.alloc (.cells #[.int .i64 x0, .bool false, .int .i64 x2, .int .i64 x3, .int .i64 x4] 35)) (some ⟨g, o, none⟩) L ∧ boxB (wr.alloc (.cells #[.int .i64 x0, .bool false, .int .i64 x2, .int .i64 x3, .int .i64 x4] 35)) w1.heap.size #[.slice (some ⟨g, o, none⟩) L.length cL] 25 ∧ Own 35 5 cells (wr.alloc (.cells #[.int .i64 x0, .bool false, .int .i64 x2, .int .i64 x3, .int .i64 x4] 35)) a2 L2 ∧ boxB (wr.alloc (.cells #[.int .i64 x0, .bool false, .int .i64 x2, .int .i64 x3, .int .i64 x4] 35)) w2.heap.size #[.slice a2 L2.length c2] 25 ∧ boxB (wr.alloc (.cells #[.int .i64 x0, .bool false, .int .i64 x2, .int .i64 x3, .int .i64 x4] 35)) (w2.heap.size + 1) #[.int .i64 (k : Int), .int .i64 G] 28) := ⟨HR.out.1.below (n1 wr _), HR.out.2.1.below (n1 wr _), HR.out.2.2.1.below (n1 wr _), HR.out.2.2.2.1.below (n1 wr _), HR.out.2.2.2.2.1.below (n1 wr _), HR.out.2.2.2.2.2.1.below (n1 wr _), HR.out.2.2.2.2.2.2.below (n1 wr _)⟩; exact H5)⟩
        case measure => simp [intOf]; omega
      | true =>
        have hu : L[j].x1 = true := by rw [HS.out]
        obtain ⟨P6, G6, B6, hpm⟩ := perm_ex L2 L[j].x2
        obtain ⟨rfl, hne⟩ := LedInv.got_perm HGT.out hlt hu hpm
        rw [HS.out] at hpm
        have e7 := eq_perm P6 G6 (k : Int) G
        rw [if_neg hne] at e7
        go_upto_region 12 with fail
        have H6 : Hid (Bel W (wr.alloc (.cells #[.int .i64 x0, .bool true, .int .i64 x2, .int .i64 x3, .int .i64 x4] 35)) ∧ Errs (wr.alloc (.cells #[.int .i64 x0, .bool true, .int .i64 x2, .int .i64 x3, .int .i64 x4] 35)) p q ∧ Own 35 5 cells (wr.alloc (.cells #[.int .i64 x0, .bool true, .int .i64 x2, .int .i64 x3, .int .i64 x4] 35)) (some ⟨g, o, none⟩) L ∧ boxB (wr.alloc (.cells #[.int .i64 x0, .bool true, .int .i64 x2, .int .i64 x3, .int .i64 x4] 35)) w1.heap.size #[.slice (some ⟨g, o, none⟩) L.length cL] 25 ∧ Own 35 5 cells (wr.alloc (.cells #[.int .i64 x0, .bool true, .int .i64 x2, .int .i64 x3, .int .i64 x4] 35)) a2 L2 ∧ boxB (wr.alloc (.cells #[.int .i64 x0, .bool true, .int .i64 x2, .int .i64 x3, .int .i64 x4] 35)) w2.heap.size #[.slice a2 L2.length c2] 25 ∧ boxB (wr.alloc (.cells #[.int .i64 x0, .bool true, .int .i64 x2, .int .i64 x3, .int .i64 x4] 35)) (w2.heap.size + 1) #[.int .i64 (k : Int), .int .i64 G] 28 ∧ boxB (wr.alloc (.cells #[.int .i64 x0, .bool true, .int .i64 x2, .int .i64 x3, .int .i64 x4] 35)) wr.heap.size #[.int .i64 x0, .bool true, .int .i64 x2, .int .i64 x3, .int .i64 x4] 35) := ⟨HR.out.1.below (n1 wr _), HR.out.2.1.below (n1 wr _), HR.out.2.2.1.below (n1 wr _), HR.out.2.2.2.1.below (n1 wr _), HR.out.2.2.2.2.1.below (n1 wr _), HR.out.2.2.2.2.2.1.below (n1 wr _), HR.out.2.2.2.2.2.2.below (n1 wr _), boxB.new _ _ _⟩
        clear r0 r1 r2 r3 r4 HR
        obtain ⟨nr, hnr⟩ : ∃ nr, wr.heap.size = nr := ⟨_, rfl⟩
        generalize (wr.alloc (.cells #[.int .i64 x0, .bool true, .int .i64 x2, .int .i64 x3, .int .i64 x4] 35)) = w6 at *
        rw [hnr] at H6 ⊢
        clear hnr
        have c0 := H6.out.2.2.2.2.2.1.cell 0
        have d0 := H6.out.2.2.2.2.2.2.2.cell 0
        have d1 := H6.out.2.2.2.2.2.2.2.cell 1
        have d2 := H6.out.2.2.2.2.2.2.2.cell 2
        have d3 := H6.out.2.2.2.2.2.2.2.cell 3
        have d4 := H6.out.2.2.2.2.2.2.2.cell 4
        go_wp2_with fail
        refine (impl_permit a2 c2 L2 x2 P6 G6 true _ H6.out.2.2.2.2.1 (by have := HLN.out; omega) hc2 hpm).mono ?_
        rintro e w7 ⟨rfl, b7⟩
        have H7 : Hid (Bel W (w7.alloc (.cells #[.int .i64 P6, .int .i64 G6] 28)) ∧ Errs (w7.alloc (.cells #[.int .i64 P6, .int .i64 G6] 28)) p q ∧ Own 35 5 cells (w7.alloc (.cells #[.int .i64 P6, .int .i64 G6] 28)) (some ⟨g, o, none⟩) L ∧ boxB (w7.alloc (.cells #[.int .i64 P6, .int .i64 G6] 28)) w1.heap.size #[.slice (some ⟨g, o, none⟩) L.length cL] 25 ∧ Own 35 5 cells (w7.alloc (.cells #[.int .i64 P6, .int .i64 G6] 28)) a2 L2 ∧ boxB (w7.alloc (.cells #[.int .i64 P6, .int .i64 G6] 28)) w2.heap.size #[.slice a2 L2.length c2] 25 ∧ boxB (w7.alloc (.cells #[.int .i64 P6, .int .i64 G6] 28)) (w2.heap.size + 1) #[.int .i64 (k : Int), .int .i64 G] 28 ∧ boxB (w7.alloc (.cells #[.int .i64 P6, .int .i64 G6] 28)) nr #[.int .i64 x0, .bool true, .int .i64 x2, .int .i64 x3, .int .i64 x4] 35 ∧ boxB (w7.alloc (.cells #[.int .i64 P6, .int .i64 G6] 28)) w7.heap.size #[.int .i64 P6, .int .i64 G6] 28) := ⟨H6.out.1.below (b7.trans ((n1 w7 _).mono b7.size)), H6.out.2.1.below (b7.trans ((n1 w7 _).mono b7.size)), H6.out.2.2.1.below (b7.trans ((n1 w7 _).mono b7.size)), H6.out.2.2.2.1.below (b7.trans ((n1 w7 _).mono b7.size)), H6.out.2.2.2.2.1.below (b7.trans ((n1 w7 _).mono b7.size)), H6.out.2.2.2.2.2.1.below (b7.trans ((n1 w7 _).mono b7.size)), H6.out.2.2.2.2.2.2.1.below (b7.trans ((n1 w7 _).mono b7.size)), H6.out.2.2.2.2.2.2.2.below (b7.trans ((n1 w7 _).mono b7.size)), boxB.new _ _ _⟩
        clear c0 d0 d1 d2 d3 d4 b7 H6
        go_upto_region 13 with fail
        obtain ⟨n7, hn7⟩ : ∃ n7, w7.heap.size = n7 := ⟨_, rfl⟩
        generalize (w7.alloc (.cells #[.int .i64 P6, .int .i64 G6] 28)) = w8 at *
        rw [hn7] at H7 ⊢
        clear hn7
        have c0 := H7.out.2.2.2.2.2.2.2.2.cell 0
        have c1 := H7.out.2.2.2.2.2.2.2.2.cell 1
        have d0 := H7.out.2.2.2.2.2.2.1.cell 0
        have d1 := H7.out.2.2.2.2.2.2.1.cell 1
        have HN : Hid (Bel W w8 ∧ Errs w8 p q ∧ Own 35 5 cells w8 (some ⟨g, o, none⟩) L ∧ boxB w8 w1.heap.size #[.slice (some ⟨g, o, none⟩) L.length cL] 25 ∧ Own 35 5 cells w8 a2 L2 ∧ boxB w8 w2.heap.size #[.slice a2 L2.length c2] 25 ∧ boxB w8 (w2.heap.size + 1) #[.int .i64 (k : Int), .int .i64 G] 28) := ⟨H7.out.1, H7.out.2.1, H7.out.2.2.1, H7.out.2.2.2.1, H7.out.2.2.2.2.1, H7.out.2.2.2.2.2.1, H7.out.2.2.2.2.2.2.1⟩
        go_wp2
        exact ⟨⟨_, _, _, _, _, _, _, _, _, _, _, _, _, _, _, _, _, _, _, _, _, _, _, _, _, _, ⟨j + 1, by omega, by go_num, HN⟩, rfl⟩, by simp [intOf]; omega⟩
    · have hjl : ¬ (j : Int) < (L.length : Int) := by omega
      obtain ⟨P7, G7, B7, hpm⟩ := perm_ex L2 777
      obtain ⟨rfl, rfl, rfl⟩ := LedInv.got_777 HGT.out hpm
      obtain ⟨L3, s3, B3, hrl⟩ := rl_ex L2 (k : Int) G7
      obtain ⟨rfl, hs3, hok3, hk3, hL3⟩ := LedInv.got_rel HGT.out hrl
      have hl3 := rl_len hrl
      obtain ⟨L4, s4, B4, hrl4⟩ := rl_ex L3 (k : Int) G7
      obtain ⟨rfl, e4⟩ := LedInv.rel_twice hk3 hL3 hok3 hrl4
      have e4s := e4.symm
      clear e4
      subst e4s
      have HF3 := fun (W : World) a3 c3 h => impl_flying a3 c3 L3 W h (by have := HLN.out; omega)
      rw [LedInv.rel_used HGT.out hk3 hL3, HU.out] at HF3
      have HLO3 := fun (W : World) a3 c3 h (hc : L3.length ≤ c3) => impl_ledok a3 c3 L3 true W h (by have := HLN.out; omega) hc ⟨fun _ => hok3, fun _ => rfl⟩
      have HP7 := fun (W : World) h => impl_permit a2 c2 L2 777 (k : Int) G7 true W h (by have := HLN.out; omega) hc2 hpm
      have HR1 := fun (W : World) h he => impl_release a2 c2 L2 L3 (k : Int) G7 s3 true p q W h (by have := HLN.out; omega) hc2 he hrl
      have HR2 := fun (W : World) a3 c3 h (hc : L3.length ≤ c3) he => impl_release a3 c3 L3 L3 (k : Int) G7 s4 false p q W h (by have := HLN.out; omega) hc he hrl4
      subst hs3
      have e7 := eq_perm (k : Int) G7 (k : Int) G7
      rw [if_pos rfl, if_pos rfl] at e7
      clear hpm hrl hl3 hok3 hk3 hL3 hrl4
      have c0 := HR.out.2.2.2.2.2.1.cell 0
      go_wp2_with fail
      refine (HP7 _ HR.out.2.2.2.2.1).mono ?_
      rintro e w7 ⟨rfl, b7⟩
      have H8 : Hid (Bel W (w7.alloc (.cells #[.int .i64 (k : Int), .int .i64 G7] 28)) ∧ Errs (w7.alloc (.cells #[.int .i64 (k : Int), .int .i64 G7] 28)) p q ∧ Own 35 5 cells (w7.alloc (.cells #[.int .i64 (k : Int), .int .i64 G7] 28)) aL L ∧ boxB (w7.alloc (.cells #[.int .i64 (k : Int), .int .i64 G7] 28)) w1.heap.size #[.slice aL L.length cL] 25 ∧ Own 35 5 cells (w7.alloc (.cells #[.int .i64 (k : Int), .int .i64 G7] 28)) a2 L2 ∧ boxB (w7.alloc (.cells #[.int .i64 (k : Int), .int .i64 G7] 28)) w2.heap.size #[.slice a2 L2.length c2] 25 ∧ boxB (w7.alloc (.cells #[.int .i64 (k : Int), .int .i64 G7] 28)) (w2.heap.size + 1) #[.int .i64 (k : Int), .int .i64 G7] 28 ∧ boxB (w7.alloc (.cells #[.int .i64 (k : Int), .int .i64 G7] 28)) w7.heap.size #[.int .i64 (k : Int), .int .i64 G7] 28) := ⟨HR.out.1.below (b7.trans ((n1 w7 _).mono b7.size)), HR.out.2.1.below (b7.trans ((n1 w7 _).mono b7.size)), HR.out.2.2.1.below (b7.trans ((n1 w7 _).mono b7.size)), HR.out.2.2.2.1.below (b7.trans ((n1 w7 _).mono b7.size)), HR.out.2.2.2.2.1.below (b7.trans ((n1 w7 _).mono b7.size)), HR.out.2.2.2.2.2.1.below (b7.trans ((n1 w7 _).mono b7.size)), HR.out.2.2.2.2.2.2.below (b7.trans ((n1 w7 _).mono b7.size)), boxB.new _ _ _⟩
      clear c0 b7 HR
      have c0 := H8.out.2.2.2.2.2.1.cell 0
      have d0 := H8.out.2.2.2.2.2.2.1.cell 0
      have d1 := H8.out.2.2.2.2.2.2.1.cell 1
      go_wp2_with fail
      refine (HR1 _ H8.out.2.2.2.2.1 H8.out.2.1).mono ?_
      rintro e w9 ⟨a3, c3, he, hc3, o3, q3, b9⟩
      simp only [LedInv.new777] at he
      subst he
      have H9 : Hid (Bel W ((w9.alloc (.cells #[.slice a3 L3.length c3] 25)).alloc (.cells #[.int .i64 G7, .bool true, .int .i64 777, .int .i64 3, .int .i64 40] 35)) ∧ Errs ((w9.alloc (.cells #[.slice a3 L3.length c3] 25)).alloc (.cells #[.int .i64 G7, .bool true, .int .i64 777, .int .i64 3, .int .i64 40] 35)) p q ∧ Own 35 5 cells ((w9.alloc (.cells #[.slice a3 L3.length c3] 25)).alloc (.cells #[.int .i64 G7, .bool true, .int .i64 777, .int .i64 3, .int .i64 40] 35)) aL L ∧ boxB ((w9.alloc (.cells #[.slice a3 L3.length c3] 25)).alloc (.cells #[.int .i64 G7, .bool true, .int .i64 777, .int .i64 3, .int .i64 40] 35)) w1.heap.size #[.slice aL L.length cL] 25 ∧ Own 35 5 cells ((w9.alloc (.cells #[.slice a3 L3.length c3] 25)).alloc (.cells #[.int .i64 G7, .bool true, .int .i64 777, .int .i64 3, .int .i64 40] 35)) a2 L2 ∧ boxB ((w9.alloc (.cells #[.slice a3 L3.length c3] 25)).alloc (.cells #[.int .i64 G7, .bool true, .int .i64 777, .int .i64 3, .int .i64 40] 35)) w2.heap.size #[.slice a2 L2.length c2] 25 ∧ boxB ((w9.alloc (.cells #[.slice a3 L3.length c3] 25)).alloc (.cells #[.int .i64 G7, .bool true, .int .i64 777, .int .i64 3, .int .i64 40] 35)) (w2.heap.size + 1) #[.int .i64 (k : Int), .int .i64 G7] 28 ∧ boxB ((w9.alloc (.cells #[.slice a3 L3.length c3] 25)).alloc (.cells #[.int .i64 G7, .bool true, .int .i64 777, .int .i64 3, .int .i64 40] 35)) w7.heap.size #[.int .i64 (k : Int), .int .i64 G7] 28 ∧ Own 35 5 cells ((w9.alloc (.cells #[.slice a3 L3.length c3] 25)).alloc (.cells #[.int .i64 G7, .bool true, .int .i64 777, .int .i64 3, .int .i64 40] 35)) a3 L3 ∧ boxB ((w9.alloc (.cells #[.slice a3 L3.length c3] 25)).alloc (.cells #[.int .i64 G7, .bool true, .int .i64 777, .int .i64 3, .int .i64 40] 35)) w9.heap.size #[.slice a3 L3.length c3] 25 ∧ boxB ((w9.alloc (.cells #[.slice a3 L3.length c3] 25)).alloc (.cells #[.int .i64 G7, .bool true, .int .i64 777, .int .i64 3, .int .i64 40] 35)) (w9.heap.size + 1) #[.int .i64 G7, .bool true, .int .i64 777, .int .i64 3, .int .i64 40] 35) := ⟨H8.out.1.below (b9.trans ((n2 w9 _ _).mono b9.size)), H8.out.2.1.below (b9.trans ((n2 w9 _ _).mono b9.size)), H8.out.2.2.1.below (b9.trans ((n2 w9 _ _).mono b9.size)), H8.out.2.2.2.1.below (b9.trans ((n2 w9 _ _).mono b9.size)), H8.out.2.2.2.2.1.below (b9.trans ((n2 w9 _ _).mono b9.size)), H8.out.2.2.2.2.2.1.below (b9.trans ((n2 w9 _ _).mono b9.size)), H8.out.2.2.2.2.2.2.1.below (b9.trans ((n2 w9 _ _).mono b9.size)), H8.out.2.2.2.2.2.2.2.below (b9.trans ((n2 w9 _ _).mono b9.size)), o3.below (n2 w9 _ _), (boxB.new _ _ _).below (n1 _ _), new2 _ _ _ _⟩
      clear c0 d0 d1 b9 o3 q3 H8
      have c0 := H9.out.2.2.2.2.2.2.2.2.2.1.cell 0
      have d0 := H9.out.2.2.2.2.2.2.1.cell 0
      have d1 := H9.out.2.2.2.2.2.2.1.cell 1
      go_wp2_with fail
      refine (HR2 _ a3 c3 H9.out.2.2.2.2.2.2.2.2.1 hc3 H9.out.2.1).mono ?_
      rintro e w10 ⟨a4, c4, rfl, hc4, o4, q4, b10⟩
      have H10 : Hid (Bel W ((w10.alloc (.cells #[.slice a4 L3.length c4] 25)).alloc (.cells #[.int .i64 s4.x0, .bool s4.x1, .int .i64 s4.x2, .int .i64 s4.x3, .int .i64 s4.x4] 35)) ∧ Errs ((w10.alloc (.cells #[.slice a4 L3.length c4] 25)).alloc (.cells #[.int .i64 s4.x0, .bool s4.x1, .int .i64 s4.x2, .int .i64 s4.x3, .int .i64 s4.x4] 35)) p q ∧ Own 35 5 cells ((w10.alloc (.cells #[.slice a4 L3.length c4] 25)).alloc (.cells #[.int .i64 s4.x0, .bool s4.x1, .int .i64 s4.x2, .int .i64 s4.x3, .int .i64 s4.x4] 35)) aL L ∧ boxB ((w10.alloc (.cells #[.slice a4 L3.length c4] 25)).alloc (.cells #[.int .i64 s4.x0, .bool s4.x1, .int .i64 s4.x2, .int .i64 s4.x3, .int .i64 s4.x4] 35)) w1.heap.size #[.slice aL L.length cL] 25 ∧ Own 35 5 cells ((w10.alloc (.cells #[.slice a4 L3.length c4] 25)).alloc (.cells #[.int .i64 s4.x0, .bool s4.x1, .int .i64 s4.x2, .int .i64 s4.x3, .int .i64 s4.x4] 35)) a2 L2 ∧ boxB ((w10.alloc (.cells #[.slice a4 L3.length c4] 25)).alloc (.cells #[.int .i64 s4.x0, .bool s4.x1, .int .i64 s4.x2, .int .i64 s4.x3, .int .i64 s4.x4] 35)) w2.heap.size #[.slice a2 L2.length c2] 25 ∧ boxB ((w10.alloc (.cells #[.slice a4 L3.length c4] 25)).alloc (.cells #[.int .i64 s4.x0, .bool s4.x1, .int .i64 s4.x2, .int .i64 s4.x3, .int .i64 s4.x4] 35)) (w2.heap.size + 1) #[.int .i64 (k : Int), .int .i64 G7] 28 ∧ boxB ((w10.alloc (.cells #[.slice a4 L3.length c4] 25)).alloc (.cells #[.int .i64 s4.x0, .bool s4.x1, .int .i64 s4.x2, .int .i64 s4.x3, .int .i64 s4.x4] 35)) w7.heap.size #[.int .i64 (k : Int), .int .i64 G7] 28 ∧ Own 35 5 cells ((w10.alloc (.cells #[.slice a4 L3.length c4] 25)).alloc (.cells #[.int .i64 s4.x0, .bool s4.x1, .int .i64 s4.x2, .int .i64 s4.x3, .int .i64 s4.x4] 35)) a3 L3 ∧ boxB ((w10.alloc (.cells #[.slice a4 L3.length c4] 25)).alloc (.cells #[.int .i64 s4.x0, .bool s4.x1, .int .i64 s4.x2, .int .i64 s4.x3, .int .i64 s4.x4] 35)) w9.heap.size #[.slice a3 L3.length c3] 25 ∧ boxB ((w10.alloc (.cells #[.slice a4 L3.length c4] 25)).alloc (.cells #[.int .i64 s4.x0, .bool s4.x1, .int .i64 s4.x2, .int .i64 s4.x3, .int .i64 s4.x4] 35)) (w9.heap.size + 1) #[.int .i64 G7, .bool true, .int .i64 777, .int .i64 3, .int .i64 40] 35 ∧ boxB ((w10.alloc (.cells #[.slice a4 L3.length c4] 25)).alloc (.cells #[.int .i64 s4.x0, .bool s4.x1, .int .i64 s4.x2, .int .i64 s4.x3, .int .i64 s4.x4] 35)) w10.heap.size #[.slice a4 L3.length c4] 25 ∧ boxB ((w10.alloc (.cells #[.slice a4 L3.length c4] 25)).alloc (.cells #[.int .i64 s4.x0, .bool s4.x1, .int .i64 s4.x2, .int .i64 s4.x3, .int .i64 s4.x4] 35)) (w10.heap.size + 1) #[.int .i64 s4.x0, .bool s4.x1, .int .i64 s4.x2, .int .i64 s4.x3, .int .i64 s4.x4] 35) := ⟨H9.out.1.below (b10.trans ((n2 w10 _ _).mono b10.size)), H9.out.2.1.below (b10.trans ((n2 w10 _ _).mono b10.size)), H9.out.2.2.1.below (b10.trans ((n2 w10 _ _).mono b10.size)), H9.out.2.2.2.1.below (b10.trans ((n2 w10 _ _).mono b10.size)), H9.out.2.2.2.2.1.below (b10.trans ((n2 w10 _ _).mono b10.size)), H9.out.2.2.2.2.2.1.below (b10.trans ((n2 w10 _ _).mono b10.size)), H9.out.2.2.2.2.2.2.1.below (b10.trans ((n2 w10 _ _).mono b10.size)), H9.out.2.2.2.2.2.2.2.1.below (b10.trans ((n2 w10 _ _).mono b10.size)), H9.out.2.2.2.2.2.2.2.2.1.below (b10.trans ((n2 w10 _ _).mono b10.size)), H9.out.2.2.2.2.2.2.2.2.2.1.below (b10.trans ((n2 w10 _ _).mono b10.size)), H9.out.2.2.2.2.2.2.2.2.2.2.below (b10.trans ((n2 w10 _ _).mono b10.size)), (boxB.new _ _ _).below (n1 _ _), new2 _ _ _ _⟩
      clear c0 d0 d1 b10 o4 q4 H9
      go_upto_region 19 with fail
      generalize ((w10.alloc (.cells #[.slice a4 L3.length c4] 25)).alloc (.cells #[.int .i64 s4.x0, .bool s4.x1, .int .i64 s4.x2, .int .i64 s4.x3, .int .i64 s4.x4] 35)) = w11 at *
      have x0_0 := H10.out.2.2.2.1.cell 0
      have X0_0 := Near.cell x0_0
      clear x0_0
      have x1_0 := H10.out.2.2.2.2.2.2.2.1.cell 0
      have x1_1 := H10.out.2.2.2.2.2.2.2.1.cell 1
      have X1_0 := Near.cell x1_0
      clear x1_0
      have X1_1 := Near.cell x1_1
      clear x1_1
      have x2_0 := H10.out.2.2.2.2.2.2.1.cell 0
      have x2_1 := H10.out.2.2.2.2.2.2.1.cell 1
      have X2_0 := Near.cell x2_0
      clear x2_0
      have X2_1 := Near.cell x2_1
      clear x2_1
      have x3_0 := H10.out.2.2.2.2.2.2.2.2.2.1.cell 0
      have X3_0 := Near.cell x3_0
      clear x3_0
      have x4_0 := H10.out.2.2.2.2.2.2.2.2.2.2.1.cell 0
      have x4_1 := H10.out.2.2.2.2.2.2.2.2.2.2.1.cell 1
      have x4_2 := H10.out.2.2.2.2.2.2.2.2.2.2.1.cell 2
      have x4_3 := H10.out.2.2.2.2.2.2.2.2.2.2.1.cell 3
      have x4_4 := H10.out.2.2.2.2.2.2.2.2.2.2.1.cell 4
      have X4_0 := Near.cell x4_0
      clear x4_0
      have X4_1 := Near.cell x4_1
      clear x4_1
      have X4_2 := Near.cell x4_2
      clear x4_2
      have X4_3 := Near.cell x4_3
      clear x4_3
      have X4_4 := Near.cell x4_4
      clear x4_4
      have x5_0 := H10.out.2.2.2.2.2.2.2.2.2.2.2.1.cell 0
      have X5_0 := Near.cell x5_0
      clear x5_0
      have near := Near.is w11
      refine wp_region_near (by kernel_rfl) (by kernel_rfl) ?_
      repeat (go_big_quiet_step (first | (go_at_call 6; exact near_call (HLO3 _ a3 c3 (H10.out.2.2.2.2.2.2.2.2.1.below (Near.near _)) hc3)) | (go_at_call 7; first | exact near_call (HF3 _ a3 c3 (H10.out.2.2.2.2.2.2.2.2.1.below (Near.near _))) | exact near_call (HF1 _ (H10.out.2.2.1.below (Near.near _))))))
      refine wpQuiet_nil ?_
      intro wx hwx
      obtain ⟨y, hy⟩ := hwx
      subst hy
      go_wp2
      go_ret
      exact ⟨rfl, H10.out.1.below y.near⟩

theorem walk (W : World) (a : Option Addr) (len cap : Nat) (zs : List Int) (h : IsRow .u8 W a len cap zs) (p q : Addr) (he : Errs W p q) :
    Calls Tryd.prog 3 #[.slice a len cap] W fun e w' => e = .returned (.bool true) ∧ Below W.heap.size W w' := by
  have hm := row_len h
  by_cases hl : (len : Int) ≤ 1048576
  · exact walk_in a len cap W hl (code_of h) p q he
  · clear h he
    have hl2 : (1048576 : Int) < (len : Int) := by omega
    go_enter Tryd.func3, Tryd.ntmps3
    go_wp2
    go_ret
    exact ⟨rfl, Below.refl _ _⟩

theorem own : ownKnob Tryd.prog.godebug = none := by kernel_rfl
theorem laidOut : laidOutB Tryd.prog = true := by kernel_rfl
theorem gW : Tryd.prog.globalNamed "loop.example/g00685/impl.errWrongLedger" = some 1 := by kernel_rfl
theorem gP : Tryd.prog.globalNamed "loop.example/g00685/impl.errPermitGone" = some 0 := by kernel_rfl
theorem gWType : (Tryd.prog.globals[1]?).map (·.type) = some 50 := by kernel_rfl
theorem gPType : (Tryd.prog.globals[0]?).map (·.type) = some 50 := by kernel_rfl
theorem cellsE : Tryd.prog.cellsOf 108 = 1 := by kernel_rfl
theorem cellsS : Tryd.prog.cellsOf 9 = 1 := by kernel_rfl
theorem star : "*" ++ "errors.errorString" = "*errors.errorString" := by decide
theorem rowE (u : TypeId) (h : Tryd.prog.typeName? 3 u = some "*errors.errorString") : u = 82 :=
  typeName_ptr_named (nm := "errors.errorString") (by rw [star]; kernel_rfl) (by kernel_rfl) (by decide) u (by rw [star]; exact h)

/-- The plain wrap with a condition on the world, the world's shape kept. -/
theorem wrap_and_shaped {H : Type} {enc : TypeId × Value → H} {a : Assume} {C : Checked} {os : Os} {f : FuncId} {fn : Func} {s : ChangeSpec} {conds : List PathCond} {apart fresh handsOn again : Bool} {X : World → Array Value → Prop}
    (hX : ∀ (w w' : World) (args : Array Value), w.heap = w'.heap → X w args → X w' args)
    (own : ownKnob C.prog.godebug = none) (started : os.Started) (noInit : C.prog.inits.idxOf? f = none) (hfn : C.prog.funcs[f]? = some fn)
    (witness : ∃ (w : World) (tape : Tape) (i : Input), w.os = os ∧ (w.forCall tape i).Shaped C.prog ∧ i.vars = [] ∧ Input.okWide C.prog (w.forCall tape i) .any w.heap.size f i ∧
      ((s.pre enc C.prog fn conds apart (w.forCall tape i).memory i.args ∧ X (w.forCall tape i).memory i.args) ∧ sizedMet enc C.prog fn (OpenSpec.ofChange s) apart (w.forCall tape i).memory i.args) ∧ a.holds C.prog (lone (Frame.enter C.prog f i.args .normal) [] (w.forCall tape i)))
    (contract : ∀ (W : World) (base : Nat) (args : Array Value) (ds gs : List (DataW H)) (before : List MemPlace),
      (∀ (j : Nat) t v, fn.params[j]? = some t → args[j]? = some v → Value.okWide C.prog W .any base t v) →
      DataW.Whole enc C.prog fn.params.toList s.vars apart W args.toList ds gs before → X W args →
      Calls C.prog f args W fun e W' => ∃ v, e = .returned v ∧ s.post enc C.prog fn apart fresh handsOn again W args v W') :
    ReturnsInHanded a C os f .any (fun w args => (s.pre enc C.prog fn conds apart w args ∧ X w args) ∧ sizedMet enc C.prog fn (OpenSpec.ofChange s) apart w args) (s.post enc C.prog fn apart fresh handsOn again) := by
  refine returnsInHanded_of_calls own started noInit witness ?_
  intro w tape i _ hsh _ hok hpre hholds
  obtain ⟨_, _, _, fn', hfn', _, _, _, _, hval⟩ := hok
  have e : fn' = fn := Option.some.inj (hfn'.symm.trans hfn)
  subst e
  obtain ⟨⟨⟨ds, gs, before, hw, hc⟩, hx⟩, hz⟩ := hpre
  have hw' := DataW.Whole.of_heap (w' := w.forCall tape i) (by rfl) hw
  refine (contract (w.forCall tape i) w.heap.size i.args ds gs before hval hw' (hX _ _ _ (by rfl) hx)).mono fun e W' ⟨v, he, hp⟩ => ?_
  subst he
  exact ChangeSpec.post_blind hp

set_option maxRecDepth 100000 in
theorem lifted (os : Os) (started : os.Started) (H : Type) (enc : TypeId × Value → H) :
    ReturnsInHanded {} Tryd.checked os 3 .any (fun w args => (Rows.fnLedgerSpec.pre enc Tryd.prog Tryd.f3 Rows.fnLedgerRow.domain false w args ∧ laidMetH Tryd.prog Rows.fnLedgerRow.laid w) ∧ sizedMet enc Tryd.prog Tryd.f3 (OpenSpec.ofChange Rows.fnLedgerSpec) false w args)
      (Rows.fnLedgerSpec.post enc Tryd.prog Tryd.f3 false true false false) := by
  refine wrap_and_shaped (C := Tryd.checked) (X := fun w _ => laidMetH Tryd.prog Rows.fnLedgerRow.laid w) (fun _ _ _ hh h => h.of_heap hh) own started (by kernel_rfl) Tryd.func3
    (ChangeSpec.witness_shaped (enc := enc) (C := Tryd.checked) (os := os) (X := fun w _ => laidMetH Tryd.prog Rows.fnLedgerRow.laid w) false (World.laidAll Tryd.prog os Rows.fnLedgerRow.laid) #[.slice none 0 0] 8 (World.laidAll_os _ _ _)
      (World.shaped_of_ZipB (by kernel_rfl) (by kernel_rfl)) (by kernel_rfl) (by kernel_rfl) (by kernel_rfl)
      (by rw [MakeChecks.laidMetH_plain _ _ _ (by kernel_rfl)]; exact laidMet_laidAll _ (by kernel_rfl) (by kernel_rfl))) ?_
  intro W base args ds gs before hval0 hW hL
  rw [MakeChecks.laidMetH_plain _ _ _ (by kernel_rfl)] at hL
  have hval : ∀ (j : Nat) t v, Tryd.f3.params[j]? = some t → args[j]? = some v → Value.okWide Tryd.prog W .any base t v := hval0
  have hW' := hW
  obtain ⟨p, q, hA0, hV0, rfl, hfz, hnd⟩ := hW
  have hA : DataW.TrodAll enc Tryd.prog W 0 (fun _ => true) true Tryd.f3.params.toList args.toList ds p := hA0
  have hV : DataW.TrodVars enc Tryd.prog W (fun _ => true) ["loop.example/g00685/impl.errPermitGone", "loop.example/g00685/impl.errWrongLedger"] gs q := hV0
  rw [Tryd.params3] at hA hval
  obtain ⟨v0, vs0, d0, ds0, p0, q0, hargs, rfl, rfl, h0, r0⟩ := trodAll_cons hA
  obtain ⟨rfl, rfl, rfl⟩ := trodAll_nil r0
  obtain rfl : args = #[v0] := by cases args; simp_all
  obtain ⟨G0, G1, rfl⟩ : ∃ G0 G1, gs = [G0, G1] := by
    match gs, hV with
    | [], h => exact h.elim
    | [_], h => obtain ⟨_, _, _, _, _, _, _, _, _, _, h2, _⟩ := h; exact h2.elim
    | [a, b], _ => exact ⟨a, b, rfl⟩
    | _ :: _ :: _ :: _, h => obtain ⟨_, _, _, _, _, _, _, _, _, _, h2, _⟩ := h; obtain ⟨_, _, _, _, _, _, _, _, _, _, h3, _⟩ := h2; exact h3.elim
  have k0 := h0
  have lt0 : ∀ x ∈ p0, x.block < W.heap.size := by obtain ⟨m, hm⟩ := k0; exact DataW.trod_lt m _ _ _ hm
  obtain ⟨a0, len0, cap0, rfl⟩ := okWide_slice Tryd.underlying22 (hval 0 22 v0 rfl rfl)
  obtain ⟨z0, w0⟩ : ∃ zs, IsRow .u8 W a0 len0 cap0 zs := by
    obtain ⟨fuel, hf⟩ := h0
    rcases open_ints Tryd.underlying22 Tryd.underlying5 (by kernel_rfl) hf with ⟨hcs, _⟩ | ⟨x, l, c, zs, hcs, _, hl, hm, hz, _, hcell, hwz⟩
    · simp [Value.cells] at hcs
      obtain ⟨rfl, rfl, rfl⟩ := hcs
      exact ⟨[], .inl ⟨rfl, rfl, rfl, rfl⟩⟩
    · simp [Value.cells] at hcs
      obtain ⟨rfl, rfl, rfl⟩ := hcs
      exact ⟨zs, .inr ⟨_, rfl, hl, hm, by simpa using hz, hcell, hwz⟩⟩
  obtain ⟨b0, b1, s0, s1, c0, c1, t0, t1, hv0, hv1, hc0, hs0, hz0, hc1, hs1, hz1, hne, hb0, hb1⟩ := laid_sentinels2 hL gW gWType gP gPType Tryd.underlying50 rowE Tryd.underlying82 Tryd.underlying108 rfl rfl Tryd.underlying9 cellsE cellsS
  have hE : Errs W b1 b0 := ⟨by simpa using World.var?_cell gP hv1 0, by simpa using World.var?_cell gW hv0 0, hne, ⟨c1, t1, hb1⟩, ⟨c0, t0, hb0⟩⟩
  clear hA0 hval0 hV0
  refine (walk W a0 len0 cap0 z0 w0 b1 b0 hE).mono fun e W' ⟨he, hb⟩ => ?_
  subst he
  exact ⟨_, rfl, _, _, _, [], _, _, hW', trodAll_cons_mk (shut_bool Tryd.underlying4 _) trodAll_mk0, (trodAll_cons_mk (Below.trod laidOut (by kernel_rfl) (of_decide_eq_true (by kernel_rfl)) k0 hb lt0) trodAll_mk0), Below.trodVars laidOut hb (by kernel_rfl) hV, hb.frame _, fun h => by cases h⟩

theorem over : Rows.fnLedgerRow.holds Tryd.pinned (OpenSpec.ofChange Rows.fnLedgerSpec) :=
  OpenClaim.holds_of_wide 3 Tryd.f3 rfl rfl rfl rfl rfl rfl rfl ⟨rfl, rfl, rfl, rfl, rfl⟩ rfl rfl rfl rfl rfl (by kernel_rfl) Tryd.func3 (by kernel_rfl)
    (of_decide_eq_true (by kernel_rfl)) (by unfold Func.isWrapper; first | (rw [if_pos (by decide +kernel)]; kernel_rfl) | (rw [if_neg (by decide +kernel)]; exact ⟨rfl, rfl⟩))
    (fun os started H enc _ => lifted os started H enc)

theorem proved : Rows.FnLedgerCardSaid :=
  Claim7.holds_tied_plain_at .later [] [.sentinel, .sentinel] true (true, "26714c1fcbece57b8dc8cd02ace0e922465478ac0a425469ceb5480edeb3ae41") true over (fun _ h => by cases h) (by kernel_rfl) (fun _ h => by cases h) fnLedger_row_tie rfl ⟨rfl, rfl⟩ (by kernel_rfl) rfl
    (fun f fn hf hfn => by
      obtain rfl : f = 3 := Option.some.inj ((show Tryd.prog.funcNamed "loop.example/g00685/laws.FnLedger" = some 3 by kernel_rfl).symm.trans hf) |>.symm
      obtain rfl : fn = Tryd.f3 := (Option.some.inj (Tryd.func3.symm.trans hfn)).symm
      exact ⟨by kernel_rfl, fun j t ht => by
        rw [Tryd.params3] at ht
        have hm : t ∈ [22] := by simpa using Array.mem_of_getElem? ht
        have hall : ([22].all fun u => !Tryd.prog.wantsStandIn u) = true := by kernel_rfl
        exact (show Tryd.prog.wantsStandIn t = false by simpa using List.all_eq_true.1 hall t hm)⟩)
    (by kernel_rfl)

end Go.Proofs.YtacpblhajoblmaaDoor.fnLedger
