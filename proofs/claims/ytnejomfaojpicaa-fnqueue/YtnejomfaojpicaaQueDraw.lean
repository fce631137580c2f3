/- Requests and queues as the model draws them: right, small, in memory of their own; nothing else turns but the cursor. -/
import Derived.Test.YtnejomfaojpicaaRows
import Derived.WalkKit
import Derived.WalkSmall
import Derived.BigQuiet
import Derived.Deep.RegionWith
import Derived.Deep.DeepCutAuto
import Derived.Deep.RegionHeld3
import Derived.Test.YtnejomfaojpicaaListKit
import Derived.Test.YtnejomfaojpicaaHoldKit
import Derived.Test.YtnejomfaojpicaaGrowKit
import Derived.Test.YtnejomfaojpicaaReqKit
import Derived.Test.YtnejomfaojpicaaReqOks
import Derived.Test.YtnejomfaojpicaaQueMath
import Derived.Test.YtnejomfaojpicaaQueMiscS
import Derived.Test.YtnejomfaojpicaaQueOkS
import Derived.Test.YtnejomfaojpicaaQueTierS
import Derived.Test.YtnejomfaojpicaaQueOutS
import Derived.Test.YtnejomfaojpicaaQueCopyS
import Derived.Test.YtnejomfaojpicaaQuePullS
import Derived.Test.YtnejomfaojpicaaQueWorst
import Derived.Test.YtnejomfaojpicaaQueOfferS
import Derived.Test.YtnejomfaojpicaaQueDelI
import Derived.Test.YtnejomfaojpicaaQueOfferI
import Derived.Test.YtnejomfaojpicaaQueGood
import Derived.Test.YtnejomfaojpicaaDrawWalks
import Derived.Test.YtnejomfaojpicaaCodeArg
import Derived.Test.YtnejomfaojpicaaDrawKit
namespace Go.Proofs.Ytnejomfaojpicaa.QueDraw
open Go.RowKit ListKit HoldKit GrowKit QueMath QueMiscS QuePullS QueDelI QueOfferS QueOfferI QueGood DrawKit
set_option maxRecDepth 8000
set_option linter.unusedVariables false
set_option linter.unusedSimpArgs false

theorem kept_box {W W2 : World} {N g : Nat} {cs : Array Value} {t : TypeId} (h : boxB W N cs t) (hne : N ≠ g) (gr : W.grownBy W2 (some g)) : boxB W2 N cs t := kept_draw h hne gr
/-- A drawn request. -/
def DReq (s : ReqKit.Req) : Prop := 1 ≤ s.x0 ∧ s.x0 ≤ 30 ∧ 0 ≤ s.x1 ∧ s.x1 < 3 ∧ 0 ≤ s.x2 ∧ s.x2 < 3 ∧ 0 ≤ s.x3 ∧ s.x3 ≤ 400 ∧ 0 ≤ s.x4 ∧ s.x4 < 200 ∧ 0 ≤ s.x5 ∧ s.x5 ≤ 2
def RqAns (w W : World) (g : Nat) (a : Option Addr) (n cap : Nat) (e : Ending) (w' : World) : Prop := ∃ x0 x1 x2 x3 x4 x5 : Int, e = .returned (.agg #[.int .i64 x0, .int .i64 x1, .int .i64 x2, .int .i64 x3, .int .i64 x4, .int .i64 x5]) ∧ DReq ⟨x0, x1, x2, x3, x4, x5⟩ ∧ Ready w w' g a n cap ∧ W.grownBy w' (some g)

set_option maxHeartbeats 8000000 in
theorem draw_req (w W : World) (g : Nat) (a : Option Addr) (n cap : Nat) (h : Ready w W g a n cap) : Calls Try.prog 12 #[.pointer (some ⟨g, 0, none⟩)] W (RqAns w W g a n cap) := by
  have hlow := h.lt
  have hww := h.past.size
  have H0 : Hid (Ready w (W.alloc (.cells #[.int .i64 0, .int .i64 0, .int .i64 0, .int .i64 0, .int .i64 0, .int .i64 0] 27)) g a n cap ∧ W.grownBy (W.alloc (.cells #[.int .i64 0, .int .i64 0, .int .i64 0, .int .i64 0, .int .i64 0, .int .i64 0] 27)) (some g) ∧ boxB (W.alloc (.cells #[.int .i64 0, .int .i64 0, .int .i64 0, .int .i64 0, .int .i64 0, .int .i64 0] 27)) W.heap.size #[.int .i64 0, .int .i64 0, .int .i64 0, .int .i64 0, .int .i64 0, .int .i64 0] 27) := ⟨h.alloc _, gr_alloc (gr_refl _) _, boxB.new _ _ _⟩
  clear h
  go_enter Try.func12, Try.ntmps12
  go_wp2_with fail
  refine (draw w _ g a n cap 30 H0.out.1 (by omega) (by omega)).mono ?_
  rintro e w1 ⟨y1, rfl, ya1, yb1, rd, gr⟩
  have H1 : Hid (Ready w w1 g a n cap ∧ W.grownBy w1 (some g) ∧ boxB w1 W.heap.size #[.int .i64 0, .int .i64 0, .int .i64 0, .int .i64 0, .int .i64 0, .int .i64 0] 27) := ⟨rd, gr_then H0.out.2.1 gr, kept_box H0.out.2.2 (by omega) gr⟩
  clear rd gr H0
  have wr1 : IntKind.i64.wrap (1 + y1) = 1 + y1 := by rw [IntKind.wrap_i64]; omega
  go_wp2_with fail
  refine (draw w _ g a n cap 3 H1.out.1 (by omega) (by omega)).mono ?_
  rintro e w2 ⟨y2, rfl, ya2, yb2, rd, gr⟩
  have H2 : Hid (Ready w w2 g a n cap ∧ W.grownBy w2 (some g) ∧ boxB w2 W.heap.size #[.int .i64 0, .int .i64 0, .int .i64 0, .int .i64 0, .int .i64 0, .int .i64 0] 27) := ⟨rd, gr_then H1.out.2.1 gr, kept_box H1.out.2.2 (by omega) gr⟩
  clear rd gr H1
  go_wp2_with fail
  refine (draw w _ g a n cap 3 H2.out.1 (by omega) (by omega)).mono ?_
  rintro e w3 ⟨y3, rfl, ya3, yb3, rd, gr⟩
  have H3 : Hid (Ready w w3 g a n cap ∧ W.grownBy w3 (some g) ∧ boxB w3 W.heap.size #[.int .i64 0, .int .i64 0, .int .i64 0, .int .i64 0, .int .i64 0, .int .i64 0] 27) := ⟨rd, gr_then H2.out.2.1 gr, kept_box H2.out.2.2 (by omega) gr⟩
  clear rd gr H2
  go_wp2_with fail
  refine (draw w _ g a n cap 200 H3.out.1 (by omega) (by omega)).mono ?_
  rintro e w4 ⟨y4, rfl, ya4, yb4, rd, gr⟩
  have H4 : Hid (Ready w w4 g a n cap ∧ W.grownBy w4 (some g) ∧ boxB w4 W.heap.size #[.int .i64 0, .int .i64 0, .int .i64 0, .int .i64 0, .int .i64 0, .int .i64 0] 27) := ⟨rd, gr_then H3.out.2.1 gr, kept_box H3.out.2.2 (by omega) gr⟩
  clear rd gr H3
  obtain ⟨B3, hB3⟩ : ∃ B3, w4.heap.size = B3 := ⟨_, rfl⟩
  have hgs := H4.out.2.1.size
  have hlt4 := H4.out.2.2.lt
  have H5 : Hid (Ready w (w4.alloc (.cells #[.int .i64 (1 + y1), .int .i64 y2, .int .i64 y3, .int .i64 0, .int .i64 y4, .int .i64 0] 27)) g a n cap ∧ W.grownBy (w4.alloc (.cells #[.int .i64 (1 + y1), .int .i64 y2, .int .i64 y3, .int .i64 0, .int .i64 y4, .int .i64 0] 27)) (some g) ∧ boxB (w4.alloc (.cells #[.int .i64 (1 + y1), .int .i64 y2, .int .i64 y3, .int .i64 0, .int .i64 y4, .int .i64 0] 27)) W.heap.size #[.int .i64 0, .int .i64 0, .int .i64 0, .int .i64 0, .int .i64 0, .int .i64 0] 27 ∧ boxB (w4.alloc (.cells #[.int .i64 (1 + y1), .int .i64 y2, .int .i64 y3, .int .i64 0, .int .i64 y4, .int .i64 0] 27)) B3 #[.int .i64 (1 + y1), .int .i64 y2, .int .i64 y3, .int .i64 0, .int .i64 y4, .int .i64 0] 27) := by
    have h9 := boxB.new w4 #[.int .i64 (1 + y1), .int .i64 y2, .int .i64 y3, .int .i64 0, .int .i64 y4, .int .i64 0] 27
    rw [hB3] at h9
    exact ⟨H4.out.1.alloc _, gr_alloc H4.out.2.1 _, H4.out.2.2.below (n1 _ _), h9⟩
  clear H4
  go_upto_region 2 with fail
  try rw [hB3]
  rw [hB3] at hgs hlt4
  clear hB3
  generalize (w4.alloc (.cells #[.int .i64 (1 + y1), .int .i64 y2, .int .i64 y3, .int .i64 0, .int .i64 y4, .int .i64 0] 27)) = w5 at *
  go_wp2_with fail
  refine (draw w _ g a n cap 2 H5.out.1 (by omega) (by omega)).mono ?_
  rintro e w6 ⟨y5, rfl, ya5, yb5, rd, gr⟩
  have H6 : Hid (Ready w w6 g a n cap ∧ W.grownBy w6 (some g) ∧ boxB w6 W.heap.size #[.int .i64 0, .int .i64 0, .int .i64 0, .int .i64 0, .int .i64 0, .int .i64 0] 27 ∧ boxB w6 B3 #[.int .i64 (1 + y1), .int .i64 y2, .int .i64 y3, .int .i64 0, .int .i64 y4, .int .i64 0] 27) := ⟨rd, gr_then H5.out.2.1 gr, kept_box H5.out.2.2.1 (by omega) gr, kept_box H5.out.2.2.2 (by omega) gr⟩
  clear rd gr H5
  by_cases e5 : y5 = 0
  · have t5 : (y5 == 0) = true := by simpa using e5
    clear e5
    have S0 : Hid (w6.drew.cell? ⟨B3, 4, none⟩ = some (.int .i64 y4)) := H6.out.2.2.2.cell 4
    go_wp2_with fail
    go_region_held3 (fun w' => w'.cell? ⟨B3, 4, none⟩ = some (.int .i64 y4)) (first | with_reducible exact S0.out | with_reducible exact S8.out | with_reducible exact S9.out | go_keep) ((go_at_call 23; refine (draw w _ g a n cap 120 H6.out.1.drew (by omega) (by omega)).mono ?_; rintro e w8 ⟨y6, rfl, ya6, yb6, rd, gr0⟩; have gr := undrew gr0; have H8 : Hid (Ready w w8 g a n cap ∧ W.grownBy w8 (some g) ∧ boxB w8 W.heap.size #[.int .i64 0, .int .i64 0, .int .i64 0, .int .i64 0, .int .i64 0, .int .i64 0] 27 ∧ boxB w8 B3 #[.int .i64 (1 + y1), .int .i64 y2, .int .i64 y3, .int .i64 0, .int .i64 y4, .int .i64 0] 27) := ⟨rd, gr_then H6.out.2.1 gr, kept_box H6.out.2.2.1 (by omega) gr, kept_box H6.out.2.2.2 (by omega) gr⟩; have S8 : Hid (w8.cell? ⟨B3, 4, none⟩ = some (.int .i64 y4)) := H8.out.2.2.2.cell 4; have S9 : Hid ((w8.setCell ⟨B3, 3, none⟩ (.int .i64 (y4 + y6))).cell? ⟨B3, 4, none⟩ = some (.int .i64 y4)) := (H8.out.2.2.2.set 3 _).cell 4; have wr6 : IntKind.i64.wrap (y4 + y6) = y4 + y6 := (by rw [IntKind.wrap_i64]; omega); have b3 := H8.out.2.2.2.cell 3; have z3 := fzB H8.out.2.2.2 3; clear rd gr gr0))
    all_goals
      have HB : Hid (Ready w (w8.setCell ⟨B3, 3, none⟩ (.int .i64 (y4 + y6))) g a n cap ∧ W.grownBy (w8.setCell ⟨B3, 3, none⟩ (.int .i64 (y4 + y6))) (some g) ∧ boxB (w8.setCell ⟨B3, 3, none⟩ (.int .i64 (y4 + y6))) W.heap.size #[.int .i64 0, .int .i64 0, .int .i64 0, .int .i64 0, .int .i64 0, .int .i64 0] 27 ∧ boxB (w8.setCell ⟨B3, 3, none⟩ (.int .i64 (y4 + y6))) B3 #[.int .i64 (1 + y1), .int .i64 y2, .int .i64 y3, .int .i64 (y4 + y6), .int .i64 y4, .int .i64 0] 27) := ⟨H8.out.1.set (by show g ≠ B3; omega) (by show w.heap.size ≤ B3; omega) _, gr_set H8.out.2.1 (by show W.heap.size ≤ B3; omega) _, H8.out.2.2.1.else (by show W.heap.size ≠ B3; omega) _, H8.out.2.2.2.set 3 _⟩
      clear H8 H6 S0 S8 S9 b3 z3
      generalize (w8.setCell ⟨B3, 3, none⟩ (.int .i64 (y4 + y6))) = wB at *
      go_wp2_with fail
      refine (draw w _ g a n cap 4 HB.out.1 (by omega) (by omega)).mono ?_
      rintro e w7 ⟨y7, rfl, ya7, yb7, rd, gr⟩
      have H7 : Hid (Ready w w7 g a n cap ∧ W.grownBy w7 (some g) ∧ boxB w7 W.heap.size #[.int .i64 0, .int .i64 0, .int .i64 0, .int .i64 0, .int .i64 0, .int .i64 0] 27 ∧ boxB w7 B3 #[.int .i64 (1 + y1), .int .i64 y2, .int .i64 y3, .int .i64 (y4 + y6), .int .i64 y4, .int .i64 0] 27) := ⟨rd, gr_then HB.out.2.1 gr, kept_box HB.out.2.2.1 (by omega) gr, kept_box HB.out.2.2.2 (by omega) gr⟩
      clear rd gr HB
      by_cases e7 : y7 = 0
      · have t7 : (y7 == 0) = true := by simpa using e7
        clear e7
        go_wp2_with fail
        refine (draw w _ g a n cap 2 H7.out.1 (by omega) (by omega)).mono ?_
        rintro e w8 ⟨y8, rfl, ya8, yb8, rd, gr⟩
        have H8 : Hid (Ready w w8 g a n cap ∧ W.grownBy w8 (some g) ∧ boxB w8 W.heap.size #[.int .i64 0, .int .i64 0, .int .i64 0, .int .i64 0, .int .i64 0, .int .i64 0] 27 ∧ boxB w8 B3 #[.int .i64 (1 + y1), .int .i64 y2, .int .i64 y3, .int .i64 (y4 + y6), .int .i64 y4, .int .i64 0] 27) := ⟨rd, gr_then H7.out.2.1 gr, kept_box H7.out.2.2.1 (by omega) gr, kept_box H7.out.2.2.2 (by omega) gr⟩
        have wr8 : IntKind.i64.wrap (1 + y8) = 1 + y8 := by rw [IntKind.wrap_i64]; omega
        have z5 := fzB H8.out.2.2.2 5
        have b0 := H8.out.2.2.2.cell 0
        have b1 := H8.out.2.2.2.cell 1
        have b2 := H8.out.2.2.2.cell 2
        have b3 := H8.out.2.2.2.cell 3
        have b4 := H8.out.2.2.2.cell 4
        have b5 := H8.out.2.2.2.cell 5
        clear rd gr H7
        go_upto_region 6 with fail
        have H9 : Hid (Ready w (w8.setCell ⟨B3, 5, none⟩ (.int .i64 (1 + y8))) g a n cap ∧ W.grownBy (w8.setCell ⟨B3, 5, none⟩ (.int .i64 (1 + y8))) (some g) ∧ boxB (w8.setCell ⟨B3, 5, none⟩ (.int .i64 (1 + y8))) W.heap.size #[.int .i64 0, .int .i64 0, .int .i64 0, .int .i64 0, .int .i64 0, .int .i64 0] 27 ∧ boxB (w8.setCell ⟨B3, 5, none⟩ (.int .i64 (1 + y8))) B3 #[.int .i64 (1 + y1), .int .i64 y2, .int .i64 y3, .int .i64 (y4 + y6), .int .i64 y4, .int .i64 (1 + y8)] 27) := ⟨H8.out.1.set (by show g ≠ B3; omega) (by show w.heap.size ≤ B3; omega) _, gr_set H8.out.2.1 (by show W.heap.size ≤ B3; omega) _, H8.out.2.2.1.else (by show W.heap.size ≠ B3; omega) _, H8.out.2.2.2.set 5 _⟩
        clear H8 b0 b1 b2 b3 b4 b5 z5
        generalize (w8.setCell ⟨B3, 5, none⟩ (.int .i64 (1 + y8))) = w9 at *
        have b0 := H9.out.2.2.2.cell 0
        have b1 := H9.out.2.2.2.cell 1
        have b2 := H9.out.2.2.2.cell 2
        have b3 := H9.out.2.2.2.cell 3
        have b4 := H9.out.2.2.2.cell 4
        have b5 := H9.out.2.2.2.cell 5
        have d0 := H9.out.2.2.1.cell 0
        have f0 := fzB H9.out.2.2.1 0
        have d1 := H9.out.2.2.1.cell 1
        have f1 := fzB H9.out.2.2.1 1
        have d2 := H9.out.2.2.1.cell 2
        have f2 := fzB H9.out.2.2.1 2
        have d3 := H9.out.2.2.1.cell 3
        have f3 := fzB H9.out.2.2.1 3
        have d4 := H9.out.2.2.1.cell 4
        have f4 := fzB H9.out.2.2.1 4
        have d5 := H9.out.2.2.1.cell 5
        have f5 := fzB H9.out.2.2.1 5
        go_wp2
        refine bodyPost_ret (v := .agg #[.int .i64 (1 + y1), .int .i64 y2, .int .i64 y3, .int .i64 (y4 + y6), .int .i64 y4, .int .i64 (1 + y8)]) (by simp [results, Try.results12, go_sem, d0, d1, d2, d3, d4, d5]) rfl ⟨(1 + y1), y2, y3, (y4 + y6), y4, (1 + y8), rfl, by unfold DReq; dsimp only; omega, ?_, ?_⟩
        · exact ((((((H9.out.1).set (by show g ≠ W.heap.size; omega) (by show w.heap.size ≤ W.heap.size; omega) _).set (by show g ≠ W.heap.size; omega) (by show w.heap.size ≤ W.heap.size; omega) _).set (by show g ≠ W.heap.size; omega) (by show w.heap.size ≤ W.heap.size; omega) _).set (by show g ≠ W.heap.size; omega) (by show w.heap.size ≤ W.heap.size; omega) _).set (by show g ≠ W.heap.size; omega) (by show w.heap.size ≤ W.heap.size; omega) _).set (by show g ≠ W.heap.size; omega) (by show w.heap.size ≤ W.heap.size; omega) _
        · exact gr_set (gr_set (gr_set (gr_set (gr_set (gr_set (H9.out.2.1) (Nat.le_refl _) _) (Nat.le_refl _) _) (Nat.le_refl _) _) (Nat.le_refl _) _) (Nat.le_refl _) _) (Nat.le_refl _) _
      · have t7 : (y7 == 0) = false := by simpa using e7
        clear e7
        go_upto_region 6 with fail
        have b0 := H7.out.2.2.2.cell 0
        have b1 := H7.out.2.2.2.cell 1
        have b2 := H7.out.2.2.2.cell 2
        have b3 := H7.out.2.2.2.cell 3
        have b4 := H7.out.2.2.2.cell 4
        have b5 := H7.out.2.2.2.cell 5
        have d0 := H7.out.2.2.1.cell 0
        have f0 := fzB H7.out.2.2.1 0
        have d1 := H7.out.2.2.1.cell 1
        have f1 := fzB H7.out.2.2.1 1
        have d2 := H7.out.2.2.1.cell 2
        have f2 := fzB H7.out.2.2.1 2
        have d3 := H7.out.2.2.1.cell 3
        have f3 := fzB H7.out.2.2.1 3
        have d4 := H7.out.2.2.1.cell 4
        have f4 := fzB H7.out.2.2.1 4
        have d5 := H7.out.2.2.1.cell 5
        have f5 := fzB H7.out.2.2.1 5
        go_wp2
        refine bodyPost_ret (v := .agg #[.int .i64 (1 + y1), .int .i64 y2, .int .i64 y3, .int .i64 (y4 + y6), .int .i64 y4, .int .i64 0]) (by simp [results, Try.results12, go_sem, d0, d1, d2, d3, d4, d5]) rfl ⟨(1 + y1), y2, y3, (y4 + y6), y4, 0, rfl, by unfold DReq; dsimp only; omega, ?_, ?_⟩
        · exact ((((((H7.out.1).set (by show g ≠ W.heap.size; omega) (by show w.heap.size ≤ W.heap.size; omega) _).set (by show g ≠ W.heap.size; omega) (by show w.heap.size ≤ W.heap.size; omega) _).set (by show g ≠ W.heap.size; omega) (by show w.heap.size ≤ W.heap.size; omega) _).set (by show g ≠ W.heap.size; omega) (by show w.heap.size ≤ W.heap.size; omega) _).set (by show g ≠ W.heap.size; omega) (by show w.heap.size ≤ W.heap.size; omega) _).set (by show g ≠ W.heap.size; omega) (by show w.heap.size ≤ W.heap.size; omega) _
        · exact gr_set (gr_set (gr_set (gr_set (gr_set (gr_set (H7.out.2.1) (Nat.le_refl _) _) (Nat.le_refl _) _) (Nat.le_refl _) _) (Nat.le_refl _) _) (Nat.le_refl _) _) (Nat.le_refl _) _
  · have t5 : (y5 == 0) = false := by simpa using e5
    clear e5
    go_wp2_with fail
    refine (draw w _ g a n cap 4 H6.out.1 (by omega) (by omega)).mono ?_
    rintro e w7 ⟨y7, rfl, ya7, yb7, rd, gr⟩
    have H7 : Hid (Ready w w7 g a n cap ∧ W.grownBy w7 (some g) ∧ boxB w7 W.heap.size #[.int .i64 0, .int .i64 0, .int .i64 0, .int .i64 0, .int .i64 0, .int .i64 0] 27 ∧ boxB w7 B3 #[.int .i64 (1 + y1), .int .i64 y2, .int .i64 y3, .int .i64 0, .int .i64 y4, .int .i64 0] 27) := ⟨rd, gr_then H6.out.2.1 gr, kept_box H6.out.2.2.1 (by omega) gr, kept_box H6.out.2.2.2 (by omega) gr⟩
    clear rd gr H6
    by_cases e7 : y7 = 0
    · have t7 : (y7 == 0) = true := by simpa using e7
      clear e7
      go_wp2_with fail
      refine (draw w _ g a n cap 2 H7.out.1 (by omega) (by omega)).mono ?_
      rintro e w8 ⟨y8, rfl, ya8, yb8, rd, gr⟩
      have H8 : Hid (Ready w w8 g a n cap ∧ W.grownBy w8 (some g) ∧ boxB w8 W.heap.size #[.int .i64 0, .int .i64 0, .int .i64 0, .int .i64 0, .int .i64 0, .int .i64 0] 27 ∧ boxB w8 B3 #[.int .i64 (1 + y1), .int .i64 y2, .int .i64 y3, .int .i64 0, .int .i64 y4, .int .i64 0] 27) := ⟨rd, gr_then H7.out.2.1 gr, kept_box H7.out.2.2.1 (by omega) gr, kept_box H7.out.2.2.2 (by omega) gr⟩
      have wr8 : IntKind.i64.wrap (1 + y8) = 1 + y8 := by rw [IntKind.wrap_i64]; omega
      have z5 := fzB H8.out.2.2.2 5
      have b0 := H8.out.2.2.2.cell 0
      have b1 := H8.out.2.2.2.cell 1
      have b2 := H8.out.2.2.2.cell 2
      have b3 := H8.out.2.2.2.cell 3
      have b4 := H8.out.2.2.2.cell 4
      have b5 := H8.out.2.2.2.cell 5
      clear rd gr H7
      go_upto_region 6 with fail
      have H9 : Hid (Ready w (w8.setCell ⟨B3, 5, none⟩ (.int .i64 (1 + y8))) g a n cap ∧ W.grownBy (w8.setCell ⟨B3, 5, none⟩ (.int .i64 (1 + y8))) (some g) ∧ boxB (w8.setCell ⟨B3, 5, none⟩ (.int .i64 (1 + y8))) W.heap.size #[.int .i64 0, .int .i64 0, .int .i64 0, .int .i64 0, .int .i64 0, .int .i64 0] 27 ∧ boxB (w8.setCell ⟨B3, 5, none⟩ (.int .i64 (1 + y8))) B3 #[.int .i64 (1 + y1), .int .i64 y2, .int .i64 y3, .int .i64 0, .int .i64 y4, .int .i64 (1 + y8)] 27) := ⟨H8.out.1.set (by show g ≠ B3; omega) (by show w.heap.size ≤ B3; omega) _, gr_set H8.out.2.1 (by show W.heap.size ≤ B3; omega) _, H8.out.2.2.1.else (by show W.heap.size ≠ B3; omega) _, H8.out.2.2.2.set 5 _⟩
      clear H8 b0 b1 b2 b3 b4 b5 z5
      generalize (w8.setCell ⟨B3, 5, none⟩ (.int .i64 (1 + y8))) = w9 at *
      have b0 := H9.out.2.2.2.cell 0
      have b1 := H9.out.2.2.2.cell 1
      have b2 := H9.out.2.2.2.cell 2
      have b3 := H9.out.2.2.2.cell 3
      have b4 := H9.out.2.2.2.cell 4
      have b5 := H9.out.2.2.2.cell 5
      have d0 := H9.out.2.2.1.cell 0
      have f0 := fzB H9.out.2.2.1 0
      have d1 := H9.out.2.2.1.cell 1
      have f1 := fzB H9.out.2.2.1 1
      have d2 := H9.out.2.2.1.cell 2
      have f2 := fzB H9.out.2.2.1 2
      have d3 := H9.out.2.2.1.cell 3
      have f3 := fzB H9.out.2.2.1 3
      have d4 := H9.out.2.2.1.cell 4
      have f4 := fzB H9.out.2.2.1 4
      have d5 := H9.out.2.2.1.cell 5
      have f5 := fzB H9.out.2.2.1 5
      go_wp2
      refine bodyPost_ret (v := .agg #[.int .i64 (1 + y1), .int .i64 y2, .int .i64 y3, .int .i64 0, .int .i64 y4, .int .i64 (1 + y8)]) (by simp [results, Try.results12, go_sem, d0, d1, d2, d3, d4, d5]) rfl ⟨(1 + y1), y2, y3, 0, y4, (1 + y8), rfl, by unfold DReq; dsimp only; omega, ?_, ?_⟩
      · exact ((((((H9.out.1).set (by show g ≠ W.heap.size; omega) (by show w.heap.size ≤ W.heap.size; omega) _).set (by show g ≠ W.heap.size; omega) (by show w.heap.size ≤ W.heap.size; omega) _).set (by show g ≠ W.heap.size; omega) (by show w.heap.size ≤ W.heap.size; omega) _).set (by show g ≠ W.heap.size; omega) (by show w.heap.size ≤ W.heap.size; omega) _).set (by show g ≠ W.heap.size; omega) (by show w.heap.size ≤ W.heap.size; omega) _).set (by show g ≠ W.heap.size; omega) (by show w.heap.size ≤ W.heap.size; omega) _
      · exact gr_set (gr_set (gr_set (gr_set (gr_set (gr_set (H9.out.2.1) (Nat.le_refl _) _) (Nat.le_refl _) _) (Nat.le_refl _) _) (Nat.le_refl _) _) (Nat.le_refl _) _) (Nat.le_refl _) _
    · have t7 : (y7 == 0) = false := by simpa using e7
      clear e7
      go_upto_region 6 with fail
      have b0 := H7.out.2.2.2.cell 0
      have b1 := H7.out.2.2.2.cell 1
      have b2 := H7.out.2.2.2.cell 2
      have b3 := H7.out.2.2.2.cell 3
      have b4 := H7.out.2.2.2.cell 4
      have b5 := H7.out.2.2.2.cell 5
      have d0 := H7.out.2.2.1.cell 0
      have f0 := fzB H7.out.2.2.1 0
      have d1 := H7.out.2.2.1.cell 1
      have f1 := fzB H7.out.2.2.1 1
      have d2 := H7.out.2.2.1.cell 2
      have f2 := fzB H7.out.2.2.1 2
      have d3 := H7.out.2.2.1.cell 3
      have f3 := fzB H7.out.2.2.1 3
      have d4 := H7.out.2.2.1.cell 4
      have f4 := fzB H7.out.2.2.1 4
      have d5 := H7.out.2.2.1.cell 5
      have f5 := fzB H7.out.2.2.1 5
      go_wp2
      refine bodyPost_ret (v := .agg #[.int .i64 (1 + y1), .int .i64 y2, .int .i64 y3, .int .i64 0, .int .i64 y4, .int .i64 0]) (by simp [results, Try.results12, go_sem, d0, d1, d2, d3, d4, d5]) rfl ⟨(1 + y1), y2, y3, 0, y4, 0, rfl, by unfold DReq; dsimp only; omega, ?_, ?_⟩
      · exact ((((((H7.out.1).set (by show g ≠ W.heap.size; omega) (by show w.heap.size ≤ W.heap.size; omega) _).set (by show g ≠ W.heap.size; omega) (by show w.heap.size ≤ W.heap.size; omega) _).set (by show g ≠ W.heap.size; omega) (by show w.heap.size ≤ W.heap.size; omega) _).set (by show g ≠ W.heap.size; omega) (by show w.heap.size ≤ W.heap.size; omega) _).set (by show g ≠ W.heap.size; omega) (by show w.heap.size ≤ W.heap.size; omega) _).set (by show g ≠ W.heap.size; omega) (by show w.heap.size ≤ W.heap.size; omega) _
      · exact gr_set (gr_set (gr_set (gr_set (gr_set (gr_set (H7.out.2.1) (Nat.le_refl _) _) (Nat.le_refl _) _) (Nat.le_refl _) _) (Nat.le_refl _) _) (Nat.le_refl _) _) (Nat.le_refl _) _
theorem off_ok {x : Int} {L : List ReqKit.Req} (hq : QueOk x L) (s : ReqKit.Req) {t : Int} (ht : AtId L s.x0 t) (hG : goes true t L s = true) (P : ReqKit.Req → Prop) (hP : ∀ y ∈ L, P y) (hs : P s) : QueOk x (offL x L s true) ∧ ∀ y ∈ offL x L s true, P y := by
  have hgd : QueGood.Good (L ++ [s]) := (QueGood.good_ok _).1 ((ok_push hq s ht true hG).1 rfl)
  have hPs : ∀ y ∈ L ++ [s], P y := fun y hy => by
    rcases List.mem_append.1 hy with hy | hy
    · exact hP y hy
    · have e : y = s := by simpa using hy
      rw [e]; exact hs
  have hlen : (L ++ [s]).length = L.length + 1 := by simp
  unfold offL
  rw [if_pos rfl]
  split
  · rename_i hfit
    exact ⟨ok_of hq.1 hq.2.1 hfit hgd, hPs⟩
  · have hw := QueWorst.worst_lt (L ++ [s]) (by omega) _ (Nat.le_refl _)
    rw [less_out _ _ hw]
    have hl2 := QueDelI.less_len (L ++ [s]) _ hw
    exact ⟨ok_of hq.1 hq.2.1 (by have := hq.2.2.1; omega) (hgd.sub (less_sub _ _)), fun y hy => hPs y ((less_sub _ _).subset hy)⟩
/-- In the midst of a queue's drawing: the answer's box, the queue's, its list, the cursor. -/
structure DS (w W X : World) (g : Nat) (a : Option Addr) (n cap B3 : Nat) (x : Int) (aL : Option Addr) (cL : Nat) (L : List ReqKit.Req) : Prop where
  ready : Ready w X g a n cap
  grown : W.grownBy X (some g)
  res : boxB X W.heap.size #[.int .i64 0, .slice none 0 0] 25
  box : boxB X B3 #[.int .i64 x, .slice aL L.length cL] 25
  own : Own 27 6 ReqKit.cells X aL L
  far : ∀ b, blkL aL L = some b → B3 < b
  low : g < W.heap.size
  b3 : W.heap.size < B3
section
variable {w W X Y : World} {g n cap B3 cL : Nat} {a aL : Option Addr} {x : Int} {L : List ReqKit.Req}
theorem DS.step (h : DS w W X g a n cap B3 x aL cL L) (gr : X.grownBy Y (some g)) (rd : Ready w Y g a n cap) : DS w W Y g a n cap B3 x aL cL L :=
  ⟨rd, gr_then h.grown gr, kept_box h.res (by have := h.low; omega) gr, kept_box h.box (by have := h.low; have := h.b3; omega) gr, h.own.grown gr (fun b hb e => by have := h.far b hb; have := h.low; have := h.b3; cases e; omega), h.far, h.low, h.b3⟩
theorem DS.below (h : DS w W X g a n cap B3 x aL cL L) (hb : Below X.heap.size X Y) : DS w W Y g a n cap B3 x aL cL L :=
  ⟨h.ready.below hb, gr_below h.grown hb, h.res.below hb, h.box.below hb, h.own.below hb, h.far, h.low, h.b3⟩
theorem DS.set (h : DS w W X g a n cap B3 x aL cL L) {p : Addr} (hp : B3 < p.block) (hne : ∀ b, blkL aL L = some b → b ≠ p.block) (v : Value) : DS w W (X.setCell p v) g a n cap B3 x aL cL L :=
  ⟨h.ready.set (by have := h.low; have := h.b3; omega) (by have := h.ready.past.size; have := h.b3; have := h.ready.low; have := h.low; omega) _, gr_set h.grown (by have := h.b3; omega) _, h.res.else (by have := h.b3; omega) _, h.box.else (by omega) _, Own.set h.own hne v, h.far, h.low, h.b3⟩
theorem DS.put {a2 : Option Addr} {c2 : Nat} {L2 : List ReqKit.Req} (h : DS w W X g a n cap B3 x aL cL L) (ho : Own 27 6 ReqKit.cells X a2 L2) (hf : ∀ b, blkL a2 L2 = some b → B3 < b) : DS w W ((X.setCell ⟨B3, 0, none⟩ (.int .i64 x)).setCell ⟨B3, 1, none⟩ (.slice a2 L2.length c2)) g a n cap B3 x a2 c2 L2 := by
  have hl := h.low
  have hb := h.b3
  have hp := h.ready.past.size
  have hg := h.ready.low
  exact ⟨(h.ready.set (by show g ≠ B3; omega) (by show w.heap.size ≤ B3; omega) _).set (by show g ≠ B3; omega) (by show w.heap.size ≤ B3; omega) _, gr_set (gr_set h.grown (by show W.heap.size ≤ B3; omega) _) (by show W.heap.size ≤ B3; omega) _, (h.res.else (by show W.heap.size ≠ B3; omega) _).else (by show W.heap.size ≠ B3; omega) _, (h.box.set 0 _).set 1 _, Own.set (Own.set ho (fun b hb => by have := hf b hb; show b ≠ B3; omega) _) (fun b hb => by have := hf b hb; show b ≠ B3; omega) _, hf, h.low, h.b3⟩
end
def QuAns (w W : World) (g : Nat) (a : Option Addr) (n cap : Nat) (e : Ending) (w' : World) : Prop := ∃ (x : Int) (aL : Option Addr) (cL : Nat) (L : List ReqKit.Req), e = .returned (.agg #[.int .i64 x, .slice aL L.length cL]) ∧ L.length ≤ cL ∧ x ≤ 6 ∧ QueOk x L ∧ (∀ s ∈ L, s.x0 ≤ 30 ∧ s.x4 ≤ 160) ∧ Own 27 6 ReqKit.cells w' aL L ∧ (∀ b, blkL aL L = some b → W.heap.size ≤ b) ∧ Ready w w' g a n cap ∧ W.grownBy w' (some g)
/-- The model's Offer into a right queue. -/
theorem offer_as (x : Int) (aL : Option Addr) (cL : Nat) (L : List ReqKit.Req) (r0 r1 r2 r3 r4 r5 t : Int) (G : Bool) (W : World) (h : Own 27 6 ReqKit.cells W aL L) (hl : L.length ≤ 1048576) (hc : L.length ≤ cL) (hq : QueOk x L) (ht : Hid (AtId L r0 t)) (hG : goes true t L ⟨r0, r1, r2, r3, r4, r5⟩ = G) :
    Calls Try.prog 24 #[.agg #[.int .i64 x, .slice aL L.length cL], .agg #[.int .i64 r0, .int .i64 r1, .int .i64 r2, .int .i64 r3, .int .i64 r4, .int .i64 r5]] W fun e w' => ∃ a2 c2, ∃ e0 e1 e2 e3 e4 e5 : Int, e = .returned (.tuple #[.agg #[.int .i64 (if G = true then x else 0), .slice a2 (offL x L ⟨r0, r1, r2, r3, r4, r5⟩ G).length c2], .agg #[.int .i64 e0, .int .i64 e1, .int .i64 e2, .int .i64 e3, .int .i64 e4, .int .i64 e5], .bool G]) ∧ (offL x L ⟨r0, r1, r2, r3, r4, r5⟩ G).length ≤ c2 ∧ Holds w' W.heap.size [⟨a2, 27, 6, (offL x L ⟨r0, r1, r2, r3, r4, r5⟩ G).map ReqKit.cells⟩] ∧ Below W.heap.size W w' := by
  have h9 := spec_offer x aL cL L r0 r1 r2 r3 r4 r5 t true W h hl hc (show true = true ↔ QueOk x L from ⟨fun _ => hq, fun _ => rfl⟩) ht
  rw [hG] at h9
  refine h9.mono ?_
  rintro e w' ⟨a2, c2, he, h2, h3, h4⟩
  exact ⟨a2, c2, _, _, _, _, _, _, he, h2, h3, h4⟩
theorem new_as (y : Int) (W : World) (h0 : 0 ≤ y) (h1 : y < 7) : Calls Try.prog 22 #[.int .i64 y] W fun e w' => ∃ a2 c2, e = .returned (.tuple #[.agg #[.int .i64 y, .slice a2 ([] : List ReqKit.Req).length c2], .bool true]) ∧ Below W.heap.size W w' := by
  have h9 := spec_queuenew y W
  have e1 : roomOk y = true := by simp [roomOk]; omega
  have e2 : newRoom y = y := by unfold newRoom; rw [e1]; rfl
  rw [e1, e2] at h9
  refine h9.mono ?_
  rintro e w' ⟨a2, c2, he, _, _, h4⟩
  exact ⟨a2, c2, he, h4⟩
set_option maxHeartbeats 8000000 in
theorem draw_que (w W : World) (g : Nat) (a : Option Addr) (n cap : Nat) (h : Ready w W g a n cap) : Calls Try.prog 11 #[.pointer (some ⟨g, 0, none⟩)] W (QuAns w W g a n cap) := by
  have hlow := h.lt
  have hww := h.past.size
  have H0 : Hid (Ready w (W.alloc (.cells #[.int .i64 0, .slice none 0 0] 25)) g a n cap ∧ W.grownBy (W.alloc (.cells #[.int .i64 0, .slice none 0 0] 25)) (some g) ∧ boxB (W.alloc (.cells #[.int .i64 0, .slice none 0 0] 25)) W.heap.size #[.int .i64 0, .slice none 0 0] 25) := ⟨h.alloc _, gr_alloc (gr_refl _) _, boxB.new _ _ _⟩
  clear h
  go_enter Try.func11, Try.ntmps11
  go_wp2_with fail
  refine (draw w _ g a n cap 7 H0.out.1 (by omega) (by omega)).mono ?_
  rintro e w1 ⟨x, rfl, xa, xb, rd, gr⟩
  have H1 : Hid (Ready w w1 g a n cap ∧ W.grownBy w1 (some g) ∧ boxB w1 W.heap.size #[.int .i64 0, .slice none 0 0] 25) := ⟨rd, gr_then H0.out.2.1 gr, kept_box H0.out.2.2 (by omega) gr⟩
  clear rd gr H0
  go_wp2_with fail
  refine (new_as x _ xa xb).mono ?_
  rintro e w2 ⟨aN, cN, rfl, b2⟩
  have H2 : Hid (Ready w w2 g a n cap ∧ W.grownBy w2 (some g) ∧ boxB w2 W.heap.size #[.int .i64 0, .slice none 0 0] 25) := ⟨H1.out.1.below b2, gr_below H1.out.2.1 b2, H1.out.2.2.below b2⟩
  clear b2 H1
  obtain ⟨B3, hB3⟩ : ∃ B3, w2.heap.size = B3 := ⟨_, rfl⟩
  have hWB : W.heap.size < B3 := by rw [← hB3]; exact H2.out.2.2.lt
  have D3 : Hid (DS w W (w2.alloc (.cells #[.int .i64 x, .slice aN ([] : List ReqKit.Req).length cN] 25)) g a n cap B3 x aN cN []) := by
    have h9 := boxB.new w2 #[.int .i64 x, .slice aN ([] : List ReqKit.Req).length cN] 25
    rw [hB3] at h9
    exact ⟨H2.out.1.alloc _, gr_alloc H2.out.2.1 _, H2.out.2.2.below (n1 _ _), h9, Or.inl rfl, fun b hb => by simp [blkL] at hb, hlow, hWB⟩
  have Q3 : Hid (QueOk x [] ∧ (∀ s ∈ ([] : List ReqKit.Req), s.x0 ≤ 30 ∧ s.x4 ≤ 0)) := ⟨⟨xa, by omega, by simpa using xa, fun k hk => by simp at hk⟩, fun s hs => by simp at hs⟩
  clear H2
  go_upto_region 3 with fail
  try rw [hB3]
  clear hB3
  generalize (w2.alloc (.cells #[.int .i64 x, .slice aN ([] : List ReqKit.Req).length cN] 25)) = w3 at *
  go_wp2_with fail
  refine (draw w _ g a n cap 9 D3.out.ready (by omega) (by omega)).mono ?_
  rintro e w9 ⟨y, rfl, ya, yb, rd, gr⟩
  have D4 : Hid (DS w W w9 g a n cap B3 x aN cN []) := D3.out.step gr rd
  clear rd gr D3
  go_wp2
  go_loopw [5, 6] (fun t5 t6 wr => ∃ (N : Nat) (now : Int) (aL : Option Addr) (cL : Nat) (L : List ReqKit.Req), N ≤ 8 ∧ 0 ≤ now ∧ now + 20 * (N : Int) ≤ 160 ∧ t5 = .int .i64 now ∧ t6 = .int .i64 (N : Int) ∧ L.length ≤ cL ∧ Hid (DS w W wr g a n cap B3 x aL cL L) ∧ Hid (QueOk x L ∧ (∀ s ∈ L, s.x0 ≤ 30 ∧ s.x4 ≤ now))) (fun _ t6 _ => (intOf t6).toNat)
  case atStart => exact ⟨y.toNat, 0, aN, cN, [], by omega, by omega, by omega, rfl, by rw [Int.toNat_of_nonneg ya], Nat.zero_le _, D4, Q3⟩
  case round =>
    clear D4 Q3
    obtain ⟨N, now, aL, cL, L, hN, hn0, hnN, rfl, rfl, hcL, HD, HQ⟩ := hrel
    by_cases hz : N = 0
    · subst hz
      have hzd : decide ((0 : Int) < ((0 : Nat) : Int)) = false := by simp
      have c0 := HD.out.box.cell 0
      have c1 := HD.out.box.cell 1
      have d0 := HD.out.res.cell 0
      have f0 := fzB HD.out.res 0
      have d1 := HD.out.res.cell 1
      have f1 := fzB HD.out.res 1
      have hl9 := HD.out.low
      go_wp2
      refine bodyPost_ret (v := .agg #[.int .i64 x, .slice aL L.length cL]) (by simp [results, Try.results11, go_sem, d0, d1]) rfl ⟨x, aL, cL, L, rfl, hcL, by omega, HQ.out.1, fun s hs => ⟨(HQ.out.2 s hs).1, by have := (HQ.out.2 s hs).2; omega⟩, ?_, ?_, ?_, ?_⟩
      · exact Own.set (Own.set HD.out.own (fun b hb => by have := HD.out.far b hb; have := HD.out.b3; show b ≠ W.heap.size; omega) _) (fun b hb => by have := HD.out.far b hb; have := HD.out.b3; show b ≠ W.heap.size; omega) _
      · exact fun b hb => by have := HD.out.far b hb; have := HD.out.b3; omega
      · exact (HD.out.ready.set (by show g ≠ W.heap.size; omega) (by show w.heap.size ≤ W.heap.size; omega) _).set (by show g ≠ W.heap.size; omega) (by show w.heap.size ≤ W.heap.size; omega) _
      · exact gr_set (gr_set HD.out.grown (Nat.le_refl _) _) (Nat.le_refl _) _
    · obtain ⟨N1, rfl⟩ : ∃ N1, N = N1 + 1 := ⟨N - 1, by omega⟩
      have hzd : decide ((0 : Int) < ((N1 + 1 : Nat) : Int)) = true := decide_eq_true (by omega)
      have hzd2 : decide ((0 : Int) < (N1 : Int) + 1) = true := decide_eq_true (by omega)
      clear hz
      go_wp2_with fail
      refine (draw_req w _ g a n cap HD.out.ready).mono ?_
      rintro e w4 ⟨x0, x1, x2, x3, x4, x5, rfl, hdr, rd, gr⟩
      have hx0 : x0 ≤ 30 := hdr.2.1
      have D5 : Hid (DS w W w4 g a n cap B3 x aL cL L) := HD.out.step gr rd
      clear rd gr hdr HD
      obtain ⟨B7, hB7⟩ : ∃ B7, w4.heap.size = B7 := ⟨_, rfl⟩
      have HB7 : Hid (B3 < B7 ∧ ∀ b, blkL aL L = some b → b ≠ B7) := ⟨by rw [← hB7]; exact D5.out.box.lt, fun b hb => by have := Own.lt D5.out.own b hb; omega⟩
      have D6 : Hid (DS w W (w4.alloc (.cells #[.int .i64 x0, .int .i64 x1, .int .i64 x2, .int .i64 x3, .int .i64 x4, .int .i64 x5] 27)) g a n cap B3 x aL cL L ∧ boxB (w4.alloc (.cells #[.int .i64 x0, .int .i64 x1, .int .i64 x2, .int .i64 x3, .int .i64 x4, .int .i64 x5] 27)) B7 #[.int .i64 x0, .int .i64 x1, .int .i64 x2, .int .i64 x3, .int .i64 x4, .int .i64 x5] 27) := by
        have h9 := boxB.new w4 #[.int .i64 x0, .int .i64 x1, .int .i64 x2, .int .i64 x3, .int .i64 x4, .int .i64 x5] 27
        rw [hB7] at h9
        exact ⟨D5.out.below (n1 _ _), h9⟩
      clear D5
      go_upto_region 7 with fail
      try rw [hB7]
      clear hB7
      generalize (w4.alloc (.cells #[.int .i64 x0, .int .i64 x1, .int .i64 x2, .int .i64 x3, .int .i64 x4, .int .i64 x5] 27)) = w5 at *
      go_wp2_with fail
      refine (draw w _ g a n cap 20 D6.out.1.ready (by omega) (by omega)).mono ?_
      rintro e w6 ⟨y2, rfl, ya2, yb2, rd, gr⟩
      have hgB : g ≠ B7 := by have := D6.out.1.low; have := D6.out.1.b3; have := HB7.out.1; omega
      have D7 : Hid (DS w W w6 g a n cap B3 x aL cL L ∧ boxB w6 B7 #[.int .i64 x0, .int .i64 x1, .int .i64 x2, .int .i64 x3, .int .i64 x4, .int .i64 x5] 27) := ⟨D6.out.1.step gr rd, kept_box D6.out.2 (Ne.symm hgB) gr⟩
      have wr2 : IntKind.i64.wrap (now + y2) = now + y2 := by rw [IntKind.wrap_i64]; omega
      clear rd gr D6
      have b4 := D7.out.2.cell 4
      have z4 := fzB D7.out.2 4
      go_upto_region 9 with fail
      have D8 : Hid (DS w W (w6.setCell ⟨B7, 4, none⟩ (.int .i64 (now + y2))) g a n cap B3 x aL cL L ∧ boxB (w6.setCell ⟨B7, 4, none⟩ (.int .i64 (now + y2))) B7 #[.int .i64 x0, .int .i64 x1, .int .i64 x2, .int .i64 x3, .int .i64 (now + y2), .int .i64 x5] 27) := ⟨D7.out.1.set HB7.out.1 HB7.out.2 _, D7.out.2.set 4 _⟩
      clear D7 b4 z4
      generalize (w6.setCell ⟨B7, 4, none⟩ (.int .i64 (now + y2))) = w7 at *
      have b3 := D8.out.2.cell 3
      by_cases h3 : 0 < x3
      · have h3d : decide (0 < x3) = true := by simpa using h3
        clear h3
        go_wp2_with fail
        refine (draw w _ g a n cap 90 D8.out.1.ready (by omega) (by omega)).mono ?_
        rintro e w8 ⟨y3, rfl, ya3, yb3, rd, gr⟩
        have D9 : Hid (DS w W w8 g a n cap B3 x aL cL L ∧ boxB w8 B7 #[.int .i64 x0, .int .i64 x1, .int .i64 x2, .int .i64 x3, .int .i64 (now + y2), .int .i64 x5] 27) := ⟨D8.out.1.step gr rd, kept_box D8.out.2 (Ne.symm hgB) gr⟩
        have wr3 : IntKind.i64.wrap (now + y2 + y3) = now + y2 + y3 := by rw [IntKind.wrap_i64]; omega
        clear rd gr D8 b3
        have b3 := D9.out.2.cell 3
        have z3 := fzB D9.out.2 3
        go_upto_region 11 with fail
        have DA : Hid (DS w W (w8.setCell ⟨B7, 3, none⟩ (.int .i64 (now + y2 + y3))) g a n cap B3 x aL cL L ∧ boxB (w8.setCell ⟨B7, 3, none⟩ (.int .i64 (now + y2 + y3))) B7 #[.int .i64 x0, .int .i64 x1, .int .i64 x2, .int .i64 (now + y2 + y3), .int .i64 (now + y2), .int .i64 x5] 27) := ⟨D9.out.1.set HB7.out.1 HB7.out.2 _, D9.out.2.set 3 _⟩
        clear D9 b3 z3
        generalize (w8.setCell ⟨B7, 3, none⟩ (.int .i64 (now + y2 + y3))) = wA at *
        obtain ⟨v3, hv3⟩ : ∃ v3, now + y2 + y3 = v3 := ⟨_, rfl⟩
        rw [hv3] at DA
        clear hv3
        obtain ⟨nw, hnw⟩ : ∃ nw, now + y2 = nw := ⟨_, rfl⟩
        rw [hnw] at DA ⊢
        have hnw0 : 0 ≤ nw := by omega
        have hnw1 : nw + 20 * (N1 : Int) ≤ 160 := by omega
        have HNW : Hid (now ≤ nw) := by show now ≤ nw; omega
        obtain ⟨tt, htt⟩ := at_ex L x0
        have HTT : Hid (AtId L x0 tt) := htt
        obtain ⟨G, hG⟩ : ∃ G, goes true tt L ⟨x0, x1, x2, v3, nw, x5⟩ = G := ⟨_, rfl⟩
        have HG : Hid (goes true tt L ⟨x0, x1, x2, v3, nw, x5⟩ = G) := hG
        have hL6 : L.length ≤ 1048576 := by have := HQ.out.1.2.2.1; omega
        have HOF := fun W h => offer_as x aL cL L x0 x1 x2 v3 nw x5 tt G W h hL6 hcL HQ.out.1 HTT hG
        clear hG htt hnw wr2
        have c0 := DA.out.1.box.cell 0
        have c1 := DA.out.1.box.cell 1
        have b0 := DA.out.2.cell 0
        have b1 := DA.out.2.cell 1
        have b2 := DA.out.2.cell 2
        have b3 := DA.out.2.cell 3
        have b4 := DA.out.2.cell 4
        have b5 := DA.out.2.cell 5
        go_wp2_with fail
        refine (HOF _ DA.out.1.own).mono ?_
        rintro e wO ⟨a2, c2, e0, e1, e2, e3, e4, e5, rfl, hc2, hh, bO⟩
        have DB : Hid (DS w W wO g a n cap B3 x aL cL L) := DA.out.1.below bO
        have hBW : B3 < wA.heap.size := DA.out.1.box.lt
        clear c0 c1 b0 b1 b2 b3 b4 b5 HOF
        cases G with
        | false =>
          clear hh hc2
          have DC : Hid (DS w W ((wO.alloc (.cells #[.int .i64 0, .slice a2 (offL x L ⟨x0, x1, x2, v3, nw, x5⟩ false).length c2] 25)).alloc (.cells #[.int .i64 e0, .int .i64 e1, .int .i64 e2, .int .i64 e3, .int .i64 e4, .int .i64 e5] 27)) g a n cap B3 x aL cL L) := DB.out.below (n2 _ _ _)
          have HQ2 : Hid (QueOk x L ∧ (∀ s ∈ L, s.x0 ≤ 30 ∧ s.x4 ≤ nw)) := ⟨HQ.out.1, fun s hs => ⟨(HQ.out.2 s hs).1, by have := (HQ.out.2 s hs).2; have := HNW.out; omega⟩⟩
          clear bO DA DB HQ
          go_wp2
          go_roundw
          case rel => exact ⟨N1, nw, aL, cL, L, by omega, hnw0, hnw1, rfl, by go_num, hcL, DC, HQ2⟩
          case measure => simp [intOf]
        | true =>
          have HQ2 : Hid (QueOk x (offL x L ⟨x0, x1, x2, v3, nw, x5⟩ true) ∧ (∀ s ∈ offL x L ⟨x0, x1, x2, v3, nw, x5⟩ true, s.x0 ≤ 30 ∧ s.x4 ≤ nw)) := off_ok HQ.out.1 ⟨x0, x1, x2, v3, nw, x5⟩ HTT.out HG.out (fun s => s.x0 ≤ 30 ∧ s.x4 ≤ nw) (fun s hs => ⟨(HQ.out.2 s hs).1, by have := (HQ.out.2 s hs).2; have := HNW.out; omega⟩) ⟨hx0, Int.le_refl _⟩
          obtain ⟨L2, hL2⟩ : ∃ L2, offL x L ⟨x0, x1, x2, v3, nw, x5⟩ true = L2 := ⟨_, rfl⟩
          rw [hL2] at hh hc2 HQ2 ⊢
          have HO : Hid (Own 27 6 ReqKit.cells wO a2 L2 ∧ ∀ b, blkL a2 L2 = some b → B3 < b) := ⟨hh.get (by simp), fun b hb => by
            have h9 := (hh.1 _ (List.mem_singleton.2 rfl)).2 b (by show blkL a2 (L2.map ReqKit.cells) = some b; rw [blk_map]; exact hb)
            omega⟩
          clear hL2 hh DA HQ bO HG HTT
          have D11 : Hid (DS w W ((wO.alloc (.cells #[.int .i64 x, .slice a2 L2.length c2] 25)).alloc (.cells #[.int .i64 e0, .int .i64 e1, .int .i64 e2, .int .i64 e3, .int .i64 e4, .int .i64 e5] 27)) g a n cap B3 x aL cL L ∧ boxB ((wO.alloc (.cells #[.int .i64 x, .slice a2 L2.length c2] 25)).alloc (.cells #[.int .i64 e0, .int .i64 e1, .int .i64 e2, .int .i64 e3, .int .i64 e4, .int .i64 e5] 27)) wO.heap.size #[.int .i64 x, .slice a2 L2.length c2] 25 ∧ Own 27 6 ReqKit.cells ((wO.alloc (.cells #[.int .i64 x, .slice a2 L2.length c2] 25)).alloc (.cells #[.int .i64 e0, .int .i64 e1, .int .i64 e2, .int .i64 e3, .int .i64 e4, .int .i64 e5] 27)) a2 L2) := ⟨DB.out.below (n2 _ _ _), (boxB.new _ _ _).below (n1 _ _), HO.out.1.below (n2 _ _ _)⟩
          clear DB
          go_upto_region 13 with fail
          obtain ⟨M8, hM8⟩ : ∃ M8, wO.heap.size = M8 := ⟨_, rfl⟩
          rw [hM8] at D11 ⊢
          clear hM8
          generalize ((wO.alloc (.cells #[.int .i64 x, .slice a2 L2.length c2] 25)).alloc (.cells #[.int .i64 e0, .int .i64 e1, .int .i64 e2, .int .i64 e3, .int .i64 e4, .int .i64 e5] 27)) = wP at *
          have g0 := D11.out.2.1.cell 0
          have g1 := D11.out.2.1.cell 1
          have k0 := D11.out.1.box.cell 0
          have k1 := D11.out.1.box.cell 1
          have z0 := fzB D11.out.1.box 0
          have z1 := fzB D11.out.1.box 1
          have DC : Hid (DS w W ((wP.setCell ⟨B3, 0, none⟩ (.int .i64 x)).setCell ⟨B3, 1, none⟩ (.slice a2 L2.length c2)) g a n cap B3 x a2 c2 L2) := D11.out.1.put D11.out.2.2 HO.out.2
          clear D11 HO
          go_wp2
          go_roundw
          case rel => exact ⟨N1, nw, a2, c2, L2, by omega, hnw0, hnw1, rfl, by go_num, hc2, DC, HQ2⟩
          case measure => simp [intOf]
      · have h3d : decide (0 < x3) = false := by simpa using h3
        clear h3
        go_upto_region 11 with fail
        obtain ⟨v3, hv3⟩ : ∃ v3, x3 = v3 := ⟨_, rfl⟩
        have DA := D8
        rw [hv3] at DA
        clear hv3 D8 b3
        obtain ⟨nw, hnw⟩ : ∃ nw, now + y2 = nw := ⟨_, rfl⟩
        rw [hnw] at DA ⊢
        have hnw0 : 0 ≤ nw := by omega
        have hnw1 : nw + 20 * (N1 : Int) ≤ 160 := by omega
        have HNW : Hid (now ≤ nw) := by show now ≤ nw; omega
        obtain ⟨tt, htt⟩ := at_ex L x0
        have HTT : Hid (AtId L x0 tt) := htt
        obtain ⟨G, hG⟩ : ∃ G, goes true tt L ⟨x0, x1, x2, v3, nw, x5⟩ = G := ⟨_, rfl⟩
        have HG : Hid (goes true tt L ⟨x0, x1, x2, v3, nw, x5⟩ = G) := hG
        have hL6 : L.length ≤ 1048576 := by have := HQ.out.1.2.2.1; omega
        have HOF := fun W h => offer_as x aL cL L x0 x1 x2 v3 nw x5 tt G W h hL6 hcL HQ.out.1 HTT hG
        clear hG htt hnw wr2
        have c0 := DA.out.1.box.cell 0
        have c1 := DA.out.1.box.cell 1
        have b0 := DA.out.2.cell 0
        have b1 := DA.out.2.cell 1
        have b2 := DA.out.2.cell 2
        have b3 := DA.out.2.cell 3
        have b4 := DA.out.2.cell 4
        have b5 := DA.out.2.cell 5
        go_wp2_with fail
        refine (HOF _ DA.out.1.own).mono ?_
        rintro e wO ⟨a2, c2, e0, e1, e2, e3, e4, e5, rfl, hc2, hh, bO⟩
        have DB : Hid (DS w W wO g a n cap B3 x aL cL L) := DA.out.1.below bO
        have hBW : B3 < w7.heap.size := DA.out.1.box.lt
        clear c0 c1 b0 b1 b2 b3 b4 b5 HOF
        cases G with
        | false =>
          clear hh hc2
          have DC : Hid (DS w W ((wO.alloc (.cells #[.int .i64 0, .slice a2 (offL x L ⟨x0, x1, x2, v3, nw, x5⟩ false).length c2] 25)).alloc (.cells #[.int .i64 e0, .int .i64 e1, .int .i64 e2, .int .i64 e3, .int .i64 e4, .int .i64 e5] 27)) g a n cap B3 x aL cL L) := DB.out.below (n2 _ _ _)
          have HQ2 : Hid (QueOk x L ∧ (∀ s ∈ L, s.x0 ≤ 30 ∧ s.x4 ≤ nw)) := ⟨HQ.out.1, fun s hs => ⟨(HQ.out.2 s hs).1, by have := (HQ.out.2 s hs).2; have := HNW.out; omega⟩⟩
          clear bO DA DB HQ
          go_wp2
          go_roundw
          case rel => exact ⟨N1, nw, aL, cL, L, by omega, hnw0, hnw1, rfl, by go_num, hcL, DC, HQ2⟩
          case measure => simp [intOf]
        | true =>
          have HQ2 : Hid (QueOk x (offL x L ⟨x0, x1, x2, v3, nw, x5⟩ true) ∧ (∀ s ∈ offL x L ⟨x0, x1, x2, v3, nw, x5⟩ true, s.x0 ≤ 30 ∧ s.x4 ≤ nw)) := off_ok HQ.out.1 ⟨x0, x1, x2, v3, nw, x5⟩ HTT.out HG.out (fun s => s.x0 ≤ 30 ∧ s.x4 ≤ nw) (fun s hs => ⟨(HQ.out.2 s hs).1, by have := (HQ.out.2 s hs).2; have := HNW.out; omega⟩) ⟨hx0, Int.le_refl _⟩
          obtain ⟨L2, hL2⟩ : ∃ L2, offL x L ⟨x0, x1, x2, v3, nw, x5⟩ true = L2 := ⟨_, rfl⟩
          rw [hL2] at hh hc2 HQ2 ⊢
          have HO : Hid (Own 27 6 ReqKit.cells wO a2 L2 ∧ ∀ b, blkL a2 L2 = some b → B3 < b) := ⟨hh.get (by simp), fun b hb => by
            have h9 := (hh.1 _ (List.mem_singleton.2 rfl)).2 b (by show blkL a2 (L2.map ReqKit.cells) = some b; rw [blk_map]; exact hb)
            omega⟩
          clear hL2 hh DA HQ bO HG HTT
          have D11 : Hid (DS w W ((wO.alloc (.cells #[.int .i64 x, .slice a2 L2.length c2] 25)).alloc (.cells #[.int .i64 e0, .int .i64 e1, .int .i64 e2, .int .i64 e3, .int .i64 e4, .int .i64 e5] 27)) g a n cap B3 x aL cL L ∧ boxB ((wO.alloc (.cells #[.int .i64 x, .slice a2 L2.length c2] 25)).alloc (.cells #[.int .i64 e0, .int .i64 e1, .int .i64 e2, .int .i64 e3, .int .i64 e4, .int .i64 e5] 27)) wO.heap.size #[.int .i64 x, .slice a2 L2.length c2] 25 ∧ Own 27 6 ReqKit.cells ((wO.alloc (.cells #[.int .i64 x, .slice a2 L2.length c2] 25)).alloc (.cells #[.int .i64 e0, .int .i64 e1, .int .i64 e2, .int .i64 e3, .int .i64 e4, .int .i64 e5] 27)) a2 L2) := ⟨DB.out.below (n2 _ _ _), (boxB.new _ _ _).below (n1 _ _), HO.out.1.below (n2 _ _ _)⟩
          clear DB
          go_upto_region 13 with fail
          obtain ⟨M8, hM8⟩ : ∃ M8, wO.heap.size = M8 := ⟨_, rfl⟩
          rw [hM8] at D11 ⊢
          clear hM8
          generalize ((wO.alloc (.cells #[.int .i64 x, .slice a2 L2.length c2] 25)).alloc (.cells #[.int .i64 e0, .int .i64 e1, .int .i64 e2, .int .i64 e3, .int .i64 e4, .int .i64 e5] 27)) = wP at *
          have g0 := D11.out.2.1.cell 0
          have g1 := D11.out.2.1.cell 1
          have k0 := D11.out.1.box.cell 0
          have k1 := D11.out.1.box.cell 1
          have z0 := fzB D11.out.1.box 0
          have z1 := fzB D11.out.1.box 1
          have DC : Hid (DS w W ((wP.setCell ⟨B3, 0, none⟩ (.int .i64 x)).setCell ⟨B3, 1, none⟩ (.slice a2 L2.length c2)) g a n cap B3 x a2 c2 L2) := D11.out.1.put D11.out.2.2 HO.out.2
          clear D11 HO
          go_wp2
          go_roundw
          case rel => exact ⟨N1, nw, a2, c2, L2, by omega, hnw0, hnw1, rfl, by go_num, hc2, DC, HQ2⟩
          case measure => simp [intOf]
def MkAns (W : World) (e : Ending) (w' : World) : Prop := ∃ (x : Int) (aL : Option Addr) (cL : Nat) (L : List ReqKit.Req) (x1 x2 x3 x5 : Int), e = .returned (.tuple #[.agg #[.int .i64 x, .slice aL L.length cL], .agg #[.int .i64 500, .int .i64 x1, .int .i64 x2, .int .i64 x3, .int .i64 300, .int .i64 x5]]) ∧ L.length ≤ cL ∧ x ≤ 6 ∧ QueOk x L ∧ (∀ s ∈ L, s.x0 ≤ 30 ∧ s.x4 ≤ 160) ∧ ReqOks.reqOk ⟨500, x1, x2, x3, 300, x5⟩ = true ∧ Own 27 6 ReqKit.cells w' aL L ∧ (∀ b, blkL aL L = some b → W.heap.size ≤ b) ∧ Below W.heap.size W w'
theorem eightm_set {X : World} {p : Addr} {u : Value} {B5 B6 cL : Nat} {aL : Option Addr} {L : List ReqKit.Req} {x x1 x2 x3 x5 : Int} (h5 : B5 ≠ p.block) (h6 : B6 ≠ p.block) (h : X.cell? ⟨B5, 0, none⟩ = some (.int .i64 x) ∧ X.cell? ⟨B5, 1, none⟩ = some (.slice aL L.length cL) ∧ X.cell? ⟨B6, 0, none⟩ = some (.int .i64 500) ∧ X.cell? ⟨B6, 1, none⟩ = some (.int .i64 x1) ∧ X.cell? ⟨B6, 2, none⟩ = some (.int .i64 x2) ∧ X.cell? ⟨B6, 3, none⟩ = some (.int .i64 x3) ∧ X.cell? ⟨B6, 4, none⟩ = some (.int .i64 300) ∧ X.cell? ⟨B6, 5, none⟩ = some (.int .i64 x5)) : (X.setCell p u).cell? ⟨B5, 0, none⟩ = some (.int .i64 x) ∧ (X.setCell p u).cell? ⟨B5, 1, none⟩ = some (.slice aL L.length cL) ∧ (X.setCell p u).cell? ⟨B6, 0, none⟩ = some (.int .i64 500) ∧ (X.setCell p u).cell? ⟨B6, 1, none⟩ = some (.int .i64 x1) ∧ (X.setCell p u).cell? ⟨B6, 2, none⟩ = some (.int .i64 x2) ∧ (X.setCell p u).cell? ⟨B6, 3, none⟩ = some (.int .i64 x3) ∧ (X.setCell p u).cell? ⟨B6, 4, none⟩ = some (.int .i64 300) ∧ (X.setCell p u).cell? ⟨B6, 5, none⟩ = some (.int .i64 x5) := by
  have e5 : ∀ i, (X.setCell p u).cell? ⟨B5, i, none⟩ = X.cell? ⟨B5, i, none⟩ := fun i => World.cell?_of_block (Below.heap_setCell X p u B5 h5)
  have e6 : ∀ i, (X.setCell p u).cell? ⟨B6, i, none⟩ = X.cell? ⟨B6, i, none⟩ := fun i => World.cell?_of_block (Below.heap_setCell X p u B6 h6)
  simp only [e5, e6]
  exact h
set_option maxHeartbeats 8000000 in
theorem make_que (n : Nat) (a : Option Addr) (cap : Nat) (W : World) (hn : (n : Int) ≤ 1048576) (hok : DrawWalks.CodeOk W W.heap.size a n) : Calls Try.prog 4 #[.slice a n cap] W (MkAns W) := by
  have HS := fun X h => DrawKit.start n a cap W X hn hok h
  have B0 : Hid (Below W.heap.size W ((W.alloc (.cells #[.int .i64 0, .slice none 0 0] 25)).alloc (.cells #[.int .i64 0, .int .i64 0, .int .i64 0, .int .i64 0, .int .i64 0, .int .i64 0] 27)) ∧ boxB ((W.alloc (.cells #[.int .i64 0, .slice none 0 0] 25)).alloc (.cells #[.int .i64 0, .int .i64 0, .int .i64 0, .int .i64 0, .int .i64 0, .int .i64 0] 27)) W.heap.size #[.int .i64 0, .slice none 0 0] 25 ∧ boxB ((W.alloc (.cells #[.int .i64 0, .slice none 0 0] 25)).alloc (.cells #[.int .i64 0, .int .i64 0, .int .i64 0, .int .i64 0, .int .i64 0, .int .i64 0] 27)) (W.heap.size + 1) #[.int .i64 0, .int .i64 0, .int .i64 0, .int .i64 0, .int .i64 0, .int .i64 0] 27) := ⟨n2 _ _ _, (boxB.new _ _ _).below (n1 _ _), new2 _ _ _ _⟩
  clear hok
  go_enter Try.func4, Try.ntmps4
  go_wp2_with fail
  refine (HS _ B0.out.1).mono ?_
  rintro e w1 ⟨rfl, rd, b1⟩
  rw [sz2] at rd ⊢
  obtain ⟨g, hg⟩ : ∃ g, W.heap.size + 1 + 1 = g := ⟨_, rfl⟩
  rw [hg] at rd ⊢
  have H1 : Hid (Ready W w1 g a n cap ∧ boxB w1 W.heap.size #[.int .i64 0, .slice none 0 0] 25 ∧ boxB w1 (W.heap.size + 1) #[.int .i64 0, .int .i64 0, .int .i64 0, .int .i64 0, .int .i64 0, .int .i64 0] 27) := ⟨rd, B0.out.2.1.below b1, B0.out.2.2.below b1⟩
  have hgW : W.heap.size + 1 < g := by omega
  clear hg rd b1 B0 HS
  go_wp2_with fail
  refine (draw_que W _ g a n cap H1.out.1).mono ?_
  rintro e w2 ⟨x, aL, cL, L, rfl, hcL, hx6, hqo, hPL, ho, hf, rd, gr⟩
  have hlt1 := H1.out.1.lt
  obtain ⟨B5, hB5⟩ : ∃ B5, w2.heap.size = B5 := ⟨_, rfl⟩
  have hB5g : g < B5 := by rw [← hB5]; exact Nat.lt_of_lt_of_le hlt1 gr.size
  have HQ : Hid (L.length ≤ cL ∧ x ≤ 6 ∧ QueOk x L ∧ ∀ s ∈ L, s.x0 ≤ 30 ∧ s.x4 ≤ 160) := ⟨hcL, hx6, hqo, hPL⟩
  have HF : Hid ((∀ b, blkL aL L = some b → g < b) ∧ ∀ b, blkL aL L = some b → b < B5) := ⟨fun b hb => by have := hf b hb; omega, fun b hb => by have := Own.lt ho b hb; omega⟩
  have H2 : Hid (Ready W (w2.alloc (.cells #[.int .i64 x, .slice aL L.length cL] 25)) g a n cap ∧ boxB (w2.alloc (.cells #[.int .i64 x, .slice aL L.length cL] 25)) W.heap.size #[.int .i64 0, .slice none 0 0] 25 ∧ boxB (w2.alloc (.cells #[.int .i64 x, .slice aL L.length cL] 25)) (W.heap.size + 1) #[.int .i64 0, .int .i64 0, .int .i64 0, .int .i64 0, .int .i64 0, .int .i64 0] 27 ∧ boxB (w2.alloc (.cells #[.int .i64 x, .slice aL L.length cL] 25)) B5 #[.int .i64 x, .slice aL L.length cL] 25 ∧ Own 27 6 ReqKit.cells (w2.alloc (.cells #[.int .i64 x, .slice aL L.length cL] 25)) aL L) := by
    have h9 := boxB.new w2 #[.int .i64 x, .slice aL L.length cL] 25
    rw [hB5] at h9
    exact ⟨rd.alloc _, (kept_box H1.out.2.1 (by omega) gr).below (n1 _ _), (kept_box H1.out.2.2 (by omega) gr).below (n1 _ _), h9, ho.below (n1 _ _)⟩
  clear hcL hx6 hqo hPL ho hf rd gr H1 hlt1
  go_upto_region 3 with fail
  try rw [hB5]
  clear hB5
  generalize (w2.alloc (.cells #[.int .i64 x, .slice aL L.length cL] 25)) = w3 at *
  go_wp2_with fail
  refine (draw_req W _ g a n cap H2.out.1).mono ?_
  rintro e w4 ⟨x0, x1, x2, x3, x4, x5, rfl, hdr, rd, gr⟩
  have hok : ReqOks.reqOk ⟨500, x1, x2, x3, 300, x5⟩ = true := by
    obtain ⟨_, _, h1, h2, h3, h4, h5, h6, _, _, h7, h8⟩ := hdr
    dsimp only at h1 h2 h3 h4 h5 h6 h7 h8
    simp [ReqOks.reqOk]
    omega
  have HOK : Hid (ReqOks.reqOk ⟨500, x1, x2, x3, 300, x5⟩ = true) := hok
  obtain ⟨B6, hB6⟩ : ∃ B6, w4.heap.size = B6 := ⟨_, rfl⟩
  have hB65 : B5 < B6 := by rw [← hB6]; exact Nat.lt_of_lt_of_le H2.out.2.2.2.1.lt gr.size
  have H4 : Hid ((Ready W (w4.alloc (.cells #[.int .i64 x0, .int .i64 x1, .int .i64 x2, .int .i64 x3, .int .i64 x4, .int .i64 x5] 27)) g a n cap ∧ boxB (w4.alloc (.cells #[.int .i64 x0, .int .i64 x1, .int .i64 x2, .int .i64 x3, .int .i64 x4, .int .i64 x5] 27)) W.heap.size #[.int .i64 0, .slice none 0 0] 25 ∧ boxB (w4.alloc (.cells #[.int .i64 x0, .int .i64 x1, .int .i64 x2, .int .i64 x3, .int .i64 x4, .int .i64 x5] 27)) (W.heap.size + 1) #[.int .i64 0, .int .i64 0, .int .i64 0, .int .i64 0, .int .i64 0, .int .i64 0] 27 ∧ boxB (w4.alloc (.cells #[.int .i64 x0, .int .i64 x1, .int .i64 x2, .int .i64 x3, .int .i64 x4, .int .i64 x5] 27)) B5 #[.int .i64 x, .slice aL L.length cL] 25 ∧ Own 27 6 ReqKit.cells (w4.alloc (.cells #[.int .i64 x0, .int .i64 x1, .int .i64 x2, .int .i64 x3, .int .i64 x4, .int .i64 x5] 27)) aL L) ∧ boxB (w4.alloc (.cells #[.int .i64 x0, .int .i64 x1, .int .i64 x2, .int .i64 x3, .int .i64 x4, .int .i64 x5] 27)) B6 #[.int .i64 x0, .int .i64 x1, .int .i64 x2, .int .i64 x3, .int .i64 x4, .int .i64 x5] 27) := by
    have h9 := boxB.new w4 #[.int .i64 x0, .int .i64 x1, .int .i64 x2, .int .i64 x3, .int .i64 x4, .int .i64 x5] 27
    rw [hB6] at h9
    have h8 : (Ready W w4 g a n cap ∧ boxB w4 W.heap.size #[.int .i64 0, .slice none 0 0] 25 ∧ boxB w4 (W.heap.size + 1) #[.int .i64 0, .int .i64 0, .int .i64 0, .int .i64 0, .int .i64 0, .int .i64 0] 27 ∧ boxB w4 B5 #[.int .i64 x, .slice aL L.length cL] 25 ∧ Own 27 6 ReqKit.cells w4 aL L) := ⟨rd, kept_box H2.out.2.1 (by omega) gr, kept_box H2.out.2.2.1 (by omega) gr, kept_box H2.out.2.2.2.1 (by omega) gr, H2.out.2.2.2.2.grown gr (fun b hb e => by have := HF.out.1 b hb; cases e; omega)⟩
    exact ⟨⟨h8.1.below (n1 _ _), h8.2.1.below (n1 _ _), h8.2.2.1.below (n1 _ _), h8.2.2.2.1.below (n1 _ _), h8.2.2.2.2.below (n1 _ _)⟩, h9⟩
  have HF : Hid ((∀ b, blkL aL L = some b → g < b) ∧ ∀ b, blkL aL L = some b → b < B6) := ⟨HF.out.1, fun b hb => by have := HF.out.2 b hb; omega⟩
  clear hdr rd gr hok H2
  go_upto_region 4 with fail
  try rw [hB6]
  clear hB6
  generalize (w4.alloc (.cells #[.int .i64 x0, .int .i64 x1, .int .i64 x2, .int .i64 x3, .int .i64 x4, .int .i64 x5] 27)) = w5 at *
  have b0 := H4.out.2.cell 0
  have z0 := fzB H4.out.2 0
  have b4 := H4.out.2.cell 4
  have z4 := fzB H4.out.2 4
  go_upto_region 6 with fail
  have H6 : Hid ((Ready W ((w5.setCell ⟨B6, 0, none⟩ (.int .i64 500)).setCell ⟨B6, 4, none⟩ (.int .i64 300)) g a n cap ∧ boxB ((w5.setCell ⟨B6, 0, none⟩ (.int .i64 500)).setCell ⟨B6, 4, none⟩ (.int .i64 300)) W.heap.size #[.int .i64 0, .slice none 0 0] 25 ∧ boxB ((w5.setCell ⟨B6, 0, none⟩ (.int .i64 500)).setCell ⟨B6, 4, none⟩ (.int .i64 300)) (W.heap.size + 1) #[.int .i64 0, .int .i64 0, .int .i64 0, .int .i64 0, .int .i64 0, .int .i64 0] 27 ∧ boxB ((w5.setCell ⟨B6, 0, none⟩ (.int .i64 500)).setCell ⟨B6, 4, none⟩ (.int .i64 300)) B5 #[.int .i64 x, .slice aL L.length cL] 25 ∧ Own 27 6 ReqKit.cells ((w5.setCell ⟨B6, 0, none⟩ (.int .i64 500)).setCell ⟨B6, 4, none⟩ (.int .i64 300)) aL L) ∧ boxB ((w5.setCell ⟨B6, 0, none⟩ (.int .i64 500)).setCell ⟨B6, 4, none⟩ (.int .i64 300)) B6 #[.int .i64 500, .int .i64 x1, .int .i64 x2, .int .i64 x3, .int .i64 300, .int .i64 x5] 27) := by
    have h8 : (Ready W (w5.setCell ⟨B6, 0, none⟩ (.int .i64 500)) g a n cap ∧ boxB (w5.setCell ⟨B6, 0, none⟩ (.int .i64 500)) W.heap.size #[.int .i64 0, .slice none 0 0] 25 ∧ boxB (w5.setCell ⟨B6, 0, none⟩ (.int .i64 500)) (W.heap.size + 1) #[.int .i64 0, .int .i64 0, .int .i64 0, .int .i64 0, .int .i64 0, .int .i64 0] 27 ∧ boxB (w5.setCell ⟨B6, 0, none⟩ (.int .i64 500)) B5 #[.int .i64 x, .slice aL L.length cL] 25 ∧ Own 27 6 ReqKit.cells (w5.setCell ⟨B6, 0, none⟩ (.int .i64 500)) aL L) := ⟨H4.out.1.1.set (by show g ≠ B6; omega) (by show W.heap.size ≤ B6; omega) _, H4.out.1.2.1.else (by show W.heap.size ≠ B6; omega) _, H4.out.1.2.2.1.else (by show W.heap.size + 1 ≠ B6; omega) _, H4.out.1.2.2.2.1.else (by show B5 ≠ B6; omega) _, Own.set H4.out.1.2.2.2.2 (fun b hb => by have := HF.out.2 b hb; show b ≠ B6; omega) _⟩
    exact ⟨⟨h8.1.set (by show g ≠ B6; omega) (by show W.heap.size ≤ B6; omega) _, h8.2.1.else (by show W.heap.size ≠ B6; omega) _, h8.2.2.1.else (by show W.heap.size + 1 ≠ B6; omega) _, h8.2.2.2.1.else (by show B5 ≠ B6; omega) _, Own.set h8.2.2.2.2 (fun b hb => by have := HF.out.2 b hb; show b ≠ B6; omega) _⟩, (H4.out.2.set 0 _).set 4 _⟩
  clear H4 b0 z0 b4 z4
  generalize ((w5.setCell ⟨B6, 0, none⟩ (.int .i64 500)).setCell ⟨B6, 4, none⟩ (.int .i64 300)) = w6 at *
  have S9 : Hid (w6.cell? ⟨B5, 0, none⟩ = some (.int .i64 x) ∧ w6.cell? ⟨B5, 1, none⟩ = some (.slice aL L.length cL) ∧ w6.cell? ⟨B6, 0, none⟩ = some (.int .i64 500) ∧ w6.cell? ⟨B6, 1, none⟩ = some (.int .i64 x1) ∧ w6.cell? ⟨B6, 2, none⟩ = some (.int .i64 x2) ∧ w6.cell? ⟨B6, 3, none⟩ = some (.int .i64 x3) ∧ w6.cell? ⟨B6, 4, none⟩ = some (.int .i64 300) ∧ w6.cell? ⟨B6, 5, none⟩ = some (.int .i64 x5)) := ⟨H6.out.1.2.2.2.1.cell 0, H6.out.1.2.2.2.1.cell 1, H6.out.2.cell 0, H6.out.2.cell 1, H6.out.2.cell 2, H6.out.2.cell 3, H6.out.2.cell 4, H6.out.2.cell 5⟩
  have ED : Hid (∀ X : World, (X.cell? ⟨B5, 0, none⟩ = some (.int .i64 x) ∧ X.cell? ⟨B5, 1, none⟩ = some (.slice aL L.length cL) ∧ X.cell? ⟨B6, 0, none⟩ = some (.int .i64 500) ∧ X.cell? ⟨B6, 1, none⟩ = some (.int .i64 x1) ∧ X.cell? ⟨B6, 2, none⟩ = some (.int .i64 x2) ∧ X.cell? ⟨B6, 3, none⟩ = some (.int .i64 x3) ∧ X.cell? ⟨B6, 4, none⟩ = some (.int .i64 300) ∧ X.cell? ⟨B6, 5, none⟩ = some (.int .i64 x5)) → (X.drew.cell? ⟨B5, 0, none⟩ = some (.int .i64 x) ∧ X.drew.cell? ⟨B5, 1, none⟩ = some (.slice aL L.length cL) ∧ X.drew.cell? ⟨B6, 0, none⟩ = some (.int .i64 500) ∧ X.drew.cell? ⟨B6, 1, none⟩ = some (.int .i64 x1) ∧ X.drew.cell? ⟨B6, 2, none⟩ = some (.int .i64 x2) ∧ X.drew.cell? ⟨B6, 3, none⟩ = some (.int .i64 x3) ∧ X.drew.cell? ⟨B6, 4, none⟩ = some (.int .i64 300) ∧ X.drew.cell? ⟨B6, 5, none⟩ = some (.int .i64 x5))) := fun X h => h
  have S0 : Hid (w6.drew.cell? ⟨B5, 0, none⟩ = some (.int .i64 x) ∧ w6.drew.cell? ⟨B5, 1, none⟩ = some (.slice aL L.length cL) ∧ w6.drew.cell? ⟨B6, 0, none⟩ = some (.int .i64 500) ∧ w6.drew.cell? ⟨B6, 1, none⟩ = some (.int .i64 x1) ∧ w6.drew.cell? ⟨B6, 2, none⟩ = some (.int .i64 x2) ∧ w6.drew.cell? ⟨B6, 3, none⟩ = some (.int .i64 x3) ∧ w6.drew.cell? ⟨B6, 4, none⟩ = some (.int .i64 300) ∧ w6.drew.cell? ⟨B6, 5, none⟩ = some (.int .i64 x5)) := S9.out
  have EQ : Hid (∀ (X : World) (j : Nat) (u : Value), (X.cell? ⟨B5, 0, none⟩ = some (.int .i64 x) ∧ X.cell? ⟨B5, 1, none⟩ = some (.slice aL L.length cL) ∧ X.cell? ⟨B6, 0, none⟩ = some (.int .i64 500) ∧ X.cell? ⟨B6, 1, none⟩ = some (.int .i64 x1) ∧ X.cell? ⟨B6, 2, none⟩ = some (.int .i64 x2) ∧ X.cell? ⟨B6, 3, none⟩ = some (.int .i64 x3) ∧ X.cell? ⟨B6, 4, none⟩ = some (.int .i64 300) ∧ X.cell? ⟨B6, 5, none⟩ = some (.int .i64 x5)) → ((X.setCell ⟨W.heap.size, j, none⟩ u).cell? ⟨B5, 0, none⟩ = some (.int .i64 x) ∧ (X.setCell ⟨W.heap.size, j, none⟩ u).cell? ⟨B5, 1, none⟩ = some (.slice aL L.length cL) ∧ (X.setCell ⟨W.heap.size, j, none⟩ u).cell? ⟨B6, 0, none⟩ = some (.int .i64 500) ∧ (X.setCell ⟨W.heap.size, j, none⟩ u).cell? ⟨B6, 1, none⟩ = some (.int .i64 x1) ∧ (X.setCell ⟨W.heap.size, j, none⟩ u).cell? ⟨B6, 2, none⟩ = some (.int .i64 x2) ∧ (X.setCell ⟨W.heap.size, j, none⟩ u).cell? ⟨B6, 3, none⟩ = some (.int .i64 x3) ∧ (X.setCell ⟨W.heap.size, j, none⟩ u).cell? ⟨B6, 4, none⟩ = some (.int .i64 300) ∧ (X.setCell ⟨W.heap.size, j, none⟩ u).cell? ⟨B6, 5, none⟩ = some (.int .i64 x5))) := fun X j u h => eightm_set (by show B5 ≠ W.heap.size; omega) (by show B6 ≠ W.heap.size; omega) h
  have ER : Hid (∀ (X : World) (j : Nat) (u : Value), (X.cell? ⟨B5, 0, none⟩ = some (.int .i64 x) ∧ X.cell? ⟨B5, 1, none⟩ = some (.slice aL L.length cL) ∧ X.cell? ⟨B6, 0, none⟩ = some (.int .i64 500) ∧ X.cell? ⟨B6, 1, none⟩ = some (.int .i64 x1) ∧ X.cell? ⟨B6, 2, none⟩ = some (.int .i64 x2) ∧ X.cell? ⟨B6, 3, none⟩ = some (.int .i64 x3) ∧ X.cell? ⟨B6, 4, none⟩ = some (.int .i64 300) ∧ X.cell? ⟨B6, 5, none⟩ = some (.int .i64 x5)) → ((X.setCell ⟨W.heap.size + 1, j, none⟩ u).cell? ⟨B5, 0, none⟩ = some (.int .i64 x) ∧ (X.setCell ⟨W.heap.size + 1, j, none⟩ u).cell? ⟨B5, 1, none⟩ = some (.slice aL L.length cL) ∧ (X.setCell ⟨W.heap.size + 1, j, none⟩ u).cell? ⟨B6, 0, none⟩ = some (.int .i64 500) ∧ (X.setCell ⟨W.heap.size + 1, j, none⟩ u).cell? ⟨B6, 1, none⟩ = some (.int .i64 x1) ∧ (X.setCell ⟨W.heap.size + 1, j, none⟩ u).cell? ⟨B6, 2, none⟩ = some (.int .i64 x2) ∧ (X.setCell ⟨W.heap.size + 1, j, none⟩ u).cell? ⟨B6, 3, none⟩ = some (.int .i64 x3) ∧ (X.setCell ⟨W.heap.size + 1, j, none⟩ u).cell? ⟨B6, 4, none⟩ = some (.int .i64 300) ∧ (X.setCell ⟨W.heap.size + 1, j, none⟩ u).cell? ⟨B6, 5, none⟩ = some (.int .i64 x5))) := fun X j u h => eightm_set (by show B5 ≠ W.heap.size + 1; omega) (by show B6 ≠ W.heap.size + 1; omega) h
  have y0 := H6.out.1.2.1.cell 0
  have z0 := fzB H6.out.1.2.1 0
  have y1 := H6.out.1.2.1.cell 1
  have z1 := fzB H6.out.1.2.1 1
  have d0 := H6.out.1.2.2.1.cell 0
  have f0 := fzB H6.out.1.2.2.1 0
  have d1 := H6.out.1.2.2.1.cell 1
  have f1 := fzB H6.out.1.2.2.1 1
  have d2 := H6.out.1.2.2.1.cell 2
  have f2 := fzB H6.out.1.2.2.1 2
  have d3 := H6.out.1.2.2.1.cell 3
  have f3 := fzB H6.out.1.2.2.1 3
  have d4 := H6.out.1.2.2.1.cell 4
  have f4 := fzB H6.out.1.2.2.1 4
  have d5 := H6.out.1.2.2.1.cell 5
  have f5 := fzB H6.out.1.2.2.1 5
  go_wp2_with fail
  go_region_held3 (fun w' => w'.cell? ⟨B5, 0, none⟩ = some (.int .i64 x) ∧ w'.cell? ⟨B5, 1, none⟩ = some (.slice aL L.length cL) ∧ w'.cell? ⟨B6, 0, none⟩ = some (.int .i64 500) ∧ w'.cell? ⟨B6, 1, none⟩ = some (.int .i64 x1) ∧ w'.cell? ⟨B6, 2, none⟩ = some (.int .i64 x2) ∧ w'.cell? ⟨B6, 3, none⟩ = some (.int .i64 x3) ∧ w'.cell? ⟨B6, 4, none⟩ = some (.int .i64 300) ∧ w'.cell? ⟨B6, 5, none⟩ = some (.int .i64 x5)) (first | with_reducible exact S0.out | with_reducible exact S9.out | with_reducible exact ED.out _ (EQ.out _ _ _ (EQ.out _ _ _ (S9.out))) | with_reducible exact EQ.out _ _ _ (EQ.out _ _ _ (S0.out)) | with_reducible exact ED.out _ (ER.out _ _ _ (ER.out _ _ _ (ER.out _ _ _ (ER.out _ _ _ (ER.out _ _ _ (ER.out _ _ _ (EQ.out _ _ _ (EQ.out _ _ _ (S9.out))))))))) | with_reducible exact EQ.out _ _ _ (EQ.out _ _ _ (S9.out)) | with_reducible exact ER.out _ _ _ (ER.out _ _ _ (ER.out _ _ _ (ER.out _ _ _ (ER.out _ _ _ (ER.out _ _ _ (EQ.out _ _ _ (EQ.out _ _ _ (S9.out)))))))) | with_reducible exact ER.out _ _ _ (ER.out _ _ _ (ER.out _ _ _ (ER.out _ _ _ (ER.out _ _ _ (ER.out _ _ _ (EQ.out _ _ _ (EQ.out _ _ _ (S0.out))))))))) (fail)
  go_wp2
  refine bodyPost_ret (v := .tuple #[.agg #[.int .i64 x, .slice aL L.length cL], .agg #[.int .i64 500, .int .i64 x1, .int .i64 x2, .int .i64 x3, .int .i64 300, .int .i64 x5]]) (by simp [results, Try.results4, go_sem, y0, y1, d0, d1, d2, d3, d4, d5]) rfl ⟨x, aL, cL, L, x1, x2, x3, x5, rfl, HQ.out.1, HQ.out.2.1, HQ.out.2.2.1, HQ.out.2.2.2, HOK.out, ?_, fun b hb => by have := HF.out.1 b hb; omega, ?_⟩
  · exact (Own.set (Own.set (Own.set (Own.set (Own.set (Own.set (Own.set (Own.set (H6.out.1.2.2.2.2) (fun b hb => by have := HF.out.1 b hb; show b ≠ W.heap.size; omega) _) (fun b hb => by have := HF.out.1 b hb; show b ≠ W.heap.size; omega) _) (fun b hb => by have := HF.out.1 b hb; show b ≠ W.heap.size + 1; omega) _) (fun b hb => by have := HF.out.1 b hb; show b ≠ W.heap.size + 1; omega) _) (fun b hb => by have := HF.out.1 b hb; show b ≠ W.heap.size + 1; omega) _) (fun b hb => by have := HF.out.1 b hb; show b ≠ W.heap.size + 1; omega) _) (fun b hb => by have := HF.out.1 b hb; show b ≠ W.heap.size + 1; omega) _) (fun b hb => by have := HF.out.1 b hb; show b ≠ W.heap.size + 1; omega) _).below (Below.refl _ _).drew
  · exact (((((((((H6.out.1.1.past).setCell (by show W.heap.size ≤ W.heap.size; omega) _).setCell (by show W.heap.size ≤ W.heap.size; omega) _).setCell (by show W.heap.size ≤ W.heap.size + 1; omega) _).setCell (by show W.heap.size ≤ W.heap.size + 1; omega) _).setCell (by show W.heap.size ≤ W.heap.size + 1; omega) _).setCell (by show W.heap.size ≤ W.heap.size + 1; omega) _).setCell (by show W.heap.size ≤ W.heap.size + 1; omega) _).setCell (by show W.heap.size ≤ W.heap.size + 1; omega) _).drew
end Go.Proofs.Ytnejomfaojpicaa.QueDraw
