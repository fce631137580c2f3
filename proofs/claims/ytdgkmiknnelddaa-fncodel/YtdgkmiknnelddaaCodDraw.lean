/- A queue that may be slow, drawn: it is right, its target below 30, its span at most 50; no condition but those written in each. -/
import Derived.Test.YtdgkmiknnelddaaRows
import Derived.WalkKit
import Derived.WalkSmall
import Derived.BigQuiet
import Derived.Deep.RegionWith
import Derived.Deep.DeepCutAuto
import Derived.Test.YtdgkmiknnelddaaListKit
import Derived.Test.YtdgkmiknnelddaaHoldKit
import Derived.Test.YtdgkmiknnelddaaCodKit
import Derived.Test.YtdgkmiknnelddaaCodOks
import Derived.Test.YtdgkmiknnelddaaCodPaceS
import Derived.Test.YtdgkmiknnelddaaCodMath
import Derived.Test.YtdgkmiknnelddaaCodSeeS
import Derived.Test.YtdgkmiknnelddaaDrawWalks
import Derived.Test.YtdgkmiknnelddaaCodeArg
import Derived.Test.YtdgkmiknnelddaaDrawKit
namespace Go.Proofs.Ytdgkmiknnelddaa.CodDraw
open Go.RowKit ListKit HoldKit CodKit CodPaceS CodMath CodSeeS DrawKit
set_option maxRecDepth 8000
set_option linter.unusedVariables false
set_option linter.unusedSimpArgs false

theorem kept_box {W W2 : World} {N g : Nat} {cs : Array Value} {t : TypeId} (h : boxB W N cs t) (hne : N ≠ g) (gr : W.grownBy W2 (some g)) : boxB W2 N cs t := kept_draw h hne gr
theorem see_same (s : Cod) (now w : Int) : (see s now w).1.x0 = s.x0 ∧ (see s now w).1.x1 = s.x1 := by
  unfold see
  repeat' split
  all_goals exact ⟨rfl, rfl⟩
theorem see_at (x0 x1 x2 : Int) (x3 : Bool) (x4 x5 now wt : Int) (h : codOk ⟨x0, x1, x2, x3, x4, x5⟩ = true) (hn : 0 ≤ now ∧ now ≤ 1000000000) (hw : -1 ≤ wt ∧ wt ≤ 1000000000) (w : World) :
    Calls Try.prog 22 #[.agg #[.int .i64 x0, .int .i64 x1, .int .i64 x2, .bool x3, .int .i64 x4, .int .i64 x5], .int .i64 now, .int .i64 wt] w fun e w' => ∃ (u0 u1 u2 : Int) (u3 : Bool) (u4 u5 : Int) (D : Bool), e = .returned (.tuple #[.agg #[.int .i64 u0, .int .i64 u1, .int .i64 u2, .bool u3, .int .i64 u4, .int .i64 u5], .bool D]) ∧ codOk ⟨u0, u1, u2, u3, u4, u5⟩ = true ∧ u0 = x0 ∧ u1 = x1 ∧ Below w.heap.size w w' := by
  have e : seeOk ⟨x0, x1, x2, x3, x4, x5⟩ now wt = true := by unfold seeOk; rw [h, Bool.true_and]; exact decide_eq_true (by omega)
  have h9 := spec_see x0 x1 x2 x3 x4 x5 now wt w
  rw [e, if_pos rfl, Bool.true_and] at h9
  refine h9.mono fun e w' k => ?_
  have k1 := see_keeps (s := ⟨x0, x1, x2, x3, x4, x5⟩) (w := wt) h hn
  have k2 := see_same ⟨x0, x1, x2, x3, x4, x5⟩ now wt
  exact ⟨_, _, _, _, _, _, _, k.1, k1, k2.1, k2.2, k.2⟩
structure DC (w W X : World) (g : Nat) (a : Option Addr) (n cap B3 : Nat) (s : Cod) : Prop where
  ready : Ready w X g a n cap
  grown : W.grownBy X (some g)
  res : boxB X W.heap.size #[.int .i64 0, .int .i64 0, .int .i64 0, .bool false, .int .i64 0, .int .i64 0] 24
  box : boxB X B3 #[.int .i64 s.x0, .int .i64 s.x1, .int .i64 s.x2, .bool s.x3, .int .i64 s.x4, .int .i64 s.x5] 24
  low : g < W.heap.size
  b3 : W.heap.size < B3
section
variable {w W X Y : World} {g n cap B3 : Nat} {a : Option Addr} {s : Cod}
theorem DC.step (h : DC w W X g a n cap B3 s) (gr : X.grownBy Y (some g)) (rd : Ready w Y g a n cap) : DC w W Y g a n cap B3 s :=
  ⟨rd, gr_then h.grown gr, kept_box h.res (by have := h.low; omega) gr, kept_box h.box (by have := h.low; have := h.b3; omega) gr, h.low, h.b3⟩
theorem DC.below (h : DC w W X g a n cap B3 s) (hb : Below X.heap.size X Y) : DC w W Y g a n cap B3 s :=
  ⟨h.ready.below hb, gr_below h.grown hb, h.res.below hb, h.box.below hb, h.low, h.b3⟩
theorem DC.put (h : DC w W X g a n cap B3 s) (u0 u1 u2 : Int) (u3 : Bool) (u4 u5 : Int) : DC w W ((((((X.setCell ⟨B3, 0, none⟩ (.int .i64 u0)).setCell ⟨B3, 1, none⟩ (.int .i64 u1)).setCell ⟨B3, 2, none⟩ (.int .i64 u2)).setCell ⟨B3, 3, none⟩ (.bool u3)).setCell ⟨B3, 4, none⟩ (.int .i64 u4)).setCell ⟨B3, 5, none⟩ (.int .i64 u5)) g a n cap B3 ⟨u0, u1, u2, u3, u4, u5⟩ := by
  have hl := h.low
  have hb := h.b3
  have hp := h.ready.past.size
  have hg := h.ready.low
  exact ⟨((((((h.ready.set (by show g ≠ B3; omega) (by show w.heap.size ≤ B3; omega) _).set (by show g ≠ B3; omega) (by show w.heap.size ≤ B3; omega) _).set (by show g ≠ B3; omega) (by show w.heap.size ≤ B3; omega) _).set (by show g ≠ B3; omega) (by show w.heap.size ≤ B3; omega) _).set (by show g ≠ B3; omega) (by show w.heap.size ≤ B3; omega) _).set (by show g ≠ B3; omega) (by show w.heap.size ≤ B3; omega) _), (gr_set (gr_set (gr_set (gr_set (gr_set (gr_set h.grown (by show W.heap.size ≤ B3; omega) _) (by show W.heap.size ≤ B3; omega) _) (by show W.heap.size ≤ B3; omega) _) (by show W.heap.size ≤ B3; omega) _) (by show W.heap.size ≤ B3; omega) _) (by show W.heap.size ≤ B3; omega) _), ((((((h.res.else (by show W.heap.size ≠ B3; omega) _).else (by show W.heap.size ≠ B3; omega) _).else (by show W.heap.size ≠ B3; omega) _).else (by show W.heap.size ≠ B3; omega) _).else (by show W.heap.size ≠ B3; omega) _).else (by show W.heap.size ≠ B3; omega) _), ((((((h.box.set 0 _).set 1 _).set 2 _).set 3 _).set 4 _).set 5 _), h.low, h.b3⟩
end
def CdAns (w W : World) (g : Nat) (a : Option Addr) (n cap : Nat) (e : Ending) (w' : World) : Prop := ∃ (x0 x1 x2 : Int) (x3 : Bool) (x4 x5 : Int), e = .returned (.agg #[.int .i64 x0, .int .i64 x1, .int .i64 x2, .bool x3, .int .i64 x4, .int .i64 x5]) ∧ codOk ⟨x0, x1, x2, x3, x4, x5⟩ = true ∧ x0 < 30 ∧ x1 ≤ 50 ∧ Ready w w' g a n cap ∧ W.grownBy w' (some g)
theorem new_at (t v : Int) (ht : 0 ≤ t ∧ t ≤ 100000) (hv : 1 ≤ v ∧ v ≤ 100000) (W : World) : Calls Try.prog 21 #[.int .i64 t, .int .i64 v] W fun e w' => e = .returned (.tuple #[.agg #[.int .i64 t, .int .i64 v, .int .i64 0, .bool false, .int .i64 0, .int .i64 0], .bool true]) ∧ Below W.heap.size W w' := by
  have h9 := spec_codelnew t v W
  have e : newOk t v = true := ok_mk_calm (by dsimp only; omega) rfl ⟨rfl, rfl⟩
  rw [e, if_pos rfl] at h9
  exact h9
set_option maxHeartbeats 8000000 in
theorem draw_cod (w W : World) (g : Nat) (a : Option Addr) (n cap : Nat) (h : Ready w W g a n cap) : Calls Try.prog 11 #[.pointer (some ⟨g, 0, none⟩)] W (CdAns w W g a n cap) := by
  have hlow := h.lt
  have hww := h.past.size
  have H0 : Hid (Ready w (W.alloc (.cells #[.int .i64 0, .int .i64 0, .int .i64 0, .bool false, .int .i64 0, .int .i64 0] 24)) g a n cap ∧ W.grownBy (W.alloc (.cells #[.int .i64 0, .int .i64 0, .int .i64 0, .bool false, .int .i64 0, .int .i64 0] 24)) (some g) ∧ boxB (W.alloc (.cells #[.int .i64 0, .int .i64 0, .int .i64 0, .bool false, .int .i64 0, .int .i64 0] 24)) W.heap.size #[.int .i64 0, .int .i64 0, .int .i64 0, .bool false, .int .i64 0, .int .i64 0] 24) := ⟨h.alloc _, gr_alloc (gr_refl _) _, boxB.new _ _ _⟩
  clear h
  go_enter Try.func11, Try.ntmps11
  go_wp2_with fail
  refine (draw w _ g a n cap 30 H0.out.1 (by omega) (by omega)).mono ?_
  rintro e w1 ⟨t, rfl, ta, tb, rd, gr⟩
  have H1 : Hid (Ready w w1 g a n cap ∧ W.grownBy w1 (some g) ∧ boxB w1 W.heap.size #[.int .i64 0, .int .i64 0, .int .i64 0, .bool false, .int .i64 0, .int .i64 0] 24) := ⟨rd, gr_then H0.out.2.1 gr, kept_box H0.out.2.2 (by omega) gr⟩
  clear rd gr H0
  go_wp2_with fail
  refine (draw w _ g a n cap 50 H1.out.1 (by omega) (by omega)).mono ?_
  rintro e w2 ⟨y, rfl, ya, yb, rd, gr⟩
  have H2 : Hid (Ready w w2 g a n cap ∧ W.grownBy w2 (some g) ∧ boxB w2 W.heap.size #[.int .i64 0, .int .i64 0, .int .i64 0, .bool false, .int .i64 0, .int .i64 0] 24) := ⟨rd, gr_then H1.out.2.1 gr, kept_box H1.out.2.2 (by omega) gr⟩
  clear rd gr H1
  have wy : IntKind.i64.wrap (1 + y) = 1 + y := by rw [IntKind.wrap_i64]; omega
  go_wp2_with fail
  refine (new_at t (1 + y) (by omega) (by omega) _).mono ?_
  rintro e w3 ⟨rfl, b3⟩
  have H3 : Hid (Ready w w3 g a n cap ∧ W.grownBy w3 (some g) ∧ boxB w3 W.heap.size #[.int .i64 0, .int .i64 0, .int .i64 0, .bool false, .int .i64 0, .int .i64 0] 24) := ⟨H2.out.1.below b3, gr_below H2.out.2.1 b3, H2.out.2.2.below b3⟩
  clear b3 H2
  obtain ⟨B3, hB3⟩ : ∃ B3, w3.heap.size = B3 := ⟨_, rfl⟩
  have hWB : W.heap.size < B3 := by rw [← hB3]; exact H3.out.2.2.lt
  have D3 : Hid (DC w W (w3.alloc (.cells #[.int .i64 t, .int .i64 (1 + y), .int .i64 0, .bool false, .int .i64 0, .int .i64 0] 24)) g a n cap B3 ⟨t, 1 + y, 0, false, 0, 0⟩) := by
    have h9 := boxB.new w3 #[.int .i64 t, .int .i64 (1 + y), .int .i64 0, .bool false, .int .i64 0, .int .i64 0] 24
    rw [hB3] at h9
    exact ⟨H3.out.1.alloc _, gr_alloc H3.out.2.1 _, H3.out.2.2.below (n1 _ _), h9, hlow, hWB⟩
  have Q3 : Hid (codOk ⟨t, 1 + y, 0, false, 0, 0⟩ = true ∧ t < 30 ∧ 1 + y ≤ 50) := ⟨ok_mk_calm (by dsimp only; omega) rfl ⟨rfl, rfl⟩, tb, by omega⟩
  clear H3
  go_upto_region 3 with fail
  try rw [hB3]
  clear hB3
  generalize (w3.alloc (.cells #[.int .i64 t, .int .i64 (1 + y), .int .i64 0, .bool false, .int .i64 0, .int .i64 0] 24)) = w4 at *
  go_wp2_with fail
  refine (draw w _ g a n cap 9 D3.out.ready (by omega) (by omega)).mono ?_
  rintro e w9 ⟨k, rfl, ka, kb, rd, gr⟩
  have D4 : Hid (DC w W w9 g a n cap B3 ⟨t, 1 + y, 0, false, 0, 0⟩) := D3.out.step gr rd
  clear rd gr D3 wy
  go_wp2
  go_loopw [5, 6] (fun t5 t6 wr => ∃ (N : Nat) (now : Int) (x0 x1 x2 : Int) (x3 : Bool) (x4 x5 : Int), N ≤ 8 ∧ 0 ≤ now ∧ now + 40 * (N : Int) ≤ 320 ∧ t5 = .int .i64 now ∧ t6 = .int .i64 (N : Int) ∧ Hid (DC w W wr g a n cap B3 ⟨x0, x1, x2, x3, x4, x5⟩) ∧ Hid (codOk ⟨x0, x1, x2, x3, x4, x5⟩ = true ∧ x0 < 30 ∧ x1 ≤ 50)) (fun _ t6 _ => (intOf t6).toNat)
  case atStart => exact ⟨k.toNat, 0, t, 1 + y, 0, false, 0, 0, by omega, by omega, by omega, rfl, by rw [Int.toNat_of_nonneg ka], D4, Q3⟩
  case round =>
    clear D4 Q3
    obtain ⟨N, now, x0, x1, x2, x3, x4, x5, hN, hn0, hnN, rfl, rfl, HD, HQ⟩ := hrel
    by_cases hz : N = 0
    · subst hz
      have hzd : decide ((0 : Int) < ((0 : Nat) : Int)) = false := by simp
      have ca0 := HD.out.box.cell 0
      have da0 := HD.out.res.cell 0
      have fa0 := fzB HD.out.res 0
      have ca1 := HD.out.box.cell 1
      have da1 := HD.out.res.cell 1
      have fa1 := fzB HD.out.res 1
      have ca2 := HD.out.box.cell 2
      have da2 := HD.out.res.cell 2
      have fa2 := fzB HD.out.res 2
      have ca3 := HD.out.box.cell 3
      have da3 := HD.out.res.cell 3
      have fa3 := fzB HD.out.res 3
      have ca4 := HD.out.box.cell 4
      have da4 := HD.out.res.cell 4
      have fa4 := fzB HD.out.res 4
      have ca5 := HD.out.box.cell 5
      have da5 := HD.out.res.cell 5
      have fa5 := fzB HD.out.res 5
      have hl9 := HD.out.low
      go_wp2
      refine bodyPost_ret (v := .agg #[.int .i64 x0, .int .i64 x1, .int .i64 x2, .bool x3, .int .i64 x4, .int .i64 x5]) (by simp [results, Try.results11, go_sem, da0, da1, da2, da3, da4, da5]) rfl ⟨x0, x1, x2, x3, x4, x5, rfl, HQ.out.1, HQ.out.2.1, HQ.out.2.2, ?_, ?_⟩
      · exact ((((((HD.out.ready.set (by show g ≠ W.heap.size; omega) (by show w.heap.size ≤ W.heap.size; omega) _).set (by show g ≠ W.heap.size; omega) (by show w.heap.size ≤ W.heap.size; omega) _).set (by show g ≠ W.heap.size; omega) (by show w.heap.size ≤ W.heap.size; omega) _).set (by show g ≠ W.heap.size; omega) (by show w.heap.size ≤ W.heap.size; omega) _).set (by show g ≠ W.heap.size; omega) (by show w.heap.size ≤ W.heap.size; omega) _).set (by show g ≠ W.heap.size; omega) (by show w.heap.size ≤ W.heap.size; omega) _)
      · exact (gr_set (gr_set (gr_set (gr_set (gr_set (gr_set HD.out.grown (Nat.le_refl _) _) (Nat.le_refl _) _) (Nat.le_refl _) _) (Nat.le_refl _) _) (Nat.le_refl _) _) (Nat.le_refl _) _)
    · obtain ⟨N1, rfl⟩ : ∃ N1, N = N1 + 1 := ⟨N - 1, by omega⟩
      have hzd : decide ((0 : Int) < ((N1 + 1 : Nat) : Int)) = true := decide_eq_true (by omega)
      have hzd2 : decide ((0 : Int) < (N1 : Int) + 1) = true := decide_eq_true (by omega)
      clear hz
      go_wp2_with fail
      refine (draw w _ g a n cap 40 HD.out.ready (by omega) (by omega)).mono ?_
      rintro e w5 ⟨y2, rfl, ya2, yb2, rd, gr⟩
      have D5 : Hid (DC w W w5 g a n cap B3 ⟨x0, x1, x2, x3, x4, x5⟩) := HD.out.step gr rd
      have D6 : Hid (DC w W w5.drew g a n cap B3 ⟨x0, x1, x2, x3, x4, x5⟩) := D5.out.below (Below.drew (Below.refl _ _))
      clear rd gr HD
      have wr2 : IntKind.i64.wrap (now + y2) = now + y2 := by rw [IntKind.wrap_i64]; omega
      have ca0 := D6.out.box.cell 0
      have ca1 := D6.out.box.cell 1
      have ca2 := D6.out.box.cell 2
      have ca3 := D6.out.box.cell 3
      have ca4 := D6.out.box.cell 4
      have ca5 := D6.out.box.cell 5
      go_upto_region 7 with fail
      go_region_with (first | (go_at_call 12; refine (draw w _ g a n cap 60 D6.out.ready (by omega) (by omega)).mono ?_; rintro e w6 ⟨y3, rfl, ya3, yb3, rd, gr⟩; have D7 : Hid (DC w W w6 g a n cap B3 ⟨x0, x1, x2, x3, x4, x5⟩) := D6.out.step gr rd; have wr3 : IntKind.i64.wrap (y3 - 1) = y3 - 1 := (by rw [IntKind.wrap_i64]; omega); have ea0 := D7.out.box.cell 0; have ga0 := fzB D7.out.box 0; have ea1 := D7.out.box.cell 1; have ga1 := fzB D7.out.box 1; have ea2 := D7.out.box.cell 2; have ga2 := fzB D7.out.box 2; have ea3 := D7.out.box.cell 3; have ga3 := fzB D7.out.box 3; have ea4 := D7.out.box.cell 4; have ga4 := fzB D7.out.box 4; have ea5 := D7.out.box.cell 5; have ga5 := fzB D7.out.box 5; clear rd gr) | (go_at_call 22; refine (see_at x0 x1 x2 x3 x4 x5 (now + y2) (y3 - 1) HQ.out.1 (by omega) (by omega) _).mono ?_; rintro e w7 ⟨u0, u1, u2, u3, u4, u5, D, rfl, hu, hu0, hu1, b7⟩; have D8 : Hid (DC w W w7 g a n cap B3 ⟨x0, x1, x2, x3, x4, x5⟩) := D7.out.below b7; have HU : Hid (codOk ⟨u0, u1, u2, u3, u4, u5⟩ = true ∧ u0 < 30 ∧ u1 ≤ 50) := ⟨hu, by have := HQ.out.2.1; omega, by have := HQ.out.2.2; omega⟩; have ha0 := D8.out.box.cell 0; have ka0 := fzB D8.out.box 0; have ha1 := D8.out.box.cell 1; have ka1 := fzB D8.out.box 1; have ha2 := D8.out.box.cell 2; have ka2 := fzB D8.out.box 2; have ha3 := D8.out.box.cell 3; have ka3 := fzB D8.out.box 3; have ha4 := D8.out.box.cell 4; have ka4 := fzB D8.out.box 4; have ha5 := D8.out.box.cell 5; have ka5 := fzB D8.out.box 5; clear hu hu0 hu1 b7))
      all_goals
        have D9 := D8.out.put u0 u1 u2 u3 u4 u5
        have HD9 : Hid (DC w W ((((((w7.setCell ⟨B3, 0, none⟩ (.int .i64 u0)).setCell ⟨B3, 1, none⟩ (.int .i64 u1)).setCell ⟨B3, 2, none⟩ (.int .i64 u2)).setCell ⟨B3, 3, none⟩ (.bool u3)).setCell ⟨B3, 4, none⟩ (.int .i64 u4)).setCell ⟨B3, 5, none⟩ (.int .i64 u5)) g a n cap B3 ⟨u0, u1, u2, u3, u4, u5⟩) := D9
        clear D9 D8 ha0 ka0 ha1 ka1 ha2 ka2 ha3 ka3 ha4 ka4 ha5 ka5
        generalize ((((((w7.setCell ⟨B3, 0, none⟩ (.int .i64 u0)).setCell ⟨B3, 1, none⟩ (.int .i64 u1)).setCell ⟨B3, 2, none⟩ (.int .i64 u2)).setCell ⟨B3, 3, none⟩ (.bool u3)).setCell ⟨B3, 4, none⟩ (.int .i64 u4)).setCell ⟨B3, 5, none⟩ (.int .i64 u5)) = w8 at *
        go_wp2
        go_roundw
        case rel => exact ⟨N1, now + y2, u0, u1, u2, u3, u4, u5, by omega, by omega, by omega, rfl, by go_num, HD9, HU⟩
        case measure => simp [intOf]
theorem make_cod (n : Nat) (a : Option Addr) (cap : Nat) (W : World) (hn : (n : Int) ≤ 1048576) (hok : DrawWalks.CodeOk W W.heap.size a n) : Calls Try.prog 4 #[.slice a n cap] W fun e w' => ∃ (x0 x1 x2 : Int) (x3 : Bool) (x4 x5 : Int), e = .returned (.agg #[.int .i64 x0, .int .i64 x1, .int .i64 x2, .bool x3, .int .i64 x4, .int .i64 x5]) ∧ codOk ⟨x0, x1, x2, x3, x4, x5⟩ = true ∧ x0 < 30 ∧ x1 ≤ 50 ∧ Below W.heap.size W w' := by
  have HS := fun X h => DrawKit.start n a cap W X hn hok h
  have B0 : Hid (Below W.heap.size W (W.alloc (.cells #[.int .i64 0, .int .i64 0, .int .i64 0, .bool false, .int .i64 0, .int .i64 0] 24)) ∧ boxB (W.alloc (.cells #[.int .i64 0, .int .i64 0, .int .i64 0, .bool false, .int .i64 0, .int .i64 0] 24)) W.heap.size #[.int .i64 0, .int .i64 0, .int .i64 0, .bool false, .int .i64 0, .int .i64 0] 24) := ⟨n1 _ _, boxB.new _ _ _⟩
  clear hok
  go_enter Try.func4, Try.ntmps4
  go_wp2_with fail
  refine (HS _ B0.out.1).mono ?_
  rintro e w1 ⟨rfl, rd, b1⟩
  rw [sz1] at rd ⊢
  obtain ⟨g, hg⟩ : ∃ g, W.heap.size + 1 = g := ⟨_, rfl⟩
  rw [hg] at rd ⊢
  have H1 : Hid (Ready W w1 g a n cap ∧ boxB w1 W.heap.size #[.int .i64 0, .int .i64 0, .int .i64 0, .bool false, .int .i64 0, .int .i64 0] 24) := ⟨rd, B0.out.2.below b1⟩
  have hgW : W.heap.size < g := by omega
  clear hg rd b1 B0 HS
  go_wp2_with fail
  refine (draw_cod W _ g a n cap H1.out.1).mono ?_
  rintro e w2 ⟨x0, x1, x2, x3, x4, x5, rfl, hk, h0, h1, rd, gr⟩
  obtain ⟨B4, hB4⟩ : ∃ B4, w2.heap.size = B4 := ⟨_, rfl⟩
  have HQ : Hid (codOk ⟨x0, x1, x2, x3, x4, x5⟩ = true ∧ x0 < 30 ∧ x1 ≤ 50) := ⟨hk, h0, h1⟩
  have H2 : Hid (Below W.heap.size W (w2.alloc (.cells #[.int .i64 x0, .int .i64 x1, .int .i64 x2, .bool x3, .int .i64 x4, .int .i64 x5] 24)) ∧ boxB (w2.alloc (.cells #[.int .i64 x0, .int .i64 x1, .int .i64 x2, .bool x3, .int .i64 x4, .int .i64 x5] 24)) W.heap.size #[.int .i64 0, .int .i64 0, .int .i64 0, .bool false, .int .i64 0, .int .i64 0] 24 ∧ boxB (w2.alloc (.cells #[.int .i64 x0, .int .i64 x1, .int .i64 x2, .bool x3, .int .i64 x4, .int .i64 x5] 24)) B4 #[.int .i64 x0, .int .i64 x1, .int .i64 x2, .bool x3, .int .i64 x4, .int .i64 x5] 24) := by
    have h9 := boxB.new w2 #[.int .i64 x0, .int .i64 x1, .int .i64 x2, .bool x3, .int .i64 x4, .int .i64 x5] 24
    rw [hB4] at h9
    exact ⟨(rd.alloc _).past, (kept_box H1.out.2 (by omega) gr).below (n1 _ _), h9⟩
  clear hk h0 h1 rd gr H1
  go_upto_region 3 with fail
  try rw [hB4]
  clear hB4
  generalize (w2.alloc (.cells #[.int .i64 x0, .int .i64 x1, .int .i64 x2, .bool x3, .int .i64 x4, .int .i64 x5] 24)) = w3 at *
  have ca0 := H2.out.2.2.cell 0
  have da0 := H2.out.2.1.cell 0
  have fa0 := fzB H2.out.2.1 0
  have ca1 := H2.out.2.2.cell 1
  have da1 := H2.out.2.1.cell 1
  have fa1 := fzB H2.out.2.1 1
  have ca2 := H2.out.2.2.cell 2
  have da2 := H2.out.2.1.cell 2
  have fa2 := fzB H2.out.2.1 2
  have ca3 := H2.out.2.2.cell 3
  have da3 := H2.out.2.1.cell 3
  have fa3 := fzB H2.out.2.1 3
  have ca4 := H2.out.2.2.cell 4
  have da4 := H2.out.2.1.cell 4
  have fa4 := fzB H2.out.2.1 4
  have ca5 := H2.out.2.2.cell 5
  have da5 := H2.out.2.1.cell 5
  have fa5 := fzB H2.out.2.1 5
  go_wp2
  exact bodyPost_ret (v := .agg #[.int .i64 x0, .int .i64 x1, .int .i64 x2, .bool x3, .int .i64 x4, .int .i64 x5]) (by simp [results, Try.results4, go_sem, da0, fa0, da1, fa1, da2, fa2, da3, fa3, da4, fa4, da5, fa5]) rfl ⟨x0, x1, x2, x3, x4, x5, rfl, HQ.out.1, HQ.out.2.1, HQ.out.2.2, (Below.setCell (Below.setCell (Below.setCell (Below.setCell (Below.setCell (Below.setCell H2.out.1 (by exact Nat.le_refl _) _) (by exact Nat.le_refl _) _) (by exact Nat.le_refl _) _) (by exact Nat.le_refl _) _) (by exact Nat.le_refl _) _) (by exact Nat.le_refl _) _)⟩
end Go.Proofs.Ytdgkmiknnelddaa.CodDraw
