/- What the law's drawing of a limit does: at every list of at most 2 to the 20 bytes it gives a right limit, and nothing else turns. -/
import Derived.Deep.DeepCutAuto
import Derived.Deep.RegionHeld3
import Derived.Test.YtbdkepnjhcdpnaaRows
import Derived.WalkKit
import Derived.WalkSmall
import Derived.BigQuiet
import Derived.Deep.RegionWith
import Derived.Test.YtbdkepnjhcdpnaaPairWalks
import Derived.Test.YtbdkepnjhcdpnaaWinOk
import Derived.Test.YtbdkepnjhcdpnaaDrawWalks
import Derived.Test.YtbdkepnjhcdpnaaCodeArg
import Derived.Test.YtbdkepnjhcdpnaaDrawKit
import Derived.Test.YtbdkepnjhcdpnaaLimKit
import Derived.Test.YtbdkepnjhcdpnaaLimSpec
import Derived.Test.YtbdkepnjhcdpnaaLimCopy
import Derived.Test.YtbdkepnjhcdpnaaLimBack
import Derived.Test.YtbdkepnjhcdpnaaLimSteps
import Derived.Test.YtbdkepnjhcdpnaaLimMath
import Derived.Test.YtbdkepnjhcdpnaaLimSlope
import Derived.Test.YtbdkepnjhcdpnaaLimNews
import Derived.Test.YtbdkepnjhcdpnaaLimLearn
import Derived.Test.YtbdkepnjhcdpnaaLimInv
import Derived.Test.YtbdkepnjhcdpnaaWinMath
namespace Go.Proofs.Ytbdkepnjhcdpnaa.LimDraw
open Go.RowKit PairWalks WinOk DrawKit LimKit LimCopy LimBack LimMath LimInv
open LimSpec (limOk cfgOk)
open LimSteps (isLat)
open DrawWalks (CodeOk)
set_option maxRecDepth 8000
set_option linter.unusedVariables false
set_option linter.unusedSimpArgs false

set_option maxHeartbeats 2000000 in
theorem draw_cfg (w W : World) (g : Nat) (a : Option Addr) (n cap : Nat) (h : Ready w W g a n cap) :
    Calls Try.prog 23 #[.pointer (some ⟨g, 0, none⟩)] W fun e w' => ∃ k mn mx sp sl : Int, e = .returned (.agg #[.int .i64 k, .int .i64 mn, .int .i64 mx, .int .i64 sp, .int .i64 sl]) ∧ cfgOk k mn mx sp sl ∧ mx ≤ mn + 8 ∧ Ready w w' g a n cap ∧ W.grownBy w' (some g) := by
  have RD : Hid (Ready w (W.alloc (.cells #[.int .i64 0, .int .i64 0, .int .i64 0, .int .i64 0, .int .i64 0] 24)) g a n cap) := h.alloc _
  have G0 : Hid (W.grownBy (W.alloc (.cells #[.int .i64 0, .int .i64 0, .int .i64 0, .int .i64 0, .int .i64 0] 24)) (some g)) := gr_alloc (gr_refl _) _
  have Q0 : Hid ((W.alloc (.cells #[.int .i64 0, .int .i64 0, .int .i64 0, .int .i64 0, .int .i64 0] 24)).heap[W.heap.size]? = some (.cells #[.int .i64 0, .int .i64 0, .int .i64 0, .int .i64 0, .int .i64 0] 24 (0, 0))) := heap_alloc_new W _
  have hlt := h.lt
  have HW : Hid (w.heap.size ≤ W.heap.size) := h.past.size
  clear h
  go_enter Try.func23, Try.ntmps23
  go_upto_region 2 with (first | (go_at_call_of 14 (Value.int IntKind.i64 2); refine (draw w _ g a n cap 2 RD.out (by omega) (by omega)).mono ?_; rintro e w1 ⟨y1, rfl, ya1, yb1, rd1, gr1⟩; have R1 : Hid (Ready w w1 g a n cap) := rd1; have G1 : Hid (W.grownBy w1 (some g)) := gr_then G0.out gr1; have Q1 : Hid (w1.heap[W.heap.size]? = _) := kept_draw Q0.out (Nat.ne_of_gt hlt) gr1; clear rd1 gr1) | (go_at_call_of 14 (Value.int IntKind.i64 3); refine (draw w _ g a n cap 3 R1.out (by omega) (by omega)).mono ?_; rintro e w2 ⟨y2, rfl, ya2, yb2, rd2, gr2⟩; have R2 : Hid (Ready w w2 g a n cap) := rd2; have G2 : Hid (W.grownBy w2 (some g)) := gr_then G1.out gr2; have Q2 : Hid (w2.heap[W.heap.size]? = _) := kept_draw Q1.out (Nat.ne_of_gt hlt) gr2; clear rd2 gr2) | (go_at_call_of 14 (Value.int IntKind.i64 90); refine (draw w _ g a n cap 90 R2.out (by omega) (by omega)).mono ?_; rintro e w3 ⟨y3, rfl, ya3, yb3, rd3, gr3⟩; have R3 : Hid (Ready w w3 g a n cap) := rd3; have G3 : Hid (W.grownBy w3 (some g)) := gr_then G2.out gr3; have Q3 : Hid (w3.heap[W.heap.size]? = _) := kept_draw Q2.out (Nat.ne_of_gt hlt) gr3; clear rd3 gr3) | (go_at_call_of 14 (Value.int IntKind.i64 80); refine (draw w _ g a n cap 80 R3.out (by omega) (by omega)).mono ?_; rintro e w4 ⟨y4, rfl, ya4, yb4, rd4, gr4⟩; have R4 : Hid (Ready w w4 g a n cap) := rd4; have G4 : Hid (W.grownBy w4 (some g)) := gr_then G3.out gr4; have Q4 : Hid (w4.heap[W.heap.size]? = _) := kept_draw Q3.out (Nat.ne_of_gt hlt) gr4; clear rd4 gr4))
  have hw4 : Hid (W.heap.size < w4.heap.size ∧ g < w4.heap.size) := ⟨by have := (Array.getElem?_eq_some_iff.1 Q4.out).1; exact this, R4.out.lt⟩
  have R5 : Hid (Ready w (w4.alloc (.cells #[.int .i64 (1 + y1), .int .i64 (1 + y2), .int .i64 0, .int .i64 (1 + y3), .int .i64 y4] 24)) g a n cap) := R4.out.alloc _
  have G5 : Hid (W.grownBy (w4.alloc (.cells #[.int .i64 (1 + y1), .int .i64 (1 + y2), .int .i64 0, .int .i64 (1 + y3), .int .i64 y4] 24)) (some g)) := gr_alloc G4.out _
  have Q5 : Hid ((w4.alloc (.cells #[.int .i64 (1 + y1), .int .i64 (1 + y2), .int .i64 0, .int .i64 (1 + y3), .int .i64 y4] 24)).heap[W.heap.size]? = some (.cells #[.int .i64 0, .int .i64 0, .int .i64 0, .int .i64 0, .int .i64 0] 24 (0, 0)) ∧ (w4.alloc (.cells #[.int .i64 (1 + y1), .int .i64 (1 + y2), .int .i64 0, .int .i64 (1 + y3), .int .i64 y4] 24)).heap[w4.heap.size]? = some (.cells #[.int .i64 (1 + y1), .int .i64 (1 + y2), .int .i64 0, .int .i64 (1 + y3), .int .i64 y4] 24 (0, 0))) := ⟨kept_new Q4.out, heap_alloc_new w4 _⟩
  clear RD G0 Q0 R1 G1 Q1 R2 G2 Q2 R3 G3 Q3 R4 G4 Q4
  obtain ⟨b4, hb4⟩ : ∃ b, w4.heap.size = b := ⟨_, rfl⟩
  have HB4 : Hid (w4.heap.size = b4) := hb4
  generalize (w4.alloc (.cells #[.int .i64 (1 + y1), .int .i64 (1 + y2), .int .i64 0, .int .i64 (1 + y3), .int .i64 y4] 24)) = W4 at *
  rw [hb4] at hw4 Q5 ⊢
  clear hb4 HB4
  have x1 : W4.cell? ⟨b4, 1, none⟩ = some (.int .i64 (1 + y2)) := cell_blk Q5.out.2 1
  go_region_with (go_at_call_of 14 (Value.int IntKind.i64 9); refine (draw w _ g a n cap 9 R5.out.drew (by omega) (by omega)).mono ?_; rintro e w5 ⟨y5, rfl, ya5, yb5, rd5, gr5⟩; have R6 : Hid (Ready w w5 g a n cap) := rd5; have G6 : Hid (W.grownBy w5 (some g)) := gr_then G5.out (undrew gr5); have Q6 : Hid (w5.heap[W.heap.size]? = some (.cells #[.int .i64 0, .int .i64 0, .int .i64 0, .int .i64 0, .int .i64 0] 24 (0, 0)) ∧ w5.heap[b4]? = some (.cells #[.int .i64 (1 + y1), .int .i64 (1 + y2), .int .i64 0, .int .i64 (1 + y3), .int .i64 y4] 24 (0, 0))) := ⟨kept_draw Q5.out.1 (Nat.ne_of_gt hlt) (undrew gr5), kept_draw Q5.out.2 (Nat.ne_of_gt hw4.out.2) (undrew gr5)⟩; have z1 : w5.cell? ⟨b4, 1, none⟩ = some (.int .i64 (1 + y2)) := cell_blk Q6.out.2 1; have z2 : w5.cell? ⟨b4, 2, none⟩ = some (.int .i64 0) := cell_blk Q6.out.2 2; have f2 := fz_blk Q6.out.2 2; have wr := IntWalk.i64_in (1 + y2 + y5) ⟨by omega, by omega⟩; clear rd5 gr5)
  all_goals
    have q7 : (w5.setCell ⟨b4, 2, none⟩ (.int .i64 (1 + y2 + y5))).heap[b4]? = some (.cells #[.int .i64 (1 + y1), .int .i64 (1 + y2), .int .i64 (1 + y2 + y5), .int .i64 (1 + y3), .int .i64 y4] 24 (0, 0)) := heap_setCell_at Q6.out.2 2 _
    have q8 : (w5.setCell ⟨b4, 2, none⟩ (.int .i64 (1 + y2 + y5))).heap[W.heap.size]? = some (.cells #[.int .i64 0, .int .i64 0, .int .i64 0, .int .i64 0, .int .i64 0] 24 (0, 0)) := kept_set Q6.out.1 (Nat.ne_of_lt hw4.out.1)
    have R8 : Hid (Ready w (w5.setCell ⟨b4, 2, none⟩ (.int .i64 (1 + y2 + y5))) g a n cap) := R6.out.set (Nat.ne_of_lt hw4.out.2) (by show w.heap.size ≤ b4; have := hw4.out.1; have := HW.out; omega) _
    have G8 : Hid (W.grownBy (w5.setCell ⟨b4, 2, none⟩ (.int .i64 (1 + y2 + y5))) (some g)) := gr_set G6.out (by show W.heap.size ≤ b4; have := hw4.out.1; omega) _
    clear x1 z1 z2 f2 R5 G5 Q5 R6 G6 Q6
    try rw [wr]
    clear wr
    generalize (w5.setCell ⟨b4, 2, none⟩ (.int .i64 (1 + y2 + y5))) = W8 at *
    have c0 := cell_blk q7 0
    have c1 := cell_blk q7 1
    have c2 := cell_blk q7 2
    have c3 := cell_blk q7 3
    have c4 := cell_blk q7 4
    have d0 := cell_blk q8 0
    have e0 := fz_blk q8 0
    have d1 := cell_blk q8 1
    have e1 := fz_blk q8 1
    have d2 := cell_blk q8 2
    have e2 := fz_blk q8 2
    have d3 := cell_blk q8 3
    have e3 := fz_blk q8 3
    have d4 := cell_blk q8 4
    have e4 := fz_blk q8 4
    clear q7 q8
    go_wp2
    refine bodyPost_ret (v := .agg #[.int .i64 (1 + y1), .int .i64 (1 + y2), .int .i64 (1 + y2 + y5), .int .i64 (1 + y3), .int .i64 y4]) (by simp [results, Try.results23, go_sem, d0, d1, d2, d3, d4]) rfl ⟨1 + y1, 1 + y2, 1 + y2 + y5, 1 + y3, y4, rfl, ⟨by omega, by omega, by omega, by omega, by omega, by omega, by omega, by omega⟩, by omega, ?_, ?_⟩
    · exact (((((R8.out).set (Nat.ne_of_lt hlt) HW.out _).set (Nat.ne_of_lt hlt) HW.out _).set (Nat.ne_of_lt hlt) HW.out _).set (Nat.ne_of_lt hlt) HW.out _).set (Nat.ne_of_lt hlt) HW.out _
    · exact gr_set (gr_set (gr_set (gr_set (gr_set (G8.out) (Nat.le_refl _) _) (Nat.le_refl _) _) (Nat.le_refl _) _) (Nat.le_refl _) _) (Nat.le_refl _) _

theorem new_ok (k mn mx sp sl st : Int) (hc : cfgOk k mn mx sp sl) (h0 : mn ≤ st) (h1 : st ≤ mx) : limOk k mn mx sp sl st 0 0 sp [] :=
  ⟨hc, h0, h1, by omega, by omega, by omega, by omega, WinMath.winOk_of hc.2.2.2.2.1 hc.2.2.2.2.2.1 (by simp) (fun p hp => by simp at hp) List.Pairwise.nil, rfl⟩

theorem new_call (k mn mx sp sl st : Int) (w : World) (hk : limOk k mn mx sp sl st 0 0 sp []) :
    Calls Try.prog 24 #[.agg #[.int .i64 k, .int .i64 mn, .int .i64 mx, .int .i64 sp, .int .i64 sl], .int .i64 st] w fun e w' => e = .returned (.tuple #[.agg #[.int .i64 k, .int .i64 mn, .int .i64 mx, .int .i64 sp, .int .i64 sl, .int .i64 st, .int .i64 0, .int .i64 0, .int .i64 sp, .slice none 0 0], .bool true]) ∧ Below w.heap.size w w' :=
  (LimNews.spec_new_yes k mn mx sp sl st w hk).mono fun e w' ⟨v, he, hv, hb⟩ => by
    rcases hv with hv | hv
    · exact ⟨by rw [he, hv.2], hb⟩
    · cases hv.1

theorem learn_ok (k mn mx sp sl li gd av ws : Int) (L : List (Int × Int)) (now lat : Int) (ok : Bool) (hk : limOk k mn mx sp sl li gd av ws L) (hT : isT now) (ht : isLat lat) : ∃ (x y z : Int) (P : List (Int × Int)), limOk k mn mx sp sl x y z ws P ∧ ∀ (W : World) (a : Option Addr) (c : Nat), WOk W a L → Calls Try.prog 25 #[.agg #[.int .i64 k, .int .i64 mn, .int .i64 mx, .int .i64 sp, .int .i64 sl, .int .i64 li, .int .i64 gd, .int .i64 av, .int .i64 ws, .slice a L.length c], .int .i64 now, .int .i64 lat, .bool ok] W (LAns W k mn mx sp sl x y z ws P) := by
  have hl : (L.length : Int) ≤ 1048577 := by have := hk.2.2.2.2.2.2.2.1.2.2.1; omega
  have l0 : 1 ≤ li := by have h1 := hk.1.2.1; have h2 := hk.2.1; omega
  have l1 : li ≤ 1000 := by have h1 := hk.1.2.2.2.1; have h2 := hk.2.2.1; omega
  cases ok with
  | false => exact ⟨_, _, _, _, ok_back hk, fun W a c h => LimLearn.learn_fail k mn mx sp sl li gd av ws _ _ _ _ a c L now lat W h hl hk hT ht fun W h => back_yes k mn mx sp sl li gd av ws a c L W h hl hk⟩
  | true =>
    by_cases h1 : k = 1
    · by_cases hs : sl < lat
      · exact ⟨_, _, _, _, ok_back hk, fun W a c h => LimLearn.learn_steps k mn mx sp sl li gd av ws _ _ _ _ a c L now lat W h hl hk hT ht h1 fun W h => LimSteps.steps_slow k mn mx sp sl li gd av ws a c L lat W h hl hk ht hs⟩
      · by_cases hg : li ≤ gd + 1
        · exact ⟨_, _, _, _, ok_up hk, fun W a c h => LimLearn.learn_steps k mn mx sp sl li gd av ws _ _ _ _ a c L now lat W h hl hk hT ht h1 fun W h => LimSteps.steps_up k mn mx sp sl li gd av ws a c L lat W h hl hk ht hs hg⟩
        · exact ⟨_, _, _, _, ok_same hk hg, fun W a c h => LimLearn.learn_steps k mn mx sp sl li gd av ws _ _ _ _ a c L now lat W h hl hk hT ht h1 fun W h => LimSteps.steps_same k mn mx sp sl li gd av ws a c L lat W h hl hk ht hs hg⟩
    · obtain ⟨r, hr⟩ := root_is l0 l1
      exact ⟨_, _, _, _, ok_slope _ hk hT ht, fun W a c h => LimLearn.learn_slope k mn mx sp sl li gd av ws _ _ _ _ a c L now lat W h hl hk hT ht h1 fun W h => LimSlope.slope_yes k mn mx sp sl li gd av ws a c L now lat r W h hl hk hT ht hr⟩

theorem to_hid {p : Prop} (h : p) : Hid p := h

theorem cp {w : World} {p : Addr} {v : Value} {o : Obj} (h : w.cell? p = some v) : (w.alloc o).cell? p = some v := by
  rw [World.cell?_alloc_lt _ _ _ (World.block_lt_of_cell? w p h)]
  exact h

/-- What is drawn: a right limit, its samples in new memory. -/
def DrawAns (w W : World) (e : Ending) (w' : World) : Prop := ∃ (k mn mx sp sl li gd av ws : Int) (aL : Option Addr) (cL : Nat) (L : List (Int × Int)), e = .returned (.agg #[.int .i64 k, .int .i64 mn, .int .i64 mx, .int .i64 sp, .int .i64 sl, .int .i64 li, .int .i64 gd, .int .i64 av, .int .i64 ws, .slice aL L.length cL]) ∧ limOk k mn mx sp sl li gd av ws L ∧ WOk w' aL L ∧ (∀ b, blk aL = some b → W.heap.size ≤ b) ∧ Below w.heap.size w w'


theorem five_new {w : World} {p0 p1 p2 p3 p4 : Addr} {v0 v1 v2 v3 v4 : Value} {o : Obj} (h : w.cell? p0 = some v0 ∧ w.cell? p1 = some v1 ∧ w.cell? p2 = some v2 ∧ w.cell? p3 = some v3 ∧ w.cell? p4 = some v4) : (w.alloc o).cell? p0 = some v0 ∧ (w.alloc o).cell? p1 = some v1 ∧ (w.alloc o).cell? p2 = some v2 ∧ (w.alloc o).cell? p3 = some v3 ∧ (w.alloc o).cell? p4 = some v4 := ⟨cp h.1, cp h.2.1, cp h.2.2.1, cp h.2.2.2.1, cp h.2.2.2.2⟩

theorem five_newd {w : World} {p0 p1 p2 p3 p4 : Addr} {v0 v1 v2 v3 v4 : Value} {o : Obj} (h : w.cell? p0 = some v0 ∧ w.cell? p1 = some v1 ∧ w.cell? p2 = some v2 ∧ w.cell? p3 = some v3 ∧ w.cell? p4 = some v4) : (w.alloc o).drew.cell? p0 = some v0 ∧ (w.alloc o).drew.cell? p1 = some v1 ∧ (w.alloc o).drew.cell? p2 = some v2 ∧ (w.alloc o).drew.cell? p3 = some v3 ∧ (w.alloc o).drew.cell? p4 = some v4 := five_new h

theorem five_set {w : World} {b : Nat} {q : Addr} {u v0 v1 v2 v3 v4 : Value} (hne : b ≠ q.block) (h : w.cell? ⟨b, 0, none⟩ = some v0 ∧ w.cell? ⟨b, 1, none⟩ = some v1 ∧ w.cell? ⟨b, 2, none⟩ = some v2 ∧ w.cell? ⟨b, 3, none⟩ = some v3 ∧ w.cell? ⟨b, 4, none⟩ = some v4) : (w.setCell q u).cell? ⟨b, 0, none⟩ = some v0 ∧ (w.setCell q u).cell? ⟨b, 1, none⟩ = some v1 ∧ (w.setCell q u).cell? ⟨b, 2, none⟩ = some v2 ∧ (w.setCell q u).cell? ⟨b, 3, none⟩ = some v3 ∧ (w.setCell q u).cell? ⟨b, 4, none⟩ = some v4 := by
  have e : ∀ i, (w.setCell q u).cell? ⟨b, i, none⟩ = w.cell? ⟨b, i, none⟩ := fun i => World.cell?_of_block (a := ⟨b, i, none⟩) (Below.heap_setCell w q u b hne)
  exact ⟨(e 0).trans h.1, (e 1).trans h.2.1, (e 2).trans h.2.2.1, (e 3).trans h.2.2.2.1, (e 4).trans h.2.2.2.2⟩

theorem new_draw {w W W3 : World} {g n cap b : Nat} {a : Option Addr} {o q : Obj} (rd : Ready w W g a n cap) (hb : W.heap[b]? = some o) (gr : (W.alloc q).grownBy W3 (some g)) : W3.heap[W.heap.size]? = some q ∧ g ≠ W.heap.size ∧ b < W.heap.size :=
  ⟨kept_draw (heap_alloc_new W q) (Nat.ne_of_gt rd.lt) gr, Nat.ne_of_lt rd.lt, (Array.getElem?_eq_some_iff.1 hb).1⟩

/-- Behind the new limit: its box at b, the answer's box, the cursor. -/
def LimBox (w W X : World) (g b b2 : Nat) (a : Option Addr) (n cap : Nat) (k mn mx sp sl st : Int) : Prop := X.heap[b]? = some (.cells #[.int .i64 k, .int .i64 mn, .int .i64 mx, .int .i64 sp, .int .i64 sl, .int .i64 st, .int .i64 0, .int .i64 0, .int .i64 sp, .slice none 0 0] 29 (0, 0)) ∧ X.heap[W.heap.size]? = some (.cells #[.int .i64 0, .int .i64 0, .int .i64 0, .int .i64 0, .int .i64 0, .int .i64 0, .int .i64 0, .int .i64 0, .int .i64 0, .slice none 0 0] 29 (0, 0)) ∧ Ready w X g a n cap ∧ W.grownBy X (some g) ∧ W.heap.size < b ∧ b ≠ g

theorem set10 {X : World} {b : Nat} {t : TypeId} {u0 v0 u1 v1 u2 v2 u3 v3 u4 v4 u5 v5 u6 v6 u7 v7 u8 v8 u9 v9 : Value} (h : X.heap[b]? = some (.cells #[u0, u1, u2, u3, u4, u5, u6, u7, u8, u9] t (0, 0))) : ((((((((((X.setCell ⟨b, 0, none⟩ v0).setCell ⟨b, 1, none⟩ v1).setCell ⟨b, 2, none⟩ v2).setCell ⟨b, 3, none⟩ v3).setCell ⟨b, 4, none⟩ v4).setCell ⟨b, 5, none⟩ v5).setCell ⟨b, 6, none⟩ v6).setCell ⟨b, 7, none⟩ v7).setCell ⟨b, 8, none⟩ v8).setCell ⟨b, 9, none⟩ v9).heap[b]? = some (.cells #[v0, v1, v2, v3, v4, v5, v6, v7, v8, v9] t (0, 0)) := by
  have h1 := heap_setCell_at (heap_setCell_at (heap_setCell_at (heap_setCell_at (heap_setCell_at (heap_setCell_at (heap_setCell_at (heap_setCell_at (heap_setCell_at (heap_setCell_at (h) 0 v0) 1 v1) 2 v2) 3 v3) 4 v4) 5 v5) 6 v6) 7 v7) 8 v8) 9 v9
  simpa using h1

section
variable {w W X : World} {g b b2 n cap : Nat} {a : Option Addr} {k mn mx sp sl st : Int}
theorem box_new (R : Ready w X g a n cap) (G : W.grownBy X (some g)) (Q : X.heap[W.heap.size]? = some (.cells #[.int .i64 0, .int .i64 0, .int .i64 0, .int .i64 0, .int .i64 0, .int .i64 0, .int .i64 0, .int .i64 0, .int .i64 0, .slice none 0 0] 29 (0, 0))) : LimBox w W (X.alloc (.cells #[.int .i64 k, .int .i64 mn, .int .i64 mx, .int .i64 sp, .int .i64 sl, .int .i64 st, .int .i64 0, .int .i64 0, .int .i64 sp, .slice none 0 0] 29)) g X.heap.size b2 a n cap k mn mx sp sl st :=
  ⟨heap_alloc_new X _, kept_new Q, R.alloc _, gr_alloc G _, (Array.getElem?_eq_some_iff.1 Q).1, Nat.ne_of_gt R.lt⟩
set_option maxHeartbeats 2000000 in
theorem box_set (R : Ready w X g a n cap) (G : W.grownBy X (some g)) (Q : X.heap[W.heap.size]? = some (.cells #[.int .i64 0, .int .i64 0, .int .i64 0, .int .i64 0, .int .i64 0, .int .i64 0, .int .i64 0, .int .i64 0, .int .i64 0, .slice none 0 0] 29 (0, 0))) (q : X.heap[b]? = some (.cells #[.int .i64 0, .int .i64 0, .int .i64 0, .int .i64 0, .int .i64 0, .int .i64 0, .int .i64 0, .int .i64 0, .int .i64 0, .slice none 0 0] 29 (0, 0))) (hb : W.heap.size < b) (hg : b ≠ g) (hw : w.heap.size ≤ W.heap.size) : LimBox w W ((((((((((X.setCell ⟨b, 0, none⟩ (.int .i64 k)).setCell ⟨b, 1, none⟩ (.int .i64 mn)).setCell ⟨b, 2, none⟩ (.int .i64 mx)).setCell ⟨b, 3, none⟩ (.int .i64 sp)).setCell ⟨b, 4, none⟩ (.int .i64 sl)).setCell ⟨b, 5, none⟩ (.int .i64 st)).setCell ⟨b, 6, none⟩ (.int .i64 0)).setCell ⟨b, 7, none⟩ (.int .i64 0)).setCell ⟨b, 8, none⟩ (.int .i64 sp)).setCell ⟨b, 9, none⟩ (.slice none 0 0)) g b b2 a n cap k mn mx sp sl st :=
  ⟨set10 q, kept_set (kept_set (kept_set (kept_set (kept_set (kept_set (kept_set (kept_set (kept_set (kept_set (Q) (Nat.ne_of_lt hb)) (Nat.ne_of_lt hb)) (Nat.ne_of_lt hb)) (Nat.ne_of_lt hb)) (Nat.ne_of_lt hb)) (Nat.ne_of_lt hb)) (Nat.ne_of_lt hb)) (Nat.ne_of_lt hb)) (Nat.ne_of_lt hb)) (Nat.ne_of_lt hb), ((((((((((R).set (Ne.symm hg) (Nat.le_trans hw (Nat.le_of_lt hb)) _).set (Ne.symm hg) (Nat.le_trans hw (Nat.le_of_lt hb)) _).set (Ne.symm hg) (Nat.le_trans hw (Nat.le_of_lt hb)) _).set (Ne.symm hg) (Nat.le_trans hw (Nat.le_of_lt hb)) _).set (Ne.symm hg) (Nat.le_trans hw (Nat.le_of_lt hb)) _).set (Ne.symm hg) (Nat.le_trans hw (Nat.le_of_lt hb)) _).set (Ne.symm hg) (Nat.le_trans hw (Nat.le_of_lt hb)) _).set (Ne.symm hg) (Nat.le_trans hw (Nat.le_of_lt hb)) _).set (Ne.symm hg) (Nat.le_trans hw (Nat.le_of_lt hb)) _).set (Ne.symm hg) (Nat.le_trans hw (Nat.le_of_lt hb)) _, gr_set (gr_set (gr_set (gr_set (gr_set (gr_set (gr_set (gr_set (gr_set (gr_set (G) (Nat.le_of_lt hb) _) (Nat.le_of_lt hb) _) (Nat.le_of_lt hb) _) (Nat.le_of_lt hb) _) (Nat.le_of_lt hb) _) (Nat.le_of_lt hb) _) (Nat.le_of_lt hb) _) (Nat.le_of_lt hb) _) (Nat.le_of_lt hb) _) (Nat.le_of_lt hb) _, hb, hg⟩
end

/-- In the midst of a limit's making: its box at b, right, its samples apart; the answer's box; the cursor. -/
def LimAt (w W X : World) (g b : Nat) (a : Option Addr) (n cap : Nat) (k mn mx sp sl li gd av : Int) (L : List (Int × Int)) (aL : Option Addr) (cL : Nat) : Prop := X.heap[b]? = some (.cells #[.int .i64 k, .int .i64 mn, .int .i64 mx, .int .i64 sp, .int .i64 sl, .int .i64 li, .int .i64 gd, .int .i64 av, .int .i64 sp, .slice aL L.length cL] 29 (0, 0)) ∧ limOk k mn mx sp sl li gd av sp L ∧ WOk X aL L ∧ (∀ bb, blk aL = some bb → W.heap.size < bb ∧ bb ≠ b) ∧ X.heap[W.heap.size]? = some (.cells #[.int .i64 0, .int .i64 0, .int .i64 0, .int .i64 0, .int .i64 0, .int .i64 0, .int .i64 0, .int .i64 0, .int .i64 0, .slice none 0 0] 29 (0, 0)) ∧ Ready w X g a n cap ∧ W.grownBy X (some g) ∧ W.heap.size < b ∧ b ≠ g
def LimSt (w W X : World) (g b : Nat) (a : Option Addr) (n cap : Nat) (k mn mx sp sl : Int) : Prop := ∃ (li gd av : Int) (L : List (Int × Int)) (aL : Option Addr) (cL : Nat), LimAt w W X g b a n cap k mn mx sp sl li gd av L aL cL

theorem LimSt.ready {w W X : World} {g b n cap : Nat} {a : Option Addr} {k mn mx sp sl : Int} (h : LimSt w W X g b a n cap k mn mx sp sl) : Ready w X g a n cap := by
  obtain ⟨li, gd, av, L, aL, cL, h1, h2, h3, h4, h5, h6, _⟩ := h
  exact h6
theorem wok_draw {W X Y : World} {g : Nat} {aL : Option Addr} {L : List (Int × Int)} (h : WOk X aL L) (hb : ∀ bb, blk aL = some bb → bb ≠ g) (gr : X.grownBy Y (some g)) : WOk Y aL L := by
  rcases h with h | ⟨c, o, rfl, hr⟩
  · exact Or.inl h
  · exact Or.inr ⟨c, o, rfl, hr.grown gr (hb c rfl)⟩
theorem LimAt.draw {w W X Y : World} {g b n cap : Nat} {a aL : Option Addr} {k mn mx sp sl li gd av : Int} {L : List (Int × Int)} {cL : Nat} (h : LimAt w W X g b a n cap k mn mx sp sl li gd av L aL cL) (hlt : g < W.heap.size) (rd : Ready w Y g a n cap) (gr : X.grownBy Y (some g)) : LimAt w W Y g b a n cap k mn mx sp sl li gd av L aL cL := by
  obtain ⟨h1, h2, h3, h4, h5, h6, h7, h8, h9⟩ := h
  exact ⟨kept_draw h1 h9 gr, h2, wok_draw (W := W) h3 (fun bb e => by have := h4 bb e; omega) gr, h4, kept_draw h5 (Nat.ne_of_gt hlt) gr, rd, gr_then h7 gr, h8, h9⟩
theorem LimSt.draw {w W X Y : World} {g b n cap : Nat} {a : Option Addr} {k mn mx sp sl : Int} (h : LimSt w W X g b a n cap k mn mx sp sl) (hlt : g < W.heap.size) (rd : Ready w Y g a n cap) (gr : X.grownBy Y (some g)) : LimSt w W Y g b a n cap k mn mx sp sl := by
  obtain ⟨li, gd, av, L, aL, cL, h1, h2, h3, h4, h5, h6, h7, h8, h9⟩ := h
  exact ⟨li, gd, av, L, aL, cL, LimAt.draw ⟨h1, h2, h3, h4, h5, h6, h7, h8, h9⟩ hlt rd gr⟩

/-- Behind what was learnt, ahead of its store. -/
def LearnAt (w W X : World) (g b : Nat) (a : Option Addr) (n cap : Nat) (k mn mx sp sl li gd av : Int) (L : List (Int × Int)) (aL : Option Addr) (cL : Nat) (x yy z : Int) (P : List (Int × Int)) (a2 : Option Addr) (c2 : Nat) : Prop := X.heap[b]? = some (.cells #[.int .i64 k, .int .i64 mn, .int .i64 mx, .int .i64 sp, .int .i64 sl, .int .i64 li, .int .i64 gd, .int .i64 av, .int .i64 sp, .slice aL L.length cL] 29 (0, 0)) ∧ limOk k mn mx sp sl x yy z sp P ∧ WOk X a2 P ∧ (∀ bb, blk a2 = some bb → W.heap.size < bb ∧ bb ≠ b) ∧ X.heap[W.heap.size]? = some (.cells #[.int .i64 0, .int .i64 0, .int .i64 0, .int .i64 0, .int .i64 0, .int .i64 0, .int .i64 0, .int .i64 0, .int .i64 0, .slice none 0 0] 29 (0, 0)) ∧ Ready w X g a n cap ∧ W.grownBy X (some g) ∧ W.heap.size < b ∧ b ≠ g

theorem LimAt.learn {w W X Y : World} {g b n cap : Nat} {a aL a2 : Option Addr} {k mn mx sp sl li gd av x yy z : Int} {L P : List (Int × Int)} {cL c2 : Nat} (h : LimAt w W X g b a n cap k mn mx sp sl li gd av L aL cL) (hok : limOk k mn mx sp sl x yy z sp P) (r2 : WOk Y a2 P) (g2 : ∀ bb, blk a2 = some bb → X.heap.size ≤ bb) (hb : Below X.heap.size X Y) : LearnAt w W Y g b a n cap k mn mx sp sl li gd av L aL cL x yy z P a2 c2 := by
  obtain ⟨h1, h2, h3, h4, h5, h6, h7, h8, h9⟩ := h
  have hbx := (Array.getElem?_eq_some_iff.1 h1).1
  exact ⟨kept_below h1 hb, hok, r2, fun bb e => by have := g2 bb e; omega, kept_below h5 hb, h6.below hb, gr_below h7 hb, h8, h9⟩

theorem LearnAt.done {w W X : World} {g b n cap : Nat} {a aL a2 : Option Addr} {k mn mx sp sl li gd av x yy z : Int} {L P : List (Int × Int)} {cL c2 : Nat} (h : LearnAt w W X g b a n cap k mn mx sp sl li gd av L aL cL x yy z P a2 c2) (hw : w.heap.size ≤ W.heap.size) : Hid (LimSt w W ((((((((((X.setCell ⟨b, 0, none⟩ (.int .i64 k)).setCell ⟨b, 1, none⟩ (.int .i64 mn)).setCell ⟨b, 2, none⟩ (.int .i64 mx)).setCell ⟨b, 3, none⟩ (.int .i64 sp)).setCell ⟨b, 4, none⟩ (.int .i64 sl)).setCell ⟨b, 5, none⟩ (.int .i64 x)).setCell ⟨b, 6, none⟩ (.int .i64 yy)).setCell ⟨b, 7, none⟩ (.int .i64 z)).setCell ⟨b, 8, none⟩ (.int .i64 sp)).setCell ⟨b, 9, none⟩ (.slice a2 P.length c2)) g b a n cap k mn mx sp sl) := by
  obtain ⟨q, hok, r2, hblk, Q, R, G, hb, hg⟩ := h
  exact ⟨x, yy, z, P, a2, c2, set10 q, hok, ((((((((((r2).setw (fun bb e => (hblk bb e).2) _).setw (fun bb e => (hblk bb e).2) _).setw (fun bb e => (hblk bb e).2) _).setw (fun bb e => (hblk bb e).2) _).setw (fun bb e => (hblk bb e).2) _).setw (fun bb e => (hblk bb e).2) _).setw (fun bb e => (hblk bb e).2) _).setw (fun bb e => (hblk bb e).2) _).setw (fun bb e => (hblk bb e).2) _).setw (fun bb e => (hblk bb e).2) _, hblk, kept_set (kept_set (kept_set (kept_set (kept_set (kept_set (kept_set (kept_set (kept_set (kept_set (Q) (Nat.ne_of_lt hb)) (Nat.ne_of_lt hb)) (Nat.ne_of_lt hb)) (Nat.ne_of_lt hb)) (Nat.ne_of_lt hb)) (Nat.ne_of_lt hb)) (Nat.ne_of_lt hb)) (Nat.ne_of_lt hb)) (Nat.ne_of_lt hb)) (Nat.ne_of_lt hb), ((((((((((R).set (Ne.symm hg) (Nat.le_trans hw (Nat.le_of_lt hb)) _).set (Ne.symm hg) (Nat.le_trans hw (Nat.le_of_lt hb)) _).set (Ne.symm hg) (Nat.le_trans hw (Nat.le_of_lt hb)) _).set (Ne.symm hg) (Nat.le_trans hw (Nat.le_of_lt hb)) _).set (Ne.symm hg) (Nat.le_trans hw (Nat.le_of_lt hb)) _).set (Ne.symm hg) (Nat.le_trans hw (Nat.le_of_lt hb)) _).set (Ne.symm hg) (Nat.le_trans hw (Nat.le_of_lt hb)) _).set (Ne.symm hg) (Nat.le_trans hw (Nat.le_of_lt hb)) _).set (Ne.symm hg) (Nat.le_trans hw (Nat.le_of_lt hb)) _).set (Ne.symm hg) (Nat.le_trans hw (Nat.le_of_lt hb)) _, gr_set (gr_set (gr_set (gr_set (gr_set (gr_set (gr_set (gr_set (gr_set (gr_set (G) (Nat.le_of_lt hb) _) (Nat.le_of_lt hb) _) (Nat.le_of_lt hb) _) (Nat.le_of_lt hb) _) (Nat.le_of_lt hb) _) (Nat.le_of_lt hb) _) (Nat.le_of_lt hb) _) (Nat.le_of_lt hb) _) (Nat.le_of_lt hb) _) (Nat.le_of_lt hb) _, hb, hg⟩

set_option maxHeartbeats 4000000 in
theorem draw_limG (w W : World) (g : Nat) (a : Option Addr) (n cap : Nat) (h : Ready w W g a n cap) :
    Calls Try.prog 13 #[.pointer (some ⟨g, 0, none⟩)] W (fun e w' => DrawAns w W e w' ∧ W.grownBy w' (some g)) := by
  have RD : Hid (Ready w (W.alloc (.cells #[.int .i64 0, .int .i64 0, .int .i64 0, .int .i64 0, .int .i64 0, .int .i64 0, .int .i64 0, .int .i64 0, .int .i64 0, .slice none 0 0] 29)) g a n cap) := h.alloc _
  have G0 : Hid (W.grownBy (W.alloc (.cells #[.int .i64 0, .int .i64 0, .int .i64 0, .int .i64 0, .int .i64 0, .int .i64 0, .int .i64 0, .int .i64 0, .int .i64 0, .slice none 0 0] 29)) (some g)) := gr_alloc (gr_refl _) _
  have Q0 : Hid ((W.alloc (.cells #[.int .i64 0, .int .i64 0, .int .i64 0, .int .i64 0, .int .i64 0, .int .i64 0, .int .i64 0, .int .i64 0, .int .i64 0, .slice none 0 0] 29)).heap[W.heap.size]? = some (.cells #[.int .i64 0, .int .i64 0, .int .i64 0, .int .i64 0, .int .i64 0, .int .i64 0, .int .i64 0, .int .i64 0, .int .i64 0, .slice none 0 0] 29 (0, 0))) := heap_alloc_new W _
  have hlt := h.lt
  have HW : Hid (w.heap.size ≤ W.heap.size) := h.past.size
  clear h
  go_enter Try.func13, Try.ntmps13
  go_upto_region 2 with (go_at_call 23; refine (draw_cfg w _ g a n cap RD.out).mono ?_; rintro e w1 ⟨k, mn, mx, sp, sl, rfl, hc, h8, rd1, gr1⟩; have HC : Hid (cfgOk k mn mx sp sl) := hc; have m0 := hc.2.1; have m1 := hc.2.2.1; have m2 := hc.2.2.2.1; have R1 : Hid (Ready w w1 g a n cap) := rd1; have G1 : Hid (W.grownBy w1 (some g)) := gr_then G0.out gr1; have Q1 : Hid (w1.heap[W.heap.size]? = _) := kept_draw Q0.out (Nat.ne_of_gt hlt) gr1; clear rd1 gr1 hc)
  have hw1 : Hid (W.heap.size < w1.heap.size ∧ g < w1.heap.size) := ⟨(Array.getElem?_eq_some_iff.1 Q1.out).1, R1.out.lt⟩
  have R2 : Hid (Ready w (w1.alloc (.cells #[.int .i64 k, .int .i64 mn, .int .i64 mx, .int .i64 sp, .int .i64 sl] 24)) g a n cap) := R1.out.alloc _
  have G2 : Hid (W.grownBy (w1.alloc (.cells #[.int .i64 k, .int .i64 mn, .int .i64 mx, .int .i64 sp, .int .i64 sl] 24)) (some g)) := gr_alloc G1.out _
  have Q2 : Hid ((w1.alloc (.cells #[.int .i64 k, .int .i64 mn, .int .i64 mx, .int .i64 sp, .int .i64 sl] 24)).heap[W.heap.size]? = some (.cells #[.int .i64 0, .int .i64 0, .int .i64 0, .int .i64 0, .int .i64 0, .int .i64 0, .int .i64 0, .int .i64 0, .int .i64 0, .slice none 0 0] 29 (0, 0)) ∧ (w1.alloc (.cells #[.int .i64 k, .int .i64 mn, .int .i64 mx, .int .i64 sp, .int .i64 sl] 24)).heap[w1.heap.size]? = some (.cells #[.int .i64 k, .int .i64 mn, .int .i64 mx, .int .i64 sp, .int .i64 sl] 24 (0, 0))) := ⟨kept_new Q1.out, heap_alloc_new w1 _⟩
  clear RD G0 Q0 R1 G1 Q1
  obtain ⟨b2, hb2⟩ : ∃ b, w1.heap.size = b := ⟨_, rfl⟩
  generalize (w1.alloc (.cells #[.int .i64 k, .int .i64 mn, .int .i64 mx, .int .i64 sp, .int .i64 sl] 24)) = W2 at *
  rw [hb2] at hw1 Q2 ⊢
  clear hb2
  have wr1 := IntWalk.i64_in (mx - mn) ⟨by omega, by omega⟩
  have wr2 := IntWalk.i64_in (mx - mn + 1) ⟨by omega, by omega⟩
  have x0 : W2.cell? ⟨b2, 0, none⟩ = some (.int .i64 k) := cell_blk Q2.out.2 0
  have x1 : W2.cell? ⟨b2, 1, none⟩ = some (.int .i64 mn) := cell_blk Q2.out.2 1
  have x2 : W2.cell? ⟨b2, 2, none⟩ = some (.int .i64 mx) := cell_blk Q2.out.2 2
  have x3 : W2.cell? ⟨b2, 3, none⟩ = some (.int .i64 sp) := cell_blk Q2.out.2 3
  have x4 : W2.cell? ⟨b2, 4, none⟩ = some (.int .i64 sl) := cell_blk Q2.out.2 4
  go_cut [4, 5] (fun v v5 wx => v5 = .bool true ∧ ∃ (b : Nat) (y : Int), v = .pointer (some ⟨b, 0, none⟩) ∧ 0 ≤ y ∧ y < mx - mn + 1 ∧ Hid (LimBox w W wx g b b2 a n cap k mn mx sp sl (mn + y)))
  case first =>
    have S0 : Hid (W2.drew.cell? ⟨b2, 0, none⟩ = some (.int .i64 k) ∧ W2.drew.cell? ⟨b2, 1, none⟩ = some (.int .i64 mn) ∧ W2.drew.cell? ⟨b2, 2, none⟩ = some (.int .i64 mx) ∧ W2.drew.cell? ⟨b2, 3, none⟩ = some (.int .i64 sp) ∧ W2.drew.cell? ⟨b2, 4, none⟩ = some (.int .i64 sl)) := ⟨x0, x1, x2, x3, x4⟩
    go_region_held3 (fun w' => w'.cell? ⟨b2, 0, none⟩ = some (.int .i64 k) ∧ w'.cell? ⟨b2, 1, none⟩ = some (.int .i64 mn) ∧ w'.cell? ⟨b2, 2, none⟩ = some (.int .i64 mx) ∧ w'.cell? ⟨b2, 3, none⟩ = some (.int .i64 sp) ∧ w'.cell? ⟨b2, 4, none⟩ = some (.int .i64 sl)) ((first | with_reducible exact S0.out | with_reducible exact five_newd ⟨x0, x1, x2, x3, x4⟩ | with_reducible exact S3.out | with_reducible exact S4.out | with_reducible exact five_new ⟨x0, x1, x2, x3, x4⟩ | with_reducible exact five_new S3.out | with_reducible exact five_new S4.out | exact five_set hne4.out (five_set hne4.out (five_set hne4.out (five_set hne4.out (five_set hne4.out (five_set hne4.out (five_set hne4.out (five_set hne4.out (five_set hne4.out (five_set hne4.out (S4.out)))))))))))) ((first | (go_at_call 14; refine (draw w _ g a n cap (mx - mn + 1) (by first | with_reducible exact R2.out.drew | with_reducible exact (R2.out.alloc _).drew) (by omega) (by omega)).mono ?_; rintro e w3 ⟨y, rfl, ya, yb, rd3, gr3⟩; have R3 : Hid (Ready w w3 g a n cap) := rd3; have G3' : W.grownBy w3 (some g) := (by first | with_reducible exact gr_then G2.out (undrew gr3) | with_reducible exact gr_then (gr_alloc G2.out _) (undrew gr3)); have G3 : Hid (W.grownBy w3 (some g)) := G3'; clear G3'; have Q3' : w3.heap[W.heap.size]? = some (.cells #[.int .i64 0, .int .i64 0, .int .i64 0, .int .i64 0, .int .i64 0, .int .i64 0, .int .i64 0, .int .i64 0, .int .i64 0, .slice none 0 0] 29 (0, 0)) ∧ w3.heap[b2]? = some (.cells #[.int .i64 k, .int .i64 mn, .int .i64 mx, .int .i64 sp, .int .i64 sl] 24 (0, 0)) := (by first | with_reducible exact ⟨kept_draw Q2.out.1 (Nat.ne_of_gt hlt) (undrew gr3), kept_draw Q2.out.2 (Nat.ne_of_gt hw1.out.2) (undrew gr3)⟩ | with_reducible exact ⟨kept_draw (kept_new Q2.out.1) (Nat.ne_of_gt hlt) (undrew gr3), kept_draw (kept_new Q2.out.2) (Nat.ne_of_gt hw1.out.2) (undrew gr3)⟩); have Q3 : Hid (w3.heap[W.heap.size]? = some (.cells #[.int .i64 0, .int .i64 0, .int .i64 0, .int .i64 0, .int .i64 0, .int .i64 0, .int .i64 0, .int .i64 0, .int .i64 0, .slice none 0 0] 29 (0, 0)) ∧ w3.heap[b2]? = some (.cells #[.int .i64 k, .int .i64 mn, .int .i64 mx, .int .i64 sp, .int .i64 sl] 24 (0, 0))) := Q3'; clear Q3'; have S3 : Hid (w3.cell? ⟨b2, 0, none⟩ = some (.int .i64 k) ∧ w3.cell? ⟨b2, 1, none⟩ = some (.int .i64 mn) ∧ w3.cell? ⟨b2, 2, none⟩ = some (.int .i64 mx) ∧ w3.cell? ⟨b2, 3, none⟩ = some (.int .i64 sp) ∧ w3.cell? ⟨b2, 4, none⟩ = some (.int .i64 sl)) := ⟨cell_blk Q3.out.2 0, cell_blk Q3.out.2 1, cell_blk Q3.out.2 2, cell_blk Q3.out.2 3, cell_blk Q3.out.2 4⟩; have wr3 := IntWalk.i64_in (mn + y) ⟨by omega, by omega⟩; (first | (have BX : Hid (w3.heap[W2.heap.size]? = some (.cells #[.int .i64 0, .int .i64 0, .int .i64 0, .int .i64 0, .int .i64 0, .int .i64 0, .int .i64 0, .int .i64 0, .int .i64 0, .slice none 0 0] 29 (0, 0)) ∧ g ≠ W2.heap.size ∧ b2 < W2.heap.size) := new_draw R2.out Q2.out.2 (undrew gr3)) | skip); clear rd3 gr3) | (go_at_call 24; refine (new_call k mn mx sp sl (mn + y) _ (new_ok k mn mx sp sl (mn + y) HC.out (by omega) (by omega))).mono ?_; rintro e w4 ⟨rfl, hb4⟩; have R4' : Ready w w4 g a n cap := (by first | with_reducible exact R3.out.below hb4 | with_reducible exact (R3.out.alloc _).below hb4); have R4 : Hid (Ready w w4 g a n cap) := R4'; clear R4'; have G4' : W.grownBy w4 (some g) := (by first | with_reducible exact gr_below G3.out hb4 | with_reducible exact gr_below (gr_alloc G3.out _) hb4); have G4 : Hid (W.grownBy w4 (some g)) := G4'; clear G4'; have Q4' : w4.heap[W.heap.size]? = some (.cells #[.int .i64 0, .int .i64 0, .int .i64 0, .int .i64 0, .int .i64 0, .int .i64 0, .int .i64 0, .int .i64 0, .int .i64 0, .slice none 0 0] 29 (0, 0)) ∧ w4.heap[b2]? = some (.cells #[.int .i64 k, .int .i64 mn, .int .i64 mx, .int .i64 sp, .int .i64 sl] 24 (0, 0)) := (by first | with_reducible exact ⟨kept_below Q3.out.1 hb4, kept_below Q3.out.2 hb4⟩ | with_reducible exact ⟨kept_below (kept_new Q3.out.1) hb4, kept_below (kept_new Q3.out.2) hb4⟩); have Q4 : Hid (w4.heap[W.heap.size]? = some (.cells #[.int .i64 0, .int .i64 0, .int .i64 0, .int .i64 0, .int .i64 0, .int .i64 0, .int .i64 0, .int .i64 0, .int .i64 0, .slice none 0 0] 29 (0, 0)) ∧ w4.heap[b2]? = some (.cells #[.int .i64 k, .int .i64 mn, .int .i64 mx, .int .i64 sp, .int .i64 sl] 24 (0, 0))) := Q4'; clear Q4'; have S4 : Hid (w4.cell? ⟨b2, 0, none⟩ = some (.int .i64 k) ∧ w4.cell? ⟨b2, 1, none⟩ = some (.int .i64 mn) ∧ w4.cell? ⟨b2, 2, none⟩ = some (.int .i64 mx) ∧ w4.cell? ⟨b2, 3, none⟩ = some (.int .i64 sp) ∧ w4.cell? ⟨b2, 4, none⟩ = some (.int .i64 sl)) := ⟨cell_blk Q4.out.2 0, cell_blk Q4.out.2 1, cell_blk Q4.out.2 2, cell_blk Q4.out.2 3, cell_blk Q4.out.2 4⟩; (first | (have q4 := kept_below BX.out.1 hb4; have hne4 : Hid (b2 ≠ W2.heap.size) := Nat.ne_of_lt BX.out.2.2; have d0 := cell_blk q4 0; have e0 := fz_blk q4 0; have d1 := cell_blk q4 1; have e1 := fz_blk q4 1; have d2 := cell_blk q4 2; have e2 := fz_blk q4 2; have d3 := cell_blk q4 3; have e3 := fz_blk q4 3; have d4 := cell_blk q4 4; have e4 := fz_blk q4 4; have d5 := cell_blk q4 5; have e5 := fz_blk q4 5; have d6 := cell_blk q4 6; have e6 := fz_blk q4 6; have d7 := cell_blk q4 7; have e7 := fz_blk q4 7; have d8 := cell_blk q4 8; have e8 := fz_blk q4 8; have d9 := cell_blk q4 9; have e9 := fz_blk q4 9) | (have q4 := kept_below (heap_alloc_new w3 _) hb4; have hne4 : Hid (b2 ≠ w3.heap.size) := Nat.ne_of_lt (Array.getElem?_eq_some_iff.1 Q3.out.2).1; have d0 := cell_blk q4 0; have e0 := fz_blk q4 0; have d1 := cell_blk q4 1; have e1 := fz_blk q4 1; have d2 := cell_blk q4 2; have e2 := fz_blk q4 2; have d3 := cell_blk q4 3; have e3 := fz_blk q4 3; have d4 := cell_blk q4 4; have e4 := fz_blk q4 4; have d5 := cell_blk q4 5; have e5 := fz_blk q4 5; have d6 := cell_blk q4 6; have e6 := fz_blk q4 6; have d7 := cell_blk q4 7; have e7 := fz_blk q4 7; have d8 := cell_blk q4 8; have e8 := fz_blk q4 8; have d9 := cell_blk q4 9; have e9 := fz_blk q4 9) | skip); clear hb4)))
    all_goals
      go_wp2_with fail
      go_meet
      refine ⟨rfl, _, y, rfl, ya, yb, to_hid ?_⟩
      first
        | with_reducible exact box_new R4.out G4.out Q4.out.1
        | with_reducible exact box_set R4.out G4.out Q4.out.1 q4 (Nat.lt_trans hw1.out.1 BX.out.2.2) (Ne.symm BX.out.2.1) HW.out
        | with_reducible exact box_set R4.out G4.out Q4.out.1 q4 (Array.getElem?_eq_some_iff.1 Q3.out.1).1 (Nat.ne_of_gt R3.out.lt) HW.out
  case rest =>
    obtain ⟨rfl, b, y, rfl, ya, yb, hbx⟩ := hcut
    have HLS : Hid (LimSt w W wc g b a n cap k mn mx sp sl) := ⟨mn + y, 0, 0, [], none, 0, hbx.out.1, new_ok k mn mx sp sl (mn + y) HC.out (by omega) (by omega), Or.inl rfl, fun bb h => by simp [blk] at h, hbx.out.2.1, hbx.out.2.2.1, hbx.out.2.2.2.1, hbx.out.2.2.2.2.1, hbx.out.2.2.2.2.2⟩
    clear hbx x0 x1 x2 x3 x4 R2 G2 Q2 wr1 wr2 ya yb y
    go_wp2_with (go_at_call_of 14 (Value.int IntKind.i64 10); refine (draw w _ g a n cap 10 HLS.out.ready (by omega) (by omega)).mono ?_; rintro e w6 ⟨y6, rfl, ya6, yb6, rd6, gr6⟩; have H6 : Hid (LimSt w W w6 g b a n cap k mn mx sp sl) := HLS.out.draw hlt rd6 gr6; clear rd6 gr6 HLS)
    go_loopw [6, 7] (fun t m wr => ∃ (N : Nat) (T : Int), N ≤ 9 ∧ 0 ≤ T ∧ T + 19 * (N : Int) ≤ 171 ∧ t = .int .i64 T ∧ m = .int .i64 (N : Int) ∧ Hid (LimSt w W wr g b a n cap k mn mx sp sl)) (fun _ m _ => (intOf m).toNat)
    case atStart => exact ⟨y6.toNat, 0, by omega, by omega, by omega, rfl, val_int (by omega), H6⟩
    case round =>
      clear H6
      obtain ⟨N, T, hN, hT0, hT1, rfl, rfl, HS⟩ := hrel
      obtain ⟨li, gd, av, L, aL, cL, hbox, hk, hwok, hblk, hres, hrd, hgr, hWb, hbg⟩ := HS.out
      by_cases hz : N = 0
      · subst hz
        have WD : Hid (WOk wr aL L ∧ (∀ bb, blk aL = some bb → W.heap.size < bb) ∧ Below w.heap.size w wr ∧ limOk k mn mx sp sl li gd av sp L ∧ W.grownBy wr (some g)) := ⟨hwok, fun bb e => (hblk bb e).1, hrd.past, hk, hgr⟩
        have hWb' : W.heap.size ≠ b := Nat.ne_of_lt hWb
        have c0 := cell_blk hbox 0
        have c1 := cell_blk hbox 1
        have c2 := cell_blk hbox 2
        have c3 := cell_blk hbox 3
        have c4 := cell_blk hbox 4
        have c5 := cell_blk hbox 5
        have c6 := cell_blk hbox 6
        have c7 := cell_blk hbox 7
        have c8 := cell_blk hbox 8
        have c9 := cell_blk hbox 9
        have d0 := cell_blk hres 0
        have e0 := fz_blk hres 0
        have d1 := cell_blk hres 1
        have e1 := fz_blk hres 1
        have d2 := cell_blk hres 2
        have e2 := fz_blk hres 2
        have d3 := cell_blk hres 3
        have e3 := fz_blk hres 3
        have d4 := cell_blk hres 4
        have e4 := fz_blk hres 4
        have d5 := cell_blk hres 5
        have e5 := fz_blk hres 5
        have d6 := cell_blk hres 6
        have e6 := fz_blk hres 6
        have d7 := cell_blk hres 7
        have e7 := fz_blk hres 7
        have d8 := cell_blk hres 8
        have e8 := fz_blk hres 8
        have d9 := cell_blk hres 9
        have e9 := fz_blk hres 9
        clear HS hbox hk hwok hblk hres hrd hgr
        go_wp2
        refine bodyPost_ret (v := .agg #[.int .i64 k, .int .i64 mn, .int .i64 mx, .int .i64 sp, .int .i64 sl, .int .i64 li, .int .i64 gd, .int .i64 av, .int .i64 sp, .slice aL L.length cL]) (by simp [results, Try.results13, go_sem, d0, d1, d2, d3, d4, d5, d6, d7, d8, d9]) rfl ⟨⟨k, mn, mx, sp, sl, li, gd, av, sp, aL, cL, L, rfl, WD.out.2.2.2.1, ?_, fun bb h => Nat.le_of_lt (WD.out.2.1 bb h), ?_⟩, ?_⟩
        · exact ((((((((((WD.out.1).setw (fun bb h => Nat.ne_of_gt (WD.out.2.1 bb h)) _).setw (fun bb h => Nat.ne_of_gt (WD.out.2.1 bb h)) _).setw (fun bb h => Nat.ne_of_gt (WD.out.2.1 bb h)) _).setw (fun bb h => Nat.ne_of_gt (WD.out.2.1 bb h)) _).setw (fun bb h => Nat.ne_of_gt (WD.out.2.1 bb h)) _).setw (fun bb h => Nat.ne_of_gt (WD.out.2.1 bb h)) _).setw (fun bb h => Nat.ne_of_gt (WD.out.2.1 bb h)) _).setw (fun bb h => Nat.ne_of_gt (WD.out.2.1 bb h)) _).setw (fun bb h => Nat.ne_of_gt (WD.out.2.1 bb h)) _).setw (fun bb h => Nat.ne_of_gt (WD.out.2.1 bb h)) _
        · exact ((((((((((WD.out.2.2.1).setCell HW.out _).setCell HW.out _).setCell HW.out _).setCell HW.out _).setCell HW.out _).setCell HW.out _).setCell HW.out _).setCell HW.out _).setCell HW.out _).setCell HW.out _
        · exact gr_set (gr_set (gr_set (gr_set (gr_set (gr_set (gr_set (gr_set (gr_set (gr_set (WD.out.2.2.2.2) (Nat.le_refl _) _) (Nat.le_refl _) _) (Nat.le_refl _) _) (Nat.le_refl _) _) (Nat.le_refl _) _) (Nat.le_refl _) _) (Nat.le_refl _) _) (Nat.le_refl _) _) (Nat.le_refl _) _) (Nat.le_refl _) _
      · obtain ⟨M, rfl⟩ : ∃ M, N = M + 1 := ⟨N - 1, by omega⟩
        have A0 : Hid (LimAt w W wr g b a n cap k mn mx sp sl li gd av L aL cL) := ⟨hbox, hk, hwok, hblk, hres, hrd, hgr, hWb, hbg⟩
        clear HS hbox hk hwok hblk hres hrd hgr hWb hbg hz
        have hpos : (0 : Int) < ((M + 1 : Nat) : Int) := by omega
        go_upto_region 8 with (go_at_call_of 14 (Value.int IntKind.i64 20); refine (draw w _ g a n cap 20 A0.out.2.2.2.2.2.1 (by omega) (by omega)).mono ?_; rintro e w7 ⟨y7, rfl, ya7, yb7, rd7, gr7⟩; have A7 : Hid (LimAt w W w7 g b a n cap k mn mx sp sl li gd av L aL cL) := A0.out.draw hlt rd7 gr7; clear rd7 gr7 A0)
        have x0 : w7.cell? ⟨b, 0, none⟩ = some (.int .i64 k) := cell_blk A7.out.1 0
        have x1 : w7.cell? ⟨b, 1, none⟩ = some (.int .i64 mn) := cell_blk A7.out.1 1
        have x2 : w7.cell? ⟨b, 2, none⟩ = some (.int .i64 mx) := cell_blk A7.out.1 2
        have x3 : w7.cell? ⟨b, 3, none⟩ = some (.int .i64 sp) := cell_blk A7.out.1 3
        have x4 : w7.cell? ⟨b, 4, none⟩ = some (.int .i64 sl) := cell_blk A7.out.1 4
        have x5 : w7.cell? ⟨b, 5, none⟩ = some (.int .i64 li) := cell_blk A7.out.1 5
        have x6 : w7.cell? ⟨b, 6, none⟩ = some (.int .i64 gd) := cell_blk A7.out.1 6
        have x7 : w7.cell? ⟨b, 7, none⟩ = some (.int .i64 av) := cell_blk A7.out.1 7
        have x8 : w7.cell? ⟨b, 8, none⟩ = some (.int .i64 sp) := cell_blk A7.out.1 8
        have x9 : w7.cell? ⟨b, 9, none⟩ = some (.slice aL L.length cL) := cell_blk A7.out.1 9
        go_region_with (first | (go_at_call_of 14 (Value.int IntKind.i64 99); refine (draw w _ g a n cap 99 A7.out.2.2.2.2.2.1.drew (by omega) (by omega)).mono ?_; rintro e w8 ⟨y8, rfl, ya8, yb8, rd8, gr8⟩; have A8 : Hid (LimAt w W w8 g b a n cap k mn mx sp sl li gd av L aL cL) := A7.out.draw hlt rd8 (undrew gr8); have p0 : w8.cell? ⟨b, 0, none⟩ = some (.int .i64 k) := cell_blk A8.out.1 0; have p1 : w8.cell? ⟨b, 1, none⟩ = some (.int .i64 mn) := cell_blk A8.out.1 1; have p2 : w8.cell? ⟨b, 2, none⟩ = some (.int .i64 mx) := cell_blk A8.out.1 2; have p3 : w8.cell? ⟨b, 3, none⟩ = some (.int .i64 sp) := cell_blk A8.out.1 3; have p4 : w8.cell? ⟨b, 4, none⟩ = some (.int .i64 sl) := cell_blk A8.out.1 4; have p5 : w8.cell? ⟨b, 5, none⟩ = some (.int .i64 li) := cell_blk A8.out.1 5; have p6 : w8.cell? ⟨b, 6, none⟩ = some (.int .i64 gd) := cell_blk A8.out.1 6; have p7 : w8.cell? ⟨b, 7, none⟩ = some (.int .i64 av) := cell_blk A8.out.1 7; have p8 : w8.cell? ⟨b, 8, none⟩ = some (.int .i64 sp) := cell_blk A8.out.1 8; have p9 : w8.cell? ⟨b, 9, none⟩ = some (.slice aL L.length cL) := cell_blk A8.out.1 9; clear rd8 gr8) | (go_at_call_of 14 (Value.int IntKind.i64 6); refine (draw w _ g a n cap 6 A8.out.2.2.2.2.2.1 (by omega) (by omega)).mono ?_; rintro e w9 ⟨y9, rfl, ya9, yb9, rd9, gr9⟩; have A9 : Hid (LimAt w W w9 g b a n cap k mn mx sp sl li gd av L aL cL) := A8.out.draw hlt rd9 gr9; have q0 : w9.cell? ⟨b, 0, none⟩ = some (.int .i64 k) := cell_blk A9.out.1 0; have q1 : w9.cell? ⟨b, 1, none⟩ = some (.int .i64 mn) := cell_blk A9.out.1 1; have q2 : w9.cell? ⟨b, 2, none⟩ = some (.int .i64 mx) := cell_blk A9.out.1 2; have q3 : w9.cell? ⟨b, 3, none⟩ = some (.int .i64 sp) := cell_blk A9.out.1 3; have q4 : w9.cell? ⟨b, 4, none⟩ = some (.int .i64 sl) := cell_blk A9.out.1 4; have q5 : w9.cell? ⟨b, 5, none⟩ = some (.int .i64 li) := cell_blk A9.out.1 5; have q6 : w9.cell? ⟨b, 6, none⟩ = some (.int .i64 gd) := cell_blk A9.out.1 6; have q7 : w9.cell? ⟨b, 7, none⟩ = some (.int .i64 av) := cell_blk A9.out.1 7; have q8 : w9.cell? ⟨b, 8, none⟩ = some (.int .i64 sp) := cell_blk A9.out.1 8; have q9 : w9.cell? ⟨b, 9, none⟩ = some (.slice aL L.length cL) := cell_blk A9.out.1 9; clear rd9 gr9) | (go_at_call 25; obtain ⟨x, yy, z, P, hok, HLN⟩ := learn_ok k mn mx sp sl li gd av sp L (T + y7) y8 (decide (0 < y9)) A9.out.2.1 ⟨by omega, by omega⟩ ⟨by omega, by omega⟩; refine (HLN _ _ _ A9.out.2.2.1).mono ?_; clear HLN; rintro e w10 ⟨a2, c2', rfl, r2, g2, hb2⟩; have A10 : Hid (LearnAt w W w10 g b a n cap k mn mx sp sl li gd av L aL cL x yy z P a2 c2') := LimAt.learn A9.out hok r2 g2 hb2; have d0 := cell_blk A10.out.1 0; have e0 := fz_blk A10.out.1 0; have d1 := cell_blk A10.out.1 1; have e1 := fz_blk A10.out.1 1; have d2 := cell_blk A10.out.1 2; have e2 := fz_blk A10.out.1 2; have d3 := cell_blk A10.out.1 3; have e3 := fz_blk A10.out.1 3; have d4 := cell_blk A10.out.1 4; have e4 := fz_blk A10.out.1 4; have d5 := cell_blk A10.out.1 5; have e5 := fz_blk A10.out.1 5; have d6 := cell_blk A10.out.1 6; have e6 := fz_blk A10.out.1 6; have d7 := cell_blk A10.out.1 7; have e7 := fz_blk A10.out.1 7; have d8 := cell_blk A10.out.1 8; have e8 := fz_blk A10.out.1 8; have d9 := cell_blk A10.out.1 9; have e9 := fz_blk A10.out.1 9; clear hok r2 g2 hb2))
        all_goals
          go_wp2
          go_roundw
          case rel => exact ⟨M, T + y7, by omega, by omega, by omega, rfl, by go_num, A10.out.done HW.out⟩
          case measure => simp [intOf]

theorem make_first {w w1 : World} {o : Obj} (b : Below (w.heap.size + 1) (w.alloc o) w1) : w1.heap[w.heap.size]? = some o := (b.block _ (by omega)).trans (heap_alloc_new w o)

theorem make_at {w w1 w2 : World} {k mn mx sp sl li gd av ws : Int} {aL : Option Addr} {L : List (Int × Int)} {o q : Obj} (hk : limOk k mn mx sp sl li gd av ws L) (hw : WOk w2 aL L) (hb : ∀ b, blk aL = some b → w1.heap.size ≤ b) (hB : Below w.heap.size w w2) (Q : w1.heap[w.heap.size]? = some o) (gr : w1.grownBy w2 (some (w.heap.size + 1))) : limOk k mn mx sp sl li gd av ws L ∧ WOk (w2.alloc q) aL L ∧ (∀ b, blk aL = some b → w.heap.size < b) ∧ Below w.heap.size w (w2.alloc q) ∧ w2.heap[w.heap.size]? = some o ∧ w.heap.size < w2.heap.size := by
  have hl := (Array.getElem?_eq_some_iff.1 Q).1
  have Q2 : w2.heap[w.heap.size]? = some o := kept_draw Q (by simp) gr
  exact ⟨hk, hw.below ((Below.refl _ _).alloc (Nat.le_refl _) _), fun b e => by have := hb b e; omega, hB.alloc hB.size _, Q2, (Array.getElem?_eq_some_iff.1 Q2).1⟩

set_option maxHeartbeats 2000000 in
theorem make_lim (n : Nat) (a : Option Addr) (cap : Nat) (w : World) (hn : (n : Int) ≤ 1048576) (hok : CodeOk w w.heap.size a n) :
    Calls Try.prog 4 #[.slice a n cap] w (DrawAns w w) := by
  have hA : Below w.heap.size w (w.alloc (.cells #[.int .i64 0, .int .i64 0, .int .i64 0, .int .i64 0, .int .i64 0, .int .i64 0, .int .i64 0, .int .i64 0, .int .i64 0, .slice none 0 0] 29)) := (Below.refl _ _).alloc (Nat.le_refl _) _
  have HS := DrawKit.start n a cap w (w.alloc (.cells #[.int .i64 0, .int .i64 0, .int .i64 0, .int .i64 0, .int .i64 0, .int .i64 0, .int .i64 0, .int .i64 0, .int .i64 0, .slice none 0 0] 29)) hn hok hA
  simp only [World.size_alloc] at HS
  have Q0 : Hid ((w.alloc (.cells #[.int .i64 0, .int .i64 0, .int .i64 0, .int .i64 0, .int .i64 0, .int .i64 0, .int .i64 0, .int .i64 0, .int .i64 0, .slice none 0 0] 29)).heap[w.heap.size]? = some (.cells #[.int .i64 0, .int .i64 0, .int .i64 0, .int .i64 0, .int .i64 0, .int .i64 0, .int .i64 0, .int .i64 0, .int .i64 0, .slice none 0 0] 29 (0, 0))) := heap_alloc_new w _
  clear hA hok
  go_enter Try.func4, Try.ntmps4
  go_wp2_with fail
  refine HS.mono ?_
  rintro e w1 ⟨rfl, rd1, b1⟩
  have R1 : Hid (Ready w w1 (w.heap.size + 1) a n cap) := rd1
  have Q1 : Hid (w1.heap[w.heap.size]? = some (.cells #[.int .i64 0, .int .i64 0, .int .i64 0, .int .i64 0, .int .i64 0, .int .i64 0, .int .i64 0, .int .i64 0, .int .i64 0, .slice none 0 0] 29 (0, 0))) := make_first b1
  clear rd1 b1 HS
  go_wp2_with fail
  refine (draw_limG w w1 (w.heap.size + 1) a n cap R1.out).mono ?_
  rintro e w2 ⟨⟨k, mn, mx, sp, sl, li, gd, av, ws, aL, cL, L, rfl, hk, hw, hb, hB⟩, gr⟩
  have A2 : Hid (limOk k mn mx sp sl li gd av ws L ∧ WOk (w2.alloc (.cells #[.int .i64 k, .int .i64 mn, .int .i64 mx, .int .i64 sp, .int .i64 sl, .int .i64 li, .int .i64 gd, .int .i64 av, .int .i64 ws, .slice aL L.length cL] 29)) aL L ∧ (∀ b, blk aL = some b → w.heap.size < b) ∧ Below w.heap.size w (w2.alloc (.cells #[.int .i64 k, .int .i64 mn, .int .i64 mx, .int .i64 sp, .int .i64 sl, .int .i64 li, .int .i64 gd, .int .i64 av, .int .i64 ws, .slice aL L.length cL] 29)) ∧ w2.heap[w.heap.size]? = some (.cells #[.int .i64 0, .int .i64 0, .int .i64 0, .int .i64 0, .int .i64 0, .int .i64 0, .int .i64 0, .int .i64 0, .int .i64 0, .slice none 0 0] 29 (0, 0)) ∧ w.heap.size < w2.heap.size) := make_at hk hw hb hB Q1.out gr
  clear hk hw hb hB gr
  go_upto_region 3 with fail
  have q3 := heap_alloc_new w2 (.cells #[.int .i64 k, .int .i64 mn, .int .i64 mx, .int .i64 sp, .int .i64 sl, .int .i64 li, .int .i64 gd, .int .i64 av, .int .i64 ws, .slice aL L.length cL] 29)
  have q4 : (w2.alloc (.cells #[.int .i64 k, .int .i64 mn, .int .i64 mx, .int .i64 sp, .int .i64 sl, .int .i64 li, .int .i64 gd, .int .i64 av, .int .i64 ws, .slice aL L.length cL] 29)).heap[w.heap.size]? = some (.cells #[.int .i64 0, .int .i64 0, .int .i64 0, .int .i64 0, .int .i64 0, .int .i64 0, .int .i64 0, .int .i64 0, .int .i64 0, .slice none 0 0] 29 (0, 0)) := kept_new A2.out.2.2.2.2.1
  have A3 : Hid (limOk k mn mx sp sl li gd av ws L ∧ WOk (w2.alloc (.cells #[.int .i64 k, .int .i64 mn, .int .i64 mx, .int .i64 sp, .int .i64 sl, .int .i64 li, .int .i64 gd, .int .i64 av, .int .i64 ws, .slice aL L.length cL] 29)) aL L ∧ (∀ b, blk aL = some b → w.heap.size < b) ∧ Below w.heap.size w (w2.alloc (.cells #[.int .i64 k, .int .i64 mn, .int .i64 mx, .int .i64 sp, .int .i64 sl, .int .i64 li, .int .i64 gd, .int .i64 av, .int .i64 ws, .slice aL L.length cL] 29))) := ⟨A2.out.1, A2.out.2.1, A2.out.2.2.1, A2.out.2.2.2.1⟩
  have hne := A2.out.2.2.2.2.2
  obtain ⟨b3, hb3⟩ : ∃ b, w2.heap.size = b := ⟨_, rfl⟩
  clear A2
  generalize (w2.alloc (.cells #[.int .i64 k, .int .i64 mn, .int .i64 mx, .int .i64 sp, .int .i64 sl, .int .i64 li, .int .i64 gd, .int .i64 av, .int .i64 ws, .slice aL L.length cL] 29)) = W3 at *
  rw [hb3] at q3 hne ⊢
  clear hb3
  have c0 := cell_blk q3 0
  have c1 := cell_blk q3 1
  have c2 := cell_blk q3 2
  have c3 := cell_blk q3 3
  have c4 := cell_blk q3 4
  have c5 := cell_blk q3 5
  have c6 := cell_blk q3 6
  have c7 := cell_blk q3 7
  have c8 := cell_blk q3 8
  have c9 := cell_blk q3 9
  have d0 := cell_blk q4 0
  have e0 := fz_blk q4 0
  have d1 := cell_blk q4 1
  have e1 := fz_blk q4 1
  have d2 := cell_blk q4 2
  have e2 := fz_blk q4 2
  have d3 := cell_blk q4 3
  have e3 := fz_blk q4 3
  have d4 := cell_blk q4 4
  have e4 := fz_blk q4 4
  have d5 := cell_blk q4 5
  have e5 := fz_blk q4 5
  have d6 := cell_blk q4 6
  have e6 := fz_blk q4 6
  have d7 := cell_blk q4 7
  have e7 := fz_blk q4 7
  have d8 := cell_blk q4 8
  have e8 := fz_blk q4 8
  have d9 := cell_blk q4 9
  have e9 := fz_blk q4 9
  clear q3 q4
  go_wp2
  refine bodyPost_ret (v := .agg #[.int .i64 k, .int .i64 mn, .int .i64 mx, .int .i64 sp, .int .i64 sl, .int .i64 li, .int .i64 gd, .int .i64 av, .int .i64 ws, .slice aL L.length cL]) (by simp [results, Try.results4, go_sem, d0, d1, d2, d3, d4, d5, d6, d7, d8, d9]) rfl ⟨k, mn, mx, sp, sl, li, gd, av, ws, aL, cL, L, rfl, A3.out.1, ?_, fun b h => Nat.le_of_lt (A3.out.2.2.1 b h), ?_⟩
  · exact ((((((((((A3.out.2.1).setw (fun b h => Nat.ne_of_gt (A3.out.2.2.1 b h)) _).setw (fun b h => Nat.ne_of_gt (A3.out.2.2.1 b h)) _).setw (fun b h => Nat.ne_of_gt (A3.out.2.2.1 b h)) _).setw (fun b h => Nat.ne_of_gt (A3.out.2.2.1 b h)) _).setw (fun b h => Nat.ne_of_gt (A3.out.2.2.1 b h)) _).setw (fun b h => Nat.ne_of_gt (A3.out.2.2.1 b h)) _).setw (fun b h => Nat.ne_of_gt (A3.out.2.2.1 b h)) _).setw (fun b h => Nat.ne_of_gt (A3.out.2.2.1 b h)) _).setw (fun b h => Nat.ne_of_gt (A3.out.2.2.1 b h)) _).setw (fun b h => Nat.ne_of_gt (A3.out.2.2.1 b h)) _
  · exact ((((((((((A3.out.2.2.2).setCell (Nat.le_refl _) _).setCell (Nat.le_refl _) _).setCell (Nat.le_refl _) _).setCell (Nat.le_refl _) _).setCell (Nat.le_refl _) _).setCell (Nat.le_refl _) _).setCell (Nat.le_refl _) _).setCell (Nat.le_refl _) _).setCell (Nat.le_refl _) _).setCell (Nat.le_refl _) _

end Go.Proofs.Ytbdkepnjhcdpnaa.LimDraw
