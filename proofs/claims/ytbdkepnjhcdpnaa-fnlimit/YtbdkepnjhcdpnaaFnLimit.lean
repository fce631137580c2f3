/- At every list of bytes: a limit stays between its ends whatever is learnt, what went wrong never raises it, what was fast and steady never lowers it (the law FnLimit returns true), and the list is left as it was; no condition. -/
import Derived.Test.YtbdkepnjhcdpnaaRows
import Derived.WalkKit
import Derived.WalkSmall
import Derived.BigQuiet
import Derived.ProofKit
import Derived.OpenShut
import Derived.ChangeSlices
import Derived.Deep.RegionWith
import Derived.Deep.DeepCutAuto
import Derived.Deep.RegionHeld3
import Derived.Test.YtbdkepnjhcdpnaaPairWalks
import Derived.Test.YtbdkepnjhcdpnaaMarkKit
import Derived.Test.YtbdkepnjhcdpnaaDrawWalks
import Derived.Test.YtbdkepnjhcdpnaaCodeArg
import Derived.Test.YtbdkepnjhcdpnaaRootMath
import Derived.Test.YtbdkepnjhcdpnaaLimKit
import Derived.Test.YtbdkepnjhcdpnaaLimSpec
import Derived.Test.YtbdkepnjhcdpnaaLimCopy
import Derived.Test.YtbdkepnjhcdpnaaLimBack
import Derived.Test.YtbdkepnjhcdpnaaLimImpl
import Derived.Test.YtbdkepnjhcdpnaaLimImplBack
import Derived.Test.YtbdkepnjhcdpnaaLimMath
import Derived.Test.YtbdkepnjhcdpnaaLimImplSlope
import Derived.Test.YtbdkepnjhcdpnaaLimNews
import Derived.Test.YtbdkepnjhcdpnaaLimLearn
import Derived.Test.YtbdkepnjhcdpnaaLimInv
import Derived.Test.YtbdkepnjhcdpnaaLimDraw
import Derived.Test.YtbdkepnjhcdpnaaLimGood
import Derived.Test.YtbdkepnjhcdpnaaLimSame
import Derived.Test.YtbdkepnjhcdpnaaNearKit
namespace Go.Proofs.Ytbdkepnjhcdpnaa.fnLimit
open Go.ChangeShapes Go.WideShapes Go.ChangeAt Go.RowKit PairWalks MarkKit DrawWalks CodeArg RootMath LimKit LimCopy LimBack LimMath LimInv LimDraw LimGood LimSame NearKit
open LimSpec (limOk cfgOk)
open LimSteps (isLat)
set_option linter.unusedVariables false
set_option linter.unusedSimpArgs false
set_option maxRecDepth 8000

def boxB (w : World) (N : Nat) (cs : Array Value) : Prop := w.heap[N]? = some (.cells cs 29 (0, 0))
theorem boxB.lt {w : World} {N : Nat} {cs : Array Value} (h : boxB w N cs) : N < w.heap.size := (Array.getElem?_eq_some_iff.1 h).1
theorem boxB.below {w w' : World} {N : Nat} {cs : Array Value} (h : boxB w N cs) (hb : Below w.heap.size w w') : boxB w' N cs := (hb.block N h.lt).trans h
theorem boxB.new (w : World) (cs : Array Value) : boxB (w.alloc (.cells cs 29)) w.heap.size cs := heap_alloc_new w _
theorem boxB.cell {w : World} {N : Nat} {cs : Array Value} (h : boxB w N cs) (i : Nat) : w.cell? ⟨N, i, none⟩ = cs[i]? := cell_blk h i
theorem wok_set {X : World} {a : Option Addr} {L : List (Int × Int)} {q : Addr} (h : WOk X a L) (hne : ∀ b, blkL a L = some b → b ≠ q.block) (v : Value) : WOk (X.setCell q v) a L := by
  cases L with
  | nil => exact Or.inl rfl
  | cons z L =>
    rcases h with h | ⟨g, o, rfl, hr⟩
    · simp at h
    · exact Or.inr ⟨g, o, rfl, hr.set (hne g rfl) v⟩

/-- In the loop: the limit's box, the lowered one's, and one that saw the one latency alone. -/
def ZS (W X : World) (b3 b6 b7 : Nat) (k mn mx sp sl li gd av ws R : Int) (aL ay : Option Addr) (cL cy : Nat) (L : List (Int × Int)) : Prop := boxB X b3 #[.int .i64 k, .int .i64 mn, .int .i64 mx, .int .i64 sp, .int .i64 sl, .int .i64 li, .int .i64 gd, .int .i64 av, .int .i64 ws, .slice aL L.length cL] ∧ WOk X aL L ∧ (∀ b, blkL aL L = some b → b < b3) ∧ boxB X b6 #[.int .i64 k, .int .i64 mn, .int .i64 mx, .int .i64 sp, .int .i64 sl, .int .i64 R, .int .i64 0, .int .i64 av, .int .i64 ws, .slice ay L.length cy] ∧ Below W.heap.size W X ∧ b3 < b7 ∧ b6 < b7 ∧ W.heap.size ≤ b7 ∧ ∃ (zi zg za : Int) (PZ : List (Int × Int)) (az : Option Addr) (cz : Nat), boxB X b7 #[.int .i64 k, .int .i64 mn, .int .i64 mx, .int .i64 sp, .int .i64 sl, .int .i64 zi, .int .i64 zg, .int .i64 za, .int .i64 sp, .slice az PZ.length cz] ∧ limOk k mn mx sp sl zi zg za sp PZ ∧ LimInv.Calm sl za PZ ∧ WOk X az PZ ∧ ∀ b, blkL az PZ = some b → b ≠ b7

theorem box_else {X : World} {b c : Nat} {cs : Array Value} {i : Nat} {v : Value} (h : boxB X c cs) (hne : c ≠ b) : boxB (X.setCell ⟨b, i, none⟩ v) c cs := (Below.heap_setCell X ⟨b, i, none⟩ v c hne).trans h
theorem zs_store {W X : World} {b3 b6 b7 : Nat} {k mn mx sp sl li gd av ws R n1 n2 n3 : Int} {aL ay a2 : Option Addr} {cL cy c2 : Nat} {L P2 : List (Int × Int)} {u0 u1 u2 u3 u4 u5 u6 u7 u8 u9 : Value}
    (hl : boxB X b3 #[.int .i64 k, .int .i64 mn, .int .i64 mx, .int .i64 sp, .int .i64 sl, .int .i64 li, .int .i64 gd, .int .i64 av, .int .i64 ws, .slice aL L.length cL]) (hw : WOk X aL L) (hb : ∀ b, blkL aL L = some b → b < b3) (hy : boxB X b6 #[.int .i64 k, .int .i64 mn, .int .i64 mx, .int .i64 sp, .int .i64 sl, .int .i64 R, .int .i64 0, .int .i64 av, .int .i64 ws, .slice ay L.length cy]) (hB : Below W.heap.size W X) (h37 : b3 < b7) (h67 : b6 < b7) (hW : W.heap.size ≤ b7) (hz : boxB X b7 #[u0, u1, u2, u3, u4, u5, u6, u7, u8, u9]) (hok : limOk k mn mx sp sl n1 n2 n3 sp P2) (hc : LimInv.Calm sl n3 P2) (hw2 : WOk X a2 P2) (hb2 : ∀ b, blkL a2 P2 = some b → b ≠ b7) :
    ZS W ((((((((((X.setCell ⟨b7, 0, none⟩ (.int .i64 k)).setCell ⟨b7, 1, none⟩ (.int .i64 mn)).setCell ⟨b7, 2, none⟩ (.int .i64 mx)).setCell ⟨b7, 3, none⟩ (.int .i64 sp)).setCell ⟨b7, 4, none⟩ (.int .i64 sl)).setCell ⟨b7, 5, none⟩ (.int .i64 n1)).setCell ⟨b7, 6, none⟩ (.int .i64 n2)).setCell ⟨b7, 7, none⟩ (.int .i64 n3)).setCell ⟨b7, 8, none⟩ (.int .i64 sp)).setCell ⟨b7, 9, none⟩ (.slice a2 P2.length c2)) b3 b6 b7 k mn mx sp sl li gd av ws R aL ay cL cy L :=
  ⟨box_else (box_else (box_else (box_else (box_else (box_else (box_else (box_else (box_else (box_else (hl) (Nat.ne_of_lt h37)) (Nat.ne_of_lt h37)) (Nat.ne_of_lt h37)) (Nat.ne_of_lt h37)) (Nat.ne_of_lt h37)) (Nat.ne_of_lt h37)) (Nat.ne_of_lt h37)) (Nat.ne_of_lt h37)) (Nat.ne_of_lt h37)) (Nat.ne_of_lt h37), wok_set (wok_set (wok_set (wok_set (wok_set (wok_set (wok_set (wok_set (wok_set (wok_set (hw) (fun b e => by show b ≠ b7; have := hb b e; omega) _) (fun b e => by show b ≠ b7; have := hb b e; omega) _) (fun b e => by show b ≠ b7; have := hb b e; omega) _) (fun b e => by show b ≠ b7; have := hb b e; omega) _) (fun b e => by show b ≠ b7; have := hb b e; omega) _) (fun b e => by show b ≠ b7; have := hb b e; omega) _) (fun b e => by show b ≠ b7; have := hb b e; omega) _) (fun b e => by show b ≠ b7; have := hb b e; omega) _) (fun b e => by show b ≠ b7; have := hb b e; omega) _) (fun b e => by show b ≠ b7; have := hb b e; omega) _, hb, box_else (box_else (box_else (box_else (box_else (box_else (box_else (box_else (box_else (box_else (hy) (Nat.ne_of_lt h67)) (Nat.ne_of_lt h67)) (Nat.ne_of_lt h67)) (Nat.ne_of_lt h67)) (Nat.ne_of_lt h67)) (Nat.ne_of_lt h67)) (Nat.ne_of_lt h67)) (Nat.ne_of_lt h67)) (Nat.ne_of_lt h67)) (Nat.ne_of_lt h67), ((((((((((hB).setCell hW _).setCell hW _).setCell hW _).setCell hW _).setCell hW _).setCell hW _).setCell hW _).setCell hW _).setCell hW _).setCell hW _, h37, h67, hW, n1, n2, n3, P2, a2, c2, set10 hz, hok, hc, wok_set (wok_set (wok_set (wok_set (wok_set (wok_set (wok_set (wok_set (wok_set (wok_set (hw2) hb2 _) hb2 _) hb2 _) hb2 _) hb2 _) hb2 _) hb2 _) hb2 _) hb2 _) hb2 _, hb2⟩

section
variable {W wr w8 : World} {b3 b6 b7 : Nat} {cl cy cz : Array Value} {aL az : Option Addr} {L PZ : List (Int × Int)} {q : Prop}
theorem after_ok (h : boxB wr b3 cl ∧ WOk wr aL L ∧ boxB wr b6 cy ∧ Below W.heap.size W wr ∧ boxB wr b7 cz ∧ WOk wr az PZ ∧ q) (hb : Below wr.drew.heap.size wr.drew w8) : boxB w8 b3 cl ∧ WOk w8 aL L ∧ boxB w8 b6 cy ∧ Below W.heap.size W w8 ∧ boxB w8 b7 cz := by
  have hb : Below wr.heap.size wr w8 := (Below.refl _ _).drew.trans hb
  exact ⟨h.1.below hb, h.2.1.below hb, h.2.2.1.below hb, h.2.2.2.1.trans (hb.mono h.2.2.2.1.size), h.2.2.2.2.1.below hb⟩
theorem after_back (h : boxB wr b3 cl ∧ WOk wr aL L ∧ boxB wr b6 cy ∧ Below W.heap.size W wr ∧ boxB wr b7 cz) (hb : Below wr.heap.size wr w8) : boxB w8 b3 cl ∧ boxB w8 b6 cy ∧ Below W.heap.size W w8 ∧ boxB w8 b7 cz := ⟨h.1.below hb, h.2.2.1.below hb, h.2.2.2.1.trans (hb.mono h.2.2.2.1.size), h.2.2.2.2.below hb⟩
theorem after_same (h : boxB wr b3 cl ∧ boxB wr b6 cy ∧ Below W.heap.size W wr ∧ boxB wr b7 cz) (hb : Below wr.heap.size wr w8) : boxB w8 b3 cl ∧ boxB w8 b6 cy ∧ Below W.heap.size W w8 ∧ boxB w8 b7 cz := ⟨h.1.below hb, h.2.1.below hb, h.2.2.1.trans (hb.mono h.2.2.1.size), h.2.2.2.below hb⟩
end

theorem new_impl (k mn mx sp sl st : Int) (w : World) (hk : limOk k mn mx sp sl st 0 0 sp []) : Calls Try.prog 8 #[.agg #[.int .i64 k, .int .i64 mn, .int .i64 mx, .int .i64 sp, .int .i64 sl], .int .i64 st] w fun e w' => e = .returned (.tuple #[.agg #[.int .i64 k, .int .i64 mn, .int .i64 mx, .int .i64 sp, .int .i64 sl, .int .i64 st, .int .i64 0, .int .i64 0, .int .i64 sp, .slice none 0 0], .bool true]) ∧ Below w.heap.size w w' :=
  (LimNews.impl_new_yes k mn mx sp sl st w hk ⟨hk.1.2.2.2.2.1, hk.1.2.2.2.2.2.1⟩).mono fun e w' ⟨v, he, hv, hb⟩ => by
    rcases hv with hv | hv
    · exact ⟨by rw [he, hv.2], hb⟩
    · cases hv.1

set_option maxHeartbeats 8000000 in
theorem walk_in (a : Option Addr) (len cap : Nat) (W : World) (hlen : (len : Int) ≤ 1048576) (hok : CodeOk W W.heap.size a len) :
    Calls Try.prog 3 #[.slice a len cap] W fun e w' => e = .returned (.bool true) ∧ Below W.heap.size W w' := by
  have HO : Hid (CodeOk W W.heap.size a len) := hok
  clear hok
  go_enter Try.func3, Try.ntmps3
  go_wp2_with fail
  refine (make_lim len a cap _ hlen HO.out).mono ?_
  rintro e w1 ⟨k, mn, mx, sp, sl, li, gd, av, ws, aL, cL, L, rfl, hk, hw, hb, hB⟩
  have HK : Hid (limOk k mn mx sp sl li gd av ws L) := hk
  have l0 : 1 ≤ li := by have h1 := hk.1.2.1; have h2 := hk.2.1; omega
  have l1 : li ≤ 1000 := by have h1 := hk.1.2.2.2.1; have h2 := hk.2.2.1; omega
  have HLN : Hid ((L.length : Int) ≤ 1048577) := by show (L.length : Int) ≤ 1048577; have := hk.2.2.2.2.2.2.2.1.2.2.1; omega
  have n1 : ∀ q : Obj, Below w1.heap.size w1 (w1.alloc q) := fun q => (Below.refl _ _).alloc (Nat.le_refl _) _
  obtain ⟨b3, hb3⟩ : ∃ b, w1.heap.size = b := ⟨_, rfl⟩
  have HBL : Hid (∀ b, blkL aL L = some b → b < b3) := fun b e => by have := blkL_lt hw b e; omega
  have HW3 : Hid (W.heap.size ≤ b3) := by have := hB.size; show _ ≤ _; omega
  have H1 : Hid (boxB (w1.alloc (.cells #[.int .i64 k, .int .i64 mn, .int .i64 mx, .int .i64 sp, .int .i64 sl, .int .i64 li, .int .i64 gd, .int .i64 av, .int .i64 ws, .slice aL L.length cL] 29)) w1.heap.size #[.int .i64 k, .int .i64 mn, .int .i64 mx, .int .i64 sp, .int .i64 sl, .int .i64 li, .int .i64 gd, .int .i64 av, .int .i64 ws, .slice aL L.length cL] ∧ WOk (w1.alloc (.cells #[.int .i64 k, .int .i64 mn, .int .i64 mx, .int .i64 sp, .int .i64 sl, .int .i64 li, .int .i64 gd, .int .i64 av, .int .i64 ws, .slice aL L.length cL] 29)) aL L ∧ Below W.heap.size W (w1.alloc (.cells #[.int .i64 k, .int .i64 mn, .int .i64 mx, .int .i64 sp, .int .i64 sl, .int .i64 li, .int .i64 gd, .int .i64 av, .int .i64 ws, .slice aL L.length cL] 29))) := ⟨boxB.new _ _, hw.below (n1 _), hB.alloc hB.size _⟩
  have C1 : Hid (CodeOk (w1.alloc (.cells #[.int .i64 k, .int .i64 mn, .int .i64 mx, .int .i64 sp, .int .i64 sl, .int .i64 li, .int .i64 gd, .int .i64 av, .int .i64 ws, .slice aL L.length cL] 29)) (w1.alloc (.cells #[.int .i64 k, .int .i64 mn, .int .i64 mx, .int .i64 sp, .int .i64 sl, .int .i64 li, .int .i64 gd, .int .i64 av, .int .i64 ws, .slice aL L.length cL] 29)).heap.size a len) := code_below HO.out H1.out.2.2
  clear hk hw hb hB n1
  go_upto_region 4 with fail
  generalize (w1.alloc (.cells #[.int .i64 k, .int .i64 mn, .int .i64 mx, .int .i64 sp, .int .i64 sl, .int .i64 li, .int .i64 gd, .int .i64 av, .int .i64 ws, .slice aL L.length cL] 29)) = X1 at *
  rw [hb3] at H1
  try rw [hb3]
  clear hb3
  go_wp2_with fail
  refine (make_small len 120 a cap _ hlen (by omega) (by omega) C1.out).mono ?_
  rintro e w2 ⟨lat, rfl, t0, t1, b2⟩
  have H2 : Hid (boxB w2 b3 #[.int .i64 k, .int .i64 mn, .int .i64 mx, .int .i64 sp, .int .i64 sl, .int .i64 li, .int .i64 gd, .int .i64 av, .int .i64 ws, .slice aL L.length cL] ∧ WOk w2 aL L ∧ Below W.heap.size W w2) := ⟨H1.out.1.below b2, H1.out.2.1.below b2, H1.out.2.2.trans (b2.mono H1.out.2.2.size)⟩
  clear b2 H1 C1
  have c0 := H2.out.1.cell 0
  have c1 := H2.out.1.cell 1
  have c2 := H2.out.1.cell 2
  have c3 := H2.out.1.cell 3
  have c4 := H2.out.1.cell 4
  have c5 := H2.out.1.cell 5
  have c6 := H2.out.1.cell 6
  have c7 := H2.out.1.cell 7
  have c8 := H2.out.1.cell 8
  have c9 := H2.out.1.cell 9
  obtain ⟨x1, x2, x3, PX, hx, HX⟩ := good_learn k mn mx sp sl li gd av ws L 500 lat HK.out ⟨by omega, by omega⟩ ⟨by omega, by omega⟩
  have HXO : Hid (limOk k mn mx sp sl x1 x2 x3 ws PX) := hx
  clear hx
  go_wp2_with fail
  refine (HX _ _ _ H2.out.2.1).mono ?_
  rintro e w3 ⟨ax, cx, rfl, rx, gx, b3'⟩
  have n3 : ∀ q : Obj, Below w3.heap.size w3 (w3.alloc q) := fun q => (Below.refl _ _).alloc (Nat.le_refl _) _
  obtain ⟨b5, hb5⟩ : ∃ b, w3.heap.size = b := ⟨_, rfl⟩
  have H3 : Hid (boxB (w3.alloc (.cells #[.int .i64 k, .int .i64 mn, .int .i64 mx, .int .i64 sp, .int .i64 sl, .int .i64 x1, .int .i64 x2, .int .i64 x3, .int .i64 ws, .slice ax PX.length cx] 29)) b3 #[.int .i64 k, .int .i64 mn, .int .i64 mx, .int .i64 sp, .int .i64 sl, .int .i64 li, .int .i64 gd, .int .i64 av, .int .i64 ws, .slice aL L.length cL] ∧ WOk (w3.alloc (.cells #[.int .i64 k, .int .i64 mn, .int .i64 mx, .int .i64 sp, .int .i64 sl, .int .i64 x1, .int .i64 x2, .int .i64 x3, .int .i64 ws, .slice ax PX.length cx] 29)) aL L ∧ Below W.heap.size W (w3.alloc (.cells #[.int .i64 k, .int .i64 mn, .int .i64 mx, .int .i64 sp, .int .i64 sl, .int .i64 x1, .int .i64 x2, .int .i64 x3, .int .i64 ws, .slice ax PX.length cx] 29)) ∧ boxB (w3.alloc (.cells #[.int .i64 k, .int .i64 mn, .int .i64 mx, .int .i64 sp, .int .i64 sl, .int .i64 x1, .int .i64 x2, .int .i64 x3, .int .i64 ws, .slice ax PX.length cx] 29)) w3.heap.size #[.int .i64 k, .int .i64 mn, .int .i64 mx, .int .i64 sp, .int .i64 sl, .int .i64 x1, .int .i64 x2, .int .i64 x3, .int .i64 ws, .slice ax PX.length cx] ∧ WOk (w3.alloc (.cells #[.int .i64 k, .int .i64 mn, .int .i64 mx, .int .i64 sp, .int .i64 sl, .int .i64 x1, .int .i64 x2, .int .i64 x3, .int .i64 ws, .slice ax PX.length cx] 29)) ax PX) := ⟨(H2.out.1.below b3').below (n3 _), (H2.out.2.1.below b3').below (n3 _), (H2.out.2.2.trans (b3'.mono H2.out.2.2.size)).alloc (H2.out.2.2.trans (b3'.mono H2.out.2.2.size)).size _, boxB.new _ _, rx.below (n3 _)⟩
  clear rx gx b3' n3 H2 HX c0 c1 c2 c3 c4 c5 c6 c7 c8 c9
  go_upto_region 6 with fail
  generalize (w3.alloc (.cells #[.int .i64 k, .int .i64 mn, .int .i64 mx, .int .i64 sp, .int .i64 sl, .int .i64 x1, .int .i64 x2, .int .i64 x3, .int .i64 ws, .slice ax PX.length cx] 29)) = X3 at *
  rw [hb5] at H3
  try rw [hb5]
  clear hb5
  have c0 := H3.out.1.cell 0
  have c1 := H3.out.1.cell 1
  have c2 := H3.out.1.cell 2
  have c3 := H3.out.1.cell 3
  have c4 := H3.out.1.cell 4
  have c5 := H3.out.1.cell 5
  have c6 := H3.out.1.cell 6
  have c7 := H3.out.1.cell 7
  have c8 := H3.out.1.cell 8
  have c9 := H3.out.1.cell 9
  have HY := fun W h => LimLearn.impl_learn_fail k mn mx sp sl li gd av ws _ _ _ _ aL cL L 500 lat W h HLN.out HK.out ⟨by omega, by omega⟩ ⟨by omega, by omega⟩ fun W h => LimImplBack.impl_back_yes k mn mx sp sl li gd av ws aL cL L W h HLN.out HK.out
  have HBK := fun W h => LimImplBack.impl_back_yes k mn mx sp sl li gd av ws aL cL L W h HLN.out HK.out
  have hRl := back_less (mx := mx) HK.out.1.2.1 HK.out.2.1
  have HYO : Hid (limOk k mn mx sp sl (clampI (li * 9 / 10) mn mx) 0 av ws L) := ok_back HK.out
  obtain ⟨R, hR⟩ : ∃ R, clampI (li * 9 / 10) mn mx = R := ⟨_, rfl⟩
  rw [hR] at HY HBK hRl HYO
  clear hR
  go_wp2_with fail
  refine (HY _ H3.out.2.1).mono ?_
  rintro e w4 ⟨ay, cy, rfl, ry, gy, b4'⟩
  have n4 : ∀ q : Obj, Below w4.heap.size w4 (w4.alloc q) := fun q => (Below.refl _ _).alloc (Nat.le_refl _) _
  obtain ⟨b6, hb6⟩ : ∃ b, w4.heap.size = b := ⟨_, rfl⟩
  have H4 : Hid (boxB (w4.alloc (.cells #[.int .i64 k, .int .i64 mn, .int .i64 mx, .int .i64 sp, .int .i64 sl, .int .i64 R, .int .i64 0, .int .i64 av, .int .i64 ws, .slice ay L.length cy] 29)) b3 #[.int .i64 k, .int .i64 mn, .int .i64 mx, .int .i64 sp, .int .i64 sl, .int .i64 li, .int .i64 gd, .int .i64 av, .int .i64 ws, .slice aL L.length cL] ∧ WOk (w4.alloc (.cells #[.int .i64 k, .int .i64 mn, .int .i64 mx, .int .i64 sp, .int .i64 sl, .int .i64 R, .int .i64 0, .int .i64 av, .int .i64 ws, .slice ay L.length cy] 29)) aL L ∧ Below W.heap.size W (w4.alloc (.cells #[.int .i64 k, .int .i64 mn, .int .i64 mx, .int .i64 sp, .int .i64 sl, .int .i64 R, .int .i64 0, .int .i64 av, .int .i64 ws, .slice ay L.length cy] 29)) ∧ boxB (w4.alloc (.cells #[.int .i64 k, .int .i64 mn, .int .i64 mx, .int .i64 sp, .int .i64 sl, .int .i64 R, .int .i64 0, .int .i64 av, .int .i64 ws, .slice ay L.length cy] 29)) b5 #[.int .i64 k, .int .i64 mn, .int .i64 mx, .int .i64 sp, .int .i64 sl, .int .i64 x1, .int .i64 x2, .int .i64 x3, .int .i64 ws, .slice ax PX.length cx] ∧ WOk (w4.alloc (.cells #[.int .i64 k, .int .i64 mn, .int .i64 mx, .int .i64 sp, .int .i64 sl, .int .i64 R, .int .i64 0, .int .i64 av, .int .i64 ws, .slice ay L.length cy] 29)) ax PX ∧ boxB (w4.alloc (.cells #[.int .i64 k, .int .i64 mn, .int .i64 mx, .int .i64 sp, .int .i64 sl, .int .i64 R, .int .i64 0, .int .i64 av, .int .i64 ws, .slice ay L.length cy] 29)) w4.heap.size #[.int .i64 k, .int .i64 mn, .int .i64 mx, .int .i64 sp, .int .i64 sl, .int .i64 R, .int .i64 0, .int .i64 av, .int .i64 ws, .slice ay L.length cy] ∧ WOk (w4.alloc (.cells #[.int .i64 k, .int .i64 mn, .int .i64 mx, .int .i64 sp, .int .i64 sl, .int .i64 R, .int .i64 0, .int .i64 av, .int .i64 ws, .slice ay L.length cy] 29)) ay L) := ⟨(H3.out.1.below b4').below (n4 _), (H3.out.2.1.below b4').below (n4 _), (H3.out.2.2.1.trans (b4'.mono H3.out.2.2.1.size)).alloc (H3.out.2.2.1.trans (b4'.mono H3.out.2.2.1.size)).size _, (H3.out.2.2.2.1.below b4').below (n4 _), (H3.out.2.2.2.2.below b4').below (n4 _), boxB.new _ _, ry.below (n4 _)⟩
  clear ry gy b4' n4 H3 HY c0 c1 c2 c3 c4 c5 c6 c7 c8 c9
  go_upto_region 7 with fail
  generalize (w4.alloc (.cells #[.int .i64 k, .int .i64 mn, .int .i64 mx, .int .i64 sp, .int .i64 sl, .int .i64 R, .int .i64 0, .int .i64 av, .int .i64 ws, .slice ay L.length cy] 29)) = X4 at *
  rw [hb6] at H4
  try rw [hb6]
  clear hb6
  have p0 := H4.out.2.2.2.1.cell 0
  have p1 := H4.out.2.2.2.1.cell 1
  have p2 := H4.out.2.2.2.1.cell 2
  have p3 := H4.out.2.2.2.1.cell 3
  have p4 := H4.out.2.2.2.1.cell 4
  have p5 := H4.out.2.2.2.1.cell 5
  have p6 := H4.out.2.2.2.1.cell 6
  have p7 := H4.out.2.2.2.1.cell 7
  have p8 := H4.out.2.2.2.1.cell 8
  have p9 := H4.out.2.2.2.1.cell 9
  go_wp2_with fail
  refine (LimImpl.impl_limok k mn mx sp sl x1 x2 x3 ws ax cx PX true _ H4.out.2.2.2.2.1 (by have := HXO.out.2.2.2.2.2.2.2.1.2.2.1; omega) ⟨fun _ => HXO.out, fun _ => rfl⟩).mono ?_
  rintro e w5 ⟨rfl, b5'⟩
  have H5 : Hid (boxB w5 b3 #[.int .i64 k, .int .i64 mn, .int .i64 mx, .int .i64 sp, .int .i64 sl, .int .i64 li, .int .i64 gd, .int .i64 av, .int .i64 ws, .slice aL L.length cL] ∧ WOk w5 aL L ∧ Below W.heap.size W w5 ∧ boxB w5 b6 #[.int .i64 k, .int .i64 mn, .int .i64 mx, .int .i64 sp, .int .i64 sl, .int .i64 R, .int .i64 0, .int .i64 av, .int .i64 ws, .slice ay L.length cy] ∧ WOk w5 ay L) := ⟨H4.out.1.below b5', H4.out.2.1.below b5', H4.out.2.2.1.trans (b5'.mono H4.out.2.2.1.size), H4.out.2.2.2.2.2.1.below b5', H4.out.2.2.2.2.2.2.below b5'⟩
  clear b5' H4 p0 p1 p2 p3 p4 p5 p6 p7 p8 p9
  have y0 := H5.out.2.2.2.1.cell 0
  have y1 := H5.out.2.2.2.1.cell 1
  have y2 := H5.out.2.2.2.1.cell 2
  have y3 := H5.out.2.2.2.1.cell 3
  have y4 := H5.out.2.2.2.1.cell 4
  have y5 := H5.out.2.2.2.1.cell 5
  have y6 := H5.out.2.2.2.1.cell 6
  have y7 := H5.out.2.2.2.1.cell 7
  have y8 := H5.out.2.2.2.1.cell 8
  have y9 := H5.out.2.2.2.1.cell 9
  go_wp2_with fail
  refine (LimImpl.impl_limok k mn mx sp sl R 0 av ws ay cy L true _ H5.out.2.2.2.2 HLN.out ⟨fun _ => HYO.out, fun _ => rfl⟩).mono ?_
  rintro e w6 ⟨rfl, b6'⟩
  have H6 : Hid (boxB w6 b3 #[.int .i64 k, .int .i64 mn, .int .i64 mx, .int .i64 sp, .int .i64 sl, .int .i64 li, .int .i64 gd, .int .i64 av, .int .i64 ws, .slice aL L.length cL] ∧ WOk w6 aL L ∧ Below W.heap.size W w6 ∧ boxB w6 b6 #[.int .i64 k, .int .i64 mn, .int .i64 mx, .int .i64 sp, .int .i64 sl, .int .i64 R, .int .i64 0, .int .i64 av, .int .i64 ws, .slice ay L.length cy]) := ⟨H5.out.1.below b6', H5.out.2.1.below b6', H5.out.2.2.1.trans (b6'.mono H5.out.2.2.1.size), H5.out.2.2.2.1.below b6'⟩
  clear b6' H5 y0 y1 y2 y3 y4 y5 y6 y7 y8 y9
  have c0 := H6.out.1.cell 0
  have c1 := H6.out.1.cell 1
  have c2 := H6.out.1.cell 2
  have c3 := H6.out.1.cell 3
  have c4 := H6.out.1.cell 4
  have c5 := H6.out.1.cell 5
  have c6 := H6.out.1.cell 6
  have c7 := H6.out.1.cell 7
  have c8 := H6.out.1.cell 8
  have c9 := H6.out.1.cell 9
  have y0 := H6.out.2.2.2.cell 0
  have y1 := H6.out.2.2.2.cell 1
  have y2 := H6.out.2.2.2.cell 2
  have y3 := H6.out.2.2.2.cell 3
  have y4 := H6.out.2.2.2.cell 4
  have y5 := H6.out.2.2.2.cell 5
  have y6 := H6.out.2.2.2.cell 6
  have y7 := H6.out.2.2.2.cell 7
  have y8 := H6.out.2.2.2.cell 8
  have y9 := H6.out.2.2.2.cell 9
  have e1 : decide (li < R) = false := by simp; omega
  have e2 : ((0 : Int) != 0) = false := rfl
  go_wp2_with fail
  refine (new_impl k mn mx sp sl li _ (new_ok k mn mx sp sl li HK.out.1 HK.out.2.1 HK.out.2.2.1)).mono ?_
  rintro e w7 ⟨rfl, b7'⟩
  have n7 : ∀ q : Obj, Below w7.heap.size w7 (w7.alloc q) := fun q => (Below.refl _ _).alloc (Nat.le_refl _) _
  obtain ⟨b7, hb7⟩ : ∃ b, w7.heap.size = b := ⟨_, rfl⟩
  have HZ : Hid (ZS W (w7.alloc (.cells #[.int .i64 k, .int .i64 mn, .int .i64 mx, .int .i64 sp, .int .i64 sl, .int .i64 li, .int .i64 0, .int .i64 0, .int .i64 sp, .slice none 0 0] 29)) b3 b6 w7.heap.size k mn mx sp sl li gd av ws R aL ay cL cy L) := ⟨(H6.out.1.below b7').below (n7 _), (H6.out.2.1.below b7').below (n7 _), HBL.out, (H6.out.2.2.2.below b7').below (n7 _), (H6.out.2.2.1.trans (b7'.mono H6.out.2.2.1.size)).alloc (H6.out.2.2.1.trans (b7'.mono H6.out.2.2.1.size)).size _, (H6.out.1.below b7').lt, (H6.out.2.2.2.below b7').lt, (H6.out.2.2.1.trans (b7'.mono H6.out.2.2.1.size)).size, li, 0, 0, [], none, 0, boxB.new _ _, new_ok k mn mx sp sl li HK.out.1 HK.out.2.1 HK.out.2.2.1, ⟨Or.inl rfl, fun p hp => by simp at hp⟩, Or.inl rfl, fun b e => by simp [blkL] at e⟩
  clear b7' n7 H6 c0 c1 c2 c3 c4 c5 c6 c7 c8 c9 y0 y1 y2 y3 y4 y5 y6 y7 y8 y9 e1 e2
  go_upto_region 10 with fail
  generalize (w7.alloc (.cells #[.int .i64 k, .int .i64 mn, .int .i64 mx, .int .i64 sp, .int .i64 sl, .int .i64 li, .int .i64 0, .int .i64 0, .int .i64 sp, .slice none 0 0] 29)) = XZ at *
  rw [hb7] at HZ
  try rw [hb7]
  clear hb7
  go_wp2_with fail
  go_loopw [9] (fun i wr => ∃ j : Nat, j ≤ 6 ∧ i = .int .i64 j ∧ Hid (ZS W wr b3 b6 b7 k mn mx sp sl li gd av ws R aL ay cL cy L)) (fun i _ => 6 - (intOf i).toNat)
  case atStart => exact ⟨0, by omega, rfl, HZ⟩
  case round =>
    clear HZ
    obtain ⟨j, hj, rfl, HS⟩ := hrel
    obtain ⟨hl, hw, hbl, hy, hB, h37, h67, hW7, zi, zg, za, PZ, az, cz, hz, hok, hcalm, hwz, hbz⟩ := HS.out
    clear HS
    by_cases hlt : j < 6
    · obtain ⟨r, n1, n2, n3, P2, hr, q1, q2, hc2, hok2, HX⟩ := calm_learn k mn mx sp sl zi zg za sp PZ (10 * (j : Int)) hok ⟨by omega, by omega⟩ hcalm
      have z0 : 1 ≤ zi := by have h1 := hok.1.2.1; have h2 := hok.2.1; omega
      have z1 : zi ≤ 1000 := by have h1 := hok.1.2.2.2.1; have h2 := hok.2.2.1; omega
      have rb := root_small hr z1
      have HR := fun W => LimImplSlope.impl_rootI zi r W z0 z1 hr
      have nb : 1 ≤ n1 ∧ n1 ≤ 1000 := by have h1 := hok2.1.2.1; have h2 := hok2.2.1; have h3 := hok2.1.2.2.2.1; have h4 := hok2.2.2.1; omega
      have HN : Hid (limOk k mn mx sp sl n1 n2 n3 sp P2 ∧ LimInv.Calm sl n3 P2) := ⟨hok2, hc2⟩
      have H0 : Hid (boxB wr b3 #[.int .i64 k, .int .i64 mn, .int .i64 mx, .int .i64 sp, .int .i64 sl, .int .i64 li, .int .i64 gd, .int .i64 av, .int .i64 ws, .slice aL L.length cL] ∧ WOk wr aL L ∧ (∀ b, blkL aL L = some b → b < b3) ∧ boxB wr b6 #[.int .i64 k, .int .i64 mn, .int .i64 mx, .int .i64 sp, .int .i64 sl, .int .i64 R, .int .i64 0, .int .i64 av, .int .i64 ws, .slice ay L.length cy] ∧ Below W.heap.size W wr ∧ boxB wr b7 #[.int .i64 k, .int .i64 mn, .int .i64 mx, .int .i64 sp, .int .i64 sl, .int .i64 zi, .int .i64 zg, .int .i64 za, .int .i64 sp, .slice az PZ.length cz] ∧ WOk wr az PZ) := ⟨hl, hw, hbl, hy, hB, hz, hwz⟩
      have c4 : wr.cell? ⟨b3, 4, none⟩ = some (.int .i64 sl) := hl.cell 4
      have s0 := hz.cell 0
      have s1 := hz.cell 1
      have s2 := hz.cell 2
      have s3 := hz.cell 3
      have s4 := hz.cell 4
      have s5 := hz.cell 5
      have s6 := hz.cell 6
      have s7 := hz.cell 7
      have s8 := hz.cell 8
      have s9 := hz.cell 9
      have hli : (j : Int) < 6 := by omega
      clear hok hcalm hr hc2 hok2 hl hw hbl hy hB hz hwz hbz
      go_wp2_with fail
      refine (HX _ _ _ H0.out.2.2.2.2.2.2).mono ?_
      rintro e w8 ⟨a2, c2, rfl, r2, g2, b8⟩
      have n8 : ∀ q : Obj, Below w8.heap.size w8 (w8.alloc q) := fun q => (Below.refl _ _).alloc (Nat.le_refl _) _
      obtain ⟨bn, hbn⟩ : ∃ b, w8.heap.size = b := ⟨_, rfl⟩
      have H8 : Hid (boxB (w8.alloc (.cells #[.int .i64 k, .int .i64 mn, .int .i64 mx, .int .i64 sp, .int .i64 sl, .int .i64 n1, .int .i64 n2, .int .i64 n3, .int .i64 sp, .slice a2 P2.length c2] 29)) b3 #[.int .i64 k, .int .i64 mn, .int .i64 mx, .int .i64 sp, .int .i64 sl, .int .i64 li, .int .i64 gd, .int .i64 av, .int .i64 ws, .slice aL L.length cL] ∧ WOk (w8.alloc (.cells #[.int .i64 k, .int .i64 mn, .int .i64 mx, .int .i64 sp, .int .i64 sl, .int .i64 n1, .int .i64 n2, .int .i64 n3, .int .i64 sp, .slice a2 P2.length c2] 29)) aL L ∧ (∀ b, blkL aL L = some b → b < b3) ∧ boxB (w8.alloc (.cells #[.int .i64 k, .int .i64 mn, .int .i64 mx, .int .i64 sp, .int .i64 sl, .int .i64 n1, .int .i64 n2, .int .i64 n3, .int .i64 sp, .slice a2 P2.length c2] 29)) b6 #[.int .i64 k, .int .i64 mn, .int .i64 mx, .int .i64 sp, .int .i64 sl, .int .i64 R, .int .i64 0, .int .i64 av, .int .i64 ws, .slice ay L.length cy] ∧ Below W.heap.size W (w8.alloc (.cells #[.int .i64 k, .int .i64 mn, .int .i64 mx, .int .i64 sp, .int .i64 sl, .int .i64 n1, .int .i64 n2, .int .i64 n3, .int .i64 sp, .slice a2 P2.length c2] 29)) ∧ boxB (w8.alloc (.cells #[.int .i64 k, .int .i64 mn, .int .i64 mx, .int .i64 sp, .int .i64 sl, .int .i64 n1, .int .i64 n2, .int .i64 n3, .int .i64 sp, .slice a2 P2.length c2] 29)) b7 #[.int .i64 k, .int .i64 mn, .int .i64 mx, .int .i64 sp, .int .i64 sl, .int .i64 zi, .int .i64 zg, .int .i64 za, .int .i64 sp, .slice az PZ.length cz] ∧ boxB (w8.alloc (.cells #[.int .i64 k, .int .i64 mn, .int .i64 mx, .int .i64 sp, .int .i64 sl, .int .i64 n1, .int .i64 n2, .int .i64 n3, .int .i64 sp, .slice a2 P2.length c2] 29)) w8.heap.size #[.int .i64 k, .int .i64 mn, .int .i64 mx, .int .i64 sp, .int .i64 sl, .int .i64 n1, .int .i64 n2, .int .i64 n3, .int .i64 sp, .slice a2 P2.length c2] ∧ WOk (w8.alloc (.cells #[.int .i64 k, .int .i64 mn, .int .i64 mx, .int .i64 sp, .int .i64 sl, .int .i64 n1, .int .i64 n2, .int .i64 n3, .int .i64 sp, .slice a2 P2.length c2] 29)) a2 P2 ∧ (∀ b, blkL a2 P2 = some b → b ≠ b7)) := ⟨(H0.out.1.below b8).below (n8 _), (H0.out.2.1.below b8).below (n8 _), H0.out.2.2.1, (H0.out.2.2.2.1.below b8).below (n8 _), (H0.out.2.2.2.2.1.trans (b8.mono H0.out.2.2.2.2.1.size)).alloc (H0.out.2.2.2.2.1.trans (b8.mono H0.out.2.2.2.2.1.size)).size _, (H0.out.2.2.2.2.2.1.below b8).below (n8 _), boxB.new _ _, r2.below (n8 _), fun b e => by have h1 := blkL_ge g2 b e; have h2 := H0.out.2.2.2.2.2.1.lt; omega⟩
      have hn7 : b7 < bn := by have h1 := (H0.out.2.2.2.2.2.1.below b8).lt; omega
      clear r2 g2 b8 n8 H0 HX c4 s0 s1 s2 s3 s4 s5 s6 s7 s8 s9
      go_upto_region 14 with fail
      generalize (w8.alloc (.cells #[.int .i64 k, .int .i64 mn, .int .i64 mx, .int .i64 sp, .int .i64 sl, .int .i64 n1, .int .i64 n2, .int .i64 n3, .int .i64 sp, .slice a2 P2.length c2] 29)) = XN at *
      rw [hbn] at H8
      try rw [hbn]
      clear hbn
      have d1 : decide (n1 < zi) = false := by simp; omega
      have d2 : decide (zi + r + 1 < n1) = false := by simp; omega
      have wr1 := IntWalk.i64_in (zi + r) ⟨by omega, by omega⟩
      have wr2 := IntWalk.i64_in (zi + r + 1) ⟨by omega, by omega⟩
      have near := Near.is XN
      have k1 : XN.cell? ⟨bn, 5, none⟩ = some (.int .i64 n1) := H8.out.2.2.2.2.2.2.1.cell 5
      have k2 : XN.cell? ⟨b7, 5, none⟩ = some (.int .i64 zi) := H8.out.2.2.2.2.2.1.cell 5
      have K1 := Near.cell k1
      have K2 := Near.cell k2
      clear k1 k2
      refine wp_region_near (by kernel_rfl) (by kernel_rfl) ?_
      repeat (go_big_quiet_step ((go_at_call 9; exact near_call (HR _))))
      refine wpQuiet_nil ?_
      intro wx hwx
      obtain ⟨y, hy⟩ := hwx
      subst hy
      have H9 : Hid (boxB y.w b3 #[.int .i64 k, .int .i64 mn, .int .i64 mx, .int .i64 sp, .int .i64 sl, .int .i64 li, .int .i64 gd, .int .i64 av, .int .i64 ws, .slice aL L.length cL] ∧ WOk y.w aL L ∧ (∀ b, blkL aL L = some b → b < b3) ∧ boxB y.w b6 #[.int .i64 k, .int .i64 mn, .int .i64 mx, .int .i64 sp, .int .i64 sl, .int .i64 R, .int .i64 0, .int .i64 av, .int .i64 ws, .slice ay L.length cy] ∧ Below W.heap.size W y.w ∧ boxB y.w b7 #[.int .i64 k, .int .i64 mn, .int .i64 mx, .int .i64 sp, .int .i64 sl, .int .i64 zi, .int .i64 zg, .int .i64 za, .int .i64 sp, .slice az PZ.length cz] ∧ boxB y.w bn #[.int .i64 k, .int .i64 mn, .int .i64 mx, .int .i64 sp, .int .i64 sl, .int .i64 n1, .int .i64 n2, .int .i64 n3, .int .i64 sp, .slice a2 P2.length c2] ∧ WOk y.w a2 P2 ∧ (∀ b, blkL a2 P2 = some b → b ≠ b7)) := by
        obtain ⟨m1, m2, m3, m4, m5, m6, m7, m8, m9⟩ := H8.out
        exact ⟨m1.below y.near, m2.below y.near, m3, m4.below y.near, m5.trans (y.near.mono m5.size), m6.below y.near, m7.below y.near, m8.below y.near, m9⟩
      obtain ⟨wd, hwd⟩ : ∃ wd, y.w = wd := ⟨_, rfl⟩
      rw [hwd] at H9 ⊢
      clear hwd y near K1 K2 H8 d1 d2 wr1 wr2
      have s0 := H9.out.2.2.2.2.2.2.1.cell 0
      have s1 := H9.out.2.2.2.2.2.2.1.cell 1
      have s2 := H9.out.2.2.2.2.2.2.1.cell 2
      have s3 := H9.out.2.2.2.2.2.2.1.cell 3
      have s4 := H9.out.2.2.2.2.2.2.1.cell 4
      have s5 := H9.out.2.2.2.2.2.2.1.cell 5
      have s6 := H9.out.2.2.2.2.2.2.1.cell 6
      have s7 := H9.out.2.2.2.2.2.2.1.cell 7
      have s8 := H9.out.2.2.2.2.2.2.1.cell 8
      have s9 := H9.out.2.2.2.2.2.2.1.cell 9
      have d0 := cell_blk H9.out.2.2.2.2.2.1 0
      have e0 := fz_blk H9.out.2.2.2.2.2.1 0
      have d1 := cell_blk H9.out.2.2.2.2.2.1 1
      have e1 := fz_blk H9.out.2.2.2.2.2.1 1
      have d2 := cell_blk H9.out.2.2.2.2.2.1 2
      have e2 := fz_blk H9.out.2.2.2.2.2.1 2
      have d3 := cell_blk H9.out.2.2.2.2.2.1 3
      have e3 := fz_blk H9.out.2.2.2.2.2.1 3
      have d4 := cell_blk H9.out.2.2.2.2.2.1 4
      have e4 := fz_blk H9.out.2.2.2.2.2.1 4
      have d5 := cell_blk H9.out.2.2.2.2.2.1 5
      have e5 := fz_blk H9.out.2.2.2.2.2.1 5
      have d6 := cell_blk H9.out.2.2.2.2.2.1 6
      have e6 := fz_blk H9.out.2.2.2.2.2.1 6
      have d7 := cell_blk H9.out.2.2.2.2.2.1 7
      have e7 := fz_blk H9.out.2.2.2.2.2.1 7
      have d8 := cell_blk H9.out.2.2.2.2.2.1 8
      have e8 := fz_blk H9.out.2.2.2.2.2.1 8
      have d9 := cell_blk H9.out.2.2.2.2.2.1 9
      have e9 := fz_blk H9.out.2.2.2.2.2.1 9
      go_wp2
      go_roundw
      case rel => exact ⟨j + 1, by omega, by go_num, zs_store H9.out.1 H9.out.2.1 H9.out.2.2.1 H9.out.2.2.2.1 H9.out.2.2.2.2.1 h37 h67 hW7 H9.out.2.2.2.2.2.1 HN.out.1 HN.out.2 H9.out.2.2.2.2.2.2.2.1 H9.out.2.2.2.2.2.2.2.2⟩
      case measure => simp [intOf]; omega
    · obtain rfl : j = 6 := by omega
      have hli : ¬ ((6 : Nat) : Int) < 6 := by omega
      have K0 : Hid (wr.drew.cell? ⟨b7, 0, none⟩ = some (.int .i64 k) ∧ wr.drew.cell? ⟨b7, 1, none⟩ = some (.int .i64 mn) ∧ wr.drew.cell? ⟨b7, 2, none⟩ = some (.int .i64 mx) ∧ wr.drew.cell? ⟨b7, 3, none⟩ = some (.int .i64 sp) ∧ wr.drew.cell? ⟨b7, 4, none⟩ = some (.int .i64 sl) ∧ wr.drew.cell? ⟨b7, 5, none⟩ = some (.int .i64 zi) ∧ wr.drew.cell? ⟨b7, 6, none⟩ = some (.int .i64 zg) ∧ wr.drew.cell? ⟨b7, 7, none⟩ = some (.int .i64 za) ∧ wr.drew.cell? ⟨b7, 8, none⟩ = some (.int .i64 sp) ∧ wr.drew.cell? ⟨b7, 9, none⟩ = some (.slice az PZ.length cz) ∧ wr.drew.cell? ⟨b3, 0, none⟩ = some (.int .i64 k) ∧ wr.drew.cell? ⟨b3, 1, none⟩ = some (.int .i64 mn) ∧ wr.drew.cell? ⟨b3, 2, none⟩ = some (.int .i64 mx) ∧ wr.drew.cell? ⟨b3, 3, none⟩ = some (.int .i64 sp) ∧ wr.drew.cell? ⟨b3, 4, none⟩ = some (.int .i64 sl) ∧ wr.drew.cell? ⟨b3, 5, none⟩ = some (.int .i64 li) ∧ wr.drew.cell? ⟨b3, 6, none⟩ = some (.int .i64 gd) ∧ wr.drew.cell? ⟨b3, 7, none⟩ = some (.int .i64 av) ∧ wr.drew.cell? ⟨b3, 8, none⟩ = some (.int .i64 ws) ∧ wr.drew.cell? ⟨b3, 9, none⟩ = some (.slice aL L.length cL) ∧ wr.drew.cell? ⟨b6, 0, none⟩ = some (.int .i64 k) ∧ wr.drew.cell? ⟨b6, 1, none⟩ = some (.int .i64 mn) ∧ wr.drew.cell? ⟨b6, 2, none⟩ = some (.int .i64 mx) ∧ wr.drew.cell? ⟨b6, 3, none⟩ = some (.int .i64 sp) ∧ wr.drew.cell? ⟨b6, 4, none⟩ = some (.int .i64 sl) ∧ wr.drew.cell? ⟨b6, 5, none⟩ = some (.int .i64 R) ∧ wr.drew.cell? ⟨b6, 6, none⟩ = some (.int .i64 0) ∧ wr.drew.cell? ⟨b6, 7, none⟩ = some (.int .i64 av) ∧ wr.drew.cell? ⟨b6, 8, none⟩ = some (.int .i64 ws) ∧ wr.drew.cell? ⟨b6, 9, none⟩ = some (.slice ay L.length cy)) := ⟨hz.cell 0, hz.cell 1, hz.cell 2, hz.cell 3, hz.cell 4, hz.cell 5, hz.cell 6, hz.cell 7, hz.cell 8, hz.cell 9, hl.cell 0, hl.cell 1, hl.cell 2, hl.cell 3, hl.cell 4, hl.cell 5, hl.cell 6, hl.cell 7, hl.cell 8, hl.cell 9, hy.cell 0, hy.cell 1, hy.cell 2, hy.cell 3, hy.cell 4, hy.cell 5, hy.cell 6, hy.cell 7, hy.cell 8, hy.cell 9⟩
      have H0 : Hid (boxB wr b3 #[.int .i64 k, .int .i64 mn, .int .i64 mx, .int .i64 sp, .int .i64 sl, .int .i64 li, .int .i64 gd, .int .i64 av, .int .i64 ws, .slice aL L.length cL] ∧ WOk wr aL L ∧ boxB wr b6 #[.int .i64 k, .int .i64 mn, .int .i64 mx, .int .i64 sp, .int .i64 sl, .int .i64 R, .int .i64 0, .int .i64 av, .int .i64 ws, .slice ay L.length cy] ∧ Below W.heap.size W wr ∧ boxB wr b7 #[.int .i64 k, .int .i64 mn, .int .i64 mx, .int .i64 sp, .int .i64 sl, .int .i64 zi, .int .i64 zg, .int .i64 za, .int .i64 sp, .slice az PZ.length cz] ∧ WOk wr az PZ ∧ limOk k mn mx sp sl zi zg za sp PZ) := ⟨hl, hw, hy, hB, hz, hwz, hok⟩
      have HPZ : Hid ((PZ.length : Int) ≤ 1048577) := by show (PZ.length : Int) ≤ 1048577; have := hok.2.2.2.2.2.2.2.1.2.2.1; omega
      clear hl hw hbl hy hB hz hok hcalm hwz hbz
      go_upto_region 17 with fail
      go_region_held3 (fun w' => w'.cell? ⟨b7, 0, none⟩ = some (.int .i64 k) ∧ w'.cell? ⟨b7, 1, none⟩ = some (.int .i64 mn) ∧ w'.cell? ⟨b7, 2, none⟩ = some (.int .i64 mx) ∧ w'.cell? ⟨b7, 3, none⟩ = some (.int .i64 sp) ∧ w'.cell? ⟨b7, 4, none⟩ = some (.int .i64 sl) ∧ w'.cell? ⟨b7, 5, none⟩ = some (.int .i64 zi) ∧ w'.cell? ⟨b7, 6, none⟩ = some (.int .i64 zg) ∧ w'.cell? ⟨b7, 7, none⟩ = some (.int .i64 za) ∧ w'.cell? ⟨b7, 8, none⟩ = some (.int .i64 sp) ∧ w'.cell? ⟨b7, 9, none⟩ = some (.slice az PZ.length cz) ∧ w'.cell? ⟨b3, 0, none⟩ = some (.int .i64 k) ∧ w'.cell? ⟨b3, 1, none⟩ = some (.int .i64 mn) ∧ w'.cell? ⟨b3, 2, none⟩ = some (.int .i64 mx) ∧ w'.cell? ⟨b3, 3, none⟩ = some (.int .i64 sp) ∧ w'.cell? ⟨b3, 4, none⟩ = some (.int .i64 sl) ∧ w'.cell? ⟨b3, 5, none⟩ = some (.int .i64 li) ∧ w'.cell? ⟨b3, 6, none⟩ = some (.int .i64 gd) ∧ w'.cell? ⟨b3, 7, none⟩ = some (.int .i64 av) ∧ w'.cell? ⟨b3, 8, none⟩ = some (.int .i64 ws) ∧ w'.cell? ⟨b3, 9, none⟩ = some (.slice aL L.length cL) ∧ w'.cell? ⟨b6, 0, none⟩ = some (.int .i64 k) ∧ w'.cell? ⟨b6, 1, none⟩ = some (.int .i64 mn) ∧ w'.cell? ⟨b6, 2, none⟩ = some (.int .i64 mx) ∧ w'.cell? ⟨b6, 3, none⟩ = some (.int .i64 sp) ∧ w'.cell? ⟨b6, 4, none⟩ = some (.int .i64 sl) ∧ w'.cell? ⟨b6, 5, none⟩ = some (.int .i64 R) ∧ w'.cell? ⟨b6, 6, none⟩ = some (.int .i64 0) ∧ w'.cell? ⟨b6, 7, none⟩ = some (.int .i64 av) ∧ w'.cell? ⟨b6, 8, none⟩ = some (.int .i64 ws) ∧ w'.cell? ⟨b6, 9, none⟩ = some (.slice ay L.length cy)) ((first | with_reducible exact K0.out | with_reducible exact K8.out | with_reducible exact K9.out | with_reducible exact K10.out)) ((first | (go_at_call 7; refine (LimImpl.impl_limok k mn mx sp sl zi zg za sp az cz PZ true _ (H0.out.2.2.2.2.2.1.below (Below.refl _ _).drew) HPZ.out ⟨fun _ => H0.out.2.2.2.2.2.2, fun _ => rfl⟩).mono ?_; rintro e w8 ⟨rfl, b8⟩; have H8 : Hid (boxB w8 b3 #[.int .i64 k, .int .i64 mn, .int .i64 mx, .int .i64 sp, .int .i64 sl, .int .i64 li, .int .i64 gd, .int .i64 av, .int .i64 ws, .slice aL L.length cL] ∧ WOk w8 aL L ∧ boxB w8 b6 #[.int .i64 k, .int .i64 mn, .int .i64 mx, .int .i64 sp, .int .i64 sl, .int .i64 R, .int .i64 0, .int .i64 av, .int .i64 ws, .slice ay L.length cy] ∧ Below W.heap.size W w8 ∧ boxB w8 b7 #[.int .i64 k, .int .i64 mn, .int .i64 mx, .int .i64 sp, .int .i64 sl, .int .i64 zi, .int .i64 zg, .int .i64 za, .int .i64 sp, .slice az PZ.length cz]) := after_ok H0.out b8; have K8 : Hid (w8.cell? ⟨b7, 0, none⟩ = some (.int .i64 k) ∧ w8.cell? ⟨b7, 1, none⟩ = some (.int .i64 mn) ∧ w8.cell? ⟨b7, 2, none⟩ = some (.int .i64 mx) ∧ w8.cell? ⟨b7, 3, none⟩ = some (.int .i64 sp) ∧ w8.cell? ⟨b7, 4, none⟩ = some (.int .i64 sl) ∧ w8.cell? ⟨b7, 5, none⟩ = some (.int .i64 zi) ∧ w8.cell? ⟨b7, 6, none⟩ = some (.int .i64 zg) ∧ w8.cell? ⟨b7, 7, none⟩ = some (.int .i64 za) ∧ w8.cell? ⟨b7, 8, none⟩ = some (.int .i64 sp) ∧ w8.cell? ⟨b7, 9, none⟩ = some (.slice az PZ.length cz) ∧ w8.cell? ⟨b3, 0, none⟩ = some (.int .i64 k) ∧ w8.cell? ⟨b3, 1, none⟩ = some (.int .i64 mn) ∧ w8.cell? ⟨b3, 2, none⟩ = some (.int .i64 mx) ∧ w8.cell? ⟨b3, 3, none⟩ = some (.int .i64 sp) ∧ w8.cell? ⟨b3, 4, none⟩ = some (.int .i64 sl) ∧ w8.cell? ⟨b3, 5, none⟩ = some (.int .i64 li) ∧ w8.cell? ⟨b3, 6, none⟩ = some (.int .i64 gd) ∧ w8.cell? ⟨b3, 7, none⟩ = some (.int .i64 av) ∧ w8.cell? ⟨b3, 8, none⟩ = some (.int .i64 ws) ∧ w8.cell? ⟨b3, 9, none⟩ = some (.slice aL L.length cL) ∧ w8.cell? ⟨b6, 0, none⟩ = some (.int .i64 k) ∧ w8.cell? ⟨b6, 1, none⟩ = some (.int .i64 mn) ∧ w8.cell? ⟨b6, 2, none⟩ = some (.int .i64 mx) ∧ w8.cell? ⟨b6, 3, none⟩ = some (.int .i64 sp) ∧ w8.cell? ⟨b6, 4, none⟩ = some (.int .i64 sl) ∧ w8.cell? ⟨b6, 5, none⟩ = some (.int .i64 R) ∧ w8.cell? ⟨b6, 6, none⟩ = some (.int .i64 0) ∧ w8.cell? ⟨b6, 7, none⟩ = some (.int .i64 av) ∧ w8.cell? ⟨b6, 8, none⟩ = some (.int .i64 ws) ∧ w8.cell? ⟨b6, 9, none⟩ = some (.slice ay L.length cy)) := ⟨H8.out.2.2.2.2.cell 0, H8.out.2.2.2.2.cell 1, H8.out.2.2.2.2.cell 2, H8.out.2.2.2.2.cell 3, H8.out.2.2.2.2.cell 4, H8.out.2.2.2.2.cell 5, H8.out.2.2.2.2.cell 6, H8.out.2.2.2.2.cell 7, H8.out.2.2.2.2.cell 8, H8.out.2.2.2.2.cell 9, H8.out.1.cell 0, H8.out.1.cell 1, H8.out.1.cell 2, H8.out.1.cell 3, H8.out.1.cell 4, H8.out.1.cell 5, H8.out.1.cell 6, H8.out.1.cell 7, H8.out.1.cell 8, H8.out.1.cell 9, H8.out.2.2.1.cell 0, H8.out.2.2.1.cell 1, H8.out.2.2.1.cell 2, H8.out.2.2.1.cell 3, H8.out.2.2.1.cell 4, H8.out.2.2.1.cell 5, H8.out.2.2.1.cell 6, H8.out.2.2.1.cell 7, H8.out.2.2.1.cell 8, H8.out.2.2.1.cell 9⟩; clear b8) | (go_at_call 11; refine (HBK _ H8.out.2.1).mono ?_; rintro e w9 ⟨a9, c9, rfl, r9, g9, b9⟩; have H9 : Hid (boxB w9 b3 #[.int .i64 k, .int .i64 mn, .int .i64 mx, .int .i64 sp, .int .i64 sl, .int .i64 li, .int .i64 gd, .int .i64 av, .int .i64 ws, .slice aL L.length cL] ∧ boxB w9 b6 #[.int .i64 k, .int .i64 mn, .int .i64 mx, .int .i64 sp, .int .i64 sl, .int .i64 R, .int .i64 0, .int .i64 av, .int .i64 ws, .slice ay L.length cy] ∧ Below W.heap.size W w9 ∧ boxB w9 b7 #[.int .i64 k, .int .i64 mn, .int .i64 mx, .int .i64 sp, .int .i64 sl, .int .i64 zi, .int .i64 zg, .int .i64 za, .int .i64 sp, .slice az PZ.length cz]) := after_back H8.out b9; have K9 : Hid (w9.cell? ⟨b7, 0, none⟩ = some (.int .i64 k) ∧ w9.cell? ⟨b7, 1, none⟩ = some (.int .i64 mn) ∧ w9.cell? ⟨b7, 2, none⟩ = some (.int .i64 mx) ∧ w9.cell? ⟨b7, 3, none⟩ = some (.int .i64 sp) ∧ w9.cell? ⟨b7, 4, none⟩ = some (.int .i64 sl) ∧ w9.cell? ⟨b7, 5, none⟩ = some (.int .i64 zi) ∧ w9.cell? ⟨b7, 6, none⟩ = some (.int .i64 zg) ∧ w9.cell? ⟨b7, 7, none⟩ = some (.int .i64 za) ∧ w9.cell? ⟨b7, 8, none⟩ = some (.int .i64 sp) ∧ w9.cell? ⟨b7, 9, none⟩ = some (.slice az PZ.length cz) ∧ w9.cell? ⟨b3, 0, none⟩ = some (.int .i64 k) ∧ w9.cell? ⟨b3, 1, none⟩ = some (.int .i64 mn) ∧ w9.cell? ⟨b3, 2, none⟩ = some (.int .i64 mx) ∧ w9.cell? ⟨b3, 3, none⟩ = some (.int .i64 sp) ∧ w9.cell? ⟨b3, 4, none⟩ = some (.int .i64 sl) ∧ w9.cell? ⟨b3, 5, none⟩ = some (.int .i64 li) ∧ w9.cell? ⟨b3, 6, none⟩ = some (.int .i64 gd) ∧ w9.cell? ⟨b3, 7, none⟩ = some (.int .i64 av) ∧ w9.cell? ⟨b3, 8, none⟩ = some (.int .i64 ws) ∧ w9.cell? ⟨b3, 9, none⟩ = some (.slice aL L.length cL) ∧ w9.cell? ⟨b6, 0, none⟩ = some (.int .i64 k) ∧ w9.cell? ⟨b6, 1, none⟩ = some (.int .i64 mn) ∧ w9.cell? ⟨b6, 2, none⟩ = some (.int .i64 mx) ∧ w9.cell? ⟨b6, 3, none⟩ = some (.int .i64 sp) ∧ w9.cell? ⟨b6, 4, none⟩ = some (.int .i64 sl) ∧ w9.cell? ⟨b6, 5, none⟩ = some (.int .i64 R) ∧ w9.cell? ⟨b6, 6, none⟩ = some (.int .i64 0) ∧ w9.cell? ⟨b6, 7, none⟩ = some (.int .i64 av) ∧ w9.cell? ⟨b6, 8, none⟩ = some (.int .i64 ws) ∧ w9.cell? ⟨b6, 9, none⟩ = some (.slice ay L.length cy)) := ⟨H9.out.2.2.2.cell 0, H9.out.2.2.2.cell 1, H9.out.2.2.2.cell 2, H9.out.2.2.2.cell 3, H9.out.2.2.2.cell 4, H9.out.2.2.2.cell 5, H9.out.2.2.2.cell 6, H9.out.2.2.2.cell 7, H9.out.2.2.2.cell 8, H9.out.2.2.2.cell 9, H9.out.1.cell 0, H9.out.1.cell 1, H9.out.1.cell 2, H9.out.1.cell 3, H9.out.1.cell 4, H9.out.1.cell 5, H9.out.1.cell 6, H9.out.1.cell 7, H9.out.1.cell 8, H9.out.1.cell 9, H9.out.2.1.cell 0, H9.out.2.1.cell 1, H9.out.2.1.cell 2, H9.out.2.1.cell 3, H9.out.2.1.cell 4, H9.out.2.1.cell 5, H9.out.2.1.cell 6, H9.out.2.1.cell 7, H9.out.2.1.cell 8, H9.out.2.1.cell 9⟩; clear r9 g9 b9) | (go_at_call 10; refine (same_lim k mn mx sp sl R 0 av ws a9 ay c9 cy L.length _ HLN.out).mono ?_; rintro e w10 ⟨rfl, b10⟩; have H10 : Hid (boxB w10 b3 #[.int .i64 k, .int .i64 mn, .int .i64 mx, .int .i64 sp, .int .i64 sl, .int .i64 li, .int .i64 gd, .int .i64 av, .int .i64 ws, .slice aL L.length cL] ∧ boxB w10 b6 #[.int .i64 k, .int .i64 mn, .int .i64 mx, .int .i64 sp, .int .i64 sl, .int .i64 R, .int .i64 0, .int .i64 av, .int .i64 ws, .slice ay L.length cy] ∧ Below W.heap.size W w10 ∧ boxB w10 b7 #[.int .i64 k, .int .i64 mn, .int .i64 mx, .int .i64 sp, .int .i64 sl, .int .i64 zi, .int .i64 zg, .int .i64 za, .int .i64 sp, .slice az PZ.length cz]) := after_same H9.out b10; have K10 : Hid (w10.cell? ⟨b7, 0, none⟩ = some (.int .i64 k) ∧ w10.cell? ⟨b7, 1, none⟩ = some (.int .i64 mn) ∧ w10.cell? ⟨b7, 2, none⟩ = some (.int .i64 mx) ∧ w10.cell? ⟨b7, 3, none⟩ = some (.int .i64 sp) ∧ w10.cell? ⟨b7, 4, none⟩ = some (.int .i64 sl) ∧ w10.cell? ⟨b7, 5, none⟩ = some (.int .i64 zi) ∧ w10.cell? ⟨b7, 6, none⟩ = some (.int .i64 zg) ∧ w10.cell? ⟨b7, 7, none⟩ = some (.int .i64 za) ∧ w10.cell? ⟨b7, 8, none⟩ = some (.int .i64 sp) ∧ w10.cell? ⟨b7, 9, none⟩ = some (.slice az PZ.length cz) ∧ w10.cell? ⟨b3, 0, none⟩ = some (.int .i64 k) ∧ w10.cell? ⟨b3, 1, none⟩ = some (.int .i64 mn) ∧ w10.cell? ⟨b3, 2, none⟩ = some (.int .i64 mx) ∧ w10.cell? ⟨b3, 3, none⟩ = some (.int .i64 sp) ∧ w10.cell? ⟨b3, 4, none⟩ = some (.int .i64 sl) ∧ w10.cell? ⟨b3, 5, none⟩ = some (.int .i64 li) ∧ w10.cell? ⟨b3, 6, none⟩ = some (.int .i64 gd) ∧ w10.cell? ⟨b3, 7, none⟩ = some (.int .i64 av) ∧ w10.cell? ⟨b3, 8, none⟩ = some (.int .i64 ws) ∧ w10.cell? ⟨b3, 9, none⟩ = some (.slice aL L.length cL) ∧ w10.cell? ⟨b6, 0, none⟩ = some (.int .i64 k) ∧ w10.cell? ⟨b6, 1, none⟩ = some (.int .i64 mn) ∧ w10.cell? ⟨b6, 2, none⟩ = some (.int .i64 mx) ∧ w10.cell? ⟨b6, 3, none⟩ = some (.int .i64 sp) ∧ w10.cell? ⟨b6, 4, none⟩ = some (.int .i64 sl) ∧ w10.cell? ⟨b6, 5, none⟩ = some (.int .i64 R) ∧ w10.cell? ⟨b6, 6, none⟩ = some (.int .i64 0) ∧ w10.cell? ⟨b6, 7, none⟩ = some (.int .i64 av) ∧ w10.cell? ⟨b6, 8, none⟩ = some (.int .i64 ws) ∧ w10.cell? ⟨b6, 9, none⟩ = some (.slice ay L.length cy)) := ⟨H10.out.2.2.2.cell 0, H10.out.2.2.2.cell 1, H10.out.2.2.2.cell 2, H10.out.2.2.2.cell 3, H10.out.2.2.2.cell 4, H10.out.2.2.2.cell 5, H10.out.2.2.2.cell 6, H10.out.2.2.2.cell 7, H10.out.2.2.2.cell 8, H10.out.2.2.2.cell 9, H10.out.1.cell 0, H10.out.1.cell 1, H10.out.1.cell 2, H10.out.1.cell 3, H10.out.1.cell 4, H10.out.1.cell 5, H10.out.1.cell 6, H10.out.1.cell 7, H10.out.1.cell 8, H10.out.1.cell 9, H10.out.2.1.cell 0, H10.out.2.1.cell 1, H10.out.2.1.cell 2, H10.out.2.1.cell 3, H10.out.2.1.cell 4, H10.out.2.1.cell 5, H10.out.2.1.cell 6, H10.out.2.1.cell 7, H10.out.2.1.cell 8, H10.out.2.1.cell 9⟩; clear b10)))
      all_goals
        go_wp2
        go_ret
        exact ⟨rfl, H10.out.2.2.1⟩

theorem walk (W : World) (a : Option Addr) (len cap : Nat) (zs : List Int) (h : IsRow .u8 W a len cap zs) :
    Calls Try.prog 3 #[.slice a len cap] W fun e w' => e = .returned (.bool true) ∧ Below W.heap.size W w' := by
  have hm := row_len h
  by_cases hl : (len : Int) ≤ 1048576
  · exact walk_in a len cap W hl (code_of h)
  · clear h
    have hl2 : (1048576 : Int) < (len : Int) := by omega
    go_enter Try.func3, Try.ntmps3
    go_wp2
    go_ret
    exact ⟨rfl, Below.refl _ _⟩

theorem own : ownKnob Try.prog.godebug = none := by kernel_rfl
theorem laidOut : laidOutB Try.prog = true := by kernel_rfl

set_option maxRecDepth 100000 in
theorem lifted (os : Os) (started : os.Started) (H : Type) (enc : TypeId × Value → H) :
    ReturnsInHanded {} Try.checked os 3 .any (Rows.fnLimitSpec.pre6 enc Try.prog Try.f3 Rows.fnLimitRow.domain false) (Rows.fnLimitSpec.post enc Try.prog Try.f3 false true false false) := by
  refine returnsInHanded_of_change (C := Try.checked) own started (by kernel_rfl) Try.func3
    (ChangeSpec.witness6 (enc := enc) (C := Try.checked) false ⟨#[], #[.slice none 0 0], []⟩ 8 (by kernel_rfl) (by kernel_rfl) (by kernel_rfl) (by kernel_rfl)) ?_
  intro W base args ds gs before hval0 hW hcnd _
  have hval : ∀ (j : Nat) t v, Try.f3.params[j]? = some t → args[j]? = some v → Value.okWide Try.prog W .any base t v := hval0
  have hW' := hW
  obtain ⟨p, q, hA0, hV, rfl, hfz, hnd⟩ := hW
  have hA : DataW.TrodAll enc Try.prog W 0 (fun _ => true) true Try.f3.params.toList args.toList ds p := hA0
  rw [Try.params3] at hA hval
  obtain ⟨v0, vs0, d0, ds0, p0, q0, hargs, rfl, rfl, h0, r0⟩ := trodAll_cons hA
  obtain ⟨rfl, rfl, rfl⟩ := trodAll_nil r0
  obtain rfl : args = #[v0] := by cases args; simp_all
  obtain ⟨rfl, rfl⟩ := trodVars_none hV
  obtain ⟨a0, len0, cap0, rfl⟩ := okWide_slice Try.underlying22 (hval 0 22 v0 rfl rfl)
  have k0 := h0
  have lt0 : ∀ x ∈ p0, x.block < W.heap.size := by obtain ⟨m, hm⟩ := k0; exact DataW.trod_lt m _ _ _ hm
  obtain ⟨z0, w0⟩ : ∃ zs, IsRow .u8 W a0 len0 cap0 zs := by
    obtain ⟨fuel, hf⟩ := h0
    rcases open_ints Try.underlying22 Try.underlying5 (by kernel_rfl) hf with ⟨hcs, _⟩ | ⟨x, l, c, zs, hcs, _, hl, hm, hz, _, hcell, hwz⟩
    · simp [Value.cells] at hcs
      obtain ⟨rfl, rfl, rfl⟩ := hcs
      exact ⟨[], .inl ⟨rfl, rfl, rfl, rfl⟩⟩
    · simp [Value.cells] at hcs
      obtain ⟨rfl, rfl, rfl⟩ := hcs
      exact ⟨zs, .inr ⟨_, rfl, hl, hm, by simpa using hz, hcell, hwz⟩⟩
  clear hA0 hval0
  refine (walk W a0 len0 cap0 z0 w0).mono fun e W' ⟨he, hb⟩ => ?_
  subst he
  exact ⟨_, rfl, _, _, _, [], _, [], hW', trodAll_cons_mk (shut_bool Try.underlying4 _) trodAll_mk0, (trodAll_cons_mk (Below.trod laidOut (by kernel_rfl) (of_decide_eq_true (by kernel_rfl)) k0 hb lt0) trodAll_mk0), rfl, hb.frame _, fun h => by cases h⟩

theorem over : Rows.fnLimitRow.holds Try.pinned (OpenSpec.ofChange Rows.fnLimitSpec) :=
  OpenClaim.holds_of_wide 3 Try.f3 rfl rfl rfl rfl rfl rfl rfl ⟨rfl, rfl, rfl, rfl, rfl⟩ rfl rfl rfl rfl rfl (by kernel_rfl) Try.func3 (by kernel_rfl)
    (of_decide_eq_true (by kernel_rfl)) (by unfold Func.isWrapper; first | (rw [if_pos (by decide +kernel)]; kernel_rfl) | (rw [if_neg (by decide +kernel)]; exact ⟨rfl, rfl⟩))
    (fun os started H enc _ => lifted os started H enc)

theorem proved : Rows.FnLimitSaid :=
  over
end Go.Proofs.Ytbdkepnjhcdpnaa.fnLimit
