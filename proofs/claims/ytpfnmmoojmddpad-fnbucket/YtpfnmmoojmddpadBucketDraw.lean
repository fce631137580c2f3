/- What the law's drawing of a bucket does: at every list of at most 2 to the 20 bytes it gives a right bucket, and nothing else turns. -/
import Derived.Test.YtpfnmmoojmddpadRows
import Derived.Test.YtpfnmmoojmddpadDrawWalks
import Derived.Test.YtpfnmmoojmddpadCodeArg
import Derived.Test.YtpfnmmoojmddpadBucketMath
import Derived.WalkKit
import Derived.WalkSmall
import Derived.BigQuiet
import Derived.Deep.RegionWith
import Derived.Deep.DeepCutAuto
import Derived.Deep.DrawnRows
namespace Go.Proofs.Ytpfnmmoojmddpad.BucketDraw
open Go.RowKit CodeArg BucketMath
open DrawWalks (Cur CodeOk Drawn new_any below_any)

theorem cell_blk {w : World} {g : Nat} {cur : Array Value} {t : TypeId} (h : w.heap[g]? = some (.cells cur t (0, 0))) (i : Nat) : w.cell? ⟨g, i, none⟩ = cur[i]? := by simp [World.cell?, h]
theorem fz_blk {w : World} {g : Nat} {cur : Array Value} {t : TypeId} (h : w.heap[g]? = some (.cells cur t (0, 0))) (i : Nat) : w.frozen? ⟨g, i, none⟩ = false := by simp [World.frozen?, h]

theorem past1 {w : World} {g : Nat} {o q : Obj} (h : w.heap[g]? = some o) : (w.alloc q).heap[g]? = some o := (Below.heap_alloc _ _ _ (Array.getElem?_eq_some_iff.1 h).1).trans h
theorem cell_past {w : World} {p i : Nat} {v : Value} {o : Obj} (h : w.cell? ⟨p, i, none⟩ = some v) : (w.alloc o).cell? ⟨p, i, none⟩ = some v := by
  rw [World.cell?_alloc_past _ _ _ (World.block_lt_of_cell? w _ h)]
  exact h

attribute [local go_sem ↓] Go.wp_at_zero Go.wp_at_succ

/-- The bytes, seen from the cursor's block, in a later world. -/
theorem code_from {w w' : World} {a : Option Addr} {n g : Nat} (h : CodeOk w w.heap.size a n) (hb : Below w.heap.size w w') (hg : w.heap.size ≤ g) : CodeOk w' g a n := by
  rcases h with h | ⟨b, o, ha, hne, hB⟩
  · exact Or.inl h
  · by_cases hz : n = 0
    · exact Or.inl hz
    · obtain ⟨x, _, _, hc⟩ := hB 0 (by omega)
      have hlt : b < w.heap.size := World.block_lt_of_cell? w _ hc
      exact Or.inr ⟨b, o, ha, by omega, hB.same (hb.block b hlt)⟩

/-- A cursor at g that can be drawn from. -/
def Ready (w W : World) (g : Nat) (a : Option Addr) (n cap : Nat) : Prop := w.heap.size ≤ g ∧ (n : Int) ≤ 1048576 ∧ CodeOk w w.heap.size a n ∧ (∃ i h : Int, 0 ≤ i ∧ i ≤ n ∧ Cur W g (.slice a n cap) i h) ∧ Below w.heap.size w W

theorem Ready.alloc {w W : World} {g : Nat} {a : Option Addr} {n cap : Nat} (h : Ready w W g a n cap) (o : Obj) : Ready w (W.alloc o) g a n cap := by
  obtain ⟨h0, hn, h1, ⟨i, k, h2, h3, h4⟩, h5⟩ := h
  exact ⟨h0, hn, h1, ⟨i, k, h2, h3, (Below.heap_alloc _ _ _ h4.lt).trans h4⟩, h5.alloc h5.size _⟩
theorem Ready.drew {w W : World} {g : Nat} {a : Option Addr} {n cap : Nat} (h : Ready w W g a n cap) : Ready w W.drew g a n cap := by
  obtain ⟨h0, hn, h1, h2, h5⟩ := h
  exact ⟨h0, hn, h1, h2, h5.drew⟩

theorem Ready.grown {w W W2 : World} {g : Nat} {a : Option Addr} {n cap : Nat} {i k : Int} (h : Ready w W g a n cap) (hg : W.grownBy W2 (some g)) (h2 : 0 ≤ i) (h3 : i ≤ n) (h4 : Cur W2 g (.slice a n cap) i k) : Ready w W2 g a n cap := by
  obtain ⟨h0, hn, h1, _, h5⟩ := h
  exact ⟨h0, hn, h1, ⟨i, k, h2, h3, h4⟩, h5.grown hg h5.size (fun k hk => by injection hk with hk; omega)⟩

theorem draw (w W : World) (g : Nat) (a : Option Addr) (n cap : Nat) (m : Int) (h : Ready w W g a n cap) (hm0 : 0 < m) (hm1 : m ≤ 256) :
    Calls Try.prog 20 #[.pointer (some ⟨g, 0, none⟩), .int .i64 m] W fun e w' => ∃ y : Int, e = .returned (.int .i64 y) ∧ 0 ≤ y ∧ y < m ∧ Ready w w' g a n cap ∧ W.grownBy w' (some g) := by
  have hh := h
  obtain ⟨h0, hn, h1, ⟨i, k, h2, h3, h4⟩, h5⟩ := h
  exact (below_small g n i k m a cap W h2 h3 hn hm0 hm1 h4 (code_from h1 h5 h0)).mono fun e w' ⟨y, he, ya, yb, i2, k2, ia, ib, c2, g2⟩ => ⟨y, he, ya, yb, hh.grown g2 ia ib c2, g2⟩

theorem draw_last (w W : World) (g : Nat) (a : Option Addr) (n cap : Nat) (m : Int) (h : Ready w W g a n cap) (hm0 : 0 < m) (hm1 : m ≤ 1000000000000) :
    Calls Try.prog 20 #[.pointer (some ⟨g, 0, none⟩), .int .i64 m] W fun e w' => ∃ y : Int, e = .returned (.int .i64 y) ∧ 0 ≤ y ∧ y < m ∧ W.grownBy w' (some g) := by
  by_cases hm : m ≤ 256
  · exact (draw w W g a n cap m h hm0 hm).mono fun e w' ⟨y, he, ya, yb, _, g2⟩ => ⟨y, he, ya, yb, g2⟩
  · obtain ⟨h0, hn, h1, ⟨i, k, h2, h3, h4⟩, h5⟩ := h
    exact below_any g n i k m a cap W h2 h3 hn (by omega) hm1 h4 (code_from h1 h5 h0)

theorem Ready.lt {w W : World} {g : Nat} {a : Option Addr} {n cap : Nat} (h : Ready w W g a n cap) : g < W.heap.size := by
  obtain ⟨_, _, _, ⟨i, k, _, _, h4⟩, _⟩ := h
  exact h4.lt

section
variable {w X w9 : World} {g n cap : Nat} {a : Option Addr} {O1 O2 : Obj}
theorem newA (rd : Ready w X g a n cap) (gr : (X.alloc O1).grownBy w9 (some g)) : w9.heap[X.heap.size]? = some O1 := by
  have := rd.lt
  rw [gr.block _ (by simp) (by simp; omega)]
  exact heap_alloc_new X _
theorem newB (rd : Ready w X g a n cap) (gr : ((X.alloc O1).alloc O2).grownBy w9 (some g)) : w9.heap[X.heap.size]? = some O1 := by
  have := rd.lt
  rw [gr.block _ (by simp; omega) (by simp; omega), Below.heap_alloc _ _ _ (by simp)]
  exact heap_alloc_new X _
theorem newC (rd : Ready w X g a n cap) (gr : ((X.alloc O1).alloc O2).grownBy w9 (some g)) : w9.heap[X.heap.size + 1]? = some O2 := by
  have := rd.lt
  rw [gr.block _ (by simp) (by simp; omega)]
  have h := heap_alloc_new (X.alloc O1) O2
  simpa using h
theorem oldD {tb : Nat} {O : Obj} (tab : X.heap[tb]? = some O) (hne : tb ≠ g) (gr : X.grownBy w9 (some g)) : w9.heap[tb]? = some O := by
  rw [gr.block _ (Array.getElem?_eq_some_iff.1 tab).1 (by simp; omega)]
  exact tab
theorem oldF {tb : Nat} {O : Obj} (tab : X.heap[tb]? = some O) (hne : tb ≠ g) (gr : ((X.alloc O1).alloc O2).grownBy w9 (some g)) : w9.heap[tb]? = some O := by
  have hlt := (Array.getElem?_eq_some_iff.1 tab).1
  rw [gr.block _ (by simp; omega) (by simp; omega), Below.heap_alloc _ _ _ (by simp; omega), Below.heap_alloc _ _ _ hlt]
  exact tab
theorem oldE {tb : Nat} {O : Obj} (tab : X.heap[tb]? = some O) (hne : tb ≠ g) (gr : (X.alloc O1).grownBy w9 (some g)) : w9.heap[tb]? = some O := by
  have hlt := (Array.getElem?_eq_some_iff.1 tab).1
  rw [gr.block _ (by simp; omega) (by simp; omega), Below.heap_alloc _ _ _ hlt]
  exact tab
end

theorem undrew {W w9 : World} {r : Option Nat} (h : W.drew.grownBy w9 r) : W.grownBy w9 r := ⟨h.os, h.tape, h.output, h.size, h.block⟩

theorem store4 {W : World} {b : Nat} {v0 v1 v2 v3 x0 x1 x2 x3 : Value} {t : TypeId} (h : W.heap[b]? = some (.cells #[v0, v1, v2, v3] t (0, 0))) : ((((W.setCell ⟨b, 0, none⟩ x0).setCell ⟨b, 1, none⟩ x1).setCell ⟨b, 2, none⟩ x2).setCell ⟨b, 3, none⟩ x3).heap[b]? = some (.cells #[x0, x1, x2, x3] t (0, 0)) := by
  have := DrawWalks.heap_setCell_at (DrawWalks.heap_setCell_at (DrawWalks.heap_setCell_at (DrawWalks.heap_setCell_at h 0 x0) 1 x1) 2 x2) 3 x3
  simpa using this
theorem else4 {W : World} {b k : Nat} {O : Obj} {x0 x1 x2 x3 : Value} (h : W.heap[k]? = some O) (hne : k ≠ b) : ((((W.setCell ⟨b, 0, none⟩ x0).setCell ⟨b, 1, none⟩ x1).setCell ⟨b, 2, none⟩ x2).setCell ⟨b, 3, none⟩ x3).heap[k]? = some O := by
  rw [Below.heap_setCell _ _ _ _ hne, Below.heap_setCell _ _ _ _ hne, Below.heap_setCell _ _ _ _ hne, Below.heap_setCell _ _ _ _ hne]
  exact h
theorem Ready.set4 {w W : World} {g b : Nat} {a : Option Addr} {n cap : Nat} {x0 x1 x2 x3 : Value} (h : Ready w W g a n cap) (hne : g ≠ b) (hb : w.heap.size ≤ b) : Ready w ((((W.setCell ⟨b, 0, none⟩ x0).setCell ⟨b, 1, none⟩ x1).setCell ⟨b, 2, none⟩ x2).setCell ⟨b, 3, none⟩ x3) g a n cap := by
  obtain ⟨h0, hn, h1, ⟨i, k, h2, h3, h4⟩, h5⟩ := h
  exact ⟨h0, hn, h1, ⟨i, k, h2, h3, else4 h4 hne⟩, (((h5.setCell hb _).setCell hb _).setCell hb _).setCell hb _⟩

def Bd (y1 r y3 : Int) : Prop := 0 ≤ y1 ∧ y1 < 5 ∧ 0 ≤ r ∧ r ≤ 2000 ∧ 0 ≤ y3 ∧ y3 < 200

/-- The table of rates. -/
theorem tabget (y : Int) (h0 : 0 ≤ y) (h1 : y < 5) : ∃ r : Int, 0 ≤ r ∧ r ≤ 2000 ∧ (#[Value.int .i64 0, .int .i64 1, .int .i64 3, .int .i64 50, .int .i64 2000] : Array Value)[y.toNat]? = some (.int .i64 r) := by
  have : y = 0 ∨ y = 1 ∨ y = 2 ∨ y = 3 ∨ y = 4 := by omega
  rcases this with rfl | rfl | rfl | rfl | rfl
  · exact ⟨0, by omega, by omega, rfl⟩
  · exact ⟨1, by omega, by omega, rfl⟩
  · exact ⟨3, by omega, by omega, rfl⟩
  · exact ⟨50, by omega, by omega, rfl⟩
  · exact ⟨2000, by omega, by omega, rfl⟩

theorem tab_past {W : World} {y r : Int} {t : TypeId} (h : (#[Value.int .i64 0, .int .i64 1, .int .i64 3, .int .i64 50, .int .i64 2000] : Array Value)[y.toNat]? = some (.int .i64 r)) :
    (W.alloc (.cells #[.int .i64 0, .int .i64 1, .int .i64 3, .int .i64 50, .int .i64 2000] t)).cell? ⟨W.heap.size, y.toNat, none⟩ = some (.int .i64 r) := by
  rw [cell_blk (heap_alloc_new W _)]
  exact h

theorem tab_past2 {W : World} {y r : Int} {t : TypeId} {O : Obj} (h : (#[Value.int .i64 0, .int .i64 1, .int .i64 3, .int .i64 50, .int .i64 2000] : Array Value)[y.toNat]? = some (.int .i64 r)) :
    ((W.alloc O).alloc (.cells #[.int .i64 0, .int .i64 1, .int .i64 3, .int .i64 50, .int .i64 2000] t)).cell? ⟨W.heap.size + 1, y.toNat, none⟩ = some (.int .i64 r) := by
  have := tab_past (W := W.alloc O) (t := t) h
  simpa using this

theorem tab_list {y r : Int} (h : (#[Value.int .i64 0, .int .i64 1, .int .i64 3, .int .i64 50, .int .i64 2000] : Array Value)[y.toNat]? = some (.int .i64 r)) : ∀ h2 : y.toNat < [Value.int .i64 0, .int .i64 1, .int .i64 3, .int .i64 50, .int .i64 2000].length, [Value.int .i64 0, .int .i64 1, .int .i64 3, .int .i64 50, .int .i64 2000][y.toNat]'h2 = .int .i64 r := by
  intro h2
  have h3 : [Value.int .i64 0, .int .i64 1, .int .i64 3, .int .i64 50, .int .i64 2000][y.toNat]? = some (.int .i64 r) := by simpa using h
  rw [List.getElem?_eq_getElem h2] at h3
  exact Option.some.inj h3

/-- What lies behind the literal, whatever the order of its parts. -/
def Made (w : World) (a : Option Addr) (n cap : Nat) (v : Value) (wx : World) : Prop := ∃ (BX : Nat) (A R C : Int), v = .pointer (some ⟨BX, 0, none⟩) ∧ wx.heap[BX]? = some (.cells #[.int .i64 A, .int .i64 R, .int .i64 0, .int .i64 C] 39 (0, 0)) ∧ wx.heap[w.heap.size]? = some (Obj.cells #[.int .i64 0, .int .i64 0, .int .i64 0, .int .i64 0] 39 (0, 0)) ∧ Ready w wx (w.heap.size + 1) a n cap ∧ (BX ≠ w.heap.size + 1 ∧ w.heap.size < BX) ∧ Bd A R C

theorem made {w wx : World} {a : Option Addr} {n cap BX : Nat} {A R C : Int} (h1 : wx.heap[BX]? = some (.cells #[.int .i64 A, .int .i64 R, .int .i64 0, .int .i64 C] 39 (0, 0))) (h2 : wx.heap[w.heap.size]? = some (Obj.cells #[.int .i64 0, .int .i64 0, .int .i64 0, .int .i64 0] 39 (0, 0))) (h3 : Ready w wx (w.heap.size + 1) a n cap) (h4 : BX ≠ w.heap.size + 1 ∧ w.heap.size < BX) (h5 : Bd A R C) : Made w a n cap (.pointer (some ⟨BX, 0, none⟩)) wx := ⟨BX, A, R, C, rfl, h1, h2, h3, h4, h5⟩

section
variable {w W : World} {a : Option Addr} {n cap : Nat} {A R C : Int} {O : Obj}
theorem madeA (rd : Ready w W (w.heap.size + 1) a n cap) (rb : W.heap[w.heap.size]? = some (Obj.cells #[.int .i64 0, .int .i64 0, .int .i64 0, .int .i64 0] 39 (0, 0))) (bd : Bd A R C) : Made w a n cap (.pointer (some ⟨W.heap.size, 0, none⟩)) (W.alloc (.cells #[.int .i64 A, .int .i64 R, .int .i64 0, .int .i64 C] 39)) := by
  have := rd.lt
  exact made (heap_alloc_new _ _) (past1 rb) (rd.alloc _) (by omega) bd
theorem madeB (rd : Ready w W (w.heap.size + 1) a n cap) (rb : W.heap[w.heap.size]? = some (Obj.cells #[.int .i64 0, .int .i64 0, .int .i64 0, .int .i64 0] 39 (0, 0))) (bd : Bd A R C) : Made w a n cap (.pointer (some ⟨W.heap.size + 1, 0, none⟩)) ((W.alloc O).alloc (.cells #[.int .i64 A, .int .i64 R, .int .i64 0, .int .i64 C] 39)) := by
  have := rd.lt
  have h := heap_alloc_new (W.alloc O) (.cells #[.int .i64 A, .int .i64 R, .int .i64 0, .int .i64 C] 39)
  exact made (by simpa using h) (past1 (past1 rb)) ((rd.alloc _).alloc _) (by omega) bd
theorem madeC (rd : Ready w W (w.heap.size + 1) a n cap) (rb : W.heap[w.heap.size]? = some (Obj.cells #[.int .i64 0, .int .i64 0, .int .i64 0, .int .i64 0] 39 (0, 0))) (bd : Bd A R C) : Made w a n cap (.pointer (some ⟨W.heap.size, 0, none⟩)) ((W.alloc (.cells #[.int .i64 A, .int .i64 R, .int .i64 0, .int .i64 C] 39)).alloc O) := by
  have := rd.lt
  exact made (past1 (heap_alloc_new _ _)) (past1 (past1 rb)) ((rd.alloc _).alloc _) (by omega) bd
theorem madeD {b : Nat} (bx : W.heap[b]? = some (Obj.cells #[.int .i64 0, .int .i64 0, .int .i64 0, .int .i64 0] 39 (0, 0))) (hb : w.heap.size + 1 < b) (rd : Ready w W (w.heap.size + 1) a n cap) (rb : W.heap[w.heap.size]? = some (Obj.cells #[.int .i64 0, .int .i64 0, .int .i64 0, .int .i64 0] 39 (0, 0))) (bd : Bd A R C) : Made w a n cap (.pointer (some ⟨b, 0, none⟩)) ((((W.setCell ⟨b, 0, none⟩ (.int .i64 A)).setCell ⟨b, 1, none⟩ (.int .i64 R)).setCell ⟨b, 2, none⟩ (.int .i64 0)).setCell ⟨b, 3, none⟩ (.int .i64 C)) :=
  made (store4 bx) (else4 rb (by omega)) (rd.set4 (by omega) (by omega)) (by omega) bd
theorem madeE {b : Nat} (bx : W.heap[b]? = some (Obj.cells #[.int .i64 0, .int .i64 0, .int .i64 0, .int .i64 0] 39 (0, 0))) (hb : w.heap.size + 1 < b) (rd : Ready w W (w.heap.size + 1) a n cap) (rb : W.heap[w.heap.size]? = some (Obj.cells #[.int .i64 0, .int .i64 0, .int .i64 0, .int .i64 0] 39 (0, 0))) (bd : Bd A R C) : Made w a n cap (.pointer (some ⟨b, 0, none⟩)) (((((W.alloc O).setCell ⟨b, 0, none⟩ (.int .i64 A)).setCell ⟨b, 1, none⟩ (.int .i64 R)).setCell ⟨b, 2, none⟩ (.int .i64 0)).setCell ⟨b, 3, none⟩ (.int .i64 C)) :=
  madeD (past1 bx) hb (rd.alloc _) (past1 rb) bd
end

set_option maxHeartbeats 40000000 in
theorem make_bucket (n : Nat) (a : Option Addr) (cap : Nat) (w : World) (hn : (n : Int) ≤ 1048576) (hok : CodeOk w w.heap.size a n) :
    Calls Try.prog 14 #[.slice a n cap] w fun e w' => ∃ b r h t : Int, e = .returned (.agg #[.int .i64 b, .int .i64 r, .int .i64 h, .int .i64 t]) ∧ bOk b r h t ∧ b ≤ 4 ∧ r ≤ 2000 ∧ t ≤ 199 ∧ Below w.heap.size w w' := by
  have hW : Below w.heap.size w (w.alloc (.cells #[.int .i64 0, .int .i64 0, .int .i64 0, .int .i64 0] 39)) := (Below.refl _ _).alloc (Nat.le_refl _) _
  have HO : Hid (CodeOk w w.heap.size a n) := hok
  have hok1 := code_below hok hW
  clear hok
  go_enter Try.func14, Try.ntmps14
  go_upto_region 2 with (go_at_call 19; refine (new_any n a cap _ hn hok1).mono ?_; rintro e w1 ⟨h, rfl, h0, h1, rfl⟩)
  have R0 : Ready w ((w.alloc (.cells #[.int .i64 0, .int .i64 0, .int .i64 0, .int .i64 0] 39)).alloc (.cells #[.slice a n cap, .int .i64 0, .int .i64 h] 51)) (w.heap.size + 1) a n cap := by
    refine ⟨by omega, hn, HO.out, ⟨0, h, by omega, by omega, ?_⟩, hW.alloc hW.size _⟩
    have := heap_alloc_new (w.alloc (.cells #[.int .i64 0, .int .i64 0, .int .i64 0, .int .i64 0] 39)) (.cells #[.slice a n cap, .int .i64 0, .int .i64 h] 51)
    simpa [Cur] using this
  have rb0 : ((w.alloc (.cells #[.int .i64 0, .int .i64 0, .int .i64 0, .int .i64 0] 39)).alloc (.cells #[.slice a n cap, .int .i64 0, .int .i64 h] 51)).heap[w.heap.size]? = some (Obj.cells #[.int .i64 0, .int .i64 0, .int .i64 0, .int .i64 0] 39 (0, 0)) := past1 (heap_alloc_new w _)
  go_cut [4] (fun v wx => Made w a n cap v wx)
  case first =>
    have rdy := R0
    have rb := rb0
    clear R0 rb0 hok1 hW h0 h1 HO
    generalize ((w.alloc (.cells #[.int .i64 0, .int .i64 0, .int .i64 0, .int .i64 0] 39)).alloc (.cells #[.slice a n cap, .int .i64 0, .int .i64 h] 51)) = W0 at *
    go_region_with (first | (go_at_call_of 20 (Value.int IntKind.i64 200); (refine (draw w _ (w.heap.size + 1) a n cap 200 (by first | exact rdy | exact rdy.alloc _ | exact (rdy.alloc _).alloc _ | exact rdy.drew | exact (rdy.alloc _).drew | exact ((rdy.alloc _).alloc _).drew) (by omega) (by omega)).mono ?_; rintro e w9 ⟨y, rfl, ya, yb, rdy2, gr⟩; have hlt := rdy.lt; (first | have gr := undrew gr | skip); (first | (have tab : w9.heap[_]? = some (Obj.cells #[.int .i64 0, .int .i64 1, .int .i64 3, .int .i64 50, .int .i64 2000] 3 (0, 0)) := newA rdy gr) | (have tab : w9.heap[_]? = some (Obj.cells #[.int .i64 0, .int .i64 1, .int .i64 3, .int .i64 50, .int .i64 2000] 3 (0, 0)) := newB rdy gr) | (have tab : w9.heap[_]? = some (Obj.cells #[.int .i64 0, .int .i64 1, .int .i64 3, .int .i64 50, .int .i64 2000] 3 (0, 0)) := newC rdy gr) | (have tab : w9.heap[_]? = some (Obj.cells #[.int .i64 0, .int .i64 1, .int .i64 3, .int .i64 50, .int .i64 2000] 3 (0, 0)) := oldD tab (by omega) gr) | (have tab : w9.heap[_]? = some (Obj.cells #[.int .i64 0, .int .i64 1, .int .i64 3, .int .i64 50, .int .i64 2000] 3 (0, 0)) := oldE tab (by omega) gr) | skip); (first | (have bx : w9.heap[_]? = some (Obj.cells #[.int .i64 0, .int .i64 0, .int .i64 0, .int .i64 0] 39 (0, 0)) := newA rdy gr) | (have bx : w9.heap[_]? = some (Obj.cells #[.int .i64 0, .int .i64 0, .int .i64 0, .int .i64 0] 39 (0, 0)) := newB rdy gr) | (have bx : w9.heap[_]? = some (Obj.cells #[.int .i64 0, .int .i64 0, .int .i64 0, .int .i64 0] 39 (0, 0)) := newC rdy gr) | (have bx : w9.heap[_]? = some (Obj.cells #[.int .i64 0, .int .i64 0, .int .i64 0, .int .i64 0] 39 (0, 0)) := oldD bx (by omega) gr) | (have bx : w9.heap[_]? = some (Obj.cells #[.int .i64 0, .int .i64 0, .int .i64 0, .int .i64 0] 39 (0, 0)) := oldE bx (by omega) gr) | skip); (first | (have rb := oldD rb (by omega) gr) | (have rb := oldE rb (by omega) gr) | (have rb := oldF rb (by omega) gr)); (first | (have tc := (cell_blk tab _).trans hidx; have tcs := fun O => cell_past (o := O) tc) | skip); (first | (have x0 := cell_blk bx 0; have x1 := cell_blk bx 1; have x2 := cell_blk bx 2; have x3 := cell_blk bx 3; have f0 := fz_blk bx 0; have f1 := fz_blk bx 1; have f2 := fz_blk bx 2; have f3 := fz_blk bx 3; have bxs := fun O => past1 (q := O) bx; have y0 := fun O => cell_blk (bxs O) 0; have y1 := fun O => cell_blk (bxs O) 1; have y2 := fun O => cell_blk (bxs O) 2; have y3 := fun O => cell_blk (bxs O) 3; have g0 := fun O => fz_blk (bxs O) 0; have g1 := fun O => fz_blk (bxs O) 1; have g2 := fun O => fz_blk (bxs O) 2; have g3 := fun O => fz_blk (bxs O) 3; clear bxs) | skip); clear rdy; have rdy := rdy2; clear rdy2)) | (go_at_call 20; (refine (draw w _ (w.heap.size + 1) a n cap 5 (by first | exact rdy | exact rdy.alloc _ | exact (rdy.alloc _).alloc _ | exact rdy.drew | exact (rdy.alloc _).drew | exact ((rdy.alloc _).alloc _).drew) (by omega) (by omega)).mono ?_; rintro e w9 ⟨y, rfl, ya, yb, rdy2, gr⟩; have hlt := rdy.lt; (first | have gr := undrew gr | skip); (first | (have tab : w9.heap[_]? = some (Obj.cells #[.int .i64 0, .int .i64 1, .int .i64 3, .int .i64 50, .int .i64 2000] 3 (0, 0)) := newA rdy gr) | (have tab : w9.heap[_]? = some (Obj.cells #[.int .i64 0, .int .i64 1, .int .i64 3, .int .i64 50, .int .i64 2000] 3 (0, 0)) := newB rdy gr) | (have tab : w9.heap[_]? = some (Obj.cells #[.int .i64 0, .int .i64 1, .int .i64 3, .int .i64 50, .int .i64 2000] 3 (0, 0)) := newC rdy gr) | (have tab : w9.heap[_]? = some (Obj.cells #[.int .i64 0, .int .i64 1, .int .i64 3, .int .i64 50, .int .i64 2000] 3 (0, 0)) := oldD tab (by omega) gr) | (have tab : w9.heap[_]? = some (Obj.cells #[.int .i64 0, .int .i64 1, .int .i64 3, .int .i64 50, .int .i64 2000] 3 (0, 0)) := oldE tab (by omega) gr) | skip); (first | (have bx : w9.heap[_]? = some (Obj.cells #[.int .i64 0, .int .i64 0, .int .i64 0, .int .i64 0] 39 (0, 0)) := newA rdy gr) | (have bx : w9.heap[_]? = some (Obj.cells #[.int .i64 0, .int .i64 0, .int .i64 0, .int .i64 0] 39 (0, 0)) := newB rdy gr) | (have bx : w9.heap[_]? = some (Obj.cells #[.int .i64 0, .int .i64 0, .int .i64 0, .int .i64 0] 39 (0, 0)) := newC rdy gr) | (have bx : w9.heap[_]? = some (Obj.cells #[.int .i64 0, .int .i64 0, .int .i64 0, .int .i64 0] 39 (0, 0)) := oldD bx (by omega) gr) | (have bx : w9.heap[_]? = some (Obj.cells #[.int .i64 0, .int .i64 0, .int .i64 0, .int .i64 0] 39 (0, 0)) := oldE bx (by omega) gr) | skip); (first | (have rb := oldD rb (by omega) gr) | (have rb := oldE rb (by omega) gr) | (have rb := oldF rb (by omega) gr)); obtain ⟨r, ra, rc, hidx⟩ := tabget y ya yb; have hcell := fun W t => tab_past (W := W) (t := t) hidx; have hcell2 := fun W t O => cell_past (o := O) (tab_past (W := W) (t := t) hidx); have hcell3 := fun W t O => tab_past2 (W := W) (t := t) (O := O) hidx; have hgl := tab_list hidx; (first | (have tc := (cell_blk tab _).trans hidx; have tcs := fun O => cell_past (o := O) tc) | skip); (first | (have x0 := cell_blk bx 0; have x1 := cell_blk bx 1; have x2 := cell_blk bx 2; have x3 := cell_blk bx 3; have f0 := fz_blk bx 0; have f1 := fz_blk bx 1; have f2 := fz_blk bx 2; have f3 := fz_blk bx 3; have bxs := fun O => past1 (q := O) bx; have y0 := fun O => cell_blk (bxs O) 0; have y1 := fun O => cell_blk (bxs O) 1; have y2 := fun O => cell_blk (bxs O) 2; have y3 := fun O => cell_blk (bxs O) 3; have g0 := fun O => fz_blk (bxs O) 0; have g1 := fun O => fz_blk (bxs O) 1; have g2 := fun O => fz_blk (bxs O) 2; have g3 := fun O => fz_blk (bxs O) 3; clear bxs) | skip); clear rdy; have rdy := rdy2; clear rdy2)))
    all_goals
      go_wp2_with fail
      have hltz := rdy.lt
      go_meet
      first
        | with_reducible refine madeA rdy rb ?_
        | with_reducible refine madeB rdy rb ?_
        | with_reducible refine madeC rdy rb ?_
        | with_reducible refine madeD bx (by omega) rdy rb ?_
        | with_reducible refine madeE bx (by omega) rdy rb ?_
      unfold Bd
      refine ⟨?_, ?_, ?_, ?_, ?_, ?_⟩ <;> assumption
  case rest =>
    clear R0 rb0 hok1 hW h0 h1 HO
    obtain ⟨BX, A, R, C, rfl, fb, rbf, rd, ne, bd⟩ := hcut
    unfold Bd at bd
    obtain ⟨b1, b2, b3, b4, b5, b6⟩ := bd
    have c0 := cell_blk fb 0
    have c1 := cell_blk fb 1
    have c2 := cell_blk fb 2
    have c3 := cell_blk fb 3
    have FB : Hid (_) := fb
    have RB : Hid (_) := rbf
    have RD : Hid (Ready w wc (w.heap.size + 1) a n cap) := rd
    have nz := Nat.ne_of_gt ne.2
    have nz2 := nz.symm
    clear fb rbf rd
    go_wp2_with fail
    refine (draw_last w _ _ a n cap _ RD.out (by omega) (by omega)).mono ?_
    rintro e w10 ⟨hh, rfl, ha, hb, gr⟩
    have fb10 := oldD FB.out ne.1 gr
    have rb10 := oldD RB.out (by omega) gr
    have B10 : Hid (Below w.heap.size w w10) := RD.out.2.2.2.2.grown gr RD.out.2.2.2.2.size (fun k hk => by injection hk with hk; omega)
    have d0 := cell_blk fb10 0
    have d1 := cell_blk fb10 1
    have d2 := cell_blk fb10 2
    have d3 := cell_blk fb10 3
    have fd2 := fz_blk fb10 2
    have z0 := cell_blk rb10 0
    have z1 := cell_blk rb10 1
    have z2 := cell_blk rb10 2
    have z3 := cell_blk rb10 3
    have fz0 := fz_blk rb10 0
    have fz1 := fz_blk rb10 1
    have fz2 := fz_blk rb10 2
    have fz3 := fz_blk rb10 3
    clear fb10 rb10 gr
    go_wp2
    refine bodyPost_ret (v := .agg #[.int .i64 A, .int .i64 R, .int .i64 hh, .int .i64 C]) (by simp [results, Try.results14, go_sem, z0, z1, z2, z3]) rfl ⟨A, R, hh, C, rfl, ?_, by omega, by omega, by omega, ?_⟩
    · unfold bOk; omega
    · exact ((((B10.out.setCell (Nat.le_of_lt ne.2) _).setCell (Nat.le_refl _) _).setCell (Nat.le_refl _) _).setCell (Nat.le_refl _) _).setCell (Nat.le_refl _) _
end Go.Proofs.Ytpfnmmoojmddpad.BucketDraw
