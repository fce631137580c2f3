/- What the laws' cursor gives when it is drawn from, in whatever world that has grown: a small number, and nothing else turns but the cursor; no condition but those written in each. -/
import Derived.Test.YtdgkmiknnelddaaRows
import Derived.Test.YtdgkmiknnelddaaDrawWalks
import Derived.Test.YtdgkmiknnelddaaCodeArg
import Derived.WalkKit
import Derived.WalkSmall
import Derived.BigQuiet
namespace Go.Proofs.Ytdgkmiknnelddaa.DrawKit
open Go.RowKit CodeArg
open DrawWalks (Cur CodeOk Drawn new_any below_any)

/-- The bytes, seen from the cursor's block, in a later world. -/
theorem code_from {w w' : World} {a : Option Addr} {n g : Nat} (h : CodeOk w w.heap.size a n) (hb : Below w.heap.size w w') (hg : w.heap.size ≤ g) : CodeOk w' g a n := by
  rcases h with h | ⟨b, o, ha, hne, hB⟩
  · exact Or.inl h
  · by_cases hz : n = 0
    · exact Or.inl hz
    · obtain ⟨x, _, _, hc⟩ := hB 0 (by omega)
      have hlt : b < w.heap.size := World.block_lt_of_cell? w _ hc
      exact Or.inr ⟨b, o, ha, by omega, hB.same (hb.block b hlt)⟩

/-- A cursor at g that can be drawn from. -/
def Ready (w W : World) (g : Nat) (a : Option Addr) (n cap : Nat) : Prop := w.heap.size ≤ g ∧ (n : Int) ≤ 1048576 ∧ CodeOk w w.heap.size a n ∧ (∃ i h : Int, 0 ≤ i ∧ i ≤ n ∧ Cur W g (.slice a n cap) i h) ∧ Below w.heap.size w W

section
variable {w W W2 : World} {g n cap : Nat} {a : Option Addr}

theorem Ready.lt (h : Ready w W g a n cap) : g < W.heap.size := by
  obtain ⟨_, _, _, ⟨i, k, _, _, h4⟩, _⟩ := h
  exact h4.lt
theorem Ready.low (h : Ready w W g a n cap) : w.heap.size ≤ g := h.1
theorem Ready.past (h : Ready w W g a n cap) : Below w.heap.size w W := h.2.2.2.2
/-- .. behind all that turns nothing that was there. -/
theorem Ready.below (h : Ready w W g a n cap) (hb : Below W.heap.size W W2) : Ready w W2 g a n cap := by
  have hl := h.lt
  obtain ⟨h0, hn, h1, ⟨i, k, h2, h3, h4⟩, h5⟩ := h
  exact ⟨h0, hn, h1, ⟨i, k, h2, h3, (hb.block g hl).trans h4⟩, h5.trans (hb.mono h5.size)⟩
theorem Ready.alloc (h : Ready w W g a n cap) (o : Obj) : Ready w (W.alloc o) g a n cap := h.below ((Below.refl _ _).alloc (Nat.le_refl _) _)
theorem Ready.drew (h : Ready w W g a n cap) : Ready w W.drew g a n cap := h.below (Below.refl _ _).drew
theorem Ready.set (h : Ready w W g a n cap) {p : Addr} (hne : g ≠ p.block) (hp : w.heap.size ≤ p.block) (v : Value) : Ready w (W.setCell p v) g a n cap := by
  obtain ⟨h0, hn, h1, ⟨i, k, h2, h3, h4⟩, h5⟩ := h
  exact ⟨h0, hn, h1, ⟨i, k, h2, h3, (Below.heap_setCell _ _ _ _ hne).trans h4⟩, h5.setCell hp _⟩
theorem Ready.grown {i k : Int} (h : Ready w W g a n cap) (hg : W.grownBy W2 (some g)) (h2 : 0 ≤ i) (h3 : i ≤ n) (h4 : Cur W2 g (.slice a n cap) i k) : Ready w W2 g a n cap := by
  obtain ⟨h0, hn, h1, _, h5⟩ := h
  exact ⟨h0, hn, h1, ⟨i, k, h2, h3, h4⟩, h5.grown hg h5.size (fun k hk => by injection hk with hk; omega)⟩

theorem draw (w W : World) (g : Nat) (a : Option Addr) (n cap : Nat) (m : Int) (h : Ready w W g a n cap) (hm0 : 0 < m) (hm1 : m ≤ 256) :
    Calls Try.prog 12 #[.pointer (some ⟨g, 0, none⟩), .int .i64 m] W fun e w' => ∃ y : Int, e = .returned (.int .i64 y) ∧ 0 ≤ y ∧ y < m ∧ Ready w w' g a n cap ∧ W.grownBy w' (some g) := by
  have hh := h
  obtain ⟨h0, hn, h1, ⟨i, k, h2, h3, h4⟩, h5⟩ := h
  exact (below_small g n i k m a cap W h2 h3 hn hm0 hm1 h4 (code_from h1 h5 h0)).mono fun e w' ⟨y, he, ya, yb, i2, k2, ia, ib, c2, g2⟩ => ⟨y, he, ya, yb, hh.grown g2 ia ib c2, g2⟩

/-- A block that is not the cursor's, behind a draw. -/
theorem kept_draw {k : Nat} {o : Obj} (h : W.heap[k]? = some o) (hne : k ≠ g) (gr : W.grownBy W2 (some g)) : W2.heap[k]? = some o :=
  (gr.block k (Array.getElem?_eq_some_iff.1 h).1 (by simpa using hne)).trans h
theorem kept_new {k : Nat} {o q : Obj} (h : W.heap[k]? = some o) : (W.alloc q).heap[k]? = some o := (Below.heap_alloc _ _ _ (Array.getElem?_eq_some_iff.1 h).1).trans h
theorem kept_below {k : Nat} {o : Obj} (h : W.heap[k]? = some o) (hb : Below W.heap.size W W2) : W2.heap[k]? = some o := (hb.block k (Array.getElem?_eq_some_iff.1 h).1).trans h
theorem undrew {w9 : World} {r : Option Nat} (h : W.drew.grownBy w9 r) : W.grownBy w9 r := ⟨h.os, h.tape, h.output, h.size, h.block⟩

theorem gr_alloc {X : World} {r : Option Nat} (h : W.grownBy X r) (o : Obj) : W.grownBy (X.alloc o) r := by
  have hs := h.size
  exact ⟨h.os, h.tape, h.output, by simp; omega, fun k hk hne => (Below.heap_alloc X o k (by omega)).trans (h.block k hk hne)⟩
theorem gr_set {X : World} {r : Option Nat} (h : W.grownBy X r) {p : Addr} (hp : W.heap.size ≤ p.block) (v : Value) : W.grownBy (X.setCell p v) r :=
  ⟨h.os, h.tape, h.output, by have := h.size; simpa using this, fun k hk hne => (Below.heap_setCell X p v k (by omega)).trans (h.block k hk hne)⟩
theorem gr_drew {X : World} {r : Option Nat} (h : W.grownBy X r) : W.grownBy X.drew r := ⟨h.os, h.tape, h.output, h.size, h.block⟩
theorem gr_then {X Y : World} {r : Option Nat} (h : W.grownBy X r) (k : X.grownBy Y r) : W.grownBy Y r := DrawWalks.grown_trans h k
theorem gr_below {X Y : World} {r : Option Nat} (h : W.grownBy X r) (k : Below X.heap.size X Y) : W.grownBy Y r :=
  ⟨k.os.trans h.os, k.tape.trans h.tape, k.output.trans h.output, Nat.le_trans h.size k.size, fun j hj hne => (k.block j (Nat.lt_of_lt_of_le hj h.size)).trans (h.block j hj hne)⟩
theorem gr_refl (r : Option Nat) : W.grownBy W r := DrawWalks.grown_refl W r
theorem kept_set {k : Nat} {o : Obj} {p : Addr} {v : Value} (h : W.heap[k]? = some o) (hne : k ≠ p.block) : (W.setCell p v).heap[k]? = some o := (Below.heap_setCell _ _ _ _ hne).trans h

theorem start (n : Nat) (a : Option Addr) (cap : Nat) (w W : World) (hn : (n : Int) ≤ 1048576) (hok : CodeOk w w.heap.size a n) (hb : Below w.heap.size w W) :
    Calls Try.prog 10 #[.slice a n cap] W fun e w' => e = .returned (.pointer (some ⟨W.heap.size, 0, none⟩)) ∧ Ready w w' W.heap.size a n cap ∧ Below W.heap.size W w' := by
  refine (new_any n a cap W hn (code_below hok hb)).mono ?_
  rintro e w1 ⟨h, rfl, h0, h1, rfl⟩
  have hB : Below W.heap.size W (W.alloc (.cells #[.slice a n cap, .int .i64 0, .int .i64 h] 39)) := (Below.refl _ _).alloc (Nat.le_refl _) _
  exact ⟨rfl, ⟨hb.size, hn, hok, ⟨0, h, by omega, by omega, heap_alloc_new W _⟩, hb.trans (hB.mono hb.size)⟩, hB⟩
end
end Go.Proofs.Ytdgkmiknnelddaa.DrawKit
