/- What the laws' helpers on lists of samples do: two lists of the same samples are found equal; marks are laid into a list of the call's own and found there again, and nothing else turns; no condition but those written in each. -/
import Derived.Test.YtbdkepnjhcdpnaaRows
import Derived.WalkKit
import Derived.WalkSmall
import Derived.BigQuiet
import Derived.Deep.RegionWith
import Derived.Laws.MakeOwn
namespace Go.Proofs.Ytbdkepnjhcdpnaa.PairWalks
open Go.RowKit

/-- Behind place o of block g lie these samples; the block is not frozen. -/
def PRow (w : World) (g o : Nat) (L : List (Int × Int)) : Prop :=
  ∃ cur : Array Value, w.heap[g]? = some (.cells cur 64 (0, 0)) ∧ o + L.length * 2 ≤ cur.size ∧ ∀ (i : Nat) (h : i < L.length), cur[o + i * 2]? = some (.int .i64 L[i].1) ∧ cur[o + i * 2 + 1]? = some (.int .i64 L[i].2)

theorem PRow.lt {w : World} {g o : Nat} {L : List (Int × Int)} (h : PRow w g o L) : g < w.heap.size := by
  obtain ⟨cur, hg, _, _⟩ := h
  exact (Array.getElem?_eq_some_iff.1 hg).1

theorem PRow.c0 {w : World} {g o : Nat} {L : List (Int × Int)} (h : PRow w g o L) (i : Nat) (hi : i < L.length) : w.cell? ⟨g, o + i * 2, none⟩ = some (.int .i64 L[i].1) := by
  obtain ⟨cur, hg, _, hc⟩ := h
  simp [World.cell?, hg, (hc i hi).1]

theorem PRow.c1 {w : World} {g o : Nat} {L : List (Int × Int)} (h : PRow w g o L) (i : Nat) (hi : i < L.length) : w.cell? ⟨g, o + i * 2 + 1, none⟩ = some (.int .i64 L[i].2) := by
  obtain ⟨cur, hg, _, hc⟩ := h
  simp [World.cell?, hg, (hc i hi).2]

theorem PRow.fz {w : World} {g o : Nat} {L : List (Int × Int)} (h : PRow w g o L) (j : Nat) : w.frozen? ⟨g, j, none⟩ = false := by
  obtain ⟨cur, hg, _, _⟩ := h
  simp [World.frozen?, hg]

theorem PRow.same {w w' : World} {g o : Nat} {L : List (Int × Int)} (h : PRow w g o L) (e : w'.heap[g]? = w.heap[g]?) : PRow w' g o L := by
  obtain ⟨cur, hg, rest⟩ := h
  exact ⟨cur, by rw [e]; exact hg, rest⟩

theorem PRow.below {w w' : World} {g o : Nat} {L : List (Int × Int)} (h : PRow w g o L) (hb : Below w.heap.size w w') : PRow w' g o L := h.same (hb.block g h.lt)

theorem PRow.grown {w w' : World} {g o k : Nat} {L : List (Int × Int)} (h : PRow w g o L) (hb : w.grownBy w' (some k)) (hne : g ≠ k) : PRow w' g o L :=
  h.same (hb.block g h.lt (by intro e; exact hne (Option.some.inj e)))

/-- The marks of n samples from k on. -/
def pmarks (k n : Nat) : List (Int × Int) := (List.range n).map fun i => (((k + 2 * i : Nat) : Int), ((k + 2 * i + 1 : Nat) : Int))

theorem pmarks_length (k n : Nat) : (pmarks k n).length = n := by simp [pmarks]
theorem pmarks_get (k n i : Nat) (h : i < (pmarks k n).length) : (pmarks k n)[i] = (((k + 2 * i : Nat) : Int), ((k + 2 * i + 1 : Nat) : Int)) := by simp [pmarks]

/-- So many marks lie behind place o of block g; it has room for n. -/
def PPart (w : World) (g o k n i : Nat) : Prop :=
  ∃ cur : Array Value, w.heap[g]? = some (.cells cur 64 (0, 0)) ∧ o + n * 2 ≤ cur.size ∧ ∀ j, j < i → cur[o + j * 2]? = some (.int .i64 ((k + 2 * j : Nat) : Int)) ∧ cur[o + j * 2 + 1]? = some (.int .i64 ((k + 2 * j + 1 : Nat) : Int))

theorem PPart.start {w : World} {g o k : Nat} {L : List (Int × Int)} (h : PRow w g o L) : PPart w g o k L.length 0 := by
  obtain ⟨cur, hg, hl, _⟩ := h
  exact ⟨cur, hg, hl, fun j hj => by omega⟩

theorem PPart.stop {w : World} {g o k n : Nat} (h : PPart w g o k n n) : PRow w g o (pmarks k n) := by
  obtain ⟨cur, hg, hl, hc⟩ := h
  refine ⟨cur, hg, by rw [pmarks_length]; exact hl, fun i hi => ?_⟩
  rw [pmarks_get]
  exact hc i (by rw [pmarks_length] at hi; exact hi)

theorem PPart.lt {w : World} {g o k n i : Nat} (h : PPart w g o k n i) : g < w.heap.size := by
  obtain ⟨cur, hg, _, _⟩ := h
  exact (Array.getElem?_eq_some_iff.1 hg).1

theorem PPart.fz {w : World} {g o k n i : Nat} (h : PPart w g o k n i) (j : Nat) : w.frozen? ⟨g, j, none⟩ = false := by
  obtain ⟨cur, hg, _, _⟩ := h
  simp [World.frozen?, hg]

theorem PPart.cell {w : World} {g o k n i : Nat} (h : PPart w g o k n i) (j : Nat) (hj : j < o + n * 2) : ∃ v, w.cell? ⟨g, j, none⟩ = some v := by
  obtain ⟨cur, hg, hl, _⟩ := h
  exact ⟨cur[j]'(by omega), by simp [World.cell?, hg]⟩

theorem heap_setCell_at {w : World} {g : Nat} {cur : Array Value} {t : TypeId} (h : w.heap[g]? = some (.cells cur t (0, 0))) (i : Nat) (v : Value) :
    (w.setCell ⟨g, i, none⟩ v).heap[g]? = some (.cells (cur.setIfInBounds i v) t (0, 0)) := by
  have hlt := (Array.getElem?_eq_some_iff.1 h).1
  simp [World.setCell, h, Array.getElem?_modify]

theorem PPart.store {w : World} {g o k n i : Nat} (h : PPart w g o k n i) (hi : i < n) :
    PPart ((w.setCell ⟨g, o + i * 2, none⟩ (.int .i64 ((k + 2 * i : Nat) : Int))).setCell ⟨g, o + i * 2 + 1, none⟩ (.int .i64 ((k + 2 * i + 1 : Nat) : Int))) g o k n (i + 1) := by
  obtain ⟨cur, hg, hl, hc⟩ := h
  refine ⟨_, heap_setCell_at (heap_setCell_at hg _ _) _ _, by simpa using hl, fun j hj => ?_⟩
  by_cases e : j = i
  · subst e
    refine ⟨?_, ?_⟩
    · rw [Array.getElem?_setIfInBounds_ne (by omega)]
      simp [show o + j * 2 < cur.size from by omega]
    · simp [show o + j * 2 + 1 < cur.size from by omega]
  · obtain ⟨h1, h2⟩ := hc j (by omega)
    refine ⟨?_, ?_⟩
    · rw [Array.getElem?_setIfInBounds_ne (by omega), Array.getElem?_setIfInBounds_ne (by omega)]; exact h1
    · rw [Array.getElem?_setIfInBounds_ne (by omega), Array.getElem?_setIfInBounds_ne (by omega)]; exact h2

theorem grown_store {w w1 : World} {g : Nat} (h : w.grownBy w1 (some g)) (i : Nat) (v : Value) : w.grownBy (w1.setCell ⟨g, i, none⟩ v) (some g) := by
  refine ⟨h.os, h.tape, h.output, by have := h.size; simpa using this, fun k hk hne => ?_⟩
  rw [Below.heap_setCell w1 ⟨g, i, none⟩ v k (by intro e; exact hne (by rw [e]))]
  exact h.block k hk hne
theorem grown_refl (w : World) (r : Option Nat) : w.grownBy w r := ⟨rfl, rfl, rfl, Nat.le_refl _, fun _ _ _ => rfl⟩
theorem ret_int {k : IntKind} {a b : Int} (h : a = b) : Ending.returned (.int k a) = .returned (.int k b) := by rw [h]
theorem val_int {k : IntKind} {a b : Int} (h : a = b) : Value.int k a = .int k b := by rw [h]

/-- Samples that came in. -/
def PArg (w : World) (b o : Nat) (L : List (Int × Int)) : Prop :=
  ∀ (i : Nat) (h : i < L.length), w.cell? ⟨b, o + i * 2, none⟩ = some (.int .i64 L[i].1) ∧ w.cell? ⟨b, o + i * 2 + 1, none⟩ = some (.int .i64 L[i].2)

theorem PArg.below {w w' : World} {b o : Nat} {L : List (Int × Int)} (h : PArg w b o L) (hb : Below w.heap.size w w') : PArg w' b o L := fun i hi => by
  obtain ⟨h0, h1⟩ := h i hi
  exact ⟨(hb.cell (World.block_lt_of_cell? w _ h0)).trans h0, (hb.cell (World.block_lt_of_cell? w _ h1)).trans h1⟩

/-- So many of the samples lie in block g already. -/
def FPart (w : World) (g : Nat) (L : List (Int × Int)) (i : Nat) : Prop :=
  ∃ cur : Array Value, w.heap[g]? = some (.cells cur 64 (0, 0)) ∧ L.length * 2 ≤ cur.size ∧ ∀ (j : Nat) (h : j < L.length), j < i → cur[j * 2]? = some (.int .i64 L[j].1) ∧ cur[j * 2 + 1]? = some (.int .i64 L[j].2)

theorem FPart.start (w : World) (L : List (Int × Int)) : FPart (w.alloc (.cells (madeCells #[.int .i64 0, .int .i64 0] (L.length * 2)) 64)) w.heap.size L 0 :=
  ⟨_, heap_alloc_new w _, by rw [size_madeCells]; exact Nat.le_refl _, fun j _ hj => by omega⟩
theorem FPart.stop {w : World} {g : Nat} {L : List (Int × Int)} (h : FPart w g L L.length) : PRow w g 0 L := by
  obtain ⟨cur, hg, hl, hc⟩ := h
  exact ⟨cur, hg, by omega, fun i hi => by simpa using hc i hi hi⟩
theorem FPart.lt {w : World} {g i : Nat} {L : List (Int × Int)} (h : FPart w g L i) : g < w.heap.size := by
  obtain ⟨cur, hg, _, _⟩ := h
  exact (Array.getElem?_eq_some_iff.1 hg).1
theorem FPart.same {w w' : World} {g i : Nat} {L : List (Int × Int)} (h : FPart w g L i) (e : w'.heap[g]? = w.heap[g]?) : FPart w' g L i := by
  obtain ⟨cur, hg, rest⟩ := h
  exact ⟨cur, by rw [e]; exact hg, rest⟩
theorem FPart.fz {w : World} {g i : Nat} {L : List (Int × Int)} (h : FPart w g L i) (j : Nat) : w.frozen? ⟨g, j, none⟩ = false := by
  obtain ⟨cur, hg, _, _⟩ := h
  simp [World.frozen?, hg]
theorem FPart.cell {w : World} {g i : Nat} {L : List (Int × Int)} (h : FPart w g L i) (j : Nat) (hj : j < L.length * 2) : ∃ v, w.cell? ⟨g, j, none⟩ = some v := by
  obtain ⟨cur, hg, hl, _⟩ := h
  exact ⟨cur[j]'(by omega), by simp [World.cell?, hg]⟩
theorem FPart.store {w : World} {g i : Nat} {L : List (Int × Int)} (h : FPart w g L i) (hi : i < L.length) :
    FPart ((w.setCell ⟨g, i * 2, none⟩ (.int .i64 L[i].1)).setCell ⟨g, i * 2 + 1, none⟩ (.int .i64 L[i].2)) g L (i + 1) := by
  obtain ⟨cur, hg, hl, hc⟩ := h
  refine ⟨_, heap_setCell_at (heap_setCell_at hg _ _) _ _, by simpa using hl, fun j hjl hj => ?_⟩
  by_cases e : j = i
  · subst e
    refine ⟨?_, ?_⟩
    · rw [Array.getElem?_setIfInBounds_ne (by omega)]
      simp [show j * 2 < cur.size from by omega]
    · simp [show j * 2 + 1 < cur.size from by omega]
  · obtain ⟨h1, h2⟩ := hc j hjl (by omega)
    refine ⟨?_, ?_⟩
    · rw [Array.getElem?_setIfInBounds_ne (by omega), Array.getElem?_setIfInBounds_ne (by omega)]; exact h1
    · rw [Array.getElem?_setIfInBounds_ne (by omega), Array.getElem?_setIfInBounds_ne (by omega)]; exact h2

theorem info31 : (Try.prog.info? 64).map (fun i => (i.zero, i.size, i.bytes)) = some (some (.agg #[.int .i64 0, .int .i64 0]), 2, 16) := by kernel_rfl

theorem make_samples (n : Nat) (hn : n ≤ 1048577) (W : World) :
    (Instr.makeSlice 25 (.int .i64 (n : Int)) (.int .i64 (n : Int))).run Try.prog W = .ok (.slice (some ⟨W.heap.size, 0, none⟩) n n) (W.alloc (.cells (madeCells #[.int .i64 0, .int .i64 0] (n * 2)) 64)) := by
  obtain ⟨i, hi, hz, hs, hb⟩ := info_parts info31
  have h := run_make (P := Try.prog) W 25 64 i _ Try.underlying25 hi hz .i64 .i64 (n : Int) (n : Int) (by omega) (by omega) (by rw [hb]; omega) (by omega)
  rw [hs] at h
  simpa [Value.cells] using h

/-- A list of samples, empty or in a row. -/
def WOk (w : World) (a : Option Addr) (L : List (Int × Int)) : Prop := L = [] ∨ ∃ g o, a = some ⟨g, o, none⟩ ∧ PRow w g o L

theorem WOk.below {w w' : World} {a : Option Addr} {L : List (Int × Int)} (h : WOk w a L) (hb : Below w.heap.size w w') : WOk w' a L := by
  rcases h with h | ⟨g, o, ha, hr⟩
  · exact Or.inl h
  · exact Or.inr ⟨g, o, ha, hr.below hb⟩

/-- The block of a list, where it has one. -/
def blk (a : Option Addr) : Option Nat := a.map (·.block)

theorem three_blocks {w w1 : World} {A B C : Obj} (hb : Below (((w.alloc A).alloc B).alloc C).heap.size (((w.alloc A).alloc B).alloc C) w1) :
    w1.heap[w.heap.size + 1]? = some B ∧ w1.heap[w.heap.size + 1 + 1]? = some C ∧ w.heap.size + 1 + 1 + 1 ≤ w1.heap.size := by
  have hs := hb.size
  simp at hs
  have h1 := heap_alloc_new (w.alloc A) B
  have h2 := heap_alloc_new ((w.alloc A).alloc B) C
  rw [show (w.alloc A).heap.size = w.heap.size + 1 from by simp] at h1
  rw [show ((w.alloc A).alloc B).heap.size = w.heap.size + 1 + 1 from by simp] at h2
  refine ⟨?_, ?_, by omega⟩
  · rw [hb.block _ (by simp), Below.heap_alloc _ _ _ (by simp)]; exact h1
  · rw [hb.block _ (by simp)]; exact h2

theorem cell_blk {w : World} {g : Nat} {cur : Array Value} {t : TypeId} (h : w.heap[g]? = some (.cells cur t (0, 0))) (i : Nat) : w.cell? ⟨g, i, none⟩ = cur[i]? := by simp [World.cell?, h]
theorem fz_blk {w : World} {g : Nat} {cur : Array Value} {t : TypeId} (h : w.heap[g]? = some (.cells cur t (0, 0))) (i : Nat) : w.frozen? ⟨g, i, none⟩ = false := by simp [World.frozen?, h]

end Go.Proofs.Ytbdkepnjhcdpnaa.PairWalks
