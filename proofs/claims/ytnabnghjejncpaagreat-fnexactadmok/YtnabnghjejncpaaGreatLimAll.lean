/- Several texts laid into one: what the functions named in their own remarks answer; no condition but those written in each. -/
import Derived.Test.YtnabnghjejncpaaGreatRows
import Derived.WalkKit
import Derived.WalkSmall
import Derived.BigQuiet
import Derived.Deep.RegionWith
import Derived.Laws.MakeOwn
import Derived.Deep.AppendSrc
import Derived.Laws.AppendOwn
import Derived.Deep.RegionLawGrows
import Derived.Lib.ItoaNum
import Derived.Laws.Bits64b
import Derived.Test.YtnabnghjejncpaaGreatProg
import Derived.Deep.Cut

section
namespace Go.Proofs.YtnabnghjejncpaaGreat.PairWalks
open Go.RowKit

/-- Behind place o of block g lie these samples; the block is not frozen. -/
def PRow (w : World) (g o : Nat) (L : List (Int × Int)) : Prop :=
  ∃ cur : Array Value, w.heap[g]? = some (.cells cur 155 (0, 0)) ∧ o + L.length * 2 ≤ cur.size ∧ ∀ (i : Nat) (h : i < L.length), cur[o + i * 2]? = some (.int .i64 L[i].1) ∧ cur[o + i * 2 + 1]? = some (.int .i64 L[i].2)

theorem PRow.lt {w : World} {g o : Nat} {L : List (Int × Int)} (h : PRow w g o L) : g < w.heap.size := by
  obtain ⟨cur, hg, _, _⟩ := h
  exact (Array.getElem?_eq_some_iff.1 hg).1

theorem PRow.c0 {w : World} {g o : Nat} {L : List (Int × Int)} (h : PRow w g o L) (i : Nat) (hi : i < L.length) : w.cell? ⟨g, o + i * 2, none⟩ = some (.int .i64 L[i].1) := by
  obtain ⟨cur, hg, _, hc⟩ := h
  simp [World.cell?, hg, (hc i hi).1]

theorem PRow.c1 {w : World} {g o : Nat} {L : List (Int × Int)} (h : PRow w g o L) (i : Nat) (hi : i < L.length) : w.cell? ⟨g, o + i * 2 + 1, none⟩ = some (.int .i64 L[i].2) := by
  obtain ⟨cur, hg, _, hc⟩ := h
  simp [World.cell?, hg, (hc i hi).2]

theorem PRow.fz {w : World} {g o : Nat} {L : List (Int × Int)} (h : PRow w g o L) (j : Nat) : w.frozen? ⟨g, j, none⟩ = false := by
  obtain ⟨cur, hg, _, _⟩ := h
  simp [World.frozen?, hg]

theorem PRow.same {w w' : World} {g o : Nat} {L : List (Int × Int)} (h : PRow w g o L) (e : w'.heap[g]? = w.heap[g]?) : PRow w' g o L := by
  obtain ⟨cur, hg, rest⟩ := h
  exact ⟨cur, by rw [e]; exact hg, rest⟩

theorem PRow.below {w w' : World} {g o : Nat} {L : List (Int × Int)} (h : PRow w g o L) (hb : Below w.heap.size w w') : PRow w' g o L := h.same (hb.block g h.lt)

theorem PRow.grown {w w' : World} {g o k : Nat} {L : List (Int × Int)} (h : PRow w g o L) (hb : w.grownBy w' (some k)) (hne : g ≠ k) : PRow w' g o L :=
  h.same (hb.block g h.lt (by intro e; exact hne (Option.some.inj e)))

theorem eq_sample (x y : Int) (w : World) : Calls Tryz.prog 117 #[.agg #[.int .i64 x, .int .i64 y], .agg #[.int .i64 x, .int .i64 y]] w fun e w' => e = .returned (.bool true) ∧ Below w.heap.size w w' := by
  have h1 : (x != x) = false := by simp
  have h2 : (y != y) = false := by simp
  go_enter Tryz.func117, Tryz.ntmps117
  go_wp2
  go_ret
  exact ⟨rfl, ((Below.refl _ _).alloc (Nat.le_refl _) _).alloc (by simp) _⟩

set_option maxHeartbeats 1000000 in
theorem eq_samples (g1 o1 g2 o2 c1 c2 : Nat) (L : List (Int × Int)) (w : World) (h1 : PRow w g1 o1 L) (h2 : PRow w g2 o2 L) (hl : L.length ≤ 1048577) :
    Calls Tryz.prog 102 #[.slice (some ⟨g1, o1, none⟩) L.length c1, .slice (some ⟨g2, o2, none⟩) L.length c2] w fun e w' => e = .returned (.bool true) ∧ Below w.heap.size w w' := by
  have H1 : Hid (PRow w g1 o1 L) := h1
  have H2 : Hid (PRow w g2 o2 L) := h2
  clear h1 h2
  obtain ⟨n, hn⟩ : ∃ n, L.length = n := ⟨_, rfl⟩
  have HN : Hid (L.length = n) := hn
  rw [hn] at hl ⊢
  clear hn
  have e0 : ((n : Int) != (n : Int)) = false := by simp
  go_enter Tryz.func102, Tryz.ntmps102
  go_wp2
  go_loopw [5] (fun i wr => ∃ k : Nat, k ≤ n ∧ i = .int .i64 k ∧ Hid (Below w.heap.size w wr)) (fun i _ => n - (intOf i).toNat)
  case atStart => exact ⟨0, by omega, rfl, Below.refl _ _⟩
  case round =>
    obtain ⟨k, hk, rfl, hb⟩ := hrel
    by_cases hlt : k < n
    · have hlt2 : k < L.length := by rw [HN.out]; exact hlt
      obtain ⟨x, hx⟩ : ∃ x, L[k].1 = x := ⟨_, rfl⟩
      obtain ⟨y, hy⟩ : ∃ y, L[k].2 = y := ⟨_, rfl⟩
      have q1 := (H1.out.below hb.out).c0 k hlt2
      have q2 := (H1.out.below hb.out).c1 k hlt2
      have q3 := (H2.out.below hb.out).c0 k hlt2
      have q4 := (H2.out.below hb.out).c1 k hlt2
      rw [hx] at q1 q3
      rw [hy] at q2 q4
      have hli : (k : Int) < (n : Int) := by omega
      clear hx hy
      go_wp2
      go_region_with (go_at_call 117; refine (eq_sample x y _).mono ?_; rintro e w1 ⟨rfl, hb1⟩)
      all_goals
        have hB1 : Hid (Below w.heap.size w w1) := hb.out.drew.trans (hb1.mono hb.out.size)
        clear hb1 q1 q2 q3 q4
        go_wp2
        go_roundw
        case rel => exact ⟨k + 1, by omega, by go_num, hB1⟩
        case measure => simp [intOf]; omega
    · obtain rfl : k = n := by omega
      go_wp2
      go_ret
      exact ⟨rfl, hb.out⟩

/-- The marks of n samples from k on. -/
def pmarks (k n : Nat) : List (Int × Int) := (List.range n).map fun i => (((k + 2 * i : Nat) : Int), ((k + 2 * i + 1 : Nat) : Int))

theorem pmarks_length (k n : Nat) : (pmarks k n).length = n := by simp [pmarks]
theorem pmarks_get (k n i : Nat) (h : i < (pmarks k n).length) : (pmarks k n)[i] = (((k + 2 * i : Nat) : Int), ((k + 2 * i + 1 : Nat) : Int)) := by simp [pmarks]

/-- So many marks lie behind place o of block g; it has room for n. -/
def PPart (w : World) (g o k n i : Nat) : Prop :=
  ∃ cur : Array Value, w.heap[g]? = some (.cells cur 155 (0, 0)) ∧ o + n * 2 ≤ cur.size ∧ ∀ j, j < i → cur[o + j * 2]? = some (.int .i64 ((k + 2 * j : Nat) : Int)) ∧ cur[o + j * 2 + 1]? = some (.int .i64 ((k + 2 * j + 1 : Nat) : Int))

theorem PPart.start {w : World} {g o k : Nat} {L : List (Int × Int)} (h : PRow w g o L) : PPart w g o k L.length 0 := by
  obtain ⟨cur, hg, hl, _⟩ := h
  exact ⟨cur, hg, hl, fun j hj => by omega⟩

theorem PPart.stop {w : World} {g o k n : Nat} (h : PPart w g o k n n) : PRow w g o (pmarks k n) := by
  obtain ⟨cur, hg, hl, hc⟩ := h
  refine ⟨cur, hg, by rw [pmarks_length]; exact hl, fun i hi => ?_⟩
  rw [pmarks_get]
  exact hc i (by rw [pmarks_length] at hi; exact hi)

theorem PPart.lt {w : World} {g o k n i : Nat} (h : PPart w g o k n i) : g < w.heap.size := by
  obtain ⟨cur, hg, _, _⟩ := h
  exact (Array.getElem?_eq_some_iff.1 hg).1

theorem PPart.fz {w : World} {g o k n i : Nat} (h : PPart w g o k n i) (j : Nat) : w.frozen? ⟨g, j, none⟩ = false := by
  obtain ⟨cur, hg, _, _⟩ := h
  simp [World.frozen?, hg]

theorem PPart.cell {w : World} {g o k n i : Nat} (h : PPart w g o k n i) (j : Nat) (hj : j < o + n * 2) : ∃ v, w.cell? ⟨g, j, none⟩ = some v := by
  obtain ⟨cur, hg, hl, _⟩ := h
  exact ⟨cur[j]'(by omega), by simp [World.cell?, hg]⟩

theorem heap_setCell_at {w : World} {g : Nat} {cur : Array Value} {t : TypeId} (h : w.heap[g]? = some (.cells cur t (0, 0))) (i : Nat) (v : Value) :
    (w.setCell ⟨g, i, none⟩ v).heap[g]? = some (.cells (cur.setIfInBounds i v) t (0, 0)) := by
  have hlt := (Array.getElem?_eq_some_iff.1 h).1
  simp [World.setCell, h, Array.getElem?_modify]

theorem PPart.store {w : World} {g o k n i : Nat} (h : PPart w g o k n i) (hi : i < n) :
    PPart ((w.setCell ⟨g, o + i * 2, none⟩ (.int .i64 ((k + 2 * i : Nat) : Int))).setCell ⟨g, o + i * 2 + 1, none⟩ (.int .i64 ((k + 2 * i + 1 : Nat) : Int))) g o k n (i + 1) := by
  obtain ⟨cur, hg, hl, hc⟩ := h
  refine ⟨_, heap_setCell_at (heap_setCell_at hg _ _) _ _, by simpa using hl, fun j hj => ?_⟩
  by_cases e : j = i
  · subst e
    refine ⟨?_, ?_⟩
    · rw [Array.getElem?_setIfInBounds_ne (by omega)]
      simp [show o + j * 2 < cur.size from by omega]
    · simp [show o + j * 2 + 1 < cur.size from by omega]
  · obtain ⟨h1, h2⟩ := hc j (by omega)
    refine ⟨?_, ?_⟩
    · rw [Array.getElem?_setIfInBounds_ne (by omega), Array.getElem?_setIfInBounds_ne (by omega)]; exact h1
    · rw [Array.getElem?_setIfInBounds_ne (by omega), Array.getElem?_setIfInBounds_ne (by omega)]; exact h2

theorem grown_store {w w1 : World} {g : Nat} (h : w.grownBy w1 (some g)) (i : Nat) (v : Value) : w.grownBy (w1.setCell ⟨g, i, none⟩ v) (some g) := by
  refine ⟨h.os, h.tape, h.output, by have := h.size; simpa using this, fun k hk hne => ?_⟩
  rw [Below.heap_setCell w1 ⟨g, i, none⟩ v k (by intro e; exact hne (by rw [e]))]
  exact h.block k hk hne
theorem grown_refl (w : World) (r : Option Nat) : w.grownBy w r := ⟨rfl, rfl, rfl, Nat.le_refl _, fun _ _ _ => rfl⟩
/-- Samples that came in. -/
def PArg (w : World) (b o : Nat) (L : List (Int × Int)) : Prop :=
  ∀ (i : Nat) (h : i < L.length), w.cell? ⟨b, o + i * 2, none⟩ = some (.int .i64 L[i].1) ∧ w.cell? ⟨b, o + i * 2 + 1, none⟩ = some (.int .i64 L[i].2)

theorem PArg.below {w w' : World} {b o : Nat} {L : List (Int × Int)} (h : PArg w b o L) (hb : Below w.heap.size w w') : PArg w' b o L := fun i hi => by
  obtain ⟨h0, h1⟩ := h i hi
  exact ⟨(hb.cell (World.block_lt_of_cell? w _ h0)).trans h0, (hb.cell (World.block_lt_of_cell? w _ h1)).trans h1⟩

/-- So many of the samples lie in block g already. -/
def FPart (w : World) (g : Nat) (L : List (Int × Int)) (i : Nat) : Prop :=
  ∃ cur : Array Value, w.heap[g]? = some (.cells cur 155 (0, 0)) ∧ L.length * 2 ≤ cur.size ∧ ∀ (j : Nat) (h : j < L.length), j < i → cur[j * 2]? = some (.int .i64 L[j].1) ∧ cur[j * 2 + 1]? = some (.int .i64 L[j].2)

theorem FPart.start (w : World) (L : List (Int × Int)) : FPart (w.alloc (.cells (madeCells #[.int .i64 0, .int .i64 0] (L.length * 2)) 155)) w.heap.size L 0 :=
  ⟨_, heap_alloc_new w _, by rw [size_madeCells]; exact Nat.le_refl _, fun j _ hj => by omega⟩
theorem FPart.stop {w : World} {g : Nat} {L : List (Int × Int)} (h : FPart w g L L.length) : PRow w g 0 L := by
  obtain ⟨cur, hg, hl, hc⟩ := h
  exact ⟨cur, hg, by omega, fun i hi => by simpa using hc i hi hi⟩
theorem FPart.lt {w : World} {g i : Nat} {L : List (Int × Int)} (h : FPart w g L i) : g < w.heap.size := by
  obtain ⟨cur, hg, _, _⟩ := h
  exact (Array.getElem?_eq_some_iff.1 hg).1
theorem FPart.same {w w' : World} {g i : Nat} {L : List (Int × Int)} (h : FPart w g L i) (e : w'.heap[g]? = w.heap[g]?) : FPart w' g L i := by
  obtain ⟨cur, hg, rest⟩ := h
  exact ⟨cur, by rw [e]; exact hg, rest⟩
theorem FPart.fz {w : World} {g i : Nat} {L : List (Int × Int)} (h : FPart w g L i) (j : Nat) : w.frozen? ⟨g, j, none⟩ = false := by
  obtain ⟨cur, hg, _, _⟩ := h
  simp [World.frozen?, hg]
theorem FPart.cell {w : World} {g i : Nat} {L : List (Int × Int)} (h : FPart w g L i) (j : Nat) (hj : j < L.length * 2) : ∃ v, w.cell? ⟨g, j, none⟩ = some v := by
  obtain ⟨cur, hg, hl, _⟩ := h
  exact ⟨cur[j]'(by omega), by simp [World.cell?, hg]⟩
theorem FPart.store {w : World} {g i : Nat} {L : List (Int × Int)} (h : FPart w g L i) (hi : i < L.length) :
    FPart ((w.setCell ⟨g, i * 2, none⟩ (.int .i64 L[i].1)).setCell ⟨g, i * 2 + 1, none⟩ (.int .i64 L[i].2)) g L (i + 1) := by
  obtain ⟨cur, hg, hl, hc⟩ := h
  refine ⟨_, heap_setCell_at (heap_setCell_at hg _ _) _ _, by simpa using hl, fun j hjl hj => ?_⟩
  by_cases e : j = i
  · subst e
    refine ⟨?_, ?_⟩
    · rw [Array.getElem?_setIfInBounds_ne (by omega)]
      simp [show j * 2 < cur.size from by omega]
    · simp [show j * 2 + 1 < cur.size from by omega]
  · obtain ⟨h1, h2⟩ := hc j hjl (by omega)
    refine ⟨?_, ?_⟩
    · rw [Array.getElem?_setIfInBounds_ne (by omega), Array.getElem?_setIfInBounds_ne (by omega)]; exact h1
    · rw [Array.getElem?_setIfInBounds_ne (by omega), Array.getElem?_setIfInBounds_ne (by omega)]; exact h2

theorem to_sample (x y : Int) (w : World) : Calls Tryz.prog 106 #[.agg #[.int .i64 x, .int .i64 y]] w fun e w' => e = .returned (.agg #[.int .i64 x, .int .i64 y]) ∧ Below w.heap.size w w' := by
  go_enter Tryz.func106, Tryz.ntmps106
  go_wp2
  exact bodyPost_ret (v := .agg #[.int .i64 x, .int .i64 y]) (by simp [results, Tryz.results106, go_sem]) rfl ⟨rfl, (((Below.refl _ _).alloc (Nat.le_refl _) _).alloc (by simp) _).alloc (by simp; omega) _⟩

theorem info31 : (Tryz.prog.info? 155).map (fun i => (i.zero, i.size, i.bytes)) = some (some (.agg #[.int .i64 0, .int .i64 0]), 2, 16) := by kernel_rfl

theorem make_samples (n : Nat) (hn : n ≤ 1048577) (W : World) :
    (Instr.makeSlice 48 (.int .i64 (n : Int)) (.int .i64 (n : Int))).run Tryz.prog W = .ok (.slice (some ⟨W.heap.size, 0, none⟩) n n) (W.alloc (.cells (madeCells #[.int .i64 0, .int .i64 0] (n * 2)) 155)) := by
  obtain ⟨i, hi, hz, hs, hb⟩ := info_parts info31
  have h := run_make (P := Tryz.prog) W 48 155 i _ Tryz.underlying48 hi hz .i64 .i64 (n : Int) (n : Int) (by omega) (by omega) (by rw [hb]; omega) (by omega)
  rw [hs] at h
  simpa [Value.cells] using h

set_option maxHeartbeats 1000000 in
theorem to_samples (a : Option Addr) (cap : Nat) (L : List (Int × Int)) (w : World) (ha : L = [] ∨ ∃ b o, a = some ⟨b, o, none⟩ ∧ PArg w b o L) (hl : L.length ≤ 1048577) :
    Calls Tryz.prog 84 #[.slice a L.length cap] w fun e w' => ∃ g, e = .returned (.slice (some ⟨g, 0, none⟩) L.length L.length) ∧ w.heap.size ≤ g ∧ PRow w' g 0 L ∧ Below w.heap.size w w' := by
  have hmk := make_samples L.length hl
  have HF : Hid (FPart (w.alloc (.cells (madeCells #[.int .i64 0, .int .i64 0] (L.length * 2)) 155)) w.heap.size L 0) := FPart.start w L
  have HB : Hid (Below w.heap.size w (w.alloc (.cells (madeCells #[.int .i64 0, .int .i64 0] (L.length * 2)) 155))) := (Below.refl _ _).alloc (Nat.le_refl _) _
  have HA : Hid (L = [] ∨ ∃ b o, a = some ⟨b, o, none⟩ ∧ PArg w b o L) := ha
  clear ha
  obtain ⟨n, hn⟩ : ∃ n, L.length = n := ⟨_, rfl⟩
  have HN : Hid (L.length = n) := hn
  rw [hn] at hl hmk HF HB ⊢
  clear hn
  go_enter Tryz.func84, Tryz.ntmps84
  go_wp2
  go_loopw [4] (fun i wr => ∃ k : Nat, k ≤ n ∧ i = .int .i64 k ∧ Hid (FPart wr w.heap.size L k) ∧ Hid (Below w.heap.size w wr)) (fun i _ => n - (intOf i).toNat)
  case atStart => exact ⟨0, by omega, rfl, HF, HB⟩
  case round =>
    clear HF HB hmk
    obtain ⟨k, hk, rfl, HF, HB⟩ := hrel
    by_cases hlt : k < n
    · have hlt2 : k < L.length := by rw [HN.out]; exact hlt
      rcases HA.out with hnil | ⟨b, o, rfl, hA⟩
      · rw [hnil] at hlt2; simp at hlt2
      · have hA1 := (hA.below HB.out) k hlt2
        obtain ⟨x, hx⟩ : ∃ x, L[k].1 = x := ⟨_, rfl⟩
        obtain ⟨y, hy⟩ : ∃ y, L[k].2 = y := ⟨_, rfl⟩
        rw [hx, hy] at hA1
        obtain ⟨q0, q1⟩ := hA1
        have KX : Hid (L[k].1 = x) := hx
        have KY : Hid (L[k].2 = y) := hy
        have hli : (k : Int) < (n : Int) := by omega
        clear hx hy hA
        go_wp2_with (go_at_call 106; refine (to_sample x y _).mono ?_; rintro e w1 ⟨rfl, hb⟩; have HF1 : Hid (FPart w1 w.heap.size L k) := HF.out.same (hb.block _ HF.out.lt); have HB1 : Hid (Below w.heap.size w w1) := HB.out.trans (hb.mono HB.out.size); obtain ⟨v0, p0⟩ := HF1.out.cell (k * 2) (by omega); obtain ⟨v1, p1⟩ := HF1.out.cell (k * 2 + 1) (by omega); have f0 := HF1.out.fz (k * 2); have f1 := HF1.out.fz (k * 2 + 1))
        have HF2 : Hid (FPart ((w1.setCell ⟨w.heap.size, k * 2, none⟩ (.int .i64 x)).setCell ⟨w.heap.size, k * 2 + 1, none⟩ (.int .i64 y)) w.heap.size L (k + 1)) := by
          have := HF1.out.store hlt2
          rw [KX.out, KY.out] at this
          exact this
        go_roundw
        case rel => exact ⟨k + 1, by omega, by go_num, HF2, (HB1.out.setCell (Nat.le_refl _) _).setCell (Nat.le_refl _) _⟩
        case measure => simp [intOf]; omega
    · obtain rfl : k = n := by omega
      have HR : Hid (PRow wr w.heap.size 0 L) := FPart.stop (by rw [HN.out]; exact HF.out)
      go_wp2
      go_ret
      exact ⟨w.heap.size, rfl, Nat.le_refl _, HR.out, HB.out⟩

/-- A list of samples, empty or in a row. -/
def WOk (w : World) (a : Option Addr) (L : List (Int × Int)) : Prop := L = [] ∨ ∃ g o, a = some ⟨g, o, none⟩ ∧ PRow w g o L

theorem WOk.below {w w' : World} {a : Option Addr} {L : List (Int × Int)} (h : WOk w a L) (hb : Below w.heap.size w w') : WOk w' a L := by
  rcases h with h | ⟨g, o, ha, hr⟩
  · exact Or.inl h
  · exact Or.inr ⟨g, o, ha, hr.below hb⟩

theorem eq_none (a1 a2 : Option Addr) (c1 c2 : Nat) (w : World) : Calls Tryz.prog 102 #[.slice a1 0 c1, .slice a2 0 c2] w fun e w' => e = .returned (.bool true) ∧ Below w.heap.size w w' := by
  go_enter Tryz.func102, Tryz.ntmps102
  go_wp2
  go_loop [5] (fun i => i = .int .i64 0) (fun _ => 0)
  case atStart => rfl
  case round =>
    subst hrel
    go_wp2
    go_ret
    exact ⟨rfl, Below.refl _ _⟩

theorem eq_any (a1 a2 : Option Addr) (c1 c2 : Nat) (L : List (Int × Int)) (w : World) (h1 : WOk w a1 L) (h2 : WOk w a2 L) (hl : L.length ≤ 1048577) :
    Calls Tryz.prog 102 #[.slice a1 L.length c1, .slice a2 L.length c2] w fun e w' => e = .returned (.bool true) ∧ Below w.heap.size w w' := by
  rcases h1 with rfl | ⟨g1, o1, rfl, r1⟩
  · exact eq_none a1 a2 c1 c2 w
  · rcases h2 with rfl | ⟨g2, o2, rfl, r2⟩
    · exact eq_none _ _ c1 c2 w
    · exact eq_samples g1 o1 g2 o2 c1 c2 L w r1 r2 hl

/-- The block of a list, where it has one. -/
def blk (a : Option Addr) : Option Nat := a.map (·.block)

theorem three_blocks {w w1 : World} {A B C : Obj} (hb : Below (((w.alloc A).alloc B).alloc C).heap.size (((w.alloc A).alloc B).alloc C) w1) :
    w1.heap[w.heap.size + 1]? = some B ∧ w1.heap[w.heap.size + 1 + 1]? = some C ∧ w.heap.size + 1 + 1 + 1 ≤ w1.heap.size := by
  have hs := hb.size
  simp at hs
  have h1 := heap_alloc_new (w.alloc A) B
  have h2 := heap_alloc_new ((w.alloc A).alloc B) C
  rw [show (w.alloc A).heap.size = w.heap.size + 1 from by simp] at h1
  rw [show ((w.alloc A).alloc B).heap.size = w.heap.size + 1 + 1 from by simp] at h2
  refine ⟨?_, ?_, by omega⟩
  · rw [hb.block _ (by simp), Below.heap_alloc _ _ _ (by simp)]; exact h1
  · rw [hb.block _ (by simp)]; exact h2

theorem cell_blk {w : World} {g : Nat} {cur : Array Value} {t : TypeId} (h : w.heap[g]? = some (.cells cur t (0, 0))) (i : Nat) : w.cell? ⟨g, i, none⟩ = cur[i]? := by simp [World.cell?, h]
theorem fz_blk {w : World} {g : Nat} {cur : Array Value} {t : TypeId} (h : w.heap[g]? = some (.cells cur t (0, 0))) (i : Nat) : w.frozen? ⟨g, i, none⟩ = false := by simp [World.frozen?, h]

set_option maxHeartbeats 1000000 in
theorem to_window (span : Int) (a : Option Addr) (cap : Nat) (L : List (Int × Int)) (w : World) (ha : L = [] ∨ ∃ b o, a = some ⟨b, o, none⟩ ∧ PArg w b o L) (hl : L.length ≤ 1048577) :
    Calls Tryz.prog 50 #[.agg #[.int .i64 span, .slice a L.length cap]] w fun e w' => ∃ g, e = .returned (.agg #[.int .i64 span, .slice (some ⟨g, 0, none⟩) L.length L.length]) ∧ w.heap.size ≤ g ∧ PRow w' g 0 L ∧ Below w.heap.size w w' := by
  have HA : Hid (L = [] ∨ ∃ b o, a = some ⟨b, o, none⟩ ∧ PArg w b o L) := ha
  clear ha
  go_enter Tryz.func50, Tryz.ntmps50
  go_wp2_with fail
  have hpa : ∀ W : World, Below w.heap.size w W → (L = [] ∨ ∃ b o, a = some ⟨b, o, none⟩ ∧ PArg W b o L) := fun W hW => by
    rcases HA.out with h | ⟨b, o, h1, h2⟩
    · exact Or.inl h
    · exact Or.inr ⟨b, o, h1, h2.below hW⟩
  refine (to_samples a cap L _ (hpa _ ((((Below.refl _ _).alloc (Nat.le_refl _) _).alloc (by simp) _).alloc (by simp; omega) _)) hl).mono ?_
  rintro e w1 ⟨g, rfl, hg, hr, hb⟩
  obtain ⟨b1, b2, hz⟩ := three_blocks hb
  have c0 := cell_blk b2 0
  have c1 := cell_blk b2 1
  have d0 := cell_blk b1 0
  have d1 := cell_blk b1 1
  have f0 := fz_blk b2 0
  have f1 := fz_blk b2 1
  have e0 := fz_blk b1 0
  have e1 := fz_blk b1 1
  simp only [List.getElem?_toArray, List.getElem?_cons_zero, List.getElem?_cons_succ] at c0 c1 d0 d1
  have HR : Hid (PRow w1 g 0 L) := hr
  have HB : Hid (Below w.heap.size w w1) := ((((Below.refl _ _).alloc (Nat.le_refl _) _).alloc (by simp) _).alloc (by simp; omega) _).trans (hb.mono (by simp; omega))
  have hg2 : w.heap.size + 1 + 1 + 1 ≤ g := by simpa using hg
  clear hb hg hr b1 b2
  go_wp2
  refine bodyPost_ret (v := .agg #[.int .i64 span, .slice (some ⟨g, 0, none⟩) L.length L.length]) (by simp [results, Tryz.results50, go_sem, d0, d1]) rfl ⟨g, rfl, by omega, ?_, ?_⟩
  · refine HR.out.same ?_
    rw [Below.heap_setCell _ _ _ _ (by show g ≠ w.heap.size + 1; omega), Below.heap_setCell _ _ _ _ (by show g ≠ w.heap.size + 1; omega), Below.heap_setCell _ _ _ _ (by show g ≠ w.heap.size + 1 + 1; omega)]
  · exact ((HB.out.setCell (by show w.heap.size ≤ w.heap.size + 1 + 1; omega) _).setCell (by show w.heap.size ≤ w.heap.size + 1; omega) _).setCell (by show w.heap.size ≤ w.heap.size + 1; omega) _

set_option maxHeartbeats 1000000 in
theorem eq_window (span : Int) (a1 a2 : Option Addr) (c1 c2 : Nat) (L : List (Int × Int)) (w : World) (h1 : WOk w a1 L) (h2 : WOk w a2 L) (hl : L.length ≤ 1048577) :
    Calls Tryz.prog 70 #[.agg #[.int .i64 span, .slice a1 L.length c1], .agg #[.int .i64 span, .slice a2 L.length c2]] w fun e w' => e = .returned (.bool true) ∧ Below w.heap.size w w' := by
  have H1 : Hid (WOk w a1 L) := h1
  have H2 : Hid (WOk w a2 L) := h2
  clear h1 h2
  have t1 : (span != span) = false := by simp
  go_enter Tryz.func70, Tryz.ntmps70
  go_wp2_with fail
  have B2 : ∀ A B : Obj, Below w.heap.size w ((w.alloc A).alloc B) := fun A B => ((Below.refl _ _).alloc (Nat.le_refl _) _).alloc (by simp) _
  refine (eq_any a1 a2 c1 c2 L _ (H1.out.below (B2 _ _)) (H2.out.below (B2 _ _)) hl).mono ?_
  rintro e w1 ⟨rfl, hb⟩
  have HB : Hid (Below w.heap.size w w1) := (B2 _ _).trans (hb.mono (by simp; omega))
  clear hb B2
  go_wp2
  go_ret
  exact ⟨rfl, HB.out⟩

theorem sz_window (span : Int) (a : Option Addr) (c n : Nat) (w : World) (hn : (n : Int) ≤ 9223372036854775807) :
    Calls Tryz.prog 38 #[.agg #[.int .i64 span, .slice a n c], .int .i64 1048576] w fun e w' => e = .returned (.int .i64 (if (n : Int) ≤ 1048576 then 1048576 - (n : Int) else -1)) ∧ Below w.heap.size w w' := by
  by_cases h : (n : Int) ≤ 1048576
  · rw [if_pos h]
    go_enter Tryz.func38, Tryz.ntmps38
    go_wp2
    go_ret
    exact ⟨rfl, (Below.refl _ _).alloc (Nat.le_refl _) _⟩
  · rw [if_neg h]
    go_enter Tryz.func38, Tryz.ntmps38
    go_wp2
    go_ret
    exact ⟨rfl, (Below.refl _ _).alloc (Nat.le_refl _) _⟩
end Go.Proofs.YtnabnghjejncpaaGreat.PairWalks
end

section
namespace Go.Proofs.YtnabnghjejncpaaGreat.WinOk
open Go.RowKit PairWalks

theorem below_drewN {B : Nat} {w w1 : World} (h : Below B w w1) (n : Nat) : Below B w (w1.drewN n) := ⟨h.os, h.tape, h.output, h.size, h.block⟩

/-- A time and a latency. -/
def inB (p : Int × Int) : Prop := 0 ≤ p.1 ∧ p.1 ≤ 1000000000 ∧ 0 ≤ p.2 ∧ p.2 ≤ 1000000

/-- Sample i is in bounds, and behind its neighbour in both. -/
def okAt (L : List (Int × Int)) (i : Nat) (h : i < L.length) : Prop := inB L[i] ∧ (0 < i → (L[i - 1]'(by omega)).1 < L[i].1 ∧ (L[i - 1]'(by omega)).2 < L[i].2)

/-- A window is right. -/
def winOk (span : Int) (L : List (Int × Int)) : Prop := 1 ≤ span ∧ span ≤ 100000 ∧ L.length ≤ 200 ∧ ∀ (i : Nat) (h : i < L.length), okAt L i h

set_option maxHeartbeats 2000000 in
theorem spec_ok (span : Int) (a : Option Addr) (c : Nat) (L : List (Int × Int)) (B : Bool) (w : World) (ha : WOk w a L) (hl : (L.length : Int) ≤ 1048577) (HB : Hid (B = true ↔ winOk span L)) :
    Calls Tryz.prog 80 #[.agg #[.int .i64 span, .slice a L.length c]] w fun e w' => e = .returned (.bool B) ∧ Below w.heap.size w w' := by
  have HA : Hid (WOk w a L) := ha
  clear ha
  obtain ⟨n, hn⟩ : ∃ n, L.length = n := ⟨_, rfl⟩
  have HN : Hid (L.length = n) := hn
  rw [hn] at hl ⊢
  clear hn
  have bf : Hid (¬ winOk span L → B = false) := fun h => by cases B with
    | false => rfl
    | true => exact absurd (HB.out.1 rfl) h
  have bt : Hid (winOk span L → B = true) := fun h => HB.out.2 h
  by_cases s1 : span < 1
  · have hB : B = false := bf.out fun h => by have := h.1; omega
    subst hB
    go_enter Tryz.func80, Tryz.ntmps80
    go_wp2
    go_ret
    exact ⟨rfl, (Below.refl _ _).alloc (Nat.le_refl _) _⟩
  · by_cases s2 : 100000 < span
    · have hB : B = false := bf.out fun h => by have := h.2.1; omega
      subst hB
      go_enter Tryz.func80, Tryz.ntmps80
      go_wp2
      go_ret
      exact ⟨rfl, (Below.refl _ _).alloc (Nat.le_refl _) _⟩
    · by_cases s3 : (200 : Int) < (n : Int)
      · have hB : B = false := bf.out fun h => by have := h.2.2.1; rw [HN.out] at this; omega
        subst hB
        go_enter Tryz.func80, Tryz.ntmps80
        go_wp2
        go_ret
        exact ⟨rfl, (Below.refl _ _).alloc (Nat.le_refl _) _⟩
      · go_enter Tryz.func80, Tryz.ntmps80
        go_wp2
        go_loopw [22] (fun i wr => ∃ k : Nat, k ≤ n ∧ i = .int .i64 k ∧ Hid (∀ (j : Nat) (h : j < L.length), j < k → okAt L j h) ∧ Hid (Below (w.heap.size + 1) (w.alloc (.cells #[.int .i64 span, .slice a n c] 50)) wr)) (fun i _ => n - (intOf i).toNat)
        case atStart => exact ⟨0, by omega, rfl, fun j _ hj => by omega, Below.refl _ _⟩
        case round =>
          obtain ⟨k, hk, rfl, HK, HW⟩ := hrel
          by_cases hlt : k < n
          · have hlt2 : k < L.length := by rw [HN.out]; exact hlt
            rcases HA.out with hnil | ⟨g, o, rfl, hr⟩
            · rw [hnil] at hlt2; simp at hlt2
            · have hg := hr.lt
              have hr1 : PRow wr g o L := hr.same ((HW.out.block g (by omega)).trans (Below.heap_alloc w _ g hg))
              have q0 := hr1.c0 k hlt2
              have q1 := hr1.c1 k hlt2
              obtain ⟨x, hx⟩ : ∃ x, L[k].1 = x := ⟨_, rfl⟩
              obtain ⟨y, hy⟩ : ∃ y, L[k].2 = y := ⟨_, rfl⟩
              rw [hx] at q0
              rw [hy] at q1
              have hli : (k : Int) < (n : Int) := by omega
              have BB : Below w.heap.size w (wr.alloc (.cells #[.int .i64 x, .int .i64 y] 155)) := (((Below.refl _ _).alloc (Nat.le_refl _) _).trans (HW.out.mono (by omega))).alloc (by have := HW.out.size; simp at this; omega) _
              by_cases t0 : x < 0
              · skip
                have hB : B = false := bf.out fun h => by
                  have h2 := (h.2.2.2 k hlt2).1
                  unfold inB at h2
                  rw [hx, hy] at h2
                  omega
                subst hB
                go_wp2_with (first | (go_at_call 42; go_in) | (go_at_call 105; go_in))
                go_ret
                exact ⟨rfl, BB⟩
              · by_cases t1 : 1000000000 < x
                · have d1 : decide (x ≤ 1000000000) = false := by simp; omega
                  have hB : B = false := bf.out fun h => by
                    have h2 := (h.2.2.2 k hlt2).1
                    unfold inB at h2
                    rw [hx, hy] at h2
                    omega
                  subst hB
                  go_wp2_with (first | (go_at_call 42; go_in) | (go_at_call 105; go_in))
                  go_ret
                  exact ⟨rfl, BB⟩
                · have d1 : decide (x ≤ 1000000000) = true := by simp; omega
                  by_cases t2 : y < 0
                  · skip
                    have hB : B = false := bf.out fun h => by
                      have h2 := (h.2.2.2 k hlt2).1
                      unfold inB at h2
                      rw [hx, hy] at h2
                      omega
                    subst hB
                    go_wp2_with (first | (go_at_call 42; go_in) | (go_at_call 105; go_in))
                    go_ret
                    exact ⟨rfl, BB⟩
                  · by_cases t3 : 1000000 < y
                    · have d2 : decide (y ≤ 1000000) = false := by simp; omega
                      have hB : B = false := bf.out fun h => by
                        have h2 := (h.2.2.2 k hlt2).1
                        unfold inB at h2
                        rw [hx, hy] at h2
                        omega
                      subst hB
                      go_wp2_with (first | (go_at_call 42; go_in) | (go_at_call 105; go_in))
                      go_ret
                      exact ⟨rfl, BB⟩
                    · have d2 : decide (y ≤ 1000000) = true := by simp; omega
                      have HIN : Hid (inB L[k]) := by
                        show inB _
                        unfold inB
                        rw [hx, hy]
                        omega
                      have HB2 : Hid (Below (w.heap.size + 1) (w.alloc (.cells #[.int .i64 span, .slice (some ⟨g, o, none⟩) n c] 50)) (wr.alloc (.cells #[.int .i64 x, .int .i64 y] 155))) := HW.out.alloc (by have := HW.out.size; simp at this; omega) _
                      by_cases hk0 : k = 0
                      · have HK2 : Hid (∀ (j : Nat) (h : j < L.length), j < k + 1 → okAt L j h) := fun j h hj => by
                          obtain rfl : j = k := by omega
                          exact ⟨HIN.out, fun h0 => by omega⟩
                        have HZ : Hid (k = 0) := hk0
                        have d3 : decide ((k : Int) > 0) = false := by simp; omega
                        have d4 : decide ((0 : Int) < (k : Int)) = false := by simp; omega
                        have d5 : decide (0 < k) = false := by simp; omega
                        clear hk0
                        go_wp2_with (first | (go_at_call 42; go_in) | (go_at_call 105; go_in))
                        go_quiet (fail)
                        go_wp2
                        go_roundw
                        case rel => exact ⟨k + 1, by omega, by go_num, HK2, below_drewN HB2.out _⟩
                        case measure => simp [intOf]; omega
                      · obtain ⟨j, hj⟩ : ∃ j, k = j + 1 := ⟨k - 1, by omega⟩
                        have hj2 : j < L.length := by omega
                        have hr2 : PRow (wr.alloc (.cells #[.int .i64 x, .int .i64 y] 155)) g o L := hr1.same (Below.heap_alloc wr _ g hr1.lt)
                        have p0 := hr2.c0 j hj2
                        have p1 := hr2.c1 j hj2
                        clear hr2
                        obtain ⟨x0, hx0⟩ : ∃ x0, L[j].1 = x0 := ⟨_, rfl⟩
                        obtain ⟨y0, hy0⟩ : ∃ y0, L[j].2 = y0 := ⟨_, rfl⟩
                        rw [hx0] at p0
                        rw [hy0] at p1
                        have box : (wr.alloc (.cells #[.int .i64 x, .int .i64 y] 155)).cell? ⟨w.heap.size, 1, none⟩ = some (.slice (some ⟨g, o, none⟩) n c) := by
                          rw [HB2.out.cell (by simp)]
                          simp
                        have e1 : (k : Int) - 1 = (j : Int) := by omega
                        have e2 : IntKind.i64.wrap (j : Int) = (j : Int) := by rw [IntKind.wrap_i64]; omega
                        have l1 : (j : Int) < (n : Int) := by omega
                        have l2 : (0 : Int) ≤ (j : Int) := by omega
                        have HJ : Hid (k = j + 1) := hj
                        have d3 : (0 : Int) < (k : Int) := by omega
                        have d5 : 0 < k := by omega
                        have d6 : decide (0 < k) = true := by simp; omega
                        clear hj hk0
                        have HX : Hid (winOk span L → x0 < x ∧ y0 < y) := fun h => by
                          have h2 := (h.2.2.2 k hlt2).2 (by omega)
                          have ek : k - 1 = j := by have := HJ.out; omega
                          simp only [ek] at h2
                          rw [hx, hy, hx0, hy0] at h2
                          exact h2
                        by_cases u0 : x ≤ x0
                        · have hB : B = false := bf.out fun h => by have := (HX.out h).1; omega
                          subst hB
                          go_wp2_with (first | (go_at_call 42; go_in) | (go_at_call 105; go_in))
                          go_quiet (fail)
                          go_wp2
                          go_ret
                          exact ⟨rfl, below_drewN BB _⟩
                        · have f0 : decide (x ≤ x0) = false := by simp; omega
                          by_cases u1 : y ≤ y0
                          · have hB : B = false := bf.out fun h => by have := (HX.out h).2; omega
                            subst hB
                            go_wp2_with (first | (go_at_call 42; go_in) | (go_at_call 105; go_in))
                            go_quiet (fail)
                            go_wp2
                            go_ret
                            exact ⟨rfl, below_drewN BB _⟩
                          · have f1 : decide (y ≤ y0) = false := by simp; omega
                            have HK2 : Hid (∀ (j : Nat) (h : j < L.length), j < k + 1 → okAt L j h) := fun i h hi => by
                              by_cases hik : i < k
                              · exact HK.out i h hik
                              · obtain rfl : i = k := by omega
                                refine ⟨HIN.out, fun _ => ?_⟩
                                have ek : i - 1 = j := by have := HJ.out; omega
                                simp only [ek]
                                rw [hx, hy, hx0, hy0]
                                omega
                            go_wp2_with (first | (go_at_call 42; go_in) | (go_at_call 105; go_in))
                            go_quiet (fail)
                            go_wp2
                            go_roundw
                            case rel => exact ⟨k + 1, by omega, by go_num, HK2, below_drewN HB2.out _⟩
                            case measure => simp [intOf]; omega
          · obtain rfl : k = n := by omega
            have hB : B = true := bt.out ⟨by omega, by omega, by rw [HN.out]; omega, fun j h => HK.out j h (by rw [← HN.out]; exact h)⟩
            subst hB
            have BB : Below w.heap.size w wr := ((Below.refl _ _).alloc (Nat.le_refl _) _).trans (HW.out.mono (by omega))
            go_wp2
            go_ret
            exact ⟨rfl, BB⟩
end Go.Proofs.YtnabnghjejncpaaGreat.WinOk
end

section
namespace Go.Proofs.YtnabnghjejncpaaGreat.MarkKit
open Go.RowKit PairWalks

/-- The block of a list that has a sample. -/
def blkL (a : Option Addr) (L : List (Int × Int)) : Option Nat := match L with
  | [] => none
  | _ :: _ => blk a

end Go.Proofs.YtnabnghjejncpaaGreat.MarkKit
end

section
namespace Go.Proofs.YtnabnghjejncpaaGreat.LimKit
open Go.RowKit PairWalks MarkKit

theorem bcell {W w1 : World} (hb : Below W.heap.size W w1) : (∀ b o, b < W.heap.size → w1.cell? ⟨b, o, none⟩ = W.cell? ⟨b, o, none⟩) ∧ (∀ b o, b < W.heap.size → w1.frozen? ⟨b, o, none⟩ = W.frozen? ⟨b, o, none⟩) :=
  ⟨fun b o h => hb.cell (p := ⟨b, o, none⟩) h, fun b o h => hb.frozen (p := ⟨b, o, none⟩) h⟩

theorem _root_.Go.Proofs.YtnabnghjejncpaaGreat.PairWalks.PRow.set {w : World} {g o : Nat} {L : List (Int × Int)} {p : Addr} (h : PRow w g o L) (hne : g ≠ p.block) (v : Value) : PRow (w.setCell p v) g o L := h.same (Below.heap_setCell _ _ _ _ hne)

theorem to_cfg (k mn mx sp sl : Int) (w : World) :
    Calls Tryz.prog 49 #[.agg #[.int .i64 k, .int .i64 mn, .int .i64 mx, .int .i64 sp, .int .i64 sl]] w fun e w' => e = .returned (.agg #[.int .i64 k, .int .i64 mn, .int .i64 mx, .int .i64 sp, .int .i64 sl]) ∧ Below w.heap.size w w' := by
  go_enter Tryz.func49, Tryz.ntmps49
  go_wp2
  exact bodyPost_ret (v := .agg #[.int .i64 k, .int .i64 mn, .int .i64 mx, .int .i64 sp, .int .i64 sl]) (by simp [results, Tryz.results49, go_sem]) rfl ⟨rfl, (((Below.refl _ _).alloc (Nat.le_refl _) _).alloc (by simp) _).alloc (by simp; omega) _⟩

set_option maxHeartbeats 1000000 in
theorem eq_cfg (k mn mx sp sl : Int) (w : World) :
    Calls Tryz.prog 69 #[.agg #[.int .i64 k, .int .i64 mn, .int .i64 mx, .int .i64 sp, .int .i64 sl], .agg #[.int .i64 k, .int .i64 mn, .int .i64 mx, .int .i64 sp, .int .i64 sl]] w fun e w' => e = .returned (.bool true) ∧ Below w.heap.size w w' := by
  have h1 : (k != k) = false := by simp
  have h2 : (mn != mn) = false := by simp
  have h3 : (mx != mx) = false := by simp
  have h4 : (sp != sp) = false := by simp
  have h5 : (sl != sl) = false := by simp
  go_enter Tryz.func69, Tryz.ntmps69
  go_wp2
  go_ret
  exact ⟨rfl, ((Below.refl _ _).alloc (Nat.le_refl _) _).alloc (by simp) _⟩

set_option maxHeartbeats 2000000 in
theorem to_lim (k mn mx sp sl li gd av ws : Int) (a : Option Addr) (cap : Nat) (L : List (Int × Int)) (w : World) (ha : L = [] ∨ ∃ b o, a = some ⟨b, o, none⟩ ∧ PArg w b o L) (hl : L.length ≤ 1048577) :
    Calls Tryz.prog 20 #[.agg #[.int .i64 k, .int .i64 mn, .int .i64 mx, .int .i64 sp, .int .i64 sl, .int .i64 li, .int .i64 gd, .int .i64 av, .int .i64 ws, .slice a L.length cap]] w fun e w' => ∃ g, e = .returned (.agg #[.int .i64 k, .int .i64 mn, .int .i64 mx, .int .i64 sp, .int .i64 sl, .int .i64 li, .int .i64 gd, .int .i64 av, .int .i64 ws, .slice (some ⟨g, 0, none⟩) L.length L.length]) ∧ w.heap.size ≤ g ∧ PRow w' g 0 L ∧ Below w.heap.size w w' := by
  have HA : Hid (∀ W : World, Below w.heap.size w W → (L = [] ∨ ∃ b o, a = some ⟨b, o, none⟩ ∧ PArg W b o L)) := fun W hW => by
    rcases ha with h | ⟨b, o, h1, h2⟩
    · exact Or.inl h
    · exact Or.inr ⟨b, o, h1, h2.below hW⟩
  clear ha
  go_enter Tryz.func20, Tryz.ntmps20
  go_wp2_with fail
  refine (to_cfg k mn mx sp sl _).mono ?_
  rintro e w1 ⟨rfl, hb1⟩
  obtain ⟨hc1, hf1⟩ := bcell hb1
  have hz1 : w.heap.size + 1 + 1 < w1.heap.size := by have := hb1.size; simp at this; omega
  have hy1 : w.heap.size + 1 < w1.heap.size := by omega
  have hx1 : w.heap.size < w1.heap.size := by omega
  have B1 : Hid (Below w.heap.size w w1) := ((((Below.refl _ _).alloc (Nat.le_refl _) _).alloc (by simp) _).alloc (by simp; omega) _).trans (hb1.mono (by simp; omega))
  clear hb1
  go_wp2_with fail
  refine (to_window ws a cap L _ (HA.out _ (((((((((B1.out).setCell (Nat.le_add_right _ 2) _).setCell (Nat.le_add_right _ 2) _).setCell (Nat.le_add_right _ 2) _).setCell (Nat.le_add_right _ 2) _).setCell (Nat.le_add_right _ 2) _).setCell (Nat.le_add_right _ 2) _).setCell (Nat.le_add_right _ 2) _).setCell (Nat.le_add_right _ 2) _)) hl).mono ?_
  rintro e w2 ⟨g, rfl, hg, hr, hb2⟩
  obtain ⟨hc2, hf2⟩ := bcell hb2
  have hz2 : w.heap.size + 1 + 1 < w2.heap.size := by have := hb2.size; simp at this; omega
  have hy2 : w.heap.size + 1 < w2.heap.size := by omega
  have hx2 : w.heap.size < w2.heap.size := by omega
  have hg2 : w.heap.size + 1 + 1 < g := by simp at hg; omega
  have HR : Hid (PRow w2 g 0 L) := hr
  have B2 : Hid (Below w.heap.size w w2) := (((((((((B1.out).setCell (Nat.le_add_right _ 2) _).setCell (Nat.le_add_right _ 2) _).setCell (Nat.le_add_right _ 2) _).setCell (Nat.le_add_right _ 2) _).setCell (Nat.le_add_right _ 2) _).setCell (Nat.le_add_right _ 2) _).setCell (Nat.le_add_right _ 2) _).setCell (Nat.le_add_right _ 2) _).trans (hb2.mono (by simp; omega))
  clear hb2 hg hr
  go_wp2
  refine bodyPost_ret (v := .agg #[.int .i64 k, .int .i64 mn, .int .i64 mx, .int .i64 sp, .int .i64 sl, .int .i64 li, .int .i64 gd, .int .i64 av, .int .i64 ws, .slice (some ⟨g, 0, none⟩) L.length L.length]) (by simp [results, Tryz.results20, go_sem, hc1, hc2, hy1]) rfl ⟨g, rfl, by omega, ?_, ?_⟩
  · exact ((((((((((((HR.out).set (Nat.ne_of_gt hg2) _).set (Nat.ne_of_gt hg2) _).set (by show g ≠ w.heap.size + 1; omega) _).set (by show g ≠ w.heap.size + 1; omega) _).set (by show g ≠ w.heap.size + 1; omega) _).set (by show g ≠ w.heap.size + 1; omega) _).set (by show g ≠ w.heap.size + 1; omega) _).set (by show g ≠ w.heap.size + 1; omega) _).set (by show g ≠ w.heap.size + 1; omega) _).set (by show g ≠ w.heap.size + 1; omega) _).set (by show g ≠ w.heap.size + 1; omega) _).set (by show g ≠ w.heap.size + 1; omega) _
  · exact ((((((((((((B2.out).setCell (Nat.le_add_right _ 2) _).setCell (Nat.le_add_right _ 2) _).setCell (Nat.le_add_right _ 1) _).setCell (Nat.le_add_right _ 1) _).setCell (Nat.le_add_right _ 1) _).setCell (Nat.le_add_right _ 1) _).setCell (Nat.le_add_right _ 1) _).setCell (Nat.le_add_right _ 1) _).setCell (Nat.le_add_right _ 1) _).setCell (Nat.le_add_right _ 1) _).setCell (Nat.le_add_right _ 1) _).setCell (Nat.le_add_right _ 1) _

set_option maxHeartbeats 2000000 in
theorem eq_lim (k mn mx sp sl li gd av ws : Int) (a1 a2 : Option Addr) (c1 c2 : Nat) (L : List (Int × Int)) (w : World) (h1 : WOk w a1 L) (h2 : WOk w a2 L) (hl : L.length ≤ 1048577) :
    Calls Tryz.prog 32 #[.agg #[.int .i64 k, .int .i64 mn, .int .i64 mx, .int .i64 sp, .int .i64 sl, .int .i64 li, .int .i64 gd, .int .i64 av, .int .i64 ws, .slice a1 L.length c1], .agg #[.int .i64 k, .int .i64 mn, .int .i64 mx, .int .i64 sp, .int .i64 sl, .int .i64 li, .int .i64 gd, .int .i64 av, .int .i64 ws, .slice a2 L.length c2]] w fun e w' => e = .returned (.bool true) ∧ Below w.heap.size w w' := by
  have H1 : Hid (WOk w a1 L) := h1
  have H2 : Hid (WOk w a2 L) := h2
  clear h1 h2
  have t5 : (li != li) = false := by simp
  have t6 : (gd != gd) = false := by simp
  have t7 : (av != av) = false := by simp
  go_enter Tryz.func32, Tryz.ntmps32
  go_wp2_with fail
  refine (eq_cfg k mn mx sp sl _).mono ?_
  rintro e w1 ⟨rfl, hb1⟩
  obtain ⟨hc1, hf1⟩ := bcell hb1
  have hy1 : w.heap.size + 1 < w1.heap.size := by have := hb1.size; simp at this; omega
  have hx1 : w.heap.size < w1.heap.size := by omega
  have B1 : Hid (Below w.heap.size w w1) := (((Below.refl _ _).alloc (Nat.le_refl _) _).alloc (by simp) _).trans (hb1.mono (by simp; omega))
  clear hb1
  go_wp2_with fail
  refine (eq_window ws a1 a2 c1 c2 L _ (H1.out.below B1.out) (H2.out.below B1.out) hl).mono ?_
  rintro e w2 ⟨rfl, hb2⟩
  have B2 : Hid (Below w.heap.size w w2) := B1.out.trans (hb2.mono (by omega))
  clear hb2
  go_wp2
  go_ret
  exact ⟨rfl, B2.out⟩

theorem sz_lim (k mn mx sp sl li gd av ws : Int) (a : Option Addr) (c n : Nat) (w : World) (hn : (n : Int) ≤ 9223372036854775807) :
    Calls Tryz.prog 9 #[.agg #[.int .i64 k, .int .i64 mn, .int .i64 mx, .int .i64 sp, .int .i64 sl, .int .i64 li, .int .i64 gd, .int .i64 av, .int .i64 ws, .slice a n c], .int .i64 1048576] w fun e w' => e = .returned (.int .i64 (if (n : Int) ≤ 1048576 then 1048576 - (n : Int) else -1)) ∧ Below w.heap.size w w' := by
  by_cases h : (n : Int) ≤ 1048576
  · have HS := fun W => sz_window ws a c n W hn
    rw [if_pos h] at HS ⊢
    go_enter Tryz.func9, Tryz.ntmps9
    go_wp2_with (go_at_call 38; refine (HS _).mono ?_; rintro e w1 ⟨rfl, hb⟩)
    go_ret
    exact ⟨rfl, ((Below.refl _ _).alloc (Nat.le_refl _) _).trans (hb.mono (by simp))⟩
  · have HS := fun W => sz_window ws a c n W hn
    rw [if_neg h] at HS ⊢
    go_enter Tryz.func9, Tryz.ntmps9
    go_wp2_with (go_at_call 38; refine (HS _).mono ?_; rintro e w1 ⟨rfl, hb⟩)
    go_ret
    exact ⟨rfl, ((Below.refl _ _).alloc (Nat.le_refl _) _).trans (hb.mono (by simp))⟩

end Go.Proofs.YtnabnghjejncpaaGreat.LimKit
end

section
namespace Go.Proofs.YtnabnghjejncpaaGreat.LimSpec
open Go.RowKit PairWalks WinOk LimKit

/-- A configuration is right. -/
def cfgOk (k mn mx sp sl : Int) : Prop := (k = 1 ∨ k = 2) ∧ 1 ≤ mn ∧ mn ≤ mx ∧ mx ≤ 1000 ∧ 1 ≤ sp ∧ sp ≤ 100000 ∧ 0 ≤ sl ∧ sl ≤ 1000000

set_option maxHeartbeats 2000000 in
theorem spec_cfgok (k mn mx sp sl : Int) (B : Bool) (w : World) (HB : Hid (B = true ↔ cfgOk k mn mx sp sl)) :
    Calls Tryz.prog 79 #[.agg #[.int .i64 k, .int .i64 mn, .int .i64 mx, .int .i64 sp, .int .i64 sl]] w fun e w' => e = .returned (.bool B) ∧ Below w.heap.size w w' := by
  have bf : Hid (¬ cfgOk k mn mx sp sl → B = false) := fun h => by cases B with
    | false => rfl
    | true => exact absurd (HB.out.1 rfl) h
  have bt : Hid (cfgOk k mn mx sp sl → B = true) := fun h => HB.out.2 h
  by_cases k1 : k = 1
  · have k1b : (k == 1) = true := by simpa using k1
    have K1 : Hid (k = 1) := k1
    clear k1
    by_cases t0 : 1 ≤ mn
    · skip
      have t0d0 : decide (1 ≤ mn) = true := by simp; omega
      by_cases t1 : mn ≤ mx
      · skip
        have t1d0 : decide (mn ≤ mx) = true := by simp; omega
        by_cases t2 : mx ≤ 1000
        · skip
          have t2d0 : decide (mx ≤ 1000) = true := by simp; omega
          by_cases t3 : 1 ≤ sp
          · skip
            have t3d0 : decide (1 ≤ sp) = true := by simp; omega
            by_cases t4 : sp ≤ 100000
            · skip
              have t4d0 : decide (sp ≤ 100000) = true := by simp; omega
              by_cases t5 : 0 ≤ sl
              · skip
                have t5d0 : decide (0 ≤ sl) = true := by simp; omega
                by_cases t6 : sl ≤ 1000000
                · skip
                  have t6d0 : decide (sl ≤ 1000000) = true := by simp; omega
                  have k1 := K1.out
                  have hB : B = true := bt.out (by unfold cfgOk; omega)
                  subst hB
                  go_enter Tryz.func79, Tryz.ntmps79
                  go_wp2_with (go_at_call 105; go_in)
                  go_ret
                  exact ⟨rfl, (Below.refl _ _).alloc (Nat.le_refl _) _⟩
                · have t6n : 1000000 < sl := by omega
                  have t6d0 : decide (sl ≤ 1000000) = false := by simp; omega
                  clear t6
                  have k1 := K1.out
                  have hB : B = false := bf.out fun h => by unfold cfgOk at h; omega
                  subst hB
                  go_enter Tryz.func79, Tryz.ntmps79
                  go_wp2_with (go_at_call 105; go_in)
                  go_ret
                  exact ⟨rfl, (Below.refl _ _).alloc (Nat.le_refl _) _⟩
              · have t5n : sl < 0 := by omega
                have t5d0 : decide (0 ≤ sl) = false := by simp; omega
                clear t5
                have k1 := K1.out
                have hB : B = false := bf.out fun h => by unfold cfgOk at h; omega
                subst hB
                go_enter Tryz.func79, Tryz.ntmps79
                go_wp2_with (go_at_call 105; go_in)
                go_ret
                exact ⟨rfl, (Below.refl _ _).alloc (Nat.le_refl _) _⟩
            · have t4n : 100000 < sp := by omega
              have t4d0 : decide (sp ≤ 100000) = false := by simp; omega
              clear t4
              have k1 := K1.out
              have hB : B = false := bf.out fun h => by unfold cfgOk at h; omega
              subst hB
              go_enter Tryz.func79, Tryz.ntmps79
              go_wp2_with (go_at_call 105; go_in)
              go_ret
              exact ⟨rfl, (Below.refl _ _).alloc (Nat.le_refl _) _⟩
          · have t3n : sp < 1 := by omega
            have t3d0 : decide (1 ≤ sp) = false := by simp; omega
            clear t3
            have k1 := K1.out
            have hB : B = false := bf.out fun h => by unfold cfgOk at h; omega
            subst hB
            go_enter Tryz.func79, Tryz.ntmps79
            go_wp2_with (go_at_call 105; go_in)
            go_ret
            exact ⟨rfl, (Below.refl _ _).alloc (Nat.le_refl _) _⟩
        · have t2n : 1000 < mx := by omega
          have t2d0 : decide (mx ≤ 1000) = false := by simp; omega
          clear t2
          have k1 := K1.out
          have hB : B = false := bf.out fun h => by unfold cfgOk at h; omega
          subst hB
          go_enter Tryz.func79, Tryz.ntmps79
          go_wp2_with (go_at_call 105; go_in)
          go_ret
          exact ⟨rfl, (Below.refl _ _).alloc (Nat.le_refl _) _⟩
      · have t1n : mx < mn := by omega
        have t1d0 : decide (mn ≤ mx) = false := by simp; omega
        clear t1
        have k1 := K1.out
        have hB : B = false := bf.out fun h => by unfold cfgOk at h; omega
        subst hB
        go_enter Tryz.func79, Tryz.ntmps79
        go_wp2_with (go_at_call 105; go_in)
        go_ret
        exact ⟨rfl, (Below.refl _ _).alloc (Nat.le_refl _) _⟩
    · have t0n : mn < 1 := by omega
      have t0d0 : decide (1 ≤ mn) = false := by simp; omega
      clear t0
      have k1 := K1.out
      have hB : B = false := bf.out fun h => by unfold cfgOk at h; omega
      subst hB
      go_enter Tryz.func79, Tryz.ntmps79
      go_wp2_with (go_at_call 105; go_in)
      go_ret
      exact ⟨rfl, (Below.refl _ _).alloc (Nat.le_refl _) _⟩
  · have k1b : (k == 1) = false := by simpa using k1
    by_cases k2 : k = 2
    · have k2b : (k == 2) = true := by simpa using k2
      have K1 : Hid (k = 2) := k2
      clear k1 k2
      by_cases t0 : 1 ≤ mn
      · skip
        have t0d0 : decide (1 ≤ mn) = true := by simp; omega
        by_cases t1 : mn ≤ mx
        · skip
          have t1d0 : decide (mn ≤ mx) = true := by simp; omega
          by_cases t2 : mx ≤ 1000
          · skip
            have t2d0 : decide (mx ≤ 1000) = true := by simp; omega
            by_cases t3 : 1 ≤ sp
            · skip
              have t3d0 : decide (1 ≤ sp) = true := by simp; omega
              by_cases t4 : sp ≤ 100000
              · skip
                have t4d0 : decide (sp ≤ 100000) = true := by simp; omega
                by_cases t5 : 0 ≤ sl
                · skip
                  have t5d0 : decide (0 ≤ sl) = true := by simp; omega
                  by_cases t6 : sl ≤ 1000000
                  · skip
                    have t6d0 : decide (sl ≤ 1000000) = true := by simp; omega
                    have k1 := K1.out
                    have hB : B = true := bt.out (by unfold cfgOk; omega)
                    subst hB
                    go_enter Tryz.func79, Tryz.ntmps79
                    go_wp2_with (go_at_call 105; go_in)
                    go_ret
                    exact ⟨rfl, (Below.refl _ _).alloc (Nat.le_refl _) _⟩
                  · have t6n : 1000000 < sl := by omega
                    have t6d0 : decide (sl ≤ 1000000) = false := by simp; omega
                    clear t6
                    have k1 := K1.out
                    have hB : B = false := bf.out fun h => by unfold cfgOk at h; omega
                    subst hB
                    go_enter Tryz.func79, Tryz.ntmps79
                    go_wp2_with (go_at_call 105; go_in)
                    go_ret
                    exact ⟨rfl, (Below.refl _ _).alloc (Nat.le_refl _) _⟩
                · have t5n : sl < 0 := by omega
                  have t5d0 : decide (0 ≤ sl) = false := by simp; omega
                  clear t5
                  have k1 := K1.out
                  have hB : B = false := bf.out fun h => by unfold cfgOk at h; omega
                  subst hB
                  go_enter Tryz.func79, Tryz.ntmps79
                  go_wp2_with (go_at_call 105; go_in)
                  go_ret
                  exact ⟨rfl, (Below.refl _ _).alloc (Nat.le_refl _) _⟩
              · have t4n : 100000 < sp := by omega
                have t4d0 : decide (sp ≤ 100000) = false := by simp; omega
                clear t4
                have k1 := K1.out
                have hB : B = false := bf.out fun h => by unfold cfgOk at h; omega
                subst hB
                go_enter Tryz.func79, Tryz.ntmps79
                go_wp2_with (go_at_call 105; go_in)
                go_ret
                exact ⟨rfl, (Below.refl _ _).alloc (Nat.le_refl _) _⟩
            · have t3n : sp < 1 := by omega
              have t3d0 : decide (1 ≤ sp) = false := by simp; omega
              clear t3
              have k1 := K1.out
              have hB : B = false := bf.out fun h => by unfold cfgOk at h; omega
              subst hB
              go_enter Tryz.func79, Tryz.ntmps79
              go_wp2_with (go_at_call 105; go_in)
              go_ret
              exact ⟨rfl, (Below.refl _ _).alloc (Nat.le_refl _) _⟩
          · have t2n : 1000 < mx := by omega
            have t2d0 : decide (mx ≤ 1000) = false := by simp; omega
            clear t2
            have k1 := K1.out
            have hB : B = false := bf.out fun h => by unfold cfgOk at h; omega
            subst hB
            go_enter Tryz.func79, Tryz.ntmps79
            go_wp2_with (go_at_call 105; go_in)
            go_ret
            exact ⟨rfl, (Below.refl _ _).alloc (Nat.le_refl _) _⟩
        · have t1n : mx < mn := by omega
          have t1d0 : decide (mn ≤ mx) = false := by simp; omega
          clear t1
          have k1 := K1.out
          have hB : B = false := bf.out fun h => by unfold cfgOk at h; omega
          subst hB
          go_enter Tryz.func79, Tryz.ntmps79
          go_wp2_with (go_at_call 105; go_in)
          go_ret
          exact ⟨rfl, (Below.refl _ _).alloc (Nat.le_refl _) _⟩
      · have t0n : mn < 1 := by omega
        have t0d0 : decide (1 ≤ mn) = false := by simp; omega
        clear t0
        have k1 := K1.out
        have hB : B = false := bf.out fun h => by unfold cfgOk at h; omega
        subst hB
        go_enter Tryz.func79, Tryz.ntmps79
        go_wp2_with (go_at_call 105; go_in)
        go_ret
        exact ⟨rfl, (Below.refl _ _).alloc (Nat.le_refl _) _⟩
    · have k2b : (k == 2) = false := by simpa using k2

      have hB : B = false := bf.out fun h => by unfold cfgOk at h; omega
      subst hB
      go_enter Tryz.func79, Tryz.ntmps79
      go_wp2_with (go_at_call 105; go_in)
      go_ret
      exact ⟨rfl, (Below.refl _ _).alloc (Nat.le_refl _) _⟩
/-- A limit is right. -/
def limOk (k mn mx sp sl li gd av ws : Int) (L : List (Int × Int)) : Prop := cfgOk k mn mx sp sl ∧ mn ≤ li ∧ li ≤ mx ∧ 0 ≤ gd ∧ gd ≤ 1000 ∧ 0 ≤ av ∧ av ≤ 65536000000 ∧ winOk ws L ∧ ws = sp

theorem size1 {w w1 : World} {o : Obj} (h : Below (w.alloc o).heap.size (w.alloc o) w1) : w.heap.size < w1.heap.size := by
  have := h.size
  simp at this
  omega
theorem past_box {w w1 : World} {o : Obj} (h : Below (w.alloc o).heap.size (w.alloc o) w1) : Below w.heap.size w w1 := ((Below.refl _ _).alloc (Nat.le_refl _) _).trans (h.mono (by simp))

theorem flag (p : Prop) : ∃ B : Bool, Hid (B = true ↔ p) := by
  by_cases h : p
  · exact ⟨true, ⟨fun _ => h, fun _ => rfl⟩⟩
  · exact ⟨false, ⟨fun e => (by cases e), fun e => absurd e h⟩⟩

set_option maxHeartbeats 4000000 in
theorem spec_limok (k mn mx sp sl li gd av ws : Int) (a : Option Addr) (c : Nat) (L : List (Int × Int)) (B : Bool) (w : World) (ha : WOk w a L) (hl : (L.length : Int) ≤ 1048577) (HB : Hid (B = true ↔ limOk k mn mx sp sl li gd av ws L)) :
    Calls Tryz.prog 43 #[.agg #[.int .i64 k, .int .i64 mn, .int .i64 mx, .int .i64 sp, .int .i64 sl, .int .i64 li, .int .i64 gd, .int .i64 av, .int .i64 ws, .slice a L.length c]] w fun e w' => e = .returned (.bool B) ∧ Below w.heap.size w w' := by
  have HA : Hid (WOk w a L) := ha
  clear ha
  obtain ⟨C1, HC1⟩ := flag (cfgOk k mn mx sp sl)
  obtain ⟨W2, HW2⟩ := flag (winOk ws L)
  have HC := fun W => spec_cfgok k mn mx sp sl C1 W HC1
  have HW := fun W h => spec_ok ws a c L W2 W h hl HW2
  have bf : Hid (¬ limOk k mn mx sp sl li gd av ws L → B = false) := fun h => by cases B with
    | false => rfl
    | true => exact absurd (HB.out.1 rfl) h
  have bt : Hid (limOk k mn mx sp sl li gd av ws L → B = true) := fun h => HB.out.2 h
  cases C1 with
  | false =>
    have hB : B = false := bf.out fun h => by have := HC1.out.2 h.1; cases this

    subst hB
    go_enter Tryz.func43, Tryz.ntmps43
    go_wp2_with (first | (go_at_call 79; refine (HC _).mono ?_; rintro e w1 ⟨rfl, hb1⟩; obtain ⟨hc1, hf1⟩ := bcell hb1; have hx1 := size1 hb1; have B1 : Hid (Below w.heap.size w w1) := past_box hb1; clear hb1) | (go_at_call 80; refine (HW _ (HA.out.below B1.out)).mono ?_; rintro e w2 ⟨rfl, hb2⟩; obtain ⟨hc2, hf2⟩ := bcell hb2; have B2 : Hid (Below w.heap.size w w2) := B1.out.trans (hb2.mono (by omega)); clear hb2))
    go_ret
    exact ⟨rfl, B1.out⟩
  | true =>
    by_cases t0 : mn ≤ li
    · skip
      have t0d0 : decide (mn ≤ li) = true := by simp; omega
      by_cases t1 : li ≤ mx
      · skip
        have t1d0 : decide (li ≤ mx) = true := by simp; omega
        by_cases t2 : 0 ≤ gd
        · skip
          have t2d0 : decide (0 ≤ gd) = true := by simp; omega
          by_cases t3 : gd ≤ 1000
          · skip
            have t3d0 : decide (gd ≤ 1000) = true := by simp; omega
            by_cases t4 : 0 ≤ av
            · skip
              have t4d0 : decide (0 ≤ av) = true := by simp; omega
              by_cases t5 : av ≤ 65536000000
              · skip
                have t5d0 : decide (av ≤ 65536000000) = true := by simp; omega
                cases W2 with
                | false =>
                  have hB : B = false := bf.out fun h => by have := HW2.out.2 h.2.2.2.2.2.2.2.1; cases this
                  subst hB
                  go_enter Tryz.func43, Tryz.ntmps43
                  go_wp2_with (first | (go_at_call 79; refine (HC _).mono ?_; rintro e w1 ⟨rfl, hb1⟩; obtain ⟨hc1, hf1⟩ := bcell hb1; have hx1 := size1 hb1; have B1 : Hid (Below w.heap.size w w1) := past_box hb1; clear hb1) | (go_at_call 80; refine (HW _ (HA.out.below B1.out)).mono ?_; rintro e w2 ⟨rfl, hb2⟩; obtain ⟨hc2, hf2⟩ := bcell hb2; have B2 : Hid (Below w.heap.size w w2) := B1.out.trans (hb2.mono (by omega)); clear hb2))
                  go_ret
                  exact ⟨rfl, B2.out⟩
                | true =>
                  by_cases s1 : ws = sp
                  · have s1b : (ws == sp) = true := by simpa using s1
                    have hB : B = true := bt.out ⟨HC1.out.1 rfl, by omega, by omega, by omega, by omega, by omega, by omega, HW2.out.1 rfl, s1⟩
                    have S1 : Hid (ws = sp) := s1
                    clear s1
                    subst hB
                    go_enter Tryz.func43, Tryz.ntmps43
                    go_wp2_with (first | (go_at_call 79; refine (HC _).mono ?_; rintro e w1 ⟨rfl, hb1⟩; obtain ⟨hc1, hf1⟩ := bcell hb1; have hx1 := size1 hb1; have B1 : Hid (Below w.heap.size w w1) := past_box hb1; clear hb1) | (go_at_call 80; refine (HW _ (HA.out.below B1.out)).mono ?_; rintro e w2 ⟨rfl, hb2⟩; obtain ⟨hc2, hf2⟩ := bcell hb2; have B2 : Hid (Below w.heap.size w w2) := B1.out.trans (hb2.mono (by omega)); clear hb2))
                    go_ret
                    exact ⟨rfl, B2.out⟩
                  · have s1b : (ws == sp) = false := by simpa using s1
                    have hB : B = false := bf.out fun h => s1 h.2.2.2.2.2.2.2.2
                    subst hB
                    go_enter Tryz.func43, Tryz.ntmps43
                    go_wp2_with (first | (go_at_call 79; refine (HC _).mono ?_; rintro e w1 ⟨rfl, hb1⟩; obtain ⟨hc1, hf1⟩ := bcell hb1; have hx1 := size1 hb1; have B1 : Hid (Below w.heap.size w w1) := past_box hb1; clear hb1) | (go_at_call 80; refine (HW _ (HA.out.below B1.out)).mono ?_; rintro e w2 ⟨rfl, hb2⟩; obtain ⟨hc2, hf2⟩ := bcell hb2; have B2 : Hid (Below w.heap.size w w2) := B1.out.trans (hb2.mono (by omega)); clear hb2))
                    go_ret
                    exact ⟨rfl, B2.out⟩
              · have t5n : 65536000000 < av := by omega
                have t5d0 : decide (av ≤ 65536000000) = false := by simp; omega
                clear t5
                have hB : B = false := bf.out fun h => by unfold limOk at h; omega
                subst hB
                go_enter Tryz.func43, Tryz.ntmps43
                go_wp2_with (first | (go_at_call 79; refine (HC _).mono ?_; rintro e w1 ⟨rfl, hb1⟩; obtain ⟨hc1, hf1⟩ := bcell hb1; have hx1 := size1 hb1; have B1 : Hid (Below w.heap.size w w1) := past_box hb1; clear hb1) | (go_at_call 80; refine (HW _ (HA.out.below B1.out)).mono ?_; rintro e w2 ⟨rfl, hb2⟩; obtain ⟨hc2, hf2⟩ := bcell hb2; have B2 : Hid (Below w.heap.size w w2) := B1.out.trans (hb2.mono (by omega)); clear hb2))
                go_ret
                exact ⟨rfl, B1.out⟩
            · have t4n : av < 0 := by omega
              have t4d0 : decide (0 ≤ av) = false := by simp; omega
              clear t4
              have hB : B = false := bf.out fun h => by unfold limOk at h; omega
              subst hB
              go_enter Tryz.func43, Tryz.ntmps43
              go_wp2_with (first | (go_at_call 79; refine (HC _).mono ?_; rintro e w1 ⟨rfl, hb1⟩; obtain ⟨hc1, hf1⟩ := bcell hb1; have hx1 := size1 hb1; have B1 : Hid (Below w.heap.size w w1) := past_box hb1; clear hb1) | (go_at_call 80; refine (HW _ (HA.out.below B1.out)).mono ?_; rintro e w2 ⟨rfl, hb2⟩; obtain ⟨hc2, hf2⟩ := bcell hb2; have B2 : Hid (Below w.heap.size w w2) := B1.out.trans (hb2.mono (by omega)); clear hb2))
              go_ret
              exact ⟨rfl, B1.out⟩
          · have t3n : 1000 < gd := by omega
            have t3d0 : decide (gd ≤ 1000) = false := by simp; omega
            clear t3
            have hB : B = false := bf.out fun h => by unfold limOk at h; omega
            subst hB
            go_enter Tryz.func43, Tryz.ntmps43
            go_wp2_with (first | (go_at_call 79; refine (HC _).mono ?_; rintro e w1 ⟨rfl, hb1⟩; obtain ⟨hc1, hf1⟩ := bcell hb1; have hx1 := size1 hb1; have B1 : Hid (Below w.heap.size w w1) := past_box hb1; clear hb1) | (go_at_call 80; refine (HW _ (HA.out.below B1.out)).mono ?_; rintro e w2 ⟨rfl, hb2⟩; obtain ⟨hc2, hf2⟩ := bcell hb2; have B2 : Hid (Below w.heap.size w w2) := B1.out.trans (hb2.mono (by omega)); clear hb2))
            go_ret
            exact ⟨rfl, B1.out⟩
        · have t2n : gd < 0 := by omega
          have t2d0 : decide (0 ≤ gd) = false := by simp; omega
          clear t2
          have hB : B = false := bf.out fun h => by unfold limOk at h; omega
          subst hB
          go_enter Tryz.func43, Tryz.ntmps43
          go_wp2_with (first | (go_at_call 79; refine (HC _).mono ?_; rintro e w1 ⟨rfl, hb1⟩; obtain ⟨hc1, hf1⟩ := bcell hb1; have hx1 := size1 hb1; have B1 : Hid (Below w.heap.size w w1) := past_box hb1; clear hb1) | (go_at_call 80; refine (HW _ (HA.out.below B1.out)).mono ?_; rintro e w2 ⟨rfl, hb2⟩; obtain ⟨hc2, hf2⟩ := bcell hb2; have B2 : Hid (Below w.heap.size w w2) := B1.out.trans (hb2.mono (by omega)); clear hb2))
          go_ret
          exact ⟨rfl, B1.out⟩
      · have t1n : mx < li := by omega
        have t1d0 : decide (li ≤ mx) = false := by simp; omega
        clear t1
        have hB : B = false := bf.out fun h => by unfold limOk at h; omega
        subst hB
        go_enter Tryz.func43, Tryz.ntmps43
        go_wp2_with (first | (go_at_call 79; refine (HC _).mono ?_; rintro e w1 ⟨rfl, hb1⟩; obtain ⟨hc1, hf1⟩ := bcell hb1; have hx1 := size1 hb1; have B1 : Hid (Below w.heap.size w w1) := past_box hb1; clear hb1) | (go_at_call 80; refine (HW _ (HA.out.below B1.out)).mono ?_; rintro e w2 ⟨rfl, hb2⟩; obtain ⟨hc2, hf2⟩ := bcell hb2; have B2 : Hid (Below w.heap.size w w2) := B1.out.trans (hb2.mono (by omega)); clear hb2))
        go_ret
        exact ⟨rfl, B1.out⟩
    · have t0n : li < mn := by omega
      have t0d0 : decide (mn ≤ li) = false := by simp; omega
      clear t0
      have hB : B = false := bf.out fun h => by unfold limOk at h; omega
      subst hB
      go_enter Tryz.func43, Tryz.ntmps43
      go_wp2_with (first | (go_at_call 79; refine (HC _).mono ?_; rintro e w1 ⟨rfl, hb1⟩; obtain ⟨hc1, hf1⟩ := bcell hb1; have hx1 := size1 hb1; have B1 : Hid (Below w.heap.size w w1) := past_box hb1; clear hb1) | (go_at_call 80; refine (HW _ (HA.out.below B1.out)).mono ?_; rintro e w2 ⟨rfl, hb2⟩; obtain ⟨hc2, hf2⟩ := bcell hb2; have B2 : Hid (Below w.heap.size w w2) := B1.out.trans (hb2.mono (by omega)); clear hb2))
      go_ret
      exact ⟨rfl, B1.out⟩

end Go.Proofs.YtnabnghjejncpaaGreat.LimSpec
end

section
namespace Go.Proofs.YtnabnghjejncpaaGreat.NewWalks
open Go.RowKit

theorem span_yes (n : Int) (w : World) (h0 : ¬ n < 1) (h1 : ¬ 100000 < n) : Calls Tryz.prog 107 #[.int .i64 n] w fun e w' => e = .returned (.bool true) ∧ w' = w := by
  have d1 : decide (n ≤ 100000) = true := by simp; omega
  go_enter Tryz.func107, Tryz.ntmps107
  go_wp2
  go_ret
  exact ⟨rfl, rfl⟩

theorem span_no (n : Int) (w : World) (h : n < 1 ∨ 100000 < n) : Calls Tryz.prog 107 #[.int .i64 n] w fun e w' => e = .returned (.bool false) ∧ w' = w := by
  by_cases h0 : n < 1
  · go_enter Tryz.func107, Tryz.ntmps107
    go_wp2
    go_ret
    exact ⟨rfl, rfl⟩
  · have d1 : decide (n ≤ 100000) = false := by simp; omega
    go_enter Tryz.func107, Tryz.ntmps107
    go_wp2
    go_ret
    exact ⟨rfl, rfl⟩

theorem impl_new (span s : Int) (B : Bool) (w : World) (h : Hid ((B = true ∧ s = span ∧ 1 ≤ span ∧ span ≤ 100000) ∨ (B = false ∧ s = 0 ∧ (span < 1 ∨ 100000 < span)))) :
    Calls Tryz.prog 87 #[.int .i64 span] w fun e w' => e = .returned (.tuple #[.agg #[.int .i64 s, .slice none 0 0], .bool B]) ∧ Below w.heap.size w w' := by
  rcases h.out with ⟨rfl, rfl, h1, h2⟩ | ⟨rfl, rfl, h3⟩
  · have HS := fun W => span_yes s W (by omega) (by omega)
    clear h h1 h2
    go_enter Tryz.func87, Tryz.ntmps87
    go_wp2_with (go_at_call 107; refine (HS _).mono ?_; rintro e w9 ⟨rfl, hw9⟩; rw [hw9]; clear hw9 w9)
    exact bodyPost_ret (v := .tuple #[.agg #[.int .i64 s, .slice none 0 0], .bool true]) (by simp [results, Tryz.results87, go_sem]) rfl ⟨rfl, (Below.refl _ _).alloc (Nat.le_refl _) _⟩
  · have HS := fun W => span_no span W h3
    clear h h3
    go_enter Tryz.func87, Tryz.ntmps87
    go_wp2_with (go_at_call 107; refine (HS _).mono ?_; rintro e w9 ⟨rfl, hw9⟩; rw [hw9]; clear hw9 w9)
    exact bodyPost_ret (v := .tuple #[.agg #[.int .i64 0, .slice none 0 0], .bool false]) (by simp [results, Tryz.results87, go_sem]) rfl ⟨rfl, (Below.refl _ _).alloc (Nat.le_refl _) _⟩
end Go.Proofs.YtnabnghjejncpaaGreat.NewWalks
end

section
namespace Go.Proofs.YtnabnghjejncpaaGreat.LimCopy
open Go.RowKit PairWalks WinOk LimKit

/-- The cells of samples, one behind the other. -/
def flat (L : List (Int × Int)) : List Value := L.flatMap fun q => [.int .i64 q.1, .int .i64 q.2]
theorem flat_get (L : List (Int × Int)) (i : Nat) (h : i < L.length) : (flat L)[i * 2]? = some (.int .i64 L[i].1) ∧ (flat L)[i * 2 + 1]? = some (.int .i64 L[i].2) := by
  induction L generalizing i with
  | nil => simp at h
  | cons q L ih =>
    cases i with
    | zero => simp [flat]
    | succ i =>
      have := ih i (by simpa using h)
      simp [flat, Nat.succ_mul] at this ⊢
      exact this
theorem flat_one (L : List (Int × Int)) : ∀ u ∈ flat L, u.oneCell' = true := by
  intro u hu
  simp [flat] at hu
  obtain ⟨a, b, _, h⟩ := hu
  rcases h with rfl | rfl <;> rfl
end Go.Proofs.YtnabnghjejncpaaGreat.LimCopy
end

section
namespace Go.Proofs.YtnabnghjejncpaaGreat.LimBack
open Go.RowKit PairWalks WinOk LimKit LimSpec LimCopy

theorem bsize {w w1 : World} {A B : Obj} (h : Below ((w.alloc A).alloc B).heap.size ((w.alloc A).alloc B) w1) : w.heap.size + 1 < w1.heap.size := by
  have := h.size
  simp at this
  omega
theorem past_two {w w1 : World} {A B : Obj} (h : Below ((w.alloc A).alloc B).heap.size ((w.alloc A).alloc B) w1) : Below w.heap.size w w1 := (((Below.refl _ _).alloc (Nat.le_refl _) _).alloc (by simp) _).trans (h.mono (by simp; omega))

end Go.Proofs.YtnabnghjejncpaaGreat.LimBack
end

section
namespace Go.Proofs.YtnabnghjejncpaaGreat.ImplOk
open Go.RowKit PairWalks WinOk

theorem impl_span (n : Int) (w : World) (h0 : ¬ n < 1) (h1 : ¬ 100000 < n) : Calls Tryz.prog 107 #[.int .i64 n] w fun e w' => e = .returned (.bool true) ∧ w' = w := by
  have d1 : decide (n ≤ 100000) = true := by simp; omega
  go_enter Tryz.func107, Tryz.ntmps107
  go_wp2
  go_ret
  exact ⟨rfl, rfl⟩

theorem impl_span_no (n : Int) (w : World) (h : n < 1 ∨ 100000 < n) : Calls Tryz.prog 107 #[.int .i64 n] w fun e w' => e = .returned (.bool false) ∧ w' = w := by
  by_cases h0 : n < 1
  · go_enter Tryz.func107, Tryz.ntmps107
    go_wp2
    go_ret
    exact ⟨rfl, rfl⟩
  · have d1 : decide (n ≤ 100000) = false := by simp; omega
    go_enter Tryz.func107, Tryz.ntmps107
    go_wp2
    go_ret
    exact ⟨rfl, rfl⟩

theorem impl_time (n : Int) (w : World) (B : Bool) (hB : Hid (B = true ↔ 0 ≤ n ∧ n ≤ 1000000000)) : Calls Tryz.prog 27 #[.int .i64 n] w fun e w' => e = .returned (.bool B) ∧ w' = w := by
  by_cases h0 : n < 0
  · obtain rfl : B = false := by
      cases B with
      | false => rfl
      | true => have := hB.out.1 rfl; omega
    go_enter Tryz.func27, Tryz.ntmps27
    go_wp2
    go_ret
    exact ⟨rfl, rfl⟩
  · by_cases h1 : 1000000000 < n
    · obtain rfl : B = false := by
        cases B with
        | false => rfl
        | true => have := hB.out.1 rfl; omega
      have d1 : decide (n ≤ 1000000000) = false := by simp; omega
      go_enter Tryz.func27, Tryz.ntmps27
      go_wp2
      go_ret
      exact ⟨rfl, rfl⟩
    · obtain rfl : B = true := hB.out.2 (by omega)
      have d1 : decide (n ≤ 1000000000) = true := by simp; omega
      go_enter Tryz.func27, Tryz.ntmps27
      go_wp2
      go_ret
      exact ⟨rfl, rfl⟩

theorem impl_lat (n : Int) (w : World) (B : Bool) (hB : Hid (B = true ↔ 0 ≤ n ∧ n ≤ 1000000)) : Calls Tryz.prog 109 #[.int .i64 n] w fun e w' => e = .returned (.bool B) ∧ w' = w := by
  by_cases h0 : n < 0
  · obtain rfl : B = false := by
      cases B with
      | false => rfl
      | true => have := hB.out.1 rfl; omega
    go_enter Tryz.func109, Tryz.ntmps109
    go_wp2
    go_ret
    exact ⟨rfl, rfl⟩
  · by_cases h1 : 1000000 < n
    · obtain rfl : B = false := by
        cases B with
        | false => rfl
        | true => have := hB.out.1 rfl; omega
      have d1 : decide (n ≤ 1000000) = false := by simp; omega
      go_enter Tryz.func109, Tryz.ntmps109
      go_wp2
      go_ret
      exact ⟨rfl, rfl⟩
    · obtain rfl : B = true := hB.out.2 (by omega)
      have d1 : decide (n ≤ 1000000) = true := by simp; omega
      go_enter Tryz.func109, Tryz.ntmps109
      go_wp2
      go_ret
      exact ⟨rfl, rfl⟩

theorem time_yes (n : Int) (w : World) (h0 : ¬ n < 0) (h1 : ¬ 1000000000 < n) : Calls Tryz.prog 27 #[.int .i64 n] w fun e w' => e = .returned (.bool true) ∧ w' = w := impl_time n w true ⟨fun _ => by omega, fun _ => rfl⟩
theorem time_no (n : Int) (w : World) (h : n < 0 ∨ 1000000000 < n) : Calls Tryz.prog 27 #[.int .i64 n] w fun e w' => e = .returned (.bool false) ∧ w' = w := impl_time n w false ⟨fun e => by simp at e, fun e => by omega⟩
theorem lat_yes (n : Int) (w : World) (h0 : ¬ n < 0) (h1 : ¬ 1000000 < n) : Calls Tryz.prog 109 #[.int .i64 n] w fun e w' => e = .returned (.bool true) ∧ w' = w := impl_lat n w true ⟨fun _ => by omega, fun _ => rfl⟩
theorem lat_no (n : Int) (w : World) (h : n < 0 ∨ 1000000 < n) : Calls Tryz.prog 109 #[.int .i64 n] w fun e w' => e = .returned (.bool false) ∧ w' = w := impl_lat n w false ⟨fun e => by simp at e, fun e => by omega⟩

set_option maxHeartbeats 2000000 in
theorem impl_ok (span : Int) (a : Option Addr) (c : Nat) (L : List (Int × Int)) (B : Bool) (w : World) (ha : WOk w a L) (hl : (L.length : Int) ≤ 1048577) (HB : Hid (B = true ↔ winOk span L)) :
    Calls Tryz.prog 91 #[.agg #[.int .i64 span, .slice a L.length c]] w fun e w' => e = .returned (.bool B) ∧ Below w.heap.size w w' := by
  have HA : Hid (WOk w a L) := ha
  clear ha
  obtain ⟨n, hn⟩ : ∃ n, L.length = n := ⟨_, rfl⟩
  have HN : Hid (L.length = n) := hn
  rw [hn] at hl ⊢
  clear hn
  have bf : Hid (¬ winOk span L → B = false) := fun h => by cases B with
    | false => rfl
    | true => exact absurd (HB.out.1 rfl) h
  have bt : Hid (winOk span L → B = true) := fun h => HB.out.2 h
  by_cases s1 : span < 1
  · have hB : B = false := bf.out fun h => by have := h.1; omega
    subst hB
    have HS := impl_span_no span (w.alloc (.cells #[.int .i64 span, .slice a n c] 50)) (by omega)
    go_enter Tryz.func91, Tryz.ntmps91
    go_wp2_with (go_at_call 107; refine HS.mono ?_; rintro e w9 ⟨rfl, hw9⟩; rw [hw9]; clear hw9 w9)
    go_ret
    exact ⟨rfl, (Below.refl _ _).alloc (Nat.le_refl _) _⟩
  · by_cases s2 : 100000 < span
    · have hB : B = false := bf.out fun h => by have := h.2.1; omega
      subst hB
      have HS := impl_span_no span (w.alloc (.cells #[.int .i64 span, .slice a n c] 50)) (by omega)
      go_enter Tryz.func91, Tryz.ntmps91
      go_wp2_with (go_at_call 107; refine HS.mono ?_; rintro e w9 ⟨rfl, hw9⟩; rw [hw9]; clear hw9 w9)
      go_ret
      exact ⟨rfl, (Below.refl _ _).alloc (Nat.le_refl _) _⟩
    · by_cases s3 : (200 : Int) < (n : Int)
      · have hB : B = false := bf.out fun h => by have := h.2.2.1; rw [HN.out] at this; omega
        subst hB
        have HS := impl_span span (w.alloc (.cells #[.int .i64 span, .slice a n c] 50)) s1 s2
        go_enter Tryz.func91, Tryz.ntmps91
        go_wp2_with (go_at_call 107; refine HS.mono ?_; rintro e w9 ⟨rfl, hw9⟩; rw [hw9]; clear hw9 w9)
        go_ret
        exact ⟨rfl, (Below.refl _ _).alloc (Nat.le_refl _) _⟩
      · have HS := impl_span span (w.alloc (.cells #[.int .i64 span, .slice a n c] 50)) s1 s2
        go_enter Tryz.func91, Tryz.ntmps91
        go_wp2_with (go_at_call 107; refine HS.mono ?_; rintro e w9 ⟨rfl, hw9⟩; rw [hw9]; clear hw9 w9)
        clear HS
        go_loopw [18] (fun i wr => ∃ k : Nat, k ≤ n ∧ i = .int .i64 k ∧ Hid (∀ (j : Nat) (h : j < L.length), j < k → okAt L j h) ∧ Hid (Below (w.heap.size + 1) (w.alloc (.cells #[.int .i64 span, .slice a n c] 50)) wr)) (fun i _ => n - (intOf i).toNat)
        case atStart => exact ⟨0, by omega, rfl, fun j _ hj => by omega, Below.refl _ _⟩
        case round =>
          obtain ⟨k, hk, rfl, HK, HW⟩ := hrel
          by_cases hlt : k < n
          · have hlt2 : k < L.length := by rw [HN.out]; exact hlt
            rcases HA.out with hnil | ⟨g, o, rfl, hr⟩
            · rw [hnil] at hlt2; simp at hlt2
            · have hg := hr.lt
              have hr1 : PRow wr g o L := hr.same ((HW.out.block g (by omega)).trans (Below.heap_alloc w _ g hg))
              have q0 := hr1.c0 k hlt2
              have q1 := hr1.c1 k hlt2
              obtain ⟨x, hx⟩ : ∃ x, L[k].1 = x := ⟨_, rfl⟩
              obtain ⟨y, hy⟩ : ∃ y, L[k].2 = y := ⟨_, rfl⟩
              rw [hx] at q0
              rw [hy] at q1
              have hli : (k : Int) < (n : Int) := by omega
              have BB : Below w.heap.size w (wr.alloc (.cells #[.int .i64 x, .int .i64 y] 155)) := (((Below.refl _ _).alloc (Nat.le_refl _) _).trans (HW.out.mono (by omega))).alloc (by have := HW.out.size; simp at this; omega) _
              by_cases t0 : x < 0
              · skip
                have hB : B = false := bf.out fun h => by
                  have h2 := (h.2.2.2 k hlt2).1
                  unfold inB at h2
                  rw [hx, hy] at h2
                  omega
                subst hB
                go_wp2_with (go_at_call 27; refine (time_no x _ (by omega)).mono ?_; rintro e w9 ⟨rfl, hw9⟩; rw [hw9]; clear hw9 w9)
                go_ret
                exact ⟨rfl, BB⟩
              · by_cases t1 : 1000000000 < x
                · have d1 : decide (x ≤ 1000000000) = false := by simp; omega
                  have hB : B = false := bf.out fun h => by
                    have h2 := (h.2.2.2 k hlt2).1
                    unfold inB at h2
                    rw [hx, hy] at h2
                    omega
                  subst hB
                  go_wp2_with (go_at_call 27; refine (time_no x _ (by omega)).mono ?_; rintro e w9 ⟨rfl, hw9⟩; rw [hw9]; clear hw9 w9)
                  go_ret
                  exact ⟨rfl, BB⟩
                · have d1 : decide (x ≤ 1000000000) = true := by simp; omega
                  by_cases t2 : y < 0
                  · skip
                    have hB : B = false := bf.out fun h => by
                      have h2 := (h.2.2.2 k hlt2).1
                      unfold inB at h2
                      rw [hx, hy] at h2
                      omega
                    subst hB
                    go_wp2_with (first | (go_at_call 27; refine (time_yes x _ (by omega) (by omega)).mono ?_; rintro e w9 ⟨rfl, hw9⟩; rw [hw9]; clear hw9 w9) | (go_at_call 109; refine (lat_no y _ (by omega)).mono ?_; rintro e w9 ⟨rfl, hw9⟩; rw [hw9]; clear hw9 w9))
                    go_ret
                    exact ⟨rfl, BB⟩
                  · by_cases t3 : 1000000 < y
                    · have d2 : decide (y ≤ 1000000) = false := by simp; omega
                      have hB : B = false := bf.out fun h => by
                        have h2 := (h.2.2.2 k hlt2).1
                        unfold inB at h2
                        rw [hx, hy] at h2
                        omega
                      subst hB
                      go_wp2_with (first | (go_at_call 27; refine (time_yes x _ (by omega) (by omega)).mono ?_; rintro e w9 ⟨rfl, hw9⟩; rw [hw9]; clear hw9 w9) | (go_at_call 109; refine (lat_no y _ (by omega)).mono ?_; rintro e w9 ⟨rfl, hw9⟩; rw [hw9]; clear hw9 w9))
                      go_ret
                      exact ⟨rfl, BB⟩
                    · have d2 : decide (y ≤ 1000000) = true := by simp; omega
                      have HIN : Hid (inB L[k]) := by
                        show inB _
                        unfold inB
                        rw [hx, hy]
                        omega
                      have HB2 : Hid (Below (w.heap.size + 1) (w.alloc (.cells #[.int .i64 span, .slice (some ⟨g, o, none⟩) n c] 50)) (wr.alloc (.cells #[.int .i64 x, .int .i64 y] 155))) := HW.out.alloc (by have := HW.out.size; simp at this; omega) _
                      by_cases hk0 : k = 0
                      · have HK2 : Hid (∀ (j : Nat) (h : j < L.length), j < k + 1 → okAt L j h) := fun j h hj => by
                          obtain rfl : j = k := by omega
                          exact ⟨HIN.out, fun h0 => by omega⟩
                        have HZ : Hid (k = 0) := hk0
                        have d3 : decide ((k : Int) > 0) = false := by simp; omega
                        have d4 : decide ((0 : Int) < (k : Int)) = false := by simp; omega
                        have d5 : decide (0 < k) = false := by simp; omega
                        clear hk0
                        go_wp2_with (first | (go_at_call 27; refine (time_yes x _ (by omega) (by omega)).mono ?_; rintro e w9 ⟨rfl, hw9⟩; rw [hw9]; clear hw9 w9) | (go_at_call 109; refine (lat_yes y _ (by omega) (by omega)).mono ?_; rintro e w9 ⟨rfl, hw9⟩; rw [hw9]; clear hw9 w9))
                        go_quiet (fail)
                        go_wp2
                        go_roundw
                        case rel => exact ⟨k + 1, by omega, by go_num, HK2, below_drewN HB2.out _⟩
                        case measure => simp [intOf]; omega
                      · obtain ⟨j, hj⟩ : ∃ j, k = j + 1 := ⟨k - 1, by omega⟩
                        have hj2 : j < L.length := by omega
                        have hr2 : PRow (wr.alloc (.cells #[.int .i64 x, .int .i64 y] 155)) g o L := hr1.same (Below.heap_alloc wr _ g hr1.lt)
                        have p0 := hr2.c0 j hj2
                        have p1 := hr2.c1 j hj2
                        clear hr2
                        obtain ⟨x0, hx0⟩ : ∃ x0, L[j].1 = x0 := ⟨_, rfl⟩
                        obtain ⟨y0, hy0⟩ : ∃ y0, L[j].2 = y0 := ⟨_, rfl⟩
                        rw [hx0] at p0
                        rw [hy0] at p1
                        have box : (wr.alloc (.cells #[.int .i64 x, .int .i64 y] 155)).cell? ⟨w.heap.size, 1, none⟩ = some (.slice (some ⟨g, o, none⟩) n c) := by
                          rw [HB2.out.cell (by simp)]
                          simp
                        have e1 : (k : Int) - 1 = (j : Int) := by omega
                        have e2 : IntKind.i64.wrap (j : Int) = (j : Int) := by rw [IntKind.wrap_i64]; omega
                        have l1 : (j : Int) < (n : Int) := by omega
                        have l2 : (0 : Int) ≤ (j : Int) := by omega
                        have HJ : Hid (k = j + 1) := hj
                        have d3 : (0 : Int) < (k : Int) := by omega
                        have d5 : 0 < k := by omega
                        have d6 : decide (0 < k) = true := by simp; omega
                        clear hj hk0
                        have HX : Hid (winOk span L → x0 < x ∧ y0 < y) := fun h => by
                          have h2 := (h.2.2.2 k hlt2).2 (by omega)
                          have ek : k - 1 = j := by have := HJ.out; omega
                          simp only [ek] at h2
                          rw [hx, hy, hx0, hy0] at h2
                          exact h2
                        by_cases u0 : x ≤ x0
                        · have hB : B = false := bf.out fun h => by have := (HX.out h).1; omega
                          subst hB
                          go_wp2_with (first | (go_at_call 27; refine (time_yes x _ (by omega) (by omega)).mono ?_; rintro e w9 ⟨rfl, hw9⟩; rw [hw9]; clear hw9 w9) | (go_at_call 109; refine (lat_yes y _ (by omega) (by omega)).mono ?_; rintro e w9 ⟨rfl, hw9⟩; rw [hw9]; clear hw9 w9))
                          go_quiet (fail)
                          go_wp2
                          go_ret
                          exact ⟨rfl, below_drewN BB _⟩
                        · have f0 : decide (x ≤ x0) = false := by simp; omega
                          by_cases u1 : y ≤ y0
                          · have hB : B = false := bf.out fun h => by have := (HX.out h).2; omega
                            subst hB
                            go_wp2_with (first | (go_at_call 27; refine (time_yes x _ (by omega) (by omega)).mono ?_; rintro e w9 ⟨rfl, hw9⟩; rw [hw9]; clear hw9 w9) | (go_at_call 109; refine (lat_yes y _ (by omega) (by omega)).mono ?_; rintro e w9 ⟨rfl, hw9⟩; rw [hw9]; clear hw9 w9))
                            go_quiet (fail)
                            go_wp2
                            go_ret
                            exact ⟨rfl, below_drewN BB _⟩
                          · have f1 : decide (y ≤ y0) = false := by simp; omega
                            have HK2 : Hid (∀ (j : Nat) (h : j < L.length), j < k + 1 → okAt L j h) := fun i h hi => by
                              by_cases hik : i < k
                              · exact HK.out i h hik
                              · obtain rfl : i = k := by omega
                                refine ⟨HIN.out, fun _ => ?_⟩
                                have ek : i - 1 = j := by have := HJ.out; omega
                                simp only [ek]
                                rw [hx, hy, hx0, hy0]
                                omega
                            go_wp2_with (first | (go_at_call 27; refine (time_yes x _ (by omega) (by omega)).mono ?_; rintro e w9 ⟨rfl, hw9⟩; rw [hw9]; clear hw9 w9) | (go_at_call 109; refine (lat_yes y _ (by omega) (by omega)).mono ?_; rintro e w9 ⟨rfl, hw9⟩; rw [hw9]; clear hw9 w9))
                            go_quiet (fail)
                            go_wp2
                            go_roundw
                            case rel => exact ⟨k + 1, by omega, by go_num, HK2, below_drewN HB2.out _⟩
                            case measure => simp [intOf]; omega
          · obtain rfl : k = n := by omega
            have hB : B = true := bt.out ⟨by omega, by omega, by rw [HN.out]; omega, fun j h => HK.out j h (by rw [← HN.out]; exact h)⟩
            subst hB
            have BB : Below w.heap.size w wr := ((Below.refl _ _).alloc (Nat.le_refl _) _).trans (HW.out.mono (by omega))
            go_wp2
            go_ret
            exact ⟨rfl, BB⟩
end Go.Proofs.YtnabnghjejncpaaGreat.ImplOk
end

section
namespace Go.Proofs.YtnabnghjejncpaaGreat.LimImpl
open Go.RowKit PairWalks WinOk ImplOk LimKit LimSpec

theorem impl_spanB (n : Int) (w : World) (B : Bool) (hB : Hid (B = true ↔ 1 ≤ n ∧ n ≤ 100000)) : Calls Tryz.prog 107 #[.int .i64 n] w fun e w' => e = .returned (.bool B) ∧ w' = w := by
  by_cases h : 1 ≤ n ∧ n ≤ 100000
  · obtain rfl : B = true := hB.out.2 h
    exact impl_span n w (by omega) (by omega)
  · have : B = false := by
      cases B with
      | false => rfl
      | true => exact absurd (hB.out.1 rfl) h
    subst this
    exact impl_span_no n w (by omega)

set_option maxHeartbeats 2000000 in
theorem impl_cfgok (k mn mx sp sl : Int) (B : Bool) (w : World) (HB : Hid (B = true ↔ cfgOk k mn mx sp sl)) :
    Calls Tryz.prog 90 #[.agg #[.int .i64 k, .int .i64 mn, .int .i64 mx, .int .i64 sp, .int .i64 sl]] w fun e w' => e = .returned (.bool B) ∧ Below w.heap.size w w' := by
  have bf : Hid (¬ cfgOk k mn mx sp sl → B = false) := fun h => by cases B with
    | false => rfl
    | true => exact absurd (HB.out.1 rfl) h
  have bt : Hid (cfgOk k mn mx sp sl → B = true) := fun h => HB.out.2 h
  obtain ⟨S, HS1⟩ := flag (1 ≤ sp ∧ sp ≤ 100000)
  obtain ⟨T, HT1⟩ := flag (0 ≤ sl ∧ sl ≤ 1000000)
  have HS := fun W => impl_spanB sp W S HS1
  have HT := fun W => impl_lat sl W T HT1
  by_cases kk : k = 1 ∨ k = 2
  · have K1 : Hid (k = 1 ∨ k = 2) := kk
    have kb : (k != 1 && k != 2) = false := by rcases kk with rfl | rfl <;> rfl
    obtain ⟨x1, h1⟩ : ∃ x, (k != 1) = x := ⟨_, rfl⟩
    obtain ⟨x2, h2⟩ : ∃ x, (k != 2) = x := ⟨_, rfl⟩
    rw [h1, h2] at kb
    clear kk
    rcases x1 with _ | _
    · clear h2 kb
      by_cases t0 : 1 ≤ mn
      · skip
        have t0d0 : decide (1 ≤ mn) = true := by simp; omega
        by_cases t1 : mn ≤ mx
        · skip
          have t1d0 : decide (mn ≤ mx) = true := by simp; omega
          by_cases t2 : mx ≤ 1000
          · skip
            have t2d0 : decide (mx ≤ 1000) = true := by simp; omega
            have k1 := K1.out
            cases S with
            | false =>
              have hB : B = false := bf.out fun h => by have := HS1.out.2 ⟨h.2.2.2.2.1, h.2.2.2.2.2.1⟩; cases this
              subst hB
              go_enter Tryz.func90, Tryz.ntmps90
              go_wp2_with (first | (go_at_call 107; refine (HS _).mono ?_; rintro e w9 ⟨rfl, hw9⟩; rw [hw9]; clear hw9 w9) | (go_at_call 109; refine (HT _).mono ?_; rintro e w9 ⟨rfl, hw9⟩; rw [hw9]; clear hw9 w9))
              go_ret
              exact ⟨rfl, (Below.refl _ _).alloc (Nat.le_refl _) _⟩
            | true =>
              cases T with
              | false =>
                have hB : B = false := bf.out fun h => by have := HT1.out.2 h.2.2.2.2.2.2; cases this
                subst hB
                go_enter Tryz.func90, Tryz.ntmps90
                go_wp2_with (first | (go_at_call 107; refine (HS _).mono ?_; rintro e w9 ⟨rfl, hw9⟩; rw [hw9]; clear hw9 w9) | (go_at_call 109; refine (HT _).mono ?_; rintro e w9 ⟨rfl, hw9⟩; rw [hw9]; clear hw9 w9))
                go_ret
                exact ⟨rfl, (Below.refl _ _).alloc (Nat.le_refl _) _⟩
              | true =>
                have hB : B = true := bt.out ⟨by omega, by omega, by omega, by omega, (HS1.out.1 rfl).1, (HS1.out.1 rfl).2, (HT1.out.1 rfl).1, (HT1.out.1 rfl).2⟩
                subst hB
                go_enter Tryz.func90, Tryz.ntmps90
                go_wp2_with (first | (go_at_call 107; refine (HS _).mono ?_; rintro e w9 ⟨rfl, hw9⟩; rw [hw9]; clear hw9 w9) | (go_at_call 109; refine (HT _).mono ?_; rintro e w9 ⟨rfl, hw9⟩; rw [hw9]; clear hw9 w9))
                go_ret
                exact ⟨rfl, (Below.refl _ _).alloc (Nat.le_refl _) _⟩
          · have t2n : 1000 < mx := by omega
            have t2d0 : decide (mx ≤ 1000) = false := by simp; omega
            clear t2
            have k1 := K1.out
            have hB : B = false := bf.out fun h => by unfold cfgOk at h; omega
            subst hB
            go_enter Tryz.func90, Tryz.ntmps90
            go_wp2_with (first | (go_at_call 107; refine (HS _).mono ?_; rintro e w9 ⟨rfl, hw9⟩; rw [hw9]; clear hw9 w9) | (go_at_call 109; refine (HT _).mono ?_; rintro e w9 ⟨rfl, hw9⟩; rw [hw9]; clear hw9 w9))
            go_ret
            exact ⟨rfl, (Below.refl _ _).alloc (Nat.le_refl _) _⟩
        · have t1n : mx < mn := by omega
          have t1d0 : decide (mn ≤ mx) = false := by simp; omega
          clear t1
          have k1 := K1.out
          have hB : B = false := bf.out fun h => by unfold cfgOk at h; omega
          subst hB
          go_enter Tryz.func90, Tryz.ntmps90
          go_wp2_with (first | (go_at_call 107; refine (HS _).mono ?_; rintro e w9 ⟨rfl, hw9⟩; rw [hw9]; clear hw9 w9) | (go_at_call 109; refine (HT _).mono ?_; rintro e w9 ⟨rfl, hw9⟩; rw [hw9]; clear hw9 w9))
          go_ret
          exact ⟨rfl, (Below.refl _ _).alloc (Nat.le_refl _) _⟩
      · have t0n : mn < 1 := by omega
        have t0d0 : decide (1 ≤ mn) = false := by simp; omega
        clear t0
        have k1 := K1.out
        have hB : B = false := bf.out fun h => by unfold cfgOk at h; omega
        subst hB
        go_enter Tryz.func90, Tryz.ntmps90
        go_wp2_with (first | (go_at_call 107; refine (HS _).mono ?_; rintro e w9 ⟨rfl, hw9⟩; rw [hw9]; clear hw9 w9) | (go_at_call 109; refine (HT _).mono ?_; rintro e w9 ⟨rfl, hw9⟩; rw [hw9]; clear hw9 w9))
        go_ret
        exact ⟨rfl, (Below.refl _ _).alloc (Nat.le_refl _) _⟩
    · obtain rfl : x2 = false := by simpa using kb
      clear kb
      by_cases t0 : 1 ≤ mn
      · skip
        have t0d0 : decide (1 ≤ mn) = true := by simp; omega
        by_cases t1 : mn ≤ mx
        · skip
          have t1d0 : decide (mn ≤ mx) = true := by simp; omega
          by_cases t2 : mx ≤ 1000
          · skip
            have t2d0 : decide (mx ≤ 1000) = true := by simp; omega
            have k1 := K1.out
            cases S with
            | false =>
              have hB : B = false := bf.out fun h => by have := HS1.out.2 ⟨h.2.2.2.2.1, h.2.2.2.2.2.1⟩; cases this
              subst hB
              go_enter Tryz.func90, Tryz.ntmps90
              go_wp2_with (first | (go_at_call 107; refine (HS _).mono ?_; rintro e w9 ⟨rfl, hw9⟩; rw [hw9]; clear hw9 w9) | (go_at_call 109; refine (HT _).mono ?_; rintro e w9 ⟨rfl, hw9⟩; rw [hw9]; clear hw9 w9))
              go_ret
              exact ⟨rfl, (Below.refl _ _).alloc (Nat.le_refl _) _⟩
            | true =>
              cases T with
              | false =>
                have hB : B = false := bf.out fun h => by have := HT1.out.2 h.2.2.2.2.2.2; cases this
                subst hB
                go_enter Tryz.func90, Tryz.ntmps90
                go_wp2_with (first | (go_at_call 107; refine (HS _).mono ?_; rintro e w9 ⟨rfl, hw9⟩; rw [hw9]; clear hw9 w9) | (go_at_call 109; refine (HT _).mono ?_; rintro e w9 ⟨rfl, hw9⟩; rw [hw9]; clear hw9 w9))
                go_ret
                exact ⟨rfl, (Below.refl _ _).alloc (Nat.le_refl _) _⟩
              | true =>
                have hB : B = true := bt.out ⟨by omega, by omega, by omega, by omega, (HS1.out.1 rfl).1, (HS1.out.1 rfl).2, (HT1.out.1 rfl).1, (HT1.out.1 rfl).2⟩
                subst hB
                go_enter Tryz.func90, Tryz.ntmps90
                go_wp2_with (first | (go_at_call 107; refine (HS _).mono ?_; rintro e w9 ⟨rfl, hw9⟩; rw [hw9]; clear hw9 w9) | (go_at_call 109; refine (HT _).mono ?_; rintro e w9 ⟨rfl, hw9⟩; rw [hw9]; clear hw9 w9))
                go_ret
                exact ⟨rfl, (Below.refl _ _).alloc (Nat.le_refl _) _⟩
          · have t2n : 1000 < mx := by omega
            have t2d0 : decide (mx ≤ 1000) = false := by simp; omega
            clear t2
            have k1 := K1.out
            have hB : B = false := bf.out fun h => by unfold cfgOk at h; omega
            subst hB
            go_enter Tryz.func90, Tryz.ntmps90
            go_wp2_with (first | (go_at_call 107; refine (HS _).mono ?_; rintro e w9 ⟨rfl, hw9⟩; rw [hw9]; clear hw9 w9) | (go_at_call 109; refine (HT _).mono ?_; rintro e w9 ⟨rfl, hw9⟩; rw [hw9]; clear hw9 w9))
            go_ret
            exact ⟨rfl, (Below.refl _ _).alloc (Nat.le_refl _) _⟩
        · have t1n : mx < mn := by omega
          have t1d0 : decide (mn ≤ mx) = false := by simp; omega
          clear t1
          have k1 := K1.out
          have hB : B = false := bf.out fun h => by unfold cfgOk at h; omega
          subst hB
          go_enter Tryz.func90, Tryz.ntmps90
          go_wp2_with (first | (go_at_call 107; refine (HS _).mono ?_; rintro e w9 ⟨rfl, hw9⟩; rw [hw9]; clear hw9 w9) | (go_at_call 109; refine (HT _).mono ?_; rintro e w9 ⟨rfl, hw9⟩; rw [hw9]; clear hw9 w9))
          go_ret
          exact ⟨rfl, (Below.refl _ _).alloc (Nat.le_refl _) _⟩
      · have t0n : mn < 1 := by omega
        have t0d0 : decide (1 ≤ mn) = false := by simp; omega
        clear t0
        have k1 := K1.out
        have hB : B = false := bf.out fun h => by unfold cfgOk at h; omega
        subst hB
        go_enter Tryz.func90, Tryz.ntmps90
        go_wp2_with (first | (go_at_call 107; refine (HS _).mono ?_; rintro e w9 ⟨rfl, hw9⟩; rw [hw9]; clear hw9 w9) | (go_at_call 109; refine (HT _).mono ?_; rintro e w9 ⟨rfl, hw9⟩; rw [hw9]; clear hw9 w9))
        go_ret
        exact ⟨rfl, (Below.refl _ _).alloc (Nat.le_refl _) _⟩
  · have h1 : (k != 1) = true := by simp; omega
    have h2 : (k != 2) = true := by simp; omega
    have hB : B = false := bf.out fun h => kk h.1
    clear kk
    subst hB
    go_enter Tryz.func90, Tryz.ntmps90
    go_wp2_with (first | (go_at_call 107; refine (HS _).mono ?_; rintro e w9 ⟨rfl, hw9⟩; rw [hw9]; clear hw9 w9) | (go_at_call 109; refine (HT _).mono ?_; rintro e w9 ⟨rfl, hw9⟩; rw [hw9]; clear hw9 w9))
    go_ret
    exact ⟨rfl, (Below.refl _ _).alloc (Nat.le_refl _) _⟩

set_option maxHeartbeats 4000000 in
theorem impl_limok (k mn mx sp sl li gd av ws : Int) (a : Option Addr) (c : Nat) (L : List (Int × Int)) (B : Bool) (w : World) (ha : WOk w a L) (hl : (L.length : Int) ≤ 1048577) (HB : Hid (B = true ↔ limOk k mn mx sp sl li gd av ws L)) :
    Calls Tryz.prog 58 #[.agg #[.int .i64 k, .int .i64 mn, .int .i64 mx, .int .i64 sp, .int .i64 sl, .int .i64 li, .int .i64 gd, .int .i64 av, .int .i64 ws, .slice a L.length c]] w fun e w' => e = .returned (.bool B) ∧ Below w.heap.size w w' := by
  have HA : Hid (WOk w a L) := ha
  clear ha
  obtain ⟨C1, HC1⟩ := flag (cfgOk k mn mx sp sl)
  obtain ⟨W2, HW2⟩ := flag (winOk ws L)
  have HC := fun W => impl_cfgok k mn mx sp sl C1 W HC1
  have HW := fun W h => impl_ok ws a c L W2 W h hl HW2
  have bf : Hid (¬ limOk k mn mx sp sl li gd av ws L → B = false) := fun h => by cases B with
    | false => rfl
    | true => exact absurd (HB.out.1 rfl) h
  have bt : Hid (limOk k mn mx sp sl li gd av ws L → B = true) := fun h => HB.out.2 h
  cases C1 with
  | false =>
    have hB : B = false := bf.out fun h => by have := HC1.out.2 h.1; cases this
    subst hB
    go_enter Tryz.func58, Tryz.ntmps58
    go_wp2_with (first | (go_at_call 90; refine (HC _).mono ?_; rintro e w1 ⟨rfl, hb1⟩; obtain ⟨hc1, hf1⟩ := bcell hb1; have hx1 := size1 hb1; have B1 : Hid (Below w.heap.size w w1) := past_box hb1; clear hb1) | (go_at_call 91; refine (HW _ (HA.out.below B1.out)).mono ?_; rintro e w2 ⟨rfl, hb2⟩; obtain ⟨hc2, hf2⟩ := bcell hb2; have B2 : Hid (Below w.heap.size w w2) := B1.out.trans (hb2.mono (by omega)); clear hb2))
    go_ret
    exact ⟨rfl, B1.out⟩
  | true =>
    by_cases t0 : mn ≤ li
    · skip
      have t0d0 : decide (li < mn) = false := by simp; omega
      by_cases t1 : li ≤ mx
      · skip
        have t1d0 : decide (mx < li) = false := by simp; omega
        by_cases t2 : 0 ≤ gd
        · skip
          have t2d0 : decide (gd < 0) = false := by simp; omega
          by_cases t3 : gd ≤ 1000
          · skip
            have t3d0 : decide (1000 < gd) = false := by simp; omega
            by_cases t4 : 0 ≤ av
            · skip
              have t4d0 : decide (av < 0) = false := by simp; omega
              by_cases t5 : av ≤ 65536000000
              · skip
                have t5d0 : decide (65536000000 < av) = false := by simp; omega
                cases W2 with
                | false =>
                  have hB : B = false := bf.out fun h => by have := HW2.out.2 h.2.2.2.2.2.2.2.1; cases this
                  subst hB
                  go_enter Tryz.func58, Tryz.ntmps58
                  go_wp2_with (first | (go_at_call 90; refine (HC _).mono ?_; rintro e w1 ⟨rfl, hb1⟩; obtain ⟨hc1, hf1⟩ := bcell hb1; have hx1 := size1 hb1; have B1 : Hid (Below w.heap.size w w1) := past_box hb1; clear hb1) | (go_at_call 91; refine (HW _ (HA.out.below B1.out)).mono ?_; rintro e w2 ⟨rfl, hb2⟩; obtain ⟨hc2, hf2⟩ := bcell hb2; have B2 : Hid (Below w.heap.size w w2) := B1.out.trans (hb2.mono (by omega)); clear hb2))
                  go_ret
                  exact ⟨rfl, B2.out⟩
                | true =>
                  by_cases s1 : ws = sp
                  · have s1b : (ws == sp) = true := by simpa using s1
                    have hB : B = true := bt.out ⟨HC1.out.1 rfl, by omega, by omega, by omega, by omega, by omega, by omega, HW2.out.1 rfl, s1⟩
                    have S1 : Hid (ws = sp) := s1
                    clear s1
                    subst hB
                    go_enter Tryz.func58, Tryz.ntmps58
                    go_wp2_with (first | (go_at_call 90; refine (HC _).mono ?_; rintro e w1 ⟨rfl, hb1⟩; obtain ⟨hc1, hf1⟩ := bcell hb1; have hx1 := size1 hb1; have B1 : Hid (Below w.heap.size w w1) := past_box hb1; clear hb1) | (go_at_call 91; refine (HW _ (HA.out.below B1.out)).mono ?_; rintro e w2 ⟨rfl, hb2⟩; obtain ⟨hc2, hf2⟩ := bcell hb2; have B2 : Hid (Below w.heap.size w w2) := B1.out.trans (hb2.mono (by omega)); clear hb2))
                    go_ret
                    exact ⟨rfl, B2.out⟩
                  · have s1b : (ws == sp) = false := by simpa using s1
                    have hB : B = false := bf.out fun h => s1 h.2.2.2.2.2.2.2.2
                    subst hB
                    go_enter Tryz.func58, Tryz.ntmps58
                    go_wp2_with (first | (go_at_call 90; refine (HC _).mono ?_; rintro e w1 ⟨rfl, hb1⟩; obtain ⟨hc1, hf1⟩ := bcell hb1; have hx1 := size1 hb1; have B1 : Hid (Below w.heap.size w w1) := past_box hb1; clear hb1) | (go_at_call 91; refine (HW _ (HA.out.below B1.out)).mono ?_; rintro e w2 ⟨rfl, hb2⟩; obtain ⟨hc2, hf2⟩ := bcell hb2; have B2 : Hid (Below w.heap.size w w2) := B1.out.trans (hb2.mono (by omega)); clear hb2))
                    go_ret
                    exact ⟨rfl, B2.out⟩
              · have t5n : 65536000000 < av := by omega
                have t5d0 : decide (65536000000 < av) = true := by simp; omega
                clear t5
                have hB : B = false := bf.out fun h => by unfold limOk at h; omega
                subst hB
                go_enter Tryz.func58, Tryz.ntmps58
                go_wp2_with (first | (go_at_call 90; refine (HC _).mono ?_; rintro e w1 ⟨rfl, hb1⟩; obtain ⟨hc1, hf1⟩ := bcell hb1; have hx1 := size1 hb1; have B1 : Hid (Below w.heap.size w w1) := past_box hb1; clear hb1) | (go_at_call 91; refine (HW _ (HA.out.below B1.out)).mono ?_; rintro e w2 ⟨rfl, hb2⟩; obtain ⟨hc2, hf2⟩ := bcell hb2; have B2 : Hid (Below w.heap.size w w2) := B1.out.trans (hb2.mono (by omega)); clear hb2))
                go_ret
                exact ⟨rfl, B1.out⟩
            · have t4n : av < 0 := by omega
              have t4d0 : decide (av < 0) = true := by simp; omega
              clear t4
              have hB : B = false := bf.out fun h => by unfold limOk at h; omega
              subst hB
              go_enter Tryz.func58, Tryz.ntmps58
              go_wp2_with (first | (go_at_call 90; refine (HC _).mono ?_; rintro e w1 ⟨rfl, hb1⟩; obtain ⟨hc1, hf1⟩ := bcell hb1; have hx1 := size1 hb1; have B1 : Hid (Below w.heap.size w w1) := past_box hb1; clear hb1) | (go_at_call 91; refine (HW _ (HA.out.below B1.out)).mono ?_; rintro e w2 ⟨rfl, hb2⟩; obtain ⟨hc2, hf2⟩ := bcell hb2; have B2 : Hid (Below w.heap.size w w2) := B1.out.trans (hb2.mono (by omega)); clear hb2))
              go_ret
              exact ⟨rfl, B1.out⟩
          · have t3n : 1000 < gd := by omega
            have t3d0 : decide (1000 < gd) = true := by simp; omega
            clear t3
            have hB : B = false := bf.out fun h => by unfold limOk at h; omega
            subst hB
            go_enter Tryz.func58, Tryz.ntmps58
            go_wp2_with (first | (go_at_call 90; refine (HC _).mono ?_; rintro e w1 ⟨rfl, hb1⟩; obtain ⟨hc1, hf1⟩ := bcell hb1; have hx1 := size1 hb1; have B1 : Hid (Below w.heap.size w w1) := past_box hb1; clear hb1) | (go_at_call 91; refine (HW _ (HA.out.below B1.out)).mono ?_; rintro e w2 ⟨rfl, hb2⟩; obtain ⟨hc2, hf2⟩ := bcell hb2; have B2 : Hid (Below w.heap.size w w2) := B1.out.trans (hb2.mono (by omega)); clear hb2))
            go_ret
            exact ⟨rfl, B1.out⟩
        · have t2n : gd < 0 := by omega
          have t2d0 : decide (gd < 0) = true := by simp; omega
          clear t2
          have hB : B = false := bf.out fun h => by unfold limOk at h; omega
          subst hB
          go_enter Tryz.func58, Tryz.ntmps58
          go_wp2_with (first | (go_at_call 90; refine (HC _).mono ?_; rintro e w1 ⟨rfl, hb1⟩; obtain ⟨hc1, hf1⟩ := bcell hb1; have hx1 := size1 hb1; have B1 : Hid (Below w.heap.size w w1) := past_box hb1; clear hb1) | (go_at_call 91; refine (HW _ (HA.out.below B1.out)).mono ?_; rintro e w2 ⟨rfl, hb2⟩; obtain ⟨hc2, hf2⟩ := bcell hb2; have B2 : Hid (Below w.heap.size w w2) := B1.out.trans (hb2.mono (by omega)); clear hb2))
          go_ret
          exact ⟨rfl, B1.out⟩
      · have t1n : mx < li := by omega
        have t1d0 : decide (mx < li) = true := by simp; omega
        clear t1
        have hB : B = false := bf.out fun h => by unfold limOk at h; omega
        subst hB
        go_enter Tryz.func58, Tryz.ntmps58
        go_wp2_with (first | (go_at_call 90; refine (HC _).mono ?_; rintro e w1 ⟨rfl, hb1⟩; obtain ⟨hc1, hf1⟩ := bcell hb1; have hx1 := size1 hb1; have B1 : Hid (Below w.heap.size w w1) := past_box hb1; clear hb1) | (go_at_call 91; refine (HW _ (HA.out.below B1.out)).mono ?_; rintro e w2 ⟨rfl, hb2⟩; obtain ⟨hc2, hf2⟩ := bcell hb2; have B2 : Hid (Below w.heap.size w w2) := B1.out.trans (hb2.mono (by omega)); clear hb2))
        go_ret
        exact ⟨rfl, B1.out⟩
    · have t0n : li < mn := by omega
      have t0d0 : decide (li < mn) = true := by simp; omega
      clear t0
      have hB : B = false := bf.out fun h => by unfold limOk at h; omega
      subst hB
      go_enter Tryz.func58, Tryz.ntmps58
      go_wp2_with (first | (go_at_call 90; refine (HC _).mono ?_; rintro e w1 ⟨rfl, hb1⟩; obtain ⟨hc1, hf1⟩ := bcell hb1; have hx1 := size1 hb1; have B1 : Hid (Below w.heap.size w w1) := past_box hb1; clear hb1) | (go_at_call 91; refine (HW _ (HA.out.below B1.out)).mono ?_; rintro e w2 ⟨rfl, hb2⟩; obtain ⟨hc2, hf2⟩ := bcell hb2; have B2 : Hid (Below w.heap.size w w2) := B1.out.trans (hb2.mono (by omega)); clear hb2))
      go_ret
      exact ⟨rfl, B1.out⟩
end Go.Proofs.YtnabnghjejncpaaGreat.LimImpl
end

section
namespace Go.Proofs.YtnabnghjejncpaaGreat.TrimWalks
open Go.RowKit PairWalks WinOk

/-- Samples as cells. -/
def flat (L : List (Int × Int)) : List Value := L.flatMap fun p => [.int .i64 p.1, .int .i64 p.2]

theorem flag (p : Prop) : ∃ B : Bool, Hid (B = true ↔ p) := by
  by_cases h : p
  · refine ⟨true, ?_⟩
    show true = true ↔ p
    exact ⟨fun _ => h, fun _ => rfl⟩
  · refine ⟨false, ?_⟩
    show false = true ↔ p
    exact ⟨fun e => by simp at e, fun e => absurd e h⟩

/-- Two boxes laid one behind the other, and what is left of them behind a call that turns nothing below. -/
theorem boxes {w w1 : World} {x0 x1 y0 y1 : Value} {s t : TypeId} (hb : Below ((w.alloc (.cells #[x0, x1] s)).alloc (.cells #[y0, y1] t)).heap.size ((w.alloc (.cells #[x0, x1] s)).alloc (.cells #[y0, y1] t)) w1) :
    (w1.cell? ⟨w.heap.size, 0, none⟩ = some x0 ∧ w1.cell? ⟨w.heap.size, 1, none⟩ = some x1) ∧ (w1.cell? ⟨w.heap.size + 1, 0, none⟩ = some y0 ∧ w1.cell? ⟨w.heap.size + 1, 1, none⟩ = some y1) ∧ (∀ j, w1.frozen? ⟨w.heap.size + 1, j, none⟩ = false) ∧ w.heap.size + 2 ≤ w1.heap.size := by
  have hs := hb.size
  simp at hs
  have e0 : w1.heap[w.heap.size]? = some (.cells #[x0, x1] s (0, 0)) := by
    rw [hb.block _ (by simp; omega), Below.heap_alloc _ _ _ (by simp)]
    exact heap_alloc_new w _
  have e1 : w1.heap[w.heap.size + 1]? = some (.cells #[y0, y1] t (0, 0)) := by
    rw [hb.block _ (by simp)]
    have := heap_alloc_new (w.alloc (.cells #[x0, x1] s)) (.cells #[y0, y1] t)
    simpa using this
  refine ⟨⟨?_, ?_⟩, ⟨?_, ?_⟩, fun j => ?_, by omega⟩ <;> simp [World.cell?, World.frozen?, e0, e1]

end Go.Proofs.YtnabnghjejncpaaGreat.TrimWalks
end

section
namespace Go.Proofs.YtnabnghjejncpaaGreat.PushWalks
open Go.RowKit PairWalks WinOk TrimWalks
set_option maxRecDepth 8000

/-- The last one is no earlier than now. -/
def lastLate (now : Int) (D : List (Int × Int)) : Bool := match D.getLast? with
  | some p => decide (now ≤ p.1)
  | none => false

def put (now lat : Int) (D : List (Int × Int)) : List (Int × Int) := if lastLate now D then D else D ++ [(now, lat)]
theorem flat_get (D : List (Int × Int)) (i : Nat) (h : i < D.length) : (flat D)[i * 2]? = some (.int .i64 D[i].1) ∧ (flat D)[i * 2 + 1]? = some (.int .i64 D[i].2) := by
  induction D generalizing i with
  | nil => simp at h
  | cons p D ih =>
    cases i with
    | zero => simp [flat]
    | succ i =>
      have h2 := ih i (by simpa using h)
      have e : flat (p :: D) = .int .i64 p.1 :: .int .i64 p.2 :: flat D := by simp [flat]
      rw [e, show (i + 1) * 2 = i * 2 + 1 + 1 from by omega]
      simpa using h2

/-- A list that the call owns is a list of samples at its front. -/
theorem owns_row {w : World} {base : Nat} {v : Value} {D : List (Int × Int)} (h : w.ownsRow base 155 2 v D.length (flat D)) :
    ∃ a cap, v = .slice a D.length cap ∧ WOk w a D ∧ (∀ b, blk a = some b → base ≤ b) ∧ (D = [] ∨ ∃ g, a = some ⟨g, 0, none⟩ ∧ base ≤ g ∧ PRow w g 0 D) ∧ D.length ≤ cap := by
  rcases h.2 with ⟨hv, h0⟩ | ⟨g, cap, cur, hv, hb, hg, hnc, hm, hs, ht⟩
  · have hD : D = [] := List.length_eq_zero_iff.1 h0
    subst hD
    exact ⟨none, 0, hv, Or.inl rfl, fun b hb => by simp [blk] at hb, Or.inl rfl, Nat.le_refl _⟩
  · have hr : PRow w g 0 D := by
      refine ⟨cur, hg, by omega, fun i hi => ?_⟩
      obtain ⟨h1, h2⟩ := flat_get D i hi
      rw [← ht] at h1 h2
      rw [List.getElem?_take_of_lt (by omega)] at h1 h2
      simp only [Array.getElem?_toList] at h1 h2
      exact ⟨by simpa using h1, by simpa using h2⟩
    refine ⟨some ⟨g, 0, none⟩, cap, hv, Or.inr ⟨g, 0, rfl, hr⟩, fun b hb2 => ?_, Or.inr ⟨g, rfl, hb, hr⟩, hnc⟩
    simp [blk] at hb2
    omega

/-- Behind the loop: the list that grew and its variable. -/
def EndAt (w2 W : World) (bo : Nat) (span : Int) (g cap : Nat) (P : List (Int × Int)) : Prop :=
  W.heap[bo]? = some (.cells #[.int .i64 span, .slice (some ⟨g, 0, none⟩) P.length cap] 50 (0, 0)) ∧ W.ownsRow w2.heap.size 155 2 (.slice (some ⟨g, 0, none⟩) P.length cap) P.length (flat P) ∧ w2.grownBy W (some bo)

theorem EndAt.cap {w2 W : World} {bo : Nat} {span : Int} {g cap : Nat} {P : List (Int × Int)} (h : EndAt w2 W bo span g cap P) : P.length ≤ cap := by
  rcases h.2.1.2 with ⟨h1, _⟩ | ⟨g2, cap2, _, h1, _, _, h2, _⟩
  · simp at h1
  · injection h1 with _ _ h3
    omega

theorem EndAt.row {w2 W : World} {bo : Nat} {span : Int} {g cap : Nat} {P : List (Int × Int)} (h : EndAt w2 W bo span g cap P) : PRow W g 0 P ∧ w2.heap.size ≤ g := by
  obtain ⟨a, cp, hv, _, _, h2, _⟩ := owns_row h.2.1
  injection hv with h3 _ h4
  subst h3
  rcases h2 with h2 | ⟨g2, e, h5, h6⟩
  · subst h2
    rcases h.2.1.2 with ⟨h1, _⟩ | ⟨g2, cap2, cur, h1, h7, h8, _⟩
    · simp at h1
    · injection h1 with h9 _ _
      injection h9 with h9
      injection h9 with h9 _ _
      subst h9
      exact ⟨⟨cur, h8, by simp, fun i hi => by simp at hi⟩, h7⟩
  · injection e with e
    injection e with e _ _
    subst e
    exact ⟨h6, h5⟩

theorem grown_below {w w2 W : World} {bo : Nat} (hb : Below w.heap.size w w2) (hg : w2.grownBy W (some bo)) (hbo : w.heap.size ≤ bo) : Below w.heap.size w W :=
  hb.grown hg hb.size (fun k hk => by injection hk with hk; omega)

end Go.Proofs.YtnabnghjejncpaaGreat.PushWalks
end

section
namespace Go.Proofs.YtnabnghjejncpaaGreat.Queue
open Go.RowKit PairWalks WinOk TrimWalks
set_option maxRecDepth 8000

/-- A list of samples in a block behind base, from place o of it on. -/
def QV (w : World) (base : Nat) (a : Option Addr) (c : Nat) (D : List (Int × Int)) : Prop :=
  D.length ≤ c ∧ c ≤ maxLen ∧ ((a = none ∧ c = 0) ∨ ∃ g o cur, a = some ⟨g, o, none⟩ ∧ base ≤ g ∧ w.heap[g]? = some (.cells cur 155 (0, 0)) ∧ o + c * 2 ≤ cur.size ∧ ∀ (i : Nat) (h : i < D.length), cur[o + i * 2]? = some (.int .i64 D[i].1) ∧ cur[o + i * 2 + 1]? = some (.int .i64 D[i].2))

theorem QV.row {w : World} {base c : Nat} {a : Option Addr} {D : List (Int × Int)} (h : QV w base a c D) : WOk w a D := by
  obtain ⟨hl, _, h⟩ := h
  rcases h with ⟨_, h0⟩ | ⟨g, o, cur, ha, hb, hg, hs, hc⟩
  · exact Or.inl (List.length_eq_zero_iff.1 (by omega))
  · exact Or.inr ⟨g, o, ha, cur, hg, by omega, hc⟩

theorem QV.same {w w' : World} {base c : Nat} {a : Option Addr} {D : List (Int × Int)} (h : QV w base a c D) (e : ∀ g, blk a = some g → w'.heap[g]? = w.heap[g]?) : QV w' base a c D := by
  obtain ⟨hl, hm, h⟩ := h
  refine ⟨hl, hm, ?_⟩
  rcases h with h0 | ⟨g, o, cur, ha, hb, hg, hs, hc⟩
  · exact Or.inl h0
  · exact Or.inr ⟨g, o, cur, ha, hb, by rw [e g (by rw [ha]; rfl)]; exact hg, hs, hc⟩

theorem QV.lt {w : World} {base c : Nat} {a : Option Addr} {D : List (Int × Int)} (h : QV w base a c D) : ∀ g, blk a = some g → base ≤ g ∧ g < w.heap.size ∧ ∃ cur, w.heap[g]? = some (.cells cur 155 (0, 0)) := by
  obtain ⟨hl, hm, h⟩ := h
  intro g hg
  rcases h with ⟨h0, _⟩ | ⟨g2, o, cur, ha, hb, hg2, hs, hc⟩
  · subst h0; simp [blk] at hg
  · subst ha
    simp [blk] at hg
    subst hg
    exact ⟨hb, (Array.getElem?_eq_some_iff.1 hg2).1, cur, hg2⟩

theorem flat_get (D : List (Int × Int)) (i : Nat) (h : i < D.length) : (flat D)[i * 2]? = some (.int .i64 D[i].1) ∧ (flat D)[i * 2 + 1]? = some (.int .i64 D[i].2) := by
  induction D generalizing i with
  | nil => simp at h
  | cons p D ih =>
    cases i with
    | zero => simp [flat]
    | succ i =>
      have h2 := ih i (by simpa using h)
      have e : flat (p :: D) = .int .i64 p.1 :: .int .i64 p.2 :: flat D := by simp [flat]
      rw [e, show (i + 1) * 2 = i * 2 + 1 + 1 from by omega]
      simpa using h2

theorem QV.put {w : World} {base g o c : Nat} {D : List (Int × Int)} {x y : Int} (h : QV w base (some ⟨g, o, none⟩) c D) (hr : D.length + 1 ≤ c) :
    QV (w.setCells g (o + D.length * 2) [.int .i64 x, .int .i64 y]) base (some ⟨g, o, none⟩) c (D ++ [(x, y)]) ∧ w.grownBy (w.setCells g (o + D.length * 2) [.int .i64 x, .int .i64 y]) (some g) := by
  obtain ⟨hl, hm, h⟩ := h
  rcases h with ⟨h0, _⟩ | ⟨g2, o2, cur, ha, hb, hg, hs, hc⟩
  · simp at h0
  · injection ha with ha
    injection ha with h1 h2 _
    subst h1; subst h2
    simp only [World.setCells]
    refine ⟨⟨by simp; omega, hm, Or.inr ⟨g, o, _, rfl, hb, heap_setCell_at (heap_setCell_at hg _ _) _ _, by simpa using hs, fun i hi => ?_⟩⟩, ?_⟩
    · by_cases e : i = D.length
      · subst e
        have e1 : (D ++ [(x, y)])[D.length]'hi = (x, y) := by simp
        rw [e1]
        refine ⟨?_, ?_⟩
        · rw [Array.getElem?_setIfInBounds_ne (by omega)]
          simp [show o + D.length * 2 < cur.size from by omega]
        · simp [show o + D.length * 2 + 1 < cur.size from by omega]
      · have hi2 : i < D.length := by simp at hi; omega
        obtain ⟨h1, h2⟩ := hc i hi2
        rw [List.getElem_append_left hi2]
        refine ⟨?_, ?_⟩
        · rw [Array.getElem?_setIfInBounds_ne (by omega), Array.getElem?_setIfInBounds_ne (by omega)]; exact h1
        · rw [Array.getElem?_setIfInBounds_ne (by omega), Array.getElem?_setIfInBounds_ne (by omega)]; exact h2
    · exact grown_store (grown_store (grown_refl _ _) _ _) _ _

end Go.Proofs.YtnabnghjejncpaaGreat.Queue
end

section
namespace Go.Proofs.YtnabnghjejncpaaGreat.ImplTrim
open Go.RowKit PairWalks WinOk TrimWalks PushWalks ImplOk
set_option maxRecDepth 8000
open Queue (QV)

theorem rises {span : Int} {L : List (Int × Int)} (h : winOk span L) : L.Pairwise fun p q => p.1 < q.1 ∧ p.2 < q.2 := by
  rw [List.pairwise_iff_getElem]
  intro i j hi hj hij
  induction j with
  | zero => omega
  | succ j ih =>
    have h2 := (h.2.2.2 (j + 1) hj).2 (by omega)
    simp only [Nat.add_sub_cancel] at h2
    by_cases e : i = j
    · subst e; exact h2
    · have h1 := ih (by omega) (by omega)
      exact ⟨by omega, by omega⟩

end Go.Proofs.YtnabnghjejncpaaGreat.ImplTrim
end

section
namespace Go.Proofs.YtnabnghjejncpaaGreat.LimImplBack
open Go.RowKit PairWalks WinOk PushWalks Queue ImplTrim LimKit LimCopy LimBack LimImpl
open LimSpec (limOk cfgOk)
set_option maxRecDepth 8000

theorem hid_two {w w1 : World} {A B : Obj} (hb : Below ((w.alloc A).alloc B).heap.size ((w.alloc A).alloc B) w1) : Hid (w1.heap[w.heap.size]? = some A ∧ w1.heap[w.heap.size + 1]? = some B) := by
  refine ⟨?_, ?_⟩
  · rw [hb.block _ (by simp; omega), Below.heap_alloc _ _ _ (by simp)]
    exact heap_alloc_new w _
  · rw [hb.block _ (by simp)]
    have := heap_alloc_new (w.alloc A) B
    simpa using this

end Go.Proofs.YtnabnghjejncpaaGreat.LimImplBack
end

section
namespace Go.Proofs.YtnabnghjejncpaaGreat.ShareMath

theorem words (P b : Nat) : (P / 18446744073709551616 * 18446744073709551616 + P % 18446744073709551616) / b = P / b := by
  have : P / 18446744073709551616 * 18446744073709551616 + P % 18446744073709551616 = P := by omega
  rw [this]

end Go.Proofs.YtnabnghjejncpaaGreat.ShareMath
end

section
namespace Go.Proofs.YtnabnghjejncpaaGreat.DivMath
open Go.RowKit Go.Lib

/-- The digit that is looked for. -/
def digit (u Y d : Nat) : Nat := (u * 4294967296 + d) / Y

/-- What is left behind a digit. -/
theorem rest_lt {u Y d : Nat} (hp : 0 < Y) : ∃ t, u * 4294967296 + d = digit u Y d * Y + t ∧ t < Y := by
  refine ⟨(u * 4294967296 + d) % Y, ?_, Nat.mod_lt _ hp⟩
  unfold digit
  have := Nat.div_add_mod (u * 4294967296 + d) Y
  rw [Nat.mul_comm] at this
  omega

theorem two_gen (B Y q t v0 p r : Nat) (hp : 0 < Y) (h2 : t * B + v0 = p * Y + r) (hr : r < Y) : ((q * Y + t) * B + v0) / Y = q * B + p := by
  have e : (q * Y + t) * B + v0 = Y * (q * B + p) + r := by
    rw [Nat.add_mul, Nat.add_assoc, h2, Nat.mul_add, Nat.mul_comm q Y, Nat.mul_assoc, Nat.mul_comm p Y, Nat.add_assoc]
  rw [e, Nat.mul_add_div hp, Nat.div_eq_of_lt hr, Nat.add_zero]

/-- Two digits are the quotient. -/
theorem two_digits {u Y v1 v0 t : Nat} (hp : 0 < Y) (h1 : u * 4294967296 + v1 = digit u Y v1 * Y + t) :
    ((u * 4294967296 + v1) * 4294967296 + v0) / Y = digit u Y v1 * 4294967296 + digit t Y v0 := by
  obtain ⟨r, h2, hr⟩ := rest_lt (u := t) (Y := Y) (d := v0) hp
  have h3 := two_gen 4294967296 Y (digit u Y v1) t v0 (digit t Y v0) r hp h2 hr
  rw [← h1] at h3
  exact h3

/-- The two words of the number that is divided, shifted. -/
theorem shifted {hi lo y s : Nat} (hs : s ≤ 63) (hh : hi < y) (hlo : lo < 18446744073709551616) :
    (hi * 18446744073709551616 + lo) * 2 ^ s = (hi * 2 ^ s + lo / 2 ^ (64 - s)) * 18446744073709551616 + lo * 2 ^ s % 18446744073709551616
    ∧ lo / 2 ^ (64 - s) < 2 ^ s ∧ hi * 2 ^ s + lo / 2 ^ (64 - s) < y * 2 ^ s := by
  have e64 : (18446744073709551616 : Nat) = 2 ^ (64 - s) * 2 ^ s := by rw [← Nat.pow_add, show 64 - s + s = 64 from by omega]
  have hp : 0 < 2 ^ s := Nat.two_pow_pos _
  have hp2 : 0 < 2 ^ (64 - s) := Nat.two_pow_pos _
  have hd : lo * 2 ^ s / 18446744073709551616 = lo / 2 ^ (64 - s) := by
    rw [e64, Nat.mul_div_mul_right _ _ hp]
  have hlt : lo / 2 ^ (64 - s) < 2 ^ s := by
    rw [Nat.div_lt_iff_lt_mul hp2, Nat.mul_comm, ← e64]; exact hlo
  refine ⟨?_, hlt, ?_⟩
  · have := Nat.div_add_mod (lo * 2 ^ s) 18446744073709551616
    rw [hd] at this
    rw [Nat.add_mul, Nat.add_mul, ← this]
    have e1 : hi * 18446744073709551616 * 2 ^ s = hi * 2 ^ s * 18446744073709551616 := by rw [Nat.mul_right_comm]
    rw [e1]
    omega
  · have : (hi + 1) * 2 ^ s ≤ y * 2 ^ s := Nat.mul_le_mul_right _ hh
    rw [Nat.add_mul] at this
    omega

end Go.Proofs.YtnabnghjejncpaaGreat.DivMath
end

section
namespace Go.Proofs.YtnabnghjejncpaaGreat.DivWalks
open Go.RowKit DivMath

theorem join64 (u : Nat) {v v1 v0 : Nat} (hv1 : v1 = v / 4294967296) (hv0 : v0 = v % 4294967296) : (u * 4294967296 + v1) * 4294967296 + v0 = u * 18446744073709551616 + v := by
  have h : v1 * 4294967296 + v0 = v := by omega
  rw [Nat.add_mul, Nat.mul_assoc, Nat.add_assoc, h]

/-- The quotient, out of its two digits. -/
theorem whole {hi lo y s Y u v v1 v0 t : Nat} (hs : s ≤ 63) (hh : hi < y) (hlo : lo < 18446744073709551616) (hY : Y = y * 2 ^ s) (hp : 0 < Y) (hu : u = hi * 2 ^ s + lo / 2 ^ (64 - s)) (hv : v = lo * 2 ^ s % 18446744073709551616)
    (hv1 : v1 = v / 4294967296) (hv0 : v0 = v % 4294967296) (ht : u * 4294967296 + v1 = digit u Y v1 * Y + t) :
    ((digit u Y v1 : Nat) : Int) * 4294967296 + ((digit t Y v0 : Nat) : Int) = (((hi * 18446744073709551616 + lo) / y : Nat) : Int) := by
  have h1 := two_digits (v0 := v0) hp ht
  obtain ⟨h2, _, _⟩ := shifted hs hh hlo
  rw [← hu, ← hv] at h2
  have e0 := join64 u (v := v) hv1 hv0
  have e := e0.trans h2.symm
  rw [e, hY, Nat.mul_div_mul_right _ _ (Nat.two_pow_pos _), ← hY] at h1
  rw [h1]
  omega

end Go.Proofs.YtnabnghjejncpaaGreat.DivWalks
end

section
namespace Go.Proofs.YtnabnghjejncpaaGreat.LimImplSteps
open Go.RowKit PairWalks WinOk PushWalks ImplOk LimKit LimCopy LimBack LimImpl LimImplBack
open LimSpec (limOk cfgOk flag size1 past_box)
set_option maxRecDepth 8000
set_option linter.unusedVariables false
set_option linter.unusedSimpArgs false

theorem hid_three {w w1 : World} {A B C : Obj} (hb : Below (((w.alloc A).alloc B).alloc C).heap.size (((w.alloc A).alloc B).alloc C) w1) : Hid (w1.heap[w.heap.size + 1]? = some B ∧ w1.heap[w.heap.size + 1 + 1]? = some C) := by
  refine ⟨?_, ?_⟩
  · rw [hb.block _ (by simp), Below.heap_alloc _ _ _ (by simp)]
    have := heap_alloc_new (w.alloc A) B
    simpa using this
  · rw [hb.block _ (by simp)]
    have := heap_alloc_new ((w.alloc A).alloc B) C
    simpa using this
theorem past_three {w w1 : World} {A B C : Obj} (h : Below (((w.alloc A).alloc B).alloc C).heap.size (((w.alloc A).alloc B).alloc C) w1) : Below w.heap.size w w1 := ((((Below.refl _ _).alloc (Nat.le_refl _) _).alloc (by simp) _).alloc (by simp; omega) _).trans (h.mono (by simp; omega))
theorem size3 {w w1 : World} {A B C : Obj} (h : Below (((w.alloc A).alloc B).alloc C).heap.size (((w.alloc A).alloc B).alloc C) w1) : w.heap.size + 1 + 1 < w1.heap.size := by
  have := h.size
  simp at this
  omega
end Go.Proofs.YtnabnghjejncpaaGreat.LimImplSteps
end

section
namespace Go.Proofs.YtnabnghjejncpaaGreat.LimNews
open Go.RowKit PairWalks WinOk LimKit
open LimSpec (limOk cfgOk flag spec_limok)
open LimImpl (impl_limok)
open LimImplSteps (hid_three past_three size3)
set_option maxRecDepth 8000
set_option linter.unusedVariables false
set_option linter.unusedSimpArgs false

/-- What LimNew answers. -/
def NewAns (w : World) (k mn mx sp sl st : Int) (B : Bool) (e : Ending) (w' : World) : Prop := ∃ v : Value, e = .returned (.tuple #[v, .bool B]) ∧ ((B = true ∧ v = .agg #[.int .i64 k, .int .i64 mn, .int .i64 mx, .int .i64 sp, .int .i64 sl, .int .i64 st, .int .i64 0, .int .i64 0, .int .i64 sp, .slice none 0 0]) ∨ (B = false ∧ v = .agg #[.int .i64 0, .int .i64 0, .int .i64 0, .int .i64 0, .int .i64 0, .int .i64 0, .int .i64 0, .int .i64 0, .int .i64 0, .slice none 0 0])) ∧ Below w.heap.size w w'

set_option maxHeartbeats 2000000 in
theorem spec_new_yes (k mn mx sp sl st : Int) (w : World) (hk : limOk k mn mx sp sl st 0 0 sp []) :
    Calls Tryz.prog 75 #[.agg #[.int .i64 k, .int .i64 mn, .int .i64 mx, .int .i64 sp, .int .i64 sl], .int .i64 st] w (NewAns w k mn mx sp sl st true) := by
  have HO := fun W => spec_limok k mn mx sp sl st 0 0 sp none 0 [] true W (Or.inl rfl) (by simp) ⟨fun _ => hk, fun _ => rfl⟩
  simp only [List.length_nil] at HO
  clear hk
  go_enter Tryz.func75, Tryz.ntmps75
  go_wp2_with (go_at_call 43; refine (HO _).mono ?_; rintro e w1 ⟨rfl, hb1⟩; have B1 : Hid (Below w.heap.size w w1) := past_three hb1; have P1 := hid_three hb1; have hz1 := size3 hb1; have d0 := cell_blk P1.out.1 0; have e0 := fz_blk P1.out.1 0; have d1 := cell_blk P1.out.1 1; have e1 := fz_blk P1.out.1 1; have d2 := cell_blk P1.out.1 2; have e2 := fz_blk P1.out.1 2; have d3 := cell_blk P1.out.1 3; have e3 := fz_blk P1.out.1 3; have d4 := cell_blk P1.out.1 4; have e4 := fz_blk P1.out.1 4; have d5 := cell_blk P1.out.1 5; have e5 := fz_blk P1.out.1 5; have d6 := cell_blk P1.out.1 6; have e6 := fz_blk P1.out.1 6; have d7 := cell_blk P1.out.1 7; have e7 := fz_blk P1.out.1 7; have d8 := cell_blk P1.out.1 8; have e8 := fz_blk P1.out.1 8; have d9 := cell_blk P1.out.1 9; have e9 := fz_blk P1.out.1 9; have c0 := cell_blk P1.out.2 0; have c1 := cell_blk P1.out.2 1; have c2 := cell_blk P1.out.2 2; have c3 := cell_blk P1.out.2 3; have c4 := cell_blk P1.out.2 4; have c5 := cell_blk P1.out.2 5; have c6 := cell_blk P1.out.2 6; have c7 := cell_blk P1.out.2 7; have c8 := cell_blk P1.out.2 8; have c9 := cell_blk P1.out.2 9; clear hb1 P1)
  refine bodyPost_ret (v := .tuple #[.agg #[.int .i64 k, .int .i64 mn, .int .i64 mx, .int .i64 sp, .int .i64 sl, .int .i64 st, .int .i64 0, .int .i64 0, .int .i64 sp, .slice none 0 0], .bool true]) (by simp [results, Tryz.results75, go_sem, d0, d1, d2, d3, d4, d5, d6, d7, d8, d9]) rfl ⟨_, rfl, Or.inl ⟨rfl, rfl⟩, ?_⟩
  exact ((((((((((B1.out).setCell (Nat.le_add_right _ 1) _).setCell (Nat.le_add_right _ 1) _).setCell (Nat.le_add_right _ 1) _).setCell (Nat.le_add_right _ 1) _).setCell (Nat.le_add_right _ 1) _).setCell (Nat.le_add_right _ 1) _).setCell (Nat.le_add_right _ 1) _).setCell (Nat.le_add_right _ 1) _).setCell (Nat.le_add_right _ 1) _).setCell (Nat.le_add_right _ 1) _

set_option maxHeartbeats 2000000 in
theorem spec_new_no (k mn mx sp sl st : Int) (w : World) (hk : ¬ limOk k mn mx sp sl st 0 0 sp []) :
    Calls Tryz.prog 75 #[.agg #[.int .i64 k, .int .i64 mn, .int .i64 mx, .int .i64 sp, .int .i64 sl], .int .i64 st] w (NewAns w k mn mx sp sl st false) := by
  have HO := fun W => spec_limok k mn mx sp sl st 0 0 sp none 0 [] false W (Or.inl rfl) (by simp) ⟨fun e => (by cases e), fun e => absurd e hk⟩
  simp only [List.length_nil] at HO
  clear hk
  go_enter Tryz.func75, Tryz.ntmps75
  go_wp2_with (go_at_call 43; refine (HO _).mono ?_; rintro e w1 ⟨rfl, hb1⟩; have B1 : Hid (Below w.heap.size w w1) := past_three hb1; have P1 := hid_three hb1; have hz1 := size3 hb1; have d0 := cell_blk P1.out.1 0; have e0 := fz_blk P1.out.1 0; have d1 := cell_blk P1.out.1 1; have e1 := fz_blk P1.out.1 1; have d2 := cell_blk P1.out.1 2; have e2 := fz_blk P1.out.1 2; have d3 := cell_blk P1.out.1 3; have e3 := fz_blk P1.out.1 3; have d4 := cell_blk P1.out.1 4; have e4 := fz_blk P1.out.1 4; have d5 := cell_blk P1.out.1 5; have e5 := fz_blk P1.out.1 5; have d6 := cell_blk P1.out.1 6; have e6 := fz_blk P1.out.1 6; have d7 := cell_blk P1.out.1 7; have e7 := fz_blk P1.out.1 7; have d8 := cell_blk P1.out.1 8; have e8 := fz_blk P1.out.1 8; have d9 := cell_blk P1.out.1 9; have e9 := fz_blk P1.out.1 9; have c0 := cell_blk P1.out.2 0; have c1 := cell_blk P1.out.2 1; have c2 := cell_blk P1.out.2 2; have c3 := cell_blk P1.out.2 3; have c4 := cell_blk P1.out.2 4; have c5 := cell_blk P1.out.2 5; have c6 := cell_blk P1.out.2 6; have c7 := cell_blk P1.out.2 7; have c8 := cell_blk P1.out.2 8; have c9 := cell_blk P1.out.2 9; clear hb1 P1)
  refine bodyPost_ret (v := .tuple #[.agg #[.int .i64 0, .int .i64 0, .int .i64 0, .int .i64 0, .int .i64 0, .int .i64 0, .int .i64 0, .int .i64 0, .int .i64 0, .slice none 0 0], .bool false]) (by simp [results, Tryz.results75, go_sem, d0, d1, d2, d3, d4, d5, d6, d7, d8, d9]) rfl ⟨_, rfl, Or.inr ⟨rfl, rfl⟩, ?_⟩
  exact ((((((((((B1.out).setCell (Nat.le_add_right _ 1) _).setCell (Nat.le_add_right _ 1) _).setCell (Nat.le_add_right _ 1) _).setCell (Nat.le_add_right _ 1) _).setCell (Nat.le_add_right _ 1) _).setCell (Nat.le_add_right _ 1) _).setCell (Nat.le_add_right _ 1) _).setCell (Nat.le_add_right _ 1) _).setCell (Nat.le_add_right _ 1) _).setCell (Nat.le_add_right _ 1) _

theorem hid_new {w w1 w2 : World} {A B C D : Obj} (hB : Below w.heap.size w w1) (hP : w1.heap[w.heap.size]? = some A ∧ w1.heap[w.heap.size + 1]? = some B) (hb : Below ((w1.alloc C).alloc D).heap.size ((w1.alloc C).alloc D) w2) (hy : w.heap.size + 1 < w1.heap.size) : Hid (w2.heap[w.heap.size + 1]? = some B ∧ w2.heap[w1.heap.size + 1]? = some D ∧ Below w.heap.size w w2 ∧ w.heap.size + 1 < w2.heap.size ∧ w1.heap.size + 1 < w2.heap.size) := by
  have hs := hb.size
  simp at hs
  refine ⟨?_, ?_, (hB.trans ((((Below.refl w1.heap.size w1).alloc (Nat.le_refl _) C).alloc (by simp) D).mono (by omega))).trans (hb.mono (by simp; omega)), by omega, by omega⟩
  · rw [hb.block _ (by simp; omega), Below.heap_alloc _ _ _ (by simp; omega), Below.heap_alloc _ _ _ (by omega)]; exact hP.2
  · rw [hb.block _ (by simp)]
    have := heap_alloc_new (w1.alloc C) D
    simpa using this

set_option maxHeartbeats 2000000 in
theorem impl_new_yes (k mn mx sp sl st : Int) (w : World) (hk : limOk k mn mx sp sl st 0 0 sp []) (hs : 1 ≤ sp ∧ sp ≤ 100000) :
    Calls Tryz.prog 54 #[.agg #[.int .i64 k, .int .i64 mn, .int .i64 mx, .int .i64 sp, .int .i64 sl], .int .i64 st] w (NewAns w k mn mx sp sl st true) := by
  have HN := fun W => NewWalks.impl_new sp sp true W (Or.inl ⟨rfl, rfl, hs.1, hs.2⟩)
  have HO := fun W => impl_limok k mn mx sp sl st 0 0 sp none 0 [] true W (Or.inl rfl) (by simp) ⟨fun _ => hk, fun _ => rfl⟩
  simp only [List.length_nil] at HO
  clear hk hs
  go_enter Tryz.func54, Tryz.ntmps54
  go_wp2_with (first | (go_at_call 87; refine (HN _).mono ?_; rintro e w1 ⟨rfl, hb1⟩; have hy1 := LimBack.bsize hb1; have B1 : Hid (Below w.heap.size w w1) := LimBack.past_two hb1; have P1 := LimImplBack.hid_two hb1; have c0 := cell_blk P1.out.1 0; have c1 := cell_blk P1.out.1 1; have c2 := cell_blk P1.out.1 2; have c3 := cell_blk P1.out.1 3; have c4 := cell_blk P1.out.1 4; have hx1 : w.heap.size < w1.heap.size := Nat.lt_of_succ_lt hy1; clear hb1) | (go_at_call 58; refine (HO _).mono ?_; clear c0 c1 c2 c3 c4; rintro e w2 ⟨rfl, hb2⟩; have Q2 := hid_new B1.out P1.out hb2 hy1; have d0 := cell_blk Q2.out.1 0; have e0 := fz_blk Q2.out.1 0; have d1 := cell_blk Q2.out.1 1; have e1 := fz_blk Q2.out.1 1; have d2 := cell_blk Q2.out.1 2; have e2 := fz_blk Q2.out.1 2; have d3 := cell_blk Q2.out.1 3; have e3 := fz_blk Q2.out.1 3; have d4 := cell_blk Q2.out.1 4; have e4 := fz_blk Q2.out.1 4; have d5 := cell_blk Q2.out.1 5; have e5 := fz_blk Q2.out.1 5; have d6 := cell_blk Q2.out.1 6; have e6 := fz_blk Q2.out.1 6; have d7 := cell_blk Q2.out.1 7; have e7 := fz_blk Q2.out.1 7; have d8 := cell_blk Q2.out.1 8; have e8 := fz_blk Q2.out.1 8; have d9 := cell_blk Q2.out.1 9; have e9 := fz_blk Q2.out.1 9; have c0 := cell_blk Q2.out.2.1 0; have c1 := cell_blk Q2.out.2.1 1; have c2 := cell_blk Q2.out.2.1 2; have c3 := cell_blk Q2.out.2.1 3; have c4 := cell_blk Q2.out.2.1 4; have c5 := cell_blk Q2.out.2.1 5; have c6 := cell_blk Q2.out.2.1 6; have c7 := cell_blk Q2.out.2.1 7; have c8 := cell_blk Q2.out.2.1 8; have c9 := cell_blk Q2.out.2.1 9; have hy2 := Q2.out.2.2.2.1; have hz2 := Q2.out.2.2.2.2; clear hb2))
  refine bodyPost_ret (v := .tuple #[.agg #[.int .i64 k, .int .i64 mn, .int .i64 mx, .int .i64 sp, .int .i64 sl, .int .i64 st, .int .i64 0, .int .i64 0, .int .i64 sp, .slice none 0 0], .bool true]) (by simp [results, Tryz.results54, go_sem, d0, d1, d2, d3, d4, d5, d6, d7, d8, d9]) rfl ⟨_, rfl, Or.inl ⟨rfl, rfl⟩, ?_⟩
  exact ((((((((((Q2.out.2.2.1).setCell (Nat.le_add_right _ 1) _).setCell (Nat.le_add_right _ 1) _).setCell (Nat.le_add_right _ 1) _).setCell (Nat.le_add_right _ 1) _).setCell (Nat.le_add_right _ 1) _).setCell (Nat.le_add_right _ 1) _).setCell (Nat.le_add_right _ 1) _).setCell (Nat.le_add_right _ 1) _).setCell (Nat.le_add_right _ 1) _).setCell (Nat.le_add_right _ 1) _

set_option maxHeartbeats 2000000 in
theorem impl_new_no (k mn mx sp sl st : Int) (w : World) (hk : ¬ limOk k mn mx sp sl st 0 0 sp []) (hs : 1 ≤ sp ∧ sp ≤ 100000) :
    Calls Tryz.prog 54 #[.agg #[.int .i64 k, .int .i64 mn, .int .i64 mx, .int .i64 sp, .int .i64 sl], .int .i64 st] w (NewAns w k mn mx sp sl st false) := by
  have HN := fun W => NewWalks.impl_new sp sp true W (Or.inl ⟨rfl, rfl, hs.1, hs.2⟩)
  have HO := fun W => impl_limok k mn mx sp sl st 0 0 sp none 0 [] false W (Or.inl rfl) (by simp) ⟨fun e => (by cases e), fun e => absurd e hk⟩
  simp only [List.length_nil] at HO
  clear hk hs
  go_enter Tryz.func54, Tryz.ntmps54
  go_wp2_with (first | (go_at_call 87; refine (HN _).mono ?_; rintro e w1 ⟨rfl, hb1⟩; have hy1 := LimBack.bsize hb1; have B1 : Hid (Below w.heap.size w w1) := LimBack.past_two hb1; have P1 := LimImplBack.hid_two hb1; have c0 := cell_blk P1.out.1 0; have c1 := cell_blk P1.out.1 1; have c2 := cell_blk P1.out.1 2; have c3 := cell_blk P1.out.1 3; have c4 := cell_blk P1.out.1 4; have hx1 : w.heap.size < w1.heap.size := Nat.lt_of_succ_lt hy1; clear hb1) | (go_at_call 58; refine (HO _).mono ?_; clear c0 c1 c2 c3 c4; rintro e w2 ⟨rfl, hb2⟩; have Q2 := hid_new B1.out P1.out hb2 hy1; have d0 := cell_blk Q2.out.1 0; have e0 := fz_blk Q2.out.1 0; have d1 := cell_blk Q2.out.1 1; have e1 := fz_blk Q2.out.1 1; have d2 := cell_blk Q2.out.1 2; have e2 := fz_blk Q2.out.1 2; have d3 := cell_blk Q2.out.1 3; have e3 := fz_blk Q2.out.1 3; have d4 := cell_blk Q2.out.1 4; have e4 := fz_blk Q2.out.1 4; have d5 := cell_blk Q2.out.1 5; have e5 := fz_blk Q2.out.1 5; have d6 := cell_blk Q2.out.1 6; have e6 := fz_blk Q2.out.1 6; have d7 := cell_blk Q2.out.1 7; have e7 := fz_blk Q2.out.1 7; have d8 := cell_blk Q2.out.1 8; have e8 := fz_blk Q2.out.1 8; have d9 := cell_blk Q2.out.1 9; have e9 := fz_blk Q2.out.1 9; have c0 := cell_blk Q2.out.2.1 0; have c1 := cell_blk Q2.out.2.1 1; have c2 := cell_blk Q2.out.2.1 2; have c3 := cell_blk Q2.out.2.1 3; have c4 := cell_blk Q2.out.2.1 4; have c5 := cell_blk Q2.out.2.1 5; have c6 := cell_blk Q2.out.2.1 6; have c7 := cell_blk Q2.out.2.1 7; have c8 := cell_blk Q2.out.2.1 8; have c9 := cell_blk Q2.out.2.1 9; have hy2 := Q2.out.2.2.2.1; have hz2 := Q2.out.2.2.2.2; clear hb2))
  refine bodyPost_ret (v := .tuple #[.agg #[.int .i64 0, .int .i64 0, .int .i64 0, .int .i64 0, .int .i64 0, .int .i64 0, .int .i64 0, .int .i64 0, .int .i64 0, .slice none 0 0], .bool false]) (by simp [results, Tryz.results54, go_sem, d0, d1, d2, d3, d4, d5, d6, d7, d8, d9]) rfl ⟨_, rfl, Or.inr ⟨rfl, rfl⟩, ?_⟩
  exact ((((((((((Q2.out.2.2.1).setCell (Nat.le_add_right _ 1) _).setCell (Nat.le_add_right _ 1) _).setCell (Nat.le_add_right _ 1) _).setCell (Nat.le_add_right _ 1) _).setCell (Nat.le_add_right _ 1) _).setCell (Nat.le_add_right _ 1) _).setCell (Nat.le_add_right _ 1) _).setCell (Nat.le_add_right _ 1) _).setCell (Nat.le_add_right _ 1) _).setCell (Nat.le_add_right _ 1) _

set_option maxHeartbeats 2000000 in
theorem impl_new_span (k mn mx sp sl st : Int) (w : World) (hk : ¬ limOk k mn mx sp sl st 0 0 0 []) (hs : ¬ (1 ≤ sp ∧ sp ≤ 100000)) :
    Calls Tryz.prog 54 #[.agg #[.int .i64 k, .int .i64 mn, .int .i64 mx, .int .i64 sp, .int .i64 sl], .int .i64 st] w (NewAns w k mn mx sp sl st false) := by
  have HN := fun W => NewWalks.impl_new sp 0 false W (Or.inr ⟨rfl, rfl, by omega⟩)
  have HO := fun W => impl_limok k mn mx sp sl st 0 0 0 none 0 [] false W (Or.inl rfl) (by simp) ⟨fun e => (by cases e), fun e => absurd e hk⟩
  simp only [List.length_nil] at HO
  clear hk hs
  go_enter Tryz.func54, Tryz.ntmps54
  go_wp2_with (first | (go_at_call 87; refine (HN _).mono ?_; rintro e w1 ⟨rfl, hb1⟩; have hy1 := LimBack.bsize hb1; have B1 : Hid (Below w.heap.size w w1) := LimBack.past_two hb1; have P1 := LimImplBack.hid_two hb1; have c0 := cell_blk P1.out.1 0; have c1 := cell_blk P1.out.1 1; have c2 := cell_blk P1.out.1 2; have c3 := cell_blk P1.out.1 3; have c4 := cell_blk P1.out.1 4; have hx1 : w.heap.size < w1.heap.size := Nat.lt_of_succ_lt hy1; clear hb1) | (go_at_call 58; refine (HO _).mono ?_; clear c0 c1 c2 c3 c4; rintro e w2 ⟨rfl, hb2⟩; have Q2 := hid_new B1.out P1.out hb2 hy1; have d0 := cell_blk Q2.out.1 0; have e0 := fz_blk Q2.out.1 0; have d1 := cell_blk Q2.out.1 1; have e1 := fz_blk Q2.out.1 1; have d2 := cell_blk Q2.out.1 2; have e2 := fz_blk Q2.out.1 2; have d3 := cell_blk Q2.out.1 3; have e3 := fz_blk Q2.out.1 3; have d4 := cell_blk Q2.out.1 4; have e4 := fz_blk Q2.out.1 4; have d5 := cell_blk Q2.out.1 5; have e5 := fz_blk Q2.out.1 5; have d6 := cell_blk Q2.out.1 6; have e6 := fz_blk Q2.out.1 6; have d7 := cell_blk Q2.out.1 7; have e7 := fz_blk Q2.out.1 7; have d8 := cell_blk Q2.out.1 8; have e8 := fz_blk Q2.out.1 8; have d9 := cell_blk Q2.out.1 9; have e9 := fz_blk Q2.out.1 9; have c0 := cell_blk Q2.out.2.1 0; have c1 := cell_blk Q2.out.2.1 1; have c2 := cell_blk Q2.out.2.1 2; have c3 := cell_blk Q2.out.2.1 3; have c4 := cell_blk Q2.out.2.1 4; have c5 := cell_blk Q2.out.2.1 5; have c6 := cell_blk Q2.out.2.1 6; have c7 := cell_blk Q2.out.2.1 7; have c8 := cell_blk Q2.out.2.1 8; have c9 := cell_blk Q2.out.2.1 9; have hy2 := Q2.out.2.2.2.1; have hz2 := Q2.out.2.2.2.2; clear hb2))
  refine bodyPost_ret (v := .tuple #[.agg #[.int .i64 0, .int .i64 0, .int .i64 0, .int .i64 0, .int .i64 0, .int .i64 0, .int .i64 0, .int .i64 0, .int .i64 0, .slice none 0 0], .bool false]) (by simp [results, Tryz.results54, go_sem, d0, d1, d2, d3, d4, d5, d6, d7, d8, d9]) rfl ⟨_, rfl, Or.inr ⟨rfl, rfl⟩, ?_⟩
  exact ((((((((((Q2.out.2.2.1).setCell (Nat.le_add_right _ 1) _).setCell (Nat.le_add_right _ 1) _).setCell (Nat.le_add_right _ 1) _).setCell (Nat.le_add_right _ 1) _).setCell (Nat.le_add_right _ 1) _).setCell (Nat.le_add_right _ 1) _).setCell (Nat.le_add_right _ 1) _).setCell (Nat.le_add_right _ 1) _).setCell (Nat.le_add_right _ 1) _).setCell (Nat.le_add_right _ 1) _

end Go.Proofs.YtnabnghjejncpaaGreat.LimNews
end
