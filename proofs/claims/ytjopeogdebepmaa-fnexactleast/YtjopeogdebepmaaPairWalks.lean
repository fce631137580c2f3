/- What the laws' helpers on lists of samples do: two lists of the same samples are found equal; marks are laid into a list of the call's own and found there again, and nothing else turns; no condition but those written in each. -/
import Derived.Test.YtjopeogdebepmaaRows
import Derived.WalkKit
import Derived.WalkSmall
import Derived.BigQuiet
import Derived.Deep.RegionWith
import Derived.Laws.MakeOwn
namespace Go.Proofs.Ytjopeogdebepmaa.PairWalks
open Go.RowKit

/-- Behind place o of block g lie these samples; the block is not frozen. -/
def PRow (w : World) (g o : Nat) (L : List (Int × Int)) : Prop :=
  ∃ cur : Array Value, w.heap[g]? = some (.cells cur 42 (0, 0)) ∧ o + L.length * 2 ≤ cur.size ∧ ∀ (i : Nat) (h : i < L.length), cur[o + i * 2]? = some (.int .i64 L[i].1) ∧ cur[o + i * 2 + 1]? = some (.int .i64 L[i].2)

theorem PRow.lt {w : World} {g o : Nat} {L : List (Int × Int)} (h : PRow w g o L) : g < w.heap.size := by
  obtain ⟨cur, hg, _, _⟩ := h
  exact (Array.getElem?_eq_some_iff.1 hg).1

theorem PRow.c0 {w : World} {g o : Nat} {L : List (Int × Int)} (h : PRow w g o L) (i : Nat) (hi : i < L.length) : w.cell? ⟨g, o + i * 2, none⟩ = some (.int .i64 L[i].1) := by
  obtain ⟨cur, hg, _, hc⟩ := h
  simp [World.cell?, hg, (hc i hi).1]

theorem PRow.c1 {w : World} {g o : Nat} {L : List (Int × Int)} (h : PRow w g o L) (i : Nat) (hi : i < L.length) : w.cell? ⟨g, o + i * 2 + 1, none⟩ = some (.int .i64 L[i].2) := by
  obtain ⟨cur, hg, _, hc⟩ := h
  simp [World.cell?, hg, (hc i hi).2]

theorem PRow.fz {w : World} {g o : Nat} {L : List (Int × Int)} (h : PRow w g o L) (j : Nat) : w.frozen? ⟨g, j, none⟩ = false := by
  obtain ⟨cur, hg, _, _⟩ := h
  simp [World.frozen?, hg]

theorem PRow.same {w w' : World} {g o : Nat} {L : List (Int × Int)} (h : PRow w g o L) (e : w'.heap[g]? = w.heap[g]?) : PRow w' g o L := by
  obtain ⟨cur, hg, rest⟩ := h
  exact ⟨cur, by rw [e]; exact hg, rest⟩

theorem PRow.below {w w' : World} {g o : Nat} {L : List (Int × Int)} (h : PRow w g o L) (hb : Below w.heap.size w w') : PRow w' g o L := h.same (hb.block g h.lt)

theorem PRow.grown {w w' : World} {g o k : Nat} {L : List (Int × Int)} (h : PRow w g o L) (hb : w.grownBy w' (some k)) (hne : g ≠ k) : PRow w' g o L :=
  h.same (hb.block g h.lt (by intro e; exact hne (Option.some.inj e)))

theorem eq_sample (x y : Int) (w : World) : Calls Try.prog 43 #[.agg #[.int .i64 x, .int .i64 y], .agg #[.int .i64 x, .int .i64 y]] w fun e w' => e = .returned (.bool true) ∧ Below w.heap.size w w' := by
  have h1 : (x != x) = false := by simp
  have h2 : (y != y) = false := by simp
  go_enter Try.func43, Try.ntmps43
  go_wp2
  go_ret
  exact ⟨rfl, ((Below.refl _ _).alloc (Nat.le_refl _) _).alloc (by simp) _⟩

set_option maxHeartbeats 1000000 in
theorem eq_samples (g1 o1 g2 o2 c1 c2 : Nat) (L : List (Int × Int)) (w : World) (h1 : PRow w g1 o1 L) (h2 : PRow w g2 o2 L) (hl : L.length ≤ 1048577) :
    Calls Try.prog 27 #[.slice (some ⟨g1, o1, none⟩) L.length c1, .slice (some ⟨g2, o2, none⟩) L.length c2] w fun e w' => e = .returned (.bool true) ∧ Below w.heap.size w w' := by
  have H1 : Hid (PRow w g1 o1 L) := h1
  have H2 : Hid (PRow w g2 o2 L) := h2
  clear h1 h2
  obtain ⟨n, hn⟩ : ∃ n, L.length = n := ⟨_, rfl⟩
  have HN : Hid (L.length = n) := hn
  rw [hn] at hl ⊢
  clear hn
  have e0 : ((n : Int) != (n : Int)) = false := by simp
  go_enter Try.func27, Try.ntmps27
  go_wp2
  go_loopw [5] (fun i wr => ∃ k : Nat, k ≤ n ∧ i = .int .i64 k ∧ Hid (Below w.heap.size w wr)) (fun i _ => n - (intOf i).toNat)
  case atStart => exact ⟨0, by omega, rfl, Below.refl _ _⟩
  case round =>
    obtain ⟨k, hk, rfl, hb⟩ := hrel
    by_cases hlt : k < n
    · have hlt2 : k < L.length := by rw [HN.out]; exact hlt
      obtain ⟨x, hx⟩ : ∃ x, L[k].1 = x := ⟨_, rfl⟩
      obtain ⟨y, hy⟩ : ∃ y, L[k].2 = y := ⟨_, rfl⟩
      have q1 := (H1.out.below hb.out).c0 k hlt2
      have q2 := (H1.out.below hb.out).c1 k hlt2
      have q3 := (H2.out.below hb.out).c0 k hlt2
      have q4 := (H2.out.below hb.out).c1 k hlt2
      rw [hx] at q1 q3
      rw [hy] at q2 q4
      have hli : (k : Int) < (n : Int) := by omega
      clear hx hy
      go_wp2
      go_region_with (go_at_call 43; refine (eq_sample x y _).mono ?_; rintro e w1 ⟨rfl, hb1⟩)
      all_goals
        have hB1 : Hid (Below w.heap.size w w1) := hb.out.drew.trans (hb1.mono hb.out.size)
        clear hb1 q1 q2 q3 q4
        go_wp2
        go_roundw
        case rel => exact ⟨k + 1, by omega, by go_num, hB1⟩
        case measure => simp [intOf]; omega
    · obtain rfl : k = n := by omega
      go_wp2
      go_ret
      exact ⟨rfl, hb.out⟩

/-- The marks of n samples from k on. -/
def pmarks (k n : Nat) : List (Int × Int) := (List.range n).map fun i => (((k + 2 * i : Nat) : Int), ((k + 2 * i + 1 : Nat) : Int))

theorem pmarks_length (k n : Nat) : (pmarks k n).length = n := by simp [pmarks]
theorem pmarks_get (k n i : Nat) (h : i < (pmarks k n).length) : (pmarks k n)[i] = (((k + 2 * i : Nat) : Int), ((k + 2 * i + 1 : Nat) : Int)) := by simp [pmarks]

/-- So many marks lie behind place o of block g; it has room for n. -/
def PPart (w : World) (g o k n i : Nat) : Prop :=
  ∃ cur : Array Value, w.heap[g]? = some (.cells cur 42 (0, 0)) ∧ o + n * 2 ≤ cur.size ∧ ∀ j, j < i → cur[o + j * 2]? = some (.int .i64 ((k + 2 * j : Nat) : Int)) ∧ cur[o + j * 2 + 1]? = some (.int .i64 ((k + 2 * j + 1 : Nat) : Int))

theorem PPart.start {w : World} {g o k : Nat} {L : List (Int × Int)} (h : PRow w g o L) : PPart w g o k L.length 0 := by
  obtain ⟨cur, hg, hl, _⟩ := h
  exact ⟨cur, hg, hl, fun j hj => by omega⟩

theorem PPart.stop {w : World} {g o k n : Nat} (h : PPart w g o k n n) : PRow w g o (pmarks k n) := by
  obtain ⟨cur, hg, hl, hc⟩ := h
  refine ⟨cur, hg, by rw [pmarks_length]; exact hl, fun i hi => ?_⟩
  rw [pmarks_get]
  exact hc i (by rw [pmarks_length] at hi; exact hi)

theorem PPart.lt {w : World} {g o k n i : Nat} (h : PPart w g o k n i) : g < w.heap.size := by
  obtain ⟨cur, hg, _, _⟩ := h
  exact (Array.getElem?_eq_some_iff.1 hg).1

theorem PPart.fz {w : World} {g o k n i : Nat} (h : PPart w g o k n i) (j : Nat) : w.frozen? ⟨g, j, none⟩ = false := by
  obtain ⟨cur, hg, _, _⟩ := h
  simp [World.frozen?, hg]

theorem PPart.cell {w : World} {g o k n i : Nat} (h : PPart w g o k n i) (j : Nat) (hj : j < o + n * 2) : ∃ v, w.cell? ⟨g, j, none⟩ = some v := by
  obtain ⟨cur, hg, hl, _⟩ := h
  exact ⟨cur[j]'(by omega), by simp [World.cell?, hg]⟩

theorem heap_setCell_at {w : World} {g : Nat} {cur : Array Value} {t : TypeId} (h : w.heap[g]? = some (.cells cur t (0, 0))) (i : Nat) (v : Value) :
    (w.setCell ⟨g, i, none⟩ v).heap[g]? = some (.cells (cur.setIfInBounds i v) t (0, 0)) := by
  have hlt := (Array.getElem?_eq_some_iff.1 h).1
  simp [World.setCell, h, Array.getElem?_modify]

theorem PPart.store {w : World} {g o k n i : Nat} (h : PPart w g o k n i) (hi : i < n) :
    PPart ((w.setCell ⟨g, o + i * 2, none⟩ (.int .i64 ((k + 2 * i : Nat) : Int))).setCell ⟨g, o + i * 2 + 1, none⟩ (.int .i64 ((k + 2 * i + 1 : Nat) : Int))) g o k n (i + 1) := by
  obtain ⟨cur, hg, hl, hc⟩ := h
  refine ⟨_, heap_setCell_at (heap_setCell_at hg _ _) _ _, by simpa using hl, fun j hj => ?_⟩
  by_cases e : j = i
  · subst e
    refine ⟨?_, ?_⟩
    · rw [Array.getElem?_setIfInBounds_ne (by omega)]
      simp [show o + j * 2 < cur.size from by omega]
    · simp [show o + j * 2 + 1 < cur.size from by omega]
  · obtain ⟨h1, h2⟩ := hc j (by omega)
    refine ⟨?_, ?_⟩
    · rw [Array.getElem?_setIfInBounds_ne (by omega), Array.getElem?_setIfInBounds_ne (by omega)]; exact h1
    · rw [Array.getElem?_setIfInBounds_ne (by omega), Array.getElem?_setIfInBounds_ne (by omega)]; exact h2

theorem grown_store {w w1 : World} {g : Nat} (h : w.grownBy w1 (some g)) (i : Nat) (v : Value) : w.grownBy (w1.setCell ⟨g, i, none⟩ v) (some g) := by
  refine ⟨h.os, h.tape, h.output, by have := h.size; simpa using this, fun k hk hne => ?_⟩
  rw [Below.heap_setCell w1 ⟨g, i, none⟩ v k (by intro e; exact hne (by rw [e]))]
  exact h.block k hk hne
theorem grown_refl (w : World) (r : Option Nat) : w.grownBy w r := ⟨rfl, rfl, rfl, Nat.le_refl _, fun _ _ _ => rfl⟩
theorem ret_int {k : IntKind} {a b : Int} (h : a = b) : Ending.returned (.int k a) = .returned (.int k b) := by rw [h]
theorem val_int {k : IntKind} {a b : Int} (h : a = b) : Value.int k a = .int k b := by rw [h]

set_option maxHeartbeats 1000000 in
theorem mark_samples (g o c k : Nat) (L : List (Int × Int)) (w : World) (h : PRow w g o L) (hl : L.length ≤ 1048577) (hk : k ≤ 1048577) :
    Calls Try.prog 28 #[.slice (some ⟨g, o, none⟩) L.length c, .int .i64 k] w fun e w' => e = .returned (.int .i64 ((k : Int) + 2 * (L.length : Int))) ∧ PRow w' g o (pmarks k L.length) ∧ w.grownBy w' (some g) := by
  have HP : Hid (PPart w g o k L.length 0) := PPart.start h
  clear h
  generalize L.length = n at *
  go_enter Try.func28, Try.ntmps28
  go_wp2
  go_loopw [1, 5] (fun a i wr => ∃ (j : Nat) (x : Int), j ≤ n ∧ Hid (x = (k : Int) + 2 * (j : Int)) ∧ 0 ≤ x ∧ x ≤ 4000000 ∧ a = .int .i64 x ∧ i = .int .i64 j ∧ Hid (PPart wr g o k n j) ∧ Hid (w.grownBy wr (some g))) (fun _ i _ => n - (intOf i).toNat)
  case atStart => exact ⟨0, k, by omega, by show _ = _; omega, by omega, by omega, rfl, rfl, HP, grown_refl _ _⟩
  case round =>
    clear HP
    obtain ⟨j, x, hj, HX, hx0, hx1, rfl, rfl, hP, hG⟩ := hrel
    by_cases hlt : j < n
    · have hli : (j : Int) < (n : Int) := by omega
      obtain ⟨v0, q0⟩ := hP.out.cell (o + j * 2) (by omega)
      obtain ⟨v1, q1⟩ := hP.out.cell (o + j * 2 + 1) (by omega)
      have f0 := hP.out.fz (o + j * 2)
      have f1 := hP.out.fz (o + j * 2 + 1)
      have hP2 : Hid (PPart ((wr.setCell ⟨g, o + j * 2, none⟩ (.int .i64 x)).setCell ⟨g, o + j * 2 + 1, none⟩ (.int .i64 (x + 1))) g o k n (j + 1)) := by
        have h1 := hP.out.store hlt
        have e1 : ((k + 2 * j : Nat) : Int) = x := by have := HX.out; omega
        have e2 : ((k + 2 * j + 1 : Nat) : Int) = x + 1 := by have := HX.out; omega
        rw [e1, e2] at h1
        exact h1
      have HX2 : Hid (x + 1 + 1 = (k : Int) + 2 * ((j + 1 : Nat) : Int)) := by have := HX.out; show _ = _; omega
      have hx2 : x + 1 + 1 ≤ 4000000 := by have := HX.out; omega
      go_wp2
      go_roundw
      case rel => exact ⟨j + 1, x + 1 + 1, by omega, HX2, by omega, hx2, rfl, by go_num, hP2, grown_store (grown_store hG.out _ _) _ _⟩
      case measure => simp [intOf]; omega
    · obtain rfl : j = n := by omega
      have hR : Hid (PRow wr g o (pmarks k j)) := hP.out.stop
      go_wp2
      go_ret
      exact ⟨ret_int HX.out, hR.out, hG.out⟩

set_option maxHeartbeats 1000000 in
theorem held_samples (g o c k n : Nat) (w : World) (h : PRow w g o (pmarks k n)) (hl : n ≤ 1048577) (hk : k ≤ 1048577) :
    Calls Try.prog 29 #[.slice (some ⟨g, o, none⟩) n c, .int .i64 k] w fun e w' => e = .returned (.int .i64 ((k : Int) + 2 * (n : Int))) ∧ w' = w := by
  have HR : Hid (PRow w g o (pmarks k n)) := h
  clear h
  go_enter Try.func29, Try.ntmps29
  go_wp2
  go_loop [1, 5] (fun a i => ∃ (j : Nat) (x : Int), j ≤ n ∧ Hid (x = (k : Int) + 2 * (j : Int)) ∧ 0 ≤ x ∧ x ≤ 4000000 ∧ a = .int .i64 x ∧ i = .int .i64 j) (fun _ i => n - (intOf i).toNat)
  case atStart => exact ⟨0, k, by omega, by show _ = _; omega, by omega, by omega, rfl, rfl⟩
  case round =>
    obtain ⟨j, x, hj, HX, hx0, hx1, rfl, rfl⟩ := hrel
    by_cases hlt : j < n
    · have hli : (j : Int) < (n : Int) := by omega
      have q0 := HR.out.c0 j (by rw [pmarks_length]; exact hlt)
      have q1 := HR.out.c1 j (by rw [pmarks_length]; exact hlt)
      rw [pmarks_get] at q0 q1
      have e1 : ((k + 2 * j : Nat) : Int) = x := by have := HX.out; omega
      have e2 : ((k + 2 * j + 1 : Nat) : Int) = x + 1 := by have := HX.out; omega
      simp only [e1] at q0
      simp only [e2] at q1
      have t1 : (x != x) = false := by simp
      have t2 : (x + 1 != x + 1) = false := by simp
      have HX2 : Hid (x + 1 + 1 = (k : Int) + 2 * ((j + 1 : Nat) : Int)) := by have := HX.out; show _ = _; omega
      have hx2 : x + 1 + 1 ≤ 4000000 := by have := HX.out; omega
      clear e1 e2
      go_wp2
      go_round
      case rel => exact ⟨j + 1, x + 1 + 1, by omega, HX2, by omega, hx2, rfl, by go_num⟩
      case measure => simp [intOf]; omega
    · obtain rfl : j = n := by omega
      go_wp2
      go_ret
      exact ⟨ret_int HX.out, rfl⟩

/-- Samples that came in. -/
def PArg (w : World) (b o : Nat) (L : List (Int × Int)) : Prop :=
  ∀ (i : Nat) (h : i < L.length), w.cell? ⟨b, o + i * 2, none⟩ = some (.int .i64 L[i].1) ∧ w.cell? ⟨b, o + i * 2 + 1, none⟩ = some (.int .i64 L[i].2)

theorem PArg.below {w w' : World} {b o : Nat} {L : List (Int × Int)} (h : PArg w b o L) (hb : Below w.heap.size w w') : PArg w' b o L := fun i hi => by
  obtain ⟨h0, h1⟩ := h i hi
  exact ⟨(hb.cell (World.block_lt_of_cell? w _ h0)).trans h0, (hb.cell (World.block_lt_of_cell? w _ h1)).trans h1⟩

/-- So many of the samples lie in block g already. -/
def FPart (w : World) (g : Nat) (L : List (Int × Int)) (i : Nat) : Prop :=
  ∃ cur : Array Value, w.heap[g]? = some (.cells cur 42 (0, 0)) ∧ L.length * 2 ≤ cur.size ∧ ∀ (j : Nat) (h : j < L.length), j < i → cur[j * 2]? = some (.int .i64 L[j].1) ∧ cur[j * 2 + 1]? = some (.int .i64 L[j].2)

theorem FPart.start (w : World) (L : List (Int × Int)) : FPart (w.alloc (.cells (madeCells #[.int .i64 0, .int .i64 0] (L.length * 2)) 42)) w.heap.size L 0 :=
  ⟨_, heap_alloc_new w _, by rw [size_madeCells]; exact Nat.le_refl _, fun j _ hj => by omega⟩
theorem FPart.stop {w : World} {g : Nat} {L : List (Int × Int)} (h : FPart w g L L.length) : PRow w g 0 L := by
  obtain ⟨cur, hg, hl, hc⟩ := h
  exact ⟨cur, hg, by omega, fun i hi => by simpa using hc i hi hi⟩
theorem FPart.lt {w : World} {g i : Nat} {L : List (Int × Int)} (h : FPart w g L i) : g < w.heap.size := by
  obtain ⟨cur, hg, _, _⟩ := h
  exact (Array.getElem?_eq_some_iff.1 hg).1
theorem FPart.same {w w' : World} {g i : Nat} {L : List (Int × Int)} (h : FPart w g L i) (e : w'.heap[g]? = w.heap[g]?) : FPart w' g L i := by
  obtain ⟨cur, hg, rest⟩ := h
  exact ⟨cur, by rw [e]; exact hg, rest⟩
theorem FPart.fz {w : World} {g i : Nat} {L : List (Int × Int)} (h : FPart w g L i) (j : Nat) : w.frozen? ⟨g, j, none⟩ = false := by
  obtain ⟨cur, hg, _, _⟩ := h
  simp [World.frozen?, hg]
theorem FPart.cell {w : World} {g i : Nat} {L : List (Int × Int)} (h : FPart w g L i) (j : Nat) (hj : j < L.length * 2) : ∃ v, w.cell? ⟨g, j, none⟩ = some v := by
  obtain ⟨cur, hg, hl, _⟩ := h
  exact ⟨cur[j]'(by omega), by simp [World.cell?, hg]⟩
theorem FPart.store {w : World} {g i : Nat} {L : List (Int × Int)} (h : FPart w g L i) (hi : i < L.length) :
    FPart ((w.setCell ⟨g, i * 2, none⟩ (.int .i64 L[i].1)).setCell ⟨g, i * 2 + 1, none⟩ (.int .i64 L[i].2)) g L (i + 1) := by
  obtain ⟨cur, hg, hl, hc⟩ := h
  refine ⟨_, heap_setCell_at (heap_setCell_at hg _ _) _ _, by simpa using hl, fun j hjl hj => ?_⟩
  by_cases e : j = i
  · subst e
    refine ⟨?_, ?_⟩
    · rw [Array.getElem?_setIfInBounds_ne (by omega)]
      simp [show j * 2 < cur.size from by omega]
    · simp [show j * 2 + 1 < cur.size from by omega]
  · obtain ⟨h1, h2⟩ := hc j hjl (by omega)
    refine ⟨?_, ?_⟩
    · rw [Array.getElem?_setIfInBounds_ne (by omega), Array.getElem?_setIfInBounds_ne (by omega)]; exact h1
    · rw [Array.getElem?_setIfInBounds_ne (by omega), Array.getElem?_setIfInBounds_ne (by omega)]; exact h2

theorem to_sample (x y : Int) (w : World) : Calls Try.prog 38 #[.agg #[.int .i64 x, .int .i64 y]] w fun e w' => e = .returned (.agg #[.int .i64 x, .int .i64 y]) ∧ Below w.heap.size w w' := by
  go_enter Try.func38, Try.ntmps38
  go_wp2
  exact bodyPost_ret (v := .agg #[.int .i64 x, .int .i64 y]) (by simp [results, Try.results38, go_sem]) rfl ⟨rfl, (((Below.refl _ _).alloc (Nat.le_refl _) _).alloc (by simp) _).alloc (by simp; omega) _⟩

theorem info31 : (Try.prog.info? 42).map (fun i => (i.zero, i.size, i.bytes)) = some (some (.agg #[.int .i64 0, .int .i64 0]), 2, 16) := by kernel_rfl

theorem make_samples (n : Nat) (hn : n ≤ 1048577) (W : World) :
    (Instr.makeSlice 26 (.int .i64 (n : Int)) (.int .i64 (n : Int))).run Try.prog W = .ok (.slice (some ⟨W.heap.size, 0, none⟩) n n) (W.alloc (.cells (madeCells #[.int .i64 0, .int .i64 0] (n * 2)) 42)) := by
  obtain ⟨i, hi, hz, hs, hb⟩ := info_parts info31
  have h := run_make (P := Try.prog) W 26 42 i _ Try.underlying26 hi hz .i64 .i64 (n : Int) (n : Int) (by omega) (by omega) (by rw [hb]; omega) (by omega)
  rw [hs] at h
  simpa [Value.cells] using h

set_option maxHeartbeats 1000000 in
theorem to_samples (a : Option Addr) (cap : Nat) (L : List (Int × Int)) (w : World) (ha : L = [] ∨ ∃ b o, a = some ⟨b, o, none⟩ ∧ PArg w b o L) (hl : L.length ≤ 1048577) :
    Calls Try.prog 23 #[.slice a L.length cap] w fun e w' => ∃ g, e = .returned (.slice (some ⟨g, 0, none⟩) L.length L.length) ∧ w.heap.size ≤ g ∧ PRow w' g 0 L ∧ Below w.heap.size w w' := by
  have hmk := make_samples L.length hl
  have HF : Hid (FPart (w.alloc (.cells (madeCells #[.int .i64 0, .int .i64 0] (L.length * 2)) 42)) w.heap.size L 0) := FPart.start w L
  have HB : Hid (Below w.heap.size w (w.alloc (.cells (madeCells #[.int .i64 0, .int .i64 0] (L.length * 2)) 42))) := (Below.refl _ _).alloc (Nat.le_refl _) _
  have HA : Hid (L = [] ∨ ∃ b o, a = some ⟨b, o, none⟩ ∧ PArg w b o L) := ha
  clear ha
  obtain ⟨n, hn⟩ : ∃ n, L.length = n := ⟨_, rfl⟩
  have HN : Hid (L.length = n) := hn
  rw [hn] at hl hmk HF HB ⊢
  clear hn
  go_enter Try.func23, Try.ntmps23
  go_wp2
  go_loopw [4] (fun i wr => ∃ k : Nat, k ≤ n ∧ i = .int .i64 k ∧ Hid (FPart wr w.heap.size L k) ∧ Hid (Below w.heap.size w wr)) (fun i _ => n - (intOf i).toNat)
  case atStart => exact ⟨0, by omega, rfl, HF, HB⟩
  case round =>
    clear HF HB hmk
    obtain ⟨k, hk, rfl, HF, HB⟩ := hrel
    by_cases hlt : k < n
    · have hlt2 : k < L.length := by rw [HN.out]; exact hlt
      rcases HA.out with hnil | ⟨b, o, rfl, hA⟩
      · rw [hnil] at hlt2; simp at hlt2
      · have hA1 := (hA.below HB.out) k hlt2
        obtain ⟨x, hx⟩ : ∃ x, L[k].1 = x := ⟨_, rfl⟩
        obtain ⟨y, hy⟩ : ∃ y, L[k].2 = y := ⟨_, rfl⟩
        rw [hx, hy] at hA1
        obtain ⟨q0, q1⟩ := hA1
        have KX : Hid (L[k].1 = x) := hx
        have KY : Hid (L[k].2 = y) := hy
        have hli : (k : Int) < (n : Int) := by omega
        clear hx hy hA
        go_wp2_with (go_at_call 38; refine (to_sample x y _).mono ?_; rintro e w1 ⟨rfl, hb⟩; have HF1 : Hid (FPart w1 w.heap.size L k) := HF.out.same (hb.block _ HF.out.lt); have HB1 : Hid (Below w.heap.size w w1) := HB.out.trans (hb.mono HB.out.size); obtain ⟨v0, p0⟩ := HF1.out.cell (k * 2) (by omega); obtain ⟨v1, p1⟩ := HF1.out.cell (k * 2 + 1) (by omega); have f0 := HF1.out.fz (k * 2); have f1 := HF1.out.fz (k * 2 + 1))
        have HF2 : Hid (FPart ((w1.setCell ⟨w.heap.size, k * 2, none⟩ (.int .i64 x)).setCell ⟨w.heap.size, k * 2 + 1, none⟩ (.int .i64 y)) w.heap.size L (k + 1)) := by
          have := HF1.out.store hlt2
          rw [KX.out, KY.out] at this
          exact this
        go_roundw
        case rel => exact ⟨k + 1, by omega, by go_num, HF2, (HB1.out.setCell (Nat.le_refl _) _).setCell (Nat.le_refl _) _⟩
        case measure => simp [intOf]; omega
    · obtain rfl : k = n := by omega
      have HR : Hid (PRow wr w.heap.size 0 L) := FPart.stop (by rw [HN.out]; exact HF.out)
      go_wp2
      go_ret
      exact ⟨w.heap.size, rfl, Nat.le_refl _, HR.out, HB.out⟩

/-- A list of samples, empty or in a row. -/
def WOk (w : World) (a : Option Addr) (L : List (Int × Int)) : Prop := L = [] ∨ ∃ g o, a = some ⟨g, o, none⟩ ∧ PRow w g o L

theorem WOk.below {w w' : World} {a : Option Addr} {L : List (Int × Int)} (h : WOk w a L) (hb : Below w.heap.size w w') : WOk w' a L := by
  rcases h with h | ⟨g, o, ha, hr⟩
  · exact Or.inl h
  · exact Or.inr ⟨g, o, ha, hr.below hb⟩

theorem eq_none (a1 a2 : Option Addr) (c1 c2 : Nat) (w : World) : Calls Try.prog 27 #[.slice a1 0 c1, .slice a2 0 c2] w fun e w' => e = .returned (.bool true) ∧ Below w.heap.size w w' := by
  go_enter Try.func27, Try.ntmps27
  go_wp2
  go_loop [5] (fun i => i = .int .i64 0) (fun _ => 0)
  case atStart => rfl
  case round =>
    subst hrel
    go_wp2
    go_ret
    exact ⟨rfl, Below.refl _ _⟩

theorem mark_none (a : Option Addr) (c : Nat) (k : Int) (w : World) : Calls Try.prog 28 #[.slice a 0 c, .int .i64 k] w fun e w' => e = .returned (.int .i64 k) ∧ w' = w := by
  go_enter Try.func28, Try.ntmps28
  go_wp2
  go_loop [1, 5] (fun x i => x = .int .i64 k ∧ i = .int .i64 0) (fun _ _ => 0)
  case atStart => exact ⟨rfl, rfl⟩
  case round =>
    obtain ⟨rfl, rfl⟩ := hrel
    go_wp2
    go_ret
    exact ⟨rfl, rfl⟩

theorem held_none (a : Option Addr) (c : Nat) (k : Int) (w : World) : Calls Try.prog 29 #[.slice a 0 c, .int .i64 k] w fun e w' => e = .returned (.int .i64 k) ∧ w' = w := by
  go_enter Try.func29, Try.ntmps29
  go_wp2
  go_loop [1, 5] (fun x i => x = .int .i64 k ∧ i = .int .i64 0) (fun _ _ => 0)
  case atStart => exact ⟨rfl, rfl⟩
  case round =>
    obtain ⟨rfl, rfl⟩ := hrel
    go_wp2
    go_ret
    exact ⟨rfl, rfl⟩

theorem eq_any (a1 a2 : Option Addr) (c1 c2 : Nat) (L : List (Int × Int)) (w : World) (h1 : WOk w a1 L) (h2 : WOk w a2 L) (hl : L.length ≤ 1048577) :
    Calls Try.prog 27 #[.slice a1 L.length c1, .slice a2 L.length c2] w fun e w' => e = .returned (.bool true) ∧ Below w.heap.size w w' := by
  rcases h1 with rfl | ⟨g1, o1, rfl, r1⟩
  · exact eq_none a1 a2 c1 c2 w
  · rcases h2 with rfl | ⟨g2, o2, rfl, r2⟩
    · exact eq_none _ _ c1 c2 w
    · exact eq_samples g1 o1 g2 o2 c1 c2 L w r1 r2 hl

/-- The block of a list, where it has one. -/
def blk (a : Option Addr) : Option Nat := a.map (·.block)

theorem mark_any (a : Option Addr) (c : Nat) (L : List (Int × Int)) (w : World) (h : WOk w a L) (hl : L.length ≤ 1048577) :
    Calls Try.prog 28 #[.slice a L.length c, .int .i64 1] w fun e w' => e = .returned (.int .i64 (1 + 2 * (L.length : Int))) ∧ WOk w' a (pmarks 1 L.length) ∧ w.grownBy w' (blk a) := by
  rcases h with rfl | ⟨g, o, rfl, r⟩
  · exact (mark_none a c 1 w).mono fun e w' ⟨he, hw⟩ => ⟨by rw [he]; rfl, Or.inl rfl, by rw [hw]; exact grown_refl _ _⟩
  · exact (mark_samples g o c 1 L w r hl (by omega)).mono fun e w' ⟨he, hr, hg⟩ => ⟨he, Or.inr ⟨g, o, rfl, hr⟩, hg⟩

theorem held_any (a : Option Addr) (c n : Nat) (w : World) (h : WOk w a (pmarks 1 n)) (hl : n ≤ 1048577) :
    Calls Try.prog 29 #[.slice a n c, .int .i64 1] w fun e w' => e = .returned (.int .i64 (1 + 2 * (n : Int))) ∧ w' = w := by
  rcases h with h | ⟨g, o, rfl, r⟩
  · have h0 : n = 0 := by rw [← pmarks_length 1 n, h]; rfl
    subst h0
    exact held_none a c 1 w
  · exact held_samples g o c 1 n w r hl (by omega)

theorem three_blocks {w w1 : World} {A B C : Obj} (hb : Below (((w.alloc A).alloc B).alloc C).heap.size (((w.alloc A).alloc B).alloc C) w1) :
    w1.heap[w.heap.size + 1]? = some B ∧ w1.heap[w.heap.size + 1 + 1]? = some C ∧ w.heap.size + 1 + 1 + 1 ≤ w1.heap.size := by
  have hs := hb.size
  simp at hs
  have h1 := heap_alloc_new (w.alloc A) B
  have h2 := heap_alloc_new ((w.alloc A).alloc B) C
  rw [show (w.alloc A).heap.size = w.heap.size + 1 from by simp] at h1
  rw [show ((w.alloc A).alloc B).heap.size = w.heap.size + 1 + 1 from by simp] at h2
  refine ⟨?_, ?_, by omega⟩
  · rw [hb.block _ (by simp), Below.heap_alloc _ _ _ (by simp)]; exact h1
  · rw [hb.block _ (by simp)]; exact h2

theorem cell_blk {w : World} {g : Nat} {cur : Array Value} {t : TypeId} (h : w.heap[g]? = some (.cells cur t (0, 0))) (i : Nat) : w.cell? ⟨g, i, none⟩ = cur[i]? := by simp [World.cell?, h]
theorem fz_blk {w : World} {g : Nat} {cur : Array Value} {t : TypeId} (h : w.heap[g]? = some (.cells cur t (0, 0))) (i : Nat) : w.frozen? ⟨g, i, none⟩ = false := by simp [World.frozen?, h]

set_option maxHeartbeats 1000000 in
theorem to_window (span : Int) (a : Option Addr) (cap : Nat) (L : List (Int × Int)) (w : World) (ha : L = [] ∨ ∃ b o, a = some ⟨b, o, none⟩ ∧ PArg w b o L) (hl : L.length ≤ 1048577) :
    Calls Try.prog 9 #[.agg #[.int .i64 span, .slice a L.length cap]] w fun e w' => ∃ g, e = .returned (.agg #[.int .i64 span, .slice (some ⟨g, 0, none⟩) L.length L.length]) ∧ w.heap.size ≤ g ∧ PRow w' g 0 L ∧ Below w.heap.size w w' := by
  have HA : Hid (L = [] ∨ ∃ b o, a = some ⟨b, o, none⟩ ∧ PArg w b o L) := ha
  clear ha
  go_enter Try.func9, Try.ntmps9
  go_wp2_with fail
  have hpa : ∀ W : World, Below w.heap.size w W → (L = [] ∨ ∃ b o, a = some ⟨b, o, none⟩ ∧ PArg W b o L) := fun W hW => by
    rcases HA.out with h | ⟨b, o, h1, h2⟩
    · exact Or.inl h
    · exact Or.inr ⟨b, o, h1, h2.below hW⟩
  refine (to_samples a cap L _ (hpa _ ((((Below.refl _ _).alloc (Nat.le_refl _) _).alloc (by simp) _).alloc (by simp; omega) _)) hl).mono ?_
  rintro e w1 ⟨g, rfl, hg, hr, hb⟩
  obtain ⟨b1, b2, hz⟩ := three_blocks hb
  have c0 := cell_blk b2 0
  have c1 := cell_blk b2 1
  have d0 := cell_blk b1 0
  have d1 := cell_blk b1 1
  have f0 := fz_blk b2 0
  have f1 := fz_blk b2 1
  have e0 := fz_blk b1 0
  have e1 := fz_blk b1 1
  simp only [List.getElem?_toArray, List.getElem?_cons_zero, List.getElem?_cons_succ] at c0 c1 d0 d1
  have HR : Hid (PRow w1 g 0 L) := hr
  have HB : Hid (Below w.heap.size w w1) := ((((Below.refl _ _).alloc (Nat.le_refl _) _).alloc (by simp) _).alloc (by simp; omega) _).trans (hb.mono (by simp; omega))
  have hg2 : w.heap.size + 1 + 1 + 1 ≤ g := by simpa using hg
  clear hb hg hr b1 b2
  go_wp2
  refine bodyPost_ret (v := .agg #[.int .i64 span, .slice (some ⟨g, 0, none⟩) L.length L.length]) (by simp [results, Try.results9, go_sem, d0, d1]) rfl ⟨g, rfl, by omega, ?_, ?_⟩
  · refine HR.out.same ?_
    rw [Below.heap_setCell _ _ _ _ (by show g ≠ w.heap.size + 1; omega), Below.heap_setCell _ _ _ _ (by show g ≠ w.heap.size + 1; omega), Below.heap_setCell _ _ _ _ (by show g ≠ w.heap.size + 1 + 1; omega)]
  · exact ((HB.out.setCell (by show w.heap.size ≤ w.heap.size + 1 + 1; omega) _).setCell (by show w.heap.size ≤ w.heap.size + 1; omega) _).setCell (by show w.heap.size ≤ w.heap.size + 1; omega) _

set_option maxHeartbeats 1000000 in
theorem eq_window (span : Int) (a1 a2 : Option Addr) (c1 c2 : Nat) (L : List (Int × Int)) (w : World) (h1 : WOk w a1 L) (h2 : WOk w a2 L) (hl : L.length ≤ 1048577) :
    Calls Try.prog 11 #[.agg #[.int .i64 span, .slice a1 L.length c1], .agg #[.int .i64 span, .slice a2 L.length c2]] w fun e w' => e = .returned (.bool true) ∧ Below w.heap.size w w' := by
  have H1 : Hid (WOk w a1 L) := h1
  have H2 : Hid (WOk w a2 L) := h2
  clear h1 h2
  have t1 : (span != span) = false := by simp
  go_enter Try.func11, Try.ntmps11
  go_wp2_with fail
  have B2 : ∀ A B : Obj, Below w.heap.size w ((w.alloc A).alloc B) := fun A B => ((Below.refl _ _).alloc (Nat.le_refl _) _).alloc (by simp) _
  refine (eq_any a1 a2 c1 c2 L _ (H1.out.below (B2 _ _)) (H2.out.below (B2 _ _)) hl).mono ?_
  rintro e w1 ⟨rfl, hb⟩
  have HB : Hid (Below w.heap.size w w1) := (B2 _ _).trans (hb.mono (by simp; omega))
  clear hb B2
  go_wp2
  go_ret
  exact ⟨rfl, HB.out⟩

set_option maxHeartbeats 1000000 in
theorem mark_window (span : Int) (a : Option Addr) (c : Nat) (L : List (Int × Int)) (w : World) (h : WOk w a L) (hl : L.length ≤ 1048577) :
    Calls Try.prog 12 #[.agg #[.int .i64 span, .slice a L.length c], .int .i64 1] w fun e w' => e = .returned (.int .i64 (1 + 2 * (L.length : Int))) ∧ WOk w' a (pmarks 1 L.length) ∧ w.grownBy w' (blk a) := by
  have H1 : Hid (WOk w a L) := h
  clear h
  go_enter Try.func12, Try.ntmps12
  go_wp2_with fail
  have B1 : ∀ A : Obj, Below w.heap.size w (w.alloc A) := fun A => (Below.refl _ _).alloc (Nat.le_refl _) _
  refine (mark_any a c L _ (H1.out.below (B1 _)) hl).mono ?_
  rintro e w1 ⟨rfl, hr, hg⟩
  have HR : Hid (WOk w1 a (pmarks 1 L.length)) := hr
  have HG : Hid (w.grownBy w1 (blk a)) := by
    have hs := hg.size
    exact ⟨hg.os, hg.tape, hg.output, by simp at hs; omega, fun k hk hne => (hg.block k (by simp; omega) hne).trans (Below.heap_alloc w _ k hk)⟩
  clear hr hg B1
  go_wp2
  go_ret
  exact ⟨rfl, HR.out, HG.out⟩

set_option maxHeartbeats 1000000 in
theorem held_window (span : Int) (a : Option Addr) (c n : Nat) (w : World) (h : WOk w a (pmarks 1 n)) (hl : n ≤ 1048577) :
    Calls Try.prog 13 #[.agg #[.int .i64 span, .slice a n c], .int .i64 1] w fun e w' => e = .returned (.int .i64 (1 + 2 * (n : Int))) ∧ Below w.heap.size w w' := by
  have H1 : Hid (WOk w a (pmarks 1 n)) := h
  clear h
  go_enter Try.func13, Try.ntmps13
  go_wp2_with fail
  have B1 : ∀ A : Obj, Below w.heap.size w (w.alloc A) := fun A => (Below.refl _ _).alloc (Nat.le_refl _) _
  refine (held_any a c n _ (H1.out.below (B1 _)) hl).mono ?_
  rintro e w1 ⟨rfl, rfl⟩
  have t1 : ¬ 1 + 2 * (n : Int) < 0 := by omega
  go_wp2
  go_ret
  exact ⟨rfl, B1 _⟩

theorem sz_window (span : Int) (a : Option Addr) (c n : Nat) (w : World) (hn : (n : Int) ≤ 9223372036854775807) :
    Calls Try.prog 7 #[.agg #[.int .i64 span, .slice a n c], .int .i64 1048576] w fun e w' => e = .returned (.int .i64 (if (n : Int) ≤ 1048576 then 1048576 - (n : Int) else -1)) ∧ Below w.heap.size w w' := by
  by_cases h : (n : Int) ≤ 1048576
  · rw [if_pos h]
    go_enter Try.func7, Try.ntmps7
    go_wp2
    go_ret
    exact ⟨rfl, (Below.refl _ _).alloc (Nat.le_refl _) _⟩
  · rw [if_neg h]
    go_enter Try.func7, Try.ntmps7
    go_wp2
    go_ret
    exact ⟨rfl, (Below.refl _ _).alloc (Nat.le_refl _) _⟩
end Go.Proofs.Ytjopeogdebepmaa.PairWalks
