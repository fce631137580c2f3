/- What an exact law leans on, whatever the types: variables, lists that lie in memory of their own, which of them a mark turns; no condition but those written in each. -/
import Derived.Test.YtnabnghjejncpaaGreatRows
import Derived.Test.YtnabnghjejncpaaGreatListKit
import Derived.WalkKit
import Derived.WalkSmall
namespace Go.Proofs.YtnabnghjejncpaaGreat.HoldKit
open Go.RowKit ListKit

/-- A variable of these cells at N. -/
def boxB (w : World) (N : Nat) (cs : Array Value) (t : TypeId) : Prop := w.heap[N]? = some (.cells cs t (0, 0))
theorem boxB.lt {w : World} {N : Nat} {cs : Array Value} {t : TypeId} (h : boxB w N cs t) : N < w.heap.size := (Array.getElem?_eq_some_iff.1 h).1
theorem boxB.below {w w' : World} {N : Nat} {cs : Array Value} {t : TypeId} (h : boxB w N cs t) (hb : Below w.heap.size w w') : boxB w' N cs t := (hb.block N h.lt).trans h
theorem boxB.new (w : World) (cs : Array Value) (t : TypeId) : boxB (w.alloc (.cells cs t)) w.heap.size cs t := heap_alloc_new w _
theorem boxB.cell {w : World} {N : Nat} {cs : Array Value} {t : TypeId} (h : boxB w N cs t) (i : Nat) : w.cell? ⟨N, i, none⟩ = cs[i]? := cellB h i

/-- Worlds with variables made one behind the other. -/
theorem n1 (w : World) (o : Obj) : Below w.heap.size w (w.alloc o) := (Below.refl _ _).alloc (Nat.le_refl _) _
theorem n2 (w : World) (o p : Obj) : Below w.heap.size w ((w.alloc o).alloc p) := (n1 w o).alloc (by simp) _
theorem n3 (w : World) (o p q : Obj) : Below w.heap.size w (((w.alloc o).alloc p).alloc q) := (n2 w o p).alloc (by simp; omega) _
theorem new2 (w : World) (o : Obj) (cs : Array Value) (t : TypeId) : boxB ((w.alloc o).alloc (.cells cs t)) (w.heap.size + 1) cs t := by
  have h := boxB.new (w.alloc o) cs t
  rw [World.size_alloc] at h
  exact h
theorem new3 (w : World) (o p : Obj) (cs : Array Value) (t : TypeId) : boxB (((w.alloc o).alloc p).alloc (.cells cs t)) (w.heap.size + 1 + 1) cs t := by
  have h := boxB.new ((w.alloc o).alloc p) cs t
  rw [World.size_alloc, World.size_alloc] at h
  exact h
theorem sz1 (w : World) (o : Obj) : (w.alloc o).heap.size = w.heap.size + 1 := World.size_alloc _ _
theorem sz3 (w : World) (o p q : Obj) : (((w.alloc o).alloc p).alloc q).heap.size = w.heap.size + 1 + 1 + 1 := by rw [World.size_alloc, World.size_alloc, World.size_alloc]

/-- All that W holds lies as it lay. -/
def Bel (W w : World) : Prop := Below W.heap.size W w
theorem Bel.start (W : World) : Bel W W := Below.refl _ _
theorem Bel.below {W w w' : World} (h : Bel W w) (hb : Below w.heap.size w w') : Bel W w' := Below.trans h (hb.mono (Below.size h))
theorem Bel.size {W w : World} (h : Bel W w) : W.heap.size ≤ w.heap.size := Below.size h
theorem Bel.out {W w : World} (h : Bel W w) : Below W.heap.size W w := h

/-- A list: where it begins, its elements' type, how many cells an element has, the elements' cells. -/
structure It where
  a : Option Addr
  t : TypeId
  m : Nat
  vs : List (List Value)
def It.At (w : World) (i : It) : Prop := Own i.t i.m id w i.a i.vs
def It.blk (i : It) : Option Nat := blkL i.a i.vs

theorem own_cells {α : Type} {t : TypeId} {m : Nat} {f : α → List Value} {w : World} {a : Option Addr} {L : List α} (h : Own t m f w a L) : Own t m id w a (L.map f) := by
  rcases h with h | ⟨g, o, ha, cur, hg, hs, hc⟩
  · exact Or.inl (by rw [h]; rfl)
  · exact Or.inr ⟨g, o, ha, cur, hg, by simpa using hs, fun i hi j hj => by simpa using hc i (by simpa using hi) j hj⟩
theorem cells_own {α : Type} {t : TypeId} {m : Nat} {f : α → List Value} {w : World} {a : Option Addr} {L : List α} (h : Own t m id w a (L.map f)) : Own t m f w a L := by
  rcases h with h | ⟨g, o, ha, cur, hg, hs, hc⟩
  · exact Or.inl (by simpa using h)
  · exact Or.inr ⟨g, o, ha, cur, hg, by simpa using hs, fun i hi j hj => by
      have h9 : cur[o + i * m + j]? = ((L.map f)[i]'(by simpa using hi))[j]? := hc i (by simpa using hi) j hj
      rw [List.getElem_map] at h9
      exact h9⟩
theorem blk_map {α : Type} {f : α → List Value} {a : Option Addr} {L : List α} : blkL a (L.map f) = blkL a L := by cases L <;> rfl
/-- These lists lie in memory of their own, each in another block, none below lo. -/
def Holds (w : World) (lo : Nat) (l : List It) : Prop := (∀ i ∈ l, i.At w ∧ ∀ b, i.blk = some b → lo ≤ b) ∧ l.Pairwise fun i j => ∀ b, i.blk = some b → j.blk ≠ some b
theorem Holds.below {w w' : World} {lo : Nat} {l : List It} (h : Holds w lo l) (hb : Below w.heap.size w w') : Holds w' lo l := ⟨fun i hi => ⟨Own.below (h.1 i hi).1 hb, (h.1 i hi).2⟩, h.2⟩
theorem Holds.lt {w : World} {lo : Nat} {l : List It} (h : Holds w lo l) : ∀ i ∈ l, ∀ b, i.blk = some b → b < w.heap.size := fun i hi => Own.lt (h.1 i hi).1
theorem Holds.nil (w : World) (lo : Nat) : Holds w lo [] := ⟨fun i hi => by simp at hi, List.Pairwise.nil⟩
theorem Holds.low {w : World} {lo lo' : Nat} {l : List It} (h : Holds w lo l) (hl : lo' ≤ lo) : Holds w lo' l := ⟨fun i hi => ⟨(h.1 i hi).1, fun b hb => Nat.le_trans hl ((h.1 i hi).2 b hb)⟩, h.2⟩
theorem Holds.one {w : World} {lo : Nat} {i : It} (h : i.At w) (hb : ∀ b, i.blk = some b → lo ≤ b) : Holds w lo [i] := ⟨fun j hj => by
  obtain rfl : j = i := by simpa using hj
  exact ⟨h, hb⟩, List.pairwise_singleton _ _⟩
/-- Lists that lay there, and lists in newer memory. -/
theorem Holds.add {w w1 : World} {lo : Nat} {l l2 : List It} (h : Holds w1 lo l) (hb : Below w1.heap.size w1 w) (h2 : Holds w w1.heap.size l2) (hlo : lo ≤ w1.heap.size) : Holds w lo (l ++ l2) := by
  refine ⟨fun i hi => ?_, List.pairwise_append.2 ⟨h.2, h2.2, fun i hi j hj b hib hjb => ?_⟩⟩
  · rcases List.mem_append.1 hi with hi | hi
    · exact (h.below hb).1 i hi
    · exact ⟨(h2.1 i hi).1, fun b hb => Nat.le_trans hlo ((h2.1 i hi).2 b hb)⟩
  · have h5 := h.lt i hi b hib
    have h6 := (h2.1 j hj).2 b hjb
    omega

/-- No list of l begins in block N. -/
def Off (N : Nat) (l : List It) : Prop := ∀ i ∈ l, i.blk ≠ some N
/-- No list of l begins where one of l2 does. -/
def Apart (l l2 : List It) : Prop := ∀ i ∈ l, ∀ j ∈ l2, ∀ b, i.blk = some b → j.blk ≠ some b
theorem Off.above {w : World} {lo N : Nat} {l : List It} (h : Holds w lo l) (hN : w.heap.size ≤ N) : Off N l := fun i hi e => by have := h.lt i hi N e; omega
theorem Off.under {w : World} {lo N : Nat} {l : List It} (h : Holds w lo l) (hN : N < lo) : Off N l := fun i hi e => by have := (h.1 i hi).2 N e; omega
theorem Apart.under {w w1 : World} {lo lo2 : Nat} {l l2 : List It} (h : Holds w1 lo l) (h2 : Holds w lo2 l2) (hlo : w1.heap.size ≤ lo2) : Apart l l2 := fun i hi j hj b hib hjb => by
  have h5 := h.lt i hi b hib
  have h6 := (h2.1 j hj).2 b hjb
  omega
theorem Apart.symm {l l2 : List It} (h : Apart l l2) : Apart l2 l := fun i hi j hj b hib hjb => h j hj i hi b hjb hib

/-- Nothing that lay there has turned but the lists of l. -/
structure Turn (l : List It) (w w' : World) : Prop where
  os : w'.os = w.os
  tape : w'.tape = w.tape
  output : w'.output = w.output
  size : w.heap.size ≤ w'.heap.size
  block : ∀ b, b < w.heap.size → Off b l → w'.heap[b]? = w.heap[b]?
theorem Turn.refl (l : List It) (w : World) : Turn l w w := ⟨rfl, rfl, rfl, Nat.le_refl _, fun _ _ _ => rfl⟩
theorem Turn.trans {l : List It} {a b c : World} (h : Turn l a b) (k : Turn l b c) : Turn l a c :=
  ⟨k.os.trans h.os, k.tape.trans h.tape, k.output.trans h.output, Nat.le_trans h.size k.size, fun i hi ho => (k.block i (Nat.lt_of_lt_of_le hi h.size) ho).trans (h.block i hi ho)⟩
theorem Turn.of_below {l : List It} {w w' : World} (h : Below w.heap.size w w') : Turn l w w' := ⟨h.os, h.tape, h.output, h.size, fun b hb _ => h.block b hb⟩
theorem Turn.of_grown {l : List It} {w w' : World} {r : Option Nat} (h : w.grownBy w' r) (hr : ∀ b, r = some b → ¬ Off b l) : Turn l w w' :=
  ⟨h.os, h.tape, h.output, h.size, fun b hb ho => h.block b hb (fun e => hr b e.symm ho)⟩
theorem Turn.wide {l l2 : List It} {w w' : World} (h : Turn l w w') (hs : ∀ i ∈ l, i ∈ l2) : Turn l2 w w' := ⟨h.os, h.tape, h.output, h.size, fun b hb ho => h.block b hb (fun i hi => ho i (hs i hi))⟩
theorem boxB.turn {l : List It} {w w' : World} {N : Nat} {cs : Array Value} {t : TypeId} (h : boxB w N cs t) (ht : Turn l w w') (ho : Off N l) : boxB w' N cs t := (ht.block N h.lt ho).trans h
theorem Holds.turn {l l2 : List It} {w w' : World} {lo : Nat} (h : Holds w lo l2) (ht : Turn l w w') (ho : Apart l l2) : Holds w' lo l2 := by
  refine ⟨fun i hi => ⟨?_, (h.1 i hi).2⟩, h.2⟩
  rcases (h.1 i hi).1 with h1 | ⟨g, o, ha, hr⟩
  · exact Or.inl h1
  · cases hv : i.vs with
    | nil => exact Or.inl hv
    | cons q L =>
      have hb : i.blk = some g := by unfold It.blk; rw [hv, ha]; rfl
      exact Or.inr ⟨g, o, ha, hr.same (ht.block g hr.lt (fun j hj e => ho j hj i hi g e hb))⟩
theorem Bel.turn {l : List It} {W w w' : World} (h : Bel W w) (ht : Turn l w w') (ho : ∀ b, b < W.heap.size → Off b l) : Bel W w' :=
  ⟨ht.os.trans (Below.os h), ht.tape.trans (Below.tape h), ht.output.trans (Below.output h), Nat.le_trans (Below.size h) ht.size, fun b hb => (ht.block b (Nat.lt_of_lt_of_le hb (Below.size h)) (ho b hb)).trans (Below.block h b hb)⟩

theorem Holds.set {w : World} {lo : Nat} {l : List It} (h : Holds w lo l) {p : Addr} (hN : p.block < lo) (v : Value) : Holds (w.setCell p v) lo l :=
  ⟨fun i hi => ⟨Own.set (h.1 i hi).1 (fun b hb e => by have := (h.1 i hi).2 b hb; omega) v, (h.1 i hi).2⟩, h.2⟩
theorem boxB.set {w : World} {N : Nat} {cs : Array Value} {t : TypeId} (h : boxB w N cs t) (i : Nat) (v : Value) : boxB (w.setCell ⟨N, i, none⟩ v) N (cs.setIfInBounds i v) t := set_at h i v
theorem boxB.else {w : World} {N : Nat} {cs : Array Value} {t : TypeId} (h : boxB w N cs t) {p : Addr} (hne : N ≠ p.block) (v : Value) : boxB (w.setCell p v) N cs t := (Below.heap_setCell w p v N hne).trans h

theorem blk_at {α : Type} {g o b : Nat} {L : List α} (h : blkL (some ⟨g, o, none⟩) L = some b) : b = g := by
  cases L with
  | nil => simp [blkL] at h
  | cons q L => simp [blkL] at h; exact h.symm
theorem Holds.row {α : Type} {t : TypeId} {m : Nat} {f : α → List Value} {w : World} {g lo : Nat} {L : List α} (h : Row t m f w g 0 L) (hg : lo ≤ g) : Holds w lo [⟨some ⟨g, 0, none⟩, t, m, L.map f⟩] :=
  Holds.one (own_cells (Or.inr ⟨g, 0, rfl, h⟩)) (fun b hb => by rw [blk_at hb]; exact hg)
theorem Holds.own {α : Type} {t : TypeId} {m : Nat} {f : α → List Value} {w : World} {a : Option Addr} {lo : Nat} {L : List α} (h : Own t m f w a L) (hg : ∀ b, blkL a L = some b → lo ≤ b) : Holds w lo [⟨a, t, m, L.map f⟩] :=
  Holds.one (own_cells h) (fun b hb => hg b (by rw [← blk_map (f := f)]; exact hb))
theorem Holds.get {α : Type} {t : TypeId} {m : Nat} {f : α → List Value} {w : World} {a : Option Addr} {lo : Nat} {L : List α} {l : List It} (h : Holds w lo l) (hi : (⟨a, t, m, L.map f⟩ : It) ∈ l) : Own t m f w a L := cells_own (h.1 _ hi).1
theorem Holds.left {w : World} {lo : Nat} {l l2 : List It} (h : Holds w lo (l ++ l2)) : Holds w lo l := ⟨fun i hi => h.1 i (List.mem_append.2 (Or.inl hi)), (List.pairwise_append.1 h.2).1⟩
theorem Holds.right {w : World} {lo : Nat} {l l2 : List It} (h : Holds w lo (l ++ l2)) : Holds w lo l2 := ⟨fun i hi => h.1 i (List.mem_append.2 (Or.inr hi)), (List.pairwise_append.1 h.2).2.1⟩
theorem Holds.parts {w : World} {lo : Nat} {l l2 : List It} (h : Holds w lo (l ++ l2)) : Apart l l2 := fun i hi j hj => (List.pairwise_append.1 h.2).2.2 i hi j hj
theorem Apart.left {l l2 l3 : List It} (h : Apart (l ++ l2) l3) : Apart l l3 := fun i hi => h i (List.mem_append.2 (Or.inl hi))
theorem Apart.right {l l2 l3 : List It} (h : Apart (l ++ l2) l3) : Apart l2 l3 := fun i hi => h i (List.mem_append.2 (Or.inr hi))
/-- One of the lists is marked. -/
theorem Holds.mark {w w' : World} {lo : Nat} {l1 l2 : List It} {i i' : It} (h : Holds w lo (l1 ++ i :: l2)) (ha : i'.At w') (hb : i'.blk = i.blk) (ht : Turn [i] w w') : Holds w' lo (l1 ++ i' :: l2) := by
  obtain ⟨h1, h2⟩ := h
  obtain ⟨p1, p2, p3⟩ := List.pairwise_append.1 h2
  obtain ⟨p4, p5⟩ := List.pairwise_cons.1 p2
  have keep : ∀ j ∈ l1 ++ l2, j.At w' := by
    intro j hj
    have hjm : j ∈ l1 ++ i :: l2 := by
      rcases List.mem_append.1 hj with hj | hj
      · exact List.mem_append.2 (Or.inl hj)
      · exact List.mem_append.2 (Or.inr (List.mem_cons_of_mem _ hj))
    rcases (h1 j hjm).1 with h3 | ⟨g, o, ha3, hr⟩
    · exact Or.inl h3
    · cases hv : j.vs with
      | nil => exact Or.inl hv
      | cons q L =>
        have hjb : j.blk = some g := by unfold It.blk; rw [hv, ha3]; rfl
        refine Or.inr ⟨g, o, ha3, hr.same (ht.block g hr.lt (fun k hk e => ?_))⟩
        obtain rfl : k = i := by simpa using hk
        rcases List.mem_append.1 hj with hj | hj
        · exact p3 j hj k List.mem_cons_self g hjb e
        · exact p4 j hj g e hjb
  refine ⟨fun j hj => ?_, List.pairwise_append.2 ⟨p1, List.pairwise_cons.2 ⟨fun j hj b hib => p4 j hj b (hb ▸ hib), p5⟩, fun j hj k hk b hjb hkb => ?_⟩⟩
  · rcases List.mem_append.1 hj with hj | hj
    · exact ⟨keep j (List.mem_append.2 (Or.inl hj)), (h1 j (List.mem_append.2 (Or.inl hj))).2⟩
    · rcases List.mem_cons.1 hj with rfl | hj
      · exact ⟨ha, fun b hjb => (h1 i (List.mem_append.2 (Or.inr List.mem_cons_self))).2 b (hb ▸ hjb)⟩
      · exact ⟨keep j (List.mem_append.2 (Or.inr hj)), (h1 j (List.mem_append.2 (Or.inr (List.mem_cons_of_mem _ hj)))).2⟩
  · rcases List.mem_cons.1 hk with rfl | hk
    · exact p3 j hj i List.mem_cons_self b hjb (hb ▸ hkb)
    · exact p3 j hj k (List.mem_cons_of_mem _ hk) b hjb hkb
/-- A mark of one list of a type's turns that list alone. -/
theorem Turn.one {α : Type} {t : TypeId} {m : Nat} {f : α → List Value} {w w' : World} {a : Option Addr} {L : List α} (h : w.grownBy w' (blkL a L)) : Turn [⟨a, t, m, L.map f⟩] w w' :=
  Turn.of_grown h (fun b hb ho => ho _ List.mem_cons_self (by show blkL a (L.map f) = some b; rw [blk_map]; exact hb))

/-- Two variables that are held against each other. -/
structure Eq2 (w wd : World) (ca : Array Value) (ta : TypeId) (cb : Array Value) (tb : TypeId) : Prop where
  a : boxB wd w.heap.size ca ta
  b : boxB wd (w.heap.size + 1) cb tb
  bel : Below w.heap.size w wd
theorem Eq2.start {w w1 : World} {ca : Array Value} {ta : TypeId} {cb : Array Value} {tb : TypeId} (hb : Below ((w.alloc (.cells ca ta)).alloc (.cells cb tb)).heap.size ((w.alloc (.cells ca ta)).alloc (.cells cb tb)) w1) : Eq2 w w1 ca ta cb tb :=
  ⟨((boxB.new w ca ta).below (n1 _ _)).below hb, (new2 w _ cb tb).below hb, (n2 w _ _).trans (hb.mono (n2 w _ _).size)⟩
theorem Eq2.next {w w1 w2 : World} {ca : Array Value} {ta : TypeId} {cb : Array Value} {tb : TypeId} (h : Eq2 w w1 ca ta cb tb) (hb : Below w1.heap.size w1 w2) : Eq2 w w2 ca ta cb tb := ⟨h.a.below hb, h.b.below hb, h.bel.trans (hb.mono h.bel.size)⟩

/-- While a law's helper marks: its variable, the lists. -/
structure Mk (w wd : World) (ca : Array Value) (ta : TypeId) (lo : Nat) (l l0 : List It) : Prop where
  a : boxB wd w.heap.size ca ta
  holds : Holds wd lo l
  turn : Turn l0 w wd
theorem Mk.start {w : World} {lo : Nat} {l : List It} (h : Holds w lo l) (ca : Array Value) (ta : TypeId) : Mk w (w.alloc (.cells ca ta)) ca ta lo l l := ⟨boxB.new _ _ _, h.below (n1 _ _), Turn.of_below (n1 _ _)⟩
theorem Mk.next {w wd wn : World} {ca : Array Value} {ta : TypeId} {lo : Nat} {l1 l2 l0 : List It} {i i' : It} (h : Mk w wd ca ta lo (l1 ++ i :: l2) l0) (ha : i'.At wn) (hb : i'.blk = i.blk) (ht : Turn [i] wd wn) (hm : i ∈ l0) (hoff : Off w.heap.size l0) : Mk w wn ca ta lo (l1 ++ i' :: l2) l0 :=
  ⟨h.a.turn ht (fun j hj e => by
    obtain rfl : j = i := by simpa using hj
    exact hoff j hm e), h.holds.mark ha hb ht, h.turn.trans (ht.wide (fun j hj => by
    obtain rfl : j = i := by simpa using hj
    exact hm))⟩

/-- While a law's helper copies: what came in, the answer's variable, the copy's variable, the lists that were made. -/
structure Cp (w wd : World) (ca : Array Value) (ta : TypeId) (cz cs : Array Value) (t : TypeId) (l : List It) : Prop where
  a : boxB wd w.heap.size ca ta
  z : boxB wd (w.heap.size + 1) cz t
  c : boxB wd (w.heap.size + 1 + 1) cs t
  bel : Below w.heap.size w wd
  sz : w.heap.size + 1 + 1 < wd.heap.size
  holds : Holds wd (w.heap.size + 1 + 1 + 1) l
theorem Cp.start {w w1 : World} {ca : Array Value} {ta : TypeId} {cz cs : Array Value} {t : TypeId} (hb : Below (((w.alloc (.cells ca ta)).alloc (.cells cz t)).alloc (.cells cs t)).heap.size (((w.alloc (.cells ca ta)).alloc (.cells cz t)).alloc (.cells cs t)) w1) {l : List It}
    (h : Holds w1 (((w.alloc (.cells ca ta)).alloc (.cells cz t)).alloc (.cells cs t)).heap.size l) : Cp w w1 ca ta cz cs t l := by
  have hs := hb.size
  rw [sz3] at hs h
  exact ⟨((boxB.new w ca ta).below (n2 _ _ _)).below hb, ((new2 w _ cz t).below (n1 _ _)).below hb, (new3 w _ _ cs t).below hb, (n3 w _ _ _).trans (hb.mono (n3 w _ _ _).size), by omega, h⟩
theorem Cp.next {w w1 w2 : World} {ca : Array Value} {ta : TypeId} {cz cs : Array Value} {t : TypeId} {l l2 : List It} (h : Cp w w1 ca ta cz cs t l) (hb : Below w1.heap.size w1 w2) (h2 : Holds w2 w1.heap.size l2) : Cp w w2 ca ta cz cs t (l ++ l2) :=
  ⟨h.a.below hb, h.z.below hb, h.c.below hb, h.bel.trans (hb.mono h.bel.size), Nat.lt_of_lt_of_le h.sz hb.size, h.holds.add hb h2 h.sz⟩
theorem Cp.keep {w w1 w2 : World} {ca : Array Value} {ta : TypeId} {cz cs : Array Value} {t : TypeId} {l : List It} (h : Cp w w1 ca ta cz cs t l) (hb : Below w1.heap.size w1 w2) : Cp w w2 ca ta cz cs t l :=
  ⟨h.a.below hb, h.z.below hb, h.c.below hb, h.bel.trans (hb.mono h.bel.size), Nat.lt_of_lt_of_le h.sz hb.size, h.holds.below hb⟩
theorem Cp.set {w wd : World} {ca : Array Value} {ta : TypeId} {cz cs : Array Value} {t : TypeId} {l : List It} (h : Cp w wd ca ta cz cs t l) (i : Nat) (v : Value) : Cp w (wd.setCell ⟨w.heap.size + 1 + 1, i, none⟩ v) ca ta cz (cs.setIfInBounds i v) t l :=
  ⟨h.a.else (by show w.heap.size ≠ w.heap.size + 1 + 1; omega) v, h.z.else (by show w.heap.size + 1 ≠ w.heap.size + 1 + 1; omega) v, h.c.set i v, h.bel.setCell (Nat.le_add_right _ 2) v, by have := h.sz; simpa using this, h.holds.set (by show w.heap.size + 1 + 1 < _; omega) v⟩
theorem Cp.ans {w wd : World} {ca : Array Value} {ta : TypeId} {cz cs : Array Value} {t : TypeId} {l : List It} (h : Cp w wd ca ta cz cs t l) (i : Nat) (v : Value) : Cp w (wd.setCell ⟨w.heap.size + 1, i, none⟩ v) ca ta (cz.setIfInBounds i v) cs t l :=
  ⟨h.a.else (by show w.heap.size ≠ w.heap.size + 1; omega) v, h.z.set i v, h.c.else (by show w.heap.size + 1 + 1 ≠ w.heap.size + 1; omega) v, h.bel.setCell (Nat.le_add_right _ 1) v, by have := h.sz; simpa using this, h.holds.set (by show w.heap.size + 1 < _; omega) v⟩

end Go.Proofs.YtnabnghjejncpaaGreat.HoldKit
