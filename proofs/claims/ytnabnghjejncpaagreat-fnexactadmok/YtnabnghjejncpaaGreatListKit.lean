/- Lists of structs in memory, of whatever cells: where they lie, what is left of them behind calls and stores, how they are filled; no condition but those written in each. -/
import Derived.Test.YtnabnghjejncpaaGreatRows
import Derived.WalkKit
import Derived.WalkSmall
import Derived.Laws.MakeOwn
namespace Go.Proofs.YtnabnghjejncpaaGreat.ListKit
open Go.RowKit

theorem set_at {w : World} {g : Nat} {cur : Array Value} {t : TypeId} (h : w.heap[g]? = some (.cells cur t (0, 0))) (i : Nat) (v : Value) : (w.setCell ⟨g, i, none⟩ v).heap[g]? = some (.cells (cur.setIfInBounds i v) t (0, 0)) := by
  simp [World.setCell, h, Array.getElem?_modify]

theorem cellB {w : World} {g : Nat} {cur : Array Value} {t : TypeId} (h : w.heap[g]? = some (.cells cur t (0, 0))) (i : Nat) : w.cell? ⟨g, i, none⟩ = cur[i]? := by simp [World.cell?, h]
theorem fzB {w : World} {g : Nat} {cur : Array Value} {t : TypeId} (h : w.heap[g]? = some (.cells cur t (0, 0))) (i : Nat) : w.frozen? ⟨g, i, none⟩ = false := by simp [World.frozen?, h]

/-- Values stored one behind the other. -/
def sets (w : World) (g p : Nat) : List Value → World
  | [] => w
  | v :: vs => sets (w.setCell ⟨g, p, none⟩ v) g (p + 1) vs
def arrSets (cur : Array Value) (p : Nat) : List Value → Array Value
  | [] => cur
  | v :: vs => arrSets (cur.setIfInBounds p v) (p + 1) vs

theorem sets_at {t : TypeId} {g : Nat} (vs : List Value) : ∀ (w : World) (p : Nat) (cur : Array Value), w.heap[g]? = some (.cells cur t (0, 0)) → (sets w g p vs).heap[g]? = some (.cells (arrSets cur p vs) t (0, 0)) := by
  induction vs with
  | nil => intro w p cur h; exact h
  | cons v vs ih => intro w p cur h; exact ih _ _ _ (set_at h p v)
theorem sets_below {B : Nat} {a : World} {g : Nat} (hg : B ≤ g) (vs : List Value) : ∀ (w : World) (p : Nat), Below B a w → Below B a (sets w g p vs) := by
  induction vs with
  | nil => intro w p h; exact h
  | cons v vs ih => intro w p h; exact ih _ _ (h.setCell hg _)
theorem arrSets_size (vs : List Value) : ∀ (cur : Array Value) (p : Nat), (arrSets cur p vs).size = cur.size := by
  induction vs with
  | nil => intro cur p; rfl
  | cons v vs ih => intro cur p; exact (ih _ _).trans (by simp)
theorem arrSets_get (vs : List Value) : ∀ (cur : Array Value) (p q : Nat), p + vs.length ≤ cur.size → (arrSets cur p vs)[q]? = if p ≤ q ∧ q < p + vs.length then vs[q - p]? else cur[q]? := by
  induction vs with
  | nil => intro cur p q _; rw [if_neg (by simp)]; rfl
  | cons v vs ih =>
    intro cur p q hb
    have hb' : p + 1 + vs.length ≤ (cur.setIfInBounds p v).size := by simp at hb ⊢; omega
    show (arrSets (cur.setIfInBounds p v) (p + 1) vs)[q]? = _
    rw [ih _ _ _ hb']
    by_cases h1 : p + 1 ≤ q ∧ q < p + 1 + vs.length
    · rw [if_pos h1, if_pos (by simp; omega), show q - p = (q - (p + 1)) + 1 by omega]
      rfl
    · rw [if_neg h1]
      by_cases h2 : q = p
      · subst h2
        rw [if_pos (by simp), Nat.sub_self]
        simp at hb
        rw [Array.getElem?_setIfInBounds_self_of_lt (by omega)]
        rfl
      · rw [if_neg (by simp; omega), Array.getElem?_setIfInBounds_ne (fun e => h2 e.symm)]

section
variable {α : Type} {t : TypeId} {m : Nat} {f : α → List Value} {w w' : World} {g o : Nat} {a : Option Addr} {L : List α}

/-- Behind place o of block g lie these elements; the block is not frozen. -/
def Row (t : TypeId) (m : Nat) (f : α → List Value) (w : World) (g o : Nat) (L : List α) : Prop :=
  ∃ cur : Array Value, w.heap[g]? = some (.cells cur t (0, 0)) ∧ o + L.length * m ≤ cur.size ∧ ∀ (i : Nat) (h : i < L.length) (j : Nat), j < m → cur[o + i * m + j]? = (f L[i])[j]?

theorem Row.lt (h : Row t m f w g o L) : g < w.heap.size := by
  obtain ⟨cur, hg, _, _⟩ := h
  exact (Array.getElem?_eq_some_iff.1 hg).1
theorem Row.cell (h : Row t m f w g o L) (i : Nat) (hi : i < L.length) (j : Nat) (hj : j < m) : w.cell? ⟨g, o + i * m + j, none⟩ = (f L[i])[j]? := by
  obtain ⟨cur, hg, _, hc⟩ := h
  simp [World.cell?, hg, hc i hi j hj]
theorem Row.fz (h : Row t m f w g o L) (j : Nat) : w.frozen? ⟨g, j, none⟩ = false := by
  obtain ⟨cur, hg, _, _⟩ := h
  simp [World.frozen?, hg]
theorem Row.same (h : Row t m f w g o L) (e : w'.heap[g]? = w.heap[g]?) : Row t m f w' g o L := by
  obtain ⟨cur, hg, rest⟩ := h
  exact ⟨cur, by rw [e]; exact hg, rest⟩
theorem Row.below (h : Row t m f w g o L) (hb : Below w.heap.size w w') : Row t m f w' g o L := h.same (hb.block g h.lt)
theorem Row.grown {r : Option Nat} (h : Row t m f w g o L) (hb : w.grownBy w' r) (hne : some g ≠ r) : Row t m f w' g o L := h.same (hb.block g h.lt hne)
theorem Row.set (h : Row t m f w g o L) {p : Addr} (hne : g ≠ p.block) (v : Value) : Row t m f (w.setCell p v) g o L := h.same (Below.heap_setCell _ _ _ _ hne)

/-- A list of elements, empty or in a row. -/
def Own (t : TypeId) (m : Nat) (f : α → List Value) (w : World) (a : Option Addr) (L : List α) : Prop := L = [] ∨ ∃ g o, a = some ⟨g, o, none⟩ ∧ Row t m f w g o L
/-- The block of a list that has an element. -/
def blkL (a : Option Addr) (L : List α) : Option Nat := match L with
  | [] => none
  | _ :: _ => a.map (·.block)

theorem Own.below (h : Own t m f w a L) (hb : Below w.heap.size w w') : Own t m f w' a L := by
  rcases h with h | ⟨g, o, ha, hr⟩
  · exact Or.inl h
  · exact Or.inr ⟨g, o, ha, hr.below hb⟩
theorem Own.lt (h : Own t m f w a L) : ∀ b, blkL a L = some b → b < w.heap.size := by
  intro b hb
  cases L with
  | nil => simp [blkL] at hb
  | cons q L =>
    rcases h with h | ⟨g, o, rfl, hr⟩
    · simp at h
    · simp [blkL] at hb
      subst hb
      exact hr.lt
theorem Own.set (h : Own t m f w a L) {p : Addr} (hne : ∀ b, blkL a L = some b → b ≠ p.block) (v : Value) : Own t m f (w.setCell p v) a L := by
  cases L with
  | nil => exact Or.inl rfl
  | cons q L =>
    rcases h with h | ⟨g, o, rfl, hr⟩
    · simp at h
    · exact Or.inr ⟨g, o, rfl, hr.set (hne g rfl) v⟩
theorem Own.grown {r : Option Nat} (h : Own t m f w a L) (hg : w.grownBy w' r) (hne : ∀ b, blkL a L = some b → some b ≠ r) : Own t m f w' a L := by
  cases L with
  | nil => exact Or.inl rfl
  | cons q L =>
    rcases h with h | ⟨g, o, rfl, hr⟩
    · simp at h
    · exact Or.inr ⟨g, o, rfl, hr.grown hg (hne g rfl)⟩

/-- The first i elements lie there; there is room for all. -/
def Part (t : TypeId) (m : Nat) (f : α → List Value) (w : World) (g o : Nat) (L : List α) (i : Nat) : Prop :=
  ∃ cur : Array Value, w.heap[g]? = some (.cells cur t (0, 0)) ∧ o + L.length * m ≤ cur.size ∧ ∀ (k : Nat) (h : k < L.length) (j : Nat), k < i → j < m → cur[o + k * m + j]? = (f L[k])[j]?

theorem Part.start {L0 : List α} (h : Row t m f w g o L0) (hl : L0.length = L.length) : Part t m f w g o L 0 := by
  obtain ⟨cur, hg, hs, _⟩ := h
  exact ⟨cur, hg, by rw [← hl]; exact hs, fun k _ j hk _ => by omega⟩
theorem Part.made (w : World) (L : List α) (zs : Array Value) (hz : (madeCells zs (L.length * m)).size = L.length * m) : Part t m f (w.alloc (.cells (madeCells zs (L.length * m)) t)) w.heap.size 0 L 0 :=
  ⟨_, heap_alloc_new w _, by rw [hz]; omega, fun k _ j hk _ => by omega⟩
theorem Part.stop (h : Part t m f w g o L L.length) : Row t m f w g o L := by
  obtain ⟨cur, hg, hs, hc⟩ := h
  exact ⟨cur, hg, hs, fun i hi j hj => hc i hi j hi hj⟩
theorem Part.lt {i : Nat} (h : Part t m f w g o L i) : g < w.heap.size := by
  obtain ⟨cur, hg, _, _⟩ := h
  exact (Array.getElem?_eq_some_iff.1 hg).1
theorem Part.fz {i : Nat} (h : Part t m f w g o L i) (j : Nat) : w.frozen? ⟨g, j, none⟩ = false := by
  obtain ⟨cur, hg, _, _⟩ := h
  simp [World.frozen?, hg]
theorem Part.cell {i : Nat} (h : Part t m f w g o L i) (j : Nat) (hj : j < o + L.length * m) : ∃ v, w.cell? ⟨g, j, none⟩ = some v := by
  obtain ⟨cur, hg, hl, _⟩ := h
  exact ⟨cur[j]'(by omega), by simp [World.cell?, hg]⟩
theorem Part.same {i : Nat} (h : Part t m f w g o L i) (e : w'.heap[g]? = w.heap[g]?) : Part t m f w' g o L i := by
  obtain ⟨cur, hg, rest⟩ := h
  exact ⟨cur, by rw [e]; exact hg, rest⟩
theorem Part.store {i : Nat} (hlen : ∀ x, (f x).length = m) (h : Part t m f w g o L i) (hi : i < L.length) : Part t m f (sets w g (o + i * m) (f L[i])) g o L (i + 1) := by
  obtain ⟨cur, hg, hs, hc⟩ := h
  have hroom : o + i * m + m ≤ cur.size := by
    have h1 : (i + 1) * m ≤ L.length * m := Nat.mul_le_mul_right m hi
    rw [Nat.add_mul, Nat.one_mul] at h1
    omega
  refine ⟨_, sets_at _ w _ cur hg, by rw [arrSets_size]; exact hs, fun k hk j hki hj => ?_⟩
  rw [arrSets_get _ _ _ _ (by rw [hlen]; exact hroom), hlen]
  by_cases e : k = i
  · subst e
    rw [if_pos (by omega), show o + k * m + j - (o + k * m) = j by omega]
  · have hlt : k < i := by omega
    have h1 : (k + 1) * m ≤ i * m := Nat.mul_le_mul_right m hlt
    rw [Nat.add_mul, Nat.one_mul] at h1
    rw [if_neg (by omega)]
    exact hc k hk j hlt hj
end
end Go.Proofs.YtnabnghjejncpaaGreat.ListKit
