/- Lists of structs that grow in memory of the call's own, of whatever cells; no condition but those written in each. -/
import Derived.Test.YtnabnghjejncpaaGreatRows
import Derived.Test.YtnabnghjejncpaaGreatListKit
import Derived.Test.YtnabnghjejncpaaGreatHoldKit
import Derived.WalkKit
import Derived.WalkSmall
namespace Go.Proofs.YtnabnghjejncpaaGreat.GrowKit
open Go.RowKit ListKit HoldKit

section
variable {α : Type} {t : TypeId} {m : Nat} {f : α → List Value}

def flat (f : α → List Value) (L : List α) : List Value := (L.map f).flatten
theorem flat_app (L M : List α) : flat f (L ++ M) = flat f L ++ flat f M := by simp [flat]
theorem flat_one (x : α) : flat f [x] = f x := by simp [flat]
theorem flat_get (hf : ∀ x, (f x).length = m) : ∀ (L : List α) (i : Nat) (hi : i < L.length) (j : Nat), j < m → (flat f L)[i * m + j]? = (f L[i])[j]?
  | x :: L, 0, _, j, hj => by
    show (f x ++ flat f L)[0 * m + j]? = _
    rw [Nat.zero_mul, Nat.zero_add, List.getElem?_append_left (by rw [hf]; exact hj)]
    rfl
  | x :: L, i + 1, hi, j, hj => by
    show (f x ++ flat f L)[(i + 1) * m + j]? = _
    rw [List.getElem?_append_right (by rw [hf, Nat.succ_mul]; omega), hf, show (i + 1) * m + j - m = i * m + j by rw [Nat.succ_mul]; omega]
    exact flat_get hf L i (by simpa using hi) j hj

/-- A list in memory of the call's own, from B on. -/
def Cp (t : TypeId) (m : Nat) (f : α → List Value) (w : World) (B : Nat) (v : Value) (L : List α) : Prop := w.ownsRow B t m v L.length (flat f L)
theorem Cp.nil (w : World) (B : Nat) : Cp t m f w B (.slice none 0 0) [] := ⟨by simp [flat], Or.inl ⟨rfl, rfl⟩⟩
theorem Cp.empty (w : World) {B : Nat} (hB : B ≤ w.heap.size) : Cp t m f (w.alloc (.cells #[] t)) B (.slice (some ⟨w.heap.size, 0, none⟩) 0 0) [] := ⟨by simp [flat], Or.inr ⟨w.heap.size, 0, #[], rfl, hB, heap_alloc_new w _, Nat.le_refl _, by unfold maxLen; omega, by simp, by simp [flat]⟩⟩
theorem Cp.shape (hf : ∀ x, (f x).length = m) {w : World} {B : Nat} {v : Value} {L : List α} (h : Cp t m f w B v L) : ∃ a c, v = .slice a L.length c ∧ L.length ≤ c ∧ Holds w B [⟨a, t, m, L.map f⟩] := by
  obtain ⟨hl, ⟨hv, h0⟩ | ⟨g, cap, cur, hv, hb, hg, hc, hm, hs, ht⟩⟩ := h
  · have hL := List.length_eq_zero_iff.1 h0
    subst hL
    exact ⟨none, 0, by rw [hv]; rfl, Nat.le_refl _, Holds.own (Or.inl rfl) (fun b hb => by simp [blkL] at hb)⟩
  · refine ⟨_, cap, hv, hc, Holds.row (L := L) (f := f) ⟨cur, hg, ?_, fun i hi j hj => ?_⟩ hb⟩
    · rw [hs]
      have := Nat.mul_le_mul_right m hc
      omega
    · have h1 := flat_get hf L i hi j hj
      have h2 : i * m + j < L.length * m := by
        have h3 : (i + 1) * m ≤ L.length * m := Nat.mul_le_mul_right m hi
        rw [Nat.succ_mul] at h3
        omega
      rw [← ht, List.getElem?_take, if_pos h2] at h1
      rw [← h1, Nat.zero_add]
      simp
theorem Cp.same {w w' : World} {B : Nat} {v : Value} {L : List α} (h : Cp t m f w B v L) (e : ∀ g, v.ownBlock = some g → B ≤ g → w'.heap[g]? = w.heap[g]?) : Cp t m f w' B v L := by
  obtain ⟨hl, h | ⟨g, cap, cur, hv, hb, hg, rest⟩⟩ := h
  · exact ⟨hl, Or.inl h⟩
  · exact ⟨hl, Or.inr ⟨g, cap, cur, hv, hb, by rw [e g (by rw [hv]; rfl) hb]; exact hg, rest⟩⟩
theorem Cp.lt {w : World} {B : Nat} {v : Value} {L : List α} (h : Cp t m f w B v L) : ∀ g, v.ownBlock = some g → g < w.heap.size := fun g hg => (World.ownsRow.lt h g hg).2
theorem Cp.ge {w : World} {B : Nat} {v : Value} {L : List α} (h : Cp t m f w B v L) : ∀ g, v.ownBlock = some g → B ≤ g := fun g hg => (World.ownsRow.lt h g hg).1
theorem Cp.below {w w' : World} {B : Nat} {v : Value} {L : List α} (h : Cp t m f w B v L) (hb : Below w.heap.size w w') : Cp t m f w' B v L := h.same fun g hg _ => hb.block g (h.lt g hg)
theorem Cp.set {w : World} {B : Nat} {v : Value} {L : List α} (h : Cp t m f w B v L) {p : Addr} (hne : p.block < B) (u : Value) : Cp t m f (w.setCell p u) B v L := h.same fun g _ hg => Below.heap_setCell _ _ _ _ (by omega)
theorem Cp.base {w : World} {B B' : Nat} {v : Value} {L : List α} (h : Cp t m f w B v L) (hB : B' ≤ B) : Cp t m f w B' v L := by
  obtain ⟨hl, h | ⟨g, cap, cur, hv, hb, rest⟩⟩ := h
  · exact ⟨hl, Or.inl h⟩
  · exact ⟨hl, Or.inr ⟨g, cap, cur, hv, by omega, rest⟩⟩
/-- One element more. -/
theorem Cp.push {w : World} {B : Nat} {v : Value} {L : List α} {x : α} (h : w.ownsRow B t m v (L.length + 1) (flat f L ++ f x)) : Cp t m f w B v (L ++ [x]) := by
  show World.ownsRow _ _ _ _ _ _ _
  rw [flat_app, flat_one, List.length_append]
  exact h
/-- What an append turns. -/
theorem Cp.turned {w w' : World} {B : Nat} {v : Value} {L : List α} {W : World} (h : Cp t m f w B v L) (hg : w.grownBy w' v.ownBlock) (hB : W.heap.size ≤ B) (hw : Below W.heap.size W w) : Below W.heap.size W w' := hw.grown hg hw.size (fun k hk => Nat.le_trans hB (h.ge k hk))
theorem box_grown {w w' : World} {N : Nat} {cs : Array Value} {ty : TypeId} {r : Option Nat} (h : boxB w N cs ty) (hg : w.grownBy w' r) (hne : r ≠ some N) : boxB w' N cs ty := (hg.block N h.lt (fun e => hne e.symm)).trans h
end
end Go.Proofs.YtnabnghjejncpaaGreat.GrowKit
