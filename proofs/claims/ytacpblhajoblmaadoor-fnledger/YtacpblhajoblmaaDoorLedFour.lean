/- Four boxes made one behind the other; a list in memory of its own; no condition but those written in each. -/
import Derived.Test.YtacpblhajoblmaaDoorRows
import Derived.WalkKit
import Derived.WalkSmall
import Derived.Test.YtacpblhajoblmaaDoorListKit
import Derived.Test.YtacpblhajoblmaaDoorSlotKit
import Derived.Test.YtacpblhajoblmaaDoorLedPermit
import Derived.Test.YtacpblhajoblmaaDoorLedCopy
import Derived.Test.YtacpblhajoblmaaDoorLedGrant
namespace Go.Proofs.YtacpblhajoblmaaDoor.LedFour
open Go.RowKit ListKit SlotKit LedPermit LedCopy LedGrant
theorem four {w w1 : World} {A B C D : Obj} (hb : Below ((((w.alloc A).alloc B).alloc C).alloc D).heap.size ((((w.alloc A).alloc B).alloc C).alloc D) w1) : (w1.heap[w.heap.size]? = some A ∧ w1.heap[w.heap.size + 1]? = some B ∧ w1.heap[w.heap.size + 1 + 1]? = some C ∧ w1.heap[w.heap.size + 1 + 1 + 1]? = some D) ∧ Below w.heap.size w w1 ∧ w.heap.size + 1 + 1 + 1 < w1.heap.size := by
  have hs := hb.size
  simp only [World.size_alloc] at hs
  have h3 := three ((Below.refl (((w.alloc A).alloc B).alloc C).heap.size (((w.alloc A).alloc B).alloc C)))
  have q : ∀ m, m < w.heap.size + 1 + 1 + 1 → w1.heap[m]? = (((w.alloc A).alloc B).alloc C).heap[m]? := fun m hm => (hb.block m (by simp only [World.size_alloc]; omega)).trans (Below.heap_alloc _ _ _ (by simp only [World.size_alloc]; omega))
  refine ⟨⟨(q _ (by omega)).trans h3.out.1, (q _ (by omega)).trans h3.out.2.1, (q _ (by omega)).trans h3.out.2.2.1, ?_⟩, ((bel_three w A B C).alloc (bel_three w A B C).size _).trans (hb.mono (by simp only [World.size_alloc]; omega)), by omega⟩
  rw [hb.block _ (by simp only [World.size_alloc]; omega)]
  have h2 := heap_alloc_new (((w.alloc A).alloc B).alloc C) D
  simp only [World.size_alloc] at h2
  exact h2
theorem bel_four (w : World) (A B C D : Obj) : Below w.heap.size w ((((w.alloc A).alloc B).alloc C).alloc D) := (bel_three w A B C).alloc (bel_three w A B C).size _
theorem cp_row {w : World} {B k : Nat} {a : Option Addr} {n c : Nat} {L : List Slot} (h : Cp w B (.slice a n c) L) (hk : k < L.length) : ∃ g o, a = some ⟨g, o, none⟩ ∧ B ≤ g ∧ Row 35 5 cells w g o L := by
  obtain ⟨a1, c1, hv, _, hs⟩ := h.shape
  injection hv with h1 _ _
  rw [h1]
  exact shape_row hs hk
theorem row_drew {w : World} {g o : Nat} {L : List Slot} (h : Row 35 5 cells w g o L) : Row 35 5 cells w.drew g o L := h.same rfl
theorem cp_own {w : World} {B : Nat} {a : Option Addr} {n c : Nat} {L : List Slot} (h : Cp w B (.slice a n c) L) : Own 35 5 cells w a L := by
  obtain ⟨a1, c1, hv, _, hs⟩ := h.shape
  injection hv with h1 _ _
  rw [h1]
  exact shape_own hs
theorem cp_ge {w : World} {B : Nat} {a : Option Addr} {n c : Nat} {L : List Slot} (h : Cp w B (.slice a n c) L) : ∀ b, blkL a L = some b → B ≤ b := by
  intro b hb
  obtain ⟨a1, c1, hv, _, hs⟩ := h.shape
  injection hv with h1 _ _
  subst h1
  cases L with
  | nil => simp [blkL] at hb
  | cons q L =>
    rcases hs with ⟨_, h2, _⟩ | ⟨g, rfl, hg, _⟩
    · cases h2
    · simp [blkL] at hb
      omega
end Go.Proofs.YtacpblhajoblmaaDoor.LedFour
