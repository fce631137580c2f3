/- What the model's and the program's PermitOf answer, at every ledger of at most 2 to the 20 slots and every request; nothing else turns. -/
import Derived.Test.YtdmjffkcjkcdnaaDoorRows
import Derived.WalkKit
import Derived.WalkSmall
import Derived.BigQuiet
import Derived.Deep.RegionWith
import Derived.Test.YtdmjffkcjkcdnaaDoorListKit
import Derived.Test.YtdmjffkcjkcdnaaDoorSlotKit
import Derived.Test.YtdmjffkcjkcdnaaDoorSlotOks
import Derived.Test.YtdmjffkcjkcdnaaDoorLedFind
import Derived.Test.YtdmjffkcjkcdnaaDoorLedOk
namespace Go.Proofs.YtdmjffkcjkcdnaaDoor.LedPermit
open Go.RowKit ListKit SlotKit SlotOks LedFind LedOk
set_option maxRecDepth 8000
set_option linter.unusedVariables false
set_option linter.unusedSimpArgs false

/-- The permit of a request: its place and its generation, false where it has none or the ledger isn't right. -/
def Perm (L : List Slot) (req P G : Int) (B : Bool) : Prop :=
  (B = false ∧ P = 0 ∧ G = 0 ∧ ¬ ledOk L) ∨ (B = false ∧ P = 0 ∧ G = 0 ∧ ledOk L ∧ ∀ (j : Nat) (h : j < L.length), isOf req L[j] = false) ∨
  (B = true ∧ ledOk L ∧ ∃ k : Nat, P = (k : Int) ∧ ∃ h : k < L.length, isOf req L[k] = true ∧ G = L[k].x0 ∧ ∀ (j : Nat) (hj : j < k), isOf req (L[j]'(by omega)) = false)
theorem perm_ex (L : List Slot) (req : Int) : ∃ P G B, Perm L req P G B := by
  classical
  by_cases h : ledOk L
  · obtain ⟨r, ⟨_, h1⟩ | ⟨k, rfl, hk, h1, h2⟩⟩ := at_ex (isOf req) L
    · exact ⟨0, 0, false, Or.inr (Or.inl ⟨rfl, rfl, rfl, h, h1⟩)⟩
    · exact ⟨k, _, true, Or.inr (Or.inr ⟨rfl, h, k, rfl, hk, h1, rfl, h2⟩)⟩
  · exact ⟨0, 0, false, Or.inl ⟨rfl, rfl, rfl, h⟩⟩
theorem two {w w1 : World} {A B : Obj} (hb : Below ((w.alloc A).alloc B).heap.size ((w.alloc A).alloc B) w1) : Hid (w1.heap[w.heap.size]? = some A ∧ w1.heap[w.heap.size + 1]? = some B ∧ Below w.heap.size w w1 ∧ w.heap.size + 1 < w1.heap.size) := by
  have hs := hb.size
  simp at hs
  refine ⟨?_, ?_, (((Below.refl _ _).alloc (Nat.le_refl _) _).alloc (by simp) _).trans (hb.mono (by simp; omega)), by omega⟩
  · rw [hb.block _ (by simp; omega), Below.heap_alloc _ _ _ (by simp)]
    exact heap_alloc_new w _
  · rw [hb.block _ (by simp)]
    have h2 := heap_alloc_new (w.alloc A) B
    rw [World.size_alloc] at h2
    exact h2
theorem bel_two (w : World) (A B : Obj) : Below w.heap.size w ((w.alloc A).alloc B) := ((Below.refl _ _).alloc (Nat.le_refl _) _).alloc (by simp) _

end Go.Proofs.YtdmjffkcjkcdnaaDoor.LedPermit
