/- What the program's withFree and Grant answer, at every ledger of at most 2 to the 20 slots; nothing else turns. -/
import Derived.Test.YtdmjffkcjkcdnaaDoorRows
import Derived.WalkKit
import Derived.WalkSmall
import Derived.BigQuiet
import Derived.Deep.RegionWith
import Derived.Deep.DeepCutAuto
import Derived.Deep.AppendSrc
import Derived.Laws.AppendOwn
import Derived.Test.YtdmjffkcjkcdnaaDoorListKit
import Derived.Test.YtdmjffkcjkcdnaaDoorSlotKit
import Derived.Test.YtdmjffkcjkcdnaaDoorSlotOks
import Derived.Test.YtdmjffkcjkcdnaaDoorLedFind
import Derived.Test.YtdmjffkcjkcdnaaDoorLedOk
import Derived.Test.YtdmjffkcjkcdnaaDoorLedPermit
import Derived.Test.YtdmjffkcjkcdnaaDoorLedCopy
namespace Go.Proofs.YtdmjffkcjkcdnaaDoor.LedGrant
open Go.RowKit ListKit SlotKit SlotOks LedFind LedOk LedPermit LedCopy
set_option maxRecDepth 8000
set_option linter.unusedVariables false
set_option linter.unusedSimpArgs false

/-- What answers a grant: a ledger in memory of its own, a permit, and whether there is one. -/
def GAns (w : World) (L : List Slot) (P G : Int) (B : Bool) (e : Ending) (w' : World) : Prop := ∃ a c, e = .returned (.tuple #[.agg #[.slice a L.length c], .agg #[.int .i64 P, .int .i64 G], .bool B]) ∧ L.length ≤ c ∧ Own 32 5 cells w' a L ∧ (∀ b, blkL a L = some b → w.heap.size ≤ b) ∧ Below w.heap.size w w'
/-- What answers it by a flag. -/
def GPost (w : World) (L : List Slot) (P G : Int) (B : Bool) (e : Ending) (w' : World) : Prop := (B = false → GAns w [] 0 0 false e w') ∧ (B = true → GAns w L P G true e w')
/-- What answers the search: slots in memory of its own, and a place. -/
def WAns (w : World) (L : List Slot) (k : Nat) (e : Ending) (w' : World) : Prop := ∃ v, e = .returned (.tuple #[v, .int .i64 (k : Int)]) ∧ Cp w' w.heap.size v L ∧ Below w.heap.size w w'

theorem row_put {w : World} {g o : Nat} {L : List Slot} (h : Row 32 5 cells w g o L) (k : Nat) (hk : k < L.length) (s : Slot) : Row 32 5 cells (sets w g (o + k * 5) (cells s)) g o (L.set k s) := by
  obtain ⟨cur, hg, hs, hc⟩ := h
  have hb : o + k * 5 + (cells s).length ≤ cur.size := by rw [cells_len]; have := Nat.mul_le_mul_right 5 (show k + 1 ≤ L.length from hk); omega
  refine ⟨_, sets_at _ _ _ _ hg, by rw [arrSets_size]; simpa using hs, fun i hi j hj => ?_⟩
  rw [arrSets_get _ _ _ _ hb, cells_len]
  by_cases e : i = k
  · subst e
    rw [if_pos (by omega), show o + i * 5 + j - (o + i * 5) = j by omega]
    simp
  · rw [if_neg (by rcases Nat.lt_or_gt_of_ne e with h | h <;> omega), hc i (by simpa using hi) j hj, List.getElem_set_ne (fun h => e h.symm)]
theorem three {w w1 : World} {A B C : Obj} (hb : Below (((w.alloc A).alloc B).alloc C).heap.size (((w.alloc A).alloc B).alloc C) w1) : Hid (w1.heap[w.heap.size]? = some A ∧ w1.heap[w.heap.size + 1]? = some B ∧ w1.heap[w.heap.size + 1 + 1]? = some C ∧ Below w.heap.size w w1 ∧ w.heap.size + 1 + 1 < w1.heap.size) := by
  have hs := hb.size
  simp at hs
  refine ⟨?_, ?_, ?_, ((((Below.refl _ _).alloc (Nat.le_refl _) _).alloc (by simp) _).alloc (by simp; omega) _).trans (hb.mono (by simp; omega)), by omega⟩
  · rw [hb.block _ (by simp; omega), Below.heap_alloc _ _ _ (by simp; omega), Below.heap_alloc _ _ _ (by simp)]
    exact heap_alloc_new w _
  · rw [hb.block _ (by simp), Below.heap_alloc _ _ _ (by simp)]
    have h2 := heap_alloc_new (w.alloc A) B
    rw [World.size_alloc] at h2
    exact h2
  · rw [hb.block _ (by simp)]
    have h2 := heap_alloc_new ((w.alloc A).alloc B) C
    rw [World.size_alloc, World.size_alloc] at h2
    exact h2
theorem shape_row {w : World} {B k : Nat} {a : Option Addr} {c : Nat} {L : List Slot} (h : (a = none ∧ L = [] ∧ c = 0) ∨ ∃ g, a = some ⟨g, 0, none⟩ ∧ B ≤ g ∧ Row 32 5 cells w g 0 L) (hk : k < L.length) : ∃ g o, a = some ⟨g, o, none⟩ ∧ B ≤ g ∧ Row 32 5 cells w g o L := by
  rcases h with ⟨_, h, _⟩ | ⟨g, ha, hb, hr⟩
  · rw [h] at hk; simp at hk
  · exact ⟨g, 0, ha, hb, hr⟩
theorem bel_three (w : World) (A B C : Obj) : Below w.heap.size w (((w.alloc A).alloc B).alloc C) := (((Below.refl _ _).alloc (Nat.le_refl _) _).alloc (by simp) _).alloc (by simp; omega) _
theorem cells_zero (W : World) (t : TypeId) : ∀ j u, (cells zero)[j]? = some u → (W.alloc (.cells #[.int .i64 0, .bool false, .int .i64 0, .int .i64 0, .int .i64 0] t)).cell? ((⟨W.heap.size, 0, none⟩ : Addr).add j) = some u := fun j u hu => by
  rw [Addr.add_lit]
  have h := cellB (heap_alloc_new W (.cells #[.int .i64 0, .bool false, .int .i64 0, .int .i64 0, .int .i64 0] t)) (0 + j)
  rw [h, ← hu]
  simp [cells, zero]

end Go.Proofs.YtdmjffkcjkcdnaaDoor.LedGrant
