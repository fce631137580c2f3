/- What the laws' helpers on the flat struct Out do: it is copied, and found equal to its like; nothing else turns; no condition. -/
import Derived.Test.YtcpekobacoijdaaDoorRows
import Derived.WalkKit
import Derived.WalkSmall
import Derived.BigQuiet
import Derived.Deep.RegionWith
import Derived.Deep.DeepCutAuto
import Derived.Test.YtcpekobacoijdaaDoorFlatPermit
import Derived.Test.YtcpekobacoijdaaDoorListKit
namespace Go.Proofs.YtcpekobacoijdaaDoor.FlatOut
open Go.RowKit ListKit
set_option maxRecDepth 8000
set_option linter.unusedVariables false
set_option linter.unusedSimpArgs false

theorem three {w w1 : World} {A B C : Obj} (hb : Below (((w.alloc A).alloc B).alloc C).heap.size (((w.alloc A).alloc B).alloc C) w1) : w1.heap[w.heap.size]? = some A ∧ w1.heap[w.heap.size + 1]? = some B ∧ w1.heap[w.heap.size + 1 + 1]? = some C ∧ Below w.heap.size w w1 ∧ w.heap.size + 1 + 1 < w1.heap.size := by
  have hs := hb.size
  simp at hs
  refine ⟨?_, ?_, ?_, ((((Below.refl _ _).alloc (Nat.le_refl _) _).alloc (by simp) _).alloc (by simp; omega) _).trans (hb.mono (by simp; omega)), by omega⟩
  · rw [hb.block _ (by simp; omega), Below.heap_alloc _ _ _ (by simp; omega), Below.heap_alloc _ _ _ (by simp)]
    exact heap_alloc_new w _
  · rw [hb.block _ (by simp), Below.heap_alloc _ _ _ (by simp)]
    have h2 := heap_alloc_new (w.alloc A) B
    rw [World.size_alloc] at h2
    exact h2
  · rw [hb.block _ (by simp)]
    have h2 := heap_alloc_new ((w.alloc A).alloc B) C
    rw [World.size_alloc, World.size_alloc] at h2
    exact h2
theorem bcell {W w1 : World} (hb : Below W.heap.size W w1) : (∀ b o, b < W.heap.size → w1.cell? ⟨b, o, none⟩ = W.cell? ⟨b, o, none⟩) ∧ (∀ b o, b < W.heap.size → w1.frozen? ⟨b, o, none⟩ = W.frozen? ⟨b, o, none⟩) :=
  ⟨fun b o h => hb.cell (p := ⟨b, o, none⟩) h, fun b o h => hb.frozen (p := ⟨b, o, none⟩) h⟩

set_option maxHeartbeats 2000000 in
theorem to_one (x0 : Int) (x1 : Int) (x2 : Int) (x3 : Int) (x4 : Int) (w : World) : Calls Tryd.prog 6 #[.agg #[.int .i64 x0, .int .i64 x1, .int .i64 x2, .int .i64 x3, .int .i64 x4]] w fun e w' => e = .returned (.agg #[.int .i64 x0, .int .i64 x1, .int .i64 x2, .int .i64 x3, .int .i64 x4]) ∧ Below w.heap.size w w' := by
  go_enter Tryd.func6, Tryd.ntmps6
  go_wp2_with fail
  refine (FlatPermit.to_one x3 x4 _).mono ?_
  rintro e w1 ⟨rfl, hb1⟩
  have E1 : Hid (w1.heap[w.heap.size]? = some (.cells #[.int .i64 x0, .int .i64 x1, .int .i64 x2, .int .i64 x3, .int .i64 x4] 25 (0, 0)) ∧ w1.heap[w.heap.size + 1]? = some (.cells #[.int .i64 0, .int .i64 0, .int .i64 0, .int .i64 0, .int .i64 0] 29 (0, 0)) ∧ w1.heap[w.heap.size + 1 + 1]? = some (.cells #[.int .i64 x0, .int .i64 x1, .int .i64 x2, .int .i64 0, .int .i64 0] 29 (0, 0)) ∧ Below w.heap.size w w1 ∧ w.heap.size + 1 + 1 < w1.heap.size) := three hb1
  clear hb1
  have c0 := cellB E1.out.2.2.1 0
  have f0 := fzB E1.out.2.2.1 0
  have c1 := cellB E1.out.2.2.1 1
  have f1 := fzB E1.out.2.2.1 1
  have c2 := cellB E1.out.2.2.1 2
  have f2 := fzB E1.out.2.2.1 2
  have c3 := cellB E1.out.2.2.1 3
  have f3 := fzB E1.out.2.2.1 3
  have c4 := cellB E1.out.2.2.1 4
  have f4 := fzB E1.out.2.2.1 4
  have a0 := cellB E1.out.1 0
  have a1 := cellB E1.out.1 1
  have a2 := cellB E1.out.1 2
  have a3 := cellB E1.out.1 3
  have a4 := cellB E1.out.1 4
  go_upto_region 6 with fail
  have F1 : Hid (((w1.setCell ⟨w.heap.size + 1 + 1, 3, none⟩ (.int .i64 x3)).setCell ⟨w.heap.size + 1 + 1, 4, none⟩ (.int .i64 x4)).heap[w.heap.size]? = some (.cells #[.int .i64 x0, .int .i64 x1, .int .i64 x2, .int .i64 x3, .int .i64 x4] 25 (0, 0)) ∧ ((w1.setCell ⟨w.heap.size + 1 + 1, 3, none⟩ (.int .i64 x3)).setCell ⟨w.heap.size + 1 + 1, 4, none⟩ (.int .i64 x4)).heap[w.heap.size + 1]? = some (.cells #[.int .i64 0, .int .i64 0, .int .i64 0, .int .i64 0, .int .i64 0] 29 (0, 0)) ∧ ((w1.setCell ⟨w.heap.size + 1 + 1, 3, none⟩ (.int .i64 x3)).setCell ⟨w.heap.size + 1 + 1, 4, none⟩ (.int .i64 x4)).heap[w.heap.size + 1 + 1]? = some (.cells #[.int .i64 x0, .int .i64 x1, .int .i64 x2, .int .i64 x3, .int .i64 x4] 29 (0, 0)) ∧ Below w.heap.size w ((w1.setCell ⟨w.heap.size + 1 + 1, 3, none⟩ (.int .i64 x3)).setCell ⟨w.heap.size + 1 + 1, 4, none⟩ (.int .i64 x4)) ∧ w.heap.size + 1 + 1 < ((w1.setCell ⟨w.heap.size + 1 + 1, 3, none⟩ (.int .i64 x3)).setCell ⟨w.heap.size + 1 + 1, 4, none⟩ (.int .i64 x4)).heap.size) := by
    refine ⟨?_, ?_, set_at (set_at (E1.out.2.2.1) 3 (.int .i64 x3)) 4 (.int .i64 x4), ((E1.out.2.2.2.1).setCell (Nat.le_add_right _ 2) _).setCell (Nat.le_add_right _ 2) _, ?_⟩
    · exact (Below.heap_setCell _ ⟨w.heap.size + 1 + 1, 4, none⟩ _ _ (by show w.heap.size ≠ w.heap.size + 1 + 1; omega)).trans <| (Below.heap_setCell _ ⟨w.heap.size + 1 + 1, 3, none⟩ _ _ (by show w.heap.size ≠ w.heap.size + 1 + 1; omega)).trans <| E1.out.1
    · exact (Below.heap_setCell _ ⟨w.heap.size + 1 + 1, 4, none⟩ _ _ (by show w.heap.size + 1 ≠ w.heap.size + 1 + 1; omega)).trans <| (Below.heap_setCell _ ⟨w.heap.size + 1 + 1, 3, none⟩ _ _ (by show w.heap.size + 1 ≠ w.heap.size + 1 + 1; omega)).trans <| E1.out.2.1
    · have h9 := E1.out.2.2.2.2
      simpa using h9
  generalize ((w1.setCell ⟨w.heap.size + 1 + 1, 3, none⟩ (.int .i64 x3)).setCell ⟨w.heap.size + 1 + 1, 4, none⟩ (.int .i64 x4)) = v1 at *
  clear E1 c0 f0 a0 c1 f1 a1 c2 f2 a2 c3 f3 a3 c4 f4 a4
  have c0 := cellB F1.out.2.2.1 0
  have f0 := fzB F1.out.2.2.1 0
  have d0 := cellB F1.out.2.1 0
  have g0 := fzB F1.out.2.1 0
  have c1 := cellB F1.out.2.2.1 1
  have f1 := fzB F1.out.2.2.1 1
  have d1 := cellB F1.out.2.1 1
  have g1 := fzB F1.out.2.1 1
  have c2 := cellB F1.out.2.2.1 2
  have f2 := fzB F1.out.2.2.1 2
  have d2 := cellB F1.out.2.1 2
  have g2 := fzB F1.out.2.1 2
  have c3 := cellB F1.out.2.2.1 3
  have f3 := fzB F1.out.2.2.1 3
  have d3 := cellB F1.out.2.1 3
  have g3 := fzB F1.out.2.1 3
  have c4 := cellB F1.out.2.2.1 4
  have f4 := fzB F1.out.2.2.1 4
  have d4 := cellB F1.out.2.1 4
  have g4 := fzB F1.out.2.1 4
  have a0 := cellB F1.out.1 0
  have a1 := cellB F1.out.1 1
  have a2 := cellB F1.out.1 2
  have a3 := cellB F1.out.1 3
  have a4 := cellB F1.out.1 4
  go_wp2
  exact bodyPost_ret (v := .agg #[.int .i64 x0, .int .i64 x1, .int .i64 x2, .int .i64 x3, .int .i64 x4]) (by simp [results, Tryd.results6, go_sem, d0, d1, d2, d3, d4]) rfl ⟨rfl, (((((F1.out.2.2.2.1).setCell (Nat.le_add_right _ 1) _).setCell (Nat.le_add_right _ 1) _).setCell (Nat.le_add_right _ 1) _).setCell (Nat.le_add_right _ 1) _).setCell (Nat.le_add_right _ 1) _⟩
end Go.Proofs.YtcpekobacoijdaaDoor.FlatOut
