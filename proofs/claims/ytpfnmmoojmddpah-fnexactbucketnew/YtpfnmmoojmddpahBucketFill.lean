/- What the model's Fill answers at every bucket and time; nothing else turns. -/
import Derived.Test.YtpfnmmoojmddpahRows
import Derived.WalkKit
import Derived.WalkSmall
import Derived.BigQuiet
import Derived.Test.YtpfnmmoojmddpahBucketMath
import Derived.Test.YtpfnmmoojmddpahBucketWalks
namespace Go.Proofs.Ytpfnmmoojmddpah.BucketFill
open Go.RowKit BucketMath BucketWalks

theorem cell_blk {w : World} {g : Nat} {cur : Array Value} {t : TypeId} (h : w.heap[g]? = some (.cells cur t (0, 0))) (i : Nat) : w.cell? ⟨g, i, none⟩ = cur[i]? := by simp [World.cell?, h]
theorem fz_blk {w : World} {g : Nat} {cur : Array Value} {t : TypeId} (h : w.heap[g]? = some (.cells cur t (0, 0))) (i : Nat) : w.frozen? ⟨g, i, none⟩ = false := by simp [World.frozen?, h]

/-- Two boxes laid one behind the other, behind a call that turns nothing below. -/
theorem two4 {w w1 : World} {A B : Array Value} {s u : TypeId} (hb : Below ((w.alloc (.cells A s)).alloc (.cells B u)).heap.size ((w.alloc (.cells A s)).alloc (.cells B u)) w1) :
    w1.heap[w.heap.size]? = some (.cells A s (0, 0)) ∧ w1.heap[w.heap.size + 1]? = some (.cells B u (0, 0)) ∧ w.heap.size + 2 ≤ w1.heap.size := by
  have hs := hb.size
  simp at hs
  refine ⟨?_, ?_, by omega⟩
  · rw [hb.block _ (by simp; omega), Below.heap_alloc _ _ _ (by simp)]
    exact heap_alloc_new w _
  · rw [hb.block _ (by simp)]
    have := heap_alloc_new (w.alloc (.cells A s)) (.cells B u)
    simpa using this

theorem le1 (w : World) : w.heap.size ≤ w.heap.size + 1 := Nat.le_succ _

theorem flag (p : Prop) : ∃ B : Bool, Hid (B = true ↔ p) := by
  by_cases h : p
  · exact ⟨true, ⟨fun _ => h, fun _ => rfl⟩⟩
  · exact ⟨false, ⟨fun e => by simp at e, fun e => absurd e h⟩⟩

end Go.Proofs.Ytpfnmmoojmddpah.BucketFill
