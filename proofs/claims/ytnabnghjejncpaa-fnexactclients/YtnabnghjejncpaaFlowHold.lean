/- What stores of whole variables leave of memory, for regions that draw their order; no condition but those written in each. -/
import Derived.Test.YtnabnghjejncpaaRows
import Derived.Test.YtnabnghjejncpaaListKit
import Derived.Test.YtnabnghjejncpaaHoldKit
import Derived.WalkKit
import Derived.WalkSmall
namespace Go.Proofs.Ytnabnghjejncpaa.FlowHold
open Go.RowKit ListKit HoldKit

/-- The world with a variable stored, where that has come up. -/
def Stored (b : Bool) (w : World) (n : Nat) (vs : List Value) : World := if b then sets w n 0 vs else w
theorem stored_no {b : Bool} {w : World} {n : Nat} {vs : List Value} (h : b = false) : Stored b w n vs = w := by subst h; rfl
theorem stored_yes {b : Bool} {w : World} {n : Nat} {vs : List Value} (h : b = true) : Stored b w n vs = sets w n 0 vs := by subst h; rfl

theorem sets_size (vs : List Value) : ∀ (w : World) (n p : Nat), (sets w n p vs).heap.size = w.heap.size := by
  induction vs with
  | nil => intro w n p; rfl
  | cons v vs ih => intro w n p; exact (ih _ _ _).trans (by simp)
theorem box_else {w : World} {N n p : Nat} {cs : Array Value} {t : TypeId} (h : boxB w N cs t) (hne : N ≠ n) (vs : List Value) : boxB (sets w n p vs) N cs t := (sets_else hne vs w p).trans h
theorem box_stored {w : World} {N : Nat} {cs cs' : Array Value} {t : TypeId} (h : boxB w N cs t) (vs : List Value) (he : arrSets cs 0 vs = cs') : boxB (sets w N 0 vs) N cs' t := by subst he; exact sets_at vs w 0 cs h
theorem hold_else {w : World} {lo n p : Nat} {l : List It} (h : Holds w lo l) (hne : Off n l) (vs : List Value) : Holds (sets w n p vs) lo l := by
  refine ⟨fun i hi => ⟨?_, (h.1 i hi).2⟩, h.2⟩
  rcases (h.1 i hi).1 with h1 | ⟨g, o, ha, hr⟩
  · exact Or.inl h1
  · cases hv : i.vs with
    | nil => exact Or.inl hv
    | cons q L =>
      have hb : i.blk = some g := by unfold It.blk; rw [hv, ha]; rfl
      exact Or.inr ⟨g, o, ha, hr.same (sets_else (fun e => hne i hi (by rw [← e]; exact hb)) vs w p)⟩
theorem bel_sets {W w : World} {n p : Nat} (h : Below W.heap.size W w) (hn : W.heap.size ≤ n) (vs : List Value) : Below W.heap.size W (sets w n p vs) := sets_below hn vs w p h
theorem no_way {b : Bool} {p : Prop} (h : b = false) (h' : b = true) : p := by rw [h] at h'; cases h'
end Go.Proofs.Ytnabnghjejncpaa.FlowHold
