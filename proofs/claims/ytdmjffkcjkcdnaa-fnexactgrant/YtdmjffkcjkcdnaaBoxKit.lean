/- Boxes of variables that are made one behind the other, and what a mark leaves of memory; no condition but those written in each. -/
import Derived.Test.YtdmjffkcjkcdnaaRows
import Derived.Test.YtdmjffkcjkcdnaaListKit
import Derived.Test.YtdmjffkcjkcdnaaSlotKit
import Derived.Test.YtdmjffkcjkcdnaaSlotRows
import Derived.Test.YtdmjffkcjkcdnaaOpenKit
import Derived.Test.YtdmjffkcjkcdnaaLedBox
import Derived.WalkKit
import Derived.WalkSmall
namespace Go.Proofs.Ytdmjffkcjkcdnaa.BoxKit
open Go.RowKit ListKit SlotKit LedBox

theorem n1 (w : World) (o : Obj) : Below w.heap.size w (w.alloc o) := (Below.refl _ _).alloc (Nat.le_refl _) _
theorem n2 (w : World) (o p : Obj) : Below w.heap.size w ((w.alloc o).alloc p) := (n1 w o).alloc (by simp) _
theorem n3 (w : World) (o p q : Obj) : Below w.heap.size w (((w.alloc o).alloc p).alloc q) := (n2 w o p).alloc (by simp; omega) _
theorem new2 (w : World) (o : Obj) (cs : Array Value) (t : TypeId) : boxB ((w.alloc o).alloc (.cells cs t)) (w.heap.size + 1) cs t := by
  have h := boxB.new (w.alloc o) cs t
  rw [World.size_alloc] at h
  exact h
theorem new3 (w : World) (o p : Obj) (cs : Array Value) (t : TypeId) : boxB (((w.alloc o).alloc p).alloc (.cells cs t)) (w.heap.size + 1 + 1) cs t := by
  have h := boxB.new ((w.alloc o).alloc p) cs t
  rw [World.size_alloc, World.size_alloc] at h
  exact h
theorem sz1 (w : World) (o : Obj) : (w.alloc o).heap.size = w.heap.size + 1 := World.size_alloc _ _
theorem sz2 (w : World) (o p : Obj) : ((w.alloc o).alloc p).heap.size = w.heap.size + 1 + 1 := by rw [World.size_alloc, World.size_alloc]
theorem sz3 (w : World) (o p q : Obj) : (((w.alloc o).alloc p).alloc q).heap.size = w.heap.size + 1 + 1 + 1 := by rw [World.size_alloc, World.size_alloc, World.size_alloc]
/-- All that W holds lies as it lay. -/
def Bel (W w : World) : Prop := Below W.heap.size W w
theorem Bel.start (W : World) : Bel W W := Below.refl _ _
theorem Bel.below {W w w' : World} (h : Bel W w) (hb : Below w.heap.size w w') : Bel W w' := Below.trans h (hb.mono (Below.size h))
theorem Bel.grown {W w w' : World} {r : Option Nat} (h : Bel W w) (hg : w.grownBy w' r) (hr : ∀ k, r = some k → W.heap.size ≤ k) : Bel W w' := Below.grown h hg (Below.size h) hr
theorem Bel.size {W w : World} (h : Bel W w) : W.heap.size ≤ w.heap.size := Below.size h
theorem Bel.out {W w : World} (h : Bel W w) : Below W.heap.size W w := h
theorem Bel.arg {W w : World} {a : Option Addr} {L : List Slot} (h : Bel W w) (ha : SlotRows.Arg W a L) : SlotRows.Arg w a L := ha.below h
end Go.Proofs.Ytdmjffkcjkcdnaa.BoxKit
