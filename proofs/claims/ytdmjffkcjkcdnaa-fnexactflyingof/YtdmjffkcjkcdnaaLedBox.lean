/- What the laws on structs lean on: a variable's box, whole, behind calls and marks; the argument as it came; no condition but those written in each. -/
import Derived.Test.YtdmjffkcjkcdnaaRows
import Derived.Test.YtdmjffkcjkcdnaaListKit
import Derived.Test.YtdmjffkcjkcdnaaSlotKit
import Derived.Test.YtdmjffkcjkcdnaaSlotRows
import Derived.Test.YtdmjffkcjkcdnaaOpenKit
import Derived.WalkKit
import Derived.WalkSmall
namespace Go.Proofs.Ytdmjffkcjkcdnaa.LedBox
open Go.RowKit ListKit SlotKit OpenKit

/-- A variable of these cells at N. -/
def boxB (w : World) (N : Nat) (cs : Array Value) (t : TypeId) : Prop := w.heap[N]? = some (.cells cs t (0, 0))

theorem boxB.lt {w : World} {N : Nat} {cs : Array Value} {t : TypeId} (h : boxB w N cs t) : N < w.heap.size := (Array.getElem?_eq_some_iff.1 h).1
theorem boxB.below {w w' : World} {N : Nat} {cs : Array Value} {t : TypeId} (h : boxB w N cs t) (hb : Below w.heap.size w w') : boxB w' N cs t := (hb.block N h.lt).trans h
theorem boxB.new (w : World) (cs : Array Value) (t : TypeId) : boxB (w.alloc (.cells cs t)) w.heap.size cs t := heap_alloc_new w _
theorem boxB.grown {w w' : World} {N : Nat} {cs : Array Value} {t : TypeId} {r : Option Nat} (h : boxB w N cs t) (hg : w.grownBy w' r) (hne : some N ≠ r) : boxB w' N cs t := (hg.block N h.lt hne).trans h
theorem boxB.cell {w : World} {N : Nat} {cs : Array Value} {t : TypeId} (h : boxB w N cs t) (i : Nat) : w.cell? ⟨N, i, none⟩ = cs[i]? := cellB h i

theorem arg_of {w : World} {a : Option Addr} {L : List Slot} (h : LArg 5 cells w a L) : SlotRows.Arg w a L := by
  rcases h with h | ⟨b, o, ha, hr⟩
  · exact Or.inl h
  · exact Or.inr ⟨b, o, ha, fun i hi j hj => hr i hi j hj⟩

/-- Where a law stands: the box of its argument, the argument as it came, nothing else turned. -/
def StB (W w : World) (cs : Array Value) (t : TypeId) (a : Option Addr) (L : List Slot) : Prop := boxB w W.heap.size cs t ∧ Below W.heap.size W w ∧ SlotRows.Arg W a L

theorem StB.start {W : World} {cs : Array Value} {t : TypeId} {a : Option Addr} {L : List Slot} (h : SlotRows.Arg W a L) : StB W (W.alloc (.cells cs t)) cs t a L := ⟨boxB.new _ _ _, (Below.refl _ _).alloc (Nat.le_refl _) _, h⟩
theorem StB.next {W w w' : World} {cs : Array Value} {t : TypeId} {a : Option Addr} {L : List Slot} (h : StB W w cs t a L) (hb : Below w.heap.size w w') : StB W w' cs t a L := ⟨h.1.below hb, h.2.1.trans (hb.mono h.2.1.size), h.2.2⟩
theorem StB.drew {W w : World} {cs : Array Value} {t : TypeId} {a : Option Addr} {L : List Slot} (h : StB W w cs t a L) : StB W w.drew cs t a L := ⟨h.1, h.2.1.drew, h.2.2⟩
theorem StB.arg {W w : World} {cs : Array Value} {t : TypeId} {a : Option Addr} {L : List Slot} (h : StB W w cs t a L) : SlotRows.Arg w a L := h.2.2.below h.2.1
theorem StB.grow {W w w' : World} {cs : Array Value} {t : TypeId} {a : Option Addr} {L : List Slot} {r : Option Nat} (h : StB W w cs t a L) (hg : w.grownBy w' r) (hr : ∀ k, r = some k → W.heap.size < k) : StB W w' cs t a L :=
  ⟨h.1.grown hg (fun e => by have := hr _ e.symm; omega), h.2.1.grown hg h.2.1.size (fun k hk => by have := hr k hk; omega), h.2.2⟩
end Go.Proofs.Ytdmjffkcjkcdnaa.LedBox
