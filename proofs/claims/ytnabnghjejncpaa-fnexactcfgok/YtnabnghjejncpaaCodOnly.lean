/- All memory but one block lies as it lay; no condition but those written in each. -/
import Derived.Test.YtnabnghjejncpaaRows
import Derived.WalkKit
import Derived.WalkSmall
import Derived.Test.YtnabnghjejncpaaListKit
import Derived.Test.YtnabnghjejncpaaHoldKit
namespace Go.Proofs.Ytnabnghjejncpaa.CodOnly
open Go.RowKit ListKit HoldKit

/-- All that w holds lies so in w' too, but for block N. -/
structure Only (N : Nat) (w w' : World) : Prop where
  os : w'.os = w.os
  tape : w'.tape = w.tape
  output : w'.output = w.output
  size : w.heap.size ≤ w'.heap.size
  block : ∀ b, b < w.heap.size → b ≠ N → w'.heap[b]? = w.heap[b]?
theorem Only.refl (N : Nat) (w : World) : Only N w w := ⟨rfl, rfl, rfl, Nat.le_refl _, fun _ _ _ => rfl⟩
theorem Only.trans {N : Nat} {a b c : World} (h : Only N a b) (k : Only N b c) : Only N a c :=
  ⟨k.os.trans h.os, k.tape.trans h.tape, k.output.trans h.output, Nat.le_trans h.size k.size, fun i hi hn => (k.block i (Nat.lt_of_lt_of_le hi h.size) hn).trans (h.block i hi hn)⟩
theorem Only.of_below {N : Nat} {w w' : World} (h : Below w.heap.size w w') : Only N w w' := ⟨h.os, h.tape, h.output, h.size, fun b hb _ => h.block b hb⟩
theorem Only.set {N : Nat} {a w : World} (h : Only N a w) (i : Nat) (v : Value) : Only N a (w.setCell ⟨N, i, none⟩ v) := by
  have h0 := (Below.refl 0 w).setCell (p := ⟨N, i, none⟩) (Nat.zero_le _) v
  exact h.trans ⟨h0.os, h0.tape, h0.output, h0.size, fun b _ hn => Below.heap_setCell w ⟨N, i, none⟩ v b hn⟩
theorem Only.drew {N : Nat} {a w : World} (h : Only N a w) : Only N a w.drew := h.trans ⟨rfl, rfl, rfl, Nat.le_refl _, fun _ _ _ => rfl⟩
theorem Only.alloc {N : Nat} {a w : World} (h : Only N a w) (o : Obj) : Only N a (w.alloc o) := h.trans (Only.of_below (n1 w o))
theorem Only.below {N L : Nat} {a w w' : World} (h : Below L a w) (ho : Only N w w') (hL : L ≤ N) (hs : L ≤ w.heap.size) : Below L a w' :=
  ⟨ho.os.trans h.os, ho.tape.trans h.tape, ho.output.trans h.output, Nat.le_trans h.size ho.size, fun b hb => (ho.block b (by omega) (by omega)).trans (h.block b hb)⟩
/-- What turns block N alone turns nothing, where N is new. -/
theorem Only.bel {N : Nat} {W w w' : World} (h : Bel W w) (ho : Only N w w') (hN : W.heap.size ≤ N) : Bel W w' := Only.below h ho hN h.size
theorem Only.wide {N M : Nat} {a w w' : World} (h : Only N a w) (ho : Only M w w') (hM : a.heap.size ≤ M) : Only N a w' :=
  ⟨ho.os.trans h.os, ho.tape.trans h.tape, ho.output.trans h.output, Nat.le_trans h.size ho.size, fun b hb hn => (ho.block b (Nat.lt_of_lt_of_le hb h.size) (by omega)).trans (h.block b hb hn)⟩
end Go.Proofs.Ytnabnghjejncpaa.CodOnly
