/- Lists that lie in memory of their own, a part of them taken at once, whatever the types; no condition but those written in each. -/
import Derived.Test.YtnabnghjejncpaaRows
import Derived.Test.YtnabnghjejncpaaListKit
import Derived.Test.YtnabnghjejncpaaHoldKit
import Derived.WalkKit
import Derived.WalkSmall
namespace Go.Proofs.Ytnabnghjejncpaa.HoldMore
open Go.RowKit ListKit HoldKit

theorem ret_intL {k : IntKind} {a b : Int} (h : a = b) : Ending.returned (.int k a) = .returned (.int k b) := by rw [h]
theorem Holds.mid {w : World} {lo : Nat} {l1 ms l2 : List It} (h : Holds w lo (l1 ++ (ms ++ l2))) : Holds w lo ms := (Holds.right h).left
theorem segC {i i' : It} {r r' : List It} (h : i'.blk = i.blk) (hr : r'.map It.blk = r.map It.blk) : (i' :: r').map It.blk = (i :: r).map It.blk := by rw [List.map_cons, List.map_cons, h, hr]
theorem pair_blk {l l' : List It} (h : l'.map It.blk = l.map It.blk) (hp : l.Pairwise fun i j => ∀ b, i.blk = some b → j.blk ≠ some b) : l'.Pairwise fun i j => ∀ b, i.blk = some b → j.blk ≠ some b := by
  have h1 : (l.map It.blk).Pairwise fun x y => ∀ b, x = some b → y ≠ some b := List.pairwise_map.2 hp
  rw [← h] at h1
  exact List.pairwise_map.1 h1
/-- A part of the lists is marked. -/
theorem Holds.markSeg {w w' : World} {lo : Nat} {l1 ms ms' l2 : List It} (h : Holds w lo (l1 ++ (ms ++ l2))) (hm : Holds w' lo ms') (hb : ms'.map It.blk = ms.map It.blk) (ht : Turn ms w w') : Holds w' lo (l1 ++ (ms' ++ l2)) := by
  have p1 := Holds.parts h
  have p2 := Holds.parts (Holds.right h)
  have a1 : Holds w' lo l1 := (Holds.left h).turn ht (fun i hi j hj b hib hjb => p1 j hj i (List.mem_append.2 (Or.inl hi)) b hjb hib)
  have a2 : Holds w' lo l2 := (Holds.right (Holds.right h)).turn ht p2
  refine ⟨fun i hi => ?_, pair_blk (by simp [hb]) h.2⟩
  rcases List.mem_append.1 hi with hi | hi
  · exact a1.1 i hi
  · rcases List.mem_append.1 hi with hi | hi
    · exact hm.1 i hi
    · exact a2.1 i hi
theorem Mk.seg {w wd wn : World} {ca : Array Value} {ta : TypeId} {lo : Nat} {l1 ms ms' l2 l0 : List It} (h : Mk w wd ca ta lo (l1 ++ (ms ++ l2)) l0) (hh : Holds wn lo ms') (hb : ms'.map It.blk = ms.map It.blk) (ht : Turn ms wd wn) (hm : ∀ i ∈ ms, i ∈ l0) (hoff : Off w.heap.size l0) : Mk w wn ca ta lo (l1 ++ (ms' ++ l2)) l0 :=
  ⟨h.a.turn ht (fun j hj => hoff j (hm j hj)), Holds.markSeg h.holds hh hb ht, h.turn.trans (ht.wide hm)⟩
/-- While a law's helper looks at marks: its variable, the lists. -/
structure Hd (w wd : World) (ca : Array Value) (ta : TypeId) (lo : Nat) (l : List It) : Prop where
  a : boxB wd w.heap.size ca ta
  holds : Holds wd lo l
  bel : Below w.heap.size w wd
theorem Hd.start {w : World} {lo : Nat} {l : List It} (h : Holds w lo l) (ca : Array Value) (ta : TypeId) : Hd w (w.alloc (.cells ca ta)) ca ta lo l := ⟨boxB.new _ _ _, h.below (n1 _ _), n1 _ _⟩
theorem Hd.next {w wd wn : World} {ca : Array Value} {ta : TypeId} {lo : Nat} {l : List It} (h : Hd w wd ca ta lo l) (hb : Below wd.heap.size wd wn) : Hd w wn ca ta lo l := ⟨h.a.below hb, h.holds.below hb, h.bel.trans (hb.mono h.bel.size)⟩
/-- While a law's helper measures: its variable. -/
structure Sz (w wd : World) (ca : Array Value) (ta : TypeId) : Prop where
  a : boxB wd w.heap.size ca ta
  bel : Below w.heap.size w wd
theorem Sz.start (w : World) (ca : Array Value) (ta : TypeId) : Sz w (w.alloc (.cells ca ta)) ca ta := ⟨boxB.new _ _ _, n1 _ _⟩
theorem Sz.next {w wd wn : World} {ca : Array Value} {ta : TypeId} (h : Sz w wd ca ta) (hb : Below wd.heap.size wd wn) : Sz w wn ca ta := ⟨h.a.below hb, h.bel.trans (hb.mono h.bel.size)⟩
end Go.Proofs.Ytnabnghjejncpaa.HoldMore
