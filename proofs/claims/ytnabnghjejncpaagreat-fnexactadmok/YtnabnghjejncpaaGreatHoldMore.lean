/- Lists that lie in memory of their own, a part of them taken at once, whatever the types; no condition but those written in each. -/
import Derived.Test.YtnabnghjejncpaaGreatRows
import Derived.Test.YtnabnghjejncpaaGreatListKit
import Derived.Test.YtnabnghjejncpaaGreatHoldKit
import Derived.WalkKit
import Derived.WalkSmall
namespace Go.Proofs.YtnabnghjejncpaaGreat.HoldMore
open Go.RowKit ListKit HoldKit

/-- While a law's helper looks at marks: its variable, the lists. -/
structure Hd (w wd : World) (ca : Array Value) (ta : TypeId) (lo : Nat) (l : List It) : Prop where
  a : boxB wd w.heap.size ca ta
  holds : Holds wd lo l
  bel : Below w.heap.size w wd
theorem Hd.start {w : World} {lo : Nat} {l : List It} (h : Holds w lo l) (ca : Array Value) (ta : TypeId) : Hd w (w.alloc (.cells ca ta)) ca ta lo l := ⟨boxB.new _ _ _, h.below (n1 _ _), n1 _ _⟩
theorem Hd.next {w wd wn : World} {ca : Array Value} {ta : TypeId} {lo : Nat} {l : List It} (h : Hd w wd ca ta lo l) (hb : Below wd.heap.size wd wn) : Hd w wn ca ta lo l := ⟨h.a.below hb, h.holds.below hb, h.bel.trans (hb.mono h.bel.size)⟩
/-- While a law's helper measures: its variable. -/
structure Sz (w wd : World) (ca : Array Value) (ta : TypeId) : Prop where
  a : boxB wd w.heap.size ca ta
  bel : Below w.heap.size w wd
theorem Sz.start (w : World) (ca : Array Value) (ta : TypeId) : Sz w (w.alloc (.cells ca ta)) ca ta := ⟨boxB.new _ _ _, n1 _ _⟩
theorem Sz.next {w wd wn : World} {ca : Array Value} {ta : TypeId} (h : Sz w wd ca ta) (hb : Below wd.heap.size wd wn) : Sz w wn ca ta := ⟨h.a.below hb, h.bel.trans (hb.mono h.bel.size)⟩
end Go.Proofs.YtnabnghjejncpaaGreat.HoldMore
