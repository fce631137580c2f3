/- Regions whose order is drawn and whose callees make new memory but turn none that was there: one walk, in the order of the text, serves every order. Over the library's law on classes of worlds; no condition but those written in each. -/
import Derived.Test.YtnabnghjejncpaaRows
import Derived.WalkKit
import Derived.WalkSmall
import Derived.BigQuiet
namespace Go.Proofs.Ytnabnghjejncpaa.NearKit
open Go.RowKit

/-- A world that holds all that W holds, as it was. -/
structure Near (W : World) where
  w : World
  near : Below W.heap.size W w

theorem Near.is (W : World) : Nonempty (Near W) := ⟨⟨W, Below.refl _ _⟩⟩

theorem Near.cell {W : World} {p : Addr} {v : Value} (h : W.cell? p = some v) : ∀ y : Near W, y.w.cell? p = some v := fun y => (y.near.cell (World.block_lt_of_cell? W p h)).trans h

end Go.Proofs.Ytnabnghjejncpaa.NearKit
