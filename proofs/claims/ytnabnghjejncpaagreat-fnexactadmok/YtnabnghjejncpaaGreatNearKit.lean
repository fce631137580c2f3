/- Regions whose order is drawn and whose callees make new memory but turn none that was there: one walk, in the order of the text, serves every order. Over the library's law on classes of worlds; no condition but those written in each. -/
import Derived.Test.YtnabnghjejncpaaGreatRows
import Derived.WalkKit
import Derived.WalkSmall
import Derived.BigQuiet
namespace Go.Proofs.YtnabnghjejncpaaGreat.NearKit
open Go.RowKit

/-- A world that holds all that W holds, as it was. -/
structure Near (W : World) where
  w : World
  near : Below W.heap.size W w

theorem Near.is (W : World) : Nonempty (Near W) := ⟨⟨W, Below.refl _ _⟩⟩

theorem Near.cell {W : World} {p : Addr} {v : Value} (h : W.cell? p = some v) : ∀ y : Near W, y.w.cell? p = some v := fun y => (y.near.cell (World.block_lt_of_cell? W p h)).trans h

theorem wp_region_near {P : Program} {id : Nat} {Q : Exit → Act → World → Prop} {a : Act} {W : World} {l : List Oper} (hm : P.follows .mixedOrders = true) (hB : Region.lexB .any l.toArray = true)
    (h : wpQuiet P l.toArray (fun w' => ∃ y : Near W, w' = y.w) (fun a' => ∀ w', (∃ y : Near W, w' = y.w) → Q .normal a' w') l a) : (Code.region id l.toArray true).wp P Q a W :=
  wp_region_quiet (C := fun w' => ∃ y : Near W, w' = y.w) hm hB ⟨⟨W.drew, (Below.refl _ _).drew⟩, rfl⟩ (by simpa using h)

theorem near_call {P : Program} {f : FuncId} {args : Array Value} {W : World} {y : Near W} {v : Value} (h : Calls P f args y.w fun e w' => e = .returned v ∧ Below y.w.heap.size y.w w') : Calls P f args y.w fun e w'' => e = .returned v ∧ ∃ z : Near W, w'' = z.w :=
  h.mono fun _ w' ⟨he, hb⟩ => ⟨he, ⟨w', y.near.trans (hb.mono y.near.size)⟩, rfl⟩

end Go.Proofs.YtnabnghjejncpaaGreat.NearKit
