/- The struct Slot, as the model has its cells. -/
import Derived.Test.YtnabnghjejncpaaGreatRows
import Derived.WalkKit
namespace Go.Proofs.YtnabnghjejncpaaGreat.SlotKit
open Go.RowKit

structure Slot where
  x0 : Int
  x1 : Bool
  x2 : Int
  x3 : Int
  x4 : Int

def cells (s : Slot) : List Value := [.int .i64 s.x0, .bool s.x1, .int .i64 s.x2, .int .i64 s.x3, .int .i64 s.x4]
def zero : Slot := ⟨0, false, 0, 0, 0⟩
theorem cells_len (s : Slot) : (cells s).length = 5 := rfl
end Go.Proofs.YtnabnghjejncpaaGreat.SlotKit
