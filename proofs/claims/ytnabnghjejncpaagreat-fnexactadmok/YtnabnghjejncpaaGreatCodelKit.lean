/- The struct Codel, as the model has its cells. -/
import Derived.Test.YtnabnghjejncpaaGreatRows
import Derived.WalkKit
namespace Go.Proofs.YtnabnghjejncpaaGreat.CodelKit
open Go.RowKit

structure Codel where
  x0 : Int
  x1 : Int
  x2 : Int
  x3 : Bool
  x4 : Int
  x5 : Int

def cells (s : Codel) : List Value := [.int .i64 s.x0, .int .i64 s.x1, .int .i64 s.x2, .bool s.x3, .int .i64 s.x4, .int .i64 s.x5]
def zero : Codel := ⟨0, 0, 0, false, 0, 0⟩
theorem cells_len (s : Codel) : (cells s).length = 6 := rfl
end Go.Proofs.YtnabnghjejncpaaGreat.CodelKit
