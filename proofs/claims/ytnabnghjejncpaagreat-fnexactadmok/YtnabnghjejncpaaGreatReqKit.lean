/- The struct Req, as the model has its cells. -/
import Derived.Test.YtnabnghjejncpaaGreatRows
import Derived.WalkKit
namespace Go.Proofs.YtnabnghjejncpaaGreat.ReqKit
open Go.RowKit

structure Req where
  x0 : Int
  x1 : Int
  x2 : Int
  x3 : Int
  x4 : Int
  x5 : Int

def cells (s : Req) : List Value := [.int .i64 s.x0, .int .i64 s.x1, .int .i64 s.x2, .int .i64 s.x3, .int .i64 s.x4, .int .i64 s.x5]
def zero : Req := ⟨0, 0, 0, 0, 0, 0⟩
theorem cells_len (s : Req) : (cells s).length = 6 := rfl
end Go.Proofs.YtnabnghjejncpaaGreat.ReqKit
