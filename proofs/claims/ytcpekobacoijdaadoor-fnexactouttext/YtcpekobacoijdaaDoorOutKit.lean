/- The struct Out, as the model has its cells. -/
import Derived.Test.YtcpekobacoijdaaDoorRows
import Derived.WalkKit
namespace Go.Proofs.YtcpekobacoijdaaDoor.OutKit
open Go.RowKit

structure Out where
  x0 : Int
  x1 : Int
  x2 : Int
  x3 : Int
  x4 : Int

def cells (s : Out) : List Value := [.int .i64 s.x0, .int .i64 s.x1, .int .i64 s.x2, .int .i64 s.x3, .int .i64 s.x4]
def zero : Out := ⟨0, 0, 0, 0, 0⟩
theorem cells_len (s : Out) : (cells s).length = 5 := rfl
end Go.Proofs.YtcpekobacoijdaaDoor.OutKit
