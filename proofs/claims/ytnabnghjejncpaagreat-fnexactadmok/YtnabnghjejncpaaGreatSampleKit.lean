/- The struct Sample, as the model has its cells. -/
import Derived.Test.YtnabnghjejncpaaGreatRows
import Derived.WalkKit
namespace Go.Proofs.YtnabnghjejncpaaGreat.SampleKit
open Go.RowKit

structure Sample where
  x0 : Int
  x1 : Int

def cells (s : Sample) : List Value := [.int .i64 s.x0, .int .i64 s.x1]
def zero : Sample := ⟨0, 0⟩
theorem cells_len (s : Sample) : (cells s).length = 2 := rfl
end Go.Proofs.YtnabnghjejncpaaGreat.SampleKit
