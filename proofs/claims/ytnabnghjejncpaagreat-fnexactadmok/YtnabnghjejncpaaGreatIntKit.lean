/- Ints in a list, as the model has their cells. -/
import Derived.Test.YtnabnghjejncpaaGreatRows
import Derived.WalkKit
namespace Go.Proofs.YtnabnghjejncpaaGreat.IntKit
open Go.RowKit

def cells (n : Int) : List Value := [.int .i64 n]
def zero : Int := 0
theorem cells_len (s : Int) : (cells s).length = 1 := rfl
end Go.Proofs.YtnabnghjejncpaaGreat.IntKit
