/- A look at a queue that may be slow leaves it right; looks one behind the other; no condition but those written in each. -/
import Derived.Test.YtnabnghjejncpaaRows
import Derived.WalkKit
import Derived.Test.YtnabnghjejncpaaCodKit
import Derived.Test.YtnabnghjejncpaaCodOks
import Derived.WalkSmall
import Derived.BigQuiet
namespace Go.Proofs.Ytnabnghjejncpaa.CodMath
open Go.RowKit CodKit
set_option linter.unusedVariables false
set_option linter.unusedSimpArgs false

/-- Looks one behind the other, as long as one is dropped: what it is then, and how many went. -/
def looks (now : Int) : Cod → List Int → Cod × Nat
  | s, [] => ((see s now (-1)).1, 0)
  | s, w :: ws => if (see s now w).2 = true then ((looks now (see s now w).1 ws).1, (looks now (see s now w).1 ws).2 + 1) else ((see s now w).1, 0)
end Go.Proofs.Ytnabnghjejncpaa.CodMath
