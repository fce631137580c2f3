/- What the model's and the program's ReqOk answer, at every request; nothing else turns. -/
import Derived.Test.YtnabnghjejncpaaRows
import Derived.WalkKit
import Derived.WalkSmall
import Derived.BigQuiet
import Derived.Test.YtnabnghjejncpaaReqKit
namespace Go.Proofs.Ytnabnghjejncpaa.ReqOks
open Go.RowKit ReqKit
set_option maxRecDepth 8000
set_option linter.unusedVariables false
set_option linter.unusedSimpArgs false

/-- A request is right. -/
def reqOk (s : Req) : Bool := decide (1 ≤ s.x0 ∧ s.x0 ≤ 1000000 ∧ 0 ≤ s.x1 ∧ s.x1 < 4 ∧ 0 ≤ s.x2 ∧ s.x2 ≤ 1000 ∧ 0 ≤ s.x3 ∧ s.x3 ≤ 1000000000 ∧ 0 ≤ s.x4 ∧ s.x4 ≤ 1000000000 ∧ 0 ≤ s.x5 ∧ s.x5 ≤ 20)

end Go.Proofs.Ytnabnghjejncpaa.ReqOks
