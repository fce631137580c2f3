/- What is right of a machine and its configuration, as whole numbers and lists; no condition. -/
import Derived.Test.YtnabnghjejncpaaGreatRows
import Derived.WalkKit
import Derived.Test.YtnabnghjejncpaaGreatBucketAll
import Derived.Test.YtnabnghjejncpaaGreatLimAll
namespace Go.Proofs.YtnabnghjejncpaaGreat.AdmKit
open Go.RowKit BucketMath
open LimSpec (limOk)
set_option linter.unusedVariables false

/-- A configuration is right. -/
def cfgGood (x0 x1 x2 x3 x4 x5 x6 x7 x8 x9 x10 x11 x12 x13 : Int) : Prop := limOk x0 x1 x2 x3 x4 x5 0 0 x3 [] ∧ (0 ≤ x8 ∧ x8 ≤ 50) ∧ (0 ≤ x10 ∧ x10 ≤ 100000 ∧ 1 ≤ x11 ∧ x11 ≤ 100000) ∧ bOk x12 x13 (1000 * x12) 0 ∧ 1 ≤ x6 ∧ x6 ≤ 60 ∧ 1 ≤ x7 ∧ x7 ≤ 4 ∧ 0 ≤ x9 ∧ x9 ≤ 1000000000
end Go.Proofs.YtnabnghjejncpaaGreat.AdmKit
