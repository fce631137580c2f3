/- How many more may fly; no condition. -/
import Derived.Test.YtnabnghjejncpaaRows
import Derived.WalkKit
namespace Go.Proofs.Ytnabnghjejncpaa.AdmPure
open Go.RowKit

/-- A limit less those that fly, at least 0. -/
def roomI (x f : Int) : Int := if x - f < 0 then 0 else x - f
end Go.Proofs.Ytnabnghjejncpaa.AdmPure
