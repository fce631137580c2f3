/- Numbers that rise; no condition. -/
import Derived.Test.YtnabnghjejncpaaGreatRows
import Derived.WalkKit
namespace Go.Proofs.YtnabnghjejncpaaGreat.AdmKnownP
open Go.RowKit

def oneOk (l : List Int) (i : Nat) (h : i < l.length) : Prop := 1 ≤ l[i] ∧ l[i] ≤ 1000000 ∧ (0 < i → l[i - 1]'(by omega) < l[i])
def knownOk (l : List Int) : Prop := l.length ≤ 2000 ∧ ∀ (i : Nat) (h : i < l.length), oneOk l i h
end Go.Proofs.YtnabnghjejncpaaGreat.AdmKnownP
