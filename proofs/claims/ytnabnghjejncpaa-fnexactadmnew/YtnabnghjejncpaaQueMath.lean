/- Plain facts on queues: where a request of a number stands, when a queue is right; no condition but those written in each. -/
import Derived.Test.YtnabnghjejncpaaRows
import Derived.WalkKit
import Derived.Test.YtnabnghjejncpaaReqKit
import Derived.Test.YtnabnghjejncpaaReqOks
namespace Go.Proofs.Ytnabnghjejncpaa.QueMath
open ReqKit ReqOks

/-- The place of the first request of this number, -1 where there is none. -/
def AtId (L : List Req) (id r : Int) : Prop := (r = -1 ∧ ∀ (j : Nat) (h : j < L.length), L[j].x0 ≠ id) ∨ ∃ k : Nat, r = (k : Int) ∧ ∃ h : k < L.length, L[k].x0 = id ∧ ∀ (j : Nat) (hj : j < k), (L[j]'(by omega)).x0 ≠ id

theorem AtId.no {L : List Req} {id r : Int} (h : AtId L id r) (h2 : ∀ (j : Nat) (h : j < L.length), L[j].x0 ≠ id) : r = -1 := by
  rcases h with ⟨h3, _⟩ | ⟨q, rfl, hq, h3, h4⟩
  · exact h3
  · exact absurd h3 (h2 q hq)
/-- Request k may stand where it stands. -/
def okAt (L : List Req) (k : Nat) (h : k < L.length) : Prop := reqOk L[k] = true ∧ (∀ (j : Nat) (hj : j < k), (L[j]'(by omega)).x0 ≠ L[k].x0) ∧ ∀ (hk : 0 < k), (L[k - 1]'(by omega)).x4 ≤ L[k].x4
end Go.Proofs.Ytnabnghjejncpaa.QueMath
