/- Regions whose order is drawn, by what holds of the operations that have come up: one proof an operation serves every order; whatever program, whatever region without guards. No condition but those written in each. -/
import Derived.Test.YtnabnghjejncpaaRows
import Derived.WalkKit
import Derived.WalkSmall
import Derived.BigQuiet
namespace Go.Proofs.Ytnabnghjejncpaa.RegFlow
open Go.RowKit

/-- The operations that this one waits for. -/
def preds (o : Oper) : List Nat := o.after.toList.filterMap fun e => if Region.binds .any e then some e.on else none

/-- Whoever has come up has come up behind those that it waits for. -/
def Closed (l : List Oper) (b : Nat → Bool) : Prop := ∀ (i : Nat) (o : Oper), l[i]? = some o → b i = true → (preds o).all b = true
theorem Closed.no {l : List Oper} {b : Nat → Bool} (h : Closed l b) {i k : Nat} {o : Oper} (hi : l[i]? = some o) (hk : (preds o).contains k = true) (hb : b k = false) : b i = false := by
  cases e : b i with
  | false => rfl
  | true =>
    have h1 := List.all_eq_true.1 (h i o hi e) k (by simpa using hk)
    rw [hb] at h1
    cases h1

end Go.Proofs.Ytnabnghjejncpaa.RegFlow
