/- Regions whose order is drawn, by what holds of the operations that have come up: one proof an operation serves every order; whatever program, whatever region without guards. No condition but those written in each. -/
import Derived.Test.YtnabnghjejncpaaGreatRows
import Derived.WalkKit
import Derived.WalkSmall
import Derived.BigQuiet
namespace Go.Proofs.YtnabnghjejncpaaGreat.RegFlow
open Go.RowKit

/-- What is asked of what an operation comes to: a value, in whatever world, that meet Φ. -/
def givesUpon (P : Program) (Φ : Value → World → Prop) : Result Next → Prop
  | .ok (.value v) w' => Φ v w'
  | .ok .skip w' => Φ undef w'
  | .ok (.enter f args) w' => Calls P f args w' fun e w'' => ∃ v, e = .returned v ∧ Φ v w''
  | _ => False
def gives (P : Program) (o : Oper) (r : Operand → Value) (w : World) (Φ : Value → World → Prop) : Prop := givesUpon P Φ ((execOp r o).run P w)

/-- The operations that this one waits for. -/
def preds (o : Oper) : List Nat := o.after.toList.filterMap fun e => if Region.binds .any e then some e.on else none

/-- Whoever has come up has come up behind those that it waits for. -/
def Closed (l : List Oper) (b : Nat → Bool) : Prop := ∀ (i : Nat) (o : Oper), l[i]? = some o → b i = true → (preds o).all b = true
theorem Closed.no {l : List Oper} {b : Nat → Bool} (h : Closed l b) {i k : Nat} {o : Oper} (hi : l[i]? = some o) (hk : (preds o).contains k = true) (hb : b k = false) : b i = false := by
  cases e : b i with
  | false => rfl
  | true =>
    have h1 := List.all_eq_true.1 (h i o hi e) k (by simpa using hk)
    rw [hb] at h1
    cases h1

end Go.Proofs.YtnabnghjejncpaaGreat.RegFlow
