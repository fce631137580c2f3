/- What the model's First answers, at every queue, list of clients that fly and number: who is let through next; nothing else turns. -/
import Derived.Test.YtnejomfaojpicaaRows
import Derived.WalkKit
import Derived.WalkSmall
import Derived.BigQuiet
import Derived.Deep.RegionWith
import Derived.Deep.DeepCutAuto
import Derived.Test.YtnejomfaojpicaaListKit
import Derived.Test.YtnejomfaojpicaaHoldKit
import Derived.Test.YtnejomfaojpicaaReqKit
import Derived.Test.YtnejomfaojpicaaIntKit
import Derived.Test.YtnejomfaojpicaaReqOks
import Derived.Test.YtnejomfaojpicaaQueMath
import Derived.Test.YtnejomfaojpicaaQueOkS
import Derived.Test.YtnejomfaojpicaaQueTierS
import Derived.Test.YtnejomfaojpicaaQueMiscS
namespace Go.Proofs.Ytnejomfaojpicaa.QueFirstS
open Go.RowKit ListKit HoldKit QueMath QueTierS QueMiscS
set_option maxRecDepth 8000
set_option linter.unusedVariables false
set_option linter.unusedSimpArgs false

/-- A request whose client may have one more. -/
def isFree (fl : List Int) (most : Int) (s : ReqKit.Req) : Bool := decide ((timesOf fl s.x2 : Int) < most)
/-- Who is let through next. -/
def firstOf (L : List ReqKit.Req) (B : Bool) (fl : List Int) (most : Int) : Option ReqKit.Req := (List.range 4).findSome? fun (t : Nat) => (tierOf L (t : Int) B).find? (isFree fl most)
theorem first_hit {L : List ReqKit.Req} {B : Bool} {fl : List Int} {most : Int} {k : Nat} {s : ReqKit.Req} (hk : k < 4) (h : ∀ t : Nat, t < k → (tierOf L (t : Int) B).find? (isFree fl most) = none) (hs : (tierOf L (k : Int) B).find? (isFree fl most) = some s) : firstOf L B fl most = some s := by
  unfold firstOf
  have e : List.range 4 = List.range k ++ (k :: (List.range (3 - k)).map (k + 1 + ·)) := by
    match k, hk with
    | 0, _ => rfl
    | 1, _ => rfl
    | 2, _ => rfl
    | 3, _ => rfl
  rw [e, List.findSome?_append]
  have h1 : (List.range k).findSome? (fun (t : Nat) => (tierOf L (t : Int) B).find? (isFree fl most)) = none := by
    rw [List.findSome?_eq_none_iff]
    intro t ht
    exact h t (List.mem_range.1 ht)
  rw [h1, List.findSome?_cons, hs]
  rfl
theorem first_no {L : List ReqKit.Req} {B : Bool} {fl : List Int} {most : Int} (h : ∀ t : Nat, t < 4 → (tierOf L (t : Int) B).find? (isFree fl most) = none) : firstOf L B fl most = none := by
  unfold firstOf
  rw [List.findSome?_eq_none_iff]
  intro t ht
  exact h t (List.mem_range.1 ht)
theorem find_hit {p : ReqKit.Req → Bool} {M : List ReqKit.Req} {j : Nat} {s : ReqKit.Req} (hj : j < M.length) (hs : M[j] = s) (hp : p s = true) (h : ∀ (i : Nat) (hi : i < M.length), i < j → p M[i] = false) : M.find? p = some s := by
  rw [List.find?_eq_some_iff_getElem]
  refine ⟨hp, j, hj, hs, fun i hi => ?_⟩
  rw [h i (by omega) hi]
  rfl
theorem find_no {p : ReqKit.Req → Bool} {M : List ReqKit.Req} (h : ∀ (i : Nat) (hi : i < M.length), p M[i] = false) : M.find? p = none := by
  rw [List.find?_eq_none]
  intro s hs
  obtain ⟨i, hi, rfl⟩ := List.getElem_of_mem hs
  rw [h i hi]
  simp
/-- The answer as the model has it. -/
def FAns (w : World) (R : Option ReqKit.Req) (e : Ending) (w' : World) : Prop := e = .returned (.tuple #[.agg (ReqKit.cells (R.getD ReqKit.zero)).toArray, .bool R.isSome]) ∧ Below w.heap.size w w'
end Go.Proofs.Ytnejomfaojpicaa.QueFirstS
