/- What the model's Pull answers, at every queue and id: the queue without it, and it; nothing else turns. -/
import Derived.Test.YtnejomfaojpicaaRows
import Derived.WalkKit
import Derived.WalkSmall
import Derived.BigQuiet
import Derived.Deep.RegionWith
import Derived.Deep.DeepCutAuto
import Derived.Deep.RegionHeld3
import Derived.Test.YtnejomfaojpicaaListKit
import Derived.Test.YtnejomfaojpicaaHoldKit
import Derived.Test.YtnejomfaojpicaaGrowKit
import Derived.Test.YtnejomfaojpicaaReqKit
import Derived.Test.YtnejomfaojpicaaReqOks
import Derived.Test.YtnejomfaojpicaaQueMath
import Derived.Test.YtnejomfaojpicaaQueAt
import Derived.Test.YtnejomfaojpicaaQueOkS
import Derived.Test.YtnejomfaojpicaaQueTierS
import Derived.Test.YtnejomfaojpicaaQueOutS
import Derived.Test.YtnejomfaojpicaaQueCopyS
namespace Go.Proofs.Ytnejomfaojpicaa.QuePullS
open Go.RowKit ListKit HoldKit QueMath QueOutS
set_option maxRecDepth 8000
set_option linter.unusedVariables false
set_option linter.unusedSimpArgs false

def pullL (L : List ReqKit.Req) (r : Int) (B : Bool) : List ReqKit.Req := if B = true then (if r < 0 then L else outOf L r) else []
def pullR (L : List ReqKit.Req) (r : Int) (B : Bool) : ReqKit.Req := if B = true then (if r < 0 then ReqKit.zero else (L[r.toNat]?).getD ReqKit.zero) else ReqKit.zero
/-- A queue, its list new, a request and whether. -/
def PAns (w : World) (y : Int) (M : List ReqKit.Req) (s : ReqKit.Req) (b : Bool) (e : Ending) (w' : World) : Prop := ∃ a2 c2, e = .returned (.tuple #[.agg #[.int .i64 y, .slice a2 M.length c2], .agg (ReqKit.cells s).toArray, .bool b]) ∧ M.length ≤ c2 ∧ Holds w' w.heap.size [⟨a2, 27, 6, M.map ReqKit.cells⟩] ∧ Below w.heap.size w w'
theorem eight_set {W : World} {p : Addr} {u : Value} {N g o k n c : Nat} {x x0 x1 x2 x3 x4 x5 : Int} (hN : N < p.block) (hg : g < N) (h : W.cell? ⟨N, 0, none⟩ = some (.int .i64 x) ∧ W.cell? ⟨N, 1, none⟩ = some (.slice (some ⟨g, o, none⟩) n c) ∧ W.cell? ⟨g, o + k * 6, none⟩ = some (.int .i64 x0) ∧ W.cell? ⟨g, o + k * 6 + 1, none⟩ = some (.int .i64 x1) ∧ W.cell? ⟨g, o + k * 6 + 2, none⟩ = some (.int .i64 x2) ∧ W.cell? ⟨g, o + k * 6 + 3, none⟩ = some (.int .i64 x3) ∧ W.cell? ⟨g, o + k * 6 + 4, none⟩ = some (.int .i64 x4) ∧ W.cell? ⟨g, o + k * 6 + 5, none⟩ = some (.int .i64 x5)) : (W.setCell p u).cell? ⟨N, 0, none⟩ = some (.int .i64 x) ∧ (W.setCell p u).cell? ⟨N, 1, none⟩ = some (.slice (some ⟨g, o, none⟩) n c) ∧ (W.setCell p u).cell? ⟨g, o + k * 6, none⟩ = some (.int .i64 x0) ∧ (W.setCell p u).cell? ⟨g, o + k * 6 + 1, none⟩ = some (.int .i64 x1) ∧ (W.setCell p u).cell? ⟨g, o + k * 6 + 2, none⟩ = some (.int .i64 x2) ∧ (W.setCell p u).cell? ⟨g, o + k * 6 + 3, none⟩ = some (.int .i64 x3) ∧ (W.setCell p u).cell? ⟨g, o + k * 6 + 4, none⟩ = some (.int .i64 x4) ∧ (W.setCell p u).cell? ⟨g, o + k * 6 + 5, none⟩ = some (.int .i64 x5) := by
  have eN : ∀ i, (W.setCell p u).cell? ⟨N, i, none⟩ = W.cell? ⟨N, i, none⟩ := fun i => World.cell?_of_block (Below.heap_setCell W p u N (by omega))
  have eg : ∀ i, (W.setCell p u).cell? ⟨g, i, none⟩ = W.cell? ⟨g, i, none⟩ := fun i => World.cell?_of_block (Below.heap_setCell W p u g (by omega))
  simp only [eN, eg]
  exact h
end Go.Proofs.Ytnejomfaojpicaa.QuePullS
