/- What the model's Heads answers, at every queue: of each tier that has one the first request, by tiers, in a list of its own; nothing else turns. -/
import Derived.Test.YtnejomfaojpicaaRows
import Derived.WalkKit
import Derived.WalkSmall
import Derived.BigQuiet
import Derived.Deep.RegionWith
import Derived.Deep.DeepCutAuto
import Derived.Test.YtnejomfaojpicaaListKit
import Derived.Test.YtnejomfaojpicaaHoldKit
import Derived.Test.YtnejomfaojpicaaGrowKit
import Derived.Test.YtnejomfaojpicaaReqKit
import Derived.Test.YtnejomfaojpicaaReqOks
import Derived.Test.YtnejomfaojpicaaQueMath
import Derived.Test.YtnejomfaojpicaaQueOkS
import Derived.Test.YtnejomfaojpicaaQueTierS
namespace Go.Proofs.Ytnejomfaojpicaa.QueHeadS
open Go.RowKit ListKit HoldKit GrowKit QueMath QueTierS
set_option maxRecDepth 8000
set_option linter.unusedVariables false
set_option linter.unusedSimpArgs false

/-- The heads of the first tiers. -/
def headsTo (L : List ReqKit.Req) (B : Bool) (m : Nat) : List ReqKit.Req := ((List.range m).map fun (t : Nat) => (tierOf L (t : Int) B).take 1).flatten
theorem heads_next (L : List ReqKit.Req) (B : Bool) (m : Nat) : headsTo L B (m + 1) = headsTo L B m ++ (tierOf L (m : Int) B).take 1 := by
  simp [headsTo, List.range_succ]
theorem heads_len (L : List ReqKit.Req) (B : Bool) : ∀ m, (headsTo L B m).length ≤ m
  | 0 => by simp [headsTo]
  | m + 1 => by
    rw [heads_next, List.length_append, List.length_take]
    have := heads_len L B m
    omega
theorem tier_len (L : List ReqKit.Req) (n : Int) (B : Bool) : (tierOf L n B).length ≤ L.length := List.length_filter_le _ _
end Go.Proofs.Ytnejomfaojpicaa.QueHeadS
