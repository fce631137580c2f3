/- What the model's SeeAll answers, at all arguments; nothing that was there turns. -/
import Derived.Test.YtdgkmiknnelddaaRows
import Derived.WalkKit
import Derived.WalkSmall
import Derived.BigQuiet
import Derived.Deep.RegionWith
import Derived.Deep.DeepCutAuto
import Derived.Test.YtdgkmiknnelddaaListKit
import Derived.Test.YtdgkmiknnelddaaHoldKit
import Derived.Test.YtdgkmiknnelddaaIntKit
import Derived.Test.YtdgkmiknnelddaaCodKit
import Derived.Test.YtdgkmiknnelddaaCodOks
import Derived.Test.YtdgkmiknnelddaaCodPaceS
import Derived.Test.YtdgkmiknnelddaaCodMath
import Derived.Test.YtdgkmiknnelddaaCodSeeS
namespace Go.Proofs.Ytdgkmiknnelddaa.CodAllS
open Go.RowKit ListKit HoldKit CodKit CodOks CodPaceS CodMath CodSeeS
set_option maxRecDepth 8000
set_option linter.unusedVariables false
set_option linter.unusedSimpArgs false

/-- Waits that are right. -/
def WaitsOk (ws : List Int) : Prop := ∀ (k : Nat) (h : k < ws.length), 0 ≤ ws[k] ∧ ws[k] ≤ 1000000000
/-- All that SeeAll is told is right. -/
def AllOk (s : Cod) (now : Int) (ws : List Int) : Prop := WaitsOk ws ∧ codOk s = true ∧ 0 ≤ now ∧ now ≤ 1000000000

end Go.Proofs.Ytdgkmiknnelddaa.CodAllS
