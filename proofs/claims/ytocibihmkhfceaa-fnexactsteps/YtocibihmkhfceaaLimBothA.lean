/- The model's and the program's Back and Steps answer alike, at every limit and latency. -/
import Derived.Test.YtocibihmkhfceaaRows
import Derived.WalkKit
import Derived.WalkSmall
import Derived.BigQuiet
import Derived.Deep.RegionWith
import Derived.Test.YtocibihmkhfceaaPairWalks
import Derived.Test.YtocibihmkhfceaaLimKit
import Derived.Test.YtocibihmkhfceaaLimSpec
import Derived.Test.YtocibihmkhfceaaLimCopy
import Derived.Test.YtocibihmkhfceaaLimBack
import Derived.Test.YtocibihmkhfceaaLimSteps
import Derived.Test.YtocibihmkhfceaaLimImpl
import Derived.Test.YtocibihmkhfceaaLimImplBack
import Derived.Test.YtocibihmkhfceaaLimImplSteps
namespace Go.Proofs.Ytocibihmkhfceaa.LimBothA
open Go.RowKit PairWalks LimKit LimCopy LimBack LimSteps LimImplBack LimImplSteps
open LimSpec (limOk)
set_option maxRecDepth 8000
set_option linter.unusedVariables false
set_option linter.unusedSimpArgs false

theorem both_back (k mn mx sp sl li gd av ws : Int) (L : List (Int × Int)) (hl : (L.length : Int) ≤ 1048577) : ∃ (k2 mn2 mx2 sp2 sl2 li2 gd2 av2 ws2 : Int) (P : List (Int × Int)), (∀ (W : World) (a : Option Addr) (c : Nat), WOk W a L → Calls Try.prog 22 #[.agg #[.int .i64 k, .int .i64 mn, .int .i64 mx, .int .i64 sp, .int .i64 sl, .int .i64 li, .int .i64 gd, .int .i64 av, .int .i64 ws, .slice a L.length c]] W (LAns W k2 mn2 mx2 sp2 sl2 li2 gd2 av2 ws2 P)) ∧ (∀ (W : World) (a : Option Addr) (c : Nat), WOk W a L → Calls Try.prog 23 #[.agg #[.int .i64 k, .int .i64 mn, .int .i64 mx, .int .i64 sp, .int .i64 sl, .int .i64 li, .int .i64 gd, .int .i64 av, .int .i64 ws, .slice a L.length c]] W (LAns W k2 mn2 mx2 sp2 sl2 li2 gd2 av2 ws2 P)) ∧ P.length ≤ 1048577 := by
  by_cases hk : limOk k mn mx sp sl li gd av ws L
  · exact ⟨_, _, _, _, _, _, _, _, _, _, fun W a c h => back_yes k mn mx sp sl li gd av ws a c L W h hl hk, fun W a c h => impl_back_yes k mn mx sp sl li gd av ws a c L W h hl hk, by omega⟩
  · exact ⟨_, _, _, _, _, _, _, _, _, _, fun W a c h => back_no k mn mx sp sl li gd av ws a c L W h hl hk, fun W a c h => impl_back_no k mn mx sp sl li gd av ws a c L W h hl hk, by simp⟩

theorem both_steps (k mn mx sp sl li gd av ws : Int) (L : List (Int × Int)) (lat : Int) (hl : (L.length : Int) ≤ 1048577) : ∃ (k2 mn2 mx2 sp2 sl2 li2 gd2 av2 ws2 : Int) (P : List (Int × Int)), (∀ (W : World) (a : Option Addr) (c : Nat), WOk W a L → Calls Try.prog 24 #[.agg #[.int .i64 k, .int .i64 mn, .int .i64 mx, .int .i64 sp, .int .i64 sl, .int .i64 li, .int .i64 gd, .int .i64 av, .int .i64 ws, .slice a L.length c], .int .i64 lat] W (LAns W k2 mn2 mx2 sp2 sl2 li2 gd2 av2 ws2 P)) ∧ (∀ (W : World) (a : Option Addr) (c : Nat), WOk W a L → Calls Try.prog 25 #[.agg #[.int .i64 k, .int .i64 mn, .int .i64 mx, .int .i64 sp, .int .i64 sl, .int .i64 li, .int .i64 gd, .int .i64 av, .int .i64 ws, .slice a L.length c], .int .i64 lat] W (LAns W k2 mn2 mx2 sp2 sl2 li2 gd2 av2 ws2 P)) ∧ P.length ≤ 1048577 := by
  by_cases hk : limOk k mn mx sp sl li gd av ws L ∧ isLat lat
  · by_cases hs : sl < lat
    · exact ⟨_, _, _, _, _, _, _, _, _, _, fun W a c h => steps_slow k mn mx sp sl li gd av ws a c L lat W h hl hk.1 hk.2 hs, fun W a c h => impl_steps_yes k mn mx sp sl li gd av ws _ _ _ a c L lat W h hl hk.1 hk.2 fun W h => sample_slow k mn mx sp sl li gd av ws a c L 0 lat W h hl hk.1 hs, by omega⟩
    · by_cases hg : li ≤ gd + 1
      · exact ⟨_, _, _, _, _, _, _, _, _, _, fun W a c h => steps_up k mn mx sp sl li gd av ws a c L lat W h hl hk.1 hk.2 hs hg, fun W a c h => impl_steps_yes k mn mx sp sl li gd av ws _ _ _ a c L lat W h hl hk.1 hk.2 fun W h => sample_up k mn mx sp sl li gd av ws a c L 0 lat W h hl hk.1 hs hg, by omega⟩
      · exact ⟨_, _, _, _, _, _, _, _, _, _, fun W a c h => steps_same k mn mx sp sl li gd av ws a c L lat W h hl hk.1 hk.2 hs hg, fun W a c h => impl_steps_yes k mn mx sp sl li gd av ws _ _ _ a c L lat W h hl hk.1 hk.2 fun W h => sample_same k mn mx sp sl li gd av ws a c L 0 lat W h hl hk.1 hs hg, by omega⟩
  · exact ⟨_, _, _, _, _, _, _, _, _, _, fun W a c h => steps_no k mn mx sp sl li gd av ws a c L lat W h hl hk, fun W a c h => impl_steps_no k mn mx sp sl li gd av ws a c L lat W h hl hk, by simp⟩
end Go.Proofs.Ytocibihmkhfceaa.LimBothA
