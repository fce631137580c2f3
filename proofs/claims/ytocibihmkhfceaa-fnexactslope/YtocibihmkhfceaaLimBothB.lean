/- The model's and the program's Slope answer alike, at every limit, time and latency. -/
import Derived.Test.YtocibihmkhfceaaRows
import Derived.WalkKit
import Derived.WalkSmall
import Derived.BigQuiet
import Derived.Deep.RegionWith
import Derived.Test.YtocibihmkhfceaaPairWalks
import Derived.Test.YtocibihmkhfceaaLimKit
import Derived.Test.YtocibihmkhfceaaLimSpec
import Derived.Test.YtocibihmkhfceaaLimCopy
import Derived.Test.YtocibihmkhfceaaLimSteps
import Derived.Test.YtocibihmkhfceaaLimMath
import Derived.Test.YtocibihmkhfceaaLimSlope
import Derived.Test.YtocibihmkhfceaaLimImplSlope
namespace Go.Proofs.Ytocibihmkhfceaa.LimBothB
open Go.RowKit PairWalks LimKit LimCopy LimMath LimSlope LimImplSlope
open LimSpec (limOk)
open LimSteps (isLat)
set_option maxRecDepth 8000
set_option linter.unusedVariables false
set_option linter.unusedSimpArgs false

theorem both_slope (k mn mx sp sl li gd av ws : Int) (L : List (Int × Int)) (now lat : Int) (hl : (L.length : Int) ≤ 1048577) : ∃ (k2 mn2 mx2 sp2 sl2 li2 gd2 av2 ws2 : Int) (P : List (Int × Int)), (∀ (W : World) (a : Option Addr) (c : Nat), WOk W a L → Calls Try.prog 26 #[.agg #[.int .i64 k, .int .i64 mn, .int .i64 mx, .int .i64 sp, .int .i64 sl, .int .i64 li, .int .i64 gd, .int .i64 av, .int .i64 ws, .slice a L.length c], .int .i64 now, .int .i64 lat] W (LAns W k2 mn2 mx2 sp2 sl2 li2 gd2 av2 ws2 P)) ∧ (∀ (W : World) (a : Option Addr) (c : Nat), WOk W a L → Calls Try.prog 27 #[.agg #[.int .i64 k, .int .i64 mn, .int .i64 mx, .int .i64 sp, .int .i64 sl, .int .i64 li, .int .i64 gd, .int .i64 av, .int .i64 ws, .slice a L.length c], .int .i64 now, .int .i64 lat] W (LAns W k2 mn2 mx2 sp2 sl2 li2 gd2 av2 ws2 P)) ∧ P.length ≤ 1048577 := by
  by_cases hk : limOk k mn mx sp sl li gd av ws L ∧ isT now ∧ isLat lat
  · have l0 : 1 ≤ li := by have h1 := hk.1.1.2.1; have h2 := hk.1.2.1; omega
    have l1 : li ≤ 1000 := by have h1 := hk.1.1.2.2.2.1; have h2 := hk.1.2.2.1; omega
    obtain ⟨r, hr⟩ := root_is l0 l1
    exact ⟨_, _, _, _, _, _, _, _, _, _, fun W a c h => slope_yes k mn mx sp sl li gd av ws a c L now lat r W h hl hk.1 hk.2.1 hk.2.2 hr, fun W a c h => impl_slope_yes k mn mx sp sl li gd av ws _ _ _ _ a c L now lat W h hl hk.1 hk.2.1 hk.2.2 fun W h => sample_slope k mn mx sp sl li gd av ws a c L now lat r W h hl hk.1 hk.2.1 hk.2.2 hr, by have := pushed_len ws now lat L; omega⟩
  · exact ⟨_, _, _, _, _, _, _, _, _, _, fun W a c h => slope_no k mn mx sp sl li gd av ws a c L now lat W h hl hk, fun W a c h => impl_slope_no k mn mx sp sl li gd av ws a c L now lat W h hl hk, by simp⟩
end Go.Proofs.Ytocibihmkhfceaa.LimBothB
