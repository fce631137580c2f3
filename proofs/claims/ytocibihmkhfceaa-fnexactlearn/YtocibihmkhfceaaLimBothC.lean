/- The model's and the program's Learn answer alike, at every limit, time, latency and outcome. -/
import Derived.Test.YtocibihmkhfceaaRows
import Derived.WalkKit
import Derived.WalkSmall
import Derived.BigQuiet
import Derived.Deep.RegionWith
import Derived.Test.YtocibihmkhfceaaPairWalks
import Derived.Test.YtocibihmkhfceaaLimKit
import Derived.Test.YtocibihmkhfceaaLimSpec
import Derived.Test.YtocibihmkhfceaaLimCopy
import Derived.Test.YtocibihmkhfceaaLimBack
import Derived.Test.YtocibihmkhfceaaLimSteps
import Derived.Test.YtocibihmkhfceaaLimImplBack
import Derived.Test.YtocibihmkhfceaaLimImplSteps
import Derived.Test.YtocibihmkhfceaaLimMath
import Derived.Test.YtocibihmkhfceaaLimSlope
import Derived.Test.YtocibihmkhfceaaLimImplSlope
import Derived.Test.YtocibihmkhfceaaLimLearn
namespace Go.Proofs.Ytocibihmkhfceaa.LimBothC
open Go.RowKit PairWalks LimKit LimCopy LimMath LimBack LimSteps LimImplBack LimImplSteps LimSlope LimImplSlope LimLearn
open LimSpec (limOk)
set_option maxRecDepth 8000
set_option linter.unusedVariables false
set_option linter.unusedSimpArgs false

theorem both_learn (k mn mx sp sl li gd av ws : Int) (L : List (Int × Int)) (now lat : Int) (ok : Bool) (hl : (L.length : Int) ≤ 1048577) : ∃ (k2 mn2 mx2 sp2 sl2 li2 gd2 av2 ws2 : Int) (P : List (Int × Int)), (∀ (W : World) (a : Option Addr) (c : Nat), WOk W a L → Calls Try.prog 28 #[.agg #[.int .i64 k, .int .i64 mn, .int .i64 mx, .int .i64 sp, .int .i64 sl, .int .i64 li, .int .i64 gd, .int .i64 av, .int .i64 ws, .slice a L.length c], .int .i64 now, .int .i64 lat, .bool ok] W (LAns W k2 mn2 mx2 sp2 sl2 li2 gd2 av2 ws2 P)) ∧ (∀ (W : World) (a : Option Addr) (c : Nat), WOk W a L → Calls Try.prog 29 #[.agg #[.int .i64 k, .int .i64 mn, .int .i64 mx, .int .i64 sp, .int .i64 sl, .int .i64 li, .int .i64 gd, .int .i64 av, .int .i64 ws, .slice a L.length c], .int .i64 now, .int .i64 lat, .bool ok] W (LAns W k2 mn2 mx2 sp2 sl2 li2 gd2 av2 ws2 P)) ∧ P.length ≤ 1048577 := by
  by_cases hk : limOk k mn mx sp sl li gd av ws L ∧ isT now ∧ isLat lat
  · obtain ⟨hk, hT, ht⟩ := hk
    have l0 : 1 ≤ li := by have h1 := hk.1.2.1; have h2 := hk.2.1; omega
    have l1 : li ≤ 1000 := by have h1 := hk.1.2.2.2.1; have h2 := hk.2.2.1; omega
    cases ok with
    | false => exact ⟨_, _, _, _, _, _, _, _, _, _, fun W a c h => learn_fail k mn mx sp sl li gd av ws _ _ _ _ a c L now lat W h hl hk hT ht fun W h => back_yes k mn mx sp sl li gd av ws a c L W h hl hk, fun W a c h => impl_learn_fail k mn mx sp sl li gd av ws _ _ _ _ a c L now lat W h hl hk hT ht fun W h => impl_back_yes k mn mx sp sl li gd av ws a c L W h hl hk, by omega⟩
    | true =>
      by_cases h1 : k = 1
      · by_cases hs : sl < lat
        · exact ⟨_, _, _, _, _, _, _, _, _, _, fun W a c h => learn_steps k mn mx sp sl li gd av ws _ _ _ _ a c L now lat W h hl hk hT ht h1 fun W h => steps_slow k mn mx sp sl li gd av ws a c L lat W h hl hk ht hs, fun W a c h => impl_learn_steps k mn mx sp sl li gd av ws _ _ _ _ a c L now lat W h hl hk hT ht h1 fun W h => sample_slow k mn mx sp sl li gd av ws a c L now lat W h hl hk hs, by omega⟩
        · by_cases hg : li ≤ gd + 1
          · exact ⟨_, _, _, _, _, _, _, _, _, _, fun W a c h => learn_steps k mn mx sp sl li gd av ws _ _ _ _ a c L now lat W h hl hk hT ht h1 fun W h => steps_up k mn mx sp sl li gd av ws a c L lat W h hl hk ht hs hg, fun W a c h => impl_learn_steps k mn mx sp sl li gd av ws _ _ _ _ a c L now lat W h hl hk hT ht h1 fun W h => sample_up k mn mx sp sl li gd av ws a c L now lat W h hl hk hs hg, by omega⟩
          · exact ⟨_, _, _, _, _, _, _, _, _, _, fun W a c h => learn_steps k mn mx sp sl li gd av ws _ _ _ _ a c L now lat W h hl hk hT ht h1 fun W h => steps_same k mn mx sp sl li gd av ws a c L lat W h hl hk ht hs hg, fun W a c h => impl_learn_steps k mn mx sp sl li gd av ws _ _ _ _ a c L now lat W h hl hk hT ht h1 fun W h => sample_same k mn mx sp sl li gd av ws a c L now lat W h hl hk hs hg, by omega⟩
      · obtain ⟨r, hr⟩ := root_is l0 l1
        have h2 : k = 2 := by have := hk.1.1; omega
        exact ⟨_, _, _, _, _, _, _, _, _, _, fun W a c h => learn_slope k mn mx sp sl li gd av ws _ _ _ _ a c L now lat W h hl hk hT ht h1 fun W h => slope_yes k mn mx sp sl li gd av ws a c L now lat r W h hl hk hT ht hr, fun W a c h => impl_learn_slope k mn mx sp sl li gd av ws _ _ _ _ a c L now lat W h hl hk hT ht h2 fun W h => sample_slope k mn mx sp sl li gd av ws a c L now lat r W h hl hk hT ht hr, by have := pushed_len ws now lat L; omega⟩
  · exact ⟨_, _, _, _, _, _, _, _, _, _, fun W a c h => learn_no k mn mx sp sl li gd av ws a c L now lat ok W h hl hk, fun W a c h => impl_learn_no k mn mx sp sl li gd av ws a c L now lat ok W h hl hk, by simp⟩
end Go.Proofs.Ytocibihmkhfceaa.LimBothC
