/- What the program's Learn makes of a right limit: a right one; of one that saw the one latency alone: no less, and a root more at most. -/
import Derived.Test.YtbdkepnjhcdpnaaRows
import Derived.WalkKit
import Derived.WalkSmall
import Derived.Test.YtbdkepnjhcdpnaaPairWalks
import Derived.Test.YtbdkepnjhcdpnaaRootMath
import Derived.Test.YtbdkepnjhcdpnaaLimKit
import Derived.Test.YtbdkepnjhcdpnaaLimSpec
import Derived.Test.YtbdkepnjhcdpnaaLimCopy
import Derived.Test.YtbdkepnjhcdpnaaLimBack
import Derived.Test.YtbdkepnjhcdpnaaLimSteps
import Derived.Test.YtbdkepnjhcdpnaaLimImplBack
import Derived.Test.YtbdkepnjhcdpnaaLimImplSteps
import Derived.Test.YtbdkepnjhcdpnaaLimMath
import Derived.Test.YtbdkepnjhcdpnaaLimImplSlope
import Derived.Test.YtbdkepnjhcdpnaaLimLearn
import Derived.Test.YtbdkepnjhcdpnaaLimInv
namespace Go.Proofs.Ytbdkepnjhcdpnaa.LimGood
open Go.RowKit PairWalks RootMath LimKit LimCopy LimBack LimMath LimInv LimImplBack LimImplSteps LimImplSlope LimLearn
open LimSpec (limOk cfgOk)
open LimSteps (isLat)

theorem good_learn (k mn mx sp sl li gd av ws : Int) (L : List (Int × Int)) (now lat : Int) (hk : limOk k mn mx sp sl li gd av ws L) (hT : isT now) (ht : isLat lat) : ∃ (x y z : Int) (P : List (Int × Int)), limOk k mn mx sp sl x y z ws P ∧ ∀ (W : World) (a : Option Addr) (c : Nat), WOk W a L → Calls Try.prog 6 #[.agg #[.int .i64 k, .int .i64 mn, .int .i64 mx, .int .i64 sp, .int .i64 sl, .int .i64 li, .int .i64 gd, .int .i64 av, .int .i64 ws, .slice a L.length c], .int .i64 now, .int .i64 lat, .bool true] W (LAns W k mn mx sp sl x y z ws P) := by
  have hl : (L.length : Int) ≤ 1048577 := by have := hk.2.2.2.2.2.2.2.1.2.2.1; omega
  have l0 : 1 ≤ li := by have h1 := hk.1.2.1; have h2 := hk.2.1; omega
  have l1 : li ≤ 1000 := by have h1 := hk.1.2.2.2.1; have h2 := hk.2.2.1; omega
  by_cases h1 : k = 1
  · by_cases hs : sl < lat
    · exact ⟨_, _, _, _, ok_back hk, fun W a c h => impl_learn_steps k mn mx sp sl li gd av ws _ _ _ _ a c L now lat W h hl hk hT ht h1 fun W h => sample_slow k mn mx sp sl li gd av ws a c L now lat W h hl hk hs⟩
    · by_cases hg : li ≤ gd + 1
      · exact ⟨_, _, _, _, ok_up hk, fun W a c h => impl_learn_steps k mn mx sp sl li gd av ws _ _ _ _ a c L now lat W h hl hk hT ht h1 fun W h => sample_up k mn mx sp sl li gd av ws a c L now lat W h hl hk hs hg⟩
      · exact ⟨_, _, _, _, ok_same hk hg, fun W a c h => impl_learn_steps k mn mx sp sl li gd av ws _ _ _ _ a c L now lat W h hl hk hT ht h1 fun W h => sample_same k mn mx sp sl li gd av ws a c L now lat W h hl hk hs hg⟩
  · obtain ⟨r, hr⟩ := root_is l0 l1
    have h2 : k = 2 := by have := hk.1.1; omega
    exact ⟨_, _, _, _, ok_slope _ hk hT ht, fun W a c h => impl_learn_slope k mn mx sp sl li gd av ws _ _ _ _ a c L now lat W h hl hk hT ht h2 fun W h => sample_slope k mn mx sp sl li gd av ws a c L now lat r W h hl hk hT ht hr⟩

theorem calm_learn (k mn mx sp sl li gd av ws : Int) (L : List (Int × Int)) (now : Int) (hk : limOk k mn mx sp sl li gd av ws L) (hT : isT now) (hc : LimInv.Calm sl av L) : ∃ (r x y z : Int) (P : List (Int × Int)), isRoot li r ∧ li ≤ x ∧ x ≤ li + r + 1 ∧ LimInv.Calm sl z P ∧ limOk k mn mx sp sl x y z ws P ∧ ∀ (W : World) (a : Option Addr) (c : Nat), WOk W a L → Calls Try.prog 6 #[.agg #[.int .i64 k, .int .i64 mn, .int .i64 mx, .int .i64 sp, .int .i64 sl, .int .i64 li, .int .i64 gd, .int .i64 av, .int .i64 ws, .slice a L.length c], .int .i64 now, .int .i64 sl, .bool true] W (LAns W k mn mx sp sl x y z ws P) := by
  have hl : (L.length : Int) ≤ 1048577 := by have := hk.2.2.2.2.2.2.2.1.2.2.1; omega
  have hm0 := hk.1.2.1
  have hm1 := hk.2.1
  have hm2 := hk.2.2.1
  have hm3 := hk.1.2.2.2.1
  have ht : isLat sl := ⟨hk.1.2.2.2.2.2.2.1, hk.1.2.2.2.2.2.2.2⟩
  obtain ⟨r, hr⟩ := root_is (n := li) (by omega) (by omega)
  have hr0 := hr.1
  by_cases h1 : k = 1
  · by_cases hg : li ≤ gd + 1
    · have hb : li ≤ clampI (li + 1) mn mx ∧ clampI (li + 1) mn mx ≤ li + 1 := by
        unfold clampI
        split
        · omega
        · split <;> omega
      exact ⟨r, _, _, _, _, hr, hb.1, by omega, hc, ok_up hk, fun W a c h => impl_learn_steps k mn mx sp sl li gd av ws _ _ _ _ a c L now sl W h hl hk hT ht h1 fun W h => sample_up k mn mx sp sl li gd av ws a c L now sl W h hl hk (by omega) hg⟩
    · exact ⟨r, _, _, _, _, hr, Int.le_refl _, by omega, hc, ok_same hk hg, fun W a c h => impl_learn_steps k mn mx sp sl li gd av ws _ _ _ _ a c L now sl W h hl hk hT ht h1 fun W h => sample_same k mn mx sp sl li gd av ws a c L now sl W h hl hk (by omega) hg⟩
  · have h2 : k = 2 := by have := hk.1.1; omega
    obtain ⟨s1, s2, s3⟩ := slope_calm hk hT hc hr
    exact ⟨r, _, _, _, _, hr, s1, by omega, s3, ok_slope _ hk hT ht, fun W a c h => impl_learn_slope k mn mx sp sl li gd av ws _ _ _ _ a c L now sl W h hl hk hT ht h2 fun W h => sample_slope k mn mx sp sl li gd av ws a c L now sl r W h hl hk hT ht hr⟩

theorem back_less {mn mx li : Int} (h0 : 1 ≤ mn) (h1 : mn ≤ li) : clampI (li * 9 / 10) mn mx ≤ li := by
  unfold clampI
  split
  · omega
  · split <;> omega
end Go.Proofs.Ytbdkepnjhcdpnaa.LimGood
