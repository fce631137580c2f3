/- What the model's Root answers at every number of 64 bits: the one root of it, or 0 where it is below 1; no condition. -/
import Derived.Test.YtdgkmiknnelddaaRows
import Derived.Test.YtdgkmiknnelddaaRootMath
import Derived.WalkKit
import Derived.WalkSmall
namespace Go.Proofs.Ytdgkmiknnelddaa.RootS
open Go.RowKit RootMath

theorem spec_root_low (n : Int) (w : World) (h : n < 1) : Calls Try.prog 39 #[.int .i64 n] w fun e w' => e = .returned (.int .i64 0) ∧ w' = w := by
  go_enter Try.func39, Try.ntmps39
  go_wp2
  go_ret
  exact ⟨rfl, rfl⟩

set_option maxHeartbeats 400000 in
theorem spec_root (n : Int) (w : World) (h1 : ¬ n < 1) (hu : n ≤ 9223372036854775807) : Calls Try.prog 39 #[.int .i64 n] w fun e w' => ∃ r : Int, e = .returned (.int .i64 r) ∧ isRoot n r ∧ w' = w := by
  go_enter Try.func39, Try.ntmps39
  go_wp2
  go_loop [3, 4] (fun lo hi => ∃ a b : Int, 0 ≤ a ∧ a ≤ b ∧ b ≤ 3037000499 ∧ Hid (a * a ≤ n ∧ n < (b + 1) * (b + 1)) ∧ lo = .int .i64 a ∧ hi = .int .i64 b) (fun lo hi => (intOf hi - intOf lo).toNat)
  case atStart => exact ⟨0, 3037000499, by omega, by omega, by omega, ⟨by omega, by omega⟩, rfl, rfl⟩
  case round =>
    obtain ⟨a, b, ha, hab, hb, H, rfl, rfl⟩ := hrel
    by_cases hlt : a < b
    · have hq := sq_max (a := (a + b + 1) / 2) (by omega) (by omega)
      by_cases hc : (a + b + 1) / 2 * ((a + b + 1) / 2) ≤ n
      · go_wp2
        go_round
        case rel => exact ⟨(a + b + 1) / 2, b, by omega, by omega, by omega, ⟨hc, H.out.2⟩, rfl, rfl⟩
        case measure => simp [intOf]; omega
      · go_wp2
        go_round
        case rel => exact ⟨a, (a + b + 1) / 2 - 1, by omega, by omega, by omega, ⟨H.out.1, by rw [show (a + b + 1) / 2 - 1 + 1 = (a + b + 1) / 2 from by omega]; omega⟩, rfl, rfl⟩
        case measure => simp [intOf]; omega
    · have e : a = b := by omega
      subst e
      go_wp2
      go_ret
      exact ⟨a, rfl, ⟨ha, hb, H.out.1, H.out.2⟩, rfl⟩
end Go.Proofs.Ytdgkmiknnelddaa.RootS
