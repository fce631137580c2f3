/- What the program's AddTime and Pace answer; nothing that was there turns; no condition but those written in each. -/
import Derived.Test.YtdgkmiknnelddaaRows
import Derived.WalkKit
import Derived.WalkSmall
import Derived.BigQuiet
import Derived.Deep.RegionWith
import Derived.Deep.DeepCutAuto
import Derived.Test.YtdgkmiknnelddaaRootMath
import Derived.Test.YtdgkmiknnelddaaRootWalks
import Derived.Test.YtdgkmiknnelddaaCodKit
import Derived.Test.YtdgkmiknnelddaaCodPaceS
namespace Go.Proofs.Ytdgkmiknnelddaa.CodPaceI
open Go.RowKit RootMath CodKit CodPaceS
open RootWalks (impl_root)
set_option maxRecDepth 8000
set_option linter.unusedVariables false
set_option linter.unusedSimpArgs false

theorem impl_addtime (a b : Int) (w : World) (ha : 0 ≤ a ∧ a ≤ 1000000000) (hb : 0 ≤ b ∧ b ≤ 1000000000) : Calls Try.prog 25 #[.int .i64 a, .int .i64 b] w fun e w' => e = .returned (.int .i64 (atime a b)) ∧ w' = w := by
  have a0 : ¬ a < 0 := by omega
  have a1 : ¬ 1000000000 < a := by omega
  have b0 : ¬ b < 0 := by omega
  have b1 : ¬ 1000000000 < b := by omega
  have wr : IntKind.i64.wrap (a + b) = a + b := by rw [IntKind.wrap_i64]; omega
  by_cases hs : 1000000000 < a + b
  · have hm : min (a + b) 1000000000 = 1000000000 := by omega
    have e : atime a b = 1000000000 := by unfold atime; rw [if_neg (by omega)]
    rw [e]
    clear e ha hb
    go_enter Try.func25, Try.ntmps25
    go_wp2_with (go_at_call 36; go_in)
    go_ret
    exact ⟨rfl, rfl⟩
  · have hm : min (a + b) 1000000000 = a + b := by omega
    have e : atime a b = a + b := by unfold atime; rw [if_pos (by omega)]
    rw [e]
    clear e ha hb
    go_enter Try.func25, Try.ntmps25
    go_wp2_with (go_at_call 36; go_in)
    go_ret
    exact ⟨rfl, rfl⟩
set_option maxHeartbeats 1000000 in
theorem impl_pace (e c : Int) (w : World) : Calls Try.prog 8 #[.int .i64 e, .int .i64 c] w fun e' w' => e' = .returned (.int .i64 (pace e c)) ∧ Below w.heap.size w w' := by
  by_cases h1 : 1 ≤ e
  · have p1 : decide (1 ≤ e) = true := by simpa using h1
    by_cases h2 : e ≤ 100000
    · have p2 : decide (e ≤ 100000) = true := by simpa using h2
      by_cases h3 : c < 1
      · rw [pace_bad (by omega)]
        have p3 : decide (c < 1) = true := by simpa using h3
        clear h1 h2
        go_enter Try.func8, Try.ntmps8
        go_wp2_with (go_at_call 17; go_in)
        go_ret
        exact ⟨rfl, Below.refl _ _⟩
      · have p3 : decide (c < 1) = false := by simpa using h3
        by_cases h4 : 100000 < c
        · rw [pace_bad (by omega)]
          have p4 : decide (100000 < c) = true := by simpa using h4
          clear h1 h2 h3
          go_enter Try.func8, Try.ntmps8
          go_wp2_with (go_at_call 17; go_in)
          go_ret
          exact ⟨rfl, Below.refl _ _⟩
        · have p4 : decide (100000 < c) = false := by simpa using h4
          have hg : 1 ≤ e ∧ e ≤ 100000 ∧ 1 ≤ c ∧ c ≤ 100000 := by omega
          obtain ⟨q, hq, q0, q1, hp⟩ := pace_quo hg
          have w1 : IntKind.i64.wrap (1000 * e) = 1000 * e := by rw [IntKind.wrap_i64]; omega
          have w2 : IntKind.i64.wrap (1000000 * c) = 1000000 * c := by rw [IntKind.wrap_i64]; omega
          have hr := root_ge hg.2.2.1 hg.2.2.2
          have hR := impl_root (1000000 * c) w (by omega) (by omega)
          obtain ⟨r, hr2⟩ : ∃ r, rootI (1000000 * c) = r := ⟨_, rfl⟩
          have HR : Hid (∀ k, isRoot (1000000 * c) k → k = r) := fun k hk => by rw [rootI_of hk (by omega) (by omega), hr2]
          rw [hr2] at hq hr
          have r0 : (r == 0) = false := by simp; omega
          have wq : IntKind.i64.wrap q = q := by rw [IntKind.wrap_i64]; omega
          have rn : ¬ r = 0 := by omega
          have wm : ¬ r = -1 := by omega
          rw [hp]
          clear hp hr2 hg h1 h2 h3 h4
          by_cases hl : q < 1
          · rw [if_pos hl]
            have pl : decide (q < 1) = true := by simpa using hl
            have pg : ¬ 1 < q := by omega
            have hm : max 1 q = 1 := by omega
            go_enter Try.func8, Try.ntmps8
            go_wp2_with (first | (go_at_call 17; go_in) | (go_at_call 18; refine hR.mono ?_; rintro e' w' ⟨k, rfl, hk, hb⟩; obtain rfl := HR.out k hk))
            go_ret
            exact ⟨rfl, hb⟩
          · rw [if_neg hl]
            have pl : decide (q < 1) = false := by simpa using hl
            by_cases pg : 1 < q
            · have hm : max 1 q = q := by omega
              go_enter Try.func8, Try.ntmps8
              go_wp2_with (first | (go_at_call 17; go_in) | (go_at_call 18; refine hR.mono ?_; rintro e' w' ⟨k, rfl, hk, hb⟩; obtain rfl := HR.out k hk))
              go_ret
              exact ⟨rfl, hb⟩
            · obtain rfl : q = 1 := by omega
              have hm : max (1 : Int) 1 = 1 := by omega
              go_enter Try.func8, Try.ntmps8
              go_wp2_with (first | (go_at_call 17; go_in) | (go_at_call 18; refine hR.mono ?_; rintro e' w' ⟨k, rfl, hk, hb⟩; obtain rfl := HR.out k hk))
              go_ret
              exact ⟨rfl, hb⟩
    · rw [pace_bad (by omega)]
      have p2 : decide (e ≤ 100000) = false := by simpa using h2
      clear h1
      go_enter Try.func8, Try.ntmps8
      go_wp2_with (go_at_call 17; go_in)
      go_ret
      exact ⟨rfl, Below.refl _ _⟩
  · rw [pace_bad (by omega)]
    have p1 : decide (1 ≤ e) = false := by simpa using h1
    go_enter Try.func8, Try.ntmps8
    go_wp2_with (go_at_call 17; go_in)
    go_ret
    exact ⟨rfl, Below.refl _ _⟩
end Go.Proofs.Ytdgkmiknnelddaa.CodPaceI
