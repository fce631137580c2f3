/- What the model's AddTime, Pace and CodelNew answer; nothing else turns; no condition but those written in each. -/
import Derived.Test.YtdgkmiknnelddaaRows
import Derived.WalkKit
import Derived.WalkSmall
import Derived.BigQuiet
import Derived.Test.YtdgkmiknnelddaaRootMath
import Derived.Test.YtdgkmiknnelddaaRootS
import Derived.Test.YtdgkmiknnelddaaCodKit
import Derived.Test.YtdgkmiknnelddaaCodOks
namespace Go.Proofs.Ytdgkmiknnelddaa.CodPaceS
open Go.RowKit RootMath RootS CodKit CodOks
set_option maxRecDepth 8000
set_option linter.unusedVariables false
set_option linter.unusedSimpArgs false

theorem spec_addtime (a b : Int) (w : World) (ha : 0 ≤ a ∧ a ≤ 1000000000) (hb : 0 ≤ b ∧ b ≤ 1000000000) : Calls Try.prog 33 #[.int .i64 a, .int .i64 b] w fun e w' => e = .returned (.int .i64 (atime a b)) ∧ w' = w := by
  have a0 : ¬ a < 0 := by omega
  have a1 : ¬ 1000000000 < a := by omega
  have b0 : ¬ b < 0 := by omega
  have b1 : ¬ 1000000000 < b := by omega
  have wr : IntKind.i64.wrap (a + b) = a + b := by rw [IntKind.wrap_i64]; omega
  have s0 : ¬ a + b < 0 := by omega
  by_cases hs : a + b ≤ 1000000000
  · have s1 : ¬ 1000000000 < a + b := by omega
    have e : atime a b = a + b := by unfold atime; rw [if_pos hs]
    rw [e]
    clear e hs ha hb
    go_enter Try.func33, Try.ntmps33
    go_wp2_with (go_at_call 34; go_in)
    go_ret
    exact ⟨rfl, rfl⟩
  · have s1 : 1000000000 < a + b := by omega
    have e : atime a b = 1000000000 := by unfold atime; rw [if_neg hs]
    rw [e]
    clear e hs ha hb
    go_enter Try.func33, Try.ntmps33
    go_wp2_with (go_at_call 34; go_in)
    go_ret
    exact ⟨rfl, rfl⟩
theorem atime_in {a b : Int} (ha : 0 ≤ a ∧ a ≤ 1000000000) (hb : 0 ≤ b ∧ b ≤ 1000000000) : 0 ≤ atime a b ∧ atime a b ≤ 1000000000 := by unfold atime; split <;> omega
theorem pace_bad {e c : Int} (h : ¬ (1 ≤ e ∧ e ≤ 100000 ∧ 1 ≤ c ∧ c ≤ 100000)) : pace e c = 0 := by unfold pace; rw [if_neg h]
/-- The number that Pace divides. -/
theorem pace_quo {e c : Int} (h : 1 ≤ e ∧ e ≤ 100000 ∧ 1 ≤ c ∧ c ≤ 100000) : ∃ q : Int, (1000 * e).tdiv (rootI (1000000 * c)) = q ∧ 0 ≤ q ∧ q ≤ 100000000 ∧ pace e c = if q < 1 then 1 else q := by
  have hr := root_ge h.2.2.1 h.2.2.2
  refine ⟨1000 * e / rootI (1000000 * c), Int.tdiv_eq_ediv_of_nonneg (by omega), Int.ediv_nonneg (by omega) (by omega), ?_, pace_eq h⟩
  exact Int.le_trans (Int.ediv_le_self _ (by omega)) (by omega)
set_option maxHeartbeats 1000000 in
theorem spec_pace (e c : Int) (w : World) : Calls Try.prog 35 #[.int .i64 e, .int .i64 c] w fun e' w' => e' = .returned (.int .i64 (pace e c)) ∧ w' = w := by
  by_cases h1 : 1 ≤ e
  · have p1 : decide (1 ≤ e) = true := by simpa using h1
    by_cases h2 : e ≤ 100000
    · have p2 : decide (e ≤ 100000) = true := by simpa using h2
      by_cases h3 : c < 1
      · rw [pace_bad (by omega)]
        have p3 : decide (c < 1) = true := by simpa using h3
        clear h1 h2
        go_enter Try.func35, Try.ntmps35
        go_wp2_with (go_at_call 38; go_in)
        go_ret
        exact ⟨rfl, rfl⟩
      · have p3 : decide (c < 1) = false := by simpa using h3
        by_cases h4 : 100000 < c
        · rw [pace_bad (by omega)]
          have p4 : decide (100000 < c) = true := by simpa using h4
          clear h1 h2 h3
          go_enter Try.func35, Try.ntmps35
          go_wp2_with (go_at_call 38; go_in)
          go_ret
          exact ⟨rfl, rfl⟩
        · have p4 : decide (100000 < c) = false := by simpa using h4
          have hg : 1 ≤ e ∧ e ≤ 100000 ∧ 1 ≤ c ∧ c ≤ 100000 := by omega
          obtain ⟨q, hq, q0, q1, hp⟩ := pace_quo hg
          have w1 : IntKind.i64.wrap (1000 * e) = 1000 * e := by rw [IntKind.wrap_i64]; omega
          have w2 : IntKind.i64.wrap (1000000 * c) = 1000000 * c := by rw [IntKind.wrap_i64]; omega
          have hr := root_ge hg.2.2.1 hg.2.2.2
          have hR := spec_root (1000000 * c) w (by omega) (by omega)
          obtain ⟨r, hr2⟩ : ∃ r, rootI (1000000 * c) = r := ⟨_, rfl⟩
          have HR : Hid (∀ k, isRoot (1000000 * c) k → k = r) := fun k hk => by rw [rootI_of hk (by omega) (by omega), hr2]
          rw [hr2] at hq hr
          have r0 : (r == 0) = false := by simp; omega
          have wq : IntKind.i64.wrap q = q := by rw [IntKind.wrap_i64]; omega
          have rn : ¬ r = 0 := by omega
          have wm : ¬ r = -1 := by omega
          rw [hp]
          clear hp hr2 hg h1 h2 h3 h4
          by_cases hl : q < 1
          · rw [if_pos hl]
            have pl : decide (q < 1) = true := by simpa using hl
            go_enter Try.func35, Try.ntmps35
            go_wp2_with (first | (go_at_call 38; go_in) | (go_at_call 39; refine hR.mono ?_; rintro e' w' ⟨k, rfl, hk, rfl⟩; obtain rfl := HR.out k hk))
            go_ret
            exact ⟨rfl, rfl⟩
          · rw [if_neg hl]
            have pl : decide (q < 1) = false := by simpa using hl
            go_enter Try.func35, Try.ntmps35
            go_wp2_with (first | (go_at_call 38; go_in) | (go_at_call 39; refine hR.mono ?_; rintro e' w' ⟨k, rfl, hk, rfl⟩; obtain rfl := HR.out k hk))
            go_ret
            exact ⟨rfl, rfl⟩
    · rw [pace_bad (by omega)]
      have p2 : decide (e ≤ 100000) = false := by simpa using h2
      clear h1
      go_enter Try.func35, Try.ntmps35
      go_wp2_with (go_at_call 38; go_in)
      go_ret
      exact ⟨rfl, rfl⟩
  · rw [pace_bad (by omega)]
    have p1 : decide (1 ≤ e) = false := by simpa using h1
    go_enter Try.func35, Try.ntmps35
    go_wp2_with (go_at_call 38; go_in)
    go_ret
    exact ⟨rfl, rfl⟩
end Go.Proofs.Ytdgkmiknnelddaa.CodPaceS
