/- What the program's CodelOk answers, at every queue that may be slow; nothing else turns. -/
import Derived.Test.YtnabnghjejncpaaRows
import Derived.WalkKit
import Derived.WalkSmall
import Derived.BigQuiet
import Derived.Test.YtnabnghjejncpaaCodKit
namespace Go.Proofs.Ytnabnghjejncpaa.CodOkI
open Go.RowKit CodKit
set_option maxRecDepth 8000
set_option linter.unusedVariables false
set_option linter.unusedSimpArgs false

set_option maxHeartbeats 2000000 in
theorem impl_codelok_true (x0 x1 x2 x4 x5 : Int) (w : World) :
    Calls Try.prog 81 #[.agg #[.int .i64 x0, .int .i64 x1, .int .i64 x2, .bool true, .int .i64 x4, .int .i64 x5]] w fun e w' => e = .returned (.bool (codOk ⟨x0, x1, x2, true, x4, x5⟩)) ∧ Below w.heap.size w w' := by
  have HB : ∀ A : Obj, Hid (Below w.heap.size w (w.alloc A)) := fun A => (Below.refl _ _).alloc (Nat.le_refl _) _
  obtain ⟨B, hB⟩ : ∃ B, codOk ⟨x0, x1, x2, true, x4, x5⟩ = B := ⟨_, rfl⟩
  rw [hB]
  have HH : Hid (codOk ⟨x0, x1, x2, true, x4, x5⟩ = B) := hB
  clear hB
  by_cases t1 : 0 ≤ x0
  · skip
    have t1p0 : decide (0 ≤ x0) = true := by first | omega | (simp; omega) | simpa using t1
    by_cases t2 : x0 ≤ 100000
    · skip
      have t2p0 : decide (x0 ≤ 100000) = true := by first | omega | (simp; omega) | simpa using t2
      by_cases t3 : 1 ≤ x1
      · skip
        have t3p0 : decide (1 ≤ x1) = true := by first | omega | (simp; omega) | simpa using t3
        by_cases t4 : x1 ≤ 100000
        · skip
          have t4p0 : decide (x1 ≤ 100000) = true := by first | omega | (simp; omega) | simpa using t4
          by_cases t5 : 0 ≤ x2
          · skip
            have t5p0 : decide (0 ≤ x2) = true := by first | omega | (simp; omega) | simpa using t5
            by_cases t6 : x2 ≤ 1000000000
            · skip
              have t6p0 : decide (x2 ≤ 1000000000) = true := by first | omega | (simp; omega) | simpa using t6
              by_cases t7 : 0 ≤ x4
              · skip
                have t7p0 : decide (0 ≤ x4) = true := by first | omega | (simp; omega) | simpa using t7
                by_cases t8 : x4 ≤ 1000000000
                · skip
                  have t8p0 : decide (x4 ≤ 1000000000) = true := by first | omega | (simp; omega) | simpa using t8
                  by_cases t9 : ¬ x2 = 0
                  · skip
                    have t9p0 : (x2 != 0) = true := by first | omega | (simp; omega) | simpa using t9
                    by_cases t10 : 1 ≤ x5
                    · skip
                      have t10p0 : decide (1 ≤ x5) = true := by first | omega | (simp; omega) | simpa using t10
                      by_cases t11 : x5 ≤ 100000
                      · skip
                        have t11p0 : decide (x5 ≤ 100000) = true := by first | omega | (simp; omega) | simpa using t11
                        have e0 : B = true := by
                          rw [← HH.out]
                          simp [codOk]
                          try omega
                        subst e0
                        clear HH
                        go_enter Try.func81, Try.ntmps81
                        go_wp2_with (first | (go_at_call 108; go_in) | (go_at_call 105; go_in) | (go_at_call 41; go_in))
                        go_ret
                        exact ⟨rfl, (HB _).out⟩
                      · skip
                        have t11n0 : decide (x5 ≤ 100000) = false := by first | omega | (simp; omega) | simpa using t11
                        have t11n1 : 100000 < x5 := by first | omega | (simp; omega) | simpa using t11
                        have e0 : B = false := by
                          rw [← HH.out]
                          simp [codOk]
                          try omega
                        subst e0
                        clear HH
                        go_enter Try.func81, Try.ntmps81
                        go_wp2_with (first | (go_at_call 108; go_in) | (go_at_call 105; go_in) | (go_at_call 41; go_in))
                        go_ret
                        exact ⟨rfl, (HB _).out⟩
                    · skip
                      have t10n0 : decide (1 ≤ x5) = false := by first | omega | (simp; omega) | simpa using t10
                      have t10n1 : x5 < 1 := by first | omega | (simp; omega) | simpa using t10
                      have e0 : B = false := by
                        rw [← HH.out]
                        simp [codOk]
                        try omega
                      subst e0
                      clear HH
                      go_enter Try.func81, Try.ntmps81
                      go_wp2_with (first | (go_at_call 108; go_in) | (go_at_call 105; go_in) | (go_at_call 41; go_in))
                      go_ret
                      exact ⟨rfl, (HB _).out⟩
                  · skip
                    have t9n0 : (x2 != 0) = false := by first | omega | (simp; omega) | simpa using t9
                    have t9n1 : x2 = 0 := by first | omega | (simp; omega) | simpa using t9
                    have e0 : B = false := by
                      rw [← HH.out]
                      simp [codOk]
                      try omega
                    subst e0
                    clear HH
                    go_enter Try.func81, Try.ntmps81
                    go_wp2_with (first | (go_at_call 108; go_in) | (go_at_call 105; go_in) | (go_at_call 41; go_in))
                    go_ret
                    exact ⟨rfl, (HB _).out⟩
                · skip
                  have t8n0 : decide (x4 ≤ 1000000000) = false := by first | omega | (simp; omega) | simpa using t8
                  have t8n1 : 1000000000 < x4 := by first | omega | (simp; omega) | simpa using t8
                  have e0 : B = false := by
                    rw [← HH.out]
                    simp [codOk]
                    try omega
                  subst e0
                  clear HH
                  go_enter Try.func81, Try.ntmps81
                  go_wp2_with (first | (go_at_call 108; go_in) | (go_at_call 105; go_in) | (go_at_call 41; go_in))
                  go_ret
                  exact ⟨rfl, (HB _).out⟩
              · skip
                have t7n0 : decide (0 ≤ x4) = false := by first | omega | (simp; omega) | simpa using t7
                have t7n1 : x4 < 0 := by first | omega | (simp; omega) | simpa using t7
                have e0 : B = false := by
                  rw [← HH.out]
                  simp [codOk]
                  try omega
                subst e0
                clear HH
                go_enter Try.func81, Try.ntmps81
                go_wp2_with (first | (go_at_call 108; go_in) | (go_at_call 105; go_in) | (go_at_call 41; go_in))
                go_ret
                exact ⟨rfl, (HB _).out⟩
            · skip
              have t6n0 : decide (x2 ≤ 1000000000) = false := by first | omega | (simp; omega) | simpa using t6
              have t6n1 : 1000000000 < x2 := by first | omega | (simp; omega) | simpa using t6
              have e0 : B = false := by
                rw [← HH.out]
                simp [codOk]
                try omega
              subst e0
              clear HH
              go_enter Try.func81, Try.ntmps81
              go_wp2_with (first | (go_at_call 108; go_in) | (go_at_call 105; go_in) | (go_at_call 41; go_in))
              go_ret
              exact ⟨rfl, (HB _).out⟩
          · skip
            have t5n0 : decide (0 ≤ x2) = false := by first | omega | (simp; omega) | simpa using t5
            have t5n1 : x2 < 0 := by first | omega | (simp; omega) | simpa using t5
            have e0 : B = false := by
              rw [← HH.out]
              simp [codOk]
              try omega
            subst e0
            clear HH
            go_enter Try.func81, Try.ntmps81
            go_wp2_with (first | (go_at_call 108; go_in) | (go_at_call 105; go_in) | (go_at_call 41; go_in))
            go_ret
            exact ⟨rfl, (HB _).out⟩
        · skip
          have t4n0 : decide (x1 ≤ 100000) = false := by first | omega | (simp; omega) | simpa using t4
          have t4n1 : 100000 < x1 := by first | omega | (simp; omega) | simpa using t4
          have e0 : B = false := by
            rw [← HH.out]
            simp [codOk]
            try omega
          subst e0
          clear HH
          go_enter Try.func81, Try.ntmps81
          go_wp2_with (first | (go_at_call 108; go_in) | (go_at_call 105; go_in) | (go_at_call 41; go_in))
          go_ret
          exact ⟨rfl, (HB _).out⟩
      · skip
        have t3n0 : decide (1 ≤ x1) = false := by first | omega | (simp; omega) | simpa using t3
        have t3n1 : x1 < 1 := by first | omega | (simp; omega) | simpa using t3
        have e0 : B = false := by
          rw [← HH.out]
          simp [codOk]
          try omega
        subst e0
        clear HH
        go_enter Try.func81, Try.ntmps81
        go_wp2_with (first | (go_at_call 108; go_in) | (go_at_call 105; go_in) | (go_at_call 41; go_in))
        go_ret
        exact ⟨rfl, (HB _).out⟩
    · skip
      have t2n0 : decide (x0 ≤ 100000) = false := by first | omega | (simp; omega) | simpa using t2
      have t2n1 : 100000 < x0 := by first | omega | (simp; omega) | simpa using t2
      have e0 : B = false := by
        rw [← HH.out]
        simp [codOk]
        try omega
      subst e0
      clear HH
      go_enter Try.func81, Try.ntmps81
      go_wp2_with (first | (go_at_call 108; go_in) | (go_at_call 105; go_in) | (go_at_call 41; go_in))
      go_ret
      exact ⟨rfl, (HB _).out⟩
  · skip
    have t1n0 : decide (0 ≤ x0) = false := by first | omega | (simp; omega) | simpa using t1
    have t1n1 : x0 < 0 := by first | omega | (simp; omega) | simpa using t1
    have e0 : B = false := by
      rw [← HH.out]
      simp [codOk]
      try omega
    subst e0
    clear HH
    go_enter Try.func81, Try.ntmps81
    go_wp2_with (first | (go_at_call 108; go_in) | (go_at_call 105; go_in) | (go_at_call 41; go_in))
    go_ret
    exact ⟨rfl, (HB _).out⟩

set_option maxHeartbeats 2000000 in
theorem impl_codelok_false (x0 x1 x2 x4 x5 : Int) (w : World) :
    Calls Try.prog 81 #[.agg #[.int .i64 x0, .int .i64 x1, .int .i64 x2, .bool false, .int .i64 x4, .int .i64 x5]] w fun e w' => e = .returned (.bool (codOk ⟨x0, x1, x2, false, x4, x5⟩)) ∧ Below w.heap.size w w' := by
  have HB : ∀ A : Obj, Hid (Below w.heap.size w (w.alloc A)) := fun A => (Below.refl _ _).alloc (Nat.le_refl _) _
  obtain ⟨B, hB⟩ : ∃ B, codOk ⟨x0, x1, x2, false, x4, x5⟩ = B := ⟨_, rfl⟩
  rw [hB]
  have HH : Hid (codOk ⟨x0, x1, x2, false, x4, x5⟩ = B) := hB
  clear hB
  by_cases t1 : 0 ≤ x0
  · skip
    have t1p0 : decide (0 ≤ x0) = true := by first | omega | (simp; omega) | simpa using t1
    by_cases t2 : x0 ≤ 100000
    · skip
      have t2p0 : decide (x0 ≤ 100000) = true := by first | omega | (simp; omega) | simpa using t2
      by_cases t3 : 1 ≤ x1
      · skip
        have t3p0 : decide (1 ≤ x1) = true := by first | omega | (simp; omega) | simpa using t3
        by_cases t4 : x1 ≤ 100000
        · skip
          have t4p0 : decide (x1 ≤ 100000) = true := by first | omega | (simp; omega) | simpa using t4
          by_cases t5 : 0 ≤ x2
          · skip
            have t5p0 : decide (0 ≤ x2) = true := by first | omega | (simp; omega) | simpa using t5
            by_cases t6 : x2 ≤ 1000000000
            · skip
              have t6p0 : decide (x2 ≤ 1000000000) = true := by first | omega | (simp; omega) | simpa using t6
              by_cases t7 : 0 ≤ x4
              · skip
                have t7p0 : decide (0 ≤ x4) = true := by first | omega | (simp; omega) | simpa using t7
                by_cases t8 : x4 ≤ 1000000000
                · skip
                  have t8p0 : decide (x4 ≤ 1000000000) = true := by first | omega | (simp; omega) | simpa using t8
                  by_cases t9 : x4 = 0
                  · skip
                    have t9p0 : (x4 == 0) = true := by first | omega | (simp; omega) | simpa using t9
                    by_cases t10 : x5 = 0
                    · skip
                      have t10p0 : (x5 == 0) = true := by first | omega | (simp; omega) | simpa using t10
                      have e0 : B = true := by
                        rw [← HH.out]
                        simp [codOk]
                        try omega
                      subst e0
                      clear HH
                      go_enter Try.func81, Try.ntmps81
                      go_wp2_with (first | (go_at_call 108; go_in) | (go_at_call 105; go_in) | (go_at_call 41; go_in))
                      go_ret
                      exact ⟨rfl, (HB _).out⟩
                    · skip
                      have t10n0 : (x5 == 0) = false := by first | omega | (simp; omega) | simpa using t10
                      have e0 : B = false := by
                        rw [← HH.out]
                        simp [codOk]
                        try omega
                      subst e0
                      clear HH
                      go_enter Try.func81, Try.ntmps81
                      go_wp2_with (first | (go_at_call 108; go_in) | (go_at_call 105; go_in) | (go_at_call 41; go_in))
                      go_ret
                      exact ⟨rfl, (HB _).out⟩
                  · skip
                    have t9n0 : (x4 == 0) = false := by first | omega | (simp; omega) | simpa using t9
                    have e0 : B = false := by
                      rw [← HH.out]
                      simp [codOk]
                      try omega
                    subst e0
                    clear HH
                    go_enter Try.func81, Try.ntmps81
                    go_wp2_with (first | (go_at_call 108; go_in) | (go_at_call 105; go_in) | (go_at_call 41; go_in))
                    go_ret
                    exact ⟨rfl, (HB _).out⟩
                · skip
                  have t8n0 : decide (x4 ≤ 1000000000) = false := by first | omega | (simp; omega) | simpa using t8
                  have t8n1 : 1000000000 < x4 := by first | omega | (simp; omega) | simpa using t8
                  have e0 : B = false := by
                    rw [← HH.out]
                    simp [codOk]
                    try omega
                  subst e0
                  clear HH
                  go_enter Try.func81, Try.ntmps81
                  go_wp2_with (first | (go_at_call 108; go_in) | (go_at_call 105; go_in) | (go_at_call 41; go_in))
                  go_ret
                  exact ⟨rfl, (HB _).out⟩
              · skip
                have t7n0 : decide (0 ≤ x4) = false := by first | omega | (simp; omega) | simpa using t7
                have t7n1 : x4 < 0 := by first | omega | (simp; omega) | simpa using t7
                have e0 : B = false := by
                  rw [← HH.out]
                  simp [codOk]
                  try omega
                subst e0
                clear HH
                go_enter Try.func81, Try.ntmps81
                go_wp2_with (first | (go_at_call 108; go_in) | (go_at_call 105; go_in) | (go_at_call 41; go_in))
                go_ret
                exact ⟨rfl, (HB _).out⟩
            · skip
              have t6n0 : decide (x2 ≤ 1000000000) = false := by first | omega | (simp; omega) | simpa using t6
              have t6n1 : 1000000000 < x2 := by first | omega | (simp; omega) | simpa using t6
              have e0 : B = false := by
                rw [← HH.out]
                simp [codOk]
                try omega
              subst e0
              clear HH
              go_enter Try.func81, Try.ntmps81
              go_wp2_with (first | (go_at_call 108; go_in) | (go_at_call 105; go_in) | (go_at_call 41; go_in))
              go_ret
              exact ⟨rfl, (HB _).out⟩
          · skip
            have t5n0 : decide (0 ≤ x2) = false := by first | omega | (simp; omega) | simpa using t5
            have t5n1 : x2 < 0 := by first | omega | (simp; omega) | simpa using t5
            have e0 : B = false := by
              rw [← HH.out]
              simp [codOk]
              try omega
            subst e0
            clear HH
            go_enter Try.func81, Try.ntmps81
            go_wp2_with (first | (go_at_call 108; go_in) | (go_at_call 105; go_in) | (go_at_call 41; go_in))
            go_ret
            exact ⟨rfl, (HB _).out⟩
        · skip
          have t4n0 : decide (x1 ≤ 100000) = false := by first | omega | (simp; omega) | simpa using t4
          have t4n1 : 100000 < x1 := by first | omega | (simp; omega) | simpa using t4
          have e0 : B = false := by
            rw [← HH.out]
            simp [codOk]
            try omega
          subst e0
          clear HH
          go_enter Try.func81, Try.ntmps81
          go_wp2_with (first | (go_at_call 108; go_in) | (go_at_call 105; go_in) | (go_at_call 41; go_in))
          go_ret
          exact ⟨rfl, (HB _).out⟩
      · skip
        have t3n0 : decide (1 ≤ x1) = false := by first | omega | (simp; omega) | simpa using t3
        have t3n1 : x1 < 1 := by first | omega | (simp; omega) | simpa using t3
        have e0 : B = false := by
          rw [← HH.out]
          simp [codOk]
          try omega
        subst e0
        clear HH
        go_enter Try.func81, Try.ntmps81
        go_wp2_with (first | (go_at_call 108; go_in) | (go_at_call 105; go_in) | (go_at_call 41; go_in))
        go_ret
        exact ⟨rfl, (HB _).out⟩
    · skip
      have t2n0 : decide (x0 ≤ 100000) = false := by first | omega | (simp; omega) | simpa using t2
      have t2n1 : 100000 < x0 := by first | omega | (simp; omega) | simpa using t2
      have e0 : B = false := by
        rw [← HH.out]
        simp [codOk]
        try omega
      subst e0
      clear HH
      go_enter Try.func81, Try.ntmps81
      go_wp2_with (first | (go_at_call 108; go_in) | (go_at_call 105; go_in) | (go_at_call 41; go_in))
      go_ret
      exact ⟨rfl, (HB _).out⟩
  · skip
    have t1n0 : decide (0 ≤ x0) = false := by first | omega | (simp; omega) | simpa using t1
    have t1n1 : x0 < 0 := by first | omega | (simp; omega) | simpa using t1
    have e0 : B = false := by
      rw [← HH.out]
      simp [codOk]
      try omega
    subst e0
    clear HH
    go_enter Try.func81, Try.ntmps81
    go_wp2_with (first | (go_at_call 108; go_in) | (go_at_call 105; go_in) | (go_at_call 41; go_in))
    go_ret
    exact ⟨rfl, (HB _).out⟩

theorem impl_codelok (x0 x1 x2 : Int) (x3 : Bool) (x4 x5 : Int) (w : World) : Calls Try.prog 81 #[.agg #[.int .i64 x0, .int .i64 x1, .int .i64 x2, .bool x3, .int .i64 x4, .int .i64 x5]] w fun e w' => e = .returned (.bool (codOk ⟨x0, x1, x2, x3, x4, x5⟩)) ∧ Below w.heap.size w w' := by
  cases x3
  · exact impl_codelok_false x0 x1 x2 x4 x5 w
  · exact impl_codelok_true x0 x1 x2 x4 x5 w
end Go.Proofs.Ytnabnghjejncpaa.CodOkI
