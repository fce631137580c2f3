/- What the model's and the program's ReqOk answer, at every request; nothing else turns. -/
import Derived.Test.YtnejomfaojpicaaRows
import Derived.WalkKit
import Derived.WalkSmall
import Derived.BigQuiet
import Derived.Test.YtnejomfaojpicaaReqKit
namespace Go.Proofs.Ytnejomfaojpicaa.ReqOks
open Go.RowKit ReqKit
set_option maxRecDepth 8000
set_option linter.unusedVariables false
set_option linter.unusedSimpArgs false

/-- A request is right. -/
def reqOk (s : Req) : Bool := decide (1 ≤ s.x0 ∧ s.x0 ≤ 1000000 ∧ 0 ≤ s.x1 ∧ s.x1 < 4 ∧ 0 ≤ s.x2 ∧ s.x2 ≤ 1000 ∧ 0 ≤ s.x3 ∧ s.x3 ≤ 1000000000 ∧ 0 ≤ s.x4 ∧ s.x4 ≤ 1000000000 ∧ 0 ≤ s.x5 ∧ s.x5 ≤ 20)

set_option maxHeartbeats 2000000 in
theorem spec_reqok (x0 x1 x2 x3 x4 x5 : Int) (w : World) :
    Calls Try.prog 34 #[.agg #[.int .i64 x0, .int .i64 x1, .int .i64 x2, .int .i64 x3, .int .i64 x4, .int .i64 x5]] w fun e w' => e = .returned (.bool (reqOk ⟨x0, x1, x2, x3, x4, x5⟩)) ∧ Below w.heap.size w w' := by
  have HB : ∀ A : Obj, Hid (Below w.heap.size w (w.alloc A)) := fun A => (Below.refl _ _).alloc (Nat.le_refl _) _
  obtain ⟨B, hB⟩ : ∃ B, reqOk ⟨x0, x1, x2, x3, x4, x5⟩ = B := ⟨_, rfl⟩
  rw [hB]
  have HH : Hid (reqOk ⟨x0, x1, x2, x3, x4, x5⟩ = B) := hB
  clear hB
  by_cases t1 : 1 ≤ x0
  · skip
    have t1p0 : decide (1 ≤ x0) = true := by first | omega | (simp; omega) | simpa using t1
    by_cases t2 : x0 ≤ 1000000
    · skip
      have t2p0 : decide (x0 ≤ 1000000) = true := by first | omega | (simp; omega) | simpa using t2
      by_cases t3 : 0 ≤ x1
      · skip
        have t3p0 : decide (0 ≤ x1) = true := by first | omega | (simp; omega) | simpa using t3
        by_cases t4 : x1 < 4
        · skip
          have t4p0 : decide (x1 < 4) = true := by first | omega | (simp; omega) | simpa using t4
          by_cases t5 : 0 ≤ x2
          · skip
            have t5p0 : decide (0 ≤ x2) = true := by first | omega | (simp; omega) | simpa using t5
            by_cases t6 : x2 ≤ 1000
            · skip
              have t6p0 : decide (x2 ≤ 1000) = true := by first | omega | (simp; omega) | simpa using t6
              by_cases t7 : 0 ≤ x3
              · skip
                have t7p0 : decide (0 ≤ x3) = true := by first | omega | (simp; omega) | simpa using t7
                by_cases t8 : x3 ≤ 1000000000
                · skip
                  have t8p0 : decide (x3 ≤ 1000000000) = true := by first | omega | (simp; omega) | simpa using t8
                  by_cases t9 : 0 ≤ x4
                  · skip
                    have t9p0 : decide (0 ≤ x4) = true := by first | omega | (simp; omega) | simpa using t9
                    by_cases t10 : x4 ≤ 1000000000
                    · skip
                      have t10p0 : decide (x4 ≤ 1000000000) = true := by first | omega | (simp; omega) | simpa using t10
                      by_cases t11 : 0 ≤ x5
                      · skip
                        have t11p0 : decide (0 ≤ x5) = true := by first | omega | (simp; omega) | simpa using t11
                        by_cases t12 : x5 ≤ 20
                        · skip
                          have t12p0 : decide (x5 ≤ 20) = true := by first | omega | (simp; omega) | simpa using t12
                          have e0 : B = true := by
                            rw [← HH.out]
                            simp [reqOk]
                            try omega
                          subst e0
                          clear HH
                          go_enter Try.func34, Try.ntmps34
                          go_wp2_with ((go_at_call 46; go_in))
                          go_ret
                          exact ⟨rfl, (HB _).out⟩
                        · skip
                          have t12n0 : decide (x5 ≤ 20) = false := by first | omega | (simp; omega) | simpa using t12
                          have t12n1 : 20 < x5 := by first | omega | (simp; omega) | simpa using t12
                          have e0 : B = false := by
                            rw [← HH.out]
                            simp [reqOk]
                            try omega
                          subst e0
                          clear HH
                          go_enter Try.func34, Try.ntmps34
                          go_wp2_with ((go_at_call 46; go_in))
                          go_ret
                          exact ⟨rfl, (HB _).out⟩
                      · skip
                        have t11n0 : decide (0 ≤ x5) = false := by first | omega | (simp; omega) | simpa using t11
                        have t11n1 : x5 < 0 := by first | omega | (simp; omega) | simpa using t11
                        have e0 : B = false := by
                          rw [← HH.out]
                          simp [reqOk]
                          try omega
                        subst e0
                        clear HH
                        go_enter Try.func34, Try.ntmps34
                        go_wp2_with ((go_at_call 46; go_in))
                        go_ret
                        exact ⟨rfl, (HB _).out⟩
                    · skip
                      have t10n0 : decide (x4 ≤ 1000000000) = false := by first | omega | (simp; omega) | simpa using t10
                      have t10n1 : 1000000000 < x4 := by first | omega | (simp; omega) | simpa using t10
                      have e0 : B = false := by
                        rw [← HH.out]
                        simp [reqOk]
                        try omega
                      subst e0
                      clear HH
                      go_enter Try.func34, Try.ntmps34
                      go_wp2_with ((go_at_call 46; go_in))
                      go_ret
                      exact ⟨rfl, (HB _).out⟩
                  · skip
                    have t9n0 : decide (0 ≤ x4) = false := by first | omega | (simp; omega) | simpa using t9
                    have t9n1 : x4 < 0 := by first | omega | (simp; omega) | simpa using t9
                    have e0 : B = false := by
                      rw [← HH.out]
                      simp [reqOk]
                      try omega
                    subst e0
                    clear HH
                    go_enter Try.func34, Try.ntmps34
                    go_wp2_with ((go_at_call 46; go_in))
                    go_ret
                    exact ⟨rfl, (HB _).out⟩
                · skip
                  have t8n0 : decide (x3 ≤ 1000000000) = false := by first | omega | (simp; omega) | simpa using t8
                  have t8n1 : 1000000000 < x3 := by first | omega | (simp; omega) | simpa using t8
                  have e0 : B = false := by
                    rw [← HH.out]
                    simp [reqOk]
                    try omega
                  subst e0
                  clear HH
                  go_enter Try.func34, Try.ntmps34
                  go_wp2_with ((go_at_call 46; go_in))
                  go_ret
                  exact ⟨rfl, (HB _).out⟩
              · skip
                have t7n0 : decide (0 ≤ x3) = false := by first | omega | (simp; omega) | simpa using t7
                have t7n1 : x3 < 0 := by first | omega | (simp; omega) | simpa using t7
                have e0 : B = false := by
                  rw [← HH.out]
                  simp [reqOk]
                  try omega
                subst e0
                clear HH
                go_enter Try.func34, Try.ntmps34
                go_wp2_with ((go_at_call 46; go_in))
                go_ret
                exact ⟨rfl, (HB _).out⟩
            · skip
              have t6n0 : decide (x2 ≤ 1000) = false := by first | omega | (simp; omega) | simpa using t6
              have t6n1 : 1000 < x2 := by first | omega | (simp; omega) | simpa using t6
              have e0 : B = false := by
                rw [← HH.out]
                simp [reqOk]
                try omega
              subst e0
              clear HH
              go_enter Try.func34, Try.ntmps34
              go_wp2_with ((go_at_call 46; go_in))
              go_ret
              exact ⟨rfl, (HB _).out⟩
          · skip
            have t5n0 : decide (0 ≤ x2) = false := by first | omega | (simp; omega) | simpa using t5
            have t5n1 : x2 < 0 := by first | omega | (simp; omega) | simpa using t5
            have e0 : B = false := by
              rw [← HH.out]
              simp [reqOk]
              try omega
            subst e0
            clear HH
            go_enter Try.func34, Try.ntmps34
            go_wp2_with ((go_at_call 46; go_in))
            go_ret
            exact ⟨rfl, (HB _).out⟩
        · skip
          have t4n0 : decide (x1 < 4) = false := by first | omega | (simp; omega) | simpa using t4
          have t4n1 : 4 ≤ x1 := by first | omega | (simp; omega) | simpa using t4
          have e0 : B = false := by
            rw [← HH.out]
            simp [reqOk]
            try omega
          subst e0
          clear HH
          go_enter Try.func34, Try.ntmps34
          go_wp2_with ((go_at_call 46; go_in))
          go_ret
          exact ⟨rfl, (HB _).out⟩
      · skip
        have t3n0 : decide (0 ≤ x1) = false := by first | omega | (simp; omega) | simpa using t3
        have t3n1 : x1 < 0 := by first | omega | (simp; omega) | simpa using t3
        have e0 : B = false := by
          rw [← HH.out]
          simp [reqOk]
          try omega
        subst e0
        clear HH
        go_enter Try.func34, Try.ntmps34
        go_wp2_with ((go_at_call 46; go_in))
        go_ret
        exact ⟨rfl, (HB _).out⟩
    · skip
      have t2n0 : decide (x0 ≤ 1000000) = false := by first | omega | (simp; omega) | simpa using t2
      have t2n1 : 1000000 < x0 := by first | omega | (simp; omega) | simpa using t2
      have e0 : B = false := by
        rw [← HH.out]
        simp [reqOk]
        try omega
      subst e0
      clear HH
      go_enter Try.func34, Try.ntmps34
      go_wp2_with ((go_at_call 46; go_in))
      go_ret
      exact ⟨rfl, (HB _).out⟩
  · skip
    have t1n0 : decide (1 ≤ x0) = false := by first | omega | (simp; omega) | simpa using t1
    have t1n1 : x0 < 1 := by first | omega | (simp; omega) | simpa using t1
    have e0 : B = false := by
      rw [← HH.out]
      simp [reqOk]
      try omega
    subst e0
    clear HH
    go_enter Try.func34, Try.ntmps34
    go_wp2_with ((go_at_call 46; go_in))
    go_ret
    exact ⟨rfl, (HB _).out⟩

set_option maxHeartbeats 2000000 in
theorem impl_reqok (x0 x1 x2 x3 x4 x5 : Int) (w : World) :
    Calls Try.prog 26 #[.agg #[.int .i64 x0, .int .i64 x1, .int .i64 x2, .int .i64 x3, .int .i64 x4, .int .i64 x5]] w fun e w' => e = .returned (.bool (reqOk ⟨x0, x1, x2, x3, x4, x5⟩)) ∧ Below w.heap.size w w' := by
  have HB : ∀ A : Obj, Hid (Below w.heap.size w (w.alloc A)) := fun A => (Below.refl _ _).alloc (Nat.le_refl _) _
  obtain ⟨B, hB⟩ : ∃ B, reqOk ⟨x0, x1, x2, x3, x4, x5⟩ = B := ⟨_, rfl⟩
  rw [hB]
  have HH : Hid (reqOk ⟨x0, x1, x2, x3, x4, x5⟩ = B) := hB
  clear hB
  by_cases t1 : 1 ≤ x0
  · skip
    have t1p0 : decide (1 ≤ x0) = true := by first | omega | (simp; omega) | simpa using t1
    by_cases t2 : x0 ≤ 1000000
    · skip
      have t2p0 : decide (x0 ≤ 1000000) = true := by first | omega | (simp; omega) | simpa using t2
      by_cases t3 : 0 ≤ x1
      · skip
        have t3p0 : decide (0 ≤ x1) = true := by first | omega | (simp; omega) | simpa using t3
        by_cases t4 : x1 < 4
        · skip
          have t4p0 : decide (x1 < 4) = true := by first | omega | (simp; omega) | simpa using t4
          by_cases t5 : 0 ≤ x2
          · skip
            have t5p0 : decide (0 ≤ x2) = true := by first | omega | (simp; omega) | simpa using t5
            by_cases t6 : x2 ≤ 1000
            · skip
              have t6p0 : decide (x2 ≤ 1000) = true := by first | omega | (simp; omega) | simpa using t6
              by_cases t7 : 0 ≤ x3
              · skip
                have t7p0 : decide (0 ≤ x3) = true := by first | omega | (simp; omega) | simpa using t7
                by_cases t8 : x3 ≤ 1000000000
                · skip
                  have t8p0 : decide (x3 ≤ 1000000000) = true := by first | omega | (simp; omega) | simpa using t8
                  by_cases t9 : 0 ≤ x4
                  · skip
                    have t9p0 : decide (0 ≤ x4) = true := by first | omega | (simp; omega) | simpa using t9
                    by_cases t10 : x4 ≤ 1000000000
                    · skip
                      have t10p0 : decide (x4 ≤ 1000000000) = true := by first | omega | (simp; omega) | simpa using t10
                      by_cases t11 : 0 ≤ x5
                      · skip
                        have t11p0 : decide (0 ≤ x5) = true := by first | omega | (simp; omega) | simpa using t11
                        by_cases t12 : x5 ≤ 20
                        · skip
                          have t12p0 : decide (x5 ≤ 20) = true := by first | omega | (simp; omega) | simpa using t12
                          have e0 : B = true := by
                            rw [← HH.out]
                            simp [reqOk]
                            try omega
                          subst e0
                          clear HH
                          go_enter Try.func26, Try.ntmps26
                          go_wp2_with (first | (go_at_call 39; go_in) | (go_at_call 40; go_in) | (go_at_call 41; go_in) | (go_at_call 42; go_in) | (go_at_call 43; go_in))
                          go_ret
                          exact ⟨rfl, (HB _).out⟩
                        · skip
                          have t12n0 : decide (x5 ≤ 20) = false := by first | omega | (simp; omega) | simpa using t12
                          have t12n1 : 20 < x5 := by first | omega | (simp; omega) | simpa using t12
                          have e0 : B = false := by
                            rw [← HH.out]
                            simp [reqOk]
                            try omega
                          subst e0
                          clear HH
                          go_enter Try.func26, Try.ntmps26
                          go_wp2_with (first | (go_at_call 39; go_in) | (go_at_call 40; go_in) | (go_at_call 41; go_in) | (go_at_call 42; go_in) | (go_at_call 43; go_in))
                          go_ret
                          exact ⟨rfl, (HB _).out⟩
                      · skip
                        have t11n0 : decide (0 ≤ x5) = false := by first | omega | (simp; omega) | simpa using t11
                        have t11n1 : x5 < 0 := by first | omega | (simp; omega) | simpa using t11
                        have e0 : B = false := by
                          rw [← HH.out]
                          simp [reqOk]
                          try omega
                        subst e0
                        clear HH
                        go_enter Try.func26, Try.ntmps26
                        go_wp2_with (first | (go_at_call 39; go_in) | (go_at_call 40; go_in) | (go_at_call 41; go_in) | (go_at_call 42; go_in) | (go_at_call 43; go_in))
                        go_ret
                        exact ⟨rfl, (HB _).out⟩
                    · skip
                      have t10n0 : decide (x4 ≤ 1000000000) = false := by first | omega | (simp; omega) | simpa using t10
                      have t10n1 : 1000000000 < x4 := by first | omega | (simp; omega) | simpa using t10
                      have e0 : B = false := by
                        rw [← HH.out]
                        simp [reqOk]
                        try omega
                      subst e0
                      clear HH
                      go_enter Try.func26, Try.ntmps26
                      go_wp2_with (first | (go_at_call 39; go_in) | (go_at_call 40; go_in) | (go_at_call 41; go_in) | (go_at_call 42; go_in) | (go_at_call 43; go_in))
                      go_ret
                      exact ⟨rfl, (HB _).out⟩
                  · skip
                    have t9n0 : decide (0 ≤ x4) = false := by first | omega | (simp; omega) | simpa using t9
                    have t9n1 : x4 < 0 := by first | omega | (simp; omega) | simpa using t9
                    have e0 : B = false := by
                      rw [← HH.out]
                      simp [reqOk]
                      try omega
                    subst e0
                    clear HH
                    go_enter Try.func26, Try.ntmps26
                    go_wp2_with (first | (go_at_call 39; go_in) | (go_at_call 40; go_in) | (go_at_call 41; go_in) | (go_at_call 42; go_in) | (go_at_call 43; go_in))
                    go_ret
                    exact ⟨rfl, (HB _).out⟩
                · skip
                  have t8n0 : decide (x3 ≤ 1000000000) = false := by first | omega | (simp; omega) | simpa using t8
                  have t8n1 : 1000000000 < x3 := by first | omega | (simp; omega) | simpa using t8
                  have e0 : B = false := by
                    rw [← HH.out]
                    simp [reqOk]
                    try omega
                  subst e0
                  clear HH
                  go_enter Try.func26, Try.ntmps26
                  go_wp2_with (first | (go_at_call 39; go_in) | (go_at_call 40; go_in) | (go_at_call 41; go_in) | (go_at_call 42; go_in) | (go_at_call 43; go_in))
                  go_ret
                  exact ⟨rfl, (HB _).out⟩
              · skip
                have t7n0 : decide (0 ≤ x3) = false := by first | omega | (simp; omega) | simpa using t7
                have t7n1 : x3 < 0 := by first | omega | (simp; omega) | simpa using t7
                have e0 : B = false := by
                  rw [← HH.out]
                  simp [reqOk]
                  try omega
                subst e0
                clear HH
                go_enter Try.func26, Try.ntmps26
                go_wp2_with (first | (go_at_call 39; go_in) | (go_at_call 40; go_in) | (go_at_call 41; go_in) | (go_at_call 42; go_in) | (go_at_call 43; go_in))
                go_ret
                exact ⟨rfl, (HB _).out⟩
            · skip
              have t6n0 : decide (x2 ≤ 1000) = false := by first | omega | (simp; omega) | simpa using t6
              have t6n1 : 1000 < x2 := by first | omega | (simp; omega) | simpa using t6
              have e0 : B = false := by
                rw [← HH.out]
                simp [reqOk]
                try omega
              subst e0
              clear HH
              go_enter Try.func26, Try.ntmps26
              go_wp2_with (first | (go_at_call 39; go_in) | (go_at_call 40; go_in) | (go_at_call 41; go_in) | (go_at_call 42; go_in) | (go_at_call 43; go_in))
              go_ret
              exact ⟨rfl, (HB _).out⟩
          · skip
            have t5n0 : decide (0 ≤ x2) = false := by first | omega | (simp; omega) | simpa using t5
            have t5n1 : x2 < 0 := by first | omega | (simp; omega) | simpa using t5
            have e0 : B = false := by
              rw [← HH.out]
              simp [reqOk]
              try omega
            subst e0
            clear HH
            go_enter Try.func26, Try.ntmps26
            go_wp2_with (first | (go_at_call 39; go_in) | (go_at_call 40; go_in) | (go_at_call 41; go_in) | (go_at_call 42; go_in) | (go_at_call 43; go_in))
            go_ret
            exact ⟨rfl, (HB _).out⟩
        · skip
          have t4n0 : decide (x1 < 4) = false := by first | omega | (simp; omega) | simpa using t4
          have t4n1 : 4 ≤ x1 := by first | omega | (simp; omega) | simpa using t4
          have e0 : B = false := by
            rw [← HH.out]
            simp [reqOk]
            try omega
          subst e0
          clear HH
          go_enter Try.func26, Try.ntmps26
          go_wp2_with (first | (go_at_call 39; go_in) | (go_at_call 40; go_in) | (go_at_call 41; go_in) | (go_at_call 42; go_in) | (go_at_call 43; go_in))
          go_ret
          exact ⟨rfl, (HB _).out⟩
      · skip
        have t3n0 : decide (0 ≤ x1) = false := by first | omega | (simp; omega) | simpa using t3
        have t3n1 : x1 < 0 := by first | omega | (simp; omega) | simpa using t3
        have e0 : B = false := by
          rw [← HH.out]
          simp [reqOk]
          try omega
        subst e0
        clear HH
        go_enter Try.func26, Try.ntmps26
        go_wp2_with (first | (go_at_call 39; go_in) | (go_at_call 40; go_in) | (go_at_call 41; go_in) | (go_at_call 42; go_in) | (go_at_call 43; go_in))
        go_ret
        exact ⟨rfl, (HB _).out⟩
    · skip
      have t2n0 : decide (x0 ≤ 1000000) = false := by first | omega | (simp; omega) | simpa using t2
      have t2n1 : 1000000 < x0 := by first | omega | (simp; omega) | simpa using t2
      have e0 : B = false := by
        rw [← HH.out]
        simp [reqOk]
        try omega
      subst e0
      clear HH
      go_enter Try.func26, Try.ntmps26
      go_wp2_with (first | (go_at_call 39; go_in) | (go_at_call 40; go_in) | (go_at_call 41; go_in) | (go_at_call 42; go_in) | (go_at_call 43; go_in))
      go_ret
      exact ⟨rfl, (HB _).out⟩
  · skip
    have t1n0 : decide (1 ≤ x0) = false := by first | omega | (simp; omega) | simpa using t1
    have t1n1 : x0 < 1 := by first | omega | (simp; omega) | simpa using t1
    have e0 : B = false := by
      rw [← HH.out]
      simp [reqOk]
      try omega
    subst e0
    clear HH
    go_enter Try.func26, Try.ntmps26
    go_wp2_with (first | (go_at_call 39; go_in) | (go_at_call 40; go_in) | (go_at_call 41; go_in) | (go_at_call 42; go_in) | (go_at_call 43; go_in))
    go_ret
    exact ⟨rfl, (HB _).out⟩

/-- a is to be shed ahead of b. -/
def worse (a b : Req) : Bool := decide (b.x1 < a.x1 ∨ (a.x1 = b.x1 ∧ (b.x4 < a.x4 ∨ (a.x4 = b.x4 ∧ b.x0 < a.x0))))

set_option maxHeartbeats 2000000 in
theorem spec_worse (a0 a1 a2 a3 a4 a5 b0 b1 b2 b3 b4 b5 : Int) (w : World) :
    Calls Try.prog 37 #[.agg #[.int .i64 a0, .int .i64 a1, .int .i64 a2, .int .i64 a3, .int .i64 a4, .int .i64 a5], .agg #[.int .i64 b0, .int .i64 b1, .int .i64 b2, .int .i64 b3, .int .i64 b4, .int .i64 b5]] w fun e w' => e = .returned (.bool (worse ⟨a0, a1, a2, a3, a4, a5⟩ ⟨b0, b1, b2, b3, b4, b5⟩)) ∧ Below w.heap.size w w' := by
  have HB : ∀ A B : Obj, Hid (Below w.heap.size w ((w.alloc A).alloc B)) := fun A B => ((Below.refl _ _).alloc (Nat.le_refl _) _).alloc (by simp) _
  obtain ⟨B, hB⟩ : ∃ B, worse ⟨a0, a1, a2, a3, a4, a5⟩ ⟨b0, b1, b2, b3, b4, b5⟩ = B := ⟨_, rfl⟩
  rw [hB]
  have HH : Hid (worse ⟨a0, a1, a2, a3, a4, a5⟩ ⟨b0, b1, b2, b3, b4, b5⟩ = B) := hB
  clear hB
  by_cases t1 : a1 = b1
  · skip
    have t1p0 : (a1 != b1) = false := by first | omega | (simp; omega) | simpa using t1
    by_cases t2 : a4 = b4
    · skip
      have t2p0 : (a4 != b4) = false := by first | omega | (simp; omega) | simpa using t2
      by_cases t3 : b0 < a0
      · skip
        have t3p0 : decide (b0 < a0) = true := by first | omega | (simp; omega) | simpa using t3
        have e0 : B = true := by
          rw [← HH.out]
          simp [worse]
          try omega
        subst e0
        clear HH
        go_enter Try.func37, Try.ntmps37
        go_wp2
        go_ret
        exact ⟨rfl, (HB _ _).out⟩
      · skip
        have t3n0 : decide (b0 < a0) = false := by first | omega | (simp; omega) | simpa using t3
        have e0 : B = false := by
          rw [← HH.out]
          simp [worse]
          try omega
        subst e0
        clear HH
        go_enter Try.func37, Try.ntmps37
        go_wp2
        go_ret
        exact ⟨rfl, (HB _ _).out⟩
    · skip
      have t2n0 : (a4 != b4) = true := by first | omega | (simp; omega) | simpa using t2
      by_cases t4 : b4 < a4
      · skip
        have t4p0 : decide (b4 < a4) = true := by first | omega | (simp; omega) | simpa using t4
        have e0 : B = true := by
          rw [← HH.out]
          simp [worse]
          try omega
        subst e0
        clear HH
        go_enter Try.func37, Try.ntmps37
        go_wp2
        go_ret
        exact ⟨rfl, (HB _ _).out⟩
      · skip
        have t4n0 : decide (b4 < a4) = false := by first | omega | (simp; omega) | simpa using t4
        have e0 : B = false := by
          rw [← HH.out]
          simp [worse]
          try omega
        subst e0
        clear HH
        go_enter Try.func37, Try.ntmps37
        go_wp2
        go_ret
        exact ⟨rfl, (HB _ _).out⟩
  · skip
    have t1n0 : (a1 != b1) = true := by first | omega | (simp; omega) | simpa using t1
    by_cases t5 : b1 < a1
    · skip
      have t5p0 : decide (b1 < a1) = true := by first | omega | (simp; omega) | simpa using t5
      have e0 : B = true := by
        rw [← HH.out]
        simp [worse]
        try omega
      subst e0
      clear HH
      go_enter Try.func37, Try.ntmps37
      go_wp2
      go_ret
      exact ⟨rfl, (HB _ _).out⟩
    · skip
      have t5n0 : decide (b1 < a1) = false := by first | omega | (simp; omega) | simpa using t5
      have e0 : B = false := by
        rw [← HH.out]
        simp [worse]
        try omega
      subst e0
      clear HH
      go_enter Try.func37, Try.ntmps37
      go_wp2
      go_ret
      exact ⟨rfl, (HB _ _).out⟩

set_option maxHeartbeats 2000000 in
theorem impl_worse (a0 a1 a2 a3 a4 a5 b0 b1 b2 b3 b4 b5 : Int) (w : World) :
    Calls Try.prog 28 #[.agg #[.int .i64 a0, .int .i64 a1, .int .i64 a2, .int .i64 a3, .int .i64 a4, .int .i64 a5], .agg #[.int .i64 b0, .int .i64 b1, .int .i64 b2, .int .i64 b3, .int .i64 b4, .int .i64 b5]] w fun e w' => e = .returned (.bool (worse ⟨a0, a1, a2, a3, a4, a5⟩ ⟨b0, b1, b2, b3, b4, b5⟩)) ∧ Below w.heap.size w w' := by
  have HB : ∀ A B : Obj, Hid (Below w.heap.size w ((w.alloc A).alloc B)) := fun A B => ((Below.refl _ _).alloc (Nat.le_refl _) _).alloc (by simp) _
  obtain ⟨B, hB⟩ : ∃ B, worse ⟨a0, a1, a2, a3, a4, a5⟩ ⟨b0, b1, b2, b3, b4, b5⟩ = B := ⟨_, rfl⟩
  rw [hB]
  have HH : Hid (worse ⟨a0, a1, a2, a3, a4, a5⟩ ⟨b0, b1, b2, b3, b4, b5⟩ = B) := hB
  clear hB
  by_cases t1 : a1 = b1
  · skip
    have t1p0 : (a1 != b1) = false := by first | omega | (simp; omega) | simpa using t1
    by_cases t2 : a4 = b4
    · skip
      have t2p0 : (a4 != b4) = false := by first | omega | (simp; omega) | simpa using t2
      by_cases t3 : b0 < a0
      · skip
        have t3p0 : decide (b0 < a0) = true := by first | omega | (simp; omega) | simpa using t3
        have e0 : B = true := by
          rw [← HH.out]
          simp [worse]
          try omega
        subst e0
        clear HH
        go_enter Try.func28, Try.ntmps28
        go_wp2
        go_ret
        exact ⟨rfl, (HB _ _).out⟩
      · skip
        have t3n0 : decide (b0 < a0) = false := by first | omega | (simp; omega) | simpa using t3
        have e0 : B = false := by
          rw [← HH.out]
          simp [worse]
          try omega
        subst e0
        clear HH
        go_enter Try.func28, Try.ntmps28
        go_wp2
        go_ret
        exact ⟨rfl, (HB _ _).out⟩
    · skip
      have t2n0 : (a4 != b4) = true := by first | omega | (simp; omega) | simpa using t2
      by_cases t4 : b4 < a4
      · skip
        have t4p0 : decide (b4 < a4) = true := by first | omega | (simp; omega) | simpa using t4
        have e0 : B = true := by
          rw [← HH.out]
          simp [worse]
          try omega
        subst e0
        clear HH
        go_enter Try.func28, Try.ntmps28
        go_wp2
        go_ret
        exact ⟨rfl, (HB _ _).out⟩
      · skip
        have t4n0 : decide (b4 < a4) = false := by first | omega | (simp; omega) | simpa using t4
        have e0 : B = false := by
          rw [← HH.out]
          simp [worse]
          try omega
        subst e0
        clear HH
        go_enter Try.func28, Try.ntmps28
        go_wp2
        go_ret
        exact ⟨rfl, (HB _ _).out⟩
  · skip
    have t1n0 : (a1 != b1) = true := by first | omega | (simp; omega) | simpa using t1
    by_cases t5 : b1 < a1
    · skip
      have t5p0 : decide (b1 < a1) = true := by first | omega | (simp; omega) | simpa using t5
      have e0 : B = true := by
        rw [← HH.out]
        simp [worse]
        try omega
      subst e0
      clear HH
      go_enter Try.func28, Try.ntmps28
      go_wp2
      go_ret
      exact ⟨rfl, (HB _ _).out⟩
    · skip
      have t5n0 : decide (b1 < a1) = false := by first | omega | (simp; omega) | simpa using t5
      have e0 : B = false := by
        rw [← HH.out]
        simp [worse]
        try omega
      subst e0
      clear HH
      go_enter Try.func28, Try.ntmps28
      go_wp2
      go_ret
      exact ⟨rfl, (HB _ _).out⟩

end Go.Proofs.Ytnejomfaojpicaa.ReqOks
