/- Several texts laid into one: what the functions named in their own remarks answer; no condition but those written in each. -/
import Derived.Test.YtnabnghjejncpaaGreatRows
import Derived.WalkKit
import Derived.WalkSmall
import Derived.BigQuiet
import Derived.Test.YtnabnghjejncpaaGreatReqKit
import Derived.Deep.RegionWith
import Derived.Deep.DeepCutAuto
import Derived.Test.YtnabnghjejncpaaGreatListKit
import Derived.Test.YtnabnghjejncpaaGreatHoldKit
import Derived.Test.YtnabnghjejncpaaGreatIntKit
import Derived.Test.YtnabnghjejncpaaGreatNearKit

section
namespace Go.Proofs.YtnabnghjejncpaaGreat.ReqOks
open Go.RowKit ReqKit
set_option maxRecDepth 8000
set_option linter.unusedVariables false
set_option linter.unusedSimpArgs false

/-- A request is right. -/
def reqOk (s : Req) : Bool := decide (1 ≤ s.x0 ∧ s.x0 ≤ 1000000 ∧ 0 ≤ s.x1 ∧ s.x1 < 4 ∧ 0 ≤ s.x2 ∧ s.x2 ≤ 1000 ∧ 0 ≤ s.x3 ∧ s.x3 ≤ 1000000000 ∧ 0 ≤ s.x4 ∧ s.x4 ≤ 1000000000 ∧ 0 ≤ s.x5 ∧ s.x5 ≤ 20)

set_option maxHeartbeats 2000000 in
theorem spec_reqok (x0 x1 x2 x3 x4 x5 : Int) (w : World) :
    Calls Tryz.prog 82 #[.agg #[.int .i64 x0, .int .i64 x1, .int .i64 x2, .int .i64 x3, .int .i64 x4, .int .i64 x5]] w fun e w' => e = .returned (.bool (reqOk ⟨x0, x1, x2, x3, x4, x5⟩)) ∧ Below w.heap.size w w' := by
  have HB : ∀ A : Obj, Hid (Below w.heap.size w (w.alloc A)) := fun A => (Below.refl _ _).alloc (Nat.le_refl _) _
  obtain ⟨B, hB⟩ : ∃ B, reqOk ⟨x0, x1, x2, x3, x4, x5⟩ = B := ⟨_, rfl⟩
  rw [hB]
  have HH : Hid (reqOk ⟨x0, x1, x2, x3, x4, x5⟩ = B) := hB
  clear hB
  by_cases t1 : 1 ≤ x0
  · skip
    have t1p0 : decide (1 ≤ x0) = true := by first | omega | (simp; omega) | simpa using t1
    by_cases t2 : x0 ≤ 1000000
    · skip
      have t2p0 : decide (x0 ≤ 1000000) = true := by first | omega | (simp; omega) | simpa using t2
      by_cases t3 : 0 ≤ x1
      · skip
        have t3p0 : decide (0 ≤ x1) = true := by first | omega | (simp; omega) | simpa using t3
        by_cases t4 : x1 < 4
        · skip
          have t4p0 : decide (x1 < 4) = true := by first | omega | (simp; omega) | simpa using t4
          by_cases t5 : 0 ≤ x2
          · skip
            have t5p0 : decide (0 ≤ x2) = true := by first | omega | (simp; omega) | simpa using t5
            by_cases t6 : x2 ≤ 1000
            · skip
              have t6p0 : decide (x2 ≤ 1000) = true := by first | omega | (simp; omega) | simpa using t6
              by_cases t7 : 0 ≤ x3
              · skip
                have t7p0 : decide (0 ≤ x3) = true := by first | omega | (simp; omega) | simpa using t7
                by_cases t8 : x3 ≤ 1000000000
                · skip
                  have t8p0 : decide (x3 ≤ 1000000000) = true := by first | omega | (simp; omega) | simpa using t8
                  by_cases t9 : 0 ≤ x4
                  · skip
                    have t9p0 : decide (0 ≤ x4) = true := by first | omega | (simp; omega) | simpa using t9
                    by_cases t10 : x4 ≤ 1000000000
                    · skip
                      have t10p0 : decide (x4 ≤ 1000000000) = true := by first | omega | (simp; omega) | simpa using t10
                      by_cases t11 : 0 ≤ x5
                      · skip
                        have t11p0 : decide (0 ≤ x5) = true := by first | omega | (simp; omega) | simpa using t11
                        by_cases t12 : x5 ≤ 20
                        · skip
                          have t12p0 : decide (x5 ≤ 20) = true := by first | omega | (simp; omega) | simpa using t12
                          have e0 : B = true := by
                            rw [← HH.out]
                            simp [reqOk]
                            try omega
                          subst e0
                          clear HH
                          go_enter Tryz.func82, Tryz.ntmps82
                          go_wp2_with ((go_at_call 42; go_in))
                          go_ret
                          exact ⟨rfl, (HB _).out⟩
                        · skip
                          have t12n0 : decide (x5 ≤ 20) = false := by first | omega | (simp; omega) | simpa using t12
                          have t12n1 : 20 < x5 := by first | omega | (simp; omega) | simpa using t12
                          have e0 : B = false := by
                            rw [← HH.out]
                            simp [reqOk]
                            try omega
                          subst e0
                          clear HH
                          go_enter Tryz.func82, Tryz.ntmps82
                          go_wp2_with ((go_at_call 42; go_in))
                          go_ret
                          exact ⟨rfl, (HB _).out⟩
                      · skip
                        have t11n0 : decide (0 ≤ x5) = false := by first | omega | (simp; omega) | simpa using t11
                        have t11n1 : x5 < 0 := by first | omega | (simp; omega) | simpa using t11
                        have e0 : B = false := by
                          rw [← HH.out]
                          simp [reqOk]
                          try omega
                        subst e0
                        clear HH
                        go_enter Tryz.func82, Tryz.ntmps82
                        go_wp2_with ((go_at_call 42; go_in))
                        go_ret
                        exact ⟨rfl, (HB _).out⟩
                    · skip
                      have t10n0 : decide (x4 ≤ 1000000000) = false := by first | omega | (simp; omega) | simpa using t10
                      have t10n1 : 1000000000 < x4 := by first | omega | (simp; omega) | simpa using t10
                      have e0 : B = false := by
                        rw [← HH.out]
                        simp [reqOk]
                        try omega
                      subst e0
                      clear HH
                      go_enter Tryz.func82, Tryz.ntmps82
                      go_wp2_with ((go_at_call 42; go_in))
                      go_ret
                      exact ⟨rfl, (HB _).out⟩
                  · skip
                    have t9n0 : decide (0 ≤ x4) = false := by first | omega | (simp; omega) | simpa using t9
                    have t9n1 : x4 < 0 := by first | omega | (simp; omega) | simpa using t9
                    have e0 : B = false := by
                      rw [← HH.out]
                      simp [reqOk]
                      try omega
                    subst e0
                    clear HH
                    go_enter Tryz.func82, Tryz.ntmps82
                    go_wp2_with ((go_at_call 42; go_in))
                    go_ret
                    exact ⟨rfl, (HB _).out⟩
                · skip
                  have t8n0 : decide (x3 ≤ 1000000000) = false := by first | omega | (simp; omega) | simpa using t8
                  have t8n1 : 1000000000 < x3 := by first | omega | (simp; omega) | simpa using t8
                  have e0 : B = false := by
                    rw [← HH.out]
                    simp [reqOk]
                    try omega
                  subst e0
                  clear HH
                  go_enter Tryz.func82, Tryz.ntmps82
                  go_wp2_with ((go_at_call 42; go_in))
                  go_ret
                  exact ⟨rfl, (HB _).out⟩
              · skip
                have t7n0 : decide (0 ≤ x3) = false := by first | omega | (simp; omega) | simpa using t7
                have t7n1 : x3 < 0 := by first | omega | (simp; omega) | simpa using t7
                have e0 : B = false := by
                  rw [← HH.out]
                  simp [reqOk]
                  try omega
                subst e0
                clear HH
                go_enter Tryz.func82, Tryz.ntmps82
                go_wp2_with ((go_at_call 42; go_in))
                go_ret
                exact ⟨rfl, (HB _).out⟩
            · skip
              have t6n0 : decide (x2 ≤ 1000) = false := by first | omega | (simp; omega) | simpa using t6
              have t6n1 : 1000 < x2 := by first | omega | (simp; omega) | simpa using t6
              have e0 : B = false := by
                rw [← HH.out]
                simp [reqOk]
                try omega
              subst e0
              clear HH
              go_enter Tryz.func82, Tryz.ntmps82
              go_wp2_with ((go_at_call 42; go_in))
              go_ret
              exact ⟨rfl, (HB _).out⟩
          · skip
            have t5n0 : decide (0 ≤ x2) = false := by first | omega | (simp; omega) | simpa using t5
            have t5n1 : x2 < 0 := by first | omega | (simp; omega) | simpa using t5
            have e0 : B = false := by
              rw [← HH.out]
              simp [reqOk]
              try omega
            subst e0
            clear HH
            go_enter Tryz.func82, Tryz.ntmps82
            go_wp2_with ((go_at_call 42; go_in))
            go_ret
            exact ⟨rfl, (HB _).out⟩
        · skip
          have t4n0 : decide (x1 < 4) = false := by first | omega | (simp; omega) | simpa using t4
          have t4n1 : 4 ≤ x1 := by first | omega | (simp; omega) | simpa using t4
          have e0 : B = false := by
            rw [← HH.out]
            simp [reqOk]
            try omega
          subst e0
          clear HH
          go_enter Tryz.func82, Tryz.ntmps82
          go_wp2_with ((go_at_call 42; go_in))
          go_ret
          exact ⟨rfl, (HB _).out⟩
      · skip
        have t3n0 : decide (0 ≤ x1) = false := by first | omega | (simp; omega) | simpa using t3
        have t3n1 : x1 < 0 := by first | omega | (simp; omega) | simpa using t3
        have e0 : B = false := by
          rw [← HH.out]
          simp [reqOk]
          try omega
        subst e0
        clear HH
        go_enter Tryz.func82, Tryz.ntmps82
        go_wp2_with ((go_at_call 42; go_in))
        go_ret
        exact ⟨rfl, (HB _).out⟩
    · skip
      have t2n0 : decide (x0 ≤ 1000000) = false := by first | omega | (simp; omega) | simpa using t2
      have t2n1 : 1000000 < x0 := by first | omega | (simp; omega) | simpa using t2
      have e0 : B = false := by
        rw [← HH.out]
        simp [reqOk]
        try omega
      subst e0
      clear HH
      go_enter Tryz.func82, Tryz.ntmps82
      go_wp2_with ((go_at_call 42; go_in))
      go_ret
      exact ⟨rfl, (HB _).out⟩
  · skip
    have t1n0 : decide (1 ≤ x0) = false := by first | omega | (simp; omega) | simpa using t1
    have t1n1 : x0 < 1 := by first | omega | (simp; omega) | simpa using t1
    have e0 : B = false := by
      rw [← HH.out]
      simp [reqOk]
      try omega
    subst e0
    clear HH
    go_enter Tryz.func82, Tryz.ntmps82
    go_wp2_with ((go_at_call 42; go_in))
    go_ret
    exact ⟨rfl, (HB _).out⟩

set_option maxHeartbeats 2000000 in
theorem impl_reqok (x0 x1 x2 x3 x4 x5 : Int) (w : World) :
    Calls Tryz.prog 114 #[.agg #[.int .i64 x0, .int .i64 x1, .int .i64 x2, .int .i64 x3, .int .i64 x4, .int .i64 x5]] w fun e w' => e = .returned (.bool (reqOk ⟨x0, x1, x2, x3, x4, x5⟩)) ∧ Below w.heap.size w w' := by
  have HB : ∀ A : Obj, Hid (Below w.heap.size w (w.alloc A)) := fun A => (Below.refl _ _).alloc (Nat.le_refl _) _
  obtain ⟨B, hB⟩ : ∃ B, reqOk ⟨x0, x1, x2, x3, x4, x5⟩ = B := ⟨_, rfl⟩
  rw [hB]
  have HH : Hid (reqOk ⟨x0, x1, x2, x3, x4, x5⟩ = B) := hB
  clear hB
  by_cases t1 : 1 ≤ x0
  · skip
    have t1p0 : decide (1 ≤ x0) = true := by first | omega | (simp; omega) | simpa using t1
    by_cases t2 : x0 ≤ 1000000
    · skip
      have t2p0 : decide (x0 ≤ 1000000) = true := by first | omega | (simp; omega) | simpa using t2
      by_cases t3 : 0 ≤ x1
      · skip
        have t3p0 : decide (0 ≤ x1) = true := by first | omega | (simp; omega) | simpa using t3
        by_cases t4 : x1 < 4
        · skip
          have t4p0 : decide (x1 < 4) = true := by first | omega | (simp; omega) | simpa using t4
          by_cases t5 : 0 ≤ x2
          · skip
            have t5p0 : decide (0 ≤ x2) = true := by first | omega | (simp; omega) | simpa using t5
            by_cases t6 : x2 ≤ 1000
            · skip
              have t6p0 : decide (x2 ≤ 1000) = true := by first | omega | (simp; omega) | simpa using t6
              by_cases t7 : 0 ≤ x3
              · skip
                have t7p0 : decide (0 ≤ x3) = true := by first | omega | (simp; omega) | simpa using t7
                by_cases t8 : x3 ≤ 1000000000
                · skip
                  have t8p0 : decide (x3 ≤ 1000000000) = true := by first | omega | (simp; omega) | simpa using t8
                  by_cases t9 : 0 ≤ x4
                  · skip
                    have t9p0 : decide (0 ≤ x4) = true := by first | omega | (simp; omega) | simpa using t9
                    by_cases t10 : x4 ≤ 1000000000
                    · skip
                      have t10p0 : decide (x4 ≤ 1000000000) = true := by first | omega | (simp; omega) | simpa using t10
                      by_cases t11 : 0 ≤ x5
                      · skip
                        have t11p0 : decide (0 ≤ x5) = true := by first | omega | (simp; omega) | simpa using t11
                        by_cases t12 : x5 ≤ 20
                        · skip
                          have t12p0 : decide (x5 ≤ 20) = true := by first | omega | (simp; omega) | simpa using t12
                          have e0 : B = true := by
                            rw [← HH.out]
                            simp [reqOk]
                            try omega
                          subst e0
                          clear HH
                          go_enter Tryz.func114, Tryz.ntmps114
                          go_wp2_with (first | (go_at_call 97; go_in) | (go_at_call 118; go_in) | (go_at_call 111; go_in) | (go_at_call 27; go_in) | (go_at_call 119; go_in))
                          go_ret
                          exact ⟨rfl, (HB _).out⟩
                        · skip
                          have t12n0 : decide (x5 ≤ 20) = false := by first | omega | (simp; omega) | simpa using t12
                          have t12n1 : 20 < x5 := by first | omega | (simp; omega) | simpa using t12
                          have e0 : B = false := by
                            rw [← HH.out]
                            simp [reqOk]
                            try omega
                          subst e0
                          clear HH
                          go_enter Tryz.func114, Tryz.ntmps114
                          go_wp2_with (first | (go_at_call 97; go_in) | (go_at_call 118; go_in) | (go_at_call 111; go_in) | (go_at_call 27; go_in) | (go_at_call 119; go_in))
                          go_ret
                          exact ⟨rfl, (HB _).out⟩
                      · skip
                        have t11n0 : decide (0 ≤ x5) = false := by first | omega | (simp; omega) | simpa using t11
                        have t11n1 : x5 < 0 := by first | omega | (simp; omega) | simpa using t11
                        have e0 : B = false := by
                          rw [← HH.out]
                          simp [reqOk]
                          try omega
                        subst e0
                        clear HH
                        go_enter Tryz.func114, Tryz.ntmps114
                        go_wp2_with (first | (go_at_call 97; go_in) | (go_at_call 118; go_in) | (go_at_call 111; go_in) | (go_at_call 27; go_in) | (go_at_call 119; go_in))
                        go_ret
                        exact ⟨rfl, (HB _).out⟩
                    · skip
                      have t10n0 : decide (x4 ≤ 1000000000) = false := by first | omega | (simp; omega) | simpa using t10
                      have t10n1 : 1000000000 < x4 := by first | omega | (simp; omega) | simpa using t10
                      have e0 : B = false := by
                        rw [← HH.out]
                        simp [reqOk]
                        try omega
                      subst e0
                      clear HH
                      go_enter Tryz.func114, Tryz.ntmps114
                      go_wp2_with (first | (go_at_call 97; go_in) | (go_at_call 118; go_in) | (go_at_call 111; go_in) | (go_at_call 27; go_in) | (go_at_call 119; go_in))
                      go_ret
                      exact ⟨rfl, (HB _).out⟩
                  · skip
                    have t9n0 : decide (0 ≤ x4) = false := by first | omega | (simp; omega) | simpa using t9
                    have t9n1 : x4 < 0 := by first | omega | (simp; omega) | simpa using t9
                    have e0 : B = false := by
                      rw [← HH.out]
                      simp [reqOk]
                      try omega
                    subst e0
                    clear HH
                    go_enter Tryz.func114, Tryz.ntmps114
                    go_wp2_with (first | (go_at_call 97; go_in) | (go_at_call 118; go_in) | (go_at_call 111; go_in) | (go_at_call 27; go_in) | (go_at_call 119; go_in))
                    go_ret
                    exact ⟨rfl, (HB _).out⟩
                · skip
                  have t8n0 : decide (x3 ≤ 1000000000) = false := by first | omega | (simp; omega) | simpa using t8
                  have t8n1 : 1000000000 < x3 := by first | omega | (simp; omega) | simpa using t8
                  have e0 : B = false := by
                    rw [← HH.out]
                    simp [reqOk]
                    try omega
                  subst e0
                  clear HH
                  go_enter Tryz.func114, Tryz.ntmps114
                  go_wp2_with (first | (go_at_call 97; go_in) | (go_at_call 118; go_in) | (go_at_call 111; go_in) | (go_at_call 27; go_in) | (go_at_call 119; go_in))
                  go_ret
                  exact ⟨rfl, (HB _).out⟩
              · skip
                have t7n0 : decide (0 ≤ x3) = false := by first | omega | (simp; omega) | simpa using t7
                have t7n1 : x3 < 0 := by first | omega | (simp; omega) | simpa using t7
                have e0 : B = false := by
                  rw [← HH.out]
                  simp [reqOk]
                  try omega
                subst e0
                clear HH
                go_enter Tryz.func114, Tryz.ntmps114
                go_wp2_with (first | (go_at_call 97; go_in) | (go_at_call 118; go_in) | (go_at_call 111; go_in) | (go_at_call 27; go_in) | (go_at_call 119; go_in))
                go_ret
                exact ⟨rfl, (HB _).out⟩
            · skip
              have t6n0 : decide (x2 ≤ 1000) = false := by first | omega | (simp; omega) | simpa using t6
              have t6n1 : 1000 < x2 := by first | omega | (simp; omega) | simpa using t6
              have e0 : B = false := by
                rw [← HH.out]
                simp [reqOk]
                try omega
              subst e0
              clear HH
              go_enter Tryz.func114, Tryz.ntmps114
              go_wp2_with (first | (go_at_call 97; go_in) | (go_at_call 118; go_in) | (go_at_call 111; go_in) | (go_at_call 27; go_in) | (go_at_call 119; go_in))
              go_ret
              exact ⟨rfl, (HB _).out⟩
          · skip
            have t5n0 : decide (0 ≤ x2) = false := by first | omega | (simp; omega) | simpa using t5
            have t5n1 : x2 < 0 := by first | omega | (simp; omega) | simpa using t5
            have e0 : B = false := by
              rw [← HH.out]
              simp [reqOk]
              try omega
            subst e0
            clear HH
            go_enter Tryz.func114, Tryz.ntmps114
            go_wp2_with (first | (go_at_call 97; go_in) | (go_at_call 118; go_in) | (go_at_call 111; go_in) | (go_at_call 27; go_in) | (go_at_call 119; go_in))
            go_ret
            exact ⟨rfl, (HB _).out⟩
        · skip
          have t4n0 : decide (x1 < 4) = false := by first | omega | (simp; omega) | simpa using t4
          have t4n1 : 4 ≤ x1 := by first | omega | (simp; omega) | simpa using t4
          have e0 : B = false := by
            rw [← HH.out]
            simp [reqOk]
            try omega
          subst e0
          clear HH
          go_enter Tryz.func114, Tryz.ntmps114
          go_wp2_with (first | (go_at_call 97; go_in) | (go_at_call 118; go_in) | (go_at_call 111; go_in) | (go_at_call 27; go_in) | (go_at_call 119; go_in))
          go_ret
          exact ⟨rfl, (HB _).out⟩
      · skip
        have t3n0 : decide (0 ≤ x1) = false := by first | omega | (simp; omega) | simpa using t3
        have t3n1 : x1 < 0 := by first | omega | (simp; omega) | simpa using t3
        have e0 : B = false := by
          rw [← HH.out]
          simp [reqOk]
          try omega
        subst e0
        clear HH
        go_enter Tryz.func114, Tryz.ntmps114
        go_wp2_with (first | (go_at_call 97; go_in) | (go_at_call 118; go_in) | (go_at_call 111; go_in) | (go_at_call 27; go_in) | (go_at_call 119; go_in))
        go_ret
        exact ⟨rfl, (HB _).out⟩
    · skip
      have t2n0 : decide (x0 ≤ 1000000) = false := by first | omega | (simp; omega) | simpa using t2
      have t2n1 : 1000000 < x0 := by first | omega | (simp; omega) | simpa using t2
      have e0 : B = false := by
        rw [← HH.out]
        simp [reqOk]
        try omega
      subst e0
      clear HH
      go_enter Tryz.func114, Tryz.ntmps114
      go_wp2_with (first | (go_at_call 97; go_in) | (go_at_call 118; go_in) | (go_at_call 111; go_in) | (go_at_call 27; go_in) | (go_at_call 119; go_in))
      go_ret
      exact ⟨rfl, (HB _).out⟩
  · skip
    have t1n0 : decide (1 ≤ x0) = false := by first | omega | (simp; omega) | simpa using t1
    have t1n1 : x0 < 1 := by first | omega | (simp; omega) | simpa using t1
    have e0 : B = false := by
      rw [← HH.out]
      simp [reqOk]
      try omega
    subst e0
    clear HH
    go_enter Tryz.func114, Tryz.ntmps114
    go_wp2_with (first | (go_at_call 97; go_in) | (go_at_call 118; go_in) | (go_at_call 111; go_in) | (go_at_call 27; go_in) | (go_at_call 119; go_in))
    go_ret
    exact ⟨rfl, (HB _).out⟩

end Go.Proofs.YtnabnghjejncpaaGreat.ReqOks
end

section
namespace Go.Proofs.YtnabnghjejncpaaGreat.QueMath
open ReqKit ReqOks

/-- The place of the first request of this number, -1 where there is none. -/
def AtId (L : List Req) (id r : Int) : Prop := (r = -1 ∧ ∀ (j : Nat) (h : j < L.length), L[j].x0 ≠ id) ∨ ∃ k : Nat, r = (k : Int) ∧ ∃ h : k < L.length, L[k].x0 = id ∧ ∀ (j : Nat) (hj : j < k), (L[j]'(by omega)).x0 ≠ id

theorem at_ex (L : List Req) (id : Int) : ∃ r, AtId L id r := by
  cases h : L.findIdx? (fun s => s.x0 == id) with
  | none =>
    refine ⟨-1, Or.inl ⟨rfl, fun j hj => ?_⟩⟩
    rw [List.findIdx?_eq_none_iff] at h
    simpa using h _ (List.getElem_mem hj)
  | some k =>
    rw [List.findIdx?_eq_some_iff_getElem] at h
    obtain ⟨hk, h1, h2⟩ := h
    exact ⟨(k : Int), Or.inr ⟨k, rfl, hk, by simpa using h1, fun j hj => by simpa using h2 j hj⟩⟩
theorem AtId.hit {L : List Req} {id r : Int} (h : AtId L id r) (k : Nat) (hk : k < L.length) (h1 : L[k].x0 = id) (h2 : ∀ (j : Nat) (h : j < L.length), j < k → L[j].x0 ≠ id) : r = (k : Int) := by
  rcases h with ⟨_, h3⟩ | ⟨q, rfl, hq, h3, h4⟩
  · exact absurd h1 (h3 k hk)
  · rcases Nat.lt_trichotomy q k with hlt | he | hgt
    · exact absurd h3 (h2 q hq hlt)
    · rw [he]
    · exact absurd h1 (h4 k hgt)
theorem AtId.no {L : List Req} {id r : Int} (h : AtId L id r) (h2 : ∀ (j : Nat) (h : j < L.length), L[j].x0 ≠ id) : r = -1 := by
  rcases h with ⟨h3, _⟩ | ⟨q, rfl, hq, h3, h4⟩
  · exact h3
  · exact absurd h3 (h2 q hq)
/-- Request k may stand where it stands. -/
def okAt (L : List Req) (k : Nat) (h : k < L.length) : Prop := reqOk L[k] = true ∧ (∀ (j : Nat) (hj : j < k), (L[j]'(by omega)).x0 ≠ L[k].x0) ∧ ∀ (hk : 0 < k), (L[k - 1]'(by omega)).x4 ≤ L[k].x4
/-- A queue is right. -/
def QueOk (room : Int) (L : List Req) : Prop := 0 ≤ room ∧ room ≤ 50 ∧ (L.length : Int) ≤ room ∧ ∀ (k : Nat) (h : k < L.length), okAt L k h

/-- What is asked of a request's place in the model's words. -/
theorem at_same {L : List Req} {k : Nat} {r : Int} (hk : k < L.length) (h : AtId L L[k].x0 r) : r = (k : Int) ↔ ∀ (j : Nat) (hj : j < k), (L[j]'(by omega)).x0 ≠ L[k].x0 := by
  constructor
  · intro e j hj
    rcases h with ⟨h3, _⟩ | ⟨q, rfl, hq, h3, h4⟩
    · omega
    · obtain rfl : q = k := by omega
      exact h4 j hj
  · intro h2
    exact h.hit k hk rfl (fun j hj hjk => h2 j hjk)
end Go.Proofs.YtnabnghjejncpaaGreat.QueMath
end

section
namespace Go.Proofs.YtnabnghjejncpaaGreat.QueMiscS
open Go.RowKit ListKit HoldKit
set_option maxRecDepth 8000
set_option linter.unusedVariables false
set_option linter.unusedSimpArgs false

def roomOk (n : Int) : Bool := decide (0 ≤ n ∧ n ≤ 50)
def newRoom (n : Int) : Int := if roomOk n = true then n else 0
/-- How often n stands in the list. -/
def timesOf (l : List Int) (n : Int) : Nat := (l.filter (fun y => y == n)).length
theorem times_take (l : List Int) (n : Int) (k : Nat) (h : k < l.length) : timesOf (l.take (k + 1)) n = timesOf (l.take k) n + (if (l[k] == n) = true then 1 else 0) := by
  unfold timesOf
  rw [List.take_add_one, List.getElem?_eq_getElem h, List.filter_append, List.length_append]
  congr 1
  simp [List.filter]
  split <;> simp_all
theorem times_le (l : List Int) (n : Int) (k : Nat) : timesOf (l.take k) n ≤ k := Nat.le_trans (List.length_filter_le _ _) (by rw [List.length_take]; omega)
theorem new_list (w : World) : Holds w w.heap.size [⟨none, 72, 6, ([] : List ReqKit.Req).map ReqKit.cells⟩] := Holds.own (f := ReqKit.cells) (L := []) (Or.inl rfl) (fun b hb => by simp [blkL] at hb)
def NewAns (w : World) (y : Int) (B : Bool) (e : Ending) (w' : World) : Prop := ∃ a2 c2, e = .returned (.tuple #[.agg #[.int .i64 y, .slice a2 ([] : List ReqKit.Req).length c2], .bool B]) ∧ ([] : List ReqKit.Req).length ≤ c2 ∧ Holds w' w.heap.size [⟨a2, 72, 6, ([] : List ReqKit.Req).map ReqKit.cells⟩] ∧ Below w.heap.size w w'
set_option maxHeartbeats 1000000 in
theorem spec_queuenew (n : Int) (w : World) :
    Calls Tryz.prog 76 #[.int .i64 n] w (NewAns w (newRoom n) (roomOk n)) := by
  have HB : Hid (∀ o : Obj, Holds (w.alloc o) w.heap.size [⟨none, 72, 6, ([] : List ReqKit.Req).map ReqKit.cells⟩]) := fun o => (new_list w).below (n1 _ _)
  by_cases h1 : n < 0
  · have e : roomOk n = false := by simp [roomOk]; omega
    rw [show newRoom n = 0 by unfold newRoom; rw [e]; rfl, e]
    go_enter Tryz.func76, Tryz.ntmps76
    go_wp2
    exact bodyPost_ret (v := .tuple #[.agg #[.int .i64 0, .slice none 0 0], .bool false]) (by simp [results, Tryz.results76, go_sem]) rfl ⟨none, 0, rfl, Nat.le_refl _, HB.out _, n1 _ _⟩
  · by_cases h2 : n ≤ 50
    · have e : roomOk n = true := by simp [roomOk]; omega
      have d : decide (50 < n) = false := by simp; omega
      rw [show newRoom n = n by unfold newRoom; rw [e]; rfl, e]
      go_enter Tryz.func76, Tryz.ntmps76
      go_wp2
      exact bodyPost_ret (v := .tuple #[.agg #[.int .i64 n, .slice none 0 0], .bool true]) (by simp [results, Tryz.results76, go_sem]) rfl ⟨none, 0, rfl, Nat.le_refl _, HB.out _, n1 _ _⟩
    · have e : roomOk n = false := by simp [roomOk]; omega
      have d : decide (50 < n) = true := by simp; omega
      rw [show newRoom n = 0 by unfold newRoom; rw [e]; rfl, e]
      go_enter Tryz.func76, Tryz.ntmps76
      go_wp2
      exact bodyPost_ret (v := .tuple #[.agg #[.int .i64 0, .slice none 0 0], .bool false]) (by simp [results, Tryz.results76, go_sem]) rfl ⟨none, 0, rfl, Nat.le_refl _, HB.out _, n1 _ _⟩
end Go.Proofs.YtnabnghjejncpaaGreat.QueMiscS
end

section
namespace Go.Proofs.YtnabnghjejncpaaGreat.QueFindI
open Go.RowKit ListKit HoldKit QueMath QueMiscS
set_option maxRecDepth 8000
set_option linter.unusedVariables false
set_option linter.unusedSimpArgs false

theorem blk_cell {w : World} {b : Nat} {v : Value} {t : TypeId} (h : w.heap[b]? = some (.cells #[v] t (0, 0))) : w.cell? ⟨b, 0, none⟩ = some v ∧ b < w.heap.size := ⟨by simp [World.cell?, h], (Array.getElem?_eq_some_iff.1 h).1⟩
theorem place_one (x0 x1 x2 x3 x4 x5 id : Int) (b : Nat) (v : Bool) (w : World) (hb : w.heap[b]? = some (.cells #[.int .i64 id] 3 (0, 0))) (HV : Hid ((x0 == id) = v)) :
    Calls Tryz.prog 121 #[.agg #[.int .i64 x0, .int .i64 x1, .int .i64 x2, .int .i64 x3, .int .i64 x4, .int .i64 x5], .pointer (some ⟨b, 0, none⟩)] w fun e w' => e = .returned (.bool v) ∧ Below w.heap.size w w' := by
  obtain ⟨hc, hlt⟩ := blk_cell hb
  have HB : ∀ A : Obj, Hid (Below w.heap.size w (w.alloc A)) := fun A => (Below.refl _ _).alloc (Nat.le_refl _) _
  have hv := HV.out
  clear hb HV
  go_enter Tryz.func121, Tryz.ntmps121
  go_wp2
  go_ret
  exact ⟨by first | rfl | rw [hv], (HB _).out⟩

set_option maxHeartbeats 4000000 in
theorem index_place (a : Option Addr) (c : Nat) (L : List ReqKit.Req) (id : Int) (b : Nat) (r : Int) (w : World) (h : Own 72 6 ReqKit.cells w a L) (hl : L.length ≤ 1048577) (hb : w.heap[b]? = some (.cells #[.int .i64 id] 3 (0, 0))) (HR : Hid (AtId L id r)) :
    Calls Tryz.prog 120 #[.slice a L.length c, .func (.func 121) #[] #[.pointer (some ⟨b, 0, none⟩)]] w fun e w' => e = .returned (.int .i64 r) ∧ Below w.heap.size w w' := by
  have HA : Hid (Own 72 6 ReqKit.cells w a L) := h
  clear h
  obtain ⟨n, hn⟩ : ∃ n, L.length = n := ⟨_, rfl⟩
  have HN : Hid (L.length = n) := hn
  rw [hn] at hl ⊢
  clear hn
  have HBB : Hid (w.heap[b]? = some (.cells #[.int .i64 id] 3 (0, 0))) := hb
  clear hb
  go_enter Tryz.func120, Tryz.ntmps120
  go_wp2
  go_loopw [8] (fun i wr => ∃ k : Nat, k ≤ n ∧ i = .int .i64 k ∧ Hid (∀ (j : Nat) (h : j < L.length), j < k → L[j].x0 ≠ id) ∧ Hid (Below w.heap.size w wr)) (fun i _ => n - (intOf i).toNat)
  case atStart => exact ⟨0, by omega, rfl, fun j _ hj => by omega, Below.refl _ _⟩
  case round =>
    obtain ⟨k, hk, rfl, HK, HW⟩ := hrel
    by_cases hlt : k < n
    · have hlt2 : k < L.length := by rw [HN.out]; exact hlt
      rcases HA.out with hnil | ⟨g, o, rfl, hr⟩
      · rw [hnil] at hlt2; simp at hlt2
      · have hr1 : Row 72 6 ReqKit.cells wr g o L := hr.below HW.out
        obtain ⟨sx, hsx⟩ : ∃ s, L[k] = s := ⟨_, rfl⟩
        obtain ⟨x0, x1, x2, x3, x4, x5⟩ := sx
        have u9 := fun jj hjj => (hr1).cell k hlt2 jj hjj
        have p0 : wr.cell? ⟨g, o + k * 6, none⟩ = some (.int .i64 x0) := by have h9 := u9 0 (by omega); rw [hsx] at h9; exact h9
        have p1 : wr.cell? ⟨g, o + k * 6 + 1, none⟩ = some (.int .i64 x1) := by have h9 := u9 1 (by omega); rw [hsx] at h9; exact h9
        have p2 : wr.cell? ⟨g, o + k * 6 + 2, none⟩ = some (.int .i64 x2) := by have h9 := u9 2 (by omega); rw [hsx] at h9; exact h9
        have p3 : wr.cell? ⟨g, o + k * 6 + 3, none⟩ = some (.int .i64 x3) := by have h9 := u9 3 (by omega); rw [hsx] at h9; exact h9
        have p4 : wr.cell? ⟨g, o + k * 6 + 4, none⟩ = some (.int .i64 x4) := by have h9 := u9 4 (by omega); rw [hsx] at h9; exact h9
        have p5 : wr.cell? ⟨g, o + k * 6 + 5, none⟩ = some (.int .i64 x5) := by have h9 := u9 5 (by omega); rw [hsx] at h9; exact h9
        clear u9
        have hli : (k : Int) < (n : Int) := by omega
        have HS : Hid (L[k] = ⟨x0, x1, x2, x3, x4, x5⟩) := hsx
        obtain ⟨v, hv⟩ : ∃ v, (x0 == id) = v := ⟨_, rfl⟩
        have HV : Hid ((x0 == id) = v) := hv
        clear hr hr1 hsx hv
        cases v with
        | true =>
          have hrk : r = (k : Int) := HR.out.hit k hlt2 (by rw [HS.out]; simpa using HV.out) HK.out
          subst hrk
          clear HR
          go_wp2_with (go_at_call 121; refine (place_one x0 x1 x2 x3 x4 x5 id b _ _ ((HW.out.block b (blk_cell HBB.out).2).trans HBB.out) HV).mono ?_; rintro e w1 ⟨rfl, b1⟩; have B1 : Hid (Below w.heap.size w w1) := HW.out.trans (b1.mono HW.out.size); clear b1)
          go_ret
          exact ⟨rfl, B1.out⟩
        | false =>
          have HK2 : Hid (∀ (j : Nat) (h : j < L.length), j < k + 1 → L[j].x0 ≠ id) := fun j h hj => by
            by_cases e : j = k
            · subst e; rw [HS.out]; simpa using HV.out
            · exact HK.out j h (by omega)
          go_wp2_with (go_at_call 121; refine (place_one x0 x1 x2 x3 x4 x5 id b _ _ ((HW.out.block b (blk_cell HBB.out).2).trans HBB.out) HV).mono ?_; rintro e w1 ⟨rfl, b1⟩; have B1 : Hid (Below w.heap.size w w1) := HW.out.trans (b1.mono HW.out.size); clear b1 p0 p1 p2 p3 p4 p5)
          go_roundw
          case rel => exact ⟨k + 1, by omega, by go_num, HK2, B1⟩
          case measure => simp [intOf]; omega
    · obtain rfl : k = n := by omega
      have hrk : r = -1 := HR.out.no fun j h => HK.out j h (by rw [HN.out] at h; exact h)
      subst hrk
      go_wp2
      go_ret
      exact ⟨rfl, HW.out⟩
theorem impl_place (a : Option Addr) (c : Nat) (L : List ReqKit.Req) (id r : Int) (w : World) (h : Own 72 6 ReqKit.cells w a L) (hl : L.length ≤ 1048577) (HR : Hid (AtId L id r)) :
    Calls Tryz.prog 115 #[.slice a L.length c, .int .i64 id] w fun e w' => e = .returned (.int .i64 r) ∧ Below w.heap.size w w' := by
  have b0 : Below w.heap.size w (w.alloc (.cells #[.int .i64 id] 3)) := (Below.refl _ _).alloc (Nat.le_refl _) _
  have H := index_place a c L id w.heap.size r (w.alloc (.cells #[.int .i64 id] 3)) (h.below b0) hl (heap_alloc_new w _) HR
  have HB : Hid (Below w.heap.size w (w.alloc (.cells #[.int .i64 id] 3))) := b0
  clear h b0 HR
  go_enter Tryz.func115, Tryz.ntmps115
  go_wp2_with (go_at_call 120; refine H.mono ?_; rintro e w1 ⟨rfl, b1⟩; have B1 : Hid (Below w.heap.size w w1) := HB.out.trans (b1.mono HB.out.size); clear b1 H)
  go_ret
  exact ⟨rfl, B1.out⟩
theorem impl_room (n : Int) (w : World) : Calls Tryz.prog 88 #[.int .i64 n] w fun e w' => e = .returned (.bool (roomOk n)) ∧ w' = w := by
  by_cases h1 : 0 ≤ n
  · have d1 : decide (0 ≤ n) = true := by simpa using h1
    by_cases h2 : n ≤ 50
    · have d2 : decide (n ≤ 50) = true := by simpa using h2
      have e0 : roomOk n = true := by simp [roomOk, h1, h2]
      have e : Hid (roomOk n = true) := e0
      clear h1 h2 e0
      go_enter Tryz.func88, Tryz.ntmps88
      go_wp2
      go_ret
      exact ⟨by rw [e.out]; rfl, rfl⟩
    · have d2 : decide (n ≤ 50) = false := by simpa using h2
      have e0 : roomOk n = false := by simp [roomOk]; omega
      have e : Hid (roomOk n = false) := e0
      clear h1 h2 e0
      go_enter Tryz.func88, Tryz.ntmps88
      go_wp2
      go_ret
      exact ⟨by rw [e.out]; rfl, rfl⟩
  · have d1 : decide (0 ≤ n) = false := by simpa using h1
    have e0 : roomOk n = false := by simp [roomOk]; omega
    have e : Hid (roomOk n = false) := e0
    clear h1 e0
    go_enter Tryz.func88, Tryz.ntmps88
    go_wp2
    go_ret
    exact ⟨by rw [e.out]; rfl, rfl⟩
end Go.Proofs.YtnabnghjejncpaaGreat.QueFindI
end

section
namespace Go.Proofs.YtnabnghjejncpaaGreat.QueNewI
open Go.RowKit ListKit HoldKit QueMiscS
set_option maxRecDepth 8000
set_option linter.unusedVariables false
set_option linter.unusedSimpArgs false

set_option maxHeartbeats 1000000 in
theorem impl_queuenew (n : Int) (w : World) :
    Calls Tryz.prog 55 #[.int .i64 n] w (NewAns w (newRoom n) (roomOk n)) := by
  have HB : Hid (∀ o : Obj, Holds (w.alloc o) w.heap.size [⟨none, 72, 6, ([] : List ReqKit.Req).map ReqKit.cells⟩]) := fun o => (new_list w).below (n1 _ _)
  have HRM := fun W => QueFindI.impl_room n W
  obtain ⟨rm, hrm⟩ : ∃ rm, roomOk n = rm := ⟨_, rfl⟩
  rw [hrm] at HRM ⊢
  have HR : Hid (newRoom n = if rm = true then n else 0) := by show newRoom n = _; unfold newRoom; rw [hrm]
  clear hrm
  rw [HR.out]
  cases rm with
  | true =>
    go_enter Tryz.func55, Tryz.ntmps55
    go_wp2_with (go_at_call 88; refine (HRM _).mono ?_; rintro e w9 ⟨rfl, hw9⟩; rw [hw9]; clear hw9 w9)
    exact bodyPost_ret (v := .tuple #[.agg #[.int .i64 n, .slice none 0 0], .bool true]) (by simp [results, Tryz.results55, go_sem]) rfl ⟨none, 0, rfl, Nat.le_refl _, HB.out _, n1 _ _⟩
  | false =>
    go_enter Tryz.func55, Tryz.ntmps55
    go_wp2_with (go_at_call 88; refine (HRM _).mono ?_; rintro e w9 ⟨rfl, hw9⟩; rw [hw9]; clear hw9 w9)
    exact bodyPost_ret (v := .tuple #[.agg #[.int .i64 0, .slice none 0 0], .bool false]) (by simp [results, Tryz.results55, go_sem]) rfl ⟨none, 0, rfl, Nat.le_refl _, HB.out _, n1 _ _⟩
end Go.Proofs.YtnabnghjejncpaaGreat.QueNewI
end

section
namespace Go.Proofs.YtnabnghjejncpaaGreat.QueAt
open Go.RowKit ListKit HoldKit QueMath
set_option maxRecDepth 8000
set_option linter.unusedVariables false
set_option linter.unusedSimpArgs false

set_option maxHeartbeats 4000000 in
theorem spec_at (x : Int) (a : Option Addr) (c : Nat) (L : List ReqKit.Req) (id r : Int) (w : World) (h : Own 72 6 ReqKit.cells w a L) (hl : L.length ≤ 1048577) (hc : L.length ≤ c) (hr : Hid (AtId L id r)) :
    Calls Tryz.prog 17 #[.agg #[.int .i64 x, .slice a L.length c], .int .i64 id] w fun e w' => e = .returned (.int .i64 r) ∧ Below w.heap.size w w' := by
  have HA : Hid (Own 72 6 ReqKit.cells w a L) := h
  clear h
  obtain ⟨n, hn⟩ : ∃ n, L.length = n := ⟨_, rfl⟩
  have HN : Hid (L.length = n) := hn
  have b0 : Hid (Below w.heap.size w (w.alloc (.cells #[.int .i64 x, .slice a L.length c] 58))) := n1 _ _
  rw [hn] at hl b0 ⊢
  clear hn
  go_enter Tryz.func17, Tryz.ntmps17
  go_wp2
  go_loopw [5, 6, 10] (fun t5 t6 i wr => ∃ k : Nat, k ≤ n ∧ i = .int .i64 (k : Int) ∧ Hid (∀ (j : Nat) (h : j < L.length), j < k → L[j].x0 ≠ id) ∧ Hid (Below w.heap.size w wr)) (fun _ _ i _ => n - (intOf i).toNat)
  case atStart => exact ⟨0, by omega, rfl, fun j _ hj => by omega, b0⟩
  case round =>
    obtain ⟨k, hk, rfl, HK, HB⟩ := hrel
    by_cases hlt : k < n
    · have hlt2 : k < L.length := by rw [HN.out]; exact hlt
      rcases HA.out with hnil | ⟨g, o, rfl, hrw⟩
      · rw [hnil] at hlt2; simp at hlt2
      · have hr1 : Row 72 6 ReqKit.cells wr g o L := hrw.below HB.out
        obtain ⟨sx, hsx⟩ : ∃ s, L[k] = s := ⟨_, rfl⟩
        obtain ⟨x0, x1, x2, x3, x4, x5⟩ := sx
        have u9 := fun j hj => (hr1).cell k hlt2 j hj
        have p0 : wr.cell? ⟨g, o + k * 6, none⟩ = some (.int .i64 x0) := by have h9 := u9 0 (by omega); rw [hsx] at h9; exact h9
        have p1 : wr.cell? ⟨g, o + k * 6 + 1, none⟩ = some (.int .i64 x1) := by have h9 := u9 1 (by omega); rw [hsx] at h9; exact h9
        have p2 : wr.cell? ⟨g, o + k * 6 + 2, none⟩ = some (.int .i64 x2) := by have h9 := u9 2 (by omega); rw [hsx] at h9; exact h9
        have p3 : wr.cell? ⟨g, o + k * 6 + 3, none⟩ = some (.int .i64 x3) := by have h9 := u9 3 (by omega); rw [hsx] at h9; exact h9
        have p4 : wr.cell? ⟨g, o + k * 6 + 4, none⟩ = some (.int .i64 x4) := by have h9 := u9 4 (by omega); rw [hsx] at h9; exact h9
        have p5 : wr.cell? ⟨g, o + k * 6 + 5, none⟩ = some (.int .i64 x5) := by have h9 := u9 5 (by omega); rw [hsx] at h9; exact h9
        clear u9
        have hli : (k : Int) < (n : Int) := by omega
        have hkc : (k : Int) < (c : Int) := by rw [HN.out] at hc; omega
        have HS : Hid (L[k] = ⟨x0, x1, x2, x3, x4, x5⟩) := hsx
        have HG : Hid (∀ o : Obj, Below w.heap.size w (wr.alloc o)) := fun o => HB.out.alloc HB.out.size o
        clear hr1 hsx hrw
        by_cases e : x0 = id
        · have e1 : (x0 == id) = true := by simpa using e
          have hrk : Hid (r = (k : Int)) := hr.out.hit k hlt2 (by rw [HS.out]; exact e) HK.out
          clear e
          go_wp2
          go_ret
          exact ⟨by rw [hrk.out]; rfl, HG.out _⟩
        · have e1 : (x0 == id) = false := by simpa using e
          have HK2 : Hid (∀ (j : Nat) (h : j < L.length), j < k + 1 → L[j].x0 ≠ id) := fun j hj hj2 => by
            by_cases ej : j = k
            · subst ej; rw [HS.out]; exact e
            · exact HK.out j hj (by omega)
          clear e HK
          go_wp2
          go_roundw
          case rel => exact ⟨k + 1, by omega, by go_num, HK2, HG.out _⟩
          case measure => simp [intOf]; omega
    · obtain rfl : k = n := by omega
      have hrk : Hid (r = -1) := hr.out.no (fun j hj => HK.out j hj (by rw [← HN.out]; exact hj))
      go_wp2
      go_ret
      exact ⟨by rw [hrk.out]; rfl, HB.out⟩

end Go.Proofs.YtnabnghjejncpaaGreat.QueAt
end

section
namespace Go.Proofs.YtnabnghjejncpaaGreat.QueOkS
open Go.RowKit ListKit HoldKit QueMath NearKit
set_option maxRecDepth 8000
set_option linter.unusedVariables false
set_option linter.unusedSimpArgs false

set_option maxHeartbeats 8000000 in
theorem spec_queueok (x : Int) (a : Option Addr) (c : Nat) (L : List ReqKit.Req) (B : Bool) (w : World) (h : Own 72 6 ReqKit.cells w a L) (hl : L.length ≤ 1048577) (hc : L.length ≤ c) (bf : Hid (B = true ↔ QueOk x L)) :
    Calls Tryz.prog 45 #[.agg #[.int .i64 x, .slice a L.length c]] w fun e w' => e = .returned (.bool B) ∧ Below w.heap.size w w' := by
  have HA : Hid (Own 72 6 ReqKit.cells w a L) := h
  clear h
  obtain ⟨n, hn⟩ : ∃ n, L.length = n := ⟨_, rfl⟩
  have HN : Hid (L.length = n) := hn
  have HL : Hid (L.length ≤ 1048577 ∧ L.length ≤ c) := ⟨hl, hc⟩
  have b0 : Hid (boxB (w.alloc (.cells #[.int .i64 x, .slice a n c] 58)) w.heap.size #[.int .i64 x, .slice a n c] 58 ∧ Below w.heap.size w (w.alloc (.cells #[.int .i64 x, .slice a n c] 58))) := ⟨boxB.new _ _ _, n1 _ _⟩
  rw [hn] at hl hc ⊢
  clear hn
  go_enter Tryz.func45, Tryz.ntmps45
  go_wp2
  go_loopw [3, 4, 8] (fun t3 t4 i wr => ∃ k : Nat, k ≤ n ∧ i = .int .i64 (k : Int) ∧ Hid (∀ (j : Nat) (h : j < L.length), j < k → okAt L j h) ∧ Hid (boxB wr w.heap.size #[.int .i64 x, .slice a n c] 58 ∧ Below w.heap.size w wr)) (fun _ _ i _ => n - (intOf i).toNat)
  case atStart => exact ⟨0, by omega, rfl, fun j _ hj => by omega, b0⟩
  case round =>
    obtain ⟨k, hk, rfl, HK, HW⟩ := hrel
    clear b0
    by_cases hlt : k < n
    · have hlt2 : k < L.length := by rw [HN.out]; exact hlt
      rcases HA.out with hnil | ⟨g, o, rfl, hrw⟩
      · rw [hnil] at hlt2; simp at hlt2
      · have hr1 : Row 72 6 ReqKit.cells wr g o L := hrw.below HW.out.2
        obtain ⟨sx, hsx⟩ : ∃ s, L[k] = s := ⟨_, rfl⟩
        obtain ⟨x0, x1, x2, x3, x4, x5⟩ := sx
        have u9 := fun j hj => (hr1).cell k hlt2 j hj
        have p0 : wr.cell? ⟨g, o + k * 6, none⟩ = some (.int .i64 x0) := by have h9 := u9 0 (by omega); rw [hsx] at h9; exact h9
        have p1 : wr.cell? ⟨g, o + k * 6 + 1, none⟩ = some (.int .i64 x1) := by have h9 := u9 1 (by omega); rw [hsx] at h9; exact h9
        have p2 : wr.cell? ⟨g, o + k * 6 + 2, none⟩ = some (.int .i64 x2) := by have h9 := u9 2 (by omega); rw [hsx] at h9; exact h9
        have p3 : wr.cell? ⟨g, o + k * 6 + 3, none⟩ = some (.int .i64 x3) := by have h9 := u9 3 (by omega); rw [hsx] at h9; exact h9
        have p4 : wr.cell? ⟨g, o + k * 6 + 4, none⟩ = some (.int .i64 x4) := by have h9 := u9 4 (by omega); rw [hsx] at h9; exact h9
        have p5 : wr.cell? ⟨g, o + k * 6 + 5, none⟩ = some (.int .i64 x5) := by have h9 := u9 5 (by omega); rw [hsx] at h9; exact h9
        clear u9
        have hli : (k : Int) < (n : Int) := by omega
        have hkc : (k : Int) < (c : Int) := by omega
        have HS : Hid (L[k] = ⟨x0, x1, x2, x3, x4, x5⟩) := hsx
        have HR : Hid (Row 72 6 ReqKit.cells wr g o L) := hr1
        have HRQ := fun W => ReqOks.spec_reqok x0 x1 x2 x3 x4 x5 W
        obtain ⟨v, hv⟩ : ∃ v, ReqOks.reqOk ⟨x0, x1, x2, x3, x4, x5⟩ = v := ⟨_, rfl⟩
        have HV : Hid (ReqOks.reqOk ⟨x0, x1, x2, x3, x4, x5⟩ = v) := hv
        rw [hv] at HRQ
        obtain ⟨r, hr⟩ := at_ex L x0
        have HT : Hid (AtId L x0 r) := hr
        have HAT := fun W h => QueAt.spec_at x (some ⟨g, o, none⟩) c L x0 r W h HL.out.1 HL.out.2 HT
        rw [HN.out] at HAT
        clear hr1 hsx hrw hv hr
        go_upto_region 4 with fail
        have B6 : Hid (boxB (wr.alloc (.cells #[.int .i64 x0, .int .i64 x1, .int .i64 x2, .int .i64 x3, .int .i64 x4, .int .i64 x5] 72)) w.heap.size #[.int .i64 x, .slice (some ⟨g, o, none⟩) n c] 58 ∧ Below w.heap.size w (wr.alloc (.cells #[.int .i64 x0, .int .i64 x1, .int .i64 x2, .int .i64 x3, .int .i64 x4, .int .i64 x5] 72)) ∧ boxB (wr.alloc (.cells #[.int .i64 x0, .int .i64 x1, .int .i64 x2, .int .i64 x3, .int .i64 x4, .int .i64 x5] 72)) wr.heap.size #[.int .i64 x0, .int .i64 x1, .int .i64 x2, .int .i64 x3, .int .i64 x4, .int .i64 x5] 72 ∧ Own 72 6 ReqKit.cells (wr.alloc (.cells #[.int .i64 x0, .int .i64 x1, .int .i64 x2, .int .i64 x3, .int .i64 x4, .int .i64 x5] 72)) (some ⟨g, o, none⟩) L) :=
          ⟨HW.out.1.below (n1 _ _), HW.out.2.alloc HW.out.2.size _, boxB.new _ _ _, Or.inr ⟨g, o, rfl, HR.out.below (n1 _ _)⟩⟩
        have HR6 : Hid (Row 72 6 ReqKit.cells (wr.alloc (.cells #[.int .i64 x0, .int .i64 x1, .int .i64 x2, .int .i64 x3, .int .i64 x4, .int .i64 x5] 72)) g o L) := HR.out.below (n1 _ _)
        clear p0 p1 p2 p3 p4 p5 HR
        generalize (wr.alloc (.cells #[.int .i64 x0, .int .i64 x1, .int .i64 x2, .int .i64 x3, .int .i64 x4, .int .i64 x5] 72)) = W6 at *
        have l0 := B6.out.1.cell 0
        have l1 := B6.out.1.cell 1
        have XL := Near.cell l0
        have XM := Near.cell l1
        have q0 := B6.out.2.2.1.cell 0
        have X0 := Near.cell q0
        have q1 := B6.out.2.2.1.cell 1
        have X1 := Near.cell q1
        have q2 := B6.out.2.2.1.cell 2
        have X2 := Near.cell q2
        have q3 := B6.out.2.2.1.cell 3
        have X3 := Near.cell q3
        have q4 := B6.out.2.2.1.cell 4
        have X4 := Near.cell q4
        have q5 := B6.out.2.2.1.cell 5
        have X5 := Near.cell q5
        clear q0 q1 q2 q3 q4 q5 l0 l1
        have near := Near.is W6
        cases v with
        | false =>
          obtain rfl : B = false := by
            cases B with
            | false => rfl
            | true =>
              have h2 := ((bf.out.1 rfl).2.2.2 k hlt2).1
              rw [HS.out, HV.out] at h2
              cases h2
          refine wp_region_near (by kernel_rfl) (by kernel_rfl) ?_
          repeat (go_big_quiet_step (first | (go_at_call 82; exact near_call (HRQ _)) | (go_at_call 17; exact near_call (HAT _ (B6.out.2.2.2.below (Near.near _))))))
          refine wpQuiet_nil ?_
          intro wx hwx
          obtain ⟨y, hy⟩ := hwx
          subst hy
          have BY : Hid (boxB y.w w.heap.size #[.int .i64 x, .slice (some ⟨g, o, none⟩) n c] 58 ∧ Below w.heap.size w y.w) := ⟨B6.out.1.below y.near, B6.out.2.1.trans (y.near.mono B6.out.2.1.size)⟩
          obtain ⟨wd, hwd⟩ : ∃ wd, y.w = wd := ⟨_, rfl⟩
          rw [hwd] at BY ⊢
          clear hwd y near X0 X1 X2 X3 X4 X5 XL XM
          go_wp2
          go_ret
          exact ⟨rfl, BY.out.2⟩
        | true =>
          by_cases er : r = (k : Int)
          · subst er
            have hne : ((k : Int) != (k : Int)) = false := by simp
            have hfst : Hid (∀ (j : Nat) (hj : j < k), (L[j]'(by omega)).x0 ≠ L[k].x0) := by
              have h9 : AtId L L[k].x0 (k : Int) := by rw [HS.out]; exact HT.out
              exact (at_same hlt2 h9).1 rfl
            by_cases hk0 : 0 < k
            · have hkd : decide (0 < (k : Int)) = true := by simp; omega
              obtain ⟨j, hj⟩ : ∃ j, k = j + 1 := ⟨k - 1, by omega⟩
              have hji : (k : Int) - 1 = (j : Int) := by omega
              have hjw : IntKind.i64.wrap (j : Int) = (j : Int) := by rw [IntKind.wrap_i64]; omega
              have hjn : (j : Int) < (n : Int) := by omega
              have hj2 : j < L.length := by omega
              obtain ⟨sy, hsy⟩ : ∃ s, L[j] = s := ⟨_, rfl⟩
              obtain ⟨y0, y1, y2, y3, y4, y5⟩ := sy
              have HY : Hid (L[j] = ⟨y0, y1, y2, y3, y4, y5⟩) := hsy
              have hz : W6.cell? ⟨g, o + j * 6 + 4, none⟩ = some (.int .i64 y4) := by
                have h9 := HR6.out.cell j hj2 4 (by omega)
                rw [hsy] at h9
                exact h9
              have XP := Near.cell hz
              clear hz hsy
              by_cases hcm : y4 ≤ x4
              · have hcd : decide (x4 < y4) = false := by simp; omega
                have HK2 : Hid (∀ (j : Nat) (h : j < L.length), j < k + 1 → okAt L j h) := fun i hi hik => by
                  by_cases e : i = k
                  · subst e
                    refine ⟨by rw [HS.out]; exact HV.out, hfst.out, fun _ => ?_⟩
                    have e2 : i - 1 = j := by omega
                    have h9 : (L[i - 1]'(by omega)).x4 = y4 := by simp only [e2, HY.out]
                    rw [h9, HS.out]
                    exact hcm
                  · exact HK.out i hi (by omega)
                clear hcm HK
                refine wp_region_near (by kernel_rfl) (by kernel_rfl) ?_
                repeat (go_big_quiet_step (first | (go_at_call 82; exact near_call (HRQ _)) | (go_at_call 17; exact near_call (HAT _ (B6.out.2.2.2.below (Near.near _))))))
                refine wpQuiet_nil ?_
                intro wx hwx
                obtain ⟨y, hy⟩ := hwx
                subst hy
                have BY : Hid (boxB y.w w.heap.size #[.int .i64 x, .slice (some ⟨g, o, none⟩) n c] 58 ∧ Below w.heap.size w y.w) := ⟨B6.out.1.below y.near, B6.out.2.1.trans (y.near.mono B6.out.2.1.size)⟩
                obtain ⟨wd, hwd⟩ : ∃ wd, y.w = wd := ⟨_, rfl⟩
                rw [hwd] at BY ⊢
                clear hwd y near X0 X1 X2 X3 X4 X5 XL XM XP
                go_wp2
                go_roundw
                case rel => exact ⟨k + 1, by omega, by go_num, HK2, BY⟩
                case measure => simp [intOf]; omega
              · have hcd : decide (x4 < y4) = true := by simp; omega
                obtain rfl : B = false := by
                  cases B with
                  | false => rfl
                  | true =>
                    have h2 := ((bf.out.1 rfl).2.2.2 k hlt2).2.2 hk0
                    have e2 : k - 1 = j := by omega
                    have h9 : (L[k - 1]'(by omega)).x4 = y4 := by simp only [e2, HY.out]
                    rw [h9, HS.out] at h2
                    exact absurd h2 hcm
                clear hcm
                refine wp_region_near (by kernel_rfl) (by kernel_rfl) ?_
                repeat (go_big_quiet_step (first | (go_at_call 82; exact near_call (HRQ _)) | (go_at_call 17; exact near_call (HAT _ (B6.out.2.2.2.below (Near.near _))))))
                refine wpQuiet_nil ?_
                intro wx hwx
                obtain ⟨y, hy⟩ := hwx
                subst hy
                have BY : Hid (boxB y.w w.heap.size #[.int .i64 x, .slice (some ⟨g, o, none⟩) n c] 58 ∧ Below w.heap.size w y.w) := ⟨B6.out.1.below y.near, B6.out.2.1.trans (y.near.mono B6.out.2.1.size)⟩
                obtain ⟨wd, hwd⟩ : ∃ wd, y.w = wd := ⟨_, rfl⟩
                rw [hwd] at BY ⊢
                clear hwd y near X0 X1 X2 X3 X4 X5 XL XM XP
                go_wp2
                go_ret
                exact ⟨rfl, BY.out.2⟩
            · have hkd : decide (0 < (k : Int)) = false := by simp; omega
              have HK2 : Hid (∀ (j : Nat) (h : j < L.length), j < k + 1 → okAt L j h) := fun i hi hik => by
                by_cases e : i = k
                · subst e
                  exact ⟨by rw [HS.out]; exact HV.out, hfst.out, fun h => absurd h hk0⟩
                · exact HK.out i hi (by omega)
              clear HK
              refine wp_region_near (by kernel_rfl) (by kernel_rfl) ?_
              repeat (go_big_quiet_step (first | (go_at_call 82; exact near_call (HRQ _)) | (go_at_call 17; exact near_call (HAT _ (B6.out.2.2.2.below (Near.near _))))))
              refine wpQuiet_nil ?_
              intro wx hwx
              obtain ⟨y, hy⟩ := hwx
              subst hy
              have BY : Hid (boxB y.w w.heap.size #[.int .i64 x, .slice (some ⟨g, o, none⟩) n c] 58 ∧ Below w.heap.size w y.w) := ⟨B6.out.1.below y.near, B6.out.2.1.trans (y.near.mono B6.out.2.1.size)⟩
              obtain ⟨wd, hwd⟩ : ∃ wd, y.w = wd := ⟨_, rfl⟩
              rw [hwd] at BY ⊢
              clear hwd y near X0 X1 X2 X3 X4 X5 XL XM
              go_wp2
              go_roundw
              case rel => exact ⟨k + 1, by omega, by go_num, HK2, BY⟩
              case measure => simp [intOf]; omega
          · have hne : (r != (k : Int)) = true := by simpa using er
            obtain rfl : B = false := by
              cases B with
              | false => rfl
              | true =>
                have h2 := ((bf.out.1 rfl).2.2.2 k hlt2).2.1
                have h9 : AtId L L[k].x0 r := by rw [HS.out]; exact HT.out
                exact absurd ((at_same hlt2 h9).2 h2) er
            clear er
            refine wp_region_near (by kernel_rfl) (by kernel_rfl) ?_
            repeat (go_big_quiet_step (first | (go_at_call 82; exact near_call (HRQ _)) | (go_at_call 17; exact near_call (HAT _ (B6.out.2.2.2.below (Near.near _))))))
            refine wpQuiet_nil ?_
            intro wx hwx
            obtain ⟨y, hy⟩ := hwx
            subst hy
            have BY : Hid (boxB y.w w.heap.size #[.int .i64 x, .slice (some ⟨g, o, none⟩) n c] 58 ∧ Below w.heap.size w y.w) := ⟨B6.out.1.below y.near, B6.out.2.1.trans (y.near.mono B6.out.2.1.size)⟩
            obtain ⟨wd, hwd⟩ : ∃ wd, y.w = wd := ⟨_, rfl⟩
            rw [hwd] at BY ⊢
            clear hwd y near X0 X1 X2 X3 X4 X5 XL XM
            go_wp2
            go_ret
            exact ⟨rfl, BY.out.2⟩
    · obtain rfl : k = n := by omega
      have HE : Hid (B = true ↔ 0 ≤ x ∧ x ≤ 50 ∧ (k : Int) ≤ x) := by
        show B = true ↔ _
        rw [bf.out]
        unfold QueOk
        have hn : (L.length : Int) = (k : Int) := by rw [HN.out]
        exact ⟨fun h => ⟨h.1, h.2.1, by rw [← hn]; exact h.2.2.1⟩, fun h => ⟨h.1, h.2.1, by rw [hn]; exact h.2.2, fun j hj => HK.out j hj (by rw [← HN.out]; exact hj)⟩⟩
      have l0 := HW.out.1.cell 0
      have l1 := HW.out.1.cell 1
      by_cases t1 : 0 ≤ x
      · have d1 : decide (0 ≤ x) = true := by simpa using t1
        by_cases t2 : x ≤ 50
        · have d2 : decide (x ≤ 50) = true := by simpa using t2
          by_cases t3 : (k : Int) ≤ x
          · have d3 : decide ((k : Int) ≤ x) = true := by simpa using t3
            obtain rfl : B = true := HE.out.2 ⟨t1, t2, t3⟩
            go_wp2
            go_ret
            exact ⟨rfl, HW.out.2⟩
          · have d3 : decide ((k : Int) ≤ x) = false := by simpa using t3
            obtain rfl : B = false := by
              cases B with
              | false => rfl
              | true => exact absurd (HE.out.1 rfl).2.2 t3
            go_wp2
            go_ret
            exact ⟨rfl, HW.out.2⟩
        · have d2 : decide (x ≤ 50) = false := by simpa using t2
          obtain rfl : B = false := by
            cases B with
            | false => rfl
            | true => exact absurd (HE.out.1 rfl).2.1 t2
          go_wp2
          go_ret
          exact ⟨rfl, HW.out.2⟩
      · have d1 : decide (0 ≤ x) = false := by simpa using t1
        obtain rfl : B = false := by
          cases B with
          | false => rfl
          | true => exact absurd (HE.out.1 rfl).1 t1
        go_wp2
        go_ret
        exact ⟨rfl, HW.out.2⟩
end Go.Proofs.YtnabnghjejncpaaGreat.QueOkS
end

section
namespace Go.Proofs.YtnabnghjejncpaaGreat.QueStandI
open Go.RowKit ListKit HoldKit QueMath NearKit
set_option maxRecDepth 8000
set_option linter.unusedVariables false
set_option linter.unusedSimpArgs false

theorem row_take {α : Type} {t : TypeId} {m : Nat} {f : α → List Value} {w : World} {g o : Nat} {L : List α} (h : Row t m f w g o L) (k : Nat) : Row t m f w g o (L.take k) := by
  obtain ⟨cur, hg, hs, hc⟩ := h
  refine ⟨cur, hg, ?_, fun i hi j hj => ?_⟩
  · have h1 : (L.take k).length ≤ L.length := by rw [List.length_take]; omega
    have := Nat.mul_le_mul_right m h1
    omega
  · have h1 : i < L.length := by rw [List.length_take] at hi; omega
    rw [hc i h1 j hj, List.getElem_take]
set_option maxHeartbeats 8000000 in
theorem impl_stand (a : Option Addr) (c : Nat) (L : List ReqKit.Req) (B : Bool) (w : World) (h : Own 72 6 ReqKit.cells w a L) (hl : L.length ≤ 1048577) (hc : L.length ≤ c) (bf : Hid (B = true ↔ ∀ (k : Nat) (h : k < L.length), okAt L k h)) :
    Calls Tryz.prog 94 #[.slice a L.length c] w fun e w' => e = .returned (.bool B) ∧ Below w.heap.size w w' := by
  have HA : Hid (Own 72 6 ReqKit.cells w a L) := h
  clear h
  obtain ⟨n, hn⟩ : ∃ n, L.length = n := ⟨_, rfl⟩
  have HN : Hid (L.length = n) := hn
  rw [hn] at hl hc ⊢
  clear hn
  go_enter Tryz.func94, Tryz.ntmps94
  go_wp2
  go_loopw [3, 4, 7] (fun t3 t4 i wr => ∃ k : Nat, k ≤ n ∧ i = .int .i64 (k : Int) ∧ Hid (∀ (j : Nat) (h : j < L.length), j < k → okAt L j h) ∧ Hid (Below w.heap.size w wr)) (fun _ _ i _ => n - (intOf i).toNat)
  case atStart => exact ⟨0, by omega, rfl, fun j _ hj => by omega, Below.refl _ _⟩
  case round =>
    obtain ⟨k, hk, rfl, HK, HW⟩ := hrel
    by_cases hlt : k < n
    · have hlt2 : k < L.length := by rw [HN.out]; exact hlt
      rcases HA.out with hnil | ⟨g, o, rfl, hrw⟩
      · rw [hnil] at hlt2; simp at hlt2
      · have hr1 : Row 72 6 ReqKit.cells wr g o L := hrw.below HW.out
        obtain ⟨sx, hsx⟩ : ∃ s, L[k] = s := ⟨_, rfl⟩
        obtain ⟨x0, x1, x2, x3, x4, x5⟩ := sx
        have u9 := fun jj hjj => (hr1).cell k hlt2 jj hjj
        have p0 : wr.cell? ⟨g, o + k * 6, none⟩ = some (.int .i64 x0) := by have h9 := u9 0 (by omega); rw [hsx] at h9; exact h9
        have p1 : wr.cell? ⟨g, o + k * 6 + 1, none⟩ = some (.int .i64 x1) := by have h9 := u9 1 (by omega); rw [hsx] at h9; exact h9
        have p2 : wr.cell? ⟨g, o + k * 6 + 2, none⟩ = some (.int .i64 x2) := by have h9 := u9 2 (by omega); rw [hsx] at h9; exact h9
        have p3 : wr.cell? ⟨g, o + k * 6 + 3, none⟩ = some (.int .i64 x3) := by have h9 := u9 3 (by omega); rw [hsx] at h9; exact h9
        have p4 : wr.cell? ⟨g, o + k * 6 + 4, none⟩ = some (.int .i64 x4) := by have h9 := u9 4 (by omega); rw [hsx] at h9; exact h9
        have p5 : wr.cell? ⟨g, o + k * 6 + 5, none⟩ = some (.int .i64 x5) := by have h9 := u9 5 (by omega); rw [hsx] at h9; exact h9
        clear u9
        have hli : (k : Int) < (n : Int) := by omega
        have hkc : (k : Int) ≤ (c : Int) := by omega
        have hkc2 : (k : Int) < (c : Int) := by omega
        have hkc3 : k ≤ c := by omega
        have HS : Hid (L[k] = ⟨x0, x1, x2, x3, x4, x5⟩) := hsx
        have HR : Hid (Row 72 6 ReqKit.cells wr g o L) := hr1
        have HRQ := fun W => ReqOks.impl_reqok x0 x1 x2 x3 x4 x5 W
        obtain ⟨v, hv⟩ : ∃ v, ReqOks.reqOk ⟨x0, x1, x2, x3, x4, x5⟩ = v := ⟨_, rfl⟩
        have HV : Hid (ReqOks.reqOk ⟨x0, x1, x2, x3, x4, x5⟩ = v) := hv
        rw [hv] at HRQ
        obtain ⟨r, hr⟩ := at_ex (L.take k) x0
        have HT : Hid (AtId (L.take k) x0 r) := hr
        have htk : (L.take k).length = k := by rw [List.length_take]; omega
        have HAT := fun W h => QueFindI.impl_place (some ⟨g, o, none⟩) c (L.take k) x0 r W h (by omega) HT
        rw [htk] at HAT
        have HAT : ∀ W, Own 72 6 ReqKit.cells W (some ⟨g, o, none⟩) L → Calls Tryz.prog 115 #[.slice (some ⟨g, o, none⟩) k c, .int .i64 x0] W fun e w' => e = .returned (.int .i64 r) ∧ Below W.heap.size W w' := fun W h => HAT W (by
          rcases h with h | ⟨g2, o2, e2, h2⟩
          · rw [h] at hlt2; simp at hlt2
          · injection e2 with e2; injection e2 with e3 e4 e5; subst e3 e4; exact Or.inr ⟨g, o, rfl, row_take h2 k⟩)
        clear hr1 hsx hrw hv hr htk
        go_upto_region 4 with fail
        have B6 : Hid (Below w.heap.size w (wr.alloc (.cells #[.int .i64 x0, .int .i64 x1, .int .i64 x2, .int .i64 x3, .int .i64 x4, .int .i64 x5] 72)) ∧ Row 72 6 ReqKit.cells (wr.alloc (.cells #[.int .i64 x0, .int .i64 x1, .int .i64 x2, .int .i64 x3, .int .i64 x4, .int .i64 x5] 72)) g o L ∧ boxB (wr.alloc (.cells #[.int .i64 x0, .int .i64 x1, .int .i64 x2, .int .i64 x3, .int .i64 x4, .int .i64 x5] 72)) wr.heap.size #[.int .i64 x0, .int .i64 x1, .int .i64 x2, .int .i64 x3, .int .i64 x4, .int .i64 x5] 72) := ⟨HW.out.alloc HW.out.size _, HR.out.below (n1 _ _), boxB.new _ _ _⟩
        clear p0 p1 p2 p3 p4 p5 HR HW
        generalize (wr.alloc (.cells #[.int .i64 x0, .int .i64 x1, .int .i64 x2, .int .i64 x3, .int .i64 x4, .int .i64 x5] 72)) = W6 at *
        have q0 := B6.out.2.2.cell 0
        have X0 := Near.cell q0
        have q1 := B6.out.2.2.cell 1
        have X1 := Near.cell q1
        have q2 := B6.out.2.2.cell 2
        have X2 := Near.cell q2
        have q3 := B6.out.2.2.cell 3
        have X3 := Near.cell q3
        have q4 := B6.out.2.2.cell 4
        have X4 := Near.cell q4
        have q5 := B6.out.2.2.cell 5
        have X5 := Near.cell q5
        clear q0 q1 q2 q3 q4 q5
        have near := Near.is W6
        cases v with
        | false =>
          obtain rfl : B = false := by
            cases B with
            | false => rfl
            | true =>
              have h2 := (bf.out.1 rfl k hlt2).1
              rw [HS.out, HV.out] at h2
              cases h2
          refine wp_region_near (by kernel_rfl) (by kernel_rfl) ?_
          repeat (go_big_quiet_step (first | (go_at_call 114; exact near_call (HRQ _)) | (go_at_call 115; exact near_call (HAT _ (Or.inr ⟨g, o, rfl, B6.out.2.1.below (Near.near _)⟩)))))
          refine wpQuiet_nil ?_
          intro wx hwx
          obtain ⟨y, hy⟩ := hwx
          subst hy
          have BY : Hid (Below w.heap.size w y.w ∧ Row 72 6 ReqKit.cells y.w g o L ∧ boxB y.w wr.heap.size #[.int .i64 x0, .int .i64 x1, .int .i64 x2, .int .i64 x3, .int .i64 x4, .int .i64 x5] 72) := ⟨B6.out.1.trans (y.near.mono B6.out.1.size), B6.out.2.1.below y.near, B6.out.2.2.below y.near⟩
          obtain ⟨wd, hwd⟩ : ∃ wd, y.w = wd := ⟨_, rfl⟩
          rw [hwd] at BY ⊢
          clear hwd y near X0 X1 X2 X3 X4 X5
          go_wp2
          go_ret
          exact ⟨rfl, BY.out.1⟩
        | true =>
          by_cases er : 0 ≤ r
          · have erd : decide (0 ≤ r) = true := by simpa using er
            obtain rfl : B = false := by
              cases B with
              | false => rfl
              | true =>
                have h2 := (bf.out.1 rfl k hlt2).2.1
                rcases HT.out with ⟨h3, _⟩ | ⟨q, h3, hq, h4, _⟩
                · omega
                · have hqk : q < k := by rw [List.length_take] at hq; omega
                  rw [List.getElem_take] at h4
                  have h5 := h2 q hqk
                  rw [HS.out] at h5
                  exact absurd h4 h5
            clear er
            refine wp_region_near (by kernel_rfl) (by kernel_rfl) ?_
            repeat (go_big_quiet_step (first | (go_at_call 114; exact near_call (HRQ _)) | (go_at_call 115; exact near_call (HAT _ (Or.inr ⟨g, o, rfl, B6.out.2.1.below (Near.near _)⟩)))))
            refine wpQuiet_nil ?_
            intro wx hwx
            obtain ⟨y, hy⟩ := hwx
            subst hy
            have BY : Hid (Below w.heap.size w y.w ∧ Row 72 6 ReqKit.cells y.w g o L ∧ boxB y.w wr.heap.size #[.int .i64 x0, .int .i64 x1, .int .i64 x2, .int .i64 x3, .int .i64 x4, .int .i64 x5] 72) := ⟨B6.out.1.trans (y.near.mono B6.out.1.size), B6.out.2.1.below y.near, B6.out.2.2.below y.near⟩
            obtain ⟨wd, hwd⟩ : ∃ wd, y.w = wd := ⟨_, rfl⟩
            rw [hwd] at BY ⊢
            clear hwd y near X0 X1 X2 X3 X4 X5
            go_wp2
            go_ret
            exact ⟨rfl, BY.out.1⟩
          · have erd : decide (0 ≤ r) = false := by simpa using er
            have hfst : Hid (∀ (j : Nat) (hj : j < k), (L[j]'(by omega)).x0 ≠ L[k].x0) := fun j hj => by
              rcases HT.out with ⟨_, h3⟩ | ⟨q, h3, _⟩
              · have h4 := h3 j (by rw [List.length_take]; omega)
                rw [List.getElem_take] at h4
                rw [HS.out]
                exact h4
              · omega
            clear er
            refine wp_region_near (by kernel_rfl) (by kernel_rfl) ?_
            repeat (go_big_quiet_step (first | (go_at_call 114; exact near_call (HRQ _)) | (go_at_call 115; exact near_call (HAT _ (Or.inr ⟨g, o, rfl, B6.out.2.1.below (Near.near _)⟩)))))
            refine wpQuiet_nil ?_
            intro wx hwx
            obtain ⟨y, hy⟩ := hwx
            subst hy
            have BY : Hid (Below w.heap.size w y.w ∧ Row 72 6 ReqKit.cells y.w g o L ∧ boxB y.w wr.heap.size #[.int .i64 x0, .int .i64 x1, .int .i64 x2, .int .i64 x3, .int .i64 x4, .int .i64 x5] 72) := ⟨B6.out.1.trans (y.near.mono B6.out.1.size), B6.out.2.1.below y.near, B6.out.2.2.below y.near⟩
            obtain ⟨wd, hwd⟩ : ∃ wd, y.w = wd := ⟨_, rfl⟩
            rw [hwd] at BY ⊢
            clear hwd y near X0 X1 X2 X3 X4 X5 B6
            go_upto_region 6 with fail
            have q4 := BY.out.2.2.cell 4
            have X4 := Near.cell q4
            clear q4
            have near := Near.is wd
            by_cases hk0 : 0 < k
            · have hkd : decide (0 < (k : Int)) = true := by simp; omega
              obtain ⟨j, hj⟩ : ∃ j, k = j + 1 := ⟨k - 1, by omega⟩
              have hji : (k : Int) - 1 = (j : Int) := by omega
              have hjw : IntKind.i64.wrap (j : Int) = (j : Int) := by rw [IntKind.wrap_i64]; omega
              have hjn : (j : Int) < (n : Int) := by omega
              have hj2 : j < L.length := by omega
              obtain ⟨sy, hsy⟩ : ∃ s, L[j] = s := ⟨_, rfl⟩
              obtain ⟨y0, y1, y2, y3, y4, y5⟩ := sy
              have HY : Hid (L[j] = ⟨y0, y1, y2, y3, y4, y5⟩) := hsy
              have hz : wd.cell? ⟨g, o + j * 6 + 4, none⟩ = some (.int .i64 y4) := by
                have h9 := BY.out.2.1.cell j hj2 4 (by omega)
                rw [hsy] at h9
                exact h9
              have XP := Near.cell hz
              clear hz hsy
              by_cases hcm : y4 ≤ x4
              · have hcd : decide (x4 < y4) = false := by simp; omega
                have HK2 : Hid (∀ (j : Nat) (h : j < L.length), j < k + 1 → okAt L j h) := fun i hi hik => by
                  by_cases e : i = k
                  · subst e
                    refine ⟨by rw [HS.out]; exact HV.out, hfst.out, fun _ => ?_⟩
                    have e2 : i - 1 = j := by omega
                    have h9 : (L[i - 1]'(by omega)).x4 = y4 := by simp only [e2, HY.out]
                    rw [h9, HS.out]
                    exact hcm
                  · exact HK.out i hi (by omega)
                clear hcm HK hj
                refine wp_region_near (by kernel_rfl) (by kernel_rfl) ?_
                repeat (go_big_quiet_step (fail))
                refine wpQuiet_nil ?_
                intro wx hwx
                obtain ⟨y, hy⟩ := hwx
                subst hy
                have BZ : Hid (Below w.heap.size w y.w ∧ Row 72 6 ReqKit.cells y.w g o L ∧ boxB y.w wr.heap.size #[.int .i64 x0, .int .i64 x1, .int .i64 x2, .int .i64 x3, .int .i64 x4, .int .i64 x5] 72) := ⟨BY.out.1.trans (y.near.mono BY.out.1.size), BY.out.2.1.below y.near, BY.out.2.2.below y.near⟩
                obtain ⟨wd, hwd⟩ : ∃ wd, y.w = wd := ⟨_, rfl⟩
                rw [hwd] at BZ ⊢
                clear hwd y near X4 XP
                go_wp2
                go_roundw
                case rel => exact ⟨k + 1, by omega, by go_num, HK2, BZ.out.1⟩
                case measure => simp [intOf]; omega
              · have hcd : decide (x4 < y4) = true := by simp; omega
                obtain rfl : B = false := by
                  cases B with
                  | false => rfl
                  | true =>
                    have h2 := (bf.out.1 rfl k hlt2).2.2 hk0
                    have e2 : k - 1 = j := by omega
                    have h9 : (L[k - 1]'(by omega)).x4 = y4 := by simp only [e2, HY.out]
                    rw [h9, HS.out] at h2
                    exact absurd h2 hcm
                clear hcm hj
                refine wp_region_near (by kernel_rfl) (by kernel_rfl) ?_
                repeat (go_big_quiet_step (fail))
                refine wpQuiet_nil ?_
                intro wx hwx
                obtain ⟨y, hy⟩ := hwx
                subst hy
                have BZ : Hid (Below w.heap.size w y.w ∧ Row 72 6 ReqKit.cells y.w g o L ∧ boxB y.w wr.heap.size #[.int .i64 x0, .int .i64 x1, .int .i64 x2, .int .i64 x3, .int .i64 x4, .int .i64 x5] 72) := ⟨BY.out.1.trans (y.near.mono BY.out.1.size), BY.out.2.1.below y.near, BY.out.2.2.below y.near⟩
                obtain ⟨wd, hwd⟩ : ∃ wd, y.w = wd := ⟨_, rfl⟩
                rw [hwd] at BZ ⊢
                clear hwd y near X4 XP
                go_wp2
                go_ret
                exact ⟨rfl, BZ.out.1⟩
            · have hkd : decide (0 < (k : Int)) = false := by simp; omega
              have HK2 : Hid (∀ (j : Nat) (h : j < L.length), j < k + 1 → okAt L j h) := fun i hi hik => by
                by_cases e : i = k
                · subst e
                  exact ⟨by rw [HS.out]; exact HV.out, hfst.out, fun h => absurd h hk0⟩
                · exact HK.out i hi (by omega)
              clear HK
              refine wp_region_near (by kernel_rfl) (by kernel_rfl) ?_
              repeat (go_big_quiet_step (fail))
              refine wpQuiet_nil ?_
              intro wx hwx
              obtain ⟨y, hy⟩ := hwx
              subst hy
              have BZ : Hid (Below w.heap.size w y.w ∧ Row 72 6 ReqKit.cells y.w g o L ∧ boxB y.w wr.heap.size #[.int .i64 x0, .int .i64 x1, .int .i64 x2, .int .i64 x3, .int .i64 x4, .int .i64 x5] 72) := ⟨BY.out.1.trans (y.near.mono BY.out.1.size), BY.out.2.1.below y.near, BY.out.2.2.below y.near⟩
              obtain ⟨wd, hwd⟩ : ∃ wd, y.w = wd := ⟨_, rfl⟩
              rw [hwd] at BZ ⊢
              clear hwd y near X4
              go_wp2
              go_roundw
              case rel => exact ⟨k + 1, by omega, by go_num, HK2, BZ.out.1⟩
              case measure => simp [intOf]; omega
    · obtain rfl : k = n := by omega
      obtain rfl : B = true := bf.out.2 (fun j hj => HK.out j hj (by rw [← HN.out]; exact hj))
      go_wp2
      go_ret
      exact ⟨rfl, HW.out⟩
set_option maxHeartbeats 4000000 in
theorem impl_queueok (x : Int) (a : Option Addr) (c : Nat) (L : List ReqKit.Req) (B : Bool) (w : World) (h : Own 72 6 ReqKit.cells w a L) (hl : L.length ≤ 1048577) (hc : L.length ≤ c) (bf : Hid (B = true ↔ QueOk x L)) :
    Calls Tryz.prog 60 #[.agg #[.int .i64 x, .slice a L.length c]] w fun e w' => e = .returned (.bool B) ∧ Below w.heap.size w w' := by
  have HA : Hid (Own 72 6 ReqKit.cells w a L) := h
  obtain ⟨B2, hB2⟩ : ∃ B2 : Bool, B2 = true ↔ ∀ (k : Nat) (h : k < L.length), okAt L k h := ⟨@decide _ (Classical.propDecidable _), @decide_eq_true_iff _ (Classical.propDecidable _)⟩
  have HST := fun W h => impl_stand a c L B2 W h hl hc hB2
  have HRM := fun W => QueFindI.impl_room x W
  obtain ⟨rm, hrm⟩ : ∃ rm, QueMiscS.roomOk x = rm := ⟨_, rfl⟩
  rw [hrm] at HRM
  have HB : Hid (B = (rm && decide ((L.length : Int) ≤ x) && B2)) := by
    have e : ∀ A C : Bool, (A = true ↔ C = true) → A = C := fun A C h => by cases A <;> cases C <;> simp_all
    refine e _ _ ?_
    rw [bf.out]
    unfold QueOk
    rw [Bool.and_eq_true, Bool.and_eq_true, hB2, ← hrm]
    simp only [QueMiscS.roomOk, decide_eq_true_eq]
    constructor
    · rintro ⟨h1, h2, h3, h4⟩; exact ⟨⟨⟨h1, h2⟩, h3⟩, h4⟩
    · rintro ⟨⟨⟨h1, h2⟩, h3⟩, h4⟩; exact ⟨h1, h2, h3, h4⟩
  have b0 : Hid (Below w.heap.size w (w.alloc (.cells #[.int .i64 x, .slice a L.length c] 58)) ∧ boxB (w.alloc (.cells #[.int .i64 x, .slice a L.length c] 58)) w.heap.size #[.int .i64 x, .slice a L.length c] 58) := ⟨n1 _ _, boxB.new _ _ _⟩
  clear h hB2 bf hrm
  obtain ⟨n, hn⟩ : ∃ n, L.length = n := ⟨_, rfl⟩
  rw [hn] at hl hc b0 HST HB ⊢
  clear hn
  cases rm with
  | false =>
    obtain rfl : B = false := by rw [HB.out]; rfl
    go_enter Tryz.func60, Tryz.ntmps60
    go_wp2_with (go_at_call 88; refine (HRM _).mono ?_; rintro e w9 ⟨rfl, hw9⟩; rw [hw9]; clear hw9 w9)
    go_ret
    exact ⟨rfl, b0.out.1⟩
  | true =>
    by_cases t : (n : Int) ≤ x
    · have td : decide ((n : Int) ≤ x) = true := by simpa using t
      obtain rfl : B = B2 := by rw [HB.out, td]; simp
      clear t
      go_enter Tryz.func60, Tryz.ntmps60
      go_wp2_with (first | (go_at_call 88; refine (HRM _).mono ?_; rintro e w9 ⟨rfl, hw9⟩; rw [hw9]; clear hw9 w9) | (go_at_call 94; refine (HST _ (HA.out.below b0.out.1)).mono ?_; rintro e w1 ⟨rfl, b1⟩; have B1 : Hid (Below w.heap.size w w1) := b0.out.1.trans (b1.mono b0.out.1.size); clear b1))
      go_ret
      exact ⟨rfl, B1.out⟩
    · have td : decide ((n : Int) ≤ x) = false := by simpa using t
      obtain rfl : B = false := by rw [HB.out, td]; simp
      clear t
      go_enter Tryz.func60, Tryz.ntmps60
      go_wp2_with (go_at_call 88; refine (HRM _).mono ?_; rintro e w9 ⟨rfl, hw9⟩; rw [hw9]; clear hw9 w9)
      go_ret
      exact ⟨rfl, b0.out.1⟩
end Go.Proofs.YtnabnghjejncpaaGreat.QueStandI
end
