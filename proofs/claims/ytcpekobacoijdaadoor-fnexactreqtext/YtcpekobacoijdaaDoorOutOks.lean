/- What the model's and the program's OutOk and Final answer, at every outcome; nothing else turns. -/
import Derived.Test.YtcpekobacoijdaaDoorRows
import Derived.WalkKit
import Derived.WalkSmall
import Derived.BigQuiet
import Derived.Laws.StructEq
import Derived.Test.YtcpekobacoijdaaDoorOutKit
namespace Go.Proofs.YtcpekobacoijdaaDoor.OutOks
open Go.RowKit OutKit Op
set_option maxRecDepth 8000
set_option linter.unusedVariables false
set_option linter.unusedSimpArgs false

/-- An outcome is right. -/
def outOk (s : Out) : Bool := decide (1 ≤ s.x1 ∧ s.x1 ≤ 1000000 ∧ 0 ≤ s.x2 ∧ s.x2 ≤ 1000000000 ∧ ((s.x0 = 1 ∧ 0 ≤ s.x3 ∧ s.x3 < 60 ∧ 0 ≤ s.x4 ∧ s.x4 ≤ 1000000) ∨ (2 ≤ s.x0 ∧ s.x0 ≤ 9 ∧ s.x3 = 0 ∧ s.x4 = 0)))

theorem perm_in (x3 x4 : Int) (w : World) : (Op.equalIn 9999 27 (.agg #[.int .i64 x3, .int .i64 x4]) (.agg #[.int .i64 0, .int .i64 0])).run Tryd.prog w = .ok (if x3 = 0 then (if x4 = 0 then true else false) else false) w := by
  have u3 := Tryd.underlying3
  have a3 := Tryd.isAgg3
  have z3 := Tryd.sizeOf3
  have hS : Tryd.prog.underlying 27 = some (.struct (Tryd.prog.fieldsOf 27)) := by kernel_rfl
  have hp : Tryd.prog.stoodInHeld 27 = false := by kernel_rfl
  rw [show (9999 : Nat) = 9998 + 1 from rfl, run_equalIn_agg w 9998 27 _ _ hS hp]
  simp only [Program.fieldsOf, Tryd.underlying27]
  clear hS hp
  by_cases h1 : x3 = 0
  · by_cases h2 : x4 = 0
    · subst h1; subst h2
      rw [if_pos rfl, if_pos rfl]
      go_simp
    · rw [if_pos h1, if_neg h2]
      subst h1
      have e1 : (x4 == 0) = false := by simpa using h2
      go_simp
  · rw [if_neg h1]
    have e1 : (x3 == 0) = false := by simpa using h1
    go_simp

theorem eq_perm0 (x3 x4 : Int) (w : World) : (binOp .eql 27 (.agg #[.int .i64 x3, .int .i64 x4]) (.agg #[.int .i64 0, .int .i64 0])).run Tryd.prog w = .ok (.bool (if x3 = 0 then (if x4 = 0 then true else false) else false)) w := by
  have u3 := Tryd.underlying3
  have a3 := Tryd.isAgg3
  have z3 := Tryd.sizeOf3
  have hS : Tryd.prog.underlying 27 = some (.struct (Tryd.prog.fieldsOf 27)) := by kernel_rfl
  have hp : Tryd.prog.stoodInHeld 27 = false := by kernel_rfl
  rw [run_eql_struct, show (10000 : Nat) = 9999 + 1 from rfl, run_equalIn_agg w 9999 27 _ _ hS hp]
  simp only [Program.fieldsOf, Tryd.underlying27]
  clear hS hp
  by_cases h1 : x3 = 0
  · by_cases h2 : x4 = 0
    · subst h1; subst h2
      rw [if_pos rfl, if_pos rfl]
      go_simp
    · rw [if_pos h1, if_neg h2]
      subst h1
      have e1 : (x4 == 0) = false := by simpa using h2
      go_simp
  · rw [if_neg h1]
    have e1 : (x3 == 0) = false := by simpa using h1
    go_simp

theorem eq_out0 (x0 x1 x2 x3 x4 : Int) (w : World) : (binOp .eql 29 (.agg #[.int .i64 x0, .int .i64 x1, .int .i64 x2, .int .i64 x3, .int .i64 x4]) (.agg #[.int .i64 x0, .int .i64 x1, .int .i64 x2, .int .i64 0, .int .i64 0])).run Tryd.prog w = .ok (.bool (if x3 = 0 then (if x4 = 0 then true else false) else false)) w := by
  have u3 := Tryd.underlying3
  have a3 := Tryd.isAgg3
  have z3 := Tryd.sizeOf3
  have hS : Tryd.prog.underlying 29 = some (.struct (Tryd.prog.fieldsOf 29)) := by kernel_rfl
  have hp : Tryd.prog.stoodInHeld 29 = false := by kernel_rfl
  have hin := fun w => perm_in x3 x4 w
  have aP := Tryd.isAgg27
  have zP := Tryd.sizeOf27
  rw [run_eql_struct, show (10000 : Nat) = 9999 + 1 from rfl, run_equalIn_agg w 9999 29 _ _ hS hp]
  simp only [Program.fieldsOf, Tryd.underlying29]
  clear hS hp
  by_cases h1 : x3 = 0
  · by_cases h2 : x4 = 0
    · subst h1; subst h2
      rw [if_pos rfl, if_pos rfl]
      go_simp
    · rw [if_pos h1, if_neg h2]
      subst h1
      have e1 : (x4 == 0) = false := by simpa using h2
      go_simp
  · rw [if_neg h1]
    have e1 : (x3 == 0) = false := by simpa using h1
    go_simp

set_option maxHeartbeats 2000000 in
theorem spec_outok (x0 x1 x2 x3 x4 : Int) (w : World) :
    Calls Tryd.prog 11 #[.agg #[.int .i64 x0, .int .i64 x1, .int .i64 x2, .int .i64 x3, .int .i64 x4]] w fun e w' => e = .returned (.bool (outOk ⟨x0, x1, x2, x3, x4⟩)) ∧ Below w.heap.size w w' := by
  have HB : ∀ A : Obj, Hid (Below w.heap.size w (w.alloc A)) := fun A => (Below.refl _ _).alloc (Nat.le_refl _) _
  obtain ⟨B, hB⟩ : ∃ B, outOk ⟨x0, x1, x2, x3, x4⟩ = B := ⟨_, rfl⟩
  rw [hB]
  have HH : Hid (outOk ⟨x0, x1, x2, x3, x4⟩ = B) := hB
  clear hB
  have he := fun w => eq_perm0 x3 x4 w
  by_cases t1 : 1 ≤ x0
  · skip
    have t1p0 : ¬ x0 < 1 := by first | omega | (simp; omega) | simpa using t1
    have t1p1 : decide (x0 < 1) = false := by first | omega | (simp; omega) | simpa using t1
    by_cases t2 : x0 ≤ 9
    · skip
      have t2p0 : ¬ 9 < x0 := by first | omega | (simp; omega) | simpa using t2
      have t2p1 : decide (9 < x0) = false := by first | omega | (simp; omega) | simpa using t2
      by_cases t3 : 1 ≤ x1
      · skip
        have t3p0 : ¬ x1 < 1 := by first | omega | (simp; omega) | simpa using t3
        have t3p1 : decide (x1 < 1) = false := by first | omega | (simp; omega) | simpa using t3
        by_cases t4 : x1 ≤ 1000000
        · skip
          have t4p0 : ¬ 1000000 < x1 := by first | omega | (simp; omega) | simpa using t4
          have t4p1 : decide (1000000 < x1) = false := by first | omega | (simp; omega) | simpa using t4
          by_cases t5 : 0 ≤ x2
          · skip
            have t5p0 : decide (0 ≤ x2) = true := by first | omega | (simp; omega) | simpa using t5
            by_cases t6 : x2 ≤ 1000000000
            · skip
              have t6p0 : decide (x2 ≤ 1000000000) = true := by first | omega | (simp; omega) | simpa using t6
              by_cases t7 : x0 = 1
              · skip
                have t7p0 : (x0 == 1) = true := by first | omega | (simp; omega) | simpa using t7
                have t7p1 : (x0 != 1) = false := by first | omega | (simp; omega) | simpa using t7
                by_cases t8 : 0 ≤ x3
                · skip
                  have t8p0 : decide (0 ≤ x3) = true := by first | omega | (simp; omega) | simpa using t8
                  by_cases t9 : x3 < 60
                  · skip
                    have t9p0 : decide (x3 < 60) = true := by first | omega | (simp; omega) | simpa using t9
                    by_cases t10 : 0 ≤ x4
                    · skip
                      have t10p0 : decide (0 ≤ x4) = true := by first | omega | (simp; omega) | simpa using t10
                      by_cases t11 : x4 ≤ 1000000
                      · skip
                        have t11p0 : decide (x4 ≤ 1000000) = true := by first | omega | (simp; omega) | simpa using t11
                        have e0 : B = true := by
                          rw [← HH.out]
                          simp [outOk]
                          try omega
                        subst e0
                        clear HH
                        go_enter Tryd.func11, Tryd.ntmps11
                        go_wp2_with ((go_at_call 18; go_in))
                        go_ret
                        exact ⟨rfl, (HB _).out⟩
                      · skip
                        have t11n0 : decide (x4 ≤ 1000000) = false := by first | omega | (simp; omega) | simpa using t11
                        have t11n1 : 1000000 < x4 := by first | omega | (simp; omega) | simpa using t11
                        have e0 : B = false := by
                          rw [← HH.out]
                          simp [outOk]
                          try omega
                        subst e0
                        clear HH
                        go_enter Tryd.func11, Tryd.ntmps11
                        go_wp2_with ((go_at_call 18; go_in))
                        go_ret
                        exact ⟨rfl, (HB _).out⟩
                    · skip
                      have t10n0 : decide (0 ≤ x4) = false := by first | omega | (simp; omega) | simpa using t10
                      have t10n1 : x4 < 0 := by first | omega | (simp; omega) | simpa using t10
                      have e0 : B = false := by
                        rw [← HH.out]
                        simp [outOk]
                        try omega
                      subst e0
                      clear HH
                      go_enter Tryd.func11, Tryd.ntmps11
                      go_wp2_with ((go_at_call 18; go_in))
                      go_ret
                      exact ⟨rfl, (HB _).out⟩
                  · skip
                    have t9n0 : decide (x3 < 60) = false := by first | omega | (simp; omega) | simpa using t9
                    have t9n1 : 60 ≤ x3 := by first | omega | (simp; omega) | simpa using t9
                    have e0 : B = false := by
                      rw [← HH.out]
                      simp [outOk]
                      try omega
                    subst e0
                    clear HH
                    go_enter Tryd.func11, Tryd.ntmps11
                    go_wp2_with ((go_at_call 18; go_in))
                    go_ret
                    exact ⟨rfl, (HB _).out⟩
                · skip
                  have t8n0 : decide (0 ≤ x3) = false := by first | omega | (simp; omega) | simpa using t8
                  have t8n1 : x3 < 0 := by first | omega | (simp; omega) | simpa using t8
                  have e0 : B = false := by
                    rw [← HH.out]
                    simp [outOk]
                    try omega
                  subst e0
                  clear HH
                  go_enter Tryd.func11, Tryd.ntmps11
                  go_wp2_with ((go_at_call 18; go_in))
                  go_ret
                  exact ⟨rfl, (HB _).out⟩
              · skip
                have t7n0 : (x0 == 1) = false := by first | omega | (simp; omega) | simpa using t7
                have t7n1 : (x0 != 1) = true := by first | omega | (simp; omega) | simpa using t7
                by_cases t12 : x3 = 0
                · skip
                  have t12p0 : x3 = 0 := by first | omega | (simp; omega) | simpa using t12
                  by_cases t13 : x4 = 0
                  · skip
                    have t13p0 : x4 = 0 := by first | omega | (simp; omega) | simpa using t13
                    have e0 : B = true := by
                      rw [← HH.out]
                      simp [outOk]
                      try omega
                    subst e0
                    clear HH
                    go_enter Tryd.func11, Tryd.ntmps11
                    go_wp2_with ((go_at_call 18; go_in))
                    go_ret
                    exact ⟨rfl, (HB _).out⟩
                  · skip
                    have t13n0 : x4 ≠ 0 := by first | omega | (simp; omega) | simpa using t13
                    have e0 : B = false := by
                      rw [← HH.out]
                      simp [outOk]
                      try omega
                    subst e0
                    clear HH
                    go_enter Tryd.func11, Tryd.ntmps11
                    go_wp2_with ((go_at_call 18; go_in))
                    go_ret
                    exact ⟨rfl, (HB _).out⟩
                · skip
                  have t12n0 : x3 ≠ 0 := by first | omega | (simp; omega) | simpa using t12
                  have e0 : B = false := by
                    rw [← HH.out]
                    simp [outOk]
                    try omega
                  subst e0
                  clear HH
                  go_enter Tryd.func11, Tryd.ntmps11
                  go_wp2_with ((go_at_call 18; go_in))
                  go_ret
                  exact ⟨rfl, (HB _).out⟩
            · skip
              have t6n0 : decide (x2 ≤ 1000000000) = false := by first | omega | (simp; omega) | simpa using t6
              have t6n1 : 1000000000 < x2 := by first | omega | (simp; omega) | simpa using t6
              have e0 : B = false := by
                rw [← HH.out]
                simp [outOk]
                try omega
              subst e0
              clear HH
              go_enter Tryd.func11, Tryd.ntmps11
              go_wp2_with ((go_at_call 18; go_in))
              go_ret
              exact ⟨rfl, (HB _).out⟩
          · skip
            have t5n0 : decide (0 ≤ x2) = false := by first | omega | (simp; omega) | simpa using t5
            have t5n1 : x2 < 0 := by first | omega | (simp; omega) | simpa using t5
            have e0 : B = false := by
              rw [← HH.out]
              simp [outOk]
              try omega
            subst e0
            clear HH
            go_enter Tryd.func11, Tryd.ntmps11
            go_wp2_with ((go_at_call 18; go_in))
            go_ret
            exact ⟨rfl, (HB _).out⟩
        · skip
          have t4n0 : 1000000 < x1 := by first | omega | (simp; omega) | simpa using t4
          have t4n1 : decide (1000000 < x1) = true := by first | omega | (simp; omega) | simpa using t4
          have e0 : B = false := by
            rw [← HH.out]
            simp [outOk]
            try omega
          subst e0
          clear HH
          go_enter Tryd.func11, Tryd.ntmps11
          go_wp2_with ((go_at_call 18; go_in))
          go_ret
          exact ⟨rfl, (HB _).out⟩
      · skip
        have t3n0 : x1 < 1 := by first | omega | (simp; omega) | simpa using t3
        have t3n1 : decide (x1 < 1) = true := by first | omega | (simp; omega) | simpa using t3
        have e0 : B = false := by
          rw [← HH.out]
          simp [outOk]
          try omega
        subst e0
        clear HH
        go_enter Tryd.func11, Tryd.ntmps11
        go_wp2_with ((go_at_call 18; go_in))
        go_ret
        exact ⟨rfl, (HB _).out⟩
    · skip
      have t2n0 : 9 < x0 := by first | omega | (simp; omega) | simpa using t2
      have t2n1 : decide (9 < x0) = true := by first | omega | (simp; omega) | simpa using t2
      have e0 : B = false := by
        rw [← HH.out]
        simp [outOk]
        try omega
      subst e0
      clear HH
      go_enter Tryd.func11, Tryd.ntmps11
      go_wp2_with ((go_at_call 18; go_in))
      go_ret
      exact ⟨rfl, (HB _).out⟩
  · skip
    have t1n0 : x0 < 1 := by first | omega | (simp; omega) | simpa using t1
    have t1n1 : decide (x0 < 1) = true := by first | omega | (simp; omega) | simpa using t1
    have e0 : B = false := by
      rw [← HH.out]
      simp [outOk]
      try omega
    subst e0
    clear HH
    go_enter Tryd.func11, Tryd.ntmps11
    go_wp2_with ((go_at_call 18; go_in))
    go_ret
    exact ⟨rfl, (HB _).out⟩

set_option maxHeartbeats 2000000 in
theorem impl_outok (x0 x1 x2 x3 x4 : Int) (w : World) :
    Calls Tryd.prog 14 #[.agg #[.int .i64 x0, .int .i64 x1, .int .i64 x2, .int .i64 x3, .int .i64 x4]] w fun e w' => e = .returned (.bool (outOk ⟨x0, x1, x2, x3, x4⟩)) ∧ Below w.heap.size w w' := by
  have HB : ∀ A : Obj, Hid (Below w.heap.size w (w.alloc A)) := fun A => (Below.refl _ _).alloc (Nat.le_refl _) _
  obtain ⟨B, hB⟩ : ∃ B, outOk ⟨x0, x1, x2, x3, x4⟩ = B := ⟨_, rfl⟩
  rw [hB]
  have HH : Hid (outOk ⟨x0, x1, x2, x3, x4⟩ = B) := hB
  clear hB
  have he := fun w => eq_out0 x0 x1 x2 x3 x4 w
  by_cases t1 : 1 ≤ x1
  · skip
    have t1p0 : decide (1 ≤ x1) = true := by first | omega | (simp; omega) | simpa using t1
    by_cases t2 : x1 ≤ 1000000
    · skip
      have t2p0 : decide (x1 ≤ 1000000) = true := by first | omega | (simp; omega) | simpa using t2
      by_cases t3 : 0 ≤ x2
      · skip
        have t3p0 : decide (0 ≤ x2) = true := by first | omega | (simp; omega) | simpa using t3
        by_cases t4 : x2 ≤ 1000000000
        · skip
          have t4p0 : decide (x2 ≤ 1000000000) = true := by first | omega | (simp; omega) | simpa using t4
          by_cases t5 : x0 = 1
          · skip
            have t5p0 : (x0 == 1) = true := by first | omega | (simp; omega) | simpa using t5
            have t5p1 : (x0 != 1) = false := by first | omega | (simp; omega) | simpa using t5
            by_cases t6 : 0 ≤ x3
            · skip
              have t6p0 : decide (0 ≤ x3) = true := by first | omega | (simp; omega) | simpa using t6
              by_cases t7 : x3 < 60
              · skip
                have t7p0 : decide (x3 < 60) = true := by first | omega | (simp; omega) | simpa using t7
                by_cases t8 : 0 ≤ x4
                · skip
                  have t8p0 : decide (0 ≤ x4) = true := by first | omega | (simp; omega) | simpa using t8
                  by_cases t9 : x4 ≤ 1000000
                  · skip
                    have t9p0 : decide (x4 ≤ 1000000) = true := by first | omega | (simp; omega) | simpa using t9
                    have e0 : B = true := by
                      rw [← HH.out]
                      simp [outOk]
                      try omega
                    subst e0
                    clear HH
                    go_enter Tryd.func14, Tryd.ntmps14
                    go_wp2_with (first | (go_at_call 20; go_in) | (go_at_call 21; go_in) | (go_at_call 22; go_in) | (go_at_call 23; go_in) | (go_at_call 24; go_in))
                    go_ret
                    exact ⟨rfl, (HB _).out⟩
                  · skip
                    have t9n0 : decide (x4 ≤ 1000000) = false := by first | omega | (simp; omega) | simpa using t9
                    have t9n1 : 1000000 < x4 := by first | omega | (simp; omega) | simpa using t9
                    have e0 : B = false := by
                      rw [← HH.out]
                      simp [outOk]
                      try omega
                    subst e0
                    clear HH
                    go_enter Tryd.func14, Tryd.ntmps14
                    go_wp2_with (first | (go_at_call 20; go_in) | (go_at_call 21; go_in) | (go_at_call 22; go_in) | (go_at_call 23; go_in) | (go_at_call 24; go_in))
                    go_ret
                    exact ⟨rfl, (HB _).out⟩
                · skip
                  have t8n0 : decide (0 ≤ x4) = false := by first | omega | (simp; omega) | simpa using t8
                  have t8n1 : x4 < 0 := by first | omega | (simp; omega) | simpa using t8
                  have e0 : B = false := by
                    rw [← HH.out]
                    simp [outOk]
                    try omega
                  subst e0
                  clear HH
                  go_enter Tryd.func14, Tryd.ntmps14
                  go_wp2_with (first | (go_at_call 20; go_in) | (go_at_call 21; go_in) | (go_at_call 22; go_in) | (go_at_call 23; go_in) | (go_at_call 24; go_in))
                  go_ret
                  exact ⟨rfl, (HB _).out⟩
              · skip
                have t7n0 : decide (x3 < 60) = false := by first | omega | (simp; omega) | simpa using t7
                have t7n1 : 60 ≤ x3 := by first | omega | (simp; omega) | simpa using t7
                have e0 : B = false := by
                  rw [← HH.out]
                  simp [outOk]
                  try omega
                subst e0
                clear HH
                go_enter Tryd.func14, Tryd.ntmps14
                go_wp2_with (first | (go_at_call 20; go_in) | (go_at_call 21; go_in) | (go_at_call 22; go_in) | (go_at_call 23; go_in) | (go_at_call 24; go_in))
                go_ret
                exact ⟨rfl, (HB _).out⟩
            · skip
              have t6n0 : decide (0 ≤ x3) = false := by first | omega | (simp; omega) | simpa using t6
              have t6n1 : x3 < 0 := by first | omega | (simp; omega) | simpa using t6
              have e0 : B = false := by
                rw [← HH.out]
                simp [outOk]
                try omega
              subst e0
              clear HH
              go_enter Tryd.func14, Tryd.ntmps14
              go_wp2_with (first | (go_at_call 20; go_in) | (go_at_call 21; go_in) | (go_at_call 22; go_in) | (go_at_call 23; go_in) | (go_at_call 24; go_in))
              go_ret
              exact ⟨rfl, (HB _).out⟩
          · skip
            have t5n0 : (x0 == 1) = false := by first | omega | (simp; omega) | simpa using t5
            have t5n1 : (x0 != 1) = true := by first | omega | (simp; omega) | simpa using t5
            by_cases t10 : 1 < x0
            · skip
              have t10p0 : decide (1 < x0) = true := by first | omega | (simp; omega) | simpa using t10
              by_cases t11 : x0 ≤ 9
              · skip
                have t11p0 : decide (x0 ≤ 9) = true := by first | omega | (simp; omega) | simpa using t11
                by_cases t12 : x3 = 0
                · skip
                  have t12p0 : x3 = 0 := by first | omega | (simp; omega) | simpa using t12
                  by_cases t13 : x4 = 0
                  · skip
                    have t13p0 : x4 = 0 := by first | omega | (simp; omega) | simpa using t13
                    have e0 : B = true := by
                      rw [← HH.out]
                      simp [outOk]
                      try omega
                    subst e0
                    clear HH
                    go_enter Tryd.func14, Tryd.ntmps14
                    go_wp2_with (first | (go_at_call 20; go_in) | (go_at_call 21; go_in) | (go_at_call 22; go_in) | (go_at_call 23; go_in) | (go_at_call 24; go_in))
                    go_ret
                    exact ⟨rfl, (HB _).out⟩
                  · skip
                    have t13n0 : x4 ≠ 0 := by first | omega | (simp; omega) | simpa using t13
                    have e0 : B = false := by
                      rw [← HH.out]
                      simp [outOk]
                      try omega
                    subst e0
                    clear HH
                    go_enter Tryd.func14, Tryd.ntmps14
                    go_wp2_with (first | (go_at_call 20; go_in) | (go_at_call 21; go_in) | (go_at_call 22; go_in) | (go_at_call 23; go_in) | (go_at_call 24; go_in))
                    go_ret
                    exact ⟨rfl, (HB _).out⟩
                · skip
                  have t12n0 : x3 ≠ 0 := by first | omega | (simp; omega) | simpa using t12
                  have e0 : B = false := by
                    rw [← HH.out]
                    simp [outOk]
                    try omega
                  subst e0
                  clear HH
                  go_enter Tryd.func14, Tryd.ntmps14
                  go_wp2_with (first | (go_at_call 20; go_in) | (go_at_call 21; go_in) | (go_at_call 22; go_in) | (go_at_call 23; go_in) | (go_at_call 24; go_in))
                  go_ret
                  exact ⟨rfl, (HB _).out⟩
              · skip
                have t11n0 : decide (x0 ≤ 9) = false := by first | omega | (simp; omega) | simpa using t11
                have t11n1 : 9 < x0 := by first | omega | (simp; omega) | simpa using t11
                have e0 : B = false := by
                  rw [← HH.out]
                  simp [outOk]
                  try omega
                subst e0
                clear HH
                go_enter Tryd.func14, Tryd.ntmps14
                go_wp2_with (first | (go_at_call 20; go_in) | (go_at_call 21; go_in) | (go_at_call 22; go_in) | (go_at_call 23; go_in) | (go_at_call 24; go_in))
                go_ret
                exact ⟨rfl, (HB _).out⟩
            · skip
              have t10n0 : decide (1 < x0) = false := by first | omega | (simp; omega) | simpa using t10
              have e0 : B = false := by
                rw [← HH.out]
                simp [outOk]
                try omega
              subst e0
              clear HH
              go_enter Tryd.func14, Tryd.ntmps14
              go_wp2_with (first | (go_at_call 20; go_in) | (go_at_call 21; go_in) | (go_at_call 22; go_in) | (go_at_call 23; go_in) | (go_at_call 24; go_in))
              go_ret
              exact ⟨rfl, (HB _).out⟩
        · skip
          have t4n0 : decide (x2 ≤ 1000000000) = false := by first | omega | (simp; omega) | simpa using t4
          have t4n1 : 1000000000 < x2 := by first | omega | (simp; omega) | simpa using t4
          have e0 : B = false := by
            rw [← HH.out]
            simp [outOk]
            try omega
          subst e0
          clear HH
          go_enter Tryd.func14, Tryd.ntmps14
          go_wp2_with (first | (go_at_call 20; go_in) | (go_at_call 21; go_in) | (go_at_call 22; go_in) | (go_at_call 23; go_in) | (go_at_call 24; go_in))
          go_ret
          exact ⟨rfl, (HB _).out⟩
      · skip
        have t3n0 : decide (0 ≤ x2) = false := by first | omega | (simp; omega) | simpa using t3
        have t3n1 : x2 < 0 := by first | omega | (simp; omega) | simpa using t3
        have e0 : B = false := by
          rw [← HH.out]
          simp [outOk]
          try omega
        subst e0
        clear HH
        go_enter Tryd.func14, Tryd.ntmps14
        go_wp2_with (first | (go_at_call 20; go_in) | (go_at_call 21; go_in) | (go_at_call 22; go_in) | (go_at_call 23; go_in) | (go_at_call 24; go_in))
        go_ret
        exact ⟨rfl, (HB _).out⟩
    · skip
      have t2n0 : decide (x1 ≤ 1000000) = false := by first | omega | (simp; omega) | simpa using t2
      have t2n1 : 1000000 < x1 := by first | omega | (simp; omega) | simpa using t2
      have e0 : B = false := by
        rw [← HH.out]
        simp [outOk]
        try omega
      subst e0
      clear HH
      go_enter Tryd.func14, Tryd.ntmps14
      go_wp2_with (first | (go_at_call 20; go_in) | (go_at_call 21; go_in) | (go_at_call 22; go_in) | (go_at_call 23; go_in) | (go_at_call 24; go_in))
      go_ret
      exact ⟨rfl, (HB _).out⟩
  · skip
    have t1n0 : decide (1 ≤ x1) = false := by first | omega | (simp; omega) | simpa using t1
    have t1n1 : x1 < 1 := by first | omega | (simp; omega) | simpa using t1
    have e0 : B = false := by
      rw [← HH.out]
      simp [outOk]
      try omega
    subst e0
    clear HH
    go_enter Tryd.func14, Tryd.ntmps14
    go_wp2_with (first | (go_at_call 20; go_in) | (go_at_call 21; go_in) | (go_at_call 22; go_in) | (go_at_call 23; go_in) | (go_at_call 24; go_in))
    go_ret
    exact ⟨rfl, (HB _).out⟩

/-- Nothing more comes behind this kind of outcome. -/
def isFinal (k : Int) : Bool := decide (1 < k ∧ k ≤ 9)

set_option maxHeartbeats 2000000 in
theorem impl_final (k : Int) (w : World) :
    Calls Tryd.prog 24 #[.int .i64 k] w fun e w' => e = .returned (.bool (isFinal k)) ∧ Below w.heap.size w w' := by
  obtain ⟨B, hB⟩ : ∃ B, isFinal k = B := ⟨_, rfl⟩
  rw [hB]
  have HH : Hid (isFinal k = B) := hB
  clear hB
  by_cases t1 : 1 < k
  · skip
    have t1p0 : decide (1 < k) = true := by first | omega | (simp; omega) | simpa using t1
    by_cases t2 : k ≤ 9
    · skip
      have t2p0 : decide (k ≤ 9) = true := by first | omega | (simp; omega) | simpa using t2
      have e0 : B = true := by
        rw [← HH.out]
        simp [isFinal]
        try omega
      subst e0
      clear HH
      go_enter Tryd.func24, Tryd.ntmps24
      go_wp2
      go_ret
      exact ⟨rfl, Below.refl _ _⟩
    · skip
      have t2n0 : decide (k ≤ 9) = false := by first | omega | (simp; omega) | simpa using t2
      have t2n1 : 9 < k := by first | omega | (simp; omega) | simpa using t2
      have e0 : B = false := by
        rw [← HH.out]
        simp [isFinal]
        try omega
      subst e0
      clear HH
      go_enter Tryd.func24, Tryd.ntmps24
      go_wp2
      go_ret
      exact ⟨rfl, Below.refl _ _⟩
  · skip
    have t1n0 : decide (1 < k) = false := by first | omega | (simp; omega) | simpa using t1
    have e0 : B = false := by
      rw [← HH.out]
      simp [isFinal]
      try omega
    subst e0
    clear HH
    go_enter Tryd.func24, Tryd.ntmps24
    go_wp2
    go_ret
    exact ⟨rfl, Below.refl _ _⟩

end Go.Proofs.YtcpekobacoijdaaDoor.OutOks
