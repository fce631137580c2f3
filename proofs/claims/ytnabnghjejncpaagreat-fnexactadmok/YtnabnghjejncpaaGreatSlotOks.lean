/- What the model's and the program's SlotOk answer, at every slot; nothing else turns. -/
import Derived.Test.YtnabnghjejncpaaGreatRows
import Derived.WalkKit
import Derived.WalkSmall
import Derived.BigQuiet
import Derived.Test.YtnabnghjejncpaaGreatSlotKit
namespace Go.Proofs.YtnabnghjejncpaaGreat.SlotOks
open Go.RowKit SlotKit
set_option maxRecDepth 8000
set_option linter.unusedVariables false
set_option linter.unusedSimpArgs false

def okFree (s : Slot) : Bool := decide (0 ≤ s.x0 ∧ s.x0 ≤ 1000000 ∧ s.x2 = 0 ∧ s.x3 = 0 ∧ s.x4 = 0)
def okUsed (s : Slot) : Bool := decide (0 ≤ s.x0 ∧ s.x0 ≤ 1000000 ∧ 1 ≤ s.x2 ∧ s.x2 ≤ 1000000 ∧ 0 ≤ s.x3 ∧ s.x3 ≤ 1000 ∧ 0 ≤ s.x4 ∧ s.x4 ≤ 1000000000)
/-- A slot is right. -/
def slotOk (s : Slot) : Bool := match s.x1 with
  | true => okUsed s
  | false => okFree s

set_option maxHeartbeats 2000000 in
theorem spec_slotok (x0 : Int) (x1 : Bool) (x2 x3 x4 : Int) (w : World) :
    Calls Tryz.prog 81 #[.agg #[.int .i64 x0, .bool x1, .int .i64 x2, .int .i64 x3, .int .i64 x4]] w fun e w' => e = .returned (.bool (slotOk ⟨x0, x1, x2, x3, x4⟩)) ∧ Below w.heap.size w w' := by
  have HB : ∀ A : Obj, Hid (Below w.heap.size w (w.alloc A)) := fun A => (Below.refl _ _).alloc (Nat.le_refl _) _
  obtain ⟨B, hB⟩ : ∃ B, slotOk ⟨x0, x1, x2, x3, x4⟩ = B := ⟨_, rfl⟩
  rw [hB]
  have HH : Hid (slotOk ⟨x0, x1, x2, x3, x4⟩ = B) := hB
  clear hB
  cases x1 with
  | false =>
    by_cases t1 : 0 ≤ x0
    · skip
      have t1p0 : ¬ x0 < 0 := by first | omega | (simp; omega) | simpa using t1
      have t1p1 : decide (x0 < 0) = false := by first | omega | (simp; omega) | simpa using t1
      by_cases t2 : x0 ≤ 1000000
      · skip
        have t2p0 : ¬ 1000000 < x0 := by first | omega | (simp; omega) | simpa using t2
        have t2p1 : decide (1000000 < x0) = false := by first | omega | (simp; omega) | simpa using t2
        by_cases t3 : x2 = 0
        · skip
          have t3p0 : (x2 == 0) = true := by first | omega | (simp; omega) | simpa using t3
          by_cases t4 : x3 = 0
          · skip
            have t4p0 : (x3 == 0) = true := by first | omega | (simp; omega) | simpa using t4
            by_cases t5 : x4 = 0
            · skip
              have t5p0 : (x4 == 0) = true := by first | omega | (simp; omega) | simpa using t5
              have e0 : B = true := by
                rw [← HH.out]
                simp [slotOk, okFree]
                try omega
              subst e0
              clear HH
              go_enter Tryz.func81, Tryz.ntmps81
              go_wp2_with ((go_at_call 42; go_in))
              go_ret
              exact ⟨rfl, (HB _).out⟩
            · skip
              have t5n0 : (x4 == 0) = false := by first | omega | (simp; omega) | simpa using t5
              have e0 : B = false := by
                rw [← HH.out]
                simp [slotOk, okFree]
                try omega
              subst e0
              clear HH
              go_enter Tryz.func81, Tryz.ntmps81
              go_wp2_with ((go_at_call 42; go_in))
              go_ret
              exact ⟨rfl, (HB _).out⟩
          · skip
            have t4n0 : (x3 == 0) = false := by first | omega | (simp; omega) | simpa using t4
            have e0 : B = false := by
              rw [← HH.out]
              simp [slotOk, okFree]
              try omega
            subst e0
            clear HH
            go_enter Tryz.func81, Tryz.ntmps81
            go_wp2_with ((go_at_call 42; go_in))
            go_ret
            exact ⟨rfl, (HB _).out⟩
        · skip
          have t3n0 : (x2 == 0) = false := by first | omega | (simp; omega) | simpa using t3
          have e0 : B = false := by
            rw [← HH.out]
            simp [slotOk, okFree]
            try omega
          subst e0
          clear HH
          go_enter Tryz.func81, Tryz.ntmps81
          go_wp2_with ((go_at_call 42; go_in))
          go_ret
          exact ⟨rfl, (HB _).out⟩
      · skip
        have t2n0 : 1000000 < x0 := by first | omega | (simp; omega) | simpa using t2
        have t2n1 : decide (1000000 < x0) = true := by first | omega | (simp; omega) | simpa using t2
        have e0 : B = false := by
          rw [← HH.out]
          simp [slotOk, okFree]
          try omega
        subst e0
        clear HH
        go_enter Tryz.func81, Tryz.ntmps81
        go_wp2_with ((go_at_call 42; go_in))
        go_ret
        exact ⟨rfl, (HB _).out⟩
    · skip
      have t1n0 : x0 < 0 := by first | omega | (simp; omega) | simpa using t1
      have t1n1 : decide (x0 < 0) = true := by first | omega | (simp; omega) | simpa using t1
      have e0 : B = false := by
        rw [← HH.out]
        simp [slotOk, okFree]
        try omega
      subst e0
      clear HH
      go_enter Tryz.func81, Tryz.ntmps81
      go_wp2_with ((go_at_call 42; go_in))
      go_ret
      exact ⟨rfl, (HB _).out⟩
  | true =>
    by_cases t6 : 0 ≤ x0
    · skip
      have t6p0 : ¬ x0 < 0 := by first | omega | (simp; omega) | simpa using t6
      have t6p1 : decide (x0 < 0) = false := by first | omega | (simp; omega) | simpa using t6
      by_cases t7 : x0 ≤ 1000000
      · skip
        have t7p0 : ¬ 1000000 < x0 := by first | omega | (simp; omega) | simpa using t7
        have t7p1 : decide (1000000 < x0) = false := by first | omega | (simp; omega) | simpa using t7
        by_cases t8 : 1 ≤ x2
        · skip
          have t8p0 : decide (1 ≤ x2) = true := by first | omega | (simp; omega) | simpa using t8
          by_cases t9 : x2 ≤ 1000000
          · skip
            have t9p0 : decide (x2 ≤ 1000000) = true := by first | omega | (simp; omega) | simpa using t9
            by_cases t10 : 0 ≤ x3
            · skip
              have t10p0 : decide (0 ≤ x3) = true := by first | omega | (simp; omega) | simpa using t10
              by_cases t11 : x3 ≤ 1000
              · skip
                have t11p0 : decide (x3 ≤ 1000) = true := by first | omega | (simp; omega) | simpa using t11
                by_cases t12 : 0 ≤ x4
                · skip
                  have t12p0 : decide (0 ≤ x4) = true := by first | omega | (simp; omega) | simpa using t12
                  by_cases t13 : x4 ≤ 1000000000
                  · skip
                    have t13p0 : decide (x4 ≤ 1000000000) = true := by first | omega | (simp; omega) | simpa using t13
                    have e0 : B = true := by
                      rw [← HH.out]
                      simp [slotOk, okUsed]
                      try omega
                    subst e0
                    clear HH
                    go_enter Tryz.func81, Tryz.ntmps81
                    go_wp2_with ((go_at_call 42; go_in))
                    go_ret
                    exact ⟨rfl, (HB _).out⟩
                  · skip
                    have t13n0 : decide (x4 ≤ 1000000000) = false := by first | omega | (simp; omega) | simpa using t13
                    have t13n1 : 1000000000 < x4 := by first | omega | (simp; omega) | simpa using t13
                    have e0 : B = false := by
                      rw [← HH.out]
                      simp [slotOk, okUsed]
                      try omega
                    subst e0
                    clear HH
                    go_enter Tryz.func81, Tryz.ntmps81
                    go_wp2_with ((go_at_call 42; go_in))
                    go_ret
                    exact ⟨rfl, (HB _).out⟩
                · skip
                  have t12n0 : decide (0 ≤ x4) = false := by first | omega | (simp; omega) | simpa using t12
                  have t12n1 : x4 < 0 := by first | omega | (simp; omega) | simpa using t12
                  have e0 : B = false := by
                    rw [← HH.out]
                    simp [slotOk, okUsed]
                    try omega
                  subst e0
                  clear HH
                  go_enter Tryz.func81, Tryz.ntmps81
                  go_wp2_with ((go_at_call 42; go_in))
                  go_ret
                  exact ⟨rfl, (HB _).out⟩
              · skip
                have t11n0 : decide (x3 ≤ 1000) = false := by first | omega | (simp; omega) | simpa using t11
                have t11n1 : 1000 < x3 := by first | omega | (simp; omega) | simpa using t11
                have e0 : B = false := by
                  rw [← HH.out]
                  simp [slotOk, okUsed]
                  try omega
                subst e0
                clear HH
                go_enter Tryz.func81, Tryz.ntmps81
                go_wp2_with ((go_at_call 42; go_in))
                go_ret
                exact ⟨rfl, (HB _).out⟩
            · skip
              have t10n0 : decide (0 ≤ x3) = false := by first | omega | (simp; omega) | simpa using t10
              have t10n1 : x3 < 0 := by first | omega | (simp; omega) | simpa using t10
              have e0 : B = false := by
                rw [← HH.out]
                simp [slotOk, okUsed]
                try omega
              subst e0
              clear HH
              go_enter Tryz.func81, Tryz.ntmps81
              go_wp2_with ((go_at_call 42; go_in))
              go_ret
              exact ⟨rfl, (HB _).out⟩
          · skip
            have t9n0 : decide (x2 ≤ 1000000) = false := by first | omega | (simp; omega) | simpa using t9
            have t9n1 : 1000000 < x2 := by first | omega | (simp; omega) | simpa using t9
            have e0 : B = false := by
              rw [← HH.out]
              simp [slotOk, okUsed]
              try omega
            subst e0
            clear HH
            go_enter Tryz.func81, Tryz.ntmps81
            go_wp2_with ((go_at_call 42; go_in))
            go_ret
            exact ⟨rfl, (HB _).out⟩
        · skip
          have t8n0 : decide (1 ≤ x2) = false := by first | omega | (simp; omega) | simpa using t8
          have t8n1 : x2 < 1 := by first | omega | (simp; omega) | simpa using t8
          have e0 : B = false := by
            rw [← HH.out]
            simp [slotOk, okUsed]
            try omega
          subst e0
          clear HH
          go_enter Tryz.func81, Tryz.ntmps81
          go_wp2_with ((go_at_call 42; go_in))
          go_ret
          exact ⟨rfl, (HB _).out⟩
      · skip
        have t7n0 : 1000000 < x0 := by first | omega | (simp; omega) | simpa using t7
        have t7n1 : decide (1000000 < x0) = true := by first | omega | (simp; omega) | simpa using t7
        have e0 : B = false := by
          rw [← HH.out]
          simp [slotOk, okUsed]
          try omega
        subst e0
        clear HH
        go_enter Tryz.func81, Tryz.ntmps81
        go_wp2_with ((go_at_call 42; go_in))
        go_ret
        exact ⟨rfl, (HB _).out⟩
    · skip
      have t6n0 : x0 < 0 := by first | omega | (simp; omega) | simpa using t6
      have t6n1 : decide (x0 < 0) = true := by first | omega | (simp; omega) | simpa using t6
      have e0 : B = false := by
        rw [← HH.out]
        simp [slotOk, okUsed]
        try omega
      subst e0
      clear HH
      go_enter Tryz.func81, Tryz.ntmps81
      go_wp2_with ((go_at_call 42; go_in))
      go_ret
      exact ⟨rfl, (HB _).out⟩

set_option maxHeartbeats 2000000 in
theorem impl_slotok (x0 : Int) (x1 : Bool) (x2 x3 x4 : Int) (w : World) :
    Calls Tryz.prog 92 #[.agg #[.int .i64 x0, .bool x1, .int .i64 x2, .int .i64 x3, .int .i64 x4]] w fun e w' => e = .returned (.bool (slotOk ⟨x0, x1, x2, x3, x4⟩)) ∧ Below w.heap.size w w' := by
  have HB : ∀ A : Obj, Hid (Below w.heap.size w (w.alloc A)) := fun A => (Below.refl _ _).alloc (Nat.le_refl _) _
  obtain ⟨B, hB⟩ : ∃ B, slotOk ⟨x0, x1, x2, x3, x4⟩ = B := ⟨_, rfl⟩
  rw [hB]
  have HH : Hid (slotOk ⟨x0, x1, x2, x3, x4⟩ = B) := hB
  clear hB
  cases x1 with
  | false =>
    by_cases t1 : 0 ≤ x0
    · skip
      have t1p0 : decide (0 ≤ x0) = true := by first | omega | (simp; omega) | simpa using t1
      by_cases t2 : x0 ≤ 1000000
      · skip
        have t2p0 : decide (x0 ≤ 1000000) = true := by first | omega | (simp; omega) | simpa using t2
        by_cases t3 : x2 = 0
        · skip
          have t3p0 : (x2 == 0) = true := by first | omega | (simp; omega) | simpa using t3
          by_cases t4 : x3 = 0
          · skip
            have t4p0 : (x3 == 0) = true := by first | omega | (simp; omega) | simpa using t4
            by_cases t5 : x4 = 0
            · skip
              have t5p0 : (x4 == 0) = true := by first | omega | (simp; omega) | simpa using t5
              have e0 : B = true := by
                rw [← HH.out]
                simp [slotOk, okFree]
                try omega
              subst e0
              clear HH
              go_enter Tryz.func92, Tryz.ntmps92
              go_wp2_with (first | (go_at_call 27; go_in) | (go_at_call 110; go_in) | (go_at_call 97; go_in) | (go_at_call 111; go_in))
              go_ret
              exact ⟨rfl, (HB _).out⟩
            · skip
              have t5n0 : (x4 == 0) = false := by first | omega | (simp; omega) | simpa using t5
              have e0 : B = false := by
                rw [← HH.out]
                simp [slotOk, okFree]
                try omega
              subst e0
              clear HH
              go_enter Tryz.func92, Tryz.ntmps92
              go_wp2_with (first | (go_at_call 27; go_in) | (go_at_call 110; go_in) | (go_at_call 97; go_in) | (go_at_call 111; go_in))
              go_ret
              exact ⟨rfl, (HB _).out⟩
          · skip
            have t4n0 : (x3 == 0) = false := by first | omega | (simp; omega) | simpa using t4
            have e0 : B = false := by
              rw [← HH.out]
              simp [slotOk, okFree]
              try omega
            subst e0
            clear HH
            go_enter Tryz.func92, Tryz.ntmps92
            go_wp2_with (first | (go_at_call 27; go_in) | (go_at_call 110; go_in) | (go_at_call 97; go_in) | (go_at_call 111; go_in))
            go_ret
            exact ⟨rfl, (HB _).out⟩
        · skip
          have t3n0 : (x2 == 0) = false := by first | omega | (simp; omega) | simpa using t3
          have e0 : B = false := by
            rw [← HH.out]
            simp [slotOk, okFree]
            try omega
          subst e0
          clear HH
          go_enter Tryz.func92, Tryz.ntmps92
          go_wp2_with (first | (go_at_call 27; go_in) | (go_at_call 110; go_in) | (go_at_call 97; go_in) | (go_at_call 111; go_in))
          go_ret
          exact ⟨rfl, (HB _).out⟩
      · skip
        have t2n0 : decide (x0 ≤ 1000000) = false := by first | omega | (simp; omega) | simpa using t2
        have t2n1 : 1000000 < x0 := by first | omega | (simp; omega) | simpa using t2
        have e0 : B = false := by
          rw [← HH.out]
          simp [slotOk, okFree]
          try omega
        subst e0
        clear HH
        go_enter Tryz.func92, Tryz.ntmps92
        go_wp2_with (first | (go_at_call 27; go_in) | (go_at_call 110; go_in) | (go_at_call 97; go_in) | (go_at_call 111; go_in))
        go_ret
        exact ⟨rfl, (HB _).out⟩
    · skip
      have t1n0 : decide (0 ≤ x0) = false := by first | omega | (simp; omega) | simpa using t1
      have t1n1 : x0 < 0 := by first | omega | (simp; omega) | simpa using t1
      have e0 : B = false := by
        rw [← HH.out]
        simp [slotOk, okFree]
        try omega
      subst e0
      clear HH
      go_enter Tryz.func92, Tryz.ntmps92
      go_wp2_with (first | (go_at_call 27; go_in) | (go_at_call 110; go_in) | (go_at_call 97; go_in) | (go_at_call 111; go_in))
      go_ret
      exact ⟨rfl, (HB _).out⟩
  | true =>
    by_cases t6 : 0 ≤ x0
    · skip
      have t6p0 : decide (0 ≤ x0) = true := by first | omega | (simp; omega) | simpa using t6
      by_cases t7 : x0 ≤ 1000000
      · skip
        have t7p0 : decide (x0 ≤ 1000000) = true := by first | omega | (simp; omega) | simpa using t7
        by_cases t8 : 1 ≤ x2
        · skip
          have t8p0 : decide (1 ≤ x2) = true := by first | omega | (simp; omega) | simpa using t8
          by_cases t9 : x2 ≤ 1000000
          · skip
            have t9p0 : decide (x2 ≤ 1000000) = true := by first | omega | (simp; omega) | simpa using t9
            by_cases t10 : 0 ≤ x3
            · skip
              have t10p0 : decide (0 ≤ x3) = true := by first | omega | (simp; omega) | simpa using t10
              by_cases t11 : x3 ≤ 1000
              · skip
                have t11p0 : decide (x3 ≤ 1000) = true := by first | omega | (simp; omega) | simpa using t11
                by_cases t12 : 0 ≤ x4
                · skip
                  have t12p0 : decide (0 ≤ x4) = true := by first | omega | (simp; omega) | simpa using t12
                  by_cases t13 : x4 ≤ 1000000000
                  · skip
                    have t13p0 : decide (x4 ≤ 1000000000) = true := by first | omega | (simp; omega) | simpa using t13
                    have e0 : B = true := by
                      rw [← HH.out]
                      simp [slotOk, okUsed]
                      try omega
                    subst e0
                    clear HH
                    go_enter Tryz.func92, Tryz.ntmps92
                    go_wp2_with (first | (go_at_call 27; go_in) | (go_at_call 110; go_in) | (go_at_call 97; go_in) | (go_at_call 111; go_in))
                    go_ret
                    exact ⟨rfl, (HB _).out⟩
                  · skip
                    have t13n0 : decide (x4 ≤ 1000000000) = false := by first | omega | (simp; omega) | simpa using t13
                    have t13n1 : 1000000000 < x4 := by first | omega | (simp; omega) | simpa using t13
                    have e0 : B = false := by
                      rw [← HH.out]
                      simp [slotOk, okUsed]
                      try omega
                    subst e0
                    clear HH
                    go_enter Tryz.func92, Tryz.ntmps92
                    go_wp2_with (first | (go_at_call 27; go_in) | (go_at_call 110; go_in) | (go_at_call 97; go_in) | (go_at_call 111; go_in))
                    go_ret
                    exact ⟨rfl, (HB _).out⟩
                · skip
                  have t12n0 : decide (0 ≤ x4) = false := by first | omega | (simp; omega) | simpa using t12
                  have t12n1 : x4 < 0 := by first | omega | (simp; omega) | simpa using t12
                  have e0 : B = false := by
                    rw [← HH.out]
                    simp [slotOk, okUsed]
                    try omega
                  subst e0
                  clear HH
                  go_enter Tryz.func92, Tryz.ntmps92
                  go_wp2_with (first | (go_at_call 27; go_in) | (go_at_call 110; go_in) | (go_at_call 97; go_in) | (go_at_call 111; go_in))
                  go_ret
                  exact ⟨rfl, (HB _).out⟩
              · skip
                have t11n0 : decide (x3 ≤ 1000) = false := by first | omega | (simp; omega) | simpa using t11
                have t11n1 : 1000 < x3 := by first | omega | (simp; omega) | simpa using t11
                have e0 : B = false := by
                  rw [← HH.out]
                  simp [slotOk, okUsed]
                  try omega
                subst e0
                clear HH
                go_enter Tryz.func92, Tryz.ntmps92
                go_wp2_with (first | (go_at_call 27; go_in) | (go_at_call 110; go_in) | (go_at_call 97; go_in) | (go_at_call 111; go_in))
                go_ret
                exact ⟨rfl, (HB _).out⟩
            · skip
              have t10n0 : decide (0 ≤ x3) = false := by first | omega | (simp; omega) | simpa using t10
              have t10n1 : x3 < 0 := by first | omega | (simp; omega) | simpa using t10
              have e0 : B = false := by
                rw [← HH.out]
                simp [slotOk, okUsed]
                try omega
              subst e0
              clear HH
              go_enter Tryz.func92, Tryz.ntmps92
              go_wp2_with (first | (go_at_call 27; go_in) | (go_at_call 110; go_in) | (go_at_call 97; go_in) | (go_at_call 111; go_in))
              go_ret
              exact ⟨rfl, (HB _).out⟩
          · skip
            have t9n0 : decide (x2 ≤ 1000000) = false := by first | omega | (simp; omega) | simpa using t9
            have t9n1 : 1000000 < x2 := by first | omega | (simp; omega) | simpa using t9
            have e0 : B = false := by
              rw [← HH.out]
              simp [slotOk, okUsed]
              try omega
            subst e0
            clear HH
            go_enter Tryz.func92, Tryz.ntmps92
            go_wp2_with (first | (go_at_call 27; go_in) | (go_at_call 110; go_in) | (go_at_call 97; go_in) | (go_at_call 111; go_in))
            go_ret
            exact ⟨rfl, (HB _).out⟩
        · skip
          have t8n0 : decide (1 ≤ x2) = false := by first | omega | (simp; omega) | simpa using t8
          have t8n1 : x2 < 1 := by first | omega | (simp; omega) | simpa using t8
          have e0 : B = false := by
            rw [← HH.out]
            simp [slotOk, okUsed]
            try omega
          subst e0
          clear HH
          go_enter Tryz.func92, Tryz.ntmps92
          go_wp2_with (first | (go_at_call 27; go_in) | (go_at_call 110; go_in) | (go_at_call 97; go_in) | (go_at_call 111; go_in))
          go_ret
          exact ⟨rfl, (HB _).out⟩
      · skip
        have t7n0 : decide (x0 ≤ 1000000) = false := by first | omega | (simp; omega) | simpa using t7
        have t7n1 : 1000000 < x0 := by first | omega | (simp; omega) | simpa using t7
        have e0 : B = false := by
          rw [← HH.out]
          simp [slotOk, okUsed]
          try omega
        subst e0
        clear HH
        go_enter Tryz.func92, Tryz.ntmps92
        go_wp2_with (first | (go_at_call 27; go_in) | (go_at_call 110; go_in) | (go_at_call 97; go_in) | (go_at_call 111; go_in))
        go_ret
        exact ⟨rfl, (HB _).out⟩
    · skip
      have t6n0 : decide (0 ≤ x0) = false := by first | omega | (simp; omega) | simpa using t6
      have t6n1 : x0 < 0 := by first | omega | (simp; omega) | simpa using t6
      have e0 : B = false := by
        rw [← HH.out]
        simp [slotOk, okUsed]
        try omega
      subst e0
      clear HH
      go_enter Tryz.func92, Tryz.ntmps92
      go_wp2_with (first | (go_at_call 27; go_in) | (go_at_call 110; go_in) | (go_at_call 97; go_in) | (go_at_call 111; go_in))
      go_ret
      exact ⟨rfl, (HB _).out⟩

end Go.Proofs.YtnabnghjejncpaaGreat.SlotOks
