/- Several texts laid into one: what the functions named in their own remarks answer; no condition but those written in each. -/
import Derived.Test.YtnabnghjejncpaaGreatRows
import Derived.WalkKit
import Derived.WalkSmall
import Derived.BigQuiet
import Derived.Deep.RegionWith
import Derived.Deep.DeepCutAuto
import Derived.Test.YtnabnghjejncpaaGreatListKit
import Derived.Test.YtnabnghjejncpaaGreatHoldKit
import Derived.WalkMore
import Derived.ScopeJumps
import Derived.Defers
import Derived.Test.YtnabnghjejncpaaGreatProg
import Derived.Test.YtnabnghjejncpaaGreatNearKit
import Derived.StillTail

section
namespace Go.Proofs.YtnabnghjejncpaaGreat.CodKit
open Go.RowKit
set_option linter.unusedVariables false

/-- The struct Codel. -/
structure Cod where
  x0 : Int
  x1 : Int
  x2 : Int
  x3 : Bool
  x4 : Int
  x5 : Int

def cells (s : Cod) : List Value := [.int .i64 s.x0, .int .i64 s.x1, .int .i64 s.x2, .bool s.x3, .int .i64 s.x4, .int .i64 s.x5]
def agg (s : Cod) : Value := .agg #[.int .i64 s.x0, .int .i64 s.x1, .int .i64 s.x2, .bool s.x3, .int .i64 s.x4, .int .i64 s.x5]
def zero : Cod := ⟨0, 0, 0, false, 0, 0⟩
/-- It is right. -/
def codOk (s : Cod) : Bool := decide (0 ≤ s.x0 ∧ s.x0 ≤ 100000 ∧ 1 ≤ s.x1 ∧ s.x1 ≤ 100000 ∧ 0 ≤ s.x2 ∧ s.x2 ≤ 1000000000 ∧ 0 ≤ s.x4 ∧ s.x4 ≤ 1000000000 ∧ 0 ≤ s.x5 ∧ s.x5 ≤ 100000) && (if s.x3 = true then decide (1 ≤ s.x5 ∧ 0 < s.x2) else decide (s.x4 = 0 ∧ s.x5 = 0))
/-- The root of a number, counted up to. -/
def rootN : Nat → Nat
  | 0 => 0
  | n + 1 => if (rootN n + 1) * (rootN n + 1) ≤ n + 1 then rootN n + 1 else rootN n
def rootI (n : Int) : Int := (rootN n.toNat : Int)
/-- How long until the next one goes. -/
def pace (e c : Int) : Int := if 1 ≤ e ∧ e ≤ 100000 ∧ 1 ≤ c ∧ c ≤ 100000 then (if 1000 * e / rootI (1000000 * c) < 1 then 1 else 1000 * e / rootI (1000000 * c)) else 0
/-- A time and a span behind it. -/
def atime (a b : Int) : Int := if a + b ≤ 1000000000 then a + b else 1000000000
def up1 (n : Int) : Int := if n + 1 ≤ 100000 then n + 1 else 100000
/-- What comes of a look that is right. -/
def see (s : Cod) (now w : Int) : Cod × Bool :=
  if w < 0 ∨ w < s.x0 then (⟨s.x0, s.x1, 0, false, 0, 0⟩, false)
  else if s.x3 = false then (if s.x2 = 0 then (⟨s.x0, s.x1, atime now s.x1, s.x3, s.x4, s.x5⟩, false) else if s.x2 ≤ now then (⟨s.x0, s.x1, s.x2, true, atime now s.x1, 1⟩, true) else (s, false))
  else if s.x4 ≤ now then (⟨s.x0, s.x1, s.x2, s.x3, atime s.x4 (pace s.x1 (up1 s.x5)), up1 s.x5⟩, true) else (s, false)
theorem cells_len (s : Cod) : (cells s).length = 6 := rfl
end Go.Proofs.YtnabnghjejncpaaGreat.CodKit
end

section
namespace Go.Proofs.YtnabnghjejncpaaGreat.CodOks
open Go.RowKit CodKit
set_option maxRecDepth 8000
set_option linter.unusedVariables false
set_option linter.unusedSimpArgs false

set_option maxHeartbeats 2000000 in
theorem spec_codelok_true (x0 x1 x2 x4 x5 : Int) (w : World) :
    Calls Tryz.prog 46 #[.agg #[.int .i64 x0, .int .i64 x1, .int .i64 x2, .bool true, .int .i64 x4, .int .i64 x5]] w fun e w' => e = .returned (.bool (codOk ⟨x0, x1, x2, true, x4, x5⟩)) ∧ Below w.heap.size w w' := by
  have HB : ∀ A : Obj, Hid (Below w.heap.size w (w.alloc A)) := fun A => (Below.refl _ _).alloc (Nat.le_refl _) _
  obtain ⟨B, hB⟩ : ∃ B, codOk ⟨x0, x1, x2, true, x4, x5⟩ = B := ⟨_, rfl⟩
  rw [hB]
  have HH : Hid (codOk ⟨x0, x1, x2, true, x4, x5⟩ = B) := hB
  clear hB
  by_cases t1 : 0 ≤ x0
  · skip
    have t1p0 : decide (0 ≤ x0) = true := by first | omega | (simp; omega) | simpa using t1
    by_cases t2 : x0 ≤ 100000
    · skip
      have t2p0 : decide (x0 ≤ 100000) = true := by first | omega | (simp; omega) | simpa using t2
      by_cases t3 : 1 ≤ x1
      · skip
        have t3p0 : decide (1 ≤ x1) = true := by first | omega | (simp; omega) | simpa using t3
        by_cases t4 : x1 ≤ 100000
        · skip
          have t4p0 : decide (x1 ≤ 100000) = true := by first | omega | (simp; omega) | simpa using t4
          by_cases t5 : 0 ≤ x2
          · skip
            have t5p0 : decide (0 ≤ x2) = true := by first | omega | (simp; omega) | simpa using t5
            by_cases t6 : x2 ≤ 1000000000
            · skip
              have t6p0 : decide (x2 ≤ 1000000000) = true := by first | omega | (simp; omega) | simpa using t6
              by_cases t7 : 0 ≤ x4
              · skip
                have t7p0 : decide (0 ≤ x4) = true := by first | omega | (simp; omega) | simpa using t7
                by_cases t8 : x4 ≤ 1000000000
                · skip
                  have t8p0 : decide (x4 ≤ 1000000000) = true := by first | omega | (simp; omega) | simpa using t8
                  by_cases t9 : 0 ≤ x5
                  · skip
                    have t9p0 : ¬ x5 < 0 := by first | omega | (simp; omega) | simpa using t9
                    have t9p1 : decide (x5 < 0) = false := by first | omega | (simp; omega) | simpa using t9
                    by_cases t10 : x5 ≤ 100000
                    · skip
                      have t10p0 : ¬ 100000 < x5 := by first | omega | (simp; omega) | simpa using t10
                      have t10p1 : decide (100000 < x5) = false := by first | omega | (simp; omega) | simpa using t10
                      by_cases t11 : 1 ≤ x5
                      · skip
                        have t11p0 : decide (1 ≤ x5) = true := by first | omega | (simp; omega) | simpa using t11
                        by_cases t12 : 0 < x2
                        · skip
                          have t12p0 : decide (0 < x2) = true := by first | omega | (simp; omega) | simpa using t12
                          have e0 : B = true := by
                            rw [← HH.out]
                            simp [codOk]
                            try omega
                          subst e0
                          clear HH
                          go_enter Tryz.func46, Tryz.ntmps46
                          go_wp2_with (first | (go_at_call 83; go_in) | (go_at_call 42; go_in))
                          go_ret
                          exact ⟨rfl, (HB _).out⟩
                        · skip
                          have t12n0 : decide (0 < x2) = false := by first | omega | (simp; omega) | simpa using t12
                          have e0 : B = false := by
                            rw [← HH.out]
                            simp [codOk]
                            try omega
                          subst e0
                          clear HH
                          go_enter Tryz.func46, Tryz.ntmps46
                          go_wp2_with (first | (go_at_call 83; go_in) | (go_at_call 42; go_in))
                          go_ret
                          exact ⟨rfl, (HB _).out⟩
                      · skip
                        have t11n0 : decide (1 ≤ x5) = false := by first | omega | (simp; omega) | simpa using t11
                        have t11n1 : x5 < 1 := by first | omega | (simp; omega) | simpa using t11
                        have e0 : B = false := by
                          rw [← HH.out]
                          simp [codOk]
                          try omega
                        subst e0
                        clear HH
                        go_enter Tryz.func46, Tryz.ntmps46
                        go_wp2_with (first | (go_at_call 83; go_in) | (go_at_call 42; go_in))
                        go_ret
                        exact ⟨rfl, (HB _).out⟩
                    · skip
                      have t10n0 : 100000 < x5 := by first | omega | (simp; omega) | simpa using t10
                      have t10n1 : decide (100000 < x5) = true := by first | omega | (simp; omega) | simpa using t10
                      have e0 : B = false := by
                        rw [← HH.out]
                        simp [codOk]
                        try omega
                      subst e0
                      clear HH
                      go_enter Tryz.func46, Tryz.ntmps46
                      go_wp2_with (first | (go_at_call 83; go_in) | (go_at_call 42; go_in))
                      go_ret
                      exact ⟨rfl, (HB _).out⟩
                  · skip
                    have t9n0 : x5 < 0 := by first | omega | (simp; omega) | simpa using t9
                    have t9n1 : decide (x5 < 0) = true := by first | omega | (simp; omega) | simpa using t9
                    have e0 : B = false := by
                      rw [← HH.out]
                      simp [codOk]
                      try omega
                    subst e0
                    clear HH
                    go_enter Tryz.func46, Tryz.ntmps46
                    go_wp2_with (first | (go_at_call 83; go_in) | (go_at_call 42; go_in))
                    go_ret
                    exact ⟨rfl, (HB _).out⟩
                · skip
                  have t8n0 : decide (x4 ≤ 1000000000) = false := by first | omega | (simp; omega) | simpa using t8
                  have t8n1 : 1000000000 < x4 := by first | omega | (simp; omega) | simpa using t8
                  have e0 : B = false := by
                    rw [← HH.out]
                    simp [codOk]
                    try omega
                  subst e0
                  clear HH
                  go_enter Tryz.func46, Tryz.ntmps46
                  go_wp2_with (first | (go_at_call 83; go_in) | (go_at_call 42; go_in))
                  go_ret
                  exact ⟨rfl, (HB _).out⟩
              · skip
                have t7n0 : decide (0 ≤ x4) = false := by first | omega | (simp; omega) | simpa using t7
                have t7n1 : x4 < 0 := by first | omega | (simp; omega) | simpa using t7
                have e0 : B = false := by
                  rw [← HH.out]
                  simp [codOk]
                  try omega
                subst e0
                clear HH
                go_enter Tryz.func46, Tryz.ntmps46
                go_wp2_with (first | (go_at_call 83; go_in) | (go_at_call 42; go_in))
                go_ret
                exact ⟨rfl, (HB _).out⟩
            · skip
              have t6n0 : decide (x2 ≤ 1000000000) = false := by first | omega | (simp; omega) | simpa using t6
              have t6n1 : 1000000000 < x2 := by first | omega | (simp; omega) | simpa using t6
              have e0 : B = false := by
                rw [← HH.out]
                simp [codOk]
                try omega
              subst e0
              clear HH
              go_enter Tryz.func46, Tryz.ntmps46
              go_wp2_with (first | (go_at_call 83; go_in) | (go_at_call 42; go_in))
              go_ret
              exact ⟨rfl, (HB _).out⟩
          · skip
            have t5n0 : decide (0 ≤ x2) = false := by first | omega | (simp; omega) | simpa using t5
            have t5n1 : x2 < 0 := by first | omega | (simp; omega) | simpa using t5
            have e0 : B = false := by
              rw [← HH.out]
              simp [codOk]
              try omega
            subst e0
            clear HH
            go_enter Tryz.func46, Tryz.ntmps46
            go_wp2_with (first | (go_at_call 83; go_in) | (go_at_call 42; go_in))
            go_ret
            exact ⟨rfl, (HB _).out⟩
        · skip
          have t4n0 : decide (x1 ≤ 100000) = false := by first | omega | (simp; omega) | simpa using t4
          have t4n1 : 100000 < x1 := by first | omega | (simp; omega) | simpa using t4
          have e0 : B = false := by
            rw [← HH.out]
            simp [codOk]
            try omega
          subst e0
          clear HH
          go_enter Tryz.func46, Tryz.ntmps46
          go_wp2_with (first | (go_at_call 83; go_in) | (go_at_call 42; go_in))
          go_ret
          exact ⟨rfl, (HB _).out⟩
      · skip
        have t3n0 : decide (1 ≤ x1) = false := by first | omega | (simp; omega) | simpa using t3
        have t3n1 : x1 < 1 := by first | omega | (simp; omega) | simpa using t3
        have e0 : B = false := by
          rw [← HH.out]
          simp [codOk]
          try omega
        subst e0
        clear HH
        go_enter Tryz.func46, Tryz.ntmps46
        go_wp2_with (first | (go_at_call 83; go_in) | (go_at_call 42; go_in))
        go_ret
        exact ⟨rfl, (HB _).out⟩
    · skip
      have t2n0 : decide (x0 ≤ 100000) = false := by first | omega | (simp; omega) | simpa using t2
      have t2n1 : 100000 < x0 := by first | omega | (simp; omega) | simpa using t2
      have e0 : B = false := by
        rw [← HH.out]
        simp [codOk]
        try omega
      subst e0
      clear HH
      go_enter Tryz.func46, Tryz.ntmps46
      go_wp2_with (first | (go_at_call 83; go_in) | (go_at_call 42; go_in))
      go_ret
      exact ⟨rfl, (HB _).out⟩
  · skip
    have t1n0 : decide (0 ≤ x0) = false := by first | omega | (simp; omega) | simpa using t1
    have t1n1 : x0 < 0 := by first | omega | (simp; omega) | simpa using t1
    have e0 : B = false := by
      rw [← HH.out]
      simp [codOk]
      try omega
    subst e0
    clear HH
    go_enter Tryz.func46, Tryz.ntmps46
    go_wp2_with (first | (go_at_call 83; go_in) | (go_at_call 42; go_in))
    go_ret
    exact ⟨rfl, (HB _).out⟩

set_option maxHeartbeats 2000000 in
theorem spec_codelok_false (x0 x1 x2 x4 x5 : Int) (w : World) :
    Calls Tryz.prog 46 #[.agg #[.int .i64 x0, .int .i64 x1, .int .i64 x2, .bool false, .int .i64 x4, .int .i64 x5]] w fun e w' => e = .returned (.bool (codOk ⟨x0, x1, x2, false, x4, x5⟩)) ∧ Below w.heap.size w w' := by
  have HB : ∀ A : Obj, Hid (Below w.heap.size w (w.alloc A)) := fun A => (Below.refl _ _).alloc (Nat.le_refl _) _
  obtain ⟨B, hB⟩ : ∃ B, codOk ⟨x0, x1, x2, false, x4, x5⟩ = B := ⟨_, rfl⟩
  rw [hB]
  have HH : Hid (codOk ⟨x0, x1, x2, false, x4, x5⟩ = B) := hB
  clear hB
  by_cases t1 : 0 ≤ x0
  · skip
    have t1p0 : decide (0 ≤ x0) = true := by first | omega | (simp; omega) | simpa using t1
    by_cases t2 : x0 ≤ 100000
    · skip
      have t2p0 : decide (x0 ≤ 100000) = true := by first | omega | (simp; omega) | simpa using t2
      by_cases t3 : 1 ≤ x1
      · skip
        have t3p0 : decide (1 ≤ x1) = true := by first | omega | (simp; omega) | simpa using t3
        by_cases t4 : x1 ≤ 100000
        · skip
          have t4p0 : decide (x1 ≤ 100000) = true := by first | omega | (simp; omega) | simpa using t4
          by_cases t5 : 0 ≤ x2
          · skip
            have t5p0 : decide (0 ≤ x2) = true := by first | omega | (simp; omega) | simpa using t5
            by_cases t6 : x2 ≤ 1000000000
            · skip
              have t6p0 : decide (x2 ≤ 1000000000) = true := by first | omega | (simp; omega) | simpa using t6
              by_cases t7 : 0 ≤ x4
              · skip
                have t7p0 : decide (0 ≤ x4) = true := by first | omega | (simp; omega) | simpa using t7
                by_cases t8 : x4 ≤ 1000000000
                · skip
                  have t8p0 : decide (x4 ≤ 1000000000) = true := by first | omega | (simp; omega) | simpa using t8
                  by_cases t9 : 0 ≤ x5
                  · skip
                    have t9p0 : ¬ x5 < 0 := by first | omega | (simp; omega) | simpa using t9
                    have t9p1 : decide (x5 < 0) = false := by first | omega | (simp; omega) | simpa using t9
                    by_cases t10 : x5 ≤ 100000
                    · skip
                      have t10p0 : ¬ 100000 < x5 := by first | omega | (simp; omega) | simpa using t10
                      have t10p1 : decide (100000 < x5) = false := by first | omega | (simp; omega) | simpa using t10
                      by_cases t11 : x4 = 0
                      · skip
                        have t11p0 : (x4 == 0) = true := by first | omega | (simp; omega) | simpa using t11
                        by_cases t12 : x5 = 0
                        · skip
                          have t12p0 : (x5 == 0) = true := by first | omega | (simp; omega) | simpa using t12
                          have e0 : B = true := by
                            rw [← HH.out]
                            simp [codOk]
                            try omega
                          subst e0
                          clear HH
                          go_enter Tryz.func46, Tryz.ntmps46
                          go_wp2_with (first | (go_at_call 83; go_in) | (go_at_call 42; go_in))
                          go_ret
                          exact ⟨rfl, (HB _).out⟩
                        · skip
                          have t12n0 : (x5 == 0) = false := by first | omega | (simp; omega) | simpa using t12
                          have e0 : B = false := by
                            rw [← HH.out]
                            simp [codOk]
                            try omega
                          subst e0
                          clear HH
                          go_enter Tryz.func46, Tryz.ntmps46
                          go_wp2_with (first | (go_at_call 83; go_in) | (go_at_call 42; go_in))
                          go_ret
                          exact ⟨rfl, (HB _).out⟩
                      · skip
                        have t11n0 : (x4 == 0) = false := by first | omega | (simp; omega) | simpa using t11
                        have e0 : B = false := by
                          rw [← HH.out]
                          simp [codOk]
                          try omega
                        subst e0
                        clear HH
                        go_enter Tryz.func46, Tryz.ntmps46
                        go_wp2_with (first | (go_at_call 83; go_in) | (go_at_call 42; go_in))
                        go_ret
                        exact ⟨rfl, (HB _).out⟩
                    · skip
                      have t10n0 : 100000 < x5 := by first | omega | (simp; omega) | simpa using t10
                      have t10n1 : decide (100000 < x5) = true := by first | omega | (simp; omega) | simpa using t10
                      have e0 : B = false := by
                        rw [← HH.out]
                        simp [codOk]
                        try omega
                      subst e0
                      clear HH
                      go_enter Tryz.func46, Tryz.ntmps46
                      go_wp2_with (first | (go_at_call 83; go_in) | (go_at_call 42; go_in))
                      go_ret
                      exact ⟨rfl, (HB _).out⟩
                  · skip
                    have t9n0 : x5 < 0 := by first | omega | (simp; omega) | simpa using t9
                    have t9n1 : decide (x5 < 0) = true := by first | omega | (simp; omega) | simpa using t9
                    have e0 : B = false := by
                      rw [← HH.out]
                      simp [codOk]
                      try omega
                    subst e0
                    clear HH
                    go_enter Tryz.func46, Tryz.ntmps46
                    go_wp2_with (first | (go_at_call 83; go_in) | (go_at_call 42; go_in))
                    go_ret
                    exact ⟨rfl, (HB _).out⟩
                · skip
                  have t8n0 : decide (x4 ≤ 1000000000) = false := by first | omega | (simp; omega) | simpa using t8
                  have t8n1 : 1000000000 < x4 := by first | omega | (simp; omega) | simpa using t8
                  have e0 : B = false := by
                    rw [← HH.out]
                    simp [codOk]
                    try omega
                  subst e0
                  clear HH
                  go_enter Tryz.func46, Tryz.ntmps46
                  go_wp2_with (first | (go_at_call 83; go_in) | (go_at_call 42; go_in))
                  go_ret
                  exact ⟨rfl, (HB _).out⟩
              · skip
                have t7n0 : decide (0 ≤ x4) = false := by first | omega | (simp; omega) | simpa using t7
                have t7n1 : x4 < 0 := by first | omega | (simp; omega) | simpa using t7
                have e0 : B = false := by
                  rw [← HH.out]
                  simp [codOk]
                  try omega
                subst e0
                clear HH
                go_enter Tryz.func46, Tryz.ntmps46
                go_wp2_with (first | (go_at_call 83; go_in) | (go_at_call 42; go_in))
                go_ret
                exact ⟨rfl, (HB _).out⟩
            · skip
              have t6n0 : decide (x2 ≤ 1000000000) = false := by first | omega | (simp; omega) | simpa using t6
              have t6n1 : 1000000000 < x2 := by first | omega | (simp; omega) | simpa using t6
              have e0 : B = false := by
                rw [← HH.out]
                simp [codOk]
                try omega
              subst e0
              clear HH
              go_enter Tryz.func46, Tryz.ntmps46
              go_wp2_with (first | (go_at_call 83; go_in) | (go_at_call 42; go_in))
              go_ret
              exact ⟨rfl, (HB _).out⟩
          · skip
            have t5n0 : decide (0 ≤ x2) = false := by first | omega | (simp; omega) | simpa using t5
            have t5n1 : x2 < 0 := by first | omega | (simp; omega) | simpa using t5
            have e0 : B = false := by
              rw [← HH.out]
              simp [codOk]
              try omega
            subst e0
            clear HH
            go_enter Tryz.func46, Tryz.ntmps46
            go_wp2_with (first | (go_at_call 83; go_in) | (go_at_call 42; go_in))
            go_ret
            exact ⟨rfl, (HB _).out⟩
        · skip
          have t4n0 : decide (x1 ≤ 100000) = false := by first | omega | (simp; omega) | simpa using t4
          have t4n1 : 100000 < x1 := by first | omega | (simp; omega) | simpa using t4
          have e0 : B = false := by
            rw [← HH.out]
            simp [codOk]
            try omega
          subst e0
          clear HH
          go_enter Tryz.func46, Tryz.ntmps46
          go_wp2_with (first | (go_at_call 83; go_in) | (go_at_call 42; go_in))
          go_ret
          exact ⟨rfl, (HB _).out⟩
      · skip
        have t3n0 : decide (1 ≤ x1) = false := by first | omega | (simp; omega) | simpa using t3
        have t3n1 : x1 < 1 := by first | omega | (simp; omega) | simpa using t3
        have e0 : B = false := by
          rw [← HH.out]
          simp [codOk]
          try omega
        subst e0
        clear HH
        go_enter Tryz.func46, Tryz.ntmps46
        go_wp2_with (first | (go_at_call 83; go_in) | (go_at_call 42; go_in))
        go_ret
        exact ⟨rfl, (HB _).out⟩
    · skip
      have t2n0 : decide (x0 ≤ 100000) = false := by first | omega | (simp; omega) | simpa using t2
      have t2n1 : 100000 < x0 := by first | omega | (simp; omega) | simpa using t2
      have e0 : B = false := by
        rw [← HH.out]
        simp [codOk]
        try omega
      subst e0
      clear HH
      go_enter Tryz.func46, Tryz.ntmps46
      go_wp2_with (first | (go_at_call 83; go_in) | (go_at_call 42; go_in))
      go_ret
      exact ⟨rfl, (HB _).out⟩
  · skip
    have t1n0 : decide (0 ≤ x0) = false := by first | omega | (simp; omega) | simpa using t1
    have t1n1 : x0 < 0 := by first | omega | (simp; omega) | simpa using t1
    have e0 : B = false := by
      rw [← HH.out]
      simp [codOk]
      try omega
    subst e0
    clear HH
    go_enter Tryz.func46, Tryz.ntmps46
    go_wp2_with (first | (go_at_call 83; go_in) | (go_at_call 42; go_in))
    go_ret
    exact ⟨rfl, (HB _).out⟩

theorem spec_codelok (x0 x1 x2 : Int) (x3 : Bool) (x4 x5 : Int) (w : World) : Calls Tryz.prog 46 #[.agg #[.int .i64 x0, .int .i64 x1, .int .i64 x2, .bool x3, .int .i64 x4, .int .i64 x5]] w fun e w' => e = .returned (.bool (codOk ⟨x0, x1, x2, x3, x4, x5⟩)) ∧ Below w.heap.size w w' := by
  cases x3
  · exact spec_codelok_false x0 x1 x2 x4 x5 w
  · exact spec_codelok_true x0 x1 x2 x4 x5 w
end Go.Proofs.YtnabnghjejncpaaGreat.CodOks
end

section
namespace Go.Proofs.YtnabnghjejncpaaGreat.CodSeeS
open Go.RowKit ListKit HoldKit CodKit CodOks
set_option maxRecDepth 8000
set_option linter.unusedVariables false
set_option linter.unusedSimpArgs false

/-- A new one is right. -/
def newOk (t v : Int) : Bool := codOk ⟨t, v, 0, false, 0, 0⟩
set_option maxHeartbeats 1000000 in
theorem spec_codelnew (t v : Int) (w : World) : Calls Tryz.prog 77 #[.int .i64 t, .int .i64 v] w fun e w' => e = .returned (.tuple #[agg (if newOk t v = true then ⟨t, v, 0, false, 0, 0⟩ else zero), .bool (newOk t v)]) ∧ Below w.heap.size w w' := by
  have hC := fun (W : World) => spec_codelok t v 0 false 0 0 W
  obtain ⟨B, hB⟩ : ∃ B, newOk t v = B := ⟨_, rfl⟩
  have hB2 : codOk ⟨t, v, 0, false, 0, 0⟩ = B := hB
  rw [hB]
  rw [hB2] at hC
  clear hB hB2
  cases B
  · go_enter Tryz.func77, Tryz.ntmps77
    go_wp2_with (go_at_call 46; refine (hC _).mono ?_; rintro e' w1 ⟨rfl, hb⟩; have H1 : Hid (Bel w w1 ∧ boxB w1 w.heap.size #[.int .i64 0, .int .i64 0, .int .i64 0, .bool false, .int .i64 0, .int .i64 0] 106 ∧ boxB w1 (w.heap.size + 1) #[.int .i64 t, .int .i64 v, .int .i64 0, .bool false, .int .i64 0, .int .i64 0] 106) := ⟨Bel.below (n2 w _ _) hb, ((boxB.new w #[.int .i64 0, .int .i64 0, .int .i64 0, .bool false, .int .i64 0, .int .i64 0] 106).below (n1 _ _)).below hb, (new2 w _ _ _).below hb⟩; have c0 := H1.out.2.1.cell 0; have z0 := fzB H1.out.2.1 0; have d0 := H1.out.2.2.cell 0; have c1 := H1.out.2.1.cell 1; have z1 := fzB H1.out.2.1 1; have d1 := H1.out.2.2.cell 1; have c2 := H1.out.2.1.cell 2; have z2 := fzB H1.out.2.1 2; have d2 := H1.out.2.2.cell 2; have c3 := H1.out.2.1.cell 3; have z3 := fzB H1.out.2.1 3; have d3 := H1.out.2.2.cell 3; have c4 := H1.out.2.1.cell 4; have z4 := fzB H1.out.2.1 4; have d4 := H1.out.2.2.cell 4; have c5 := H1.out.2.1.cell 5; have z5 := fzB H1.out.2.1 5; have d5 := H1.out.2.2.cell 5; clear hb hC)
    exact bodyPost_ret (v := .tuple #[.agg #[.int .i64 0, .int .i64 0, .int .i64 0, .bool false, .int .i64 0, .int .i64 0], .bool false]) (by simp [results, Tryz.results77, go_sem, c0, z0, c1, z1, c2, z2, c3, z3, c4, z4, c5, z5]) rfl ⟨rfl, (Below.setCell (Below.setCell (Below.setCell (Below.setCell (Below.setCell (Below.setCell H1.out.1.out (by exact Nat.le_refl _) _) (by exact Nat.le_refl _) _) (by exact Nat.le_refl _) _) (by exact Nat.le_refl _) _) (by exact Nat.le_refl _) _) (by exact Nat.le_refl _) _)⟩
  · go_enter Tryz.func77, Tryz.ntmps77
    go_wp2_with (go_at_call 46; refine (hC _).mono ?_; rintro e' w1 ⟨rfl, hb⟩; have H1 : Hid (Bel w w1 ∧ boxB w1 w.heap.size #[.int .i64 0, .int .i64 0, .int .i64 0, .bool false, .int .i64 0, .int .i64 0] 106 ∧ boxB w1 (w.heap.size + 1) #[.int .i64 t, .int .i64 v, .int .i64 0, .bool false, .int .i64 0, .int .i64 0] 106) := ⟨Bel.below (n2 w _ _) hb, ((boxB.new w #[.int .i64 0, .int .i64 0, .int .i64 0, .bool false, .int .i64 0, .int .i64 0] 106).below (n1 _ _)).below hb, (new2 w _ _ _).below hb⟩; have c0 := H1.out.2.1.cell 0; have z0 := fzB H1.out.2.1 0; have d0 := H1.out.2.2.cell 0; have c1 := H1.out.2.1.cell 1; have z1 := fzB H1.out.2.1 1; have d1 := H1.out.2.2.cell 1; have c2 := H1.out.2.1.cell 2; have z2 := fzB H1.out.2.1 2; have d2 := H1.out.2.2.cell 2; have c3 := H1.out.2.1.cell 3; have z3 := fzB H1.out.2.1 3; have d3 := H1.out.2.2.cell 3; have c4 := H1.out.2.1.cell 4; have z4 := fzB H1.out.2.1 4; have d4 := H1.out.2.2.cell 4; have c5 := H1.out.2.1.cell 5; have z5 := fzB H1.out.2.1 5; have d5 := H1.out.2.2.cell 5; clear hb hC)
    exact bodyPost_ret (v := .tuple #[.agg #[.int .i64 t, .int .i64 v, .int .i64 0, .bool false, .int .i64 0, .int .i64 0], .bool true]) (by simp [results, Tryz.results77, go_sem, c0, z0, c1, z1, c2, z2, c3, z3, c4, z4, c5, z5]) rfl ⟨rfl, (Below.setCell (Below.setCell (Below.setCell (Below.setCell (Below.setCell (Below.setCell H1.out.1.out (by exact Nat.le_refl _) _) (by exact Nat.le_refl _) _) (by exact Nat.le_refl _) _) (by exact Nat.le_refl _) _) (by exact Nat.le_refl _) _) (by exact Nat.le_refl _) _)⟩
end Go.Proofs.YtnabnghjejncpaaGreat.CodSeeS
end

section
namespace Go.Proofs.YtnabnghjejncpaaGreat.CodOkI
open Go.RowKit CodKit
set_option maxRecDepth 8000
set_option linter.unusedVariables false
set_option linter.unusedSimpArgs false

set_option maxHeartbeats 2000000 in
theorem impl_codelok_true (x0 x1 x2 x4 x5 : Int) (w : World) :
    Calls Tryz.prog 89 #[.agg #[.int .i64 x0, .int .i64 x1, .int .i64 x2, .bool true, .int .i64 x4, .int .i64 x5]] w fun e w' => e = .returned (.bool (codOk ⟨x0, x1, x2, true, x4, x5⟩)) ∧ Below w.heap.size w w' := by
  have HB : ∀ A : Obj, Hid (Below w.heap.size w (w.alloc A)) := fun A => (Below.refl _ _).alloc (Nat.le_refl _) _
  obtain ⟨B, hB⟩ : ∃ B, codOk ⟨x0, x1, x2, true, x4, x5⟩ = B := ⟨_, rfl⟩
  rw [hB]
  have HH : Hid (codOk ⟨x0, x1, x2, true, x4, x5⟩ = B) := hB
  clear hB
  by_cases t1 : 0 ≤ x0
  · skip
    have t1p0 : decide (0 ≤ x0) = true := by first | omega | (simp; omega) | simpa using t1
    by_cases t2 : x0 ≤ 100000
    · skip
      have t2p0 : decide (x0 ≤ 100000) = true := by first | omega | (simp; omega) | simpa using t2
      by_cases t3 : 1 ≤ x1
      · skip
        have t3p0 : decide (1 ≤ x1) = true := by first | omega | (simp; omega) | simpa using t3
        by_cases t4 : x1 ≤ 100000
        · skip
          have t4p0 : decide (x1 ≤ 100000) = true := by first | omega | (simp; omega) | simpa using t4
          by_cases t5 : 0 ≤ x2
          · skip
            have t5p0 : decide (0 ≤ x2) = true := by first | omega | (simp; omega) | simpa using t5
            by_cases t6 : x2 ≤ 1000000000
            · skip
              have t6p0 : decide (x2 ≤ 1000000000) = true := by first | omega | (simp; omega) | simpa using t6
              by_cases t7 : 0 ≤ x4
              · skip
                have t7p0 : decide (0 ≤ x4) = true := by first | omega | (simp; omega) | simpa using t7
                by_cases t8 : x4 ≤ 1000000000
                · skip
                  have t8p0 : decide (x4 ≤ 1000000000) = true := by first | omega | (simp; omega) | simpa using t8
                  by_cases t9 : ¬ x2 = 0
                  · skip
                    have t9p0 : (x2 != 0) = true := by first | omega | (simp; omega) | simpa using t9
                    by_cases t10 : 1 ≤ x5
                    · skip
                      have t10p0 : decide (1 ≤ x5) = true := by first | omega | (simp; omega) | simpa using t10
                      by_cases t11 : x5 ≤ 100000
                      · skip
                        have t11p0 : decide (x5 ≤ 100000) = true := by first | omega | (simp; omega) | simpa using t11
                        have e0 : B = true := by
                          rw [← HH.out]
                          simp [codOk]
                          try omega
                        subst e0
                        clear HH
                        go_enter Tryz.func89, Tryz.ntmps89
                        go_wp2_with (first | (go_at_call 108; go_in) | (go_at_call 107; go_in) | (go_at_call 27; go_in))
                        go_ret
                        exact ⟨rfl, (HB _).out⟩
                      · skip
                        have t11n0 : decide (x5 ≤ 100000) = false := by first | omega | (simp; omega) | simpa using t11
                        have t11n1 : 100000 < x5 := by first | omega | (simp; omega) | simpa using t11
                        have e0 : B = false := by
                          rw [← HH.out]
                          simp [codOk]
                          try omega
                        subst e0
                        clear HH
                        go_enter Tryz.func89, Tryz.ntmps89
                        go_wp2_with (first | (go_at_call 108; go_in) | (go_at_call 107; go_in) | (go_at_call 27; go_in))
                        go_ret
                        exact ⟨rfl, (HB _).out⟩
                    · skip
                      have t10n0 : decide (1 ≤ x5) = false := by first | omega | (simp; omega) | simpa using t10
                      have t10n1 : x5 < 1 := by first | omega | (simp; omega) | simpa using t10
                      have e0 : B = false := by
                        rw [← HH.out]
                        simp [codOk]
                        try omega
                      subst e0
                      clear HH
                      go_enter Tryz.func89, Tryz.ntmps89
                      go_wp2_with (first | (go_at_call 108; go_in) | (go_at_call 107; go_in) | (go_at_call 27; go_in))
                      go_ret
                      exact ⟨rfl, (HB _).out⟩
                  · skip
                    have t9n0 : (x2 != 0) = false := by first | omega | (simp; omega) | simpa using t9
                    have t9n1 : x2 = 0 := by first | omega | (simp; omega) | simpa using t9
                    have e0 : B = false := by
                      rw [← HH.out]
                      simp [codOk]
                      try omega
                    subst e0
                    clear HH
                    go_enter Tryz.func89, Tryz.ntmps89
                    go_wp2_with (first | (go_at_call 108; go_in) | (go_at_call 107; go_in) | (go_at_call 27; go_in))
                    go_ret
                    exact ⟨rfl, (HB _).out⟩
                · skip
                  have t8n0 : decide (x4 ≤ 1000000000) = false := by first | omega | (simp; omega) | simpa using t8
                  have t8n1 : 1000000000 < x4 := by first | omega | (simp; omega) | simpa using t8
                  have e0 : B = false := by
                    rw [← HH.out]
                    simp [codOk]
                    try omega
                  subst e0
                  clear HH
                  go_enter Tryz.func89, Tryz.ntmps89
                  go_wp2_with (first | (go_at_call 108; go_in) | (go_at_call 107; go_in) | (go_at_call 27; go_in))
                  go_ret
                  exact ⟨rfl, (HB _).out⟩
              · skip
                have t7n0 : decide (0 ≤ x4) = false := by first | omega | (simp; omega) | simpa using t7
                have t7n1 : x4 < 0 := by first | omega | (simp; omega) | simpa using t7
                have e0 : B = false := by
                  rw [← HH.out]
                  simp [codOk]
                  try omega
                subst e0
                clear HH
                go_enter Tryz.func89, Tryz.ntmps89
                go_wp2_with (first | (go_at_call 108; go_in) | (go_at_call 107; go_in) | (go_at_call 27; go_in))
                go_ret
                exact ⟨rfl, (HB _).out⟩
            · skip
              have t6n0 : decide (x2 ≤ 1000000000) = false := by first | omega | (simp; omega) | simpa using t6
              have t6n1 : 1000000000 < x2 := by first | omega | (simp; omega) | simpa using t6
              have e0 : B = false := by
                rw [← HH.out]
                simp [codOk]
                try omega
              subst e0
              clear HH
              go_enter Tryz.func89, Tryz.ntmps89
              go_wp2_with (first | (go_at_call 108; go_in) | (go_at_call 107; go_in) | (go_at_call 27; go_in))
              go_ret
              exact ⟨rfl, (HB _).out⟩
          · skip
            have t5n0 : decide (0 ≤ x2) = false := by first | omega | (simp; omega) | simpa using t5
            have t5n1 : x2 < 0 := by first | omega | (simp; omega) | simpa using t5
            have e0 : B = false := by
              rw [← HH.out]
              simp [codOk]
              try omega
            subst e0
            clear HH
            go_enter Tryz.func89, Tryz.ntmps89
            go_wp2_with (first | (go_at_call 108; go_in) | (go_at_call 107; go_in) | (go_at_call 27; go_in))
            go_ret
            exact ⟨rfl, (HB _).out⟩
        · skip
          have t4n0 : decide (x1 ≤ 100000) = false := by first | omega | (simp; omega) | simpa using t4
          have t4n1 : 100000 < x1 := by first | omega | (simp; omega) | simpa using t4
          have e0 : B = false := by
            rw [← HH.out]
            simp [codOk]
            try omega
          subst e0
          clear HH
          go_enter Tryz.func89, Tryz.ntmps89
          go_wp2_with (first | (go_at_call 108; go_in) | (go_at_call 107; go_in) | (go_at_call 27; go_in))
          go_ret
          exact ⟨rfl, (HB _).out⟩
      · skip
        have t3n0 : decide (1 ≤ x1) = false := by first | omega | (simp; omega) | simpa using t3
        have t3n1 : x1 < 1 := by first | omega | (simp; omega) | simpa using t3
        have e0 : B = false := by
          rw [← HH.out]
          simp [codOk]
          try omega
        subst e0
        clear HH
        go_enter Tryz.func89, Tryz.ntmps89
        go_wp2_with (first | (go_at_call 108; go_in) | (go_at_call 107; go_in) | (go_at_call 27; go_in))
        go_ret
        exact ⟨rfl, (HB _).out⟩
    · skip
      have t2n0 : decide (x0 ≤ 100000) = false := by first | omega | (simp; omega) | simpa using t2
      have t2n1 : 100000 < x0 := by first | omega | (simp; omega) | simpa using t2
      have e0 : B = false := by
        rw [← HH.out]
        simp [codOk]
        try omega
      subst e0
      clear HH
      go_enter Tryz.func89, Tryz.ntmps89
      go_wp2_with (first | (go_at_call 108; go_in) | (go_at_call 107; go_in) | (go_at_call 27; go_in))
      go_ret
      exact ⟨rfl, (HB _).out⟩
  · skip
    have t1n0 : decide (0 ≤ x0) = false := by first | omega | (simp; omega) | simpa using t1
    have t1n1 : x0 < 0 := by first | omega | (simp; omega) | simpa using t1
    have e0 : B = false := by
      rw [← HH.out]
      simp [codOk]
      try omega
    subst e0
    clear HH
    go_enter Tryz.func89, Tryz.ntmps89
    go_wp2_with (first | (go_at_call 108; go_in) | (go_at_call 107; go_in) | (go_at_call 27; go_in))
    go_ret
    exact ⟨rfl, (HB _).out⟩

set_option maxHeartbeats 2000000 in
theorem impl_codelok_false (x0 x1 x2 x4 x5 : Int) (w : World) :
    Calls Tryz.prog 89 #[.agg #[.int .i64 x0, .int .i64 x1, .int .i64 x2, .bool false, .int .i64 x4, .int .i64 x5]] w fun e w' => e = .returned (.bool (codOk ⟨x0, x1, x2, false, x4, x5⟩)) ∧ Below w.heap.size w w' := by
  have HB : ∀ A : Obj, Hid (Below w.heap.size w (w.alloc A)) := fun A => (Below.refl _ _).alloc (Nat.le_refl _) _
  obtain ⟨B, hB⟩ : ∃ B, codOk ⟨x0, x1, x2, false, x4, x5⟩ = B := ⟨_, rfl⟩
  rw [hB]
  have HH : Hid (codOk ⟨x0, x1, x2, false, x4, x5⟩ = B) := hB
  clear hB
  by_cases t1 : 0 ≤ x0
  · skip
    have t1p0 : decide (0 ≤ x0) = true := by first | omega | (simp; omega) | simpa using t1
    by_cases t2 : x0 ≤ 100000
    · skip
      have t2p0 : decide (x0 ≤ 100000) = true := by first | omega | (simp; omega) | simpa using t2
      by_cases t3 : 1 ≤ x1
      · skip
        have t3p0 : decide (1 ≤ x1) = true := by first | omega | (simp; omega) | simpa using t3
        by_cases t4 : x1 ≤ 100000
        · skip
          have t4p0 : decide (x1 ≤ 100000) = true := by first | omega | (simp; omega) | simpa using t4
          by_cases t5 : 0 ≤ x2
          · skip
            have t5p0 : decide (0 ≤ x2) = true := by first | omega | (simp; omega) | simpa using t5
            by_cases t6 : x2 ≤ 1000000000
            · skip
              have t6p0 : decide (x2 ≤ 1000000000) = true := by first | omega | (simp; omega) | simpa using t6
              by_cases t7 : 0 ≤ x4
              · skip
                have t7p0 : decide (0 ≤ x4) = true := by first | omega | (simp; omega) | simpa using t7
                by_cases t8 : x4 ≤ 1000000000
                · skip
                  have t8p0 : decide (x4 ≤ 1000000000) = true := by first | omega | (simp; omega) | simpa using t8
                  by_cases t9 : x4 = 0
                  · skip
                    have t9p0 : (x4 == 0) = true := by first | omega | (simp; omega) | simpa using t9
                    by_cases t10 : x5 = 0
                    · skip
                      have t10p0 : (x5 == 0) = true := by first | omega | (simp; omega) | simpa using t10
                      have e0 : B = true := by
                        rw [← HH.out]
                        simp [codOk]
                        try omega
                      subst e0
                      clear HH
                      go_enter Tryz.func89, Tryz.ntmps89
                      go_wp2_with (first | (go_at_call 108; go_in) | (go_at_call 107; go_in) | (go_at_call 27; go_in))
                      go_ret
                      exact ⟨rfl, (HB _).out⟩
                    · skip
                      have t10n0 : (x5 == 0) = false := by first | omega | (simp; omega) | simpa using t10
                      have e0 : B = false := by
                        rw [← HH.out]
                        simp [codOk]
                        try omega
                      subst e0
                      clear HH
                      go_enter Tryz.func89, Tryz.ntmps89
                      go_wp2_with (first | (go_at_call 108; go_in) | (go_at_call 107; go_in) | (go_at_call 27; go_in))
                      go_ret
                      exact ⟨rfl, (HB _).out⟩
                  · skip
                    have t9n0 : (x4 == 0) = false := by first | omega | (simp; omega) | simpa using t9
                    have e0 : B = false := by
                      rw [← HH.out]
                      simp [codOk]
                      try omega
                    subst e0
                    clear HH
                    go_enter Tryz.func89, Tryz.ntmps89
                    go_wp2_with (first | (go_at_call 108; go_in) | (go_at_call 107; go_in) | (go_at_call 27; go_in))
                    go_ret
                    exact ⟨rfl, (HB _).out⟩
                · skip
                  have t8n0 : decide (x4 ≤ 1000000000) = false := by first | omega | (simp; omega) | simpa using t8
                  have t8n1 : 1000000000 < x4 := by first | omega | (simp; omega) | simpa using t8
                  have e0 : B = false := by
                    rw [← HH.out]
                    simp [codOk]
                    try omega
                  subst e0
                  clear HH
                  go_enter Tryz.func89, Tryz.ntmps89
                  go_wp2_with (first | (go_at_call 108; go_in) | (go_at_call 107; go_in) | (go_at_call 27; go_in))
                  go_ret
                  exact ⟨rfl, (HB _).out⟩
              · skip
                have t7n0 : decide (0 ≤ x4) = false := by first | omega | (simp; omega) | simpa using t7
                have t7n1 : x4 < 0 := by first | omega | (simp; omega) | simpa using t7
                have e0 : B = false := by
                  rw [← HH.out]
                  simp [codOk]
                  try omega
                subst e0
                clear HH
                go_enter Tryz.func89, Tryz.ntmps89
                go_wp2_with (first | (go_at_call 108; go_in) | (go_at_call 107; go_in) | (go_at_call 27; go_in))
                go_ret
                exact ⟨rfl, (HB _).out⟩
            · skip
              have t6n0 : decide (x2 ≤ 1000000000) = false := by first | omega | (simp; omega) | simpa using t6
              have t6n1 : 1000000000 < x2 := by first | omega | (simp; omega) | simpa using t6
              have e0 : B = false := by
                rw [← HH.out]
                simp [codOk]
                try omega
              subst e0
              clear HH
              go_enter Tryz.func89, Tryz.ntmps89
              go_wp2_with (first | (go_at_call 108; go_in) | (go_at_call 107; go_in) | (go_at_call 27; go_in))
              go_ret
              exact ⟨rfl, (HB _).out⟩
          · skip
            have t5n0 : decide (0 ≤ x2) = false := by first | omega | (simp; omega) | simpa using t5
            have t5n1 : x2 < 0 := by first | omega | (simp; omega) | simpa using t5
            have e0 : B = false := by
              rw [← HH.out]
              simp [codOk]
              try omega
            subst e0
            clear HH
            go_enter Tryz.func89, Tryz.ntmps89
            go_wp2_with (first | (go_at_call 108; go_in) | (go_at_call 107; go_in) | (go_at_call 27; go_in))
            go_ret
            exact ⟨rfl, (HB _).out⟩
        · skip
          have t4n0 : decide (x1 ≤ 100000) = false := by first | omega | (simp; omega) | simpa using t4
          have t4n1 : 100000 < x1 := by first | omega | (simp; omega) | simpa using t4
          have e0 : B = false := by
            rw [← HH.out]
            simp [codOk]
            try omega
          subst e0
          clear HH
          go_enter Tryz.func89, Tryz.ntmps89
          go_wp2_with (first | (go_at_call 108; go_in) | (go_at_call 107; go_in) | (go_at_call 27; go_in))
          go_ret
          exact ⟨rfl, (HB _).out⟩
      · skip
        have t3n0 : decide (1 ≤ x1) = false := by first | omega | (simp; omega) | simpa using t3
        have t3n1 : x1 < 1 := by first | omega | (simp; omega) | simpa using t3
        have e0 : B = false := by
          rw [← HH.out]
          simp [codOk]
          try omega
        subst e0
        clear HH
        go_enter Tryz.func89, Tryz.ntmps89
        go_wp2_with (first | (go_at_call 108; go_in) | (go_at_call 107; go_in) | (go_at_call 27; go_in))
        go_ret
        exact ⟨rfl, (HB _).out⟩
    · skip
      have t2n0 : decide (x0 ≤ 100000) = false := by first | omega | (simp; omega) | simpa using t2
      have t2n1 : 100000 < x0 := by first | omega | (simp; omega) | simpa using t2
      have e0 : B = false := by
        rw [← HH.out]
        simp [codOk]
        try omega
      subst e0
      clear HH
      go_enter Tryz.func89, Tryz.ntmps89
      go_wp2_with (first | (go_at_call 108; go_in) | (go_at_call 107; go_in) | (go_at_call 27; go_in))
      go_ret
      exact ⟨rfl, (HB _).out⟩
  · skip
    have t1n0 : decide (0 ≤ x0) = false := by first | omega | (simp; omega) | simpa using t1
    have t1n1 : x0 < 0 := by first | omega | (simp; omega) | simpa using t1
    have e0 : B = false := by
      rw [← HH.out]
      simp [codOk]
      try omega
    subst e0
    clear HH
    go_enter Tryz.func89, Tryz.ntmps89
    go_wp2_with (first | (go_at_call 108; go_in) | (go_at_call 107; go_in) | (go_at_call 27; go_in))
    go_ret
    exact ⟨rfl, (HB _).out⟩

theorem impl_codelok (x0 x1 x2 : Int) (x3 : Bool) (x4 x5 : Int) (w : World) : Calls Tryz.prog 89 #[.agg #[.int .i64 x0, .int .i64 x1, .int .i64 x2, .bool x3, .int .i64 x4, .int .i64 x5]] w fun e w' => e = .returned (.bool (codOk ⟨x0, x1, x2, x3, x4, x5⟩)) ∧ Below w.heap.size w w' := by
  cases x3
  · exact impl_codelok_false x0 x1 x2 x4 x5 w
  · exact impl_codelok_true x0 x1 x2 x4 x5 w
end Go.Proofs.YtnabnghjejncpaaGreat.CodOkI
end

section
namespace Go.Proofs.YtnabnghjejncpaaGreat.CodMath
open Go.RowKit CodKit
set_option linter.unusedVariables false
set_option linter.unusedSimpArgs false

/-- Looks one behind the other, as long as one is dropped: what it is then, and how many went. -/
def looks (now : Int) : Cod → List Int → Cod × Nat
  | s, [] => ((see s now (-1)).1, 0)
  | s, w :: ws => if (see s now w).2 = true then ((looks now (see s now w).1 ws).1, (looks now (see s now w).1 ws).2 + 1) else ((see s now w).1, 0)
end Go.Proofs.YtnabnghjejncpaaGreat.CodMath
end

section
namespace Go.Proofs.YtnabnghjejncpaaGreat.CodOnly
open Go.RowKit ListKit HoldKit

/-- All that w holds lies so in w' too, but for block N. -/
structure Only (N : Nat) (w w' : World) : Prop where
  os : w'.os = w.os
  tape : w'.tape = w.tape
  output : w'.output = w.output
  size : w.heap.size ≤ w'.heap.size
  block : ∀ b, b < w.heap.size → b ≠ N → w'.heap[b]? = w.heap[b]?
theorem Only.refl (N : Nat) (w : World) : Only N w w := ⟨rfl, rfl, rfl, Nat.le_refl _, fun _ _ _ => rfl⟩
theorem Only.trans {N : Nat} {a b c : World} (h : Only N a b) (k : Only N b c) : Only N a c :=
  ⟨k.os.trans h.os, k.tape.trans h.tape, k.output.trans h.output, Nat.le_trans h.size k.size, fun i hi hn => (k.block i (Nat.lt_of_lt_of_le hi h.size) hn).trans (h.block i hi hn)⟩
theorem Only.of_below {N : Nat} {w w' : World} (h : Below w.heap.size w w') : Only N w w' := ⟨h.os, h.tape, h.output, h.size, fun b hb _ => h.block b hb⟩
theorem Only.set {N : Nat} {a w : World} (h : Only N a w) (i : Nat) (v : Value) : Only N a (w.setCell ⟨N, i, none⟩ v) := by
  have h0 := (Below.refl 0 w).setCell (p := ⟨N, i, none⟩) (Nat.zero_le _) v
  exact h.trans ⟨h0.os, h0.tape, h0.output, h0.size, fun b _ hn => Below.heap_setCell w ⟨N, i, none⟩ v b hn⟩
theorem Only.drew {N : Nat} {a w : World} (h : Only N a w) : Only N a w.drew := h.trans ⟨rfl, rfl, rfl, Nat.le_refl _, fun _ _ _ => rfl⟩
theorem Only.alloc {N : Nat} {a w : World} (h : Only N a w) (o : Obj) : Only N a (w.alloc o) := h.trans (Only.of_below (n1 w o))
theorem Only.below {N L : Nat} {a w w' : World} (h : Below L a w) (ho : Only N w w') (hL : L ≤ N) (hs : L ≤ w.heap.size) : Below L a w' :=
  ⟨ho.os.trans h.os, ho.tape.trans h.tape, ho.output.trans h.output, Nat.le_trans h.size ho.size, fun b hb => (ho.block b (by omega) (by omega)).trans (h.block b hb)⟩
/-- What turns block N alone turns nothing, where N is new. -/
theorem Only.bel {N : Nat} {W w w' : World} (h : Bel W w) (ho : Only N w w') (hN : W.heap.size ≤ N) : Bel W w' := Only.below h ho hN h.size
theorem Only.wide {N M : Nat} {a w w' : World} (h : Only N a w) (ho : Only M w w') (hM : a.heap.size ≤ M) : Only N a w' :=
  ⟨ho.os.trans h.os, ho.tape.trans h.tape, ho.output.trans h.output, Nat.le_trans h.size ho.size, fun b hb hn => (ho.block b (Nat.lt_of_lt_of_le hb h.size) (by omega)).trans (h.block b hb hn)⟩
end Go.Proofs.YtnabnghjejncpaaGreat.CodOnly
end

section
namespace Go.Proofs.YtnabnghjejncpaaGreat.CodSeeI
open Go.RowKit ListKit HoldKit CodKit CodOkI CodMath CodOnly
open CodSeeS (newOk)
set_option maxRecDepth 8000
set_option linter.unusedVariables false
set_option linter.unusedSimpArgs false

set_option maxHeartbeats 1000000 in
theorem impl_codelnew (t v : Int) (w : World) : Calls Tryz.prog 56 #[.int .i64 t, .int .i64 v] w fun e w' => e = .returned (.tuple #[agg (if newOk t v = true then ⟨t, v, 0, false, 0, 0⟩ else zero), .bool (newOk t v)]) ∧ Below w.heap.size w w' := by
  have hC := fun (W : World) => impl_codelok t v 0 false 0 0 W
  obtain ⟨B, hB⟩ : ∃ B, newOk t v = B := ⟨_, rfl⟩
  have hB2 : codOk ⟨t, v, 0, false, 0, 0⟩ = B := hB
  rw [hB]
  rw [hB2] at hC
  clear hB hB2
  cases B
  · go_enter Tryz.func56, Tryz.ntmps56
    go_wp2_with (go_at_call 89; refine (hC _).mono ?_; rintro e' w1 ⟨rfl, hb⟩; have H1 : Hid (Bel w w1 ∧ boxB w1 w.heap.size #[.int .i64 0, .int .i64 0, .int .i64 0, .bool false, .int .i64 0, .int .i64 0] 106 ∧ boxB w1 (w.heap.size + 1) #[.int .i64 t, .int .i64 v, .int .i64 0, .bool false, .int .i64 0, .int .i64 0] 106) := ⟨Bel.below (n2 w _ _) hb, ((boxB.new w #[.int .i64 0, .int .i64 0, .int .i64 0, .bool false, .int .i64 0, .int .i64 0] 106).below (n1 _ _)).below hb, (new2 w _ _ _).below hb⟩; have c0 := H1.out.2.1.cell 0; have z0 := fzB H1.out.2.1 0; have d0 := H1.out.2.2.cell 0; have c1 := H1.out.2.1.cell 1; have z1 := fzB H1.out.2.1 1; have d1 := H1.out.2.2.cell 1; have c2 := H1.out.2.1.cell 2; have z2 := fzB H1.out.2.1 2; have d2 := H1.out.2.2.cell 2; have c3 := H1.out.2.1.cell 3; have z3 := fzB H1.out.2.1 3; have d3 := H1.out.2.2.cell 3; have c4 := H1.out.2.1.cell 4; have z4 := fzB H1.out.2.1 4; have d4 := H1.out.2.2.cell 4; have c5 := H1.out.2.1.cell 5; have z5 := fzB H1.out.2.1 5; have d5 := H1.out.2.2.cell 5; clear hb hC)
    exact bodyPost_ret (v := .tuple #[.agg #[.int .i64 0, .int .i64 0, .int .i64 0, .bool false, .int .i64 0, .int .i64 0], .bool false]) (by simp [results, Tryz.results56, go_sem, c0, z0, c1, z1, c2, z2, c3, z3, c4, z4, c5, z5]) rfl ⟨rfl, (Below.setCell (Below.setCell (Below.setCell (Below.setCell (Below.setCell (Below.setCell H1.out.1.out (by exact Nat.le_refl _) _) (by exact Nat.le_refl _) _) (by exact Nat.le_refl _) _) (by exact Nat.le_refl _) _) (by exact Nat.le_refl _) _) (by exact Nat.le_refl _) _)⟩
  · go_enter Tryz.func56, Tryz.ntmps56
    go_wp2_with (go_at_call 89; refine (hC _).mono ?_; rintro e' w1 ⟨rfl, hb⟩; have H1 : Hid (Bel w w1 ∧ boxB w1 w.heap.size #[.int .i64 0, .int .i64 0, .int .i64 0, .bool false, .int .i64 0, .int .i64 0] 106 ∧ boxB w1 (w.heap.size + 1) #[.int .i64 t, .int .i64 v, .int .i64 0, .bool false, .int .i64 0, .int .i64 0] 106) := ⟨Bel.below (n2 w _ _) hb, ((boxB.new w #[.int .i64 0, .int .i64 0, .int .i64 0, .bool false, .int .i64 0, .int .i64 0] 106).below (n1 _ _)).below hb, (new2 w _ _ _).below hb⟩; have c0 := H1.out.2.1.cell 0; have z0 := fzB H1.out.2.1 0; have d0 := H1.out.2.2.cell 0; have c1 := H1.out.2.1.cell 1; have z1 := fzB H1.out.2.1 1; have d1 := H1.out.2.2.cell 1; have c2 := H1.out.2.1.cell 2; have z2 := fzB H1.out.2.1 2; have d2 := H1.out.2.2.cell 2; have c3 := H1.out.2.1.cell 3; have z3 := fzB H1.out.2.1 3; have d3 := H1.out.2.2.cell 3; have c4 := H1.out.2.1.cell 4; have z4 := fzB H1.out.2.1 4; have d4 := H1.out.2.2.cell 4; have c5 := H1.out.2.1.cell 5; have z5 := fzB H1.out.2.1 5; have d5 := H1.out.2.2.cell 5; clear hb hC)
    exact bodyPost_ret (v := .tuple #[.agg #[.int .i64 t, .int .i64 v, .int .i64 0, .bool false, .int .i64 0, .int .i64 0], .bool true]) (by simp [results, Tryz.results56, go_sem, c0, z0, c1, z1, c2, z2, c3, z3, c4, z4, c5, z5]) rfl ⟨rfl, (Below.setCell (Below.setCell (Below.setCell (Below.setCell (Below.setCell (Below.setCell H1.out.1.out (by exact Nat.le_refl _) _) (by exact Nat.le_refl _) _) (by exact Nat.le_refl _) _) (by exact Nat.le_refl _) _) (by exact Nat.le_refl _) _) (by exact Nat.le_refl _) _)⟩
end Go.Proofs.YtnabnghjejncpaaGreat.CodSeeI
end
