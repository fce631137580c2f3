/- What a queue that may be slow is, and what its functions answer, as whole numbers; no condition. -/
import Derived.Test.YtdgkmiknnelddaaRows
import Derived.WalkKit
import Derived.Test.YtdgkmiknnelddaaRootMath
namespace Go.Proofs.Ytdgkmiknnelddaa.CodKit
open Go.RowKit RootMath
set_option linter.unusedVariables false

/-- The struct Codel. -/
structure Cod where
  x0 : Int
  x1 : Int
  x2 : Int
  x3 : Bool
  x4 : Int
  x5 : Int

def cells (s : Cod) : List Value := [.int .i64 s.x0, .int .i64 s.x1, .int .i64 s.x2, .bool s.x3, .int .i64 s.x4, .int .i64 s.x5]
def agg (s : Cod) : Value := .agg #[.int .i64 s.x0, .int .i64 s.x1, .int .i64 s.x2, .bool s.x3, .int .i64 s.x4, .int .i64 s.x5]
def zero : Cod := ⟨0, 0, 0, false, 0, 0⟩
/-- It is right. -/
def codOk (s : Cod) : Bool := decide (0 ≤ s.x0 ∧ s.x0 ≤ 100000 ∧ 1 ≤ s.x1 ∧ s.x1 ≤ 100000 ∧ 0 ≤ s.x2 ∧ s.x2 ≤ 1000000000 ∧ 0 ≤ s.x4 ∧ s.x4 ≤ 1000000000 ∧ 0 ≤ s.x5 ∧ s.x5 ≤ 100000) && (if s.x3 = true then decide (1 ≤ s.x5 ∧ 0 < s.x2) else decide (s.x4 = 0 ∧ s.x5 = 0))
/-- The root of a number, counted up to. -/
def rootN : Nat → Nat
  | 0 => 0
  | n + 1 => if (rootN n + 1) * (rootN n + 1) ≤ n + 1 then rootN n + 1 else rootN n
theorem rootN_is : ∀ n, rootN n * rootN n ≤ n ∧ n < (rootN n + 1) * (rootN n + 1)
  | 0 => by simp [rootN]
  | n + 1 => by
    have ih := rootN_is n
    unfold rootN
    by_cases h : (rootN n + 1) * (rootN n + 1) ≤ n + 1
    · rw [if_pos h]
      refine ⟨h, ?_⟩
      have e : (rootN n + 1 + 1) * (rootN n + 1 + 1) = (rootN n + 1) * (rootN n + 1) + 2 * (rootN n + 1) + 1 := by
        generalize rootN n + 1 = a
        rw [Nat.add_mul, Nat.mul_add]; omega
      omega
    · rw [if_neg h]; omega
def rootI (n : Int) : Int := (rootN n.toNat : Int)
theorem rootI_is {n : Int} (h : 0 ≤ n) (hm : n ≤ 9223372036854775807) : isRoot n (rootI n) := by
  obtain ⟨m, rfl⟩ : ∃ m : Nat, n = (m : Int) := ⟨n.toNat, by omega⟩
  have h1 := rootN_is m
  have e : rootI (m : Int) = (rootN m : Int) := by unfold rootI; rw [Int.toNat_natCast]
  rw [e]
  have c1 : ((rootN m * rootN m : Nat) : Int) ≤ (m : Int) := by exact_mod_cast h1.1
  have c2 : ((m : Nat) : Int) < (((rootN m + 1) * (rootN m + 1) : Nat) : Int) := by exact_mod_cast h1.2
  rw [Int.natCast_mul] at c1 c2
  refine ⟨by omega, ?_, c1, by simpa using c2⟩
  by_cases hb : (rootN m : Int) ≤ 3037000499
  · exact hb
  · have := sq_le (a := 3037000500) (b := (rootN m : Int)) (by omega) (by omega)
    omega
theorem rootI_of {n r : Int} (h : isRoot n r) (hn : 0 ≤ n) (hm : n ≤ 9223372036854775807) : r = rootI n := isRoot_unique h (rootI_is hn hm)
/-- The roots of greater numbers are no less. -/
theorem rootI_up {a b : Int} (h0 : 0 ≤ a) (h : a ≤ b) (hm : b ≤ 9223372036854775807) : rootI a ≤ rootI b := by
  have ha := rootI_is h0 (by omega)
  have hb := rootI_is (n := b) (by omega) hm
  by_cases hc : rootI a ≤ rootI b
  · exact hc
  · have := sq_le (a := rootI b + 1) (b := rootI a) (by have := hb.1; omega) (by omega)
    have := hb.2.2.2; have := ha.2.2.1
    omega
/-- How long until the next one goes. -/
def pace (e c : Int) : Int := if 1 ≤ e ∧ e ≤ 100000 ∧ 1 ≤ c ∧ c ≤ 100000 then (if 1000 * e / rootI (1000000 * c) < 1 then 1 else 1000 * e / rootI (1000000 * c)) else 0
theorem root_ge {c : Int} (h1 : 1 ≤ c) (h2 : c ≤ 100000) : 1000 ≤ rootI (1000000 * c) := by
  have h := rootI_is (n := 1000000 * c) (by omega) (by omega)
  by_cases hc : 1000 ≤ rootI (1000000 * c)
  · exact hc
  · have := sq_le (a := rootI (1000000 * c) + 1) (b := 1000) (by have := h.1; omega) (by omega)
    have := h.2.2.2
    omega
theorem pace_in {e c : Int} (h : 1 ≤ e ∧ e ≤ 100000 ∧ 1 ≤ c ∧ c ≤ 100000) : 1 ≤ pace e c ∧ pace e c ≤ e := by
  have hr := root_ge h.2.2.1 h.2.2.2
  unfold pace
  rw [if_pos h]
  have hle : 1000 * e / rootI (1000000 * c) ≤ e := by
    have h1 : 1000 * e / rootI (1000000 * c) ≤ 1000 * e / 1000 := by
      apply Int.le_ediv_of_mul_le (by omega)
      have h2 := Int.ediv_mul_le (1000 * e) (b := rootI (1000000 * c)) (by omega)
      have h3 : 0 ≤ 1000 * e / rootI (1000000 * c) := Int.ediv_nonneg (by omega) (by omega)
      have h4 : 1000 * e / rootI (1000000 * c) * 1000 ≤ 1000 * e / rootI (1000000 * c) * rootI (1000000 * c) := Int.mul_le_mul_of_nonneg_left hr h3
      omega
    rw [Int.mul_ediv_cancel_left _ (by omega)] at h1
    exact h1
  by_cases hc : 1000 * e / rootI (1000000 * c) < 1
  · rw [if_pos hc]; omega
  · rw [if_neg hc]; omega
theorem pace_eq {e c : Int} (h : 1 ≤ e ∧ e ≤ 100000 ∧ 1 ≤ c ∧ c ≤ 100000) : pace e c = if 1000 * e / rootI (1000000 * c) < 1 then 1 else 1000 * e / rootI (1000000 * c) := by
  unfold pace
  rw [if_pos h]
theorem pace_down {e c : Int} (h : 1 ≤ e ∧ e ≤ 100000 ∧ 1 ≤ c ∧ c + 1 ≤ 100000) : pace e (c + 1) ≤ pace e c := by
  have hr := root_ge h.2.2.1 (by omega)
  have hu := rootI_up (a := 1000000 * c) (b := 1000000 * (c + 1)) (by omega) (by omega) (by omega)
  rw [pace_eq ⟨h.1, h.2.1, by omega, h.2.2.2⟩, pace_eq ⟨h.1, h.2.1, h.2.2.1, by omega⟩]
  have hle : 1000 * e / rootI (1000000 * (c + 1)) ≤ 1000 * e / rootI (1000000 * c) := by
    apply Int.le_ediv_of_mul_le (by omega)
    have h2 := Int.ediv_mul_le (1000 * e) (b := rootI (1000000 * (c + 1))) (by omega)
    have h3 : 0 ≤ 1000 * e / rootI (1000000 * (c + 1)) := Int.ediv_nonneg (by omega) (by omega)
    have h4 := Int.mul_le_mul_of_nonneg_left hu h3
    omega
  by_cases ha : 1000 * e / rootI (1000000 * (c + 1)) < 1 <;> by_cases hb : 1000 * e / rootI (1000000 * c) < 1
  · rw [if_pos ha, if_pos hb]; omega
  · rw [if_pos ha, if_neg hb]; omega
  · omega
  · rw [if_neg ha, if_neg hb]; exact hle
/-- A time and a span behind it. -/
def atime (a b : Int) : Int := if a + b ≤ 1000000000 then a + b else 1000000000
/-- A look is right. -/
def seeOk (s : Cod) (now w : Int) : Bool := codOk s && decide (0 ≤ now ∧ now ≤ 1000000000 ∧ -1 ≤ w ∧ w ≤ 1000000000)
def up1 (n : Int) : Int := if n + 1 ≤ 100000 then n + 1 else 100000
/-- What comes of a look that is right. -/
def see (s : Cod) (now w : Int) : Cod × Bool :=
  if w < 0 ∨ w < s.x0 then (⟨s.x0, s.x1, 0, false, 0, 0⟩, false)
  else if s.x3 = false then (if s.x2 = 0 then (⟨s.x0, s.x1, atime now s.x1, s.x3, s.x4, s.x5⟩, false) else if s.x2 ≤ now then (⟨s.x0, s.x1, s.x2, true, atime now s.x1, 1⟩, true) else (s, false))
  else if s.x4 ≤ now then (⟨s.x0, s.x1, s.x2, s.x3, atime s.x4 (pace s.x1 (up1 s.x5)), up1 s.x5⟩, true) else (s, false)
theorem cells_len (s : Cod) : (cells s).length = 6 := rfl
end Go.Proofs.Ytdgkmiknnelddaa.CodKit
