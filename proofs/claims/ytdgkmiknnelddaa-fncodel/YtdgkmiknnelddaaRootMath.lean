/- Plain facts on square roots of whole numbers: that there is one at most, and what one halving of a range keeps; no condition but those written in each. -/
import Derived.WalkKit
namespace Go.Proofs.Ytdgkmiknnelddaa.RootMath

theorem sq_le {a b : Int} (ha : 0 ≤ a) (h : a ≤ b) : a * a ≤ b * b :=
  Int.mul_le_mul h h ha (by omega)

/-- Two roots of one number are one. -/
theorem root_unique {n r s : Int} (hr0 : 0 ≤ r) (hs0 : 0 ≤ s) (h1 : r * r ≤ n) (h2 : n < (r + 1) * (r + 1)) (h3 : s * s ≤ n) (h4 : n < (s + 1) * (s + 1)) : r = s := by
  rcases Int.lt_trichotomy r s with h | h | h
  · have := sq_le (a := r + 1) (b := s) (by omega) (by omega); omega
  · exact h
  · have := sq_le (a := s + 1) (b := r) (by omega) (by omega); omega

/-- What a root is: the greatest whose square is at most n. -/
def isRoot (n r : Int) : Prop := 0 ≤ r ∧ r ≤ 3037000499 ∧ r * r ≤ n ∧ n < (r + 1) * (r + 1)

theorem isRoot_unique {n r s : Int} (h : isRoot n r) (k : isRoot n s) : r = s :=
  root_unique h.1 k.1 h.2.2.1 h.2.2.2 k.2.2.1 k.2.2.2

theorem sq_max {a : Int} (ha : 0 ≤ a) (h : a ≤ 3037000499) : 0 ≤ a * a ∧ a * a ≤ 9223372030926249001 := by
  have h1 := sq_le ha h
  have h2 : 0 ≤ a * a := Int.mul_nonneg ha ha
  omega

/-- How wide a range may still be behind k halvings of 32. -/
def pw (k : Nat) : Int := 2 ^ (32 - k)
theorem pw_start : pw 0 = 4294967296 := by decide
theorem pw_end : pw 32 = 1 := by decide
theorem pw_half {k : Nat} (h : k < 32) : pw k = 2 * pw (k + 1) := by
  unfold pw
  rw [show 32 - k = (32 - (k + 1)) + 1 from by omega, Int.pow_succ]
  omega

end Go.Proofs.Ytdgkmiknnelddaa.RootMath
