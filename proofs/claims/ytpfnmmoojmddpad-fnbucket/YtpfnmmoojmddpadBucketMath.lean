/- What a bucket holds, over numbers alone: filled up to a time, a token taken, the time of the next one; no condition but those written in each. -/
import Derived.Test.YtpfnmmoojmddpadRows
namespace Go.Proofs.Ytpfnmmoojmddpad.BucketMath

/-- A bucket is right. -/
def bOk (b r h t : Int) : Prop := 0 ≤ b ∧ b ≤ 1000 ∧ 0 ≤ r ∧ r ≤ 1000000 ∧ 0 ≤ h ∧ h ≤ 1000 * b ∧ 0 ≤ t ∧ t ≤ 1000000000
def isT (n : Int) : Prop := 0 ≤ n ∧ n ≤ 1000000000

/-- What it holds and its time, filled up to now. -/
def fillH (b r h t now : Int) : Int := if t < now then (if 1000 * b < h + r * (now - t) then 1000 * b else h + r * (now - t)) else h
def fillT (t now : Int) : Int := if t < now then now else t

theorem come_le {r t now : Int} (h0 : 0 ≤ r) (h1 : r ≤ 1000000) (h2 : 0 ≤ now - t) (h3 : now - t ≤ 1000000000) : 0 ≤ r * (now - t) ∧ r * (now - t) ≤ 1000000000000000 := by
  have a1 : 0 ≤ r * (now - t) := Int.mul_nonneg h0 h2
  have a2 : r * (now - t) ≤ 1000000 * (now - t) := Int.mul_le_mul_of_nonneg_right h1 h2
  omega

theorem fill_ok {b r h t now : Int} (hb : bOk b r h t) (hn : isT now) : bOk b r (fillH b r h t now) (fillT t now) ∧ now ≤ fillT t now := by
  unfold bOk isT at *
  unfold fillH fillT
  by_cases hlt : t < now
  · have := come_le (r := r) (t := t) (now := now) (by omega) (by omega) (by omega) (by omega)
    rw [if_pos hlt, if_pos hlt]
    split <;> omega
  · rw [if_neg hlt, if_neg hlt]
    omega

/-- The time of the next token, where it lacks one. -/
def nextAt (r F T : Int) : Int := T + (1000 - F + r - 1).tdiv r
def whenOf (b r h t now : Int) : Int := if b < 1 then -1 else if 1000 ≤ fillH b r h t now then fillT t now else if r = 0 then -1 else if 1000000000 < nextAt r (fillH b r h t now) (fillT t now) then -1 else nextAt r (fillH b r h t now) (fillT t now)

theorem next_le {r F : Int} (h0 : 0 < r) (h1 : r ≤ 1000000) (h2 : 0 ≤ F) (h3 : F < 1000) : 0 ≤ (1000 - F + r - 1).tdiv r ∧ (1000 - F + r - 1).tdiv r ≤ 1000 := by
  rw [Int.tdiv_eq_ediv_of_nonneg (by omega)]
  refine ⟨Int.ediv_nonneg (by omega) (by omega), ?_⟩
  have h6 : (1000 - F + r - 1) / r < 1001 := by
    rw [Int.ediv_lt_iff_lt_mul h0]
    have h7 : 1 * (1000 : Int) ≤ r * 1000 := Int.mul_le_mul_of_nonneg_right (by omega) (by omega)
    omega
  omega
end Go.Proofs.Ytpfnmmoojmddpad.BucketMath
