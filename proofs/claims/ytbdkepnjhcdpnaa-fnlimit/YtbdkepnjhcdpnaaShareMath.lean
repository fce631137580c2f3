/- Plain facts on shares: what n a / b is, bit by bit of n, and where it passes the greatest number; no condition but those written in each. -/
import Derived.WalkKit
namespace Go.Proofs.Ytbdkepnjhcdpnaa.ShareMath

/-- n a / b, the greatest number where that is above it. -/
def share (n a b : Nat) : Nat := if n * a / b ≤ 9223372036854775807 then n * a / b else 9223372036854775807

theorem share_le (n a b : Nat) : share n a b ≤ 9223372036854775807 := by unfold share; split <;> omega

theorem share_zero (a b : Nat) : share 0 a b = 0 := by unfold share; simp

/-- One bit more of n. -/
theorem quo_bit {m a b e : Nat} (hb : 0 < b) : (2 * m + e) * a / b = 2 * (m * a / b) + (2 * (m * a % b) + e * a) / b ∧ (2 * m + e) * a % b = (2 * (m * a % b) + e * a) % b := by
  have h := Nat.div_add_mod (m * a) b
  generalize m * a / b = Q at *
  generalize m * a % b = R at *
  have e1 : (2 * m + e) * a = b * (2 * Q) + (2 * R + e * a) := by
    rw [Nat.add_mul, Nat.mul_assoc, ← h, Nat.mul_add, Nat.mul_left_comm]
    omega
  rw [e1]
  constructor
  · rw [Nat.mul_add_div hb]
  · rw [Nat.mul_add_mod]

/-- Where the half is above the half of the greatest number, the whole is above the greatest. -/
theorem share_high {m a b n : Nat} (hb : 0 < b) (h : 4611686018427387903 < share m a b) (hn : 2 * m ≤ n) : share n a b = 9223372036854775807 := by
  have h1 : 4611686018427387904 ≤ m * a / b := by
    unfold share at h
    split at h
    · omega
    · omega
  have h2 : 2 * (m * a / b) ≤ n * a / b := by
    rw [Nat.le_div_iff_mul_le hb]
    have h3 : m * a / b * b ≤ m * a := Nat.div_mul_le_self _ _
    have h4 : 2 * m * a ≤ n * a := Nat.mul_le_mul_right _ hn
    rw [Nat.mul_assoc] at h4 ⊢
    omega
  unfold share
  rw [if_neg (by omega)]

/-- A sum with an end, of two numbers that are not below 0. -/
def sumEnd (x y : Int) : Int := if x + y ≤ 9223372036854775807 then x + y else 9223372036854775807

theorem half_bit (n j : Nat) : n / 2 ^ j = 2 * (n / 2 ^ (j + 1)) + n / 2 ^ j % 2 := by
  rw [Nat.pow_succ, ← Nat.div_div_eq_div_mul]
  omega

/-- What one round of the model's loop makes of the quotient and of the rest. -/
theorem share_round {n a b j S R e : Nat} (hb : 0 < b) (hS : S = share (n / 2 ^ (j + 1)) a b) (hR : R = n / 2 ^ (j + 1) * a % b) (hle : S ≤ 4611686018427387903) (he : n / 2 ^ j % 2 = e) :
    sumEnd (2 * (S : Int)) (((2 * R + e * a) / b : Nat) : Int) = (share (n / 2 ^ j) a b : Int) ∧ (2 * R + e * a) % b = n / 2 ^ j * a % b := by
  have h1 := half_bit n j
  rw [he] at h1
  have h2 := quo_bit (m := n / 2 ^ (j + 1)) (a := a) (b := b) (e := e) hb
  rw [← h1, ← hR] at h2
  refine ⟨?_, h2.2.symm⟩
  have h3 : S = n / 2 ^ (j + 1) * a / b := by
    unfold share at hS
    split at hS
    · exact hS
    · omega
  rw [← h3] at h2
  unfold share sumEnd
  rw [h2.1]
  generalize (2 * R + e * a) / b = X
  by_cases hx : 2 * S + X ≤ 9223372036854775807
  · rw [if_pos (by omega), if_pos hx]; omega
  · rw [if_neg (by omega), if_neg hx]; omega

theorem share_round1 {n a b j S R : Nat} (hb : 0 < b) (hS : S = share (n / 2 ^ (j + 1)) a b) (hR : R = n / 2 ^ (j + 1) * a % b) (hle : S ≤ 4611686018427387903) (he : n / 2 ^ j % 2 = 1) :
    sumEnd (2 * (S : Int)) ((2 * (R : Int) + (a : Int)) / (b : Int)) = (share (n / 2 ^ j) a b : Int) ∧ (2 * (R : Int) + (a : Int)) % (b : Int) = ((n / 2 ^ j * a % b : Nat) : Int) := by
  obtain ⟨h1, h2⟩ := share_round hb hS hR hle he
  rw [← h1, ← h2, Nat.one_mul, Int.natCast_ediv, Int.natCast_emod, Int.natCast_add, Int.natCast_mul]
  exact ⟨rfl, rfl⟩

theorem share_round0 {n a b j S R : Nat} (hb : 0 < b) (hS : S = share (n / 2 ^ (j + 1)) a b) (hR : R = n / 2 ^ (j + 1) * a % b) (hle : S ≤ 4611686018427387903) (he : n / 2 ^ j % 2 = 0) :
    sumEnd (2 * (S : Int)) ((2 * (R : Int)) / (b : Int)) = (share (n / 2 ^ j) a b : Int) ∧ (2 * (R : Int)) % (b : Int) = ((n / 2 ^ j * a % b : Nat) : Int) := by
  obtain ⟨h1, h2⟩ := share_round hb hS hR hle he
  rw [← h1, ← h2, Nat.zero_mul, Nat.add_zero, Int.natCast_ediv, Int.natCast_emod, Int.natCast_mul]
  exact ⟨rfl, rfl⟩

theorem share_start {n a b : Nat} (hn : n ≤ 1000000000000) : 0 = share (n / 2 ^ 40) a b ∧ 0 = n / 2 ^ 40 * a % b := by
  have : n / 2 ^ 40 = 0 := Nat.div_eq_of_lt (by omega)
  rw [this, share_zero]
  simp

theorem pow39 {i : Nat} (h : i ≤ 39) : 1 ≤ 2 ^ i ∧ 2 ^ i ≤ 549755813888 :=
  ⟨Nat.two_pow_pos i, Nat.pow_le_pow_right (by omega) h⟩

/-- Where the high word is not below b, the share is above the greatest number. -/
theorem share_over {n a b : Nat} (hb : 0 < b) (h : b ≤ n * a / 18446744073709551616) : share n a b = 9223372036854775807 := by
  have h1 : 18446744073709551616 ≤ n * a / b := by
    rw [Nat.le_div_iff_mul_le hb]
    have h2 : n * a / 18446744073709551616 * 18446744073709551616 ≤ n * a := Nat.div_mul_le_self _ _
    generalize n * a / 18446744073709551616 = H at *
    omega
  unfold share
  rw [if_neg (by omega)]

theorem words (P b : Nat) : (P / 18446744073709551616 * 18446744073709551616 + P % 18446744073709551616) / b = P / b := by
  have : P / 18446744073709551616 * 18446744073709551616 + P % 18446744073709551616 = P := by omega
  rw [this]

end Go.Proofs.Ytbdkepnjhcdpnaa.ShareMath
