/- Plain facts on dividing a number of two words by one word, digit by digit (the school method with half words); no condition but those written in each. -/
import Derived.WalkKit
import Derived.Lib.ItoaNum
import Derived.Laws.Bits64b
namespace Go.Proofs.Ytbdkepnjhcdpnaa.DivMath
open Go.RowKit Go.Lib

/-- The digit that is looked for. -/
def digit (u Y d : Nat) : Nat := (u * 4294967296 + d) / Y

/-- What the search for a digit keeps: the guess and its rest make up u, and the guess is never below the digit. -/
def Inv (u Y y1 d q r : Nat) : Prop := u = q * y1 + r ∧ digit u Y d ≤ q

theorem digit_lt {u Y d : Nat} (hu : u < Y) (hd : d < 4294967296) : digit u Y d < 4294967296 := by
  unfold digit
  rw [Nat.div_lt_iff_lt_mul (by omega)]
  have : (u + 1) * 4294967296 ≤ Y * 4294967296 := Nat.mul_le_mul_right _ hu
  omega

theorem digit_start {u Y y1 y0 d : Nat} (hY : Y = y1 * 4294967296 + y0) (h1 : 2147483648 ≤ y1) (h0 : y0 < 4294967296) (hu : u < Y) (hd : d < 4294967296) :
    Inv u Y y1 d (u / y1) (u % y1) ∧ u / y1 ≤ 4294967297 ∧ u % y1 < y1 := by
  have hm := Nat.div_add_mod u y1
  have hr : u % y1 < y1 := Nat.mod_lt _ (by omega)
  generalize u / y1 = q at *
  generalize u % y1 = r at *
  have hc : y1 * q = q * y1 := Nat.mul_comm _ _
  refine ⟨⟨by omega, ?_⟩, ?_, hr⟩
  · unfold digit
    have h2 : u * 4294967296 + d < (q + 1) * Y := by
      have h3 : (q + 1) * (y1 * 4294967296) ≤ (q + 1) * Y := Nat.mul_le_mul_left _ (by omega)
      have h4 : (q + 1) * (y1 * 4294967296) = (q * y1) * 4294967296 + y1 * 4294967296 := by
        rw [Nat.add_mul, ← Nat.mul_assoc]; omega
      omega
    exact Nat.le_of_lt_succ ((Nat.div_lt_iff_lt_mul (by omega)).2 h2)
  · rcases Nat.lt_or_ge 4294967297 q with h | h
    · have h3 : 4294967298 * y1 ≤ q * y1 := Nat.mul_le_mul_right _ h
      omega
    · exact h

theorem mulY {q Y y1 y0 : Nat} (hY : Y = y1 * 4294967296 + y0) : q * Y = (q * y1) * 4294967296 + q * y0 := by
  rw [hY, Nat.mul_add, ← Nat.mul_assoc]

theorem digit_step {u Y y1 y0 d q r : Nat} (hY : Y = y1 * 4294967296 + y0) (hu : u < Y) (hd : d < 4294967296) (h : Inv u Y y1 d q r)
    (ht : 4294967296 ≤ q ∨ 4294967296 * r + d < q * y0) : digit u Y d < q := by
  rcases ht with ht | ht
  · exact Nat.lt_of_lt_of_le (digit_lt hu hd) ht
  · unfold digit
    rw [Nat.div_lt_iff_lt_mul (by omega)]
    have h1 := mulY (q := q) hY
    have h2 := h.1
    omega

theorem digit_stop {u Y y1 y0 d q r : Nat} (hY : Y = y1 * 4294967296 + y0) (hp : 0 < Y) (h : Inv u Y y1 d q r) (ht : q * y0 ≤ 4294967296 * r + d) : q = digit u Y d := by
  refine Nat.le_antisymm ?_ h.2
  unfold digit
  rw [Nat.le_div_iff_mul_le hp]
  have h1 := mulY (q := q) hY
  have h2 := h.1
  omega

theorem digit_break {u Y y1 y0 d q r : Nat} (hY : Y = y1 * 4294967296 + y0) (hp : 0 < Y) (h0 : y0 < 4294967296) (h : Inv u Y y1 d q r) (hq : q ≤ 4294967296) (hr : 4294967296 ≤ r) : q = digit u Y d := by
  refine digit_stop hY hp h ?_
  have h1 : q * y0 ≤ 4294967296 * y0 := Nat.mul_le_mul_right _ hq
  omega

theorem inv_next {u Y y1 d q r : Nat} (h : Inv u Y y1 d (q + 1) r) (hq : digit u Y d < q + 1) : Inv u Y y1 d q (r + y1) := by
  refine ⟨?_, by omega⟩
  have h1 := h.1
  rw [Nat.add_mul] at h1
  omega

/-- What is left behind a digit. -/
theorem rest_lt {u Y d : Nat} (hp : 0 < Y) : ∃ t, u * 4294967296 + d = digit u Y d * Y + t ∧ t < Y := by
  refine ⟨(u * 4294967296 + d) % Y, ?_, Nat.mod_lt _ hp⟩
  unfold digit
  have := Nat.div_add_mod (u * 4294967296 + d) Y
  rw [Nat.mul_comm] at this
  omega

theorem two_gen (B Y q t v0 p r : Nat) (hp : 0 < Y) (h2 : t * B + v0 = p * Y + r) (hr : r < Y) : ((q * Y + t) * B + v0) / Y = q * B + p := by
  have e : (q * Y + t) * B + v0 = Y * (q * B + p) + r := by
    rw [Nat.add_mul, Nat.add_assoc, h2, Nat.mul_add, Nat.mul_comm q Y, Nat.mul_assoc, Nat.mul_comm p Y, Nat.add_assoc]
  rw [e, Nat.mul_add_div hp, Nat.div_eq_of_lt hr, Nat.add_zero]

/-- Two digits are the quotient. -/
theorem two_digits {u Y v1 v0 t : Nat} (hp : 0 < Y) (h1 : u * 4294967296 + v1 = digit u Y v1 * Y + t) :
    ((u * 4294967296 + v1) * 4294967296 + v0) / Y = digit u Y v1 * 4294967296 + digit t Y v0 := by
  obtain ⟨r, h2, hr⟩ := rest_lt (u := t) (Y := Y) (d := v0) hp
  have h3 := two_gen 4294967296 Y (digit u Y v1) t v0 (digit t Y v0) r hp h2 hr
  rw [← h1] at h3
  exact h3

/-- Shifted so far that the highest bit is set. -/
theorem norm {y : Nat} (hy : 0 < y) (hyb : y < 18446744073709551616) : ∃ s : Nat, (64 : Int) - (Lib.bitLen y : Int) = (s : Int) ∧ s ≤ 63 ∧ 9223372036854775808 ≤ y * 2 ^ s ∧ y * 2 ^ s < 18446744073709551616 := by
  obtain ⟨b1, b2, b3⟩ := bitLenAux_bounds 64 y hyb (by omega)
  have b4 : bitLenAux 64 y ≤ 64 := Lib.bitLen_le y 64 (by omega) hyb
  unfold Lib.bitLen
  generalize bitLenAux 64 y = b at *
  refine ⟨64 - b, by omega, by omega, ?_, ?_⟩
  · have : 2 ^ (b - 1) * 2 ^ (64 - b) ≤ y * 2 ^ (64 - b) := Nat.mul_le_mul_right _ b2
    rw [← Nat.pow_add, show b - 1 + (64 - b) = 63 from by omega] at this
    simpa using this
  · have : y * 2 ^ (64 - b) < 2 ^ b * 2 ^ (64 - b) := Nat.mul_lt_mul_of_pos_right b3 (Nat.two_pow_pos _)
    rw [← Nat.pow_add, show b + (64 - b) = 64 from by omega] at this
    simpa using this

/-- The two words of the number that is divided, shifted. -/
theorem shifted {hi lo y s : Nat} (hs : s ≤ 63) (hh : hi < y) (hlo : lo < 18446744073709551616) :
    (hi * 18446744073709551616 + lo) * 2 ^ s = (hi * 2 ^ s + lo / 2 ^ (64 - s)) * 18446744073709551616 + lo * 2 ^ s % 18446744073709551616
    ∧ lo / 2 ^ (64 - s) < 2 ^ s ∧ hi * 2 ^ s + lo / 2 ^ (64 - s) < y * 2 ^ s := by
  have e64 : (18446744073709551616 : Nat) = 2 ^ (64 - s) * 2 ^ s := by rw [← Nat.pow_add, show 64 - s + s = 64 from by omega]
  have hp : 0 < 2 ^ s := Nat.two_pow_pos _
  have hp2 : 0 < 2 ^ (64 - s) := Nat.two_pow_pos _
  have hd : lo * 2 ^ s / 18446744073709551616 = lo / 2 ^ (64 - s) := by
    rw [e64, Nat.mul_div_mul_right _ _ hp]
  have hlt : lo / 2 ^ (64 - s) < 2 ^ s := by
    rw [Nat.div_lt_iff_lt_mul hp2, Nat.mul_comm, ← e64]; exact hlo
  refine ⟨?_, hlt, ?_⟩
  · have := Nat.div_add_mod (lo * 2 ^ s) 18446744073709551616
    rw [hd] at this
    rw [Nat.add_mul, Nat.add_mul, ← this]
    have e1 : hi * 18446744073709551616 * 2 ^ s = hi * 2 ^ s * 18446744073709551616 := by rw [Nat.mul_right_comm]
    rw [e1]
    omega
  · have : (hi + 1) * 2 ^ s ≤ y * 2 ^ s := Nat.mul_le_mul_right _ hh
    rw [Nat.add_mul] at this
    omega

end Go.Proofs.Ytbdkepnjhcdpnaa.DivMath
