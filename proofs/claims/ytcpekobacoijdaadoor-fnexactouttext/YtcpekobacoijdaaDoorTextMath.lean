/- Plain facts on decimal texts: what number a text of digits spells, and that the digits of a number are read back as that number; no condition but those written in each. -/
import Derived.WalkKit
import Derived.Lib.ItoaNum
import Derived.Lib.AtoiAll
namespace Go.Proofs.YtcpekobacoijdaaDoor.TextMath
open Go.Lib

/-- What digits spell, behind a number that stands ahead of them. -/
def valFrom (acc : Nat) : List UInt8 → Nat
  | [] => acc
  | c :: r => valFrom (acc * 10 + (c.toNat - 48)) r

def isDig (c : UInt8) : Prop := 48 ≤ c.toNat ∧ c.toNat ≤ 57

theorem valFrom_snoc : ∀ (l : List UInt8) (acc : Nat) (c : UInt8), valFrom acc (l ++ [c]) = valFrom acc l * 10 + (c.toNat - 48)
  | [], _, _ => rfl
  | _ :: r, _, c => valFrom_snoc r _ c

theorem le_valFrom : ∀ (l : List UInt8) (acc : Nat), acc ≤ valFrom acc l
  | [], _ => Nat.le_refl _
  | c :: r, acc => by
    have := le_valFrom r (acc * 10 + (c.toNat - 48))
    show acc ≤ valFrom (acc * 10 + (c.toNat - 48)) r
    omega

theorem ofNat_toNat (d : Nat) (h : d < 10) : (UInt8.ofNat (48 + d)).toNat = 48 + d := by
  simp [UInt8.toNat_ofNat']; omega

theorem val_dec : ∀ (N n : Nat), n ≤ N → valFrom 0 (decDigits n) = n ∧ ∀ c ∈ decDigits n, isDig c
  | 0, n, h => by
    obtain rfl : n = 0 := by omega
    rw [decDigits_one (by omega)]
    refine ⟨by decide, fun c hc => ?_⟩
    obtain rfl : c = UInt8.ofNat (48 + 0) := by simpa using hc
    exact ⟨by decide, by decide⟩
  | N + 1, n, h => by
    by_cases h9 : n < 10
    · rw [decDigits_one h9]
      refine ⟨?_, fun c hc => ?_⟩
      · show 0 * 10 + ((UInt8.ofNat (48 + n)).toNat - 48) = n
        rw [ofNat_toNat n h9]; omega
      · obtain rfl : c = UInt8.ofNat (48 + n) := by simpa using hc
        unfold isDig
        rw [ofNat_toNat n h9]; omega
    · obtain ⟨h1, h2⟩ := val_dec N (n / 10) (by omega)
      rw [decDigits, dif_neg h9]
      refine ⟨?_, fun c hc => ?_⟩
      · rw [valFrom_snoc, h1, ofNat_toNat _ (by omega)]; omega
      · rcases List.mem_append.1 hc with h3 | h3
        · exact h2 c h3
        · obtain rfl : c = UInt8.ofNat (48 + n % 10) := by simpa using h3
          unfold isDig
          rw [ofNat_toNat _ (by omega)]; omega

theorem dec_ne_nil (n : Nat) : decDigits n ≠ [] := by
  rw [decDigits]
  split
  · simp
  · simp

theorem dec_short : ∀ (k n : Nat), n < 10 ^ (k + 1) → (decDigits n).length ≤ k + 1
  | 0, n, h => by rw [decDigits_one (by simpa using h)]; simp
  | k + 1, n, h => by
    by_cases h9 : n < 10
    · rw [decDigits_one h9]; simp
    · rw [decDigits, dif_neg h9, List.length_append]
      have := dec_short k (n / 10) (by rw [Nat.pow_succ] at h; omega)
      simp
      omega

/-- The number whose digits a text is, if there is one up to 10 to the 12. -/
def textNum (l : List UInt8) : Nat × Bool := if decDigits (valFrom 0 l) = l ∧ valFrom 0 l ≤ 1000000000000 then (valFrom 0 l, true) else (0, false)

theorem textNum_dec {n : Nat} (hn : n ≤ 1000000000000) : textNum (decDigits n) = (n, true) := by
  unfold textNum
  rw [(val_dec n n (Nat.le_refl _)).1, if_pos ⟨rfl, hn⟩]

theorem textNum_of {l : List UInt8} {n : Nat} (h : decDigits n = l) (hn : n ≤ 1000000000000) : textNum l = (n, true) := by
  rw [← h]; exact textNum_dec hn

theorem textNum_none {l : List UInt8} (h : ¬ (decDigits (valFrom 0 l) = l ∧ valFrom 0 l ≤ 1000000000000)) : textNum l = (0, false) := by
  unfold textNum; rw [if_neg h]

theorem textNum_bad {l : List UInt8} {c : UInt8} (hc : c ∈ l) (h : ¬ isDig c) : textNum l = (0, false) := by
  refine textNum_none fun hh => h ?_
  rw [← hh.1] at hc
  exact (val_dec _ _ (Nat.le_refl _)).2 c hc

theorem textNum_len {l : List UInt8} (h : l.length < 1 ∨ 13 < l.length) : textNum l = (0, false) := by
  refine textNum_none fun hh => ?_
  have h1 := dec_short 12 (valFrom 0 l) (by omega)
  rw [hh.1] at h1
  rcases h with h | h
  · have h2 := dec_ne_nil (valFrom 0 l)
    rw [hh.1] at h2
    cases l with
    | nil => exact h2 rfl
    | cons c r => simp at h
  · omega

theorem parse_val : ∀ (l : List UInt8) (acc : Nat), (∀ c ∈ l, isDig c) → valFrom acc l < 1000000000000000000 → parseUint10 acc l = .ok (valFrom acc l)
  | [], _, _, _ => rfl
  | c :: r, acc, hd, hv => by
    have h1 := hd c (by simp)
    unfold isDig at h1
    have h2 := le_valFrom r (acc * 10 + (c.toNat - 48))
    have h3 : valFrom acc (c :: r) = valFrom (acc * 10 + (c.toNat - 48)) r := rfl
    rw [h3] at hv ⊢
    unfold parseUint10
    rw [if_pos h1, if_neg (by omega), if_neg (by omega)]
    exact parse_val r _ (fun x hx => hd x (by simp [hx])) hv

theorem atoi_dec {n : Nat} (hn : n ≤ 1000000000000) : atoiAll (decDigits n) = .ok (n : Int) := by
  obtain ⟨h1, h2⟩ := val_dec n n (Nat.le_refl _)
  have h3 := parse_val (decDigits n) 0 h2 (by rw [h1]; omega)
  rw [h1] at h3
  have h4 := dec_ne_nil n
  cases hl : decDigits n with
  | nil => exact absurd hl h4
  | cons c r =>
    have hc : isDig c := h2 c (by rw [hl]; simp)
    unfold isDig at hc
    rw [hl] at h3
    unfold atoiAll parseMag
    simp only
    rw [if_neg (show ¬ (c.toNat = 43 ∨ c.toNat = 45) by omega), if_neg (by simp), h3]
    simp only
    rw [if_neg (by omega), if_neg (by omega), if_neg (by omega)]

/-- What the program's reading comes to, by how the library's reading ends. -/
theorem textNum_atoi {l : List UInt8} (h : ∀ n : Nat, n ≤ 1000000000000 → atoiAll l = .ok (n : Int) → decDigits n ≠ l) : textNum l = (0, false) := by
  refine textNum_none fun hh => ?_
  have h1 := atoi_dec hh.2
  rw [hh.1] at h1
  exact h _ hh.2 h1 hh.1

theorem step_pow (A d P : Nat) (h : d ≤ 9) : (A * 10 + d + 1) * P ≤ (A + 1) * (10 * P) := by
  rw [← Nat.mul_assoc]
  exact Nat.mul_le_mul_right _ (by omega)

theorem valFrom_lt' : ∀ (r : List UInt8) (acc : Nat), (∀ c ∈ r, isDig c) → valFrom acc r < (acc + 1) * 10 ^ r.length
  | [], acc, _ => by show acc < (acc + 1) * 1; omega
  | c :: r, acc, hd => by
    have h1 : isDig c := hd c (by simp)
    unfold isDig at h1
    have h2 := valFrom_lt' r (acc * 10 + (c.toNat - 48)) (fun x hx => hd x (by simp [hx]))
    have h3 := step_pow acc (c.toNat - 48) (10 ^ r.length) (by omega)
    have e : 10 * 10 ^ r.length = 10 ^ (c :: r).length := by rw [List.length_cons, Nat.pow_succ, Nat.mul_comm]
    rw [e] at h3
    exact Nat.lt_of_lt_of_le h2 h3

theorem valFrom_lt (l : List UInt8) (hd : ∀ c ∈ l, isDig c) : valFrom 0 l < 10 ^ l.length := by
  have := valFrom_lt' l 0 hd
  simpa using this

end Go.Proofs.YtcpekobacoijdaaDoor.TextMath
