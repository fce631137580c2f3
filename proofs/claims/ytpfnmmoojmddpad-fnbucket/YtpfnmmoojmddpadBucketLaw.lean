/- A bucket gives a token when it says that it will, and not earlier: over numbers alone; its conditions are written in each. -/
import Derived.Test.YtpfnmmoojmddpadRows
import Derived.Test.YtpfnmmoojmddpadBucketMath
namespace Go.Proofs.Ytpfnmmoojmddpad.BucketLaw
open BucketMath

/-- A bucket as the law draws it, and a time. -/
structure Small (b r h t now : Int) : Prop where
  ok : bOk b r h t
  b4 : b ≤ 4
  r2 : r ≤ 2000
  t2 : t ≤ 199
  n0 : 0 ≤ now
  n9 : now < 900

theorem ceil_ge {m r : Int} (hr : 0 < r) (hm : 0 < m) : m ≤ r * ((m + r - 1).tdiv r) ∧ r * ((m + r - 1).tdiv r - 1) < m ∧ 1 ≤ (m + r - 1).tdiv r := by
  rw [Int.tdiv_eq_ediv_of_nonneg (by omega)]
  have h1 := Int.emod_add_mul_ediv (m + r - 1) r
  have h2 := Int.emod_nonneg (m + r - 1) (show r ≠ 0 by omega)
  have h3 := Int.emod_lt_of_pos (m + r - 1) hr
  have h4 : 1 ≤ (m + r - 1) / r := by
    rw [Int.le_ediv_iff_mul_le hr]
    omega
  refine ⟨by omega, ?_, h4⟩
  rw [Int.mul_sub, Int.mul_one]
  omega

/-- What has come at u, told from what has come at T. -/
theorem come_split (r t T u : Int) : r * (u - t) = r * (T - t) + r * (u - T) := by
  rw [← Int.mul_add]
  congr 1
  omega

theorem fill_low {b r h t now F T : Int} (hs : Small b r h t now) (hF : fillH b r h t now = F) (hT : fillT t now = T) (hb : 1 ≤ b) (hl : F < 1000) : F = h + r * (T - t) ∧ t ≤ T ∧ now ≤ T ∧ T ≤ 900 ∧ 0 ≤ F := by
  have hok := hs.ok
  unfold bOk at hok
  have := hs.n0
  have := hs.n9
  have := hs.t2
  unfold fillH at hF
  unfold fillT at hT
  by_cases hlt : t < now
  · rw [if_pos hlt] at hF hT
    have hc := Int.mul_nonneg (show 0 ≤ r by omega) (show 0 ≤ now - t by omega)
    subst hT
    split at hF
    · omega
    · omega
  · rw [if_neg hlt] at hF hT
    subst hT
    subst hF
    simp
    omega

theorem when_neg {b r h t now : Int} (hs : Small b r h t now) (hw : whenOf b r h t now < 0) : fillH b r h t 500000 < 1000 ∧ (r = 0 ∨ b = 0) := by
  have hok := hs.ok
  unfold bOk at hok
  have hf := fill_ok hs.ok (now := now) ⟨hs.n0, by have := hs.n9; omega⟩
  unfold bOk at hf
  have := hs.t2
  have := hs.n0
  have := hs.n9
  unfold whenOf at hw
  have h5 : fillH b r h t 500000 = if 1000 * b < h + r * (500000 - t) then 1000 * b else h + r * (500000 - t) := if_pos (by omega)
  by_cases c0 : b < 1
  · refine ⟨?_, Or.inr (by omega)⟩
    rw [h5]
    have hc := Int.mul_nonneg (show 0 ≤ r by omega) (show 0 ≤ 500000 - t by omega)
    split <;> omega
  · rw [if_neg c0] at hw
    by_cases c1 : 1000 ≤ fillH b r h t now
    · rw [if_pos c1] at hw
      omega
    · rw [if_neg c1] at hw
      by_cases c2 : r = 0
      · refine ⟨?_, Or.inl c2⟩
        have hl := fill_low hs rfl rfl (by omega) (by omega)
        rw [h5]
        subst c2
        simp only [Int.zero_mul] at hl ⊢
        split <;> omega
      · rw [if_neg c2] at hw
        have hl := fill_low hs rfl rfl (by omega) (by omega)
        have hn := next_le (r := r) (F := fillH b r h t now) (by omega) (by omega) (by omega) (by omega)
        exfalso
        split at hw
        · rename_i hx
          unfold nextAt at hx
          omega
        · unfold nextAt at hw
          omega

theorem when_ok {b r h t now : Int} (hs : Small b r h t now) (hw : 0 ≤ whenOf b r h t now) :
    isT (whenOf b r h t now) ∧ 1000 ≤ fillH b r h t (whenOf b r h t now) ∧ whenOf b r h t now ≤ 3000 ∧ (now < whenOf b r h t now → t < whenOf b r h t now → fillH b r h t (whenOf b r h t now - 1) < 1000) := by
  have hok := hs.ok
  unfold bOk at hok
  have hf := fill_ok hs.ok (now := now) ⟨hs.n0, by have := hs.n9; omega⟩
  unfold bOk at hf
  have := hs.t2
  have := hs.n0
  have := hs.n9
  by_cases c0 : b < 1
  · unfold whenOf at hw
    rw [if_pos c0] at hw
    omega
  · by_cases c1 : 1000 ≤ fillH b r h t now
    · have e : whenOf b r h t now = fillT t now := by
        unfold whenOf
        rw [if_neg c0, if_pos c1]
      rw [e]
      by_cases hlt : t < now
      · have e2 : fillT t now = now := if_pos hlt
        rw [e2]
        exact ⟨⟨by omega, by omega⟩, c1, by omega, fun hh => by omega⟩
      · have e2 : fillT t now = t := if_neg hlt
        rw [e2]
        have e3 : fillH b r h t now = h := if_neg hlt
        have e4 : fillH b r h t t = h := if_neg (by omega)
        exact ⟨⟨by omega, by omega⟩, by omega, by omega, fun _ hh => by omega⟩
    · by_cases c2 : r = 0
      · unfold whenOf at hw
        rw [if_neg c0, if_neg c1, if_pos c2] at hw
        omega
      · obtain ⟨F, hF⟩ : ∃ F, fillH b r h t now = F := ⟨_, rfl⟩
        obtain ⟨T, hT⟩ : ∃ T, fillT t now = T := ⟨_, rfl⟩
        rw [hF] at c1
        have hl := fill_low hs hF hT (by omega) (by omega)
        obtain ⟨l1, l2, l3, l4, l5⟩ := hl
        have hn := next_le (r := r) (F := F) (by omega) (by omega) (by omega) (by omega)
        have hq := ceil_ge (m := 1000 - F) (r := r) (by omega) (by omega)
        have e : whenOf b r h t now = T + (1000 - F + r - 1).tdiv r := by
          unfold whenOf
          rw [hF, hT, if_neg c0, if_neg c1, if_neg c2]
          unfold nextAt
          rw [if_neg (by omega)]
        rw [e]
        generalize (1000 - F + r - 1).tdiv r = q at *
        obtain ⟨q1, q2, q3⟩ := hq
        refine ⟨⟨by omega, by omega⟩, ?_, by omega, fun _ _ => ?_⟩
        · have e5 : fillH b r h t (T + q) = if 1000 * b < h + r * (T + q - t) then 1000 * b else h + r * (T + q - t) := if_pos (by omega)
          have e6 := come_split r t T (T + q)
          rw [show T + q - T = q from by omega] at e6
          rw [e5]
          split <;> omega
        · by_cases hlt : t < T + q - 1
          · have e5 : fillH b r h t (T + q - 1) = if 1000 * b < h + r * (T + q - 1 - t) then 1000 * b else h + r * (T + q - 1 - t) := if_pos hlt
            have e6 := come_split r t T (T + q - 1)
            rw [show T + q - 1 - T = q - 1 from by omega] at e6
            rw [e5]
            split <;> omega
          · have e5 : fillH b r h t (T + q - 1) = h := if_neg hlt
            rw [e5]
            have e7 : T = t := by omega
            rw [e7] at l1
            simp at l1
            omega
end Go.Proofs.Ytpfnmmoojmddpad.BucketLaw
