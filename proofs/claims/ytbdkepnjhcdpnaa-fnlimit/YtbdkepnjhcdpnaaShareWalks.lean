/- What the model's Share and the program's Share answer at every three numbers of 64 bits: n a / b, the greatest number where that is above it, and 0 where one is no number or b is 0; no condition. -/
import Derived.Test.YtbdkepnjhcdpnaaRows
import Derived.Test.YtbdkepnjhcdpnaaShelf
import Derived.Test.YtbdkepnjhcdpnaaShareMath
import Derived.Test.YtbdkepnjhcdpnaaDivWalks
import Derived.WalkKit
import Derived.WalkSmall
namespace Go.Proofs.Ytbdkepnjhcdpnaa.ShareWalks
open Go.RowKit ShareMath

/-- The model's AddSat at two numbers that are not below 0. -/
theorem spec_sum (x y : Int) (w : World) (hx : 0 ≤ x) (hx1 : x ≤ 9223372036854775807) (hy : 0 ≤ y) (hy1 : y ≤ 9223372036854775807) :
    Calls Try.prog 51 #[.int .i64 x, .int .i64 y] w fun e w' => e = .returned (.int .i64 (sumEnd x y)) ∧ w' = w := by
  have c6 : ¬ x < 0 := by omega
  by_cases c1 : 0 < x
  · by_cases c3 : 9223372036854775807 - x < y
    · have hs : sumEnd x y = 9223372036854775807 := by unfold sumEnd; rw [if_neg (by omega)]
      rw [hs]; clear hs
      go_enter Try.func51, Try.ntmps51
      go_wp2
      go_ret
      exact ⟨rfl, rfl⟩
    · have hs : sumEnd x y = x + y := by unfold sumEnd; rw [if_pos (by omega)]
      rw [hs]; clear hs
      go_enter Try.func51, Try.ntmps51
      go_wp2
      go_ret
      exact ⟨rfl, rfl⟩
  · have hs : sumEnd x y = x + y := by unfold sumEnd; rw [if_pos (by omega)]
    rw [hs]; clear hs
    go_enter Try.func51, Try.ntmps51
    go_wp2
    go_ret
    exact ⟨rfl, rfl⟩

theorem ret_int {k : IntKind} {a b : Int} (h : a = b) : Ending.returned (.int k a) = .returned (.int k b) := by rw [h]
theorem val_int {k : IntKind} {a b : Int} (h : a = b) : Value.int k a = .int k b := by rw [h]

set_option maxHeartbeats 1000000 in
theorem spec_share (n a b : Nat) (w : World) (hn : n ≤ 1000000000000) (ha : a ≤ 1000000000000) (hb : b ≤ 1000000000000) (hb0 : 0 < b) :
    Calls Try.prog 46 #[.int .i64 n, .int .i64 a, .int .i64 b] w fun e w' => e = .returned (.int .i64 (share n a b)) ∧ w' = w := by
  have e1 : ((b : Int) == 0) = false := by rw [beq_eq_false_iff_ne]; omega
  go_enter Try.func46, Try.ntmps46
  go_wp2
  go_loop [7, 8, 9] (fun q r k => ∃ j S R : Nat, j ≤ 40 ∧ Hid (S = share (n / 2 ^ j) a b) ∧ Hid (R = n / 2 ^ j * a % b) ∧ S ≤ 9223372036854775807 ∧ R < b ∧ q = .int .i64 S ∧ r = .int .i64 R ∧ k = .int .i64 ((j : Int) - 1)) (fun _ _ k => (intOf k + 1).toNat)
  case atStart => exact ⟨40, 0, 0, by omega, (share_start hn).1, (share_start hn).2, by omega, by omega, rfl, rfl, rfl⟩
  case round =>
    obtain ⟨j, S, R, hj, HS, HR, Sb, Rb, rfl, rfl, rfl⟩ := hrel
    by_cases hz : j = 0
    · subst hz
      go_wp2
      go_ret
      exact ⟨ret_int (by rw [HS.out]; simp), rfl⟩
    · obtain ⟨i, rfl⟩ : ∃ i, j = i + 1 := ⟨j - 1, by omega⟩
      go_wp2
      go_loop [10, 11] (fun t c => ∃ m B : Nat, m ≤ i ∧ Hid (B = 2 ^ m) ∧ 1 ≤ B ∧ B ≤ 549755813888 ∧ t = .int .i64 B ∧ c = .int .i64 m) (fun _ c => i - (intOf c).toNat)
      case atStart => exact ⟨0, 1, by omega, rfl, by omega, by omega, rfl, rfl⟩
      case round =>
        obtain ⟨m, B, hm, HB, Bp, Bb, rfl, rfl⟩ := hrel
        by_cases hlt : m < i
        · have h2 := pow39 (i := m + 1) (by omega)
          have hB : Hid (B * 2 = 2 ^ (m + 1)) := by show B * 2 = _; rw [HB.out, Nat.pow_succ]
          have Bb2 : B * 2 ≤ 549755813888 := by rw [hB.out]; exact h2.2
          clear h2
          go_wp2
          go_round
          case rel => exact ⟨m + 1, B * 2, by omega, hB, by omega, by omega, by go_num, by go_num⟩
          case measure => simp [intOf]; omega
        · obtain rfl : m = i := by omega
          by_cases hover : 4611686018427387903 < S
          · have hfin : Hid (share n a b = 9223372036854775807) := share_high (m := n / 2 ^ (m + 1)) hb0 (by rw [← HS.out]; exact hover) (by rw [Nat.pow_succ, ← Nat.div_div_eq_div_mul]; have := Nat.div_le_self n (2 ^ m); omega)
            go_wp2
            go_ret
            exact ⟨ret_int (by rw [hfin.out]; rfl), rfl⟩
          · by_cases hbit : n / 2 ^ m % 2 = 1
            · have hr := share_round1 hb0 HS.out HR.out (by omega) hbit
              have hr1 : Hid (sumEnd (2 * (S : Int)) ((2 * (R : Int) + (a : Int)) / (b : Int)) = (share (n / 2 ^ m) a b : Int)) := hr.1
              have hr2 : Hid ((2 * (R : Int) + (a : Int)) % (b : Int) = ((n / 2 ^ m * a % b : Nat) : Int)) := hr.2
              obtain ⟨X, hX1⟩ : ∃ X, X = n / 2 ^ m := ⟨_, rfl⟩
              have hXe : (n : Int) / (B : Int) = (X : Int) := by rw [hX1, HB.out, Int.natCast_ediv]
              have hXb : X ≤ 1000000000000 := by rw [hX1]; exact Nat.le_trans (Nat.div_le_self _ _) hn
              have hc : ((X : Int) % 2 == 1) = true := by
                rw [beq_iff_eq]; omega
              have hX : (2 * (R : Int) + (a : Int)) / (b : Int) ≤ 9223372036854775807 := by
                have := Int.ediv_le_self (b : Int) (a := 2 * (R : Int) + (a : Int)) (by omega); omega
              have hX0 : 0 ≤ (2 * (R : Int) + (a : Int)) / (b : Int) := Int.ediv_nonneg (by omega) (by omega)
              obtain ⟨S2, hS2⟩ : ∃ S2, S2 = share (n / 2 ^ m) a b := ⟨_, rfl⟩
              obtain ⟨R2, hR2⟩ : ∃ R2, R2 = n / 2 ^ m * a % b := ⟨_, rfl⟩
              have hsl : S2 ≤ 9223372036854775807 := by rw [hS2]; exact share_le (n / 2 ^ m) a b
              have hrl : R2 < b := by rw [hR2]; exact Nat.mod_lt (n / 2 ^ m * a) hb0
              rw [← hS2] at hr1
              rw [← hR2] at hr2
              have HS2 : Hid (S2 = share (n / 2 ^ m) a b) := hS2
              have HR2 : Hid (R2 = n / 2 ^ m * a % b) := hR2
              clear hr hbit hS2 hR2 HS HR hX1
              go_wp2_with (go_at_call 51; refine (spec_sum _ _ _ (by omega) (by omega) hX0 hX).mono ?_; rintro e w' ⟨rfl, rfl⟩)
              go_round
              case rel => exact ⟨m, S2, R2, by omega, HS2, HR2, hsl, hrl, val_int hr1.out, val_int hr2.out, by go_num⟩
              case measure => simp [intOf]
            · have hr := share_round0 hb0 HS.out HR.out (by omega) (by omega)
              have hr1 : Hid (sumEnd (2 * (S : Int)) ((2 * (R : Int)) / (b : Int)) = (share (n / 2 ^ m) a b : Int)) := hr.1
              have hr2 : Hid ((2 * (R : Int)) % (b : Int) = ((n / 2 ^ m * a % b : Nat) : Int)) := hr.2
              obtain ⟨X, hX1⟩ : ∃ X, X = n / 2 ^ m := ⟨_, rfl⟩
              have hXe : (n : Int) / (B : Int) = (X : Int) := by rw [hX1, HB.out, Int.natCast_ediv]
              have hXb : X ≤ 1000000000000 := by rw [hX1]; exact Nat.le_trans (Nat.div_le_self _ _) hn
              have hc : ((X : Int) % 2 == 1) = false := by
                rw [beq_eq_false_iff_ne]; omega
              have hX : (2 * (R : Int)) / (b : Int) ≤ 9223372036854775807 := by
                have := Int.ediv_le_self (b : Int) (a := 2 * (R : Int)) (by omega); omega
              have hX0 : 0 ≤ (2 * (R : Int)) / (b : Int) := Int.ediv_nonneg (by omega) (by omega)
              obtain ⟨S2, hS2⟩ : ∃ S2, S2 = share (n / 2 ^ m) a b := ⟨_, rfl⟩
              obtain ⟨R2, hR2⟩ : ∃ R2, R2 = n / 2 ^ m * a % b := ⟨_, rfl⟩
              have hsl : S2 ≤ 9223372036854775807 := by rw [hS2]; exact share_le (n / 2 ^ m) a b
              have hrl : R2 < b := by rw [hR2]; exact Nat.mod_lt (n / 2 ^ m * a) hb0
              rw [← hS2] at hr1
              rw [← hR2] at hr2
              have HS2 : Hid (S2 = share (n / 2 ^ m) a b) := hS2
              have HR2 : Hid (R2 = n / 2 ^ m * a % b) := hR2
              clear hr hbit hS2 hR2 HS HR hX1
              go_wp2_with (go_at_call 51; refine (spec_sum _ _ _ (by omega) (by omega) hX0 hX).mono ?_; rintro e w' ⟨rfl, rfl⟩)
              go_round
              case rel => exact ⟨m, S2, R2, by omega, HS2, HR2, hsl, hrl, val_int hr1.out, val_int hr2.out, by go_num⟩
              case measure => simp [intOf]

theorem rest_share (n a b : Nat) (H L : Nat) (hH : n * a / 18446744073709551616 = H) (hL : n * a % 18446744073709551616 = L) : (H * 18446744073709551616 + L) / b = n * a / b := by
  rw [← hH, ← hL]; exact words (n * a) b

set_option maxHeartbeats 1000000 in
theorem impl_share (n a b : Nat) (w : World) (hn : n ≤ 1000000000000) (ha : a ≤ 1000000000000) (hb : b ≤ 1000000000000) (hb0 : 0 < b) :
    Calls Try.prog 70 #[.int .i64 n, .int .i64 a, .int .i64 b] w fun e w' => e = .returned (.int .i64 (share n a b)) ∧ Below w.heap.size w w' := by
  have e1 : ((b : Int) == 0) = false := by rw [beq_eq_false_iff_ne]; omega
  obtain ⟨H, hH⟩ : ∃ H, n * a / 18446744073709551616 = H := ⟨_, rfl⟩
  obtain ⟨L, hL⟩ : ∃ L, n * a % 18446744073709551616 = L := ⟨_, rfl⟩
  have hLb : L < 18446744073709551616 := by rw [← hL]; exact Nat.mod_lt _ (by omega)
  have hQ := rest_share n a b H L hH hL
  have KH : Hid (n * a / 18446744073709551616 = H) := hH
  have KL : Hid (n * a % 18446744073709551616 = L) := hL
  by_cases hov : b ≤ H
  · have hfin : Hid (share n a b = 9223372036854775807) := share_over hb0 (by rw [hH]; exact hov)
    clear hH hL hQ
    go_enter Try.func70, Try.ntmps70
    go_wp2_with (first | (go_at_call 81; go_in) | (go_at_call 82; refine (Try.bits_Mul64 n a (by omega) (by omega) _).mono ?_; rintro e w' ⟨rfl, rfl⟩; rw [KH.out, KL.out]))
    go_ret
    exact ⟨ret_int (by rw [hfin.out]; rfl), by first | exact Below.refl _ _ | exact below_drewN (Below.refl _ _) _ | exact (Below.refl _ _).alloc (Nat.le_refl _) _⟩
  · obtain ⟨Q, hQ1⟩ : ∃ Q, n * a / b = Q := ⟨_, rfl⟩
    have KQ : Hid ((H * 18446744073709551616 + L) / b = Q) := hQ.trans hQ1
    have KS : Hid (share n a b = if Q ≤ 9223372036854775807 then Q else 9223372036854775807) := by show share n a b = _; unfold share; rw [hQ1]
    have hQb : Q < 18446744073709551616 := by
      rw [← KQ.out, Nat.div_lt_iff_lt_mul hb0]
      have : (H + 1) * 18446744073709551616 ≤ b * 18446744073709551616 := Nat.mul_le_mul_right _ (by omega)
      omega
    clear hH hL hQ hQ1
    by_cases hm : Q ≤ 9223372036854775807
    · go_enter Try.func70, Try.ntmps70
      go_wp2_with (first | (go_at_call 81; go_in) | (go_at_call 82; refine (Try.bits_Mul64 n a (by omega) (by omega) _).mono ?_; rintro e w' ⟨rfl, rfl⟩; rw [KH.out, KL.out]) | (go_at_call 83; refine (DivWalks.div64 H L b _ (by omega) (by omega) hLb).mono ?_; rintro e w' ⟨r, rfl, hg⟩; rw [KQ.out]))
      go_ret
      exact ⟨ret_int (by rw [KS.out, if_pos hm]; omega), hg⟩
    · go_enter Try.func70, Try.ntmps70
      go_wp2_with (first | (go_at_call 81; go_in) | (go_at_call 82; refine (Try.bits_Mul64 n a (by omega) (by omega) _).mono ?_; rintro e w' ⟨rfl, rfl⟩; rw [KH.out, KL.out]) | (go_at_call 83; refine (DivWalks.div64 H L b _ (by omega) (by omega) hLb).mono ?_; rintro e w' ⟨r, rfl, hg⟩; rw [KQ.out]))
      go_ret
      exact ⟨ret_int (by rw [KS.out, if_neg hm]; omega), hg⟩

end Go.Proofs.Ytbdkepnjhcdpnaa.ShareWalks
