/- What the program's Share answers at every three numbers from 0 to 10 to the 12, the last above 0: n a / b, and the greatest number where that is above it. -/
import Derived.Test.YtabialologlgpacDoorRows
import Derived.Test.YtabialologlgpacDoorShelf
import Derived.Test.YtabialologlgpacDoorShareMath
import Derived.Test.YtabialologlgpacDoorDivWalks
import Derived.WalkKit
import Derived.WalkSmall
namespace Go.Proofs.YtabialologlgpacDoor.ShareWalks
open Go.RowKit ShareMath

theorem ret_int {k : IntKind} {a b : Int} (h : a = b) : Ending.returned (.int k a) = .returned (.int k b) := by rw [h]

theorem rest_share (n a b : Nat) (H L : Nat) (hH : n * a / 18446744073709551616 = H) (hL : n * a % 18446744073709551616 = L) : (H * 18446744073709551616 + L) / b = n * a / b := by
  rw [← hH, ← hL]; exact words (n * a) b

set_option maxHeartbeats 1000000 in
theorem impl_share (n a b : Nat) (w : World) (hn : n ≤ 1000000000000) (ha : a ≤ 1000000000000) (hb : b ≤ 1000000000000) (hb0 : 0 < b) :
    Calls Tryd.prog 6 #[.int .i64 n, .int .i64 a, .int .i64 b] w fun e w' => e = .returned (.int .i64 (share n a b)) ∧ Below w.heap.size w w' := by
  have e1 : ((b : Int) == 0) = false := by rw [beq_eq_false_iff_ne]; omega
  obtain ⟨H, hH⟩ : ∃ H, n * a / 18446744073709551616 = H := ⟨_, rfl⟩
  obtain ⟨L, hL⟩ : ∃ L, n * a % 18446744073709551616 = L := ⟨_, rfl⟩
  have hLb : L < 18446744073709551616 := by rw [← hL]; exact Nat.mod_lt _ (by omega)
  have hQ := rest_share n a b H L hH hL
  have KH : Hid (n * a / 18446744073709551616 = H) := hH
  have KL : Hid (n * a % 18446744073709551616 = L) := hL
  by_cases hov : b ≤ H
  · have hfin : Hid (share n a b = 9223372036854775807) := share_over hb0 (by rw [hH]; exact hov)
    clear hH hL hQ
    go_enter Tryd.func6, Tryd.ntmps6
    go_wp2_with (first | (go_at_call 14; go_in) | (go_at_call 15; refine (Tryd.bits_Mul64 n a (by omega) (by omega) _).mono ?_; rintro e w' ⟨rfl, rfl⟩; rw [KH.out, KL.out]))
    go_ret
    exact ⟨ret_int (by rw [hfin.out]; rfl), by first | exact Below.refl _ _ | exact below_drewN (Below.refl _ _) _ | exact (Below.refl _ _).alloc (Nat.le_refl _) _⟩
  · obtain ⟨Q, hQ1⟩ : ∃ Q, n * a / b = Q := ⟨_, rfl⟩
    have KQ : Hid ((H * 18446744073709551616 + L) / b = Q) := hQ.trans hQ1
    have KS : Hid (share n a b = if Q ≤ 9223372036854775807 then Q else 9223372036854775807) := by show share n a b = _; unfold share; rw [hQ1]
    have hQb : Q < 18446744073709551616 := by
      rw [← KQ.out, Nat.div_lt_iff_lt_mul hb0]
      have : (H + 1) * 18446744073709551616 ≤ b * 18446744073709551616 := Nat.mul_le_mul_right _ (by omega)
      omega
    clear hH hL hQ hQ1
    by_cases hm : Q ≤ 9223372036854775807
    · go_enter Tryd.func6, Tryd.ntmps6
      go_wp2_with (first | (go_at_call 14; go_in) | (go_at_call 15; refine (Tryd.bits_Mul64 n a (by omega) (by omega) _).mono ?_; rintro e w' ⟨rfl, rfl⟩; rw [KH.out, KL.out]) | (go_at_call 16; refine (DivWalks.div64 H L b _ (by omega) (by omega) hLb).mono ?_; rintro e w' ⟨r, rfl, hg⟩; rw [KQ.out]))
      go_ret
      exact ⟨ret_int (by rw [KS.out, if_pos hm]; omega), hg⟩
    · go_enter Tryd.func6, Tryd.ntmps6
      go_wp2_with (first | (go_at_call 14; go_in) | (go_at_call 15; refine (Tryd.bits_Mul64 n a (by omega) (by omega) _).mono ?_; rintro e w' ⟨rfl, rfl⟩; rw [KH.out, KL.out]) | (go_at_call 16; refine (DivWalks.div64 H L b _ (by omega) (by omega) hLb).mono ?_; rintro e w' ⟨r, rfl, hg⟩; rw [KQ.out]))
      go_ret
      exact ⟨ret_int (by rw [KS.out, if_neg hm]; omega), hg⟩
end Go.Proofs.YtabialologlgpacDoor.ShareWalks
