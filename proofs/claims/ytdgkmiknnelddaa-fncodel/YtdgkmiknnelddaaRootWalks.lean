/- What the model's Root and the program's Root answer at every number of 64 bits: the one root of it, or 0 where it is below 1; no condition. -/
import Derived.Test.YtdgkmiknnelddaaRows
import Derived.Test.YtdgkmiknnelddaaRootMath
import Derived.Test.YtdgkmiknnelddaaShelf
import Derived.WalkKit
import Derived.WalkSmall
namespace Go.Proofs.Ytdgkmiknnelddaa.RootWalks
open Go.RowKit RootMath

theorem spec_root_low (n : Int) (w : World) (h : n < 1) : Calls Try.prog 39 #[.int .i64 n] w fun e w' => e = .returned (.int .i64 0) ∧ w' = w := by
  go_enter Try.func39, Try.ntmps39
  go_wp2
  go_ret
  exact ⟨rfl, rfl⟩

set_option maxHeartbeats 400000 in
theorem spec_root (n : Int) (w : World) (h1 : ¬ n < 1) (hu : n ≤ 9223372036854775807) : Calls Try.prog 39 #[.int .i64 n] w fun e w' => ∃ r : Int, e = .returned (.int .i64 r) ∧ isRoot n r ∧ w' = w := by
  go_enter Try.func39, Try.ntmps39
  go_wp2
  go_loop [3, 4] (fun lo hi => ∃ a b : Int, 0 ≤ a ∧ a ≤ b ∧ b ≤ 3037000499 ∧ Hid (a * a ≤ n ∧ n < (b + 1) * (b + 1)) ∧ lo = .int .i64 a ∧ hi = .int .i64 b) (fun lo hi => (intOf hi - intOf lo).toNat)
  case atStart => exact ⟨0, 3037000499, by omega, by omega, by omega, ⟨by omega, by omega⟩, rfl, rfl⟩
  case round =>
    obtain ⟨a, b, ha, hab, hb, H, rfl, rfl⟩ := hrel
    by_cases hlt : a < b
    · have hq := sq_max (a := (a + b + 1) / 2) (by omega) (by omega)
      by_cases hc : (a + b + 1) / 2 * ((a + b + 1) / 2) ≤ n
      · go_wp2
        go_round
        case rel => exact ⟨(a + b + 1) / 2, b, by omega, by omega, by omega, ⟨hc, H.out.2⟩, rfl, rfl⟩
        case measure => simp [intOf]; omega
      · go_wp2
        go_round
        case rel => exact ⟨a, (a + b + 1) / 2 - 1, by omega, by omega, by omega, ⟨H.out.1, by rw [show (a + b + 1) / 2 - 1 + 1 = (a + b + 1) / 2 from by omega]; omega⟩, rfl, rfl⟩
        case measure => simp [intOf]; omega
    · have e : a = b := by omega
      subst e
      go_wp2
      go_ret
      exact ⟨a, rfl, ⟨ha, hb, H.out.1, H.out.2⟩, rfl⟩

theorem closure_le (n r : Int) (a : Addr) (w : World) (hc : w.cell? a = some (.int .i64 n)) (h0 : 0 ≤ r) (h1 : r ≤ 3037000499) (h : r * r ≤ n) : Calls Try.prog 29 #[.int .i64 r, .pointer (some a)] w fun e w' => e = .returned (.bool true) ∧ w' = w := by
  have hq := sq_max h0 h1
  go_enter Try.func29, Try.ntmps29
  go_wp2
  go_ret
  exact ⟨rfl, rfl⟩

theorem closure_gt (n r : Int) (a : Addr) (w : World) (hc : w.cell? a = some (.int .i64 n)) (h0 : 0 ≤ r) (h1 : r ≤ 3037000499) (h : ¬ r * r ≤ n) : Calls Try.prog 29 #[.int .i64 r, .pointer (some a)] w fun e w' => e = .returned (.bool false) ∧ w' = w := by
  have hq := sq_max h0 h1
  go_enter Try.func29, Try.ntmps29
  go_wp2
  go_ret
  exact ⟨rfl, rfl⟩

theorem len_span : (Lib.bitLen (3037000499 : Int).toNat : Int) = 32 := by decide +kernel

set_option maxHeartbeats 400000 in
theorem last_that (n : Int) (w : World) (a : Addr) (hc : w.cell? a = some (.int .i64 n)) (h1 : ¬ n < 1) (hu : n ≤ 9223372036854775807) :
    Calls Try.prog 28 #[.int .i64 1, .int .i64 3037000500, .func (.func 29) #[] #[.pointer (some a)]] w fun e w' => ∃ r : Int, e = .returned (.int .i64 r) ∧ isRoot n r ∧ w' = w := by
  go_enter Try.func28, Try.ntmps28
  go_wp2_with (go_at_call 37; refine (Try.bits_Len _ _ (by omega) (by omega)).mono ?_; rintro e w' ⟨rfl, rfl⟩; rw [len_span])
  go_loop [0, 1, 13] (fun lo hi i => ∃ (x y : Int) (k : Nat), k ≤ 32 ∧ 1 ≤ x ∧ x < y ∧ y ≤ 3037000500 ∧ Hid (y - x ≤ pw k) ∧ Hid (x * x ≤ n ∧ n < y * y) ∧ lo = .int .i64 x ∧ hi = .int .i64 y ∧ i = .int .i64 k) (fun _ _ i => 32 - (intOf i).toNat)
  case atStart => exact ⟨1, 3037000500, 0, by omega, by omega, by omega, by omega, by show _ ≤ pw 0; rw [pw_start]; omega, ⟨by omega, by omega⟩, rfl, rfl, rfl⟩
  case round =>
    obtain ⟨x, y, k, hk, hx, hxy, hy, P, H, rfl, rfl, rfl⟩ := hrel
    by_cases hlt : k < 32
    · have hq := sq_max (a := x + (y - x) / 2) (by omega) (by omega)
      by_cases hcmp : (x + (y - x) / 2) * (x + (y - x) / 2) ≤ n
      · go_wp2
        go_round
        case rel => exact ⟨x + (y - x) / 2, y, k + 1, by omega, by omega, by omega, by omega, by have h2 := P.out; rw [pw_half hlt] at h2; show _ ≤ pw (k + 1); omega, ⟨hcmp, H.out.2⟩, rfl, rfl, by go_num⟩
        case measure => simp [intOf]; omega
      · have hgt : n < (x + (y - x) / 2) * (x + (y - x) / 2) := by omega
        have hne : 2 ≤ y - x := by
          have h3 := H.out.1
          by_cases h4 : y - x = 1
          · rw [h4] at hgt
            simp at hgt
            omega
          · omega
        go_wp2
        go_round
        case rel => exact ⟨x, x + (y - x) / 2, k + 1, by omega, by omega, by omega, by omega, by have h2 := P.out; rw [pw_half hlt] at h2; show _ ≤ pw (k + 1); omega, ⟨H.out.1, hgt⟩, rfl, rfl, by go_num⟩
        case measure => simp [intOf]; omega
    · have e : k = 32 := by omega
      subst e
      have h2 := P.out
      rw [pw_end] at h2
      have e : y = x + 1 := by omega
      subst e
      clear h2
      go_wp2
      go_ret
      exact ⟨x, rfl, ⟨by omega, by omega, H.out.1, H.out.2⟩, rfl⟩

theorem impl_root_low (n : Int) (w : World) (h : n < 1) : Calls Try.prog 18 #[.int .i64 n] w fun e w' => e = .returned (.int .i64 0) ∧ Below w.heap.size w w' := by
  go_enter Try.func18, Try.ntmps18
  go_wp2
  go_ret
  exact ⟨rfl, by first | exact Below.refl _ _ | exact below_drewN (Below.refl _ _) _ | exact (Below.refl _ _).alloc (Nat.le_refl _) _⟩

theorem impl_root (n : Int) (w : World) (h1 : ¬ n < 1) (hu : n ≤ 9223372036854775807) : Calls Try.prog 18 #[.int .i64 n] w fun e w' => ∃ r : Int, e = .returned (.int .i64 r) ∧ isRoot n r ∧ Below w.heap.size w w' := by
  have hmf : ∀ (fn : Fn) (first cap : Array Value) (w : World), (Instr.makeFunc fn first cap).run Try.prog w = .ok (.func fn first cap) w := fun _ _ _ _ => rfl
  go_enter Try.func18, Try.ntmps18
  go_wp2_with fail
  refine (last_that n _ _ (by simp) (by omega) hu).mono ?_
  rintro e w' ⟨r, rfl, hr, rfl⟩
  go_wp2
  go_ret
  exact ⟨r, rfl, hr, by first | exact Below.refl _ _ | exact below_drewN (Below.refl _ _) _ | exact (Below.refl _ _).alloc (Nat.le_refl _) _⟩

end Go.Proofs.Ytdgkmiknnelddaa.RootWalks
