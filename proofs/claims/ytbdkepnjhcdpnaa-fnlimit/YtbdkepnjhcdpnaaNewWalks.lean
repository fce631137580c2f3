/- What the model's WindowNew and the program's answer at every span: an empty window, and whether it is right; nothing else turns. -/
import Derived.Test.YtbdkepnjhcdpnaaRows
import Derived.WalkKit
import Derived.WalkSmall
namespace Go.Proofs.Ytbdkepnjhcdpnaa.NewWalks
open Go.RowKit

theorem span_yes (n : Int) (w : World) (h0 : ¬ n < 1) (h1 : ¬ 100000 < n) : Calls Try.prog 29 #[.int .i64 n] w fun e w' => e = .returned (.bool true) ∧ w' = w := by
  have d1 : decide (n ≤ 100000) = true := by simp; omega
  go_enter Try.func29, Try.ntmps29
  go_wp2
  go_ret
  exact ⟨rfl, rfl⟩

theorem span_no (n : Int) (w : World) (h : n < 1 ∨ 100000 < n) : Calls Try.prog 29 #[.int .i64 n] w fun e w' => e = .returned (.bool false) ∧ w' = w := by
  by_cases h0 : n < 1
  · go_enter Try.func29, Try.ntmps29
    go_wp2
    go_ret
    exact ⟨rfl, rfl⟩
  · have d1 : decide (n ≤ 100000) = false := by simp; omega
    go_enter Try.func29, Try.ntmps29
    go_wp2
    go_ret
    exact ⟨rfl, rfl⟩

theorem impl_new (span s : Int) (B : Bool) (w : World) (h : Hid ((B = true ∧ s = span ∧ 1 ≤ span ∧ span ≤ 100000) ∨ (B = false ∧ s = 0 ∧ (span < 1 ∨ 100000 < span)))) :
    Calls Try.prog 19 #[.int .i64 span] w fun e w' => e = .returned (.tuple #[.agg #[.int .i64 s, .slice none 0 0], .bool B]) ∧ Below w.heap.size w w' := by
  rcases h.out with ⟨rfl, rfl, h1, h2⟩ | ⟨rfl, rfl, h3⟩
  · have HS := fun W => span_yes s W (by omega) (by omega)
    clear h h1 h2
    go_enter Try.func19, Try.ntmps19
    go_wp2_with (go_at_call 29; refine (HS _).mono ?_; rintro e w9 ⟨rfl, hw9⟩; rw [hw9]; clear hw9 w9)
    exact bodyPost_ret (v := .tuple #[.agg #[.int .i64 s, .slice none 0 0], .bool true]) (by simp [results, Try.results19, go_sem]) rfl ⟨rfl, (Below.refl _ _).alloc (Nat.le_refl _) _⟩
  · have HS := fun W => span_no span W h3
    clear h h3
    go_enter Try.func19, Try.ntmps19
    go_wp2_with (go_at_call 29; refine (HS _).mono ?_; rintro e w9 ⟨rfl, hw9⟩; rw [hw9]; clear hw9 w9)
    exact bodyPost_ret (v := .tuple #[.agg #[.int .i64 0, .slice none 0 0], .bool false]) (by simp [results, Try.results19, go_sem]) rfl ⟨rfl, (Below.refl _ _).alloc (Nat.le_refl _) _⟩
end Go.Proofs.Ytbdkepnjhcdpnaa.NewWalks
