/- Whether the program finds a wait that is wrong in a list; nothing turns; no condition but those written in each. -/
import Derived.Test.YtdgkmiknnelddaaRows
import Derived.WalkKit
import Derived.WalkSmall
import Derived.BigQuiet
import Derived.Deep.RegionWith
import Derived.Deep.DeepCutAuto
import Derived.Test.YtdgkmiknnelddaaListKit
import Derived.Test.YtdgkmiknnelddaaHoldKit
import Derived.Test.YtdgkmiknnelddaaIntKit
import Derived.Test.YtdgkmiknnelddaaCodKit
import Derived.Test.YtdgkmiknnelddaaCodMath
import Derived.Test.YtdgkmiknnelddaaCodAllS
namespace Go.Proofs.Ytdgkmiknnelddaa.CodWaitI
open Go.RowKit ListKit HoldKit CodKit CodAllS
set_option maxRecDepth 8000
set_option linter.unusedVariables false
set_option linter.unusedSimpArgs false

theorem one_low (x : Int) (w : World) (h : x < 0) : Calls Try.prog 19 #[.int .i64 x] w fun e w' => e = .returned (.bool true) ∧ w' = w := by
  have p1 : decide (0 ≤ x) = false := by simpa using h
  clear h
  go_enter Try.func19, Try.ntmps19
  go_wp2_with (go_at_call 13; go_in)
  go_ret
  exact ⟨rfl, rfl⟩

theorem one_high (x : Int) (w : World) (h0 : 0 ≤ x) (h : 1000000000 < x) : Calls Try.prog 19 #[.int .i64 x] w fun e w' => e = .returned (.bool true) ∧ w' = w := by
  have p1 : decide (0 ≤ x) = true := by simpa using h0
  have p2 : decide (x ≤ 1000000000) = false := by simpa using h
  clear h h0
  go_enter Try.func19, Try.ntmps19
  go_wp2_with (go_at_call 13; go_in)
  go_ret
  exact ⟨rfl, rfl⟩

theorem one_ok (x : Int) (w : World) (h0 : 0 ≤ x) (h : x ≤ 1000000000) : Calls Try.prog 19 #[.int .i64 x] w fun e w' => e = .returned (.bool false) ∧ w' = w := by
  have p1 : decide (0 ≤ x) = true := by simpa using h0
  have p2 : decide (x ≤ 1000000000) = true := by simpa using h
  clear h h0
  go_enter Try.func19, Try.ntmps19
  go_wp2_with (go_at_call 13; go_in)
  go_ret
  exact ⟨rfl, rfl⟩

theorem one_wait (x : Int) (v : Bool) (w : World) (hv : v = false ↔ (0 ≤ x ∧ x ≤ 1000000000)) : Calls Try.prog 19 #[.int .i64 x] w fun e w' => e = .returned (.bool v) ∧ w' = w := by
  by_cases h0 : 0 ≤ x
  · by_cases h1 : x ≤ 1000000000
    · obtain rfl := hv.2 ⟨h0, h1⟩
      exact one_ok x w h0 h1
    · obtain rfl : v = true := by
        cases v
        · exact (h1 (hv.1 rfl).2).elim
        · rfl
      exact one_high x w h0 (by omega)
  · obtain rfl : v = true := by
      cases v
      · exact (h0 (hv.1 rfl).1).elim
      · rfl
    exact one_low x w (by omega)
set_option maxHeartbeats 2000000 in
theorem index_wait (a : Option Addr) (c : Nat) (ws : List Int) (v : Bool) (w : World) (h : Own 3 1 IntKit.cells w a ws) (hl : ws.length ≤ 1048576) (hv : v = false ↔ WaitsOk ws) :
    Calls Try.prog 30 #[.slice a ws.length c, .func (.func 19) #[] #[]] w fun e w' => ∃ r : Int, e = .returned (.int .i64 r) ∧ decide (0 ≤ r) = v ∧ w' = w := by
  have HA : Hid (Own 3 1 IntKit.cells w a ws) := h
  have HV : Hid (v = false ↔ WaitsOk ws) := hv
  clear h hv
  go_enter Try.func30, Try.ntmps30
  go_wp2
  go_loop [8] (fun i => ∃ k : Nat, k ≤ ws.length ∧ i = .int .i64 (k : Int) ∧ Hid (∀ (j : Nat) (h : j < ws.length), j < k → 0 ≤ ws[j] ∧ ws[j] ≤ 1000000000)) (fun i => ws.length - (intOf i).toNat)
  case atStart => exact ⟨0, by omega, rfl, fun j _ hj => by omega⟩
  case round =>
    obtain ⟨k, hk, rfl, HK⟩ := hrel
    by_cases hlt : k < ws.length
    · rcases HA.out with hnil | ⟨g, o, rfl, hr⟩
      · rw [hnil] at hlt; simp at hlt
      · have r0 : w.cell? ⟨g, o + k, none⟩ = some (.int .i64 ws[k]) := by have := hr.cell k hlt 0 (by omega); simpa [IntKit.cells] using this
        have h0k : (0 : Int) ≤ (k : Int) := by omega
        have hkl : (k : Int) < (ws.length : Int) := by omega
        have wk : IntKind.i64.wrap ((k : Int) + 1) = ((k + 1 : Nat) : Int) := by rw [IntKind.wrap_i64]; omega
        obtain ⟨u, hu⟩ : ∃ u, ws[k] = u := ⟨_, rfl⟩
        rw [hu] at r0
        by_cases hin : 0 ≤ u ∧ u ≤ 1000000000
        · have HO := fun (W : World) => one_wait u false W ⟨fun _ => hin, fun _ => rfl⟩
          have HK2 : Hid (∀ (j : Nat) (h : j < ws.length), j < k + 1 → 0 ≤ ws[j] ∧ ws[j] ≤ 1000000000) := fun j h hj => by
            by_cases e : j = k
            · subst e; rw [hu]; exact hin
            · exact HK.out j h (by omega)
          clear hin hu hr
          go_wp2_with (go_at_call 19; refine (HO _).mono ?_; rintro e w1 ⟨rfl, hw1⟩; subst hw1)
          go_round
          case rel => exact ⟨k + 1, by omega, by go_num, HK2⟩
          case measure => simp [intOf]; omega
        · obtain rfl : v = true := by
            cases v
            · exact (hin (hu ▸ HV.out.1 rfl k hlt)).elim
            · rfl
          have HO := fun (W : World) => one_wait u true W ⟨fun h => Bool.noConfusion h, fun h => (hin h).elim⟩
          clear hin hu hr
          go_wp2_with (go_at_call 19; refine (HO _).mono ?_; rintro e w1 ⟨rfl, hw1⟩; subst hw1)
          go_ret
          exact ⟨(k : Int), rfl, decide_eq_true h0k, rfl⟩
    · have hkl : ¬ (k : Int) < (ws.length : Int) := by omega
      have hv : v = false := HV.out.2 fun j h => HK.out j h (by omega)
      subst hv
      go_wp2
      go_ret
      exact ⟨-1, rfl, by simp, rfl⟩
theorem impl_contains (a : Option Addr) (c : Nat) (ws : List Int) (v : Bool) (w : World) (h : Own 3 1 IntKit.cells w a ws) (hl : ws.length ≤ 1048576) (hv : v = false ↔ WaitsOk ws) :
    Calls Try.prog 20 #[.slice a ws.length c, .func (.func 19) #[] #[]] w fun e w' => e = .returned (.bool v) ∧ w' = w := by
  have H := index_wait a c ws v w h hl hv
  clear h hl hv
  go_enter Try.func20, Try.ntmps20
  go_wp2_with (go_at_call 30; refine H.mono ?_; rintro e w1 ⟨r, rfl, hr, hw1⟩; subst hw1)
  go_ret
  exact ⟨rfl, rfl⟩
end Go.Proofs.Ytdgkmiknnelddaa.CodWaitI
