/- What the model's Knows and Room answer; nothing that was there turns; no condition but those written in each. -/
import Derived.Test.YtnabnghjejncpaaGreatRows
import Derived.WalkKit
import Derived.WalkSmall
import Derived.BigQuiet
import Derived.Deep.RegionWith
import Derived.Deep.DeepCutAuto
import Derived.Test.YtnabnghjejncpaaGreatListKit
import Derived.Test.YtnabnghjejncpaaGreatHoldKit
import Derived.Test.YtnabnghjejncpaaGreatIntKit
import Derived.Test.YtnabnghjejncpaaGreatSlotKit
import Derived.Test.YtnabnghjejncpaaGreatNearKit
import Derived.Test.YtnabnghjejncpaaGreatLedCount
namespace Go.Proofs.YtnabnghjejncpaaGreat.AdmSmallS
open Go.RowKit ListKit HoldKit NearKit
set_option maxRecDepth 8000
set_option linter.unusedVariables false
set_option linter.unusedSimpArgs false

set_option maxHeartbeats 2000000 in
theorem spec_has (a : Option Addr) (c : Nat) (l : List Int) (x : Int) (B : Bool) (w : World) (h : Own 3 1 IntKit.cells w a l) (hl : l.length ≤ 1048577) (hB : Hid (B = true ↔ x ∈ l)) :
    Calls Tryz.prog 48 #[.slice a l.length c, .int .i64 x] w fun e w' => e = .returned (.bool B) ∧ w' = w := by
  have HA : Hid (Own 3 1 IntKit.cells w a l) := h
  clear h
  go_enter Tryz.func48, Tryz.ntmps48
  go_wp2
  go_loop [9] (fun i => ∃ k : Nat, k ≤ l.length ∧ i = .int .i64 (k : Int) ∧ Hid (∀ (j : Nat) (h : j < l.length), j < k → l[j] ≠ x)) (fun i => l.length - (intOf i).toNat)
  case atStart => exact ⟨0, by omega, rfl, fun j _ hj => by omega⟩
  case round =>
    obtain ⟨k, hk, rfl, HK⟩ := hrel
    by_cases hlt : k < l.length
    · rcases HA.out with hnil | ⟨g, o, rfl, hr⟩
      · rw [hnil] at hlt; simp at hlt
      · have r0 : w.cell? ⟨g, o + k, none⟩ = some (.int .i64 l[k]) := by have := hr.cell k hlt 0 (by omega); simpa [IntKit.cells] using this
        have h0k : (0 : Int) ≤ (k : Int) := by omega
        have hkl : (k : Int) < (l.length : Int) := by omega
        have wk : IntKind.i64.wrap ((k : Int) + 1) = ((k + 1 : Nat) : Int) := by rw [IntKind.wrap_i64]; omega
        have HU : Hid (∃ u, l[k] = u) := ⟨_, rfl⟩
        obtain ⟨u, hu⟩ := HU.out
        rw [hu] at r0
        by_cases hx : u = x
        · have t0 : (u == x) = true := by simpa using hx
          obtain rfl : B = true := hB.out.2 (by rw [← hx, ← hu]; exact List.getElem_mem hlt)
          clear hr hu hx HU
          go_wp2
          go_ret
          exact ⟨rfl, rfl⟩
        · have t0 : (u == x) = false := by simpa using hx
          have HK2 : Hid (∀ (j : Nat) (h : j < l.length), j < k + 1 → l[j] ≠ x) := fun j h hj => by
            by_cases e : j = k
            · subst e; rw [hu]; exact hx
            · exact HK.out j h (by omega)
          clear hr hu hx HU
          go_wp2
          go_round
          case rel => exact ⟨k + 1, by omega, by go_num, HK2⟩
          case measure => simp [intOf]; omega
    · have hkl : ¬ (k : Int) < (l.length : Int) := by omega
      obtain rfl : B = false := by
        cases B with
        | false => rfl
        | true =>
          obtain ⟨j, hj, e⟩ := List.getElem_of_mem (hB.out.1 rfl)
          exact (HK.out j hj (by omega) e).elim
      go_wp2
      go_ret
      exact ⟨rfl, rfl⟩
set_option maxHeartbeats 2000000 in
theorem spec_knows (vs : List Value) (a : Option Addr) (c : Nat) (l : List Int) (x : Int) (B : Bool) (w : World) (h33 : vs[33]? = some (.slice a l.length c)) (h : Own 3 1 IntKit.cells w a l) (hl : l.length ≤ 1048577) (hB : Hid (B = true ↔ x ∈ l)) :
    Calls Tryz.prog 16 #[.agg vs.toArray, .int .i64 x] w fun e w' => e = .returned (.bool B) ∧ Below w.heap.size w w' := by
  have c33 : (w.alloc (.cells vs.toArray 62)).cell? ⟨w.heap.size, 33, none⟩ = some (.slice a l.length c) := by rw [(boxB.new w vs.toArray 62).cell 33]; simpa using h33
  have H := spec_has a c l x B (w.alloc (.cells vs.toArray 62)) (h.below (n1 _ _)) hl hB
  have HB : Hid (Below w.heap.size w (w.alloc (.cells vs.toArray 62))) := n1 _ _
  clear h h33 hB hl
  go_enter Tryz.func16, Tryz.ntmps16
  go_wp2_with (go_at_call 48; refine H.mono ?_; rintro e w1 ⟨rfl, rfl⟩)
  go_ret
  exact ⟨rfl, HB.out⟩
end Go.Proofs.YtnabnghjejncpaaGreat.AdmSmallS
