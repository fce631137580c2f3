/- What the model's Knows and Room answer; nothing that was there turns; no condition but those written in each. -/
import Derived.Test.YtnabnghjejncpaaRows
import Derived.WalkKit
import Derived.WalkSmall
import Derived.BigQuiet
import Derived.Deep.RegionWith
import Derived.Deep.DeepCutAuto
import Derived.Test.YtnabnghjejncpaaListKit
import Derived.Test.YtnabnghjejncpaaHoldKit
import Derived.Test.YtnabnghjejncpaaIntKit
import Derived.Test.YtnabnghjejncpaaSlotKit
import Derived.Test.YtnabnghjejncpaaNearKit
import Derived.Test.YtnabnghjejncpaaLedCount
import Derived.Test.YtnabnghjejncpaaAdmPure
namespace Go.Proofs.Ytnabnghjejncpaa.AdmSmallS
open Go.RowKit ListKit HoldKit NearKit AdmPure
set_option maxRecDepth 8000
set_option linter.unusedVariables false
set_option linter.unusedSimpArgs false

set_option maxHeartbeats 2000000 in
theorem spec_has (a : Option Addr) (c : Nat) (l : List Int) (x : Int) (B : Bool) (w : World) (h : Own 3 1 IntKit.cells w a l) (hl : l.length ≤ 1048577) (hB : Hid (B = true ↔ x ∈ l)) :
    Calls Try.prog 63 #[.slice a l.length c, .int .i64 x] w fun e w' => e = .returned (.bool B) ∧ w' = w := by
  have HA : Hid (Own 3 1 IntKit.cells w a l) := h
  clear h
  go_enter Try.func63, Try.ntmps63
  go_wp2
  go_loop [9] (fun i => ∃ k : Nat, k ≤ l.length ∧ i = .int .i64 (k : Int) ∧ Hid (∀ (j : Nat) (h : j < l.length), j < k → l[j] ≠ x)) (fun i => l.length - (intOf i).toNat)
  case atStart => exact ⟨0, by omega, rfl, fun j _ hj => by omega⟩
  case round =>
    obtain ⟨k, hk, rfl, HK⟩ := hrel
    by_cases hlt : k < l.length
    · rcases HA.out with hnil | ⟨g, o, rfl, hr⟩
      · rw [hnil] at hlt; simp at hlt
      · have r0 : w.cell? ⟨g, o + k, none⟩ = some (.int .i64 l[k]) := by have := hr.cell k hlt 0 (by omega); simpa [IntKit.cells] using this
        have h0k : (0 : Int) ≤ (k : Int) := by omega
        have hkl : (k : Int) < (l.length : Int) := by omega
        have wk : IntKind.i64.wrap ((k : Int) + 1) = ((k + 1 : Nat) : Int) := by rw [IntKind.wrap_i64]; omega
        have HU : Hid (∃ u, l[k] = u) := ⟨_, rfl⟩
        obtain ⟨u, hu⟩ := HU.out
        rw [hu] at r0
        by_cases hx : u = x
        · have t0 : (u == x) = true := by simpa using hx
          obtain rfl : B = true := hB.out.2 (by rw [← hx, ← hu]; exact List.getElem_mem hlt)
          clear hr hu hx HU
          go_wp2
          go_ret
          exact ⟨rfl, rfl⟩
        · have t0 : (u == x) = false := by simpa using hx
          have HK2 : Hid (∀ (j : Nat) (h : j < l.length), j < k + 1 → l[j] ≠ x) := fun j h hj => by
            by_cases e : j = k
            · subst e; rw [hu]; exact hx
            · exact HK.out j h (by omega)
          clear hr hu hx HU
          go_wp2
          go_round
          case rel => exact ⟨k + 1, by omega, by go_num, HK2⟩
          case measure => simp [intOf]; omega
    · have hkl : ¬ (k : Int) < (l.length : Int) := by omega
      obtain rfl : B = false := by
        cases B with
        | false => rfl
        | true =>
          obtain ⟨j, hj, e⟩ := List.getElem_of_mem (hB.out.1 rfl)
          exact (HK.out j hj (by omega) e).elim
      go_wp2
      go_ret
      exact ⟨rfl, rfl⟩
set_option maxHeartbeats 2000000 in
theorem spec_knows (vs : List Value) (a : Option Addr) (c : Nat) (l : List Int) (x : Int) (B : Bool) (w : World) (h33 : vs[33]? = some (.slice a l.length c)) (h : Own 3 1 IntKit.cells w a l) (hl : l.length ≤ 1048577) (hB : Hid (B = true ↔ x ∈ l)) :
    Calls Try.prog 26 #[.agg vs.toArray, .int .i64 x] w fun e w' => e = .returned (.bool B) ∧ Below w.heap.size w w' := by
  have c33 : (w.alloc (.cells vs.toArray 48)).cell? ⟨w.heap.size, 33, none⟩ = some (.slice a l.length c) := by rw [(boxB.new w vs.toArray 48).cell 33]; simpa using h33
  have H := spec_has a c l x B (w.alloc (.cells vs.toArray 48)) (h.below (n1 _ _)) hl hB
  have HB : Hid (Below w.heap.size w (w.alloc (.cells vs.toArray 48))) := n1 _ _
  clear h h33 hB hl
  go_enter Try.func26, Try.ntmps26
  go_wp2_with (go_at_call 63; refine H.mono ?_; rintro e w1 ⟨rfl, rfl⟩)
  go_ret
  exact ⟨rfl, HB.out⟩
/-- A sum whose second part isn't above 0. -/
theorem spec_addsat (x f s : Int) (w : World) (hx : -9223372036854775808 ≤ x ∧ x ≤ 9223372036854775807) (hf : 0 ≤ f ∧ f ≤ 1048577) (hs : s = if x - f < -9223372036854775808 then -9223372036854775808 else x - f) :
    Calls Try.prog 71 #[.int .i64 x, .int .i64 (-f)] w fun e w' => e = .returned (.int .i64 s) ∧ w' = w := by
  have w1 : 0 ≤ x → IntKind.i64.wrap (9223372036854775807 - x) = 9223372036854775807 - x := fun h => by rw [IntKind.wrap_i64]; omega
  have w2 : x < 0 → IntKind.i64.wrap (-9223372036854775808 - x) = -9223372036854775808 - x := fun h => by rw [IntKind.wrap_i64]; omega
  by_cases h0 : 0 < x
  · have t0 : decide (0 < x) = true := by simpa using h0
    have e1 := w1 (by omega)
    have t1 : decide (9223372036854775807 - x < -f) = false := by simp; omega
    have t2 : decide (x < 0) = false := by simp; omega
    have e3 : IntKind.i64.wrap (x + -f) = s := by rw [IntKind.wrap_i64, hs]; split <;> omega
    clear w1 w2 hs
    go_enter Try.func71, Try.ntmps71
    go_wp2
    go_ret
    exact ⟨rfl, rfl⟩
  · have t0 : decide (0 < x) = false := by simpa using h0
    by_cases h1 : x < 0
    · have t1 : decide (x < 0) = true := by simpa using h1
      have e2 := w2 h1
      by_cases h2 : -f < -9223372036854775808 - x
      · have t2 : decide (-f < -9223372036854775808 - x) = true := by simpa using h2
        obtain rfl : s = -9223372036854775808 := by rw [hs, if_pos (by omega)]
        clear w1 w2 hs
        go_enter Try.func71, Try.ntmps71
        go_wp2
        go_ret
        exact ⟨rfl, rfl⟩
      · have t2 : decide (-f < -9223372036854775808 - x) = false := by simpa using h2
        have e3 : IntKind.i64.wrap (x + -f) = s := by rw [IntKind.wrap_i64, hs]; split <;> omega
        clear w1 w2 hs
        go_enter Try.func71, Try.ntmps71
        go_wp2
        go_ret
        exact ⟨rfl, rfl⟩
    · have t1 : decide (x < 0) = false := by simpa using h1
      have e3 : IntKind.i64.wrap (x + -f) = s := by rw [IntKind.wrap_i64, hs]; split <;> omega
      clear w1 w2 hs
      go_enter Try.func71, Try.ntmps71
      go_wp2
      go_ret
      exact ⟨rfl, rfl⟩
theorem spec_clamp0 (s : Int) (w : World) (hs : s ≤ 9223372036854775807) : Calls Try.prog 70 #[.int .i64 s, .int .i64 0, .int .i64 9223372036854775807] w fun e w' => e = .returned (.int .i64 (if s < 0 then 0 else s)) ∧ w' = w := by
  by_cases h : s < 0
  · rw [if_pos h]
    go_enter Try.func70, Try.ntmps70
    go_wp2
    go_ret
    exact ⟨rfl, rfl⟩
  · have h2 : ¬ 9223372036854775807 < s := by omega
    rw [if_neg h]
    go_enter Try.func70, Try.ntmps70
    go_wp2
    go_ret
    exact ⟨rfl, rfl⟩
set_option maxHeartbeats 4000000 in
theorem spec_room (vs : List Value) (x : Int) (a : Option Addr) (c : Nat) (L : List SlotKit.Slot) (w : World) (hx : -9223372036854775808 ≤ x ∧ x ≤ 9223372036854775807) (h20 : vs[20]? = some (.int .i64 x)) (h25 : vs[25]? = some (.slice a L.length c)) (h : Own 105 5 SlotKit.cells w a L) (hl : (L.length : Int) ≤ 1048577) :
    Calls Try.prog 29 #[.agg vs.toArray] w fun e w' => e = .returned (.int .i64 (roomI x (LedCount.cnt LedCount.isUsed L L.length : Int))) ∧ Below w.heap.size w w' := by
  have hcn : LedCount.cnt LedCount.isUsed L L.length ≤ L.length := LedCount.cnt_le _ _ _
  have HF := fun (W : World) (h : Own 105 5 SlotKit.cells W a L) => LedCount.spec_flying a c L W h hl
  obtain ⟨f, hf⟩ : ∃ f : Nat, LedCount.cnt LedCount.isUsed L L.length = f := ⟨_, rfl⟩
  rw [hf] at HF hcn ⊢
  have hfi : (0 : Int) ≤ (f : Int) ∧ (f : Int) ≤ 1048577 := by omega
  obtain ⟨s, hs⟩ : ∃ s : Int, s = if x - (f : Int) < -9223372036854775808 then -9223372036854775808 else x - (f : Int) := ⟨_, rfl⟩
  have HS := fun (W : World) => spec_addsat x f s W hx hfi hs
  have HC := fun (W : World) => spec_clamp0 s W (by rw [hs]; split <;> omega)
  have er : (if s < 0 then 0 else s) = roomI x (f : Int) := by
    unfold roomI
    by_cases q : x - (f : Int) < -9223372036854775808
    · rw [hs, if_pos q, if_pos (by omega), if_pos (by omega)]
    · rw [hs, if_neg q]
  rw [er] at HC
  have wn : IntKind.i64.wrap (-(f : Int)) = -(f : Int) := by rw [IntKind.wrap_i64]; omega
  clear er hs hf
  have H0 : Hid (Below w.heap.size w (w.alloc (.cells vs.toArray 48)) ∧ Own 105 5 SlotKit.cells (w.alloc (.cells vs.toArray 48)) a L) := ⟨n1 _ _, h.below (n1 _ _)⟩
  have c20 : (w.alloc (.cells vs.toArray 48)).cell? ⟨w.heap.size, 20, none⟩ = some (.int .i64 x) := by rw [(boxB.new w vs.toArray 48).cell 20]; simpa using h20
  have c25 : (w.alloc (.cells vs.toArray 48)).cell? ⟨w.heap.size, 25, none⟩ = some (.slice a L.length c) := by rw [(boxB.new w vs.toArray 48).cell 25]; simpa using h25
  clear h h20 h25 hl hcn hx hfi
  go_enter Try.func29, Try.ntmps29
  go_upto_region 1 with fail
  generalize w.alloc (.cells vs.toArray 48) = v at *
  have near := Near.is v
  have X20 := Near.cell c20
  have X25 := Near.cell c25
  clear c20 c25
  refine wp_region_near (by kernel_rfl) (by kernel_rfl) ?_
  repeat (go_big_quiet_step (first | (go_at_call 72; exact near_call (HF _ (H0.out.2.below (Near.near _)))) | (go_at_call 71; exact near_same (HS _)) | (go_at_call 70; exact near_same (HC _))))
  refine wpQuiet_nil ?_
  intro wx hwx
  obtain ⟨yy, hyy⟩ := hwx
  subst hyy
  have H3 : Hid (Below w.heap.size w yy.w) := H0.out.1.trans (yy.near.mono H0.out.1.size)
  obtain ⟨wd, hwd⟩ : ∃ wd, yy.w = wd := ⟨_, rfl⟩
  rw [hwd] at H3 ⊢
  clear hwd yy near X20 X25 H0
  go_wp2
  go_ret
  exact ⟨rfl, H3.out⟩
end Go.Proofs.Ytnabnghjejncpaa.AdmSmallS
