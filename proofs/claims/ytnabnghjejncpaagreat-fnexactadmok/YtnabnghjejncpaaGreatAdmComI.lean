/- The program's numbers that have come: whether they are right, and whether one of them is there; nothing that was there turns. -/
import Derived.Test.YtnabnghjejncpaaGreatRows
import Derived.WalkKit
import Derived.WalkSmall
import Derived.BigQuiet
import Derived.Deep.RegionWith
import Derived.Deep.DeepCutAuto
import Derived.Test.YtnabnghjejncpaaGreatListKit
import Derived.Test.YtnabnghjejncpaaGreatHoldKit
import Derived.Test.YtnabnghjejncpaaGreatIntKit
import Derived.Test.YtnabnghjejncpaaGreatAdmKnownP
import Derived.Test.YtnabnghjejncpaaGreatShelfB
namespace Go.Proofs.YtnabnghjejncpaaGreat.AdmComI
open Go.RowKit ListKit HoldKit AdmKnownP
set_option maxRecDepth 8000
set_option linter.unusedVariables false
set_option linter.unusedSimpArgs false

theorem impl_isid (n : Int) (B : Bool) (w : World) (hB : Hid (B = true ↔ 1 ≤ n ∧ n ≤ 1000000)) : Calls Tryz.prog 97 #[.int .i64 n] w fun e w' => e = .returned (.bool B) ∧ w' = w := by
  by_cases h0 : 1 ≤ n
  · have d0 : decide (1 ≤ n) = true := by simpa using h0
    by_cases h1 : n ≤ 1000000
    · have d1 : decide (n ≤ 1000000) = true := by simpa using h1
      obtain rfl : B = true := hB.out.2 ⟨h0, h1⟩
      go_enter Tryz.func97, Tryz.ntmps97
      go_wp2
      go_ret
      exact ⟨rfl, rfl⟩
    · have d1 : decide (n ≤ 1000000) = false := by simpa using h1
      obtain rfl : B = false := by
        cases B with
        | false => rfl
        | true => exact (h1 (hB.out.1 rfl).2).elim
      go_enter Tryz.func97, Tryz.ntmps97
      go_wp2
      go_ret
      exact ⟨rfl, rfl⟩
  · have d0 : decide (1 ≤ n) = false := by simpa using h0
    obtain rfl : B = false := by
      cases B with
      | false => rfl
      | true => exact (h0 (hB.out.1 rfl).1).elim
    go_enter Tryz.func97, Tryz.ntmps97
    go_wp2
    go_ret
    exact ⟨rfl, rfl⟩
set_option maxHeartbeats 4000000 in
theorem impl_right (a : Option Addr) (c : Nat) (l : List Int) (B : Bool) (w : World) (h : Own 3 1 IntKit.cells w a l) (hl : l.length ≤ 1048577) (HB : Hid (B = true ↔ knownOk l)) :
    Calls Tryz.prog 65 #[.slice a l.length c] w fun e w' => e = .returned (.bool B) ∧ w' = w := by
  have HA : Hid (Own 3 1 IntKit.cells w a l) := h
  clear h
  by_cases tl : 2000 < l.length
  · have dl : (2000 : Int) < (l.length : Int) := by omega
    obtain rfl : B = false := by
      cases B with
      | false => rfl
      | true => have := (HB.out.1 rfl).1; omega
    go_enter Tryz.func65, Tryz.ntmps65
    go_wp2
    go_ret
    exact ⟨rfl, rfl⟩
  have dl : ¬ (2000 : Int) < (l.length : Int) := by omega
  go_enter Tryz.func65, Tryz.ntmps65
  go_wp2
  go_loop [3, 4, 10] (fun t3 t4 i => ∃ k : Nat, k ≤ l.length ∧ i = .int .i64 (k : Int) ∧ Hid (∀ (j : Nat) (h : j < l.length), j < k → oneOk l j h)) (fun _ _ i => l.length - (intOf i).toNat)
  case atStart => exact ⟨0, by omega, rfl, fun j _ hj => by omega⟩
  case round =>
    obtain ⟨k, hk, rfl, HK⟩ := hrel
    clear dl
    by_cases hlt : k < l.length
    · rcases HA.out with hnil | ⟨g, o, rfl, hr⟩
      · rw [hnil] at hlt; simp at hlt
      · have r0 : w.cell? ⟨g, o + k, none⟩ = some (.int .i64 l[k]) := by have := hr.cell k hlt 0 (by omega); simpa [IntKit.cells] using this
        have h0k : (0 : Int) ≤ (k : Int) := by omega
        have hkl : (k : Int) < (l.length : Int) := by omega
        have wk : IntKind.i64.wrap ((k : Int) + 1) = ((k + 1 : Nat) : Int) := by rw [IntKind.wrap_i64]; omega
        have hpre : ∀ (j : Nat) (hj : j < l.length), w.cell? ⟨g, o + j, none⟩ = some (.int .i64 l[j]) := fun j hj => by have := hr.cell j hj 0 (by omega); simpa [IntKit.cells] using this
        have HO : Hid (∀ u, l[k] = u → oneOk l k hlt = (1 ≤ u ∧ u ≤ 1000000 ∧ (0 < k → l[k - 1]'(by omega) < u))) := fun u hu => by subst hu; rfl
        have HU : Hid (∃ u, l[k] = u) := ⟨_, rfl⟩
        obtain ⟨u, hu⟩ := HU.out
        rw [hu] at r0
        clear HU
        obtain ⟨b, hb⟩ : ∃ b : Bool, b = true ↔ 1 ≤ u ∧ u ≤ 1000000 := ⟨decide _, decide_eq_true_iff⟩
        have HBI : Hid (b = true ↔ 1 ≤ u ∧ u ≤ 1000000) := hb
        have HI := fun W => impl_isid u b W HBI
        clear hb
        cases b with
        | false =>
          obtain rfl : B = false := by
            cases B with
            | false => rfl
            | true =>
              have h9 := (HB.out.1 rfl).2 k hlt
              rw [HO.out u hu] at h9
              have := HBI.out.2 ⟨h9.1, h9.2.1⟩
              cases this
          clear HO hr hu HK hpre
          go_wp2_with (go_at_call 97; refine (HI _).mono ?_; rintro e w1 ⟨rfl, hw⟩; subst w1)
          go_ret
          exact ⟨rfl, rfl⟩
        | true =>
          by_cases t3 : 0 < k
          · have d3 : decide ((0 : Int) < (k : Int)) = true := by simp; omega
            have d3b : decide (0 < k) = true := by simpa using t3
            obtain ⟨j, hj⟩ : ∃ j : Nat, k = j + 1 := ⟨k - 1, by omega⟩
            have e1 : (k : Int) - 1 = (j : Int) := by omega
            have e2 : IntKind.i64.wrap ((j : Nat) : Int) = (j : Int) := by rw [IntKind.wrap_i64]; omega
            have h0j : (0 : Int) ≤ (j : Int) := by omega
            have hjl : (j : Int) < (l.length : Int) := by omega
            have r1 := hpre j (by omega)
            obtain ⟨y, hy⟩ : ∃ y, l[j]'(by omega) = y := ⟨_, rfl⟩
            rw [hy] at r1
            have hyk : l[k - 1]'(by omega) = y := by rw [← hy]; congr 1; omega
            by_cases t4 : u ≤ y
            · have d4 : decide (u ≤ y) = true := by simpa using t4
              obtain rfl : B = false := by
                cases B with
                | false => rfl
                | true =>
                  have h9 := (HB.out.1 rfl).2 k hlt
                  rw [HO.out u hu] at h9
                  have h8 := h9.2.2 t3; rw [hyk] at h8; omega
              clear hyk hy HO hr hu HK hpre hj
              go_wp2_with (go_at_call 97; refine (HI _).mono ?_; rintro e w1 ⟨rfl, hw⟩; subst w1)
              go_ret
              exact ⟨rfl, rfl⟩
            · have d4 : decide (u ≤ y) = false := by simpa using t4
              have hone : oneOk l k hlt := by rw [HO.out u hu]; exact ⟨(HBI.out.1 rfl).1, (HBI.out.1 rfl).2, fun _ => by rw [hyk]; omega⟩
              clear hyk hy HO
              have HK2 : Hid (∀ (j : Nat) (h : j < l.length), j < k + 1 → oneOk l j h) := fun j h hj => by
                by_cases e : j = k
                · subst e; exact hone
                · exact HK.out j h (by omega)
              clear hr hu HK hone hpre hj
              go_wp2_with (go_at_call 97; refine (HI _).mono ?_; rintro e w1 ⟨rfl, hw⟩; subst w1)
              go_round
              case rel => exact ⟨k + 1, by omega, by go_num, HK2⟩
              case measure => simp [intOf]; omega
          · have d3 : decide ((0 : Int) < (k : Int)) = false := by simp; omega
            have d3b : decide (0 < k) = false := by simpa using t3
            have hone : oneOk l k hlt := by rw [HO.out u hu]; exact ⟨(HBI.out.1 rfl).1, (HBI.out.1 rfl).2, fun h => (t3 h).elim⟩
            clear HO
            have HK2 : Hid (∀ (j : Nat) (h : j < l.length), j < k + 1 → oneOk l j h) := fun j h hj => by
              by_cases e : j = k
              · subst e; exact hone
              · exact HK.out j h (by omega)
            clear hr hu HK hone hpre
            go_wp2_with (go_at_call 97; refine (HI _).mono ?_; rintro e w1 ⟨rfl, hw⟩; subst w1)
            go_round
            case rel => exact ⟨k + 1, by omega, by go_num, HK2⟩
            case measure => simp [intOf]; omega
    · have hkl : ¬ (k : Int) < (l.length : Int) := by omega
      obtain rfl : B = true := HB.out.2 ⟨by omega, fun j h => HK.out j h (by omega)⟩
      clear HK hlt
      go_wp2
      go_ret
      exact ⟨rfl, rfl⟩
theorem rises (l : List Int) (h : knownOk l) : l.Pairwise (· ≤ ·) := by
  have step : ∀ (i : Nat) (hi : i + 1 < l.length), l[i] < l[i + 1] := fun i hi => by
    have := (h.2 (i + 1) hi).2.2 (by omega)
    simpa using this
  have all : ∀ (d i : Nat) (hi : i + d < l.length), l[i]'(by omega) ≤ l[i + d] := by
    intro d
    induction d with
    | zero => intro i hi; exact Int.le_refl _
    | succ d ih =>
      intro i hi
      have h1 := ih i (by omega)
      have h2 := step (i + d) (by omega)
      have h3 : l[i + (d + 1)] = l[i + d + 1]'(by omega) := rfl
      rw [h3]
      omega
  rw [List.pairwise_iff_getElem]
  intro i j hi hj hij
  obtain ⟨d, hd⟩ : ∃ d, j = i + d := ⟨j - i, by omega⟩
  subst hd
  exact all d i hj
set_option maxHeartbeats 2000000 in
theorem search_none (a : Option Addr) (c : Nat) (x : Int) (w : World) : Calls Tryz.prog 116 #[.slice a 0 c, .int .i64 x] w fun e w' => e = .returned (.tuple #[.int .i64 0, .bool false]) ∧ w' = w := by
  go_enter Tryz.func116, Tryz.ntmps116
  go_wp2
  go_loop [7, 8, 9] (fun t7 t8 _ => t7 = .int .i64 0 ∧ t8 = .int .i64 0) (fun _ _ _ => 0)
  case atStart => exact ⟨rfl, rfl⟩
  case round =>
    obtain ⟨rfl, rfl⟩ := hrel
    go_wp2
    exact bodyPost_ret (v := .tuple #[.int .i64 0, .bool false]) (by simp [results, Tryz.results116, go_sem]) rfl ⟨rfl, rfl⟩
set_option maxHeartbeats 2000000 in
theorem impl_has (a : Option Addr) (c : Nat) (l : List Int) (x : Int) (B : Bool) (w : World) (h : Own 3 1 IntKit.cells w a l) (hl : l.length ≤ 1048577) (hk : knownOk l) (hB : Hid (B = true ↔ x ∈ l)) :
    Calls Tryz.prog 98 #[.slice a l.length c, .int .i64 x] w fun e w' => e = .returned (.bool B) ∧ Below w.heap.size w w' := by
  have HS : ∃ z : Int, Calls Tryz.prog 116 #[.slice a l.length c, .int .i64 x] w fun e w' => e = .returned (.tuple #[.int .i64 z, .bool B]) ∧ Below w.heap.size w w' := by
    rcases h with h | ⟨g, o, rfl, hr⟩
    · subst h
      obtain rfl : B = false := by
        cases B with
        | false => rfl
        | true => have := hB.out.1 rfl; simp at this
      refine ⟨0, (search_none a c x w).mono ?_⟩
      rintro e w' ⟨rfl, rfl⟩
      exact ⟨rfl, Below.refl _ _⟩
    · have h9 := YtnabnghjejncpaaGreatShelfB.search g o l.length c l x w (Nat.le_refl _) (by omega) (fun j hj => by
        have := hr.cell j hj 0 (by omega)
        rw [List.getD_eq_getElem?_getD, List.getElem?_eq_getElem hj]
        simpa [IntKit.cells] using this) (by rw [List.take_length]; exact rises l hk)
      have e : (l.take l.length).contains x = B := by
        rw [List.take_length, Bool.eq_iff_iff, hB.out, List.contains_iff_mem]
      rw [e] at h9
      refine ⟨((l.take l.length).countP (· < x) : Nat), h9.mono (fun e w' h8 => ?_)⟩
      obtain ⟨rfl, q, rfl⟩ := h8
      exact ⟨rfl, below_drewN (Below.refl _ _) q⟩
  obtain ⟨z, HS⟩ := HS
  clear h hl hk hB
  go_enter Tryz.func98, Tryz.ntmps98
  go_wp2_with (go_at_call 116; refine HS.mono ?_; rintro e w1 ⟨rfl, hb⟩; have H1 : Hid (Below w.heap.size w w1) := hb; clear hb)
  go_ret
  exact ⟨rfl, H1.out⟩
end Go.Proofs.YtnabnghjejncpaaGreat.AdmComI
