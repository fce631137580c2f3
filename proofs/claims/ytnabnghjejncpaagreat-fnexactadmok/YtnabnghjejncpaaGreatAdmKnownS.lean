/- Whether the numbers that a machine knows are right, by the model; nothing that was there turns. -/
import Derived.Test.YtnabnghjejncpaaGreatRows
import Derived.WalkKit
import Derived.WalkSmall
import Derived.BigQuiet
import Derived.Deep.RegionWith
import Derived.Deep.DeepCutAuto
import Derived.Test.YtnabnghjejncpaaGreatListKit
import Derived.Test.YtnabnghjejncpaaGreatHoldKit
import Derived.Test.YtnabnghjejncpaaGreatIntKit
import Derived.Test.YtnabnghjejncpaaGreatAdmKnownP
namespace Go.Proofs.YtnabnghjejncpaaGreat.AdmKnownS
open Go.RowKit ListKit HoldKit AdmKnownP
set_option maxRecDepth 8000
set_option linter.unusedVariables false
set_option linter.unusedSimpArgs false

set_option maxHeartbeats 4000000 in
theorem spec_known (vs : List Value) (a : Option Addr) (c : Nat) (l : List Int) (B : Bool) (w : World) (h33 : vs[33]? = some (.slice a l.length c)) (h : Own 3 1 IntKit.cells w a l) (hl : l.length ≤ 1048577) (HB : Hid (B = true ↔ knownOk l)) :
    Calls Tryz.prog 15 #[.agg vs.toArray] w fun e w' => e = .returned (.bool B) ∧ Below w.heap.size w w' := by
  have c33 : (w.alloc (.cells vs.toArray 62)).cell? ⟨w.heap.size, 33, none⟩ = some (.slice a l.length c) := by rw [(boxB.new w vs.toArray 62).cell 33]; simpa using h33
  have HA : Hid (Own 3 1 IntKit.cells (w.alloc (.cells vs.toArray 62)) a l) := h.below (n1 _ _)
  have H0 : Hid (Below w.heap.size w (w.alloc (.cells vs.toArray 62))) := n1 _ _
  clear h h33
  go_enter Tryz.func15, Tryz.ntmps15
  go_upto_region 2 with fail
  generalize w.alloc (.cells vs.toArray 62) = v at *
  go_loop [8] (fun i => ∃ k : Nat, k ≤ l.length ∧ i = .int .i64 (k : Int) ∧ Hid (∀ (j : Nat) (h : j < l.length), j < k → oneOk l j h)) (fun i => l.length - (intOf i).toNat)
  case atStart => exact ⟨0, by omega, rfl, fun j _ hj => by omega⟩
  case round =>
    obtain ⟨k, hk, rfl, HK⟩ := hrel
    by_cases hlt : k < l.length
    · rcases HA.out with hnil | ⟨g, o, rfl, hr⟩
      · rw [hnil] at hlt; simp at hlt
      · have r0 : v.cell? ⟨g, o + k, none⟩ = some (.int .i64 l[k]) := by have := hr.cell k hlt 0 (by omega); simpa [IntKit.cells] using this
        have h0k : (0 : Int) ≤ (k : Int) := by omega
        have hkl : (k : Int) < (l.length : Int) := by omega
        have wk : IntKind.i64.wrap ((k : Int) + 1) = ((k + 1 : Nat) : Int) := by rw [IntKind.wrap_i64]; omega
        have hpre : ∀ (j : Nat) (hj : j < l.length), v.cell? ⟨g, o + j, none⟩ = some (.int .i64 l[j]) := fun j hj => by have := hr.cell j hj 0 (by omega); simpa [IntKit.cells] using this
        have HO : Hid (∀ u, l[k] = u → oneOk l k hlt = (1 ≤ u ∧ u ≤ 1000000 ∧ (0 < k → l[k - 1]'(by omega) < u))) := fun u hu => by subst hu; rfl
        have HU : Hid (∃ u, l[k] = u) := ⟨_, rfl⟩
        obtain ⟨u, hu⟩ := HU.out
        rw [hu] at r0
        clear HU
        by_cases t1 : u < 1
        · have d1 : decide (u < 1) = true := by simpa using t1
          clear HO
          obtain rfl : B = false := by
            cases B with
            | false => rfl
            | true =>
              have h9 := (HB.out.1 rfl).2 k hlt
              unfold oneOk at h9
              rw [hu] at h9
              omega
          clear hr hu HK hpre
          go_wp2
          go_ret
          exact ⟨rfl, H0.out⟩
        · have d1 : decide (u < 1) = false := by simpa using t1
          by_cases t2 : 1000000 < u
          · have d2 : decide (1000000 < u) = true := by simpa using t2
            clear HO
            obtain rfl : B = false := by
              cases B with
              | false => rfl
              | true =>
                have h9 := (HB.out.1 rfl).2 k hlt
                unfold oneOk at h9
                rw [hu] at h9
                omega
            clear hr hu HK hpre
            go_wp2
            go_ret
            exact ⟨rfl, H0.out⟩
          · have d2 : decide (1000000 < u) = false := by simpa using t2
            by_cases t3 : 0 < k
            · have d3 : decide ((0 : Int) < (k : Int)) = true := by simp; omega
              have d3b : decide (0 < k) = true := by simpa using t3
              obtain ⟨j, hj⟩ : ∃ j : Nat, k = j + 1 := ⟨k - 1, by omega⟩
              have e1 : (k : Int) - 1 = (j : Int) := by omega
              have e2 : IntKind.i64.wrap ((j : Nat) : Int) = (j : Int) := by rw [IntKind.wrap_i64]; omega
              have h0j : (0 : Int) ≤ (j : Int) := by omega
              have hjl : (j : Int) < (l.length : Int) := by omega
              have r1 := hpre j (by omega)
              obtain ⟨y, hy⟩ : ∃ y, l[j]'(by omega) = y := ⟨_, rfl⟩
              rw [hy] at r1
              have hyk : l[k - 1]'(by omega) = y := by rw [← hy]; congr 1; omega
              by_cases t4 : u ≤ y
              · have d4 : decide (u ≤ y) = true := by simpa using t4
                obtain rfl : B = false := by
                  cases B with
                  | false => rfl
                  | true =>
                    have h9 := (HB.out.1 rfl).2 k hlt
                    unfold oneOk at h9
                    rw [hu] at h9
                    have h8 := h9.2.2 t3; rw [hyk] at h8; omega
                clear hyk hy HO hr hu HK hpre hj
                go_wp2
                go_ret
                exact ⟨rfl, H0.out⟩
              · have d4 : decide (u ≤ y) = false := by simpa using t4
                have hone : oneOk l k hlt := by rw [HO.out u hu]; exact ⟨by omega, by omega, fun _ => by rw [hyk]; omega⟩
                clear hyk hy HO
                have HK2 : Hid (∀ (j : Nat) (h : j < l.length), j < k + 1 → oneOk l j h) := fun j h hj => by
                  by_cases e : j = k
                  · subst e; exact hone
                  · exact HK.out j h (by omega)
                clear hr hu HK hone hpre hj
                go_wp2
                go_round
                case rel => exact ⟨k + 1, by omega, by go_num, HK2⟩
                case measure => simp [intOf]; omega
            · have d3 : decide ((0 : Int) < (k : Int)) = false := by simp; omega
              have d3b : decide (0 < k) = false := by simpa using t3
              have hone : oneOk l k hlt := by rw [HO.out u hu]; exact ⟨by omega, by omega, fun h => (t3 h).elim⟩
              clear HO
              have HK2 : Hid (∀ (j : Nat) (h : j < l.length), j < k + 1 → oneOk l j h) := fun j h hj => by
                by_cases e : j = k
                · subst e; exact hone
                · exact HK.out j h (by omega)
              clear hr hu HK hone hpre
              go_wp2
              go_round
              case rel => exact ⟨k + 1, by omega, by go_num, HK2⟩
              case measure => simp [intOf]; omega
    · have hkl : ¬ (k : Int) < (l.length : Int) := by omega
      have HF : Hid (∀ (j : Nat) (h : j < l.length), oneOk l j h) := fun j h => HK.out j h (by omega)
      by_cases tl : l.length ≤ 2000
      · have dl : decide ((l.length : Int) ≤ 2000) = true := by simp; omega
        obtain rfl : B = true := HB.out.2 ⟨tl, HF.out⟩
        clear HK hlt
        go_wp2
        go_ret
        exact ⟨rfl, H0.out⟩
      · have dl : decide ((l.length : Int) ≤ 2000) = false := by simp; omega
        obtain rfl : B = false := by
          cases B with
          | false => rfl
          | true => exact (tl (HB.out.1 rfl).1).elim
        clear HK hlt
        go_wp2
        go_ret
        exact ⟨rfl, H0.out⟩
end Go.Proofs.YtnabnghjejncpaaGreat.AdmKnownS
