/- What the model's and the program's LedgerOk answer, at every ledger of at most 2 to the 20 slots; nothing else turns. -/
import Derived.Test.YtnabnghjejncpaaGreatRows
import Derived.WalkKit
import Derived.WalkSmall
import Derived.BigQuiet
import Derived.Deep.RegionWith
import Derived.Deep.DeepCutAuto
import Derived.Test.YtnabnghjejncpaaGreatListKit
import Derived.Test.YtnabnghjejncpaaGreatSlotKit
import Derived.Test.YtnabnghjejncpaaGreatNearKit
import Derived.Test.YtnabnghjejncpaaGreatSlotOks
import Derived.Test.YtnabnghjejncpaaGreatLedFind
namespace Go.Proofs.YtnabnghjejncpaaGreat.LedOk
open Go.RowKit ListKit SlotKit NearKit SlotOks LedFind
set_option maxRecDepth 8000
set_option linter.unusedVariables false
set_option linter.unusedSimpArgs false

/-- Slot i is right, and no used one ahead of it is of its request. -/
def okAt (L : List Slot) (i : Nat) (h : i < L.length) : Prop := slotOk L[i] = true ∧ (L[i].x1 = true → ∀ (j : Nat) (hj : j < i), isOf L[i].x2 (L[j]'(by omega)) = false)
/-- A ledger is right. -/
def ledOk (L : List Slot) : Prop := L.length ≤ 60 ∧ ∀ (i : Nat) (h : i < L.length), okAt L i h

theorem flag (p : Prop) : ∃ B : Bool, Hid (B = true ↔ p) := by
  classical
  exact ⟨decide p, by show _ ↔ _; simp⟩
theorem row_take {t : TypeId} {m : Nat} {f : Slot → List Value} {w : World} {g o : Nat} {L : List Slot} (h : Row t m f w g o L) (k : Nat) : Row t m f w g o (L.take k) := by
  obtain ⟨cur, hg, hs, hc⟩ := h
  refine ⟨cur, hg, ?_, fun i hi j hj => ?_⟩
  · have h1 : (L.take k).length * m ≤ L.length * m := Nat.mul_le_mul_right m (by simp; omega)
    omega
  · rw [hc i (by simp at hi; omega) j hj]
    simp
theorem box_cell {w w' : World} {v : Value} {t : TypeId} (hb : Below (w.heap.size + 1) (w.alloc (.cells #[v] t)) w') : w'.cell? ⟨w.heap.size, 0, none⟩ = some v := by
  have h := (hb.block w.heap.size (by omega)).trans (heap_alloc_new w (.cells #[v] t))
  simp [World.cell?, h]

theorem spec_slot (x0 : Int) (x1 : Bool) (x2 x3 x4 : Int) (v : Bool) (w : World) (HV : Hid (slotOk ⟨x0, x1, x2, x3, x4⟩ = v)) :
    Calls Tryz.prog 81 #[.agg #[.int .i64 x0, .bool x1, .int .i64 x2, .int .i64 x3, .int .i64 x4]] w fun e w' => e = .returned (.bool v) ∧ Below w.heap.size w w' := by
  rw [← HV.out]; exact spec_slotok x0 x1 x2 x3 x4 w
theorem impl_slot (x0 : Int) (x1 : Bool) (x2 x3 x4 : Int) (v : Bool) (w : World) (HV : Hid (slotOk ⟨x0, x1, x2, x3, x4⟩ = v)) :
    Calls Tryz.prog 92 #[.agg #[.int .i64 x0, .bool x1, .int .i64 x2, .int .i64 x3, .int .i64 x4]] w fun e w' => e = .returned (.bool v) ∧ Below w.heap.size w w' := by
  rw [← HV.out]; exact impl_slotok x0 x1 x2 x3 x4 w

set_option maxHeartbeats 8000000 in
theorem spec_ledok (a : Option Addr) (c : Nat) (L : List Slot) (B : Bool) (w : World) (h : Own 75 5 cells w a L) (hl : (L.length : Int) ≤ 1048577) (hc : L.length ≤ c) (HB : Hid (B = true ↔ ledOk L)) :
    Calls Tryz.prog 44 #[.agg #[.slice a L.length c]] w fun e w' => e = .returned (.bool B) ∧ Below w.heap.size w w' := by
  have HA : Hid (Own 75 5 cells w a L) := h
  clear h
  obtain ⟨n, hn⟩ : ∃ n, L.length = n := ⟨_, rfl⟩
  have HN : Hid (L.length = n) := hn
  rw [hn] at hl hc ⊢
  clear hn
  have bf : Hid (¬ ledOk L → B = false) := fun h => by cases B with
    | false => rfl
    | true => exact absurd (HB.out.1 rfl) h
  have bt : Hid (ledOk L → B = true) := fun h => HB.out.2 h
  go_enter Tryz.func44, Tryz.ntmps44
  go_wp2
  go_loopw [10] (fun i wr => ∃ k : Nat, k ≤ n ∧ i = .int .i64 k ∧ Hid (∀ (j : Nat) (h : j < L.length), j < k → okAt L j h) ∧ Hid (Below (w.heap.size + 1) (w.alloc (.cells #[.slice a n c] 55)) wr)) (fun i _ => n - (intOf i).toNat)
  case atStart => exact ⟨0, by omega, rfl, fun j _ hj => by omega, Below.refl _ _⟩
  case round =>
    obtain ⟨k, hk, rfl, HK, HW⟩ := hrel
    have c0 := box_cell HW.out
    have HW2 : Hid (Below w.heap.size w wr ∧ w.heap.size < wr.heap.size) := ⟨((Below.refl _ _).alloc (Nat.le_refl _) _).trans (HW.out.mono (by omega)), by have := HW.out.size; simp at this; omega⟩
    by_cases hlt : k < n
    · have hlt2 : k < L.length := by rw [HN.out]; exact hlt
      rcases HA.out with hnil | ⟨g, o, rfl, hr⟩
      · rw [hnil] at hlt2; simp at hlt2
      · have hr1 : Row 75 5 cells wr g o L := hr.below HW2.out.1
        obtain ⟨sx, hsx⟩ : ∃ s, L[k] = s := ⟨_, rfl⟩
        obtain ⟨x0, x1, x2, x3, x4⟩ := sx
        have u9 := fun j hj => (hr1).cell k hlt2 j hj
        have p0 : wr.cell? ⟨g, o + k * 5, none⟩ = some (.int .i64 x0) := by have h9 := u9 0 (by omega); rw [hsx] at h9; exact h9
        have p1 : wr.cell? ⟨g, o + k * 5 + 1, none⟩ = some (.bool x1) := by have h9 := u9 1 (by omega); rw [hsx] at h9; exact h9
        have p2 : wr.cell? ⟨g, o + k * 5 + 2, none⟩ = some (.int .i64 x2) := by have h9 := u9 2 (by omega); rw [hsx] at h9; exact h9
        have p3 : wr.cell? ⟨g, o + k * 5 + 3, none⟩ = some (.int .i64 x3) := by have h9 := u9 3 (by omega); rw [hsx] at h9; exact h9
        have p4 : wr.cell? ⟨g, o + k * 5 + 4, none⟩ = some (.int .i64 x4) := by have h9 := u9 4 (by omega); rw [hsx] at h9; exact h9
        clear u9
        have hli : (k : Int) < (n : Int) := by omega
        have hkc : (k : Int) ≤ (c : Int) := by omega
        have HS : Hid (L[k] = ⟨x0, x1, x2, x3, x4⟩) := hsx
        have HR : Hid (Row 75 5 cells wr g o L) := hr1
        obtain ⟨v, hv⟩ : ∃ v, slotOk ⟨x0, x1, x2, x3, x4⟩ = v := ⟨_, rfl⟩
        have HV : Hid (slotOk ⟨x0, x1, x2, x3, x4⟩ = v) := hv
        have HG : Hid (Below wr.heap.size wr (wr.alloc (.cells #[.int .i64 x0, .bool x1, .int .i64 x2, .int .i64 x3, .int .i64 x4] 75))) := (Below.refl _ _).alloc (Nat.le_refl _) _
        clear hr hr1 hsx hv
        cases v with
        | false =>
          have hB : B = false := bf.out fun h => by
            have h2 := (h.2 k hlt2).1
            rw [HS.out, HV.out] at h2
            cases h2
          subst hB
          go_wp2_with (go_at_call 81; refine (spec_slot x0 x1 x2 x3 x4 _ _ HV).mono ?_; rintro e w1 ⟨rfl, b1⟩; have B1 : Hid (Below w.heap.size w w1) := HW2.out.1.trans ((HG.out.trans (b1.mono HG.out.size)).mono HW2.out.1.size); clear b1)
          go_ret
          exact ⟨rfl, B1.out⟩
        | true =>
          have hw0 : wr.heap.size < (wr.alloc (.cells #[.int .i64 x0, .bool x1, .int .i64 x2, .int .i64 x3, .int .i64 x4] 75)).heap.size := by simp
          have E0 : Hid ((wr.alloc (.cells #[.int .i64 x0, .bool x1, .int .i64 x2, .int .i64 x3, .int .i64 x4] 75)).heap[wr.heap.size]? = some (.cells #[.int .i64 x0, .bool x1, .int .i64 x2, .int .i64 x3, .int .i64 x4] 75 (0, 0))) := heap_alloc_new wr _
          go_wp2_with (go_at_call 81; refine (spec_slot x0 x1 x2 x3 x4 _ _ HV).mono ?_; rintro e w1 ⟨rfl, b1⟩; have B1 : Hid (Below wr.heap.size wr w1 ∧ w1.heap[wr.heap.size]? = some (.cells #[.int .i64 x0, .bool x1, .int .i64 x2, .int .i64 x3, .int .i64 x4] 75 (0, 0))) := ⟨HG.out.trans (b1.mono HG.out.size), (b1.block _ hw0).trans E0.out⟩; have c1 : w1.cell? ⟨w.heap.size, 0, none⟩ = some (.slice (some ⟨g, o, none⟩) n c) := box_cell (HW.out.trans (B1.out.1.mono (by have := HW2.out.2; omega))); clear b1)
          obtain ⟨wo, hwo⟩ : ∃ wo : World, wo = wr := ⟨_, rfl⟩
          rw [← hwo] at B1 HW HW2 HR p0 p1 p2 p3 p4 c0
          subst hwo
          have hx0 : Hid (w.heap.size < wo.heap.size) := HW2.out.2
          have B2 : Hid (Below w.heap.size w w1) := HW2.out.1.trans (B1.out.1.mono HW2.out.1.size)
          have B3 : Hid (Below (w.heap.size + 1) (w.alloc (.cells #[.slice (some ⟨g, o, none⟩) n c] 55)) w1) := HW.out.trans (B1.out.1.mono (by have := HW2.out.2; omega))
          have hn1 : wo.heap.size < w1.heap.size := (Array.getElem?_eq_some_iff.1 B1.out.2).1
          clear p0 p1 p2 p3 p4 c0 hw0 E0 HG
          go_loopw [23] (fun i wi => ∃ q : Nat, q ≤ k ∧ i = .int .i64 q ∧ Hid (x1 = true → ∀ (j : Nat) (h : j < L.length), j < q → isOf x2 L[j] = false) ∧ Hid (Below w1.heap.size w1 wi)) (fun i _ => k - (intOf i).toNat)
          case atStart => exact ⟨0, by omega, rfl, fun _ j _ hj => by omega, Below.refl _ _⟩
          case round =>
            obtain ⟨q, hq, rfl, HQ, HI⟩ := hrel
            have d0 : wr.cell? ⟨w.heap.size, 0, none⟩ = some (.slice (some ⟨g, o, none⟩) n c) := (HI.out.cell (by show w.heap.size < _; have := hx0.out; omega)).trans c1
            have E1 : Hid (wr.heap[wo.heap.size]? = some (.cells #[.int .i64 x0, .bool x1, .int .i64 x2, .int .i64 x3, .int .i64 x4] 75 (0, 0))) := (HI.out.block _ hn1).trans B1.out.2
            have e1 : wr.cell? ⟨wo.heap.size, 1, none⟩ = some (.bool x1) := cellB E1.out 1
            have e2 : wr.cell? ⟨wo.heap.size, 2, none⟩ = some (.int .i64 x2) := cellB E1.out 2
            have hn2 : wo.heap.size < wr.heap.size := Nat.lt_of_lt_of_le hn1 HI.out.size
            by_cases hqk : q < k
            · have hq2 : q < L.length := by omega
              have hr2 : Row 75 5 cells wr g o L := (HR.out.below B1.out.1).below HI.out
              obtain ⟨sy, hsy⟩ : ∃ s, L[q] = s := ⟨_, rfl⟩
              obtain ⟨y0, y1, y2, y3, y4⟩ := sy
              have u9 := fun j hj => (hr2).cell q hq2 j hj
              have r0 : wr.cell? ⟨g, o + q * 5, none⟩ = some (.int .i64 y0) := by have h9 := u9 0 (by omega); rw [hsy] at h9; exact h9
              have r1 : wr.cell? ⟨g, o + q * 5 + 1, none⟩ = some (.bool y1) := by have h9 := u9 1 (by omega); rw [hsy] at h9; exact h9
              have r2 : wr.cell? ⟨g, o + q * 5 + 2, none⟩ = some (.int .i64 y2) := by have h9 := u9 2 (by omega); rw [hsy] at h9; exact h9
              have r3 : wr.cell? ⟨g, o + q * 5 + 3, none⟩ = some (.int .i64 y3) := by have h9 := u9 3 (by omega); rw [hsy] at h9; exact h9
              have r4 : wr.cell? ⟨g, o + q * 5 + 4, none⟩ = some (.int .i64 y4) := by have h9 := u9 4 (by omega); rw [hsy] at h9; exact h9
              clear u9
              have hqi : (q : Int) < (k : Int) := by omega
              have HT : Hid (L[q] = ⟨y0, y1, y2, y3, y4⟩) := hsy
              clear hr2 hsy
              have HG2 : Hid (∀ A : Obj, Below w1.heap.size w1 (wr.alloc A)) := fun A => HI.out.alloc HI.out.size _
              have HG3 : Hid (∀ A : Obj, Below w.heap.size w (wr.alloc A)) := fun A => B2.out.trans ((HG2.out A).mono B2.out.size)
              have nx : Hid ((x1 = true → isOf x2 ⟨y0, y1, y2, y3, y4⟩ = false) → (x1 = true → ∀ (j : Nat) (h : j < L.length), j < q + 1 → isOf x2 L[j] = false)) := fun h hx j hj hj2 => by
                by_cases e : j = q
                · subst e; rw [HT.out]; exact h hx
                · exact HQ.out hx j hj (by omega)
              cases x1 with
              | false =>
                go_wp2
                go_roundw
                case rel => exact ⟨q + 1, by omega, by go_num, nx.out (fun h => by cases h), HG2.out _⟩
                case measure => simp [intOf]; omega
              | true =>
                cases y1 with
                | false =>
                  go_wp2
                  go_roundw
                  case rel => exact ⟨q + 1, by omega, by go_num, (fun _ => nx.out (fun h => rfl) rfl), HG2.out _⟩
                  case measure => simp [intOf]; omega
                | true =>
                  by_cases ey : x2 = y2
                  · have hB : B = false := bf.out fun h => by
                      have h2 := (h.2 k hlt2).2
                      rw [HS.out] at h2
                      have h3 := h2 rfl q hqk
                      rw [HT.out] at h3
                      simp [isOf, ey] at h3
                    subst hB
                    have ey1 : (x2 == y2) = true := by simpa using ey
                    clear ey
                    go_wp2
                    go_ret
                    exact ⟨rfl, HG3.out _⟩
                  · have ey1 : (x2 == y2) = false := by simpa using ey
                    have ey2 : isOf x2 ⟨y0, true, y2, y3, y4⟩ = false := by simp [isOf]; exact fun h => ey h.symm
                    have NX := nx.out (fun h => ey2)
                    have HNX : Hid (true = true → ∀ (j : Nat) (h : j < L.length), j < q + 1 → isOf x2 L[j] = false) := NX
                    clear ey NX nx ey2
                    go_wp2
                    go_roundw
                    case rel => exact ⟨q + 1, by omega, by go_num, (fun _ => HNX.out rfl), HG2.out _⟩
                    case measure => simp [intOf]; omega
            · obtain rfl : q = k := by omega
              have HK2 : Hid (∀ (j : Nat) (h : j < L.length), j < q + 1 → okAt L j h) := fun j h hj => by
                by_cases e : j = q
                · subst e
                  exact ⟨by rw [HS.out]; exact HV.out, fun hx i hi => by rw [HS.out] at hx ⊢; exact HQ.out hx i (by omega) hi⟩
                · exact HK.out j h (by omega)
              have B4 : Hid (Below (w.heap.size + 1) (w.alloc (.cells #[.slice (some ⟨g, o, none⟩) n c] 55)) wr) := B3.out.trans (HI.out.mono (by have := B3.out.size; simp at this ⊢; have := hx0.out; omega))
              go_wp2
              go_roundw
              case rel => exact ⟨q + 1, by omega, by go_num, HK2, B4⟩
              case measure => simp [intOf]; omega
    · obtain rfl : k = n := by omega
      have HX : Hid (∀ (j : Nat) (h : j < L.length), okAt L j h) := fun j h => HK.out j h (by rw [HN.out] at h; exact h)
      by_cases h6 : (k : Int) ≤ 60
      · have hB : B = true := bt.out ⟨by rw [HN.out]; omega, HX.out⟩
        subst hB
        have h7 : decide ((k : Int) ≤ 60) = true := by simpa using h6
        go_wp2
        go_ret
        exact ⟨rfl, HW2.out.1⟩
      · have hB : B = false := bf.out fun h => by have := h.1; rw [HN.out] at this; omega
        subst hB
        have h7 : decide ((k : Int) ≤ 60) = false := by simpa using h6
        go_wp2
        go_ret
        exact ⟨rfl, HW2.out.1⟩
set_option maxHeartbeats 8000000 in
theorem impl_ledok (a : Option Addr) (c : Nat) (L : List Slot) (B : Bool) (w : World) (h : Own 75 5 cells w a L) (hl : (L.length : Int) ≤ 1048577) (hc : L.length ≤ c) (HB : Hid (B = true ↔ ledOk L)) :
    Calls Tryz.prog 59 #[.agg #[.slice a L.length c]] w fun e w' => e = .returned (.bool B) ∧ Below w.heap.size w w' := by
  have HA : Hid (Own 75 5 cells w a L) := h
  clear h
  obtain ⟨n, hn⟩ : ∃ n, L.length = n := ⟨_, rfl⟩
  have HN : Hid (L.length = n) := hn
  rw [hn] at hl hc ⊢
  clear hn
  have bf : Hid (¬ ledOk L → B = false) := fun h => by cases B with
    | false => rfl
    | true => exact absurd (HB.out.1 rfl) h
  have bt : Hid (ledOk L → B = true) := fun h => HB.out.2 h
  have HB0 : Hid (∀ A : Obj, Below w.heap.size w (w.alloc A)) := fun A => (Below.refl _ _).alloc (Nat.le_refl _) _
  by_cases h6 : (n : Int) ≤ 60
  · have h7 : decide ((n : Int) > 60) = false := by simpa using h6
    go_enter Tryz.func59, Tryz.ntmps59
    go_wp2
    go_loopw [12] (fun i wr => ∃ k : Nat, k ≤ n ∧ i = .int .i64 k ∧ Hid (∀ (j : Nat) (h : j < L.length), j < k → okAt L j h) ∧ Hid (Below (w.heap.size + 1) (w.alloc (.cells #[.slice a n c] 55)) wr)) (fun i _ => n - (intOf i).toNat)
    case atStart => exact ⟨0, by omega, rfl, fun j _ hj => by omega, Below.refl _ _⟩
    case round =>
      obtain ⟨k, hk, rfl, HK, HW⟩ := hrel
      have c0 := box_cell HW.out
      have HW2 : Hid (Below w.heap.size w wr ∧ w.heap.size < wr.heap.size) := ⟨((Below.refl _ _).alloc (Nat.le_refl _) _).trans (HW.out.mono (by omega)), by have := HW.out.size; simp at this; omega⟩
      by_cases hlt : k < n
      · have hlt2 : k < L.length := by rw [HN.out]; exact hlt
        rcases HA.out with hnil | ⟨g, o, rfl, hr⟩
        · rw [hnil] at hlt2; simp at hlt2
        · have hr1 : Row 75 5 cells wr g o L := hr.below HW2.out.1
          obtain ⟨sx, hsx⟩ : ∃ s, L[k] = s := ⟨_, rfl⟩
          obtain ⟨x0, x1, x2, x3, x4⟩ := sx
          have u9 := fun j hj => (hr1).cell k hlt2 j hj
          have p0 : wr.cell? ⟨g, o + k * 5, none⟩ = some (.int .i64 x0) := by have h9 := u9 0 (by omega); rw [hsx] at h9; exact h9
          have p1 : wr.cell? ⟨g, o + k * 5 + 1, none⟩ = some (.bool x1) := by have h9 := u9 1 (by omega); rw [hsx] at h9; exact h9
          have p2 : wr.cell? ⟨g, o + k * 5 + 2, none⟩ = some (.int .i64 x2) := by have h9 := u9 2 (by omega); rw [hsx] at h9; exact h9
          have p3 : wr.cell? ⟨g, o + k * 5 + 3, none⟩ = some (.int .i64 x3) := by have h9 := u9 3 (by omega); rw [hsx] at h9; exact h9
          have p4 : wr.cell? ⟨g, o + k * 5 + 4, none⟩ = some (.int .i64 x4) := by have h9 := u9 4 (by omega); rw [hsx] at h9; exact h9
          clear u9
          have hli : (k : Int) < (n : Int) := by omega
          have hkc : (k : Int) ≤ (c : Int) := by omega
          have HS : Hid (L[k] = ⟨x0, x1, x2, x3, x4⟩) := hsx
          have HR : Hid (Row 75 5 cells wr g o L) := hr1
          obtain ⟨v, hv⟩ : ∃ v, slotOk ⟨x0, x1, x2, x3, x4⟩ = v := ⟨_, rfl⟩
          have HV : Hid (slotOk ⟨x0, x1, x2, x3, x4⟩ = v) := hv
          clear hr hr1 hsx hv
          go_upto_region 6 with fail
          have B6 : Hid (Below (w.heap.size + 1) (w.alloc (.cells #[.slice (some ⟨g, o, none⟩) n c] 55)) (wr.alloc (.cells #[.int .i64 x0, .bool x1, .int .i64 x2, .int .i64 x3, .int .i64 x4] 75)) ∧ (wr.alloc (.cells #[.int .i64 x0, .bool x1, .int .i64 x2, .int .i64 x3, .int .i64 x4] 75)).heap[wr.heap.size]? = some (.cells #[.int .i64 x0, .bool x1, .int .i64 x2, .int .i64 x3, .int .i64 x4] 75 (0, 0)) ∧ Row 75 5 cells (wr.alloc (.cells #[.int .i64 x0, .bool x1, .int .i64 x2, .int .i64 x3, .int .i64 x4] 75)) g o L) := ⟨HW.out.trans (((Below.refl _ _).alloc (Nat.le_refl _) _).mono (by have := HW2.out.2; simp; omega)), heap_alloc_new wr _, HR.out.below ((Below.refl _ _).alloc (Nat.le_refl _) _)⟩
          have l0 : (wr.alloc (.cells #[.int .i64 x0, .bool x1, .int .i64 x2, .int .i64 x3, .int .i64 x4] 75)).cell? ⟨w.heap.size, 0, none⟩ = some (.slice (some ⟨g, o, none⟩) n c) := box_cell B6.out.1
          clear p0 p1 p2 p3 p4 c0
          have hz1 : wr.heap.size < (wr.alloc (.cells #[.int .i64 x0, .bool x1, .int .i64 x2, .int .i64 x3, .int .i64 x4] 75)).heap.size := by simp
          generalize (wr.alloc (.cells #[.int .i64 x0, .bool x1, .int .i64 x2, .int .i64 x3, .int .i64 x4] 75)) = W6 at *
          have XL := Near.cell l0
          have q0 : W6.cell? ⟨wr.heap.size, 0, none⟩ = some (.int .i64 x0) := cellB B6.out.2.1 0
          have X0 := Near.cell q0
          have q1 : W6.cell? ⟨wr.heap.size, 1, none⟩ = some (.bool x1) := cellB B6.out.2.1 1
          have X1 := Near.cell q1
          have q2 : W6.cell? ⟨wr.heap.size, 2, none⟩ = some (.int .i64 x2) := cellB B6.out.2.1 2
          have X2 := Near.cell q2
          have q3 : W6.cell? ⟨wr.heap.size, 3, none⟩ = some (.int .i64 x3) := cellB B6.out.2.1 3
          have X3 := Near.cell q3
          have q4 : W6.cell? ⟨wr.heap.size, 4, none⟩ = some (.int .i64 x4) := cellB B6.out.2.1 4
          have X4 := Near.cell q4
          clear q0 q1 q2 q3 q4
          have near := Near.is W6
          clear l0
          refine wp_region_near (by kernel_rfl) (by kernel_rfl) ?_
          cases v with
          | false =>
            have hB : B = false := bf.out fun h => by
              have h2 := (h.2 k hlt2).1
              rw [HS.out, HV.out] at h2
              cases h2
            subst hB
            repeat (go_big_quiet_step (first | (go_at_call 92; exact near_call (impl_slot x0 _ x2 x3 x4 _ _ HV))))
            refine wpQuiet_nil ?_
            intro wx hwx
            obtain ⟨y, hy⟩ := hwx
            subst hy
            have BY : Hid (Below (w.heap.size + 1) (w.alloc (.cells #[.slice (some ⟨g, o, none⟩) n c] 55)) y.w) := B6.out.1.trans (y.near.mono (by have := B6.out.1.size; simpa using this))
            obtain ⟨wd, hwd⟩ : ∃ wd, y.w = wd := ⟨_, rfl⟩
            rw [hwd] at BY ⊢
            clear hwd y near X0 X1 X2 X3 X4 XL
            have hz : w.heap.size < wd.heap.size := by have := BY.out.size; simp at this; omega
            have HZ : Hid (Below w.heap.size w wd) := ((Below.refl _ _).alloc (Nat.le_refl _) _).trans (BY.out.mono (by omega))
            go_wp2
            go_ret
            exact ⟨rfl, HZ.out⟩
          | true =>
            cases x1 with
            | false =>
              have HK2 : Hid (∀ (j : Nat) (h : j < L.length), j < k + 1 → okAt L j h) := fun j h hj => by
                by_cases e : j = k
                · subst e
                  exact ⟨by rw [HS.out]; exact HV.out, fun hx => by rw [HS.out] at hx; cases hx⟩
                · exact HK.out j h (by omega)
              repeat (go_big_quiet_step (first | (go_at_call 92; exact near_call (impl_slot x0 _ x2 x3 x4 _ _ HV))))
              refine wpQuiet_nil ?_
              intro wx hwx
              obtain ⟨y, hy⟩ := hwx
              subst hy
              have BY : Hid (Below (w.heap.size + 1) (w.alloc (.cells #[.slice (some ⟨g, o, none⟩) n c] 55)) y.w) := B6.out.1.trans (y.near.mono (by have := B6.out.1.size; simpa using this))
              obtain ⟨wd, hwd⟩ : ∃ wd, y.w = wd := ⟨_, rfl⟩
              rw [hwd] at BY ⊢
              clear hwd y near X0 X1 X2 X3 X4 XL
              have hz : w.heap.size < wd.heap.size := by have := BY.out.size; simp at this; omega
              have HZ : Hid (Below w.heap.size w wd) := ((Below.refl _ _).alloc (Nat.le_refl _) _).trans (BY.out.mono (by omega))
              go_wp2
              go_roundw
              case rel => exact ⟨k + 1, by omega, by go_num, HK2, BY⟩
              case measure => simp [intOf]; omega
            | true =>
              obtain ⟨r, hr⟩ := at_ex (isOf x2) (L.take k)
              have HRR : Hid (At (isOf x2) (L.take k) r) := hr
              have hlk : (L.take k).length = k := by simp; omega
              have HRT : Hid (Own 75 5 cells W6 (some ⟨g, o, none⟩) (L.take k)) := Or.inr ⟨g, o, rfl, row_take B6.out.2.2 k⟩
              have HP := fun (W : World) h => place_of (some ⟨g, o, none⟩) c (L.take k) x2 r W h (by rw [hlk]; omega) HRR
              rw [hlk] at HP
              clear hr
              by_cases hr0 : 0 ≤ r
              · have hr1 : decide (r ≥ 0) = true := by simpa using hr0
                have hB : B = false := bf.out fun h => by
                  rcases HRR.out with ⟨h1, _⟩ | ⟨q, h1, hq, h3, _⟩
                  · omega
                  · have h4 : q < k := by rw [hlk] at hq; exact hq
                    have h2 := (h.2 k hlt2).2
                    rw [HS.out] at h2
                    have h5 := h2 rfl q h4
                    rw [List.getElem_take] at h3
                    rw [h5] at h3
                    cases h3
                subst hB
                repeat (go_big_quiet_step (first | (go_at_call 92; exact near_call (impl_slot x0 _ x2 x3 x4 _ _ HV)) | (go_at_call 93; exact near_call (HP _ (HRT.out.below (Near.near _))))))
                refine wpQuiet_nil ?_
                intro wx hwx
                obtain ⟨y, hy⟩ := hwx
                subst hy
                have BY : Hid (Below (w.heap.size + 1) (w.alloc (.cells #[.slice (some ⟨g, o, none⟩) n c] 55)) y.w) := B6.out.1.trans (y.near.mono (by have := B6.out.1.size; simpa using this))
                obtain ⟨wd, hwd⟩ : ∃ wd, y.w = wd := ⟨_, rfl⟩
                rw [hwd] at BY ⊢
                clear hwd y near X0 X1 X2 X3 X4 XL
                have hz : w.heap.size < wd.heap.size := by have := BY.out.size; simp at this; omega
                have HZ : Hid (Below w.heap.size w wd) := ((Below.refl _ _).alloc (Nat.le_refl _) _).trans (BY.out.mono (by omega))
                go_wp2
                go_ret
                exact ⟨rfl, HZ.out⟩
              · have hr1 : decide (r ≥ 0) = false := by simpa using hr0
                have HK2 : Hid (∀ (j : Nat) (h : j < L.length), j < k + 1 → okAt L j h) := fun j h hj => by
                  by_cases e : j = k
                  · subst e
                    exact ⟨by rw [HS.out]; exact HV.out, fun hx i hi => by
                      rw [HS.out]
                      rcases HRR.out with ⟨_, h1⟩ | ⟨q, h1, hq, h3, _⟩
                      · have h2 := h1 i (by rw [hlk]; exact hi)
                        rw [List.getElem_take] at h2
                        exact h2
                      · omega⟩
                  · exact HK.out j h (by omega)
                repeat (go_big_quiet_step (first | (go_at_call 92; exact near_call (impl_slot x0 _ x2 x3 x4 _ _ HV)) | (go_at_call 93; exact near_call (HP _ (HRT.out.below (Near.near _))))))
                refine wpQuiet_nil ?_
                intro wx hwx
                obtain ⟨y, hy⟩ := hwx
                subst hy
                have BY : Hid (Below (w.heap.size + 1) (w.alloc (.cells #[.slice (some ⟨g, o, none⟩) n c] 55)) y.w) := B6.out.1.trans (y.near.mono (by have := B6.out.1.size; simpa using this))
                obtain ⟨wd, hwd⟩ : ∃ wd, y.w = wd := ⟨_, rfl⟩
                rw [hwd] at BY ⊢
                clear hwd y near X0 X1 X2 X3 X4 XL
                have hz : w.heap.size < wd.heap.size := by have := BY.out.size; simp at this; omega
                have HZ : Hid (Below w.heap.size w wd) := ((Below.refl _ _).alloc (Nat.le_refl _) _).trans (BY.out.mono (by omega))
                go_wp2
                go_roundw
                case rel => exact ⟨k + 1, by omega, by go_num, HK2, BY⟩
                case measure => simp [intOf]; omega
      · obtain rfl : k = n := by omega
        have hB : B = true := bt.out ⟨by rw [HN.out]; omega, fun j h => HK.out j h (by rw [HN.out] at h; exact h)⟩
        subst hB
        go_wp2
        go_ret
        exact ⟨rfl, HW2.out.1⟩
  · have h7 : decide ((n : Int) > 60) = true := by simp; omega
    have hB : B = false := bf.out fun h => by have := h.1; rw [HN.out] at this; omega
    subst hB
    go_enter Tryz.func59, Tryz.ntmps59
    go_wp2
    go_ret
    exact ⟨rfl, HB0.out _⟩
end Go.Proofs.YtnabnghjejncpaaGreat.LedOk
