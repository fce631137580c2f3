/- Where the first slot of a property stands: the program's placeOf and the search for a free slot; nothing else turns; no condition but those written in each. -/
import Derived.Test.YtnabnghjejncpaaGreatRows
import Derived.WalkKit
import Derived.WalkSmall
import Derived.BigQuiet
import Derived.Deep.RegionWith
import Derived.Test.YtnabnghjejncpaaGreatListKit
import Derived.Test.YtnabnghjejncpaaGreatSlotKit
import Derived.Test.YtnabnghjejncpaaGreatSlotOks
namespace Go.Proofs.YtnabnghjejncpaaGreat.LedFind
open Go.RowKit ListKit SlotKit SlotOks
set_option maxRecDepth 8000
set_option linter.unusedVariables false
set_option linter.unusedSimpArgs false

/-- A used slot of this request. -/
def isOf (req : Int) (s : Slot) : Bool := s.x1 && (s.x2 == req)
/-- r is the first place of the list that has the property, -1 where none has. -/
def At (p : Slot → Bool) (L : List Slot) (r : Int) : Prop := (r = -1 ∧ ∀ (j : Nat) (h : j < L.length), p L[j] = false) ∨ ∃ k : Nat, r = (k : Int) ∧ ∃ h : k < L.length, p L[k] = true ∧ ∀ (j : Nat) (hj : j < k), p (L[j]'(by omega)) = false

theorem at_ex (p : Slot → Bool) (L : List Slot) : ∃ r, At p L r := by
  cases h : L.findIdx? p with
  | none =>
    refine ⟨-1, Or.inl ⟨rfl, fun j hj => ?_⟩⟩
    rw [List.findIdx?_eq_none_iff] at h
    exact h _ (List.getElem_mem hj)
  | some k =>
    rw [List.findIdx?_eq_some_iff_getElem] at h
    obtain ⟨hk, h1, h2⟩ := h
    exact ⟨(k : Int), Or.inr ⟨k, rfl, hk, h1, fun j hj => by have := h2 j hj; simpa using this⟩⟩
theorem At.hit {p : Slot → Bool} {L : List Slot} {r : Int} (h : At p L r) (k : Nat) (hk : k < L.length) (h1 : p L[k] = true) (h2 : ∀ (j : Nat) (h : j < L.length), j < k → p L[j] = false) : r = (k : Int) := by
  rcases h with ⟨_, h3⟩ | ⟨q, rfl, hq, h3, h4⟩
  · rw [h3 k hk] at h1; cases h1
  · rcases Nat.lt_trichotomy q k with hlt | he | hgt
    · rw [h2 q hq hlt] at h3; cases h3
    · rw [he]
    · rw [h4 k hgt] at h1; cases h1
theorem At.no {p : Slot → Bool} {L : List Slot} {r : Int} (h : At p L r) (h2 : ∀ (j : Nat) (h : j < L.length), p L[j] = false) : r = -1 := by
  rcases h with ⟨h3, _⟩ | ⟨q, rfl, hq, h3, h4⟩
  · exact h3
  · rw [h2 q hq] at h3; cases h3

theorem blk_cell {w : World} {b : Nat} {v : Value} {t : TypeId} (h : w.heap[b]? = some (.cells #[v] t (0, 0))) : w.cell? ⟨b, 0, none⟩ = some v ∧ b < w.heap.size := ⟨by simp [World.cell?, h], (Array.getElem?_eq_some_iff.1 h).1⟩

theorem place_one (x0 : Int) (x1 : Bool) (x2 x3 x4 req : Int) (b : Nat) (v : Bool) (w : World) (hb : w.heap[b]? = some (.cells #[.int .i64 req] 3 (0, 0))) (HV : Hid (isOf req ⟨x0, x1, x2, x3, x4⟩ = v)) :
    Calls Tryz.prog 113 #[.agg #[.int .i64 x0, .bool x1, .int .i64 x2, .int .i64 x3, .int .i64 x4], .pointer (some ⟨b, 0, none⟩)] w fun e w' => e = .returned (.bool v) ∧ Below w.heap.size w w' := by
  obtain ⟨hc, hlt⟩ := blk_cell hb
  have HB : ∀ A : Obj, Hid (Below w.heap.size w (w.alloc A)) := fun A => (Below.refl _ _).alloc (Nat.le_refl _) _
  clear hb
  cases x1 with
  | false =>
    obtain rfl : v = false := by rw [← HV.out]; rfl
    go_enter Tryz.func113, Tryz.ntmps113
    go_wp2
    go_ret
    exact ⟨rfl, (HB _).out⟩
  | true =>
    by_cases e : x2 = req
    · obtain rfl : v = true := by rw [← HV.out]; simp [isOf, e]
      have e1 : (x2 == req) = true := by simpa using e
      clear e
      go_enter Tryz.func113, Tryz.ntmps113
      go_wp2
      go_ret
      exact ⟨rfl, (HB _).out⟩
    · obtain rfl : v = false := by rw [← HV.out]; simp [isOf, e]
      have e1 : (x2 == req) = false := by simpa using e
      go_enter Tryz.func113, Tryz.ntmps113
      go_wp2
      go_ret
      exact ⟨rfl, (HB _).out⟩

set_option maxHeartbeats 2000000 in
theorem index_place (a : Option Addr) (c : Nat) (L : List Slot) (req : Int) (b : Nat) (r : Int) (w : World) (h : Own 75 5 cells w a L) (hl : (L.length : Int) ≤ 1048577) (hb : w.heap[b]? = some (.cells #[.int .i64 req] 3 (0, 0))) (HR : Hid (At (isOf req) L r)) :
    Calls Tryz.prog 112 #[.slice a L.length c, .func (.func 113) #[] #[.pointer (some ⟨b, 0, none⟩)]] w fun e w' => e = .returned (.int .i64 r) ∧ Below w.heap.size w w' := by
  have HA : Hid (Own 75 5 cells w a L) := h
  clear h
  obtain ⟨n, hn⟩ : ∃ n, L.length = n := ⟨_, rfl⟩
  have HN : Hid (L.length = n) := hn
  rw [hn] at hl ⊢
  clear hn
  have HBB : Hid (w.heap[b]? = some (.cells #[.int .i64 req] 3 (0, 0))) := hb
  clear hb
  go_enter Tryz.func112, Tryz.ntmps112
  go_wp2
  go_loopw [8] (fun i wr => ∃ k : Nat, k ≤ n ∧ i = .int .i64 k ∧ Hid (∀ (j : Nat) (h : j < L.length), j < k → (isOf req) L[j] = false) ∧ Hid (Below w.heap.size w wr)) (fun i _ => n - (intOf i).toNat)
  case atStart => exact ⟨0, by omega, rfl, fun j _ hj => by omega, Below.refl _ _⟩
  case round =>
    obtain ⟨k, hk, rfl, HK, HW⟩ := hrel
    by_cases hlt : k < n
    · have hlt2 : k < L.length := by rw [HN.out]; exact hlt
      rcases HA.out with hnil | ⟨g, o, rfl, hr⟩
      · rw [hnil] at hlt2; simp at hlt2
      · have hr1 : Row 75 5 cells wr g o L := hr.below HW.out
        obtain ⟨sx, hsx⟩ : ∃ s, L[k] = s := ⟨_, rfl⟩
        obtain ⟨x0, x1, x2, x3, x4⟩ := sx
        have u9 := fun j hj => (hr1).cell k hlt2 j hj
        have p0 : wr.cell? ⟨g, o + k * 5, none⟩ = some (.int .i64 x0) := by have h9 := u9 0 (by omega); rw [hsx] at h9; exact h9
        have p1 : wr.cell? ⟨g, o + k * 5 + 1, none⟩ = some (.bool x1) := by have h9 := u9 1 (by omega); rw [hsx] at h9; exact h9
        have p2 : wr.cell? ⟨g, o + k * 5 + 2, none⟩ = some (.int .i64 x2) := by have h9 := u9 2 (by omega); rw [hsx] at h9; exact h9
        have p3 : wr.cell? ⟨g, o + k * 5 + 3, none⟩ = some (.int .i64 x3) := by have h9 := u9 3 (by omega); rw [hsx] at h9; exact h9
        have p4 : wr.cell? ⟨g, o + k * 5 + 4, none⟩ = some (.int .i64 x4) := by have h9 := u9 4 (by omega); rw [hsx] at h9; exact h9
        clear u9
        have hli : (k : Int) < (n : Int) := by omega
        have HS : Hid (L[k] = ⟨x0, x1, x2, x3, x4⟩) := hsx
        obtain ⟨v, hv⟩ : ∃ v, (isOf req) ⟨x0, x1, x2, x3, x4⟩ = v := ⟨_, rfl⟩
        have HV : Hid ((isOf req) ⟨x0, x1, x2, x3, x4⟩ = v) := hv
        clear hr hr1 hsx hv
        cases v with
        | true =>
          have hrk : r = (k : Int) := HR.out.hit k hlt2 (by rw [HS.out]; exact HV.out) HK.out
          subst hrk
          clear HR
          go_wp2_with (go_at_call 113; refine (place_one x0 x1 x2 x3 x4 req b _ _ ((HW.out.block b (blk_cell HBB.out).2).trans HBB.out) HV).mono ?_; rintro e w1 ⟨rfl, b1⟩; have B1 : Hid (Below w.heap.size w w1) := HW.out.trans (b1.mono HW.out.size); clear b1)
          go_ret
          exact ⟨rfl, B1.out⟩
        | false =>
          have HK2 : Hid (∀ (j : Nat) (h : j < L.length), j < k + 1 → (isOf req) L[j] = false) := fun j h hj => by
            by_cases e : j = k
            · subst e; rw [HS.out]; exact HV.out
            · exact HK.out j h (by omega)
          go_wp2_with (go_at_call 113; refine (place_one x0 x1 x2 x3 x4 req b _ _ ((HW.out.block b (blk_cell HBB.out).2).trans HBB.out) HV).mono ?_; rintro e w1 ⟨rfl, b1⟩; have B1 : Hid (Below w.heap.size w w1) := HW.out.trans (b1.mono HW.out.size); clear b1 p0 p1 p2 p3 p4)
          go_roundw
          case rel => exact ⟨k + 1, by omega, by go_num, HK2, B1⟩
          case measure => simp [intOf]; omega
    · obtain rfl : k = n := by omega
      have hrk : r = -1 := HR.out.no fun j h => HK.out j h (by rw [HN.out] at h; exact h)
      subst hrk
      go_wp2
      go_ret
      exact ⟨rfl, HW.out⟩

theorem place_of (a : Option Addr) (c : Nat) (L : List Slot) (req : Int) (r : Int) (w : World) (h : Own 75 5 cells w a L) (hl : (L.length : Int) ≤ 1048577) (HR : Hid (At (isOf req) L r)) :
    Calls Tryz.prog 93 #[.slice a L.length c, .int .i64 req] w fun e w' => e = .returned (.int .i64 r) ∧ Below w.heap.size w w' := by
  have b0 : Below w.heap.size w (w.alloc (.cells #[.int .i64 req] 3)) := (Below.refl _ _).alloc (Nat.le_refl _) _
  have H := index_place a c L req w.heap.size r (w.alloc (.cells #[.int .i64 req] 3)) (h.below b0) hl (heap_alloc_new w _) HR
  have HB : Hid (Below w.heap.size w (w.alloc (.cells #[.int .i64 req] 3))) := b0
  clear h b0 HR
  go_enter Tryz.func93, Tryz.ntmps93
  go_wp2_with (go_at_call 112; refine H.mono ?_; rintro e w1 ⟨rfl, b1⟩; have B1 : Hid (Below w.heap.size w w1) := HB.out.trans (b1.mono HB.out.size); clear b1 H)
  go_ret
  exact ⟨rfl, B1.out⟩
end Go.Proofs.YtnabnghjejncpaaGreat.LedFind
