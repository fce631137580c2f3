/- Where the first request of a number stands, as the program looks for it; which rooms are right; nothing else turns; no condition but those written in each. -/
import Derived.Test.YtnejomfaojpicaaRows
import Derived.WalkKit
import Derived.WalkSmall
import Derived.BigQuiet
import Derived.Deep.RegionWith
import Derived.Deep.DeepCutAuto
import Derived.Test.YtnejomfaojpicaaListKit
import Derived.Test.YtnejomfaojpicaaHoldKit
import Derived.Test.YtnejomfaojpicaaReqKit
import Derived.Test.YtnejomfaojpicaaReqOks
import Derived.Test.YtnejomfaojpicaaQueMath
import Derived.Test.YtnejomfaojpicaaQueMiscS
namespace Go.Proofs.Ytnejomfaojpicaa.QueFindI
open Go.RowKit ListKit HoldKit QueMath QueMiscS
set_option maxRecDepth 8000
set_option linter.unusedVariables false
set_option linter.unusedSimpArgs false

theorem blk_cell {w : World} {b : Nat} {v : Value} {t : TypeId} (h : w.heap[b]? = some (.cells #[v] t (0, 0))) : w.cell? ⟨b, 0, none⟩ = some v ∧ b < w.heap.size := ⟨by simp [World.cell?, h], (Array.getElem?_eq_some_iff.1 h).1⟩
theorem place_one (x0 x1 x2 x3 x4 x5 id : Int) (b : Nat) (v : Bool) (w : World) (hb : w.heap[b]? = some (.cells #[.int .i64 id] 3 (0, 0))) (HV : Hid ((x0 == id) = v)) :
    Calls Try.prog 30 #[.agg #[.int .i64 x0, .int .i64 x1, .int .i64 x2, .int .i64 x3, .int .i64 x4, .int .i64 x5], .pointer (some ⟨b, 0, none⟩)] w fun e w' => e = .returned (.bool v) ∧ Below w.heap.size w w' := by
  obtain ⟨hc, hlt⟩ := blk_cell hb
  have HB : ∀ A : Obj, Hid (Below w.heap.size w (w.alloc A)) := fun A => (Below.refl _ _).alloc (Nat.le_refl _) _
  have hv := HV.out
  clear hb HV
  go_enter Try.func30, Try.ntmps30
  go_wp2
  go_ret
  exact ⟨by first | rfl | rw [hv], (HB _).out⟩

set_option maxHeartbeats 4000000 in
theorem index_place (a : Option Addr) (c : Nat) (L : List ReqKit.Req) (id : Int) (b : Nat) (r : Int) (w : World) (h : Own 27 6 ReqKit.cells w a L) (hl : L.length ≤ 1048577) (hb : w.heap[b]? = some (.cells #[.int .i64 id] 3 (0, 0))) (HR : Hid (AtId L id r)) :
    Calls Try.prog 29 #[.slice a L.length c, .func (.func 30) #[] #[.pointer (some ⟨b, 0, none⟩)]] w fun e w' => e = .returned (.int .i64 r) ∧ Below w.heap.size w w' := by
  have HA : Hid (Own 27 6 ReqKit.cells w a L) := h
  clear h
  obtain ⟨n, hn⟩ : ∃ n, L.length = n := ⟨_, rfl⟩
  have HN : Hid (L.length = n) := hn
  rw [hn] at hl ⊢
  clear hn
  have HBB : Hid (w.heap[b]? = some (.cells #[.int .i64 id] 3 (0, 0))) := hb
  clear hb
  go_enter Try.func29, Try.ntmps29
  go_wp2
  go_loopw [8] (fun i wr => ∃ k : Nat, k ≤ n ∧ i = .int .i64 k ∧ Hid (∀ (j : Nat) (h : j < L.length), j < k → L[j].x0 ≠ id) ∧ Hid (Below w.heap.size w wr)) (fun i _ => n - (intOf i).toNat)
  case atStart => exact ⟨0, by omega, rfl, fun j _ hj => by omega, Below.refl _ _⟩
  case round =>
    obtain ⟨k, hk, rfl, HK, HW⟩ := hrel
    by_cases hlt : k < n
    · have hlt2 : k < L.length := by rw [HN.out]; exact hlt
      rcases HA.out with hnil | ⟨g, o, rfl, hr⟩
      · rw [hnil] at hlt2; simp at hlt2
      · have hr1 : Row 27 6 ReqKit.cells wr g o L := hr.below HW.out
        obtain ⟨sx, hsx⟩ : ∃ s, L[k] = s := ⟨_, rfl⟩
        obtain ⟨x0, x1, x2, x3, x4, x5⟩ := sx
        have u9 := fun jj hjj => (hr1).cell k hlt2 jj hjj
        have p0 : wr.cell? ⟨g, o + k * 6, none⟩ = some (.int .i64 x0) := by have h9 := u9 0 (by omega); rw [hsx] at h9; exact h9
        have p1 : wr.cell? ⟨g, o + k * 6 + 1, none⟩ = some (.int .i64 x1) := by have h9 := u9 1 (by omega); rw [hsx] at h9; exact h9
        have p2 : wr.cell? ⟨g, o + k * 6 + 2, none⟩ = some (.int .i64 x2) := by have h9 := u9 2 (by omega); rw [hsx] at h9; exact h9
        have p3 : wr.cell? ⟨g, o + k * 6 + 3, none⟩ = some (.int .i64 x3) := by have h9 := u9 3 (by omega); rw [hsx] at h9; exact h9
        have p4 : wr.cell? ⟨g, o + k * 6 + 4, none⟩ = some (.int .i64 x4) := by have h9 := u9 4 (by omega); rw [hsx] at h9; exact h9
        have p5 : wr.cell? ⟨g, o + k * 6 + 5, none⟩ = some (.int .i64 x5) := by have h9 := u9 5 (by omega); rw [hsx] at h9; exact h9
        clear u9
        have hli : (k : Int) < (n : Int) := by omega
        have HS : Hid (L[k] = ⟨x0, x1, x2, x3, x4, x5⟩) := hsx
        obtain ⟨v, hv⟩ : ∃ v, (x0 == id) = v := ⟨_, rfl⟩
        have HV : Hid ((x0 == id) = v) := hv
        clear hr hr1 hsx hv
        cases v with
        | true =>
          have hrk : r = (k : Int) := HR.out.hit k hlt2 (by rw [HS.out]; simpa using HV.out) HK.out
          subst hrk
          clear HR
          go_wp2_with (go_at_call 30; refine (place_one x0 x1 x2 x3 x4 x5 id b _ _ ((HW.out.block b (blk_cell HBB.out).2).trans HBB.out) HV).mono ?_; rintro e w1 ⟨rfl, b1⟩; have B1 : Hid (Below w.heap.size w w1) := HW.out.trans (b1.mono HW.out.size); clear b1)
          go_ret
          exact ⟨rfl, B1.out⟩
        | false =>
          have HK2 : Hid (∀ (j : Nat) (h : j < L.length), j < k + 1 → L[j].x0 ≠ id) := fun j h hj => by
            by_cases e : j = k
            · subst e; rw [HS.out]; simpa using HV.out
            · exact HK.out j h (by omega)
          go_wp2_with (go_at_call 30; refine (place_one x0 x1 x2 x3 x4 x5 id b _ _ ((HW.out.block b (blk_cell HBB.out).2).trans HBB.out) HV).mono ?_; rintro e w1 ⟨rfl, b1⟩; have B1 : Hid (Below w.heap.size w w1) := HW.out.trans (b1.mono HW.out.size); clear b1 p0 p1 p2 p3 p4 p5)
          go_roundw
          case rel => exact ⟨k + 1, by omega, by go_num, HK2, B1⟩
          case measure => simp [intOf]; omega
    · obtain rfl : k = n := by omega
      have hrk : r = -1 := HR.out.no fun j h => HK.out j h (by rw [HN.out] at h; exact h)
      subst hrk
      go_wp2
      go_ret
      exact ⟨rfl, HW.out⟩
theorem impl_place (a : Option Addr) (c : Nat) (L : List ReqKit.Req) (id r : Int) (w : World) (h : Own 27 6 ReqKit.cells w a L) (hl : L.length ≤ 1048577) (HR : Hid (AtId L id r)) :
    Calls Try.prog 18 #[.slice a L.length c, .int .i64 id] w fun e w' => e = .returned (.int .i64 r) ∧ Below w.heap.size w w' := by
  have b0 : Below w.heap.size w (w.alloc (.cells #[.int .i64 id] 3)) := (Below.refl _ _).alloc (Nat.le_refl _) _
  have H := index_place a c L id w.heap.size r (w.alloc (.cells #[.int .i64 id] 3)) (h.below b0) hl (heap_alloc_new w _) HR
  have HB : Hid (Below w.heap.size w (w.alloc (.cells #[.int .i64 id] 3))) := b0
  clear h b0 HR
  go_enter Try.func18, Try.ntmps18
  go_wp2_with (go_at_call 29; refine H.mono ?_; rintro e w1 ⟨rfl, b1⟩; have B1 : Hid (Below w.heap.size w w1) := HB.out.trans (b1.mono HB.out.size); clear b1 H)
  go_ret
  exact ⟨rfl, B1.out⟩
theorem impl_room (n : Int) (w : World) : Calls Try.prog 25 #[.int .i64 n] w fun e w' => e = .returned (.bool (roomOk n)) ∧ w' = w := by
  by_cases h1 : 0 ≤ n
  · have d1 : decide (0 ≤ n) = true := by simpa using h1
    by_cases h2 : n ≤ 50
    · have d2 : decide (n ≤ 50) = true := by simpa using h2
      have e0 : roomOk n = true := by simp [roomOk, h1, h2]
      have e : Hid (roomOk n = true) := e0
      clear h1 h2 e0
      go_enter Try.func25, Try.ntmps25
      go_wp2
      go_ret
      exact ⟨by rw [e.out]; rfl, rfl⟩
    · have d2 : decide (n ≤ 50) = false := by simpa using h2
      have e0 : roomOk n = false := by simp [roomOk]; omega
      have e : Hid (roomOk n = false) := e0
      clear h1 h2 e0
      go_enter Try.func25, Try.ntmps25
      go_wp2
      go_ret
      exact ⟨by rw [e.out]; rfl, rfl⟩
  · have d1 : decide (0 ≤ n) = false := by simpa using h1
    have e0 : roomOk n = false := by simp [roomOk]; omega
    have e : Hid (roomOk n = false) := e0
    clear h1 e0
    go_enter Try.func25, Try.ntmps25
    go_wp2
    go_ret
    exact ⟨by rw [e.out]; rfl, rfl⟩
end Go.Proofs.Ytnejomfaojpicaa.QueFindI
