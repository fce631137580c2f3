/- What the program's held answers, and its copy of a ledger, at every ledger of at most 2 to the 20 slots, where its two errors lie apart; nothing else turns. -/
import Derived.Test.YtacpblhajoblmaaDoorRows
import Derived.WalkKit
import Derived.WalkSmall
import Derived.BigQuiet
import Derived.Deep.RegionWith
import Derived.Deep.DeepCutAuto
import Derived.Test.YtacpblhajoblmaaDoorListKit
import Derived.Test.YtacpblhajoblmaaDoorSlotKit
import Derived.Test.YtacpblhajoblmaaDoorSlotOks
import Derived.Test.YtacpblhajoblmaaDoorLedFind
import Derived.Test.YtacpblhajoblmaaDoorLedOk
import Derived.Test.YtacpblhajoblmaaDoorLedPermit
import Derived.Test.YtacpblhajoblmaaDoorLedCopy
import Derived.Test.YtacpblhajoblmaaDoorLedGrant
namespace Go.Proofs.YtacpblhajoblmaaDoor.LedHeld
open Go.RowKit ListKit SlotKit SlotOks LedFind LedOk LedPermit LedCopy LedGrant
set_option maxRecDepth 8000
set_option linter.unusedVariables false
set_option linter.unusedSimpArgs false

/-- The two errors lie at p and q, apart. -/
def Errs (w : World) (p q : Addr) : Prop := w.cell? ⟨0, 0, none⟩ = some (.iface 82 (.pointer (some p))) ∧ w.cell? ⟨1, 0, none⟩ = some (.iface 82 (.pointer (some q))) ∧ q ≠ p ∧ (∃ c t, w.heap[p.block]? = some (.cells c t (0, 0))) ∧ (∃ c t, w.heap[q.block]? = some (.cells c t (0, 0)))
theorem Errs.below {w w' : World} {p q : Addr} (h : Errs w p q) (hb : Below w.heap.size w w') : Errs w' p q := by
  obtain ⟨h1, h2, h3, ⟨c, t, h4⟩, ⟨c', t', h5⟩⟩ := h
  exact ⟨(hb.cell (World.block_lt_of_cell? _ _ h1)).trans h1, (hb.cell (World.block_lt_of_cell? _ _ h2)).trans h2, h3, ⟨c, t, (hb.block _ (Array.getElem?_eq_some_iff.1 h4).1).trans h4⟩, ⟨c', t', (hb.block _ (Array.getElem?_eq_some_iff.1 h5).1).trans h5⟩⟩
/-- The permit is of no slot that flies. -/
def gone (L : List Slot) (x y : Int) : Prop := ∀ (k : Nat) (h : k < L.length), x = (k : Int) → ¬ (L[k].x1 = true ∧ L[k].x0 = y)
/-- What answers the look for a permit. -/
def HAns (w : World) (s : List Value) (v : Value) (e : Ending) (w' : World) : Prop := e = .returned (.tuple #[.agg s.toArray, v]) ∧ Below w.heap.size w w'

set_option maxHeartbeats 8000000 in
theorem held_bad (a : Option Addr) (c : Nat) (L : List Slot) (x y : Int) (p q : Addr) (w : World) (h : Own 35 5 cells w a L) (hl : (L.length : Int) ≤ 1048577) (hc : L.length ≤ c) (HE : Hid (Errs w p q)) (HB : Hid (¬ ledOk L)) :
    Calls Tryd.prog 19 #[.agg #[.slice a L.length c], .agg #[.int .i64 x, .int .i64 y]] w (HAns w [.int .i64 0, .bool false, .int .i64 0, .int .i64 0, .int .i64 0] (.iface 82 (.pointer (some q)))) := by
  have HA : Hid (Own 35 5 cells w a L) := h
  have HLO := fun (W : World) h => impl_ledok a c L false W h hl hc ⟨fun h => (by cases h), fun h => absurd h HB.out⟩
  clear h
  obtain ⟨n, hn⟩ : ∃ n, L.length = n := ⟨_, rfl⟩
  have HN : Hid (L.length = n) := hn
  rw [hn] at hl hc HLO ⊢
  clear hn
  go_enter Tryd.func19, Tryd.ntmps19
  go_wp2_with (go_at_call 6; refine (HLO _ (HA.out.below (bel_three _ _ _ _))).mono ?_; rintro e w1 ⟨rfl, b1⟩; have H1 := three b1; have c0 : w1.cell? ⟨w.heap.size, 0, none⟩ = some (.slice a n c) := cellB H1.out.1 0; have p0 : w1.cell? ⟨w.heap.size + 1, 0, none⟩ = some (.int .i64 x) := cellB H1.out.2.1 0; have p1 : w1.cell? ⟨w.heap.size + 1, 1, none⟩ = some (.int .i64 y) := cellB H1.out.2.1 1; have d0 : w1.cell? ⟨w.heap.size + 1 + 1, 0, none⟩ = some (.int .i64 0) := cellB H1.out.2.2.1 0; have df0 := fzB H1.out.2.2.1 0; have d1 : w1.cell? ⟨w.heap.size + 1 + 1, 1, none⟩ = some (.bool false) := cellB H1.out.2.2.1 1; have df1 := fzB H1.out.2.2.1 1; have d2 : w1.cell? ⟨w.heap.size + 1 + 1, 2, none⟩ = some (.int .i64 0) := cellB H1.out.2.2.1 2; have df2 := fzB H1.out.2.2.1 2; have d3 : w1.cell? ⟨w.heap.size + 1 + 1, 3, none⟩ = some (.int .i64 0) := cellB H1.out.2.2.1 3; have df3 := fzB H1.out.2.2.1 3; have d4 : w1.cell? ⟨w.heap.size + 1 + 1, 4, none⟩ = some (.int .i64 0) := cellB H1.out.2.2.1 4; have df4 := fzB H1.out.2.2.1 4; have hz1 : w.heap.size + 1 + 1 < w1.heap.size := H1.out.2.2.2.2; have hz0 : w.heap.size + 1 < w1.heap.size := Nat.lt_of_succ_lt hz1; have hz : w.heap.size < w1.heap.size := Nat.lt_of_succ_lt hz0; have HE1 : Hid (Errs w1 p q) := HE.out.below H1.out.2.2.2.1; have e0 : w1.cell? ⟨0, 0, none⟩ = some (.iface 82 (.pointer (some p))) := HE1.out.1; have e1 : w1.cell? ⟨1, 0, none⟩ = some (.iface 82 (.pointer (some q))) := HE1.out.2.1; have hgp : 0 < w1.heap.size := World.block_lt_of_cell? _ _ e0; have hgw : 1 < w1.heap.size := World.block_lt_of_cell? _ _ e1; clear b1)
  go_region
  go_wp2
  refine bodyPost_ret (v := .tuple #[.agg #[.int .i64 0, .bool false, .int .i64 0, .int .i64 0, .int .i64 0], .iface 82 (.pointer (some q))]) (by simp [results, Tryd.results19, go_sem, d0, d1, d2, d3, d4, hz1]) rfl ⟨rfl, ?_⟩
  first | exact (((((H1.out.2.2.2.1).setCell (Nat.le_add_right _ 2) _).setCell (Nat.le_add_right _ 2) _).setCell (Nat.le_add_right _ 2) _).setCell (Nat.le_add_right _ 2) _).setCell (Nat.le_add_right _ 2) _ | exact ((((((H1.out.2.2.2.1).setCell (Nat.le_add_right _ 2) _).setCell (Nat.le_add_right _ 2) _).setCell (Nat.le_add_right _ 2) _).setCell (Nat.le_add_right _ 2) _).setCell (Nat.le_add_right _ 2) _).drew | exact ((((((H1.out.2.2.2.1).drew).setCell (Nat.le_add_right _ 2) _).setCell (Nat.le_add_right _ 2) _).setCell (Nat.le_add_right _ 2) _).setCell (Nat.le_add_right _ 2) _).setCell (Nat.le_add_right _ 2) _

set_option maxHeartbeats 8000000 in
theorem held_out (a : Option Addr) (c : Nat) (L : List Slot) (x y : Int) (p q : Addr) (w : World) (h : Own 35 5 cells w a L) (hl : (L.length : Int) ≤ 1048577) (hc : L.length ≤ c) (HE : Hid (Errs w p q)) (HB : Hid (ledOk L)) (HX : x < 0 ∨ (L.length : Int) ≤ x) :
    Calls Tryd.prog 19 #[.agg #[.slice a L.length c], .agg #[.int .i64 x, .int .i64 y]] w (HAns w [.int .i64 0, .bool false, .int .i64 0, .int .i64 0, .int .i64 0] (.iface 82 (.pointer (some p)))) := by
  have HA : Hid (Own 35 5 cells w a L) := h
  have HLO := fun (W : World) h => impl_ledok a c L true W h hl hc ⟨fun _ => HB.out, fun _ => rfl⟩
  clear h
  obtain ⟨n, hn⟩ : ∃ n, L.length = n := ⟨_, rfl⟩
  have HN : Hid (L.length = n) := hn
  rw [hn] at hl hc HLO ⊢
  clear hn
  rw [HN.out] at HX
  by_cases h0 : x < 0
  · have h1 : decide (x < 0) = true := by simpa using h0
    clear HX h0
    go_enter Tryd.func19, Tryd.ntmps19
    go_wp2_with (go_at_call 6; refine (HLO _ (HA.out.below (bel_three _ _ _ _))).mono ?_; rintro e w1 ⟨rfl, b1⟩; have H1 := three b1; have c0 : w1.cell? ⟨w.heap.size, 0, none⟩ = some (.slice a n c) := cellB H1.out.1 0; have p0 : w1.cell? ⟨w.heap.size + 1, 0, none⟩ = some (.int .i64 x) := cellB H1.out.2.1 0; have p1 : w1.cell? ⟨w.heap.size + 1, 1, none⟩ = some (.int .i64 y) := cellB H1.out.2.1 1; have d0 : w1.cell? ⟨w.heap.size + 1 + 1, 0, none⟩ = some (.int .i64 0) := cellB H1.out.2.2.1 0; have df0 := fzB H1.out.2.2.1 0; have d1 : w1.cell? ⟨w.heap.size + 1 + 1, 1, none⟩ = some (.bool false) := cellB H1.out.2.2.1 1; have df1 := fzB H1.out.2.2.1 1; have d2 : w1.cell? ⟨w.heap.size + 1 + 1, 2, none⟩ = some (.int .i64 0) := cellB H1.out.2.2.1 2; have df2 := fzB H1.out.2.2.1 2; have d3 : w1.cell? ⟨w.heap.size + 1 + 1, 3, none⟩ = some (.int .i64 0) := cellB H1.out.2.2.1 3; have df3 := fzB H1.out.2.2.1 3; have d4 : w1.cell? ⟨w.heap.size + 1 + 1, 4, none⟩ = some (.int .i64 0) := cellB H1.out.2.2.1 4; have df4 := fzB H1.out.2.2.1 4; have hz1 : w.heap.size + 1 + 1 < w1.heap.size := H1.out.2.2.2.2; have hz0 : w.heap.size + 1 < w1.heap.size := Nat.lt_of_succ_lt hz1; have hz : w.heap.size < w1.heap.size := Nat.lt_of_succ_lt hz0; have HE1 : Hid (Errs w1 p q) := HE.out.below H1.out.2.2.2.1; have e0 : w1.cell? ⟨0, 0, none⟩ = some (.iface 82 (.pointer (some p))) := HE1.out.1; have e1 : w1.cell? ⟨1, 0, none⟩ = some (.iface 82 (.pointer (some q))) := HE1.out.2.1; have hgp : 0 < w1.heap.size := World.block_lt_of_cell? _ _ e0; have hgw : 1 < w1.heap.size := World.block_lt_of_cell? _ _ e1; clear b1)
    go_region
    go_wp2
    refine bodyPost_ret (v := .tuple #[.agg #[.int .i64 0, .bool false, .int .i64 0, .int .i64 0, .int .i64 0], .iface 82 (.pointer (some p))]) (by simp [results, Tryd.results19, go_sem, d0, d1, d2, d3, d4, hz1]) rfl ⟨rfl, ?_⟩
    first | exact (((((H1.out.2.2.2.1).setCell (Nat.le_add_right _ 2) _).setCell (Nat.le_add_right _ 2) _).setCell (Nat.le_add_right _ 2) _).setCell (Nat.le_add_right _ 2) _).setCell (Nat.le_add_right _ 2) _ | exact ((((((H1.out.2.2.2.1).setCell (Nat.le_add_right _ 2) _).setCell (Nat.le_add_right _ 2) _).setCell (Nat.le_add_right _ 2) _).setCell (Nat.le_add_right _ 2) _).setCell (Nat.le_add_right _ 2) _).drew | exact ((((((H1.out.2.2.2.1).drew).setCell (Nat.le_add_right _ 2) _).setCell (Nat.le_add_right _ 2) _).setCell (Nat.le_add_right _ 2) _).setCell (Nat.le_add_right _ 2) _).setCell (Nat.le_add_right _ 2) _
  · have h1 : decide (x < 0) = false := by simpa using h0
    have h2 : decide ((n : Int) ≤ x) = true := by simp; omega
    clear HX h0
    go_enter Tryd.func19, Tryd.ntmps19
    go_wp2_with (go_at_call 6; refine (HLO _ (HA.out.below (bel_three _ _ _ _))).mono ?_; rintro e w1 ⟨rfl, b1⟩; have H1 := three b1; have c0 : w1.cell? ⟨w.heap.size, 0, none⟩ = some (.slice a n c) := cellB H1.out.1 0; have p0 : w1.cell? ⟨w.heap.size + 1, 0, none⟩ = some (.int .i64 x) := cellB H1.out.2.1 0; have p1 : w1.cell? ⟨w.heap.size + 1, 1, none⟩ = some (.int .i64 y) := cellB H1.out.2.1 1; have d0 : w1.cell? ⟨w.heap.size + 1 + 1, 0, none⟩ = some (.int .i64 0) := cellB H1.out.2.2.1 0; have df0 := fzB H1.out.2.2.1 0; have d1 : w1.cell? ⟨w.heap.size + 1 + 1, 1, none⟩ = some (.bool false) := cellB H1.out.2.2.1 1; have df1 := fzB H1.out.2.2.1 1; have d2 : w1.cell? ⟨w.heap.size + 1 + 1, 2, none⟩ = some (.int .i64 0) := cellB H1.out.2.2.1 2; have df2 := fzB H1.out.2.2.1 2; have d3 : w1.cell? ⟨w.heap.size + 1 + 1, 3, none⟩ = some (.int .i64 0) := cellB H1.out.2.2.1 3; have df3 := fzB H1.out.2.2.1 3; have d4 : w1.cell? ⟨w.heap.size + 1 + 1, 4, none⟩ = some (.int .i64 0) := cellB H1.out.2.2.1 4; have df4 := fzB H1.out.2.2.1 4; have hz1 : w.heap.size + 1 + 1 < w1.heap.size := H1.out.2.2.2.2; have hz0 : w.heap.size + 1 < w1.heap.size := Nat.lt_of_succ_lt hz1; have hz : w.heap.size < w1.heap.size := Nat.lt_of_succ_lt hz0; have HE1 : Hid (Errs w1 p q) := HE.out.below H1.out.2.2.2.1; have e0 : w1.cell? ⟨0, 0, none⟩ = some (.iface 82 (.pointer (some p))) := HE1.out.1; have e1 : w1.cell? ⟨1, 0, none⟩ = some (.iface 82 (.pointer (some q))) := HE1.out.2.1; have hgp : 0 < w1.heap.size := World.block_lt_of_cell? _ _ e0; have hgw : 1 < w1.heap.size := World.block_lt_of_cell? _ _ e1; clear b1)
    go_region
    go_wp2
    refine bodyPost_ret (v := .tuple #[.agg #[.int .i64 0, .bool false, .int .i64 0, .int .i64 0, .int .i64 0], .iface 82 (.pointer (some p))]) (by simp [results, Tryd.results19, go_sem, d0, d1, d2, d3, d4, hz1]) rfl ⟨rfl, ?_⟩
    first | exact (((((H1.out.2.2.2.1).setCell (Nat.le_add_right _ 2) _).setCell (Nat.le_add_right _ 2) _).setCell (Nat.le_add_right _ 2) _).setCell (Nat.le_add_right _ 2) _).setCell (Nat.le_add_right _ 2) _ | exact ((((((H1.out.2.2.2.1).setCell (Nat.le_add_right _ 2) _).setCell (Nat.le_add_right _ 2) _).setCell (Nat.le_add_right _ 2) _).setCell (Nat.le_add_right _ 2) _).setCell (Nat.le_add_right _ 2) _).drew | exact ((((((H1.out.2.2.2.1).drew).setCell (Nat.le_add_right _ 2) _).setCell (Nat.le_add_right _ 2) _).setCell (Nat.le_add_right _ 2) _).setCell (Nat.le_add_right _ 2) _).setCell (Nat.le_add_right _ 2) _

set_option maxHeartbeats 8000000 in
theorem held_gone (a : Option Addr) (c : Nat) (L : List Slot) (x y : Int) (p q : Addr) (w : World) (h : Own 35 5 cells w a L) (hl : (L.length : Int) ≤ 1048577) (hc : L.length ≤ c) (HE : Hid (Errs w p q)) (HB : Hid (ledOk L)) (k : Nat) (hk : k < L.length) (HX : x = (k : Int)) (HG : ¬ (L[k].x1 = true ∧ L[k].x0 = y)) :
    Calls Tryd.prog 19 #[.agg #[.slice a L.length c], .agg #[.int .i64 x, .int .i64 y]] w (HAns w [.int .i64 0, .bool false, .int .i64 0, .int .i64 0, .int .i64 0] (.iface 82 (.pointer (some p)))) := by
  have HA : Hid (Own 35 5 cells w a L) := h
  have HLO := fun (W : World) h => impl_ledok a c L true W h hl hc ⟨fun _ => HB.out, fun _ => rfl⟩
  clear h
  obtain ⟨n, hn⟩ : ∃ n, L.length = n := ⟨_, rfl⟩
  have HN : Hid (L.length = n) := hn
  rw [hn] at hl hc HLO ⊢
  clear hn
  subst HX
  rcases HA.out with hnil | ⟨g, o, rfl, hr⟩
  · rw [hnil] at hk; simp at hk
  · have hr0 : Hid (Row 35 5 cells w g o L) := hr
    clear hr
    obtain ⟨sx, hsx⟩ : ∃ s, L[k] = s := ⟨_, rfl⟩
    obtain ⟨x0, x1, x2, x3, x4⟩ := sx
    rw [hsx] at HG
    have h1 : decide ((k : Int) < 0) = false := by simp
    have hkn : (k : Int) < (n : Int) := by have := HN.out; omega
    have h2 : decide ((n : Int) ≤ (k : Int)) = false := by simp; omega
    have HS : Hid (L[k] = ⟨x0, x1, x2, x3, x4⟩) := hsx
    clear hsx
    have HG2 : Hid (¬ (x1 = true ∧ x0 = y)) := HG
    clear HG
    cases x1 with
    | false =>
      go_enter Tryd.func19, Tryd.ntmps19
      go_upto_region 6 with (go_at_call 6; refine (HLO _ (HA.out.below (bel_three _ _ _ _))).mono ?_; rintro e w1 ⟨rfl, b1⟩; have H1 := three b1; have c0 : w1.cell? ⟨w.heap.size, 0, none⟩ = some (.slice (some ⟨g, o, none⟩) n c) := cellB H1.out.1 0; have p0 : w1.cell? ⟨w.heap.size + 1, 0, none⟩ = some (.int .i64 k) := cellB H1.out.2.1 0; have p1 : w1.cell? ⟨w.heap.size + 1, 1, none⟩ = some (.int .i64 y) := cellB H1.out.2.1 1; have d0 : w1.cell? ⟨w.heap.size + 1 + 1, 0, none⟩ = some (.int .i64 0) := cellB H1.out.2.2.1 0; have df0 := fzB H1.out.2.2.1 0; have d1 : w1.cell? ⟨w.heap.size + 1 + 1, 1, none⟩ = some (.bool false) := cellB H1.out.2.2.1 1; have df1 := fzB H1.out.2.2.1 1; have d2 : w1.cell? ⟨w.heap.size + 1 + 1, 2, none⟩ = some (.int .i64 0) := cellB H1.out.2.2.1 2; have df2 := fzB H1.out.2.2.1 2; have d3 : w1.cell? ⟨w.heap.size + 1 + 1, 3, none⟩ = some (.int .i64 0) := cellB H1.out.2.2.1 3; have df3 := fzB H1.out.2.2.1 3; have d4 : w1.cell? ⟨w.heap.size + 1 + 1, 4, none⟩ = some (.int .i64 0) := cellB H1.out.2.2.1 4; have df4 := fzB H1.out.2.2.1 4; have hz1 : w.heap.size + 1 + 1 < w1.heap.size := H1.out.2.2.2.2; have hz0 : w.heap.size + 1 < w1.heap.size := Nat.lt_of_succ_lt hz1; have hz : w.heap.size < w1.heap.size := Nat.lt_of_succ_lt hz0; have HE1 : Hid (Errs w1 p q) := HE.out.below H1.out.2.2.2.1; have e0 : w1.cell? ⟨0, 0, none⟩ = some (.iface 82 (.pointer (some p))) := HE1.out.1; have e1 : w1.cell? ⟨1, 0, none⟩ = some (.iface 82 (.pointer (some q))) := HE1.out.2.1; have hgp : 0 < w1.heap.size := World.block_lt_of_cell? _ _ e0; have hgw : 1 < w1.heap.size := World.block_lt_of_cell? _ _ e1; have u9 := fun j hj => (hr0.out.below H1.out.2.2.2.1).cell k hk j hj; rw [HS.out] at u9; have r0 : w1.cell? ⟨g, o + k * 5, none⟩ = some (.int .i64 x0) := u9 0 (by omega); have r1 : w1.cell? ⟨g, o + k * 5 + 1, none⟩ = some (.bool false) := u9 1 (by omega); have r2 : w1.cell? ⟨g, o + k * 5 + 2, none⟩ = some (.int .i64 x2) := u9 2 (by omega); have r3 : w1.cell? ⟨g, o + k * 5 + 3, none⟩ = some (.int .i64 x3) := u9 3 (by omega); have r4 : w1.cell? ⟨g, o + k * 5 + 4, none⟩ = some (.int .i64 x4) := u9 4 (by omega); clear u9; clear b1)
      have M6 : Hid ((w1.alloc (.cells #[.int .i64 x0, .bool false, .int .i64 x2, .int .i64 x3, .int .i64 x4] 35)).heap[w.heap.size + 1 + 1]? = some (.cells #[.int .i64 0, .bool false, .int .i64 0, .int .i64 0, .int .i64 0] 35 (0, 0)) ∧ (w1.alloc (.cells #[.int .i64 x0, .bool false, .int .i64 x2, .int .i64 x3, .int .i64 x4] 35)).heap[w.heap.size + 1]? = some (.cells #[.int .i64 k, .int .i64 y] 28 (0, 0)) ∧ (w1.alloc (.cells #[.int .i64 x0, .bool false, .int .i64 x2, .int .i64 x3, .int .i64 x4] 35)).heap[w1.heap.size]? = some (.cells #[.int .i64 x0, .bool false, .int .i64 x2, .int .i64 x3, .int .i64 x4] 35 (0, 0)) ∧ Errs (w1.alloc (.cells #[.int .i64 x0, .bool false, .int .i64 x2, .int .i64 x3, .int .i64 x4] 35)) p q ∧ Below w.heap.size w (w1.alloc (.cells #[.int .i64 x0, .bool false, .int .i64 x2, .int .i64 x3, .int .i64 x4] 35)) ∧ w1.heap.size < (w1.alloc (.cells #[.int .i64 x0, .bool false, .int .i64 x2, .int .i64 x3, .int .i64 x4] 35)).heap.size) := ⟨(Below.heap_alloc _ _ _ hz1).trans H1.out.2.2.1, (Below.heap_alloc _ _ _ hz0).trans H1.out.2.1, heap_alloc_new w1 _, HE1.out.below ((Below.refl _ _).alloc (Nat.le_refl _) _), (H1.out.2.2.2.1).alloc H1.out.2.2.2.1.size _, by simp⟩
      have hN : w.heap.size + 1 + 1 < w1.heap.size := hz1
      clear c0 p0 p1 d0 d1 d2 d3 d4 df0 df1 df2 df3 df4 e0 e1 hgp hgw r0 r1 r2 r3 r4 hz1 hz0 hz H1 HE1
      generalize (w1.alloc (.cells #[.int .i64 x0, .bool false, .int .i64 x2, .int .i64 x3, .int .i64 x4] 35)) = wA at *
      obtain ⟨N1, hN1⟩ : ∃ N1, w1.heap.size = N1 := ⟨_, rfl⟩
      rw [hN1] at M6 hN ⊢
      clear hN1
      have p0 : wA.cell? ⟨w.heap.size + 1, 0, none⟩ = some (.int .i64 k) := cellB M6.out.2.1 0
      have p1 : wA.cell? ⟨w.heap.size + 1, 1, none⟩ = some (.int .i64 y) := cellB M6.out.2.1 1
      have d0 : wA.cell? ⟨w.heap.size + 1 + 1, 0, none⟩ = some (.int .i64 0) := cellB M6.out.1 0
      have df0 := fzB M6.out.1 0
      have d1 : wA.cell? ⟨w.heap.size + 1 + 1, 1, none⟩ = some (.bool false) := cellB M6.out.1 1
      have df1 := fzB M6.out.1 1
      have d2 : wA.cell? ⟨w.heap.size + 1 + 1, 2, none⟩ = some (.int .i64 0) := cellB M6.out.1 2
      have df2 := fzB M6.out.1 2
      have d3 : wA.cell? ⟨w.heap.size + 1 + 1, 3, none⟩ = some (.int .i64 0) := cellB M6.out.1 3
      have df3 := fzB M6.out.1 3
      have d4 : wA.cell? ⟨w.heap.size + 1 + 1, 4, none⟩ = some (.int .i64 0) := cellB M6.out.1 4
      have df4 := fzB M6.out.1 4
      have s0 : wA.cell? ⟨N1, 0, none⟩ = some (.int .i64 x0) := cellB M6.out.2.2.1 0
      have s1 : wA.cell? ⟨N1, 1, none⟩ = some (.bool false) := cellB M6.out.2.2.1 1
      have s2 : wA.cell? ⟨N1, 2, none⟩ = some (.int .i64 x2) := cellB M6.out.2.2.1 2
      have s3 : wA.cell? ⟨N1, 3, none⟩ = some (.int .i64 x3) := cellB M6.out.2.2.1 3
      have s4 : wA.cell? ⟨N1, 4, none⟩ = some (.int .i64 x4) := cellB M6.out.2.2.1 4
      have e0 : wA.cell? ⟨0, 0, none⟩ = some (.iface 82 (.pointer (some p))) := M6.out.2.2.2.1.1
      have hz1 : w.heap.size + 1 + 1 < wA.heap.size := by have := M6.out.2.2.2.2.2; omega
      have hne : N1 ≠ w.heap.size + 1 + 1 := by omega
      go_wp2
      go_region
      go_wp2
      refine bodyPost_ret (v := .tuple #[.agg #[.int .i64 0, .bool false, .int .i64 0, .int .i64 0, .int .i64 0], .iface 82 (.pointer (some p))]) (by simp [results, Tryd.results19, go_sem, d0, d1, d2, d3, d4, hz1]) rfl ⟨rfl, ?_⟩
      first | exact (((((M6.out.2.2.2.2.1).setCell (Nat.le_add_right _ 2) _).setCell (Nat.le_add_right _ 2) _).setCell (Nat.le_add_right _ 2) _).setCell (Nat.le_add_right _ 2) _).setCell (Nat.le_add_right _ 2) _ | exact ((((((M6.out.2.2.2.2.1).setCell (Nat.le_add_right _ 2) _).setCell (Nat.le_add_right _ 2) _).setCell (Nat.le_add_right _ 2) _).setCell (Nat.le_add_right _ 2) _).setCell (Nat.le_add_right _ 2) _).drew | exact ((((((M6.out.2.2.2.2.1).drew).setCell (Nat.le_add_right _ 2) _).setCell (Nat.le_add_right _ 2) _).setCell (Nat.le_add_right _ 2) _).setCell (Nat.le_add_right _ 2) _).setCell (Nat.le_add_right _ 2) _
    | true =>
      have h3 : (x0 != y) = true := by have := HG2.out; simpa using this
      go_enter Tryd.func19, Tryd.ntmps19
      go_upto_region 6 with (go_at_call 6; refine (HLO _ (HA.out.below (bel_three _ _ _ _))).mono ?_; rintro e w1 ⟨rfl, b1⟩; have H1 := three b1; have c0 : w1.cell? ⟨w.heap.size, 0, none⟩ = some (.slice (some ⟨g, o, none⟩) n c) := cellB H1.out.1 0; have p0 : w1.cell? ⟨w.heap.size + 1, 0, none⟩ = some (.int .i64 k) := cellB H1.out.2.1 0; have p1 : w1.cell? ⟨w.heap.size + 1, 1, none⟩ = some (.int .i64 y) := cellB H1.out.2.1 1; have d0 : w1.cell? ⟨w.heap.size + 1 + 1, 0, none⟩ = some (.int .i64 0) := cellB H1.out.2.2.1 0; have df0 := fzB H1.out.2.2.1 0; have d1 : w1.cell? ⟨w.heap.size + 1 + 1, 1, none⟩ = some (.bool false) := cellB H1.out.2.2.1 1; have df1 := fzB H1.out.2.2.1 1; have d2 : w1.cell? ⟨w.heap.size + 1 + 1, 2, none⟩ = some (.int .i64 0) := cellB H1.out.2.2.1 2; have df2 := fzB H1.out.2.2.1 2; have d3 : w1.cell? ⟨w.heap.size + 1 + 1, 3, none⟩ = some (.int .i64 0) := cellB H1.out.2.2.1 3; have df3 := fzB H1.out.2.2.1 3; have d4 : w1.cell? ⟨w.heap.size + 1 + 1, 4, none⟩ = some (.int .i64 0) := cellB H1.out.2.2.1 4; have df4 := fzB H1.out.2.2.1 4; have hz1 : w.heap.size + 1 + 1 < w1.heap.size := H1.out.2.2.2.2; have hz0 : w.heap.size + 1 < w1.heap.size := Nat.lt_of_succ_lt hz1; have hz : w.heap.size < w1.heap.size := Nat.lt_of_succ_lt hz0; have HE1 : Hid (Errs w1 p q) := HE.out.below H1.out.2.2.2.1; have e0 : w1.cell? ⟨0, 0, none⟩ = some (.iface 82 (.pointer (some p))) := HE1.out.1; have e1 : w1.cell? ⟨1, 0, none⟩ = some (.iface 82 (.pointer (some q))) := HE1.out.2.1; have hgp : 0 < w1.heap.size := World.block_lt_of_cell? _ _ e0; have hgw : 1 < w1.heap.size := World.block_lt_of_cell? _ _ e1; have u9 := fun j hj => (hr0.out.below H1.out.2.2.2.1).cell k hk j hj; rw [HS.out] at u9; have r0 : w1.cell? ⟨g, o + k * 5, none⟩ = some (.int .i64 x0) := u9 0 (by omega); have r1 : w1.cell? ⟨g, o + k * 5 + 1, none⟩ = some (.bool true) := u9 1 (by omega); have r2 : w1.cell? ⟨g, o + k * 5 + 2, none⟩ = some (.int .i64 x2) := u9 2 (by omega); have r3 : w1.cell? ⟨g, o + k * 5 + 3, none⟩ = some (.int .i64 x3) := u9 3 (by omega); have r4 : w1.cell? ⟨g, o + k * 5 + 4, none⟩ = some (.int .i64 x4) := u9 4 (by omega); clear u9; clear b1)
      have M6 : Hid ((w1.alloc (.cells #[.int .i64 x0, .bool true, .int .i64 x2, .int .i64 x3, .int .i64 x4] 35)).heap[w.heap.size + 1 + 1]? = some (.cells #[.int .i64 0, .bool false, .int .i64 0, .int .i64 0, .int .i64 0] 35 (0, 0)) ∧ (w1.alloc (.cells #[.int .i64 x0, .bool true, .int .i64 x2, .int .i64 x3, .int .i64 x4] 35)).heap[w.heap.size + 1]? = some (.cells #[.int .i64 k, .int .i64 y] 28 (0, 0)) ∧ (w1.alloc (.cells #[.int .i64 x0, .bool true, .int .i64 x2, .int .i64 x3, .int .i64 x4] 35)).heap[w1.heap.size]? = some (.cells #[.int .i64 x0, .bool true, .int .i64 x2, .int .i64 x3, .int .i64 x4] 35 (0, 0)) ∧ Errs (w1.alloc (.cells #[.int .i64 x0, .bool true, .int .i64 x2, .int .i64 x3, .int .i64 x4] 35)) p q ∧ Below w.heap.size w (w1.alloc (.cells #[.int .i64 x0, .bool true, .int .i64 x2, .int .i64 x3, .int .i64 x4] 35)) ∧ w1.heap.size < (w1.alloc (.cells #[.int .i64 x0, .bool true, .int .i64 x2, .int .i64 x3, .int .i64 x4] 35)).heap.size) := ⟨(Below.heap_alloc _ _ _ hz1).trans H1.out.2.2.1, (Below.heap_alloc _ _ _ hz0).trans H1.out.2.1, heap_alloc_new w1 _, HE1.out.below ((Below.refl _ _).alloc (Nat.le_refl _) _), (H1.out.2.2.2.1).alloc H1.out.2.2.2.1.size _, by simp⟩
      have hN : w.heap.size + 1 + 1 < w1.heap.size := hz1
      clear c0 p0 p1 d0 d1 d2 d3 d4 df0 df1 df2 df3 df4 e0 e1 hgp hgw r0 r1 r2 r3 r4 hz1 hz0 hz H1 HE1
      generalize (w1.alloc (.cells #[.int .i64 x0, .bool true, .int .i64 x2, .int .i64 x3, .int .i64 x4] 35)) = wA at *
      obtain ⟨N1, hN1⟩ : ∃ N1, w1.heap.size = N1 := ⟨_, rfl⟩
      rw [hN1] at M6 hN ⊢
      clear hN1
      have p0 : wA.cell? ⟨w.heap.size + 1, 0, none⟩ = some (.int .i64 k) := cellB M6.out.2.1 0
      have p1 : wA.cell? ⟨w.heap.size + 1, 1, none⟩ = some (.int .i64 y) := cellB M6.out.2.1 1
      have d0 : wA.cell? ⟨w.heap.size + 1 + 1, 0, none⟩ = some (.int .i64 0) := cellB M6.out.1 0
      have df0 := fzB M6.out.1 0
      have d1 : wA.cell? ⟨w.heap.size + 1 + 1, 1, none⟩ = some (.bool false) := cellB M6.out.1 1
      have df1 := fzB M6.out.1 1
      have d2 : wA.cell? ⟨w.heap.size + 1 + 1, 2, none⟩ = some (.int .i64 0) := cellB M6.out.1 2
      have df2 := fzB M6.out.1 2
      have d3 : wA.cell? ⟨w.heap.size + 1 + 1, 3, none⟩ = some (.int .i64 0) := cellB M6.out.1 3
      have df3 := fzB M6.out.1 3
      have d4 : wA.cell? ⟨w.heap.size + 1 + 1, 4, none⟩ = some (.int .i64 0) := cellB M6.out.1 4
      have df4 := fzB M6.out.1 4
      have s0 : wA.cell? ⟨N1, 0, none⟩ = some (.int .i64 x0) := cellB M6.out.2.2.1 0
      have s1 : wA.cell? ⟨N1, 1, none⟩ = some (.bool true) := cellB M6.out.2.2.1 1
      have s2 : wA.cell? ⟨N1, 2, none⟩ = some (.int .i64 x2) := cellB M6.out.2.2.1 2
      have s3 : wA.cell? ⟨N1, 3, none⟩ = some (.int .i64 x3) := cellB M6.out.2.2.1 3
      have s4 : wA.cell? ⟨N1, 4, none⟩ = some (.int .i64 x4) := cellB M6.out.2.2.1 4
      have e0 : wA.cell? ⟨0, 0, none⟩ = some (.iface 82 (.pointer (some p))) := M6.out.2.2.2.1.1
      have hz1 : w.heap.size + 1 + 1 < wA.heap.size := by have := M6.out.2.2.2.2.2; omega
      have hne : N1 ≠ w.heap.size + 1 + 1 := by omega
      go_wp2
      go_region
      go_wp2
      refine bodyPost_ret (v := .tuple #[.agg #[.int .i64 0, .bool false, .int .i64 0, .int .i64 0, .int .i64 0], .iface 82 (.pointer (some p))]) (by simp [results, Tryd.results19, go_sem, d0, d1, d2, d3, d4, hz1]) rfl ⟨rfl, ?_⟩
      first | exact (((((M6.out.2.2.2.2.1).setCell (Nat.le_add_right _ 2) _).setCell (Nat.le_add_right _ 2) _).setCell (Nat.le_add_right _ 2) _).setCell (Nat.le_add_right _ 2) _).setCell (Nat.le_add_right _ 2) _ | exact ((((((M6.out.2.2.2.2.1).setCell (Nat.le_add_right _ 2) _).setCell (Nat.le_add_right _ 2) _).setCell (Nat.le_add_right _ 2) _).setCell (Nat.le_add_right _ 2) _).setCell (Nat.le_add_right _ 2) _).drew | exact ((((((M6.out.2.2.2.2.1).drew).setCell (Nat.le_add_right _ 2) _).setCell (Nat.le_add_right _ 2) _).setCell (Nat.le_add_right _ 2) _).setCell (Nat.le_add_right _ 2) _).setCell (Nat.le_add_right _ 2) _

set_option maxHeartbeats 8000000 in
theorem held_ok (a : Option Addr) (c : Nat) (L : List Slot) (x y : Int) (p q : Addr) (w : World) (h : Own 35 5 cells w a L) (hl : (L.length : Int) ≤ 1048577) (hc : L.length ≤ c) (HE : Hid (Errs w p q)) (HB : Hid (ledOk L)) (k : Nat) (hk : k < L.length) (HX : x = (k : Int)) (h5 : L[k].x1 = true) (h6 : L[k].x0 = y) :
    Calls Tryd.prog 19 #[.agg #[.slice a L.length c], .agg #[.int .i64 x, .int .i64 y]] w (HAns w (cells L[k]) (.nilIface)) := by
  have HA : Hid (Own 35 5 cells w a L) := h
  have HLO := fun (W : World) h => impl_ledok a c L true W h hl hc ⟨fun _ => HB.out, fun _ => rfl⟩
  clear h
  obtain ⟨n, hn⟩ : ∃ n, L.length = n := ⟨_, rfl⟩
  have HN : Hid (L.length = n) := hn
  rw [hn] at hl hc HLO ⊢
  clear hn
  subst HX
  rcases HA.out with hnil | ⟨g, o, rfl, hr⟩
  · rw [hnil] at hk; simp at hk
  · have hr0 : Hid (Row 35 5 cells w g o L) := hr
    clear hr
    obtain ⟨sx, hsx⟩ : ∃ s, L[k] = s := ⟨_, rfl⟩
    obtain ⟨x0, x1, x2, x3, x4⟩ := sx
    rw [hsx] at h5 h6 ⊢
    have h1 : decide ((k : Int) < 0) = false := by simp
    have hkn : (k : Int) < (n : Int) := by have := HN.out; omega
    have h2 : decide ((n : Int) ≤ (k : Int)) = false := by simp; omega
    have HS : Hid (L[k] = ⟨x0, x1, x2, x3, x4⟩) := hsx
    clear hsx
    obtain rfl : x1 = true := h5
    obtain rfl : x0 = y := h6
    have h3 : (x0 != x0) = false := by simp
    go_enter Tryd.func19, Tryd.ntmps19
    go_upto_region 6 with (go_at_call 6; refine (HLO _ (HA.out.below (bel_three _ _ _ _))).mono ?_; rintro e w1 ⟨rfl, b1⟩; have H1 := three b1; have c0 : w1.cell? ⟨w.heap.size, 0, none⟩ = some (.slice (some ⟨g, o, none⟩) n c) := cellB H1.out.1 0; have p0 : w1.cell? ⟨w.heap.size + 1, 0, none⟩ = some (.int .i64 k) := cellB H1.out.2.1 0; have p1 : w1.cell? ⟨w.heap.size + 1, 1, none⟩ = some (.int .i64 x0) := cellB H1.out.2.1 1; have d0 : w1.cell? ⟨w.heap.size + 1 + 1, 0, none⟩ = some (.int .i64 0) := cellB H1.out.2.2.1 0; have df0 := fzB H1.out.2.2.1 0; have d1 : w1.cell? ⟨w.heap.size + 1 + 1, 1, none⟩ = some (.bool false) := cellB H1.out.2.2.1 1; have df1 := fzB H1.out.2.2.1 1; have d2 : w1.cell? ⟨w.heap.size + 1 + 1, 2, none⟩ = some (.int .i64 0) := cellB H1.out.2.2.1 2; have df2 := fzB H1.out.2.2.1 2; have d3 : w1.cell? ⟨w.heap.size + 1 + 1, 3, none⟩ = some (.int .i64 0) := cellB H1.out.2.2.1 3; have df3 := fzB H1.out.2.2.1 3; have d4 : w1.cell? ⟨w.heap.size + 1 + 1, 4, none⟩ = some (.int .i64 0) := cellB H1.out.2.2.1 4; have df4 := fzB H1.out.2.2.1 4; have hz1 : w.heap.size + 1 + 1 < w1.heap.size := H1.out.2.2.2.2; have hz0 : w.heap.size + 1 < w1.heap.size := Nat.lt_of_succ_lt hz1; have hz : w.heap.size < w1.heap.size := Nat.lt_of_succ_lt hz0; have HE1 : Hid (Errs w1 p q) := HE.out.below H1.out.2.2.2.1; have e0 : w1.cell? ⟨0, 0, none⟩ = some (.iface 82 (.pointer (some p))) := HE1.out.1; have e1 : w1.cell? ⟨1, 0, none⟩ = some (.iface 82 (.pointer (some q))) := HE1.out.2.1; have hgp : 0 < w1.heap.size := World.block_lt_of_cell? _ _ e0; have hgw : 1 < w1.heap.size := World.block_lt_of_cell? _ _ e1; have u9 := fun j hj => (hr0.out.below H1.out.2.2.2.1).cell k hk j hj; rw [HS.out] at u9; have r0 : w1.cell? ⟨g, o + k * 5, none⟩ = some (.int .i64 x0) := u9 0 (by omega); have r1 : w1.cell? ⟨g, o + k * 5 + 1, none⟩ = some (.bool true) := u9 1 (by omega); have r2 : w1.cell? ⟨g, o + k * 5 + 2, none⟩ = some (.int .i64 x2) := u9 2 (by omega); have r3 : w1.cell? ⟨g, o + k * 5 + 3, none⟩ = some (.int .i64 x3) := u9 3 (by omega); have r4 : w1.cell? ⟨g, o + k * 5 + 4, none⟩ = some (.int .i64 x4) := u9 4 (by omega); clear u9; clear b1)
    have M6 : Hid ((w1.alloc (.cells #[.int .i64 x0, .bool true, .int .i64 x2, .int .i64 x3, .int .i64 x4] 35)).heap[w.heap.size + 1 + 1]? = some (.cells #[.int .i64 0, .bool false, .int .i64 0, .int .i64 0, .int .i64 0] 35 (0, 0)) ∧ (w1.alloc (.cells #[.int .i64 x0, .bool true, .int .i64 x2, .int .i64 x3, .int .i64 x4] 35)).heap[w.heap.size + 1]? = some (.cells #[.int .i64 k, .int .i64 x0] 28 (0, 0)) ∧ (w1.alloc (.cells #[.int .i64 x0, .bool true, .int .i64 x2, .int .i64 x3, .int .i64 x4] 35)).heap[w1.heap.size]? = some (.cells #[.int .i64 x0, .bool true, .int .i64 x2, .int .i64 x3, .int .i64 x4] 35 (0, 0)) ∧ Errs (w1.alloc (.cells #[.int .i64 x0, .bool true, .int .i64 x2, .int .i64 x3, .int .i64 x4] 35)) p q ∧ Below w.heap.size w (w1.alloc (.cells #[.int .i64 x0, .bool true, .int .i64 x2, .int .i64 x3, .int .i64 x4] 35)) ∧ w1.heap.size < (w1.alloc (.cells #[.int .i64 x0, .bool true, .int .i64 x2, .int .i64 x3, .int .i64 x4] 35)).heap.size) := ⟨(Below.heap_alloc _ _ _ hz1).trans H1.out.2.2.1, (Below.heap_alloc _ _ _ hz0).trans H1.out.2.1, heap_alloc_new w1 _, HE1.out.below ((Below.refl _ _).alloc (Nat.le_refl _) _), (H1.out.2.2.2.1).alloc H1.out.2.2.2.1.size _, by simp⟩
    have hN : w.heap.size + 1 + 1 < w1.heap.size := hz1
    clear c0 p0 p1 d0 d1 d2 d3 d4 df0 df1 df2 df3 df4 e0 e1 hgp hgw r0 r1 r2 r3 r4 hz1 hz0 hz H1 HE1
    generalize (w1.alloc (.cells #[.int .i64 x0, .bool true, .int .i64 x2, .int .i64 x3, .int .i64 x4] 35)) = wA at *
    obtain ⟨N1, hN1⟩ : ∃ N1, w1.heap.size = N1 := ⟨_, rfl⟩
    rw [hN1] at M6 hN ⊢
    clear hN1
    have p0 : wA.cell? ⟨w.heap.size + 1, 0, none⟩ = some (.int .i64 k) := cellB M6.out.2.1 0
    have p1 : wA.cell? ⟨w.heap.size + 1, 1, none⟩ = some (.int .i64 x0) := cellB M6.out.2.1 1
    have d0 : wA.cell? ⟨w.heap.size + 1 + 1, 0, none⟩ = some (.int .i64 0) := cellB M6.out.1 0
    have df0 := fzB M6.out.1 0
    have d1 : wA.cell? ⟨w.heap.size + 1 + 1, 1, none⟩ = some (.bool false) := cellB M6.out.1 1
    have df1 := fzB M6.out.1 1
    have d2 : wA.cell? ⟨w.heap.size + 1 + 1, 2, none⟩ = some (.int .i64 0) := cellB M6.out.1 2
    have df2 := fzB M6.out.1 2
    have d3 : wA.cell? ⟨w.heap.size + 1 + 1, 3, none⟩ = some (.int .i64 0) := cellB M6.out.1 3
    have df3 := fzB M6.out.1 3
    have d4 : wA.cell? ⟨w.heap.size + 1 + 1, 4, none⟩ = some (.int .i64 0) := cellB M6.out.1 4
    have df4 := fzB M6.out.1 4
    have s0 : wA.cell? ⟨N1, 0, none⟩ = some (.int .i64 x0) := cellB M6.out.2.2.1 0
    have s1 : wA.cell? ⟨N1, 1, none⟩ = some (.bool true) := cellB M6.out.2.2.1 1
    have s2 : wA.cell? ⟨N1, 2, none⟩ = some (.int .i64 x2) := cellB M6.out.2.2.1 2
    have s3 : wA.cell? ⟨N1, 3, none⟩ = some (.int .i64 x3) := cellB M6.out.2.2.1 3
    have s4 : wA.cell? ⟨N1, 4, none⟩ = some (.int .i64 x4) := cellB M6.out.2.2.1 4
    have e0 : wA.cell? ⟨0, 0, none⟩ = some (.iface 82 (.pointer (some p))) := M6.out.2.2.2.1.1
    have hz1 : w.heap.size + 1 + 1 < wA.heap.size := by have := M6.out.2.2.2.2.2; omega
    have hne : N1 ≠ w.heap.size + 1 + 1 := by omega
    go_wp2
    refine bodyPost_ret (v := .tuple #[.agg #[.int .i64 x0, .bool true, .int .i64 x2, .int .i64 x3, .int .i64 x4], .nilIface]) (by simp [results, Tryd.results19, go_sem, d0, d1, d2, d3, d4, hz1]) rfl ⟨rfl, ?_⟩
    first | exact (((((M6.out.2.2.2.2.1).setCell (Nat.le_add_right _ 2) _).setCell (Nat.le_add_right _ 2) _).setCell (Nat.le_add_right _ 2) _).setCell (Nat.le_add_right _ 2) _).setCell (Nat.le_add_right _ 2) _ | exact ((((((M6.out.2.2.2.2.1).setCell (Nat.le_add_right _ 2) _).setCell (Nat.le_add_right _ 2) _).setCell (Nat.le_add_right _ 2) _).setCell (Nat.le_add_right _ 2) _).setCell (Nat.le_add_right _ 2) _).drew | exact ((((((M6.out.2.2.2.2.1).drew).setCell (Nat.le_add_right _ 2) _).setCell (Nat.le_add_right _ 2) _).setCell (Nat.le_add_right _ 2) _).setCell (Nat.le_add_right _ 2) _).setCell (Nat.le_add_right _ 2) _

theorem held_no (a : Option Addr) (c : Nat) (L : List Slot) (x y : Int) (p q : Addr) (w : World) (h : Own 35 5 cells w a L) (hl : (L.length : Int) ≤ 1048577) (hc : L.length ≤ c) (HE : Hid (Errs w p q)) (HB : Hid (ledOk L)) (HG : Hid (gone L x y)) :
    Calls Tryd.prog 19 #[.agg #[.slice a L.length c], .agg #[.int .i64 x, .int .i64 y]] w (HAns w [.int .i64 0, .bool false, .int .i64 0, .int .i64 0, .int .i64 0] (.iface 82 (.pointer (some p)))) := by
  by_cases h1 : x < 0 ∨ (L.length : Int) ≤ x
  · exact held_out a c L x y p q w h hl hc HE HB h1
  · obtain ⟨k, hk⟩ : ∃ k : Nat, x = (k : Int) := ⟨x.toNat, by omega⟩
    have hkl : k < L.length := by omega
    exact held_gone a c L x y p q w h hl hc HE HB k hkl hk (HG.out k hkl hk)
theorem own_led (a : Option Addr) (c : Nat) (L : List Slot) (w : World) (ha : Own 35 5 cells w a L) (hl : L.length ≤ 1048577) : Calls Tryd.prog 21 #[.agg #[.slice a L.length c]] w (CAns w L) := by
  have HA : Hid (Own 35 5 cells w a L) := ha
  have HC := fun (W : World) h => impl_clone a c L W h hl
  clear ha
  go_enter Tryd.func21, Tryd.ntmps21
  go_wp2_with (go_at_call 25; refine (HC _ (HA.out.below (bel_two _ _ _))).mono ?_; rintro e w1 ⟨v1, rfl, cp1, b1⟩; have H1 := two b1; have H2 : Hid (Cp w1 (w.heap.size + 1 + 1) v1 L) := (by have h := cp1; simp only [World.size_alloc] at h; exact h); obtain ⟨a1, c1, hv1, _, _⟩ := cp1.shape; subst hv1; have d0 : w1.cell? ⟨w.heap.size + 1, 0, none⟩ = some (.slice none 0 0) := cellB H1.out.2.1 0; have df0 := fzB H1.out.2.1 0; have hz1 : w.heap.size + 1 < w1.heap.size := H1.out.2.2.2; clear b1 cp1)
  refine bodyPost_ret (v := .agg #[.slice a1 L.length c1]) (by simp [results, Tryd.results21, go_sem, d0]) rfl ⟨_, rfl, ((H2.out).set (by show w.heap.size + 1 < w.heap.size + 1 + 1; omega) _).base (by omega), ?_⟩
  exact (H1.out.2.2.1).setCell (Nat.le_add_right _ 1) _
end Go.Proofs.YtacpblhajoblmaaDoor.LedHeld
