/- What the program's Release answers, at every ledger of at most 2 to the 20 slots and every permit, where its two errors lie apart; nothing else turns. -/
import Derived.Test.YtacpblhajoblmaaDoorRows
import Derived.WalkKit
import Derived.WalkSmall
import Derived.BigQuiet
import Derived.Deep.RegionWith
import Derived.Deep.DeepCutAuto
import Derived.LaidEql
import Derived.Test.YtacpblhajoblmaaDoorListKit
import Derived.Test.YtacpblhajoblmaaDoorSlotKit
import Derived.Test.YtacpblhajoblmaaDoorSlotOks
import Derived.Test.YtacpblhajoblmaaDoorLedFind
import Derived.Test.YtacpblhajoblmaaDoorLedOk
import Derived.Test.YtacpblhajoblmaaDoorLedPermit
import Derived.Test.YtacpblhajoblmaaDoorLedCopy
import Derived.Test.YtacpblhajoblmaaDoorLedGrant
import Derived.Test.YtacpblhajoblmaaDoorLedFour
import Derived.Test.YtacpblhajoblmaaDoorErrIs
import Derived.Test.YtacpblhajoblmaaDoorLedHeld
namespace Go.Proofs.YtacpblhajoblmaaDoor.LedRel
open Go.RowKit ListKit SlotKit SlotOks LedFind LedOk LedPermit LedCopy LedGrant LedFour ErrIs LedHeld
set_option maxRecDepth 8000
set_option linter.unusedVariables false
set_option linter.unusedSimpArgs false

/-- What answers a release. -/
def RAns (w : World) (L : List Slot) (s : Slot) (B : Bool) (e : Ending) (w' : World) : Prop := ∃ a c, e = .returned (.tuple #[.agg #[.slice a L.length c], .agg #[.int .i64 s.x0, .bool s.x1, .int .i64 s.x2, .int .i64 s.x3, .int .i64 s.x4], .bool B]) ∧ L.length ≤ c ∧ Own 35 5 cells w' a L ∧ (∀ b, blkL a L = some b → w.heap.size ≤ b) ∧ Below w.heap.size w w'
/-- The slot behind a release. -/
def back (y : Int) : Slot := ⟨if 1000000 < y + 1 then 1000000 else y + 1, false, 0, 0, 0⟩
/-- What a release comes to. -/
def Rl (L : List Slot) (x y : Int) (L2 : List Slot) (s : Slot) (B : Bool) : Prop :=
  (B = false ∧ ¬ ledOk L ∧ L2 = [] ∧ s = zero) ∨ (B = false ∧ ledOk L ∧ gone L x y ∧ L2 = L ∧ s = zero) ∨
  (B = true ∧ ledOk L ∧ ∃ k : Nat, ∃ h : k < L.length, x = (k : Int) ∧ L[k].x1 = true ∧ L[k].x0 = y ∧ s = L[k] ∧ L2 = L.set k (back y))
theorem rl_ex (L : List Slot) (x y : Int) : ∃ L2 s B, Rl L x y L2 s B := by
  classical
  by_cases ho : ledOk L
  · by_cases hg : gone L x y
    · exact ⟨_, _, _, Or.inr (Or.inl ⟨rfl, ho, hg, rfl, rfl⟩)⟩
    · unfold gone at hg
      simp only [Classical.not_forall, Classical.not_not] at hg
      obtain ⟨k, hk, hx, h1, h2⟩ := hg
      exact ⟨_, _, _, Or.inr (Or.inr ⟨rfl, ho, k, hk, hx, h1, h2, rfl, rfl⟩)⟩
  · exact ⟨_, _, _, Or.inl ⟨rfl, ho, rfl, rfl⟩⟩
theorem rl_len {L L2 : List Slot} {x y : Int} {s : Slot} {B : Bool} (h : Rl L x y L2 s B) : L2.length ≤ L.length := by
  rcases h with ⟨_, _, rfl, _⟩ | ⟨_, _, _, rfl, _⟩ | ⟨_, _, k, hk, _, _, _, _, rfl⟩ <;> simp

set_option maxHeartbeats 8000000 in
theorem impl_rel_bad (a : Option Addr) (c : Nat) (L : List Slot) (x y : Int) (p q : Addr) (w : World) (h : Own 35 5 cells w a L) (hl : (L.length : Int) ≤ 1048577) (hc : L.length ≤ c) (HE : Hid (Errs w p q)) (HB : Hid (¬ ledOk L)) :
    Calls Tryd.prog 10 #[.agg #[.slice a L.length c], .agg #[.int .i64 x, .int .i64 y]] w (RAns w [] zero false) := by
  have HA : Hid (Own 35 5 cells w a L) := h
  have HOL := fun (W : World) h => own_led a c L W h (by omega)
  have HH := fun (W : World) h (he : Errs W p q) => held_bad a c L x y p q W h hl hc he HB
  clear h
  obtain ⟨n, hn⟩ : ∃ n, L.length = n := ⟨_, rfl⟩
  have HN : Hid (L.length = n) := hn
  rw [hn] at hl hc HH HOL ⊢
  clear hn
  obtain ⟨cq, tq, hq⟩ := HE.out.2.2.2.2
  obtain ⟨cp, tp, hp⟩ := HE.out.2.2.2.1
  have HPQ : Hid (w.heap[q.block]? = some (.cells cq tq (0, 0)) ∧ w.heap[p.block]? = some (.cells cp tp (0, 0)) ∧ q ≠ p) := ⟨hq, hp, HE.out.2.2.1⟩
  clear hq hp
  go_enter Tryd.func10, Tryd.ntmps10
  go_upto_region 2 with (go_at_call 19; refine (HH _ (HA.out.below (bel_four _ _ _ _ _)) (HE.out.below (bel_four _ _ _ _ _))).mono ?_; rintro e w1 ⟨rfl, b1⟩; have H1 : Hid ((w1.heap[w.heap.size]? = some (.cells #[.slice a n c] 25 (0, 0)) ∧ w1.heap[w.heap.size + 1]? = some (.cells #[.int .i64 x, .int .i64 y] 28 (0, 0)) ∧ w1.heap[w.heap.size + 1 + 1]? = some (.cells #[.slice none 0 0] 25 (0, 0)) ∧ w1.heap[w.heap.size + 1 + 1 + 1]? = some (.cells #[.int .i64 0, .bool false, .int .i64 0, .int .i64 0, .int .i64 0] 35 (0, 0))) ∧ Below w.heap.size w w1 ∧ w.heap.size + 1 + 1 + 1 < w1.heap.size) := four b1; clear b1; have hz3 : w.heap.size + 1 + 1 + 1 < w1.heap.size := H1.out.2.2; have hz2 : w.heap.size + 1 + 1 < w1.heap.size := Nat.lt_of_succ_lt hz3; have hz1 : w.heap.size + 1 < w1.heap.size := Nat.lt_of_succ_lt hz2; have hz0 : w.heap.size < w1.heap.size := Nat.lt_of_succ_lt hz1)
  have M2 : Hid (((w1.alloc (.cells #[.int .i64 0, .bool false, .int .i64 0, .int .i64 0, .int .i64 0] 35)).heap[w.heap.size]? = some (.cells #[.slice a n c] 25 (0, 0)) ∧ (w1.alloc (.cells #[.int .i64 0, .bool false, .int .i64 0, .int .i64 0, .int .i64 0] 35)).heap[w.heap.size + 1]? = some (.cells #[.int .i64 x, .int .i64 y] 28 (0, 0)) ∧ (w1.alloc (.cells #[.int .i64 0, .bool false, .int .i64 0, .int .i64 0, .int .i64 0] 35)).heap[w.heap.size + 1 + 1]? = some (.cells #[.slice none 0 0] 25 (0, 0)) ∧ (w1.alloc (.cells #[.int .i64 0, .bool false, .int .i64 0, .int .i64 0, .int .i64 0] 35)).heap[w.heap.size + 1 + 1 + 1]? = some (.cells #[.int .i64 0, .bool false, .int .i64 0, .int .i64 0, .int .i64 0] 35 (0, 0))) ∧ (w1.alloc (.cells #[.int .i64 0, .bool false, .int .i64 0, .int .i64 0, .int .i64 0] 35)).heap[w1.heap.size]? = some (.cells #[.int .i64 0, .bool false, .int .i64 0, .int .i64 0, .int .i64 0] 35 (0, 0)) ∧ Errs (w1.alloc (.cells #[.int .i64 0, .bool false, .int .i64 0, .int .i64 0, .int .i64 0] 35)) p q ∧ Below w.heap.size w (w1.alloc (.cells #[.int .i64 0, .bool false, .int .i64 0, .int .i64 0, .int .i64 0] 35)) ∧ w1.heap.size < (w1.alloc (.cells #[.int .i64 0, .bool false, .int .i64 0, .int .i64 0, .int .i64 0] 35)).heap.size) := ⟨⟨(Below.heap_alloc _ _ _ hz0).trans H1.out.1.1, (Below.heap_alloc _ _ _ hz1).trans H1.out.1.2.1, (Below.heap_alloc _ _ _ hz2).trans H1.out.1.2.2.1, (Below.heap_alloc _ _ _ hz3).trans H1.out.1.2.2.2⟩, heap_alloc_new w1 _, HE.out.below ((H1.out.2.1).alloc H1.out.2.1.size _), (H1.out.2.1).alloc H1.out.2.1.size _, by simp⟩
  have hN : w.heap.size + 1 + 1 + 1 < w1.heap.size := hz3
  clear hz0 hz1 hz2 hz3 H1
  generalize (w1.alloc (.cells #[.int .i64 0, .bool false, .int .i64 0, .int .i64 0, .int .i64 0] 35)) = wA at *
  obtain ⟨N1, hN1⟩ : ∃ N1, w1.heap.size = N1 := ⟨_, rfl⟩
  rw [hN1] at M2 hN ⊢
  clear hN1
  have c0 : wA.cell? ⟨w.heap.size, 0, none⟩ = some (.slice a n c) := cellB M2.out.1.1 0
  have p0 : wA.cell? ⟨w.heap.size + 1, 0, none⟩ = some (.int .i64 x) := cellB M2.out.1.2.1 0
  have p1 : wA.cell? ⟨w.heap.size + 1, 1, none⟩ = some (.int .i64 y) := cellB M2.out.1.2.1 1
  have l0 : wA.cell? ⟨w.heap.size + 1 + 1, 0, none⟩ = some (.slice none 0 0) := cellB M2.out.1.2.2.1 0
  have lf0 := fzB M2.out.1.2.2.1 0
  have d0 : wA.cell? ⟨w.heap.size + 1 + 1 + 1, 0, none⟩ = some (.int .i64 0) := cellB M2.out.1.2.2.2 0
  have df0 := fzB M2.out.1.2.2.2 0
  have d1 : wA.cell? ⟨w.heap.size + 1 + 1 + 1, 1, none⟩ = some (.bool false) := cellB M2.out.1.2.2.2 1
  have df1 := fzB M2.out.1.2.2.2 1
  have d2 : wA.cell? ⟨w.heap.size + 1 + 1 + 1, 2, none⟩ = some (.int .i64 0) := cellB M2.out.1.2.2.2 2
  have df2 := fzB M2.out.1.2.2.2 2
  have d3 : wA.cell? ⟨w.heap.size + 1 + 1 + 1, 3, none⟩ = some (.int .i64 0) := cellB M2.out.1.2.2.2 3
  have df3 := fzB M2.out.1.2.2.2 3
  have d4 : wA.cell? ⟨w.heap.size + 1 + 1 + 1, 4, none⟩ = some (.int .i64 0) := cellB M2.out.1.2.2.2 4
  have df4 := fzB M2.out.1.2.2.2 4
  have s0 : wA.cell? ⟨N1, 0, none⟩ = some (.int .i64 0) := cellB M2.out.2.1 0
  have s1 : wA.cell? ⟨N1, 1, none⟩ = some (.bool false) := cellB M2.out.2.1 1
  have s2 : wA.cell? ⟨N1, 2, none⟩ = some (.int .i64 0) := cellB M2.out.2.1 2
  have s3 : wA.cell? ⟨N1, 3, none⟩ = some (.int .i64 0) := cellB M2.out.2.1 3
  have s4 : wA.cell? ⟨N1, 4, none⟩ = some (.int .i64 0) := cellB M2.out.2.1 4
  have e0 : wA.cell? ⟨0, 0, none⟩ = some (.iface 82 (.pointer (some p))) := M2.out.2.2.1.1
  have hzn : N1 < wA.heap.size := M2.out.2.2.2.2
  have hz3 : w.heap.size + 1 + 1 + 1 < wA.heap.size := Nat.lt_trans hN hzn
  have hz2 : w.heap.size + 1 + 1 < wA.heap.size := Nat.lt_of_succ_lt hz3
  have hz1 : w.heap.size + 1 < wA.heap.size := Nat.lt_of_succ_lt hz2
  have hz0 : w.heap.size < wA.heap.size := Nat.lt_of_succ_lt hz1
  have HI := fun (W : World) (hb : Below w.heap.size w W) => is_other q p cq cp tq tp W HPQ.out.2.2 ((hb.block _ (Array.getElem?_eq_some_iff.1 HPQ.out.1).1).trans HPQ.out.1) ((hb.block _ (Array.getElem?_eq_some_iff.1 HPQ.out.2.1).1).trans HPQ.out.2.1)
  go_wp2_with (go_at_call 20; refine (HI _ M2.out.2.2.2.1).mono ?_; rintro e w9 ⟨rfl, h9⟩; rw [h9]; clear h9 w9)
  refine bodyPost_ret (v := .tuple #[.agg #[.slice none 0 0], .agg #[.int .i64 0, .bool false, .int .i64 0, .int .i64 0, .int .i64 0], .bool false]) (by simp [results, Tryd.results10, go_sem, l0, d0, d1, d2, d3, d4]) rfl ⟨none, 0, rfl, Nat.le_refl _, Or.inl rfl, fun b h => by simp [blkL] at h, ?_⟩
  exact ((((((M2.out.2.2.2.1).setCell (Nat.le_add_right _ 2) _).setCell (Nat.le_add_right _ 3) _).setCell (Nat.le_add_right _ 3) _).setCell (Nat.le_add_right _ 3) _).setCell (Nat.le_add_right _ 3) _).setCell (Nat.le_add_right _ 3) _

set_option maxHeartbeats 8000000 in
theorem impl_rel_gone (a : Option Addr) (c : Nat) (L : List Slot) (x y : Int) (p q : Addr) (w : World) (h : Own 35 5 cells w a L) (hl : (L.length : Int) ≤ 1048577) (hc : L.length ≤ c) (HE : Hid (Errs w p q)) (HB : Hid (ledOk L)) (HG : Hid (gone L x y)) :
    Calls Tryd.prog 10 #[.agg #[.slice a L.length c], .agg #[.int .i64 x, .int .i64 y]] w (RAns w L zero false) := by
  have HA : Hid (Own 35 5 cells w a L) := h
  have HOL := fun (W : World) h => own_led a c L W h (by omega)
  have HH := fun (W : World) h (he : Errs W p q) => held_no a c L x y p q W h hl hc he HB HG
  clear h
  obtain ⟨n, hn⟩ : ∃ n, L.length = n := ⟨_, rfl⟩
  have HN : Hid (L.length = n) := hn
  rw [hn] at hl hc HH HOL ⊢
  clear hn
  go_enter Tryd.func10, Tryd.ntmps10
  go_upto_region 2 with (go_at_call 19; refine (HH _ (HA.out.below (bel_four _ _ _ _ _)) (HE.out.below (bel_four _ _ _ _ _))).mono ?_; rintro e w1 ⟨rfl, b1⟩; have H1 : Hid ((w1.heap[w.heap.size]? = some (.cells #[.slice a n c] 25 (0, 0)) ∧ w1.heap[w.heap.size + 1]? = some (.cells #[.int .i64 x, .int .i64 y] 28 (0, 0)) ∧ w1.heap[w.heap.size + 1 + 1]? = some (.cells #[.slice none 0 0] 25 (0, 0)) ∧ w1.heap[w.heap.size + 1 + 1 + 1]? = some (.cells #[.int .i64 0, .bool false, .int .i64 0, .int .i64 0, .int .i64 0] 35 (0, 0))) ∧ Below w.heap.size w w1 ∧ w.heap.size + 1 + 1 + 1 < w1.heap.size) := four b1; clear b1; have hz3 : w.heap.size + 1 + 1 + 1 < w1.heap.size := H1.out.2.2; have hz2 : w.heap.size + 1 + 1 < w1.heap.size := Nat.lt_of_succ_lt hz3; have hz1 : w.heap.size + 1 < w1.heap.size := Nat.lt_of_succ_lt hz2; have hz0 : w.heap.size < w1.heap.size := Nat.lt_of_succ_lt hz1)
  have M2 : Hid (((w1.alloc (.cells #[.int .i64 0, .bool false, .int .i64 0, .int .i64 0, .int .i64 0] 35)).heap[w.heap.size]? = some (.cells #[.slice a n c] 25 (0, 0)) ∧ (w1.alloc (.cells #[.int .i64 0, .bool false, .int .i64 0, .int .i64 0, .int .i64 0] 35)).heap[w.heap.size + 1]? = some (.cells #[.int .i64 x, .int .i64 y] 28 (0, 0)) ∧ (w1.alloc (.cells #[.int .i64 0, .bool false, .int .i64 0, .int .i64 0, .int .i64 0] 35)).heap[w.heap.size + 1 + 1]? = some (.cells #[.slice none 0 0] 25 (0, 0)) ∧ (w1.alloc (.cells #[.int .i64 0, .bool false, .int .i64 0, .int .i64 0, .int .i64 0] 35)).heap[w.heap.size + 1 + 1 + 1]? = some (.cells #[.int .i64 0, .bool false, .int .i64 0, .int .i64 0, .int .i64 0] 35 (0, 0))) ∧ (w1.alloc (.cells #[.int .i64 0, .bool false, .int .i64 0, .int .i64 0, .int .i64 0] 35)).heap[w1.heap.size]? = some (.cells #[.int .i64 0, .bool false, .int .i64 0, .int .i64 0, .int .i64 0] 35 (0, 0)) ∧ Errs (w1.alloc (.cells #[.int .i64 0, .bool false, .int .i64 0, .int .i64 0, .int .i64 0] 35)) p q ∧ Below w.heap.size w (w1.alloc (.cells #[.int .i64 0, .bool false, .int .i64 0, .int .i64 0, .int .i64 0] 35)) ∧ w1.heap.size < (w1.alloc (.cells #[.int .i64 0, .bool false, .int .i64 0, .int .i64 0, .int .i64 0] 35)).heap.size) := ⟨⟨(Below.heap_alloc _ _ _ hz0).trans H1.out.1.1, (Below.heap_alloc _ _ _ hz1).trans H1.out.1.2.1, (Below.heap_alloc _ _ _ hz2).trans H1.out.1.2.2.1, (Below.heap_alloc _ _ _ hz3).trans H1.out.1.2.2.2⟩, heap_alloc_new w1 _, HE.out.below ((H1.out.2.1).alloc H1.out.2.1.size _), (H1.out.2.1).alloc H1.out.2.1.size _, by simp⟩
  have hN : w.heap.size + 1 + 1 + 1 < w1.heap.size := hz3
  clear hz0 hz1 hz2 hz3 H1
  generalize (w1.alloc (.cells #[.int .i64 0, .bool false, .int .i64 0, .int .i64 0, .int .i64 0] 35)) = wA at *
  obtain ⟨N1, hN1⟩ : ∃ N1, w1.heap.size = N1 := ⟨_, rfl⟩
  rw [hN1] at M2 hN ⊢
  clear hN1
  have c0 : wA.cell? ⟨w.heap.size, 0, none⟩ = some (.slice a n c) := cellB M2.out.1.1 0
  have p0 : wA.cell? ⟨w.heap.size + 1, 0, none⟩ = some (.int .i64 x) := cellB M2.out.1.2.1 0
  have p1 : wA.cell? ⟨w.heap.size + 1, 1, none⟩ = some (.int .i64 y) := cellB M2.out.1.2.1 1
  have l0 : wA.cell? ⟨w.heap.size + 1 + 1, 0, none⟩ = some (.slice none 0 0) := cellB M2.out.1.2.2.1 0
  have lf0 := fzB M2.out.1.2.2.1 0
  have d0 : wA.cell? ⟨w.heap.size + 1 + 1 + 1, 0, none⟩ = some (.int .i64 0) := cellB M2.out.1.2.2.2 0
  have df0 := fzB M2.out.1.2.2.2 0
  have d1 : wA.cell? ⟨w.heap.size + 1 + 1 + 1, 1, none⟩ = some (.bool false) := cellB M2.out.1.2.2.2 1
  have df1 := fzB M2.out.1.2.2.2 1
  have d2 : wA.cell? ⟨w.heap.size + 1 + 1 + 1, 2, none⟩ = some (.int .i64 0) := cellB M2.out.1.2.2.2 2
  have df2 := fzB M2.out.1.2.2.2 2
  have d3 : wA.cell? ⟨w.heap.size + 1 + 1 + 1, 3, none⟩ = some (.int .i64 0) := cellB M2.out.1.2.2.2 3
  have df3 := fzB M2.out.1.2.2.2 3
  have d4 : wA.cell? ⟨w.heap.size + 1 + 1 + 1, 4, none⟩ = some (.int .i64 0) := cellB M2.out.1.2.2.2 4
  have df4 := fzB M2.out.1.2.2.2 4
  have s0 : wA.cell? ⟨N1, 0, none⟩ = some (.int .i64 0) := cellB M2.out.2.1 0
  have s1 : wA.cell? ⟨N1, 1, none⟩ = some (.bool false) := cellB M2.out.2.1 1
  have s2 : wA.cell? ⟨N1, 2, none⟩ = some (.int .i64 0) := cellB M2.out.2.1 2
  have s3 : wA.cell? ⟨N1, 3, none⟩ = some (.int .i64 0) := cellB M2.out.2.1 3
  have s4 : wA.cell? ⟨N1, 4, none⟩ = some (.int .i64 0) := cellB M2.out.2.1 4
  have e0 : wA.cell? ⟨0, 0, none⟩ = some (.iface 82 (.pointer (some p))) := M2.out.2.2.1.1
  have hzn : N1 < wA.heap.size := M2.out.2.2.2.2
  have hz3 : w.heap.size + 1 + 1 + 1 < wA.heap.size := Nat.lt_trans hN hzn
  have hz2 : w.heap.size + 1 + 1 < wA.heap.size := Nat.lt_of_succ_lt hz3
  have hz1 : w.heap.size + 1 < wA.heap.size := Nat.lt_of_succ_lt hz2
  have hz0 : w.heap.size < wA.heap.size := Nat.lt_of_succ_lt hz1
  go_wp2_with (first | (go_at_call 20; refine (is_same p _).mono ?_; rintro e w9 ⟨rfl, h9⟩; rw [h9]; clear h9 w9) | (go_at_call 21; refine (HOL _ (HA.out.below M2.out.2.2.2.1)).mono ?_; clear c0 p0 p1 l0 lf0 d0 d1 d2 d3 d4 df0 df1 df2 df3 df4 s0 s1 s2 s3 s4 e0; rintro e w2 ⟨v2, rfl, cp2, b2⟩; have H2 : Hid ((w2.heap[w.heap.size]? = some (.cells #[.slice a n c] 25 (0, 0)) ∧ w2.heap[w.heap.size + 1]? = some (.cells #[.int .i64 x, .int .i64 y] 28 (0, 0)) ∧ w2.heap[w.heap.size + 1 + 1]? = some (.cells #[.slice none 0 0] 25 (0, 0)) ∧ w2.heap[w.heap.size + 1 + 1 + 1]? = some (.cells #[.int .i64 0, .bool false, .int .i64 0, .int .i64 0, .int .i64 0] 35 (0, 0))) ∧ Cp w2 wA.heap.size v2 L ∧ Below w.heap.size w w2) := ⟨⟨(b2.block _ hz0).trans M2.out.1.1, (b2.block _ hz1).trans M2.out.1.2.1, (b2.block _ hz2).trans M2.out.1.2.2.1, (b2.block _ hz3).trans M2.out.1.2.2.2⟩, cp2, M2.out.2.2.2.1.trans (b2.mono M2.out.2.2.2.1.size)⟩; obtain ⟨a2, c2, hv2, hc2, hs2⟩ := cp2.shape; rw [HN.out] at hv2 hc2; subst hv2; have c0 : w2.cell? ⟨w.heap.size, 0, none⟩ = some (.slice a n c) := cellB H2.out.1.1 0; have p0 : w2.cell? ⟨w.heap.size + 1, 0, none⟩ = some (.int .i64 x) := cellB H2.out.1.2.1 0; have p1 : w2.cell? ⟨w.heap.size + 1, 1, none⟩ = some (.int .i64 y) := cellB H2.out.1.2.1 1; have l0 : w2.cell? ⟨w.heap.size + 1 + 1, 0, none⟩ = some (.slice none 0 0) := cellB H2.out.1.2.2.1 0; have lf0 := fzB H2.out.1.2.2.1 0; have d0 : w2.cell? ⟨w.heap.size + 1 + 1 + 1, 0, none⟩ = some (.int .i64 0) := cellB H2.out.1.2.2.2 0; have df0 := fzB H2.out.1.2.2.2 0; have d1 : w2.cell? ⟨w.heap.size + 1 + 1 + 1, 1, none⟩ = some (.bool false) := cellB H2.out.1.2.2.2 1; have df1 := fzB H2.out.1.2.2.2 1; have d2 : w2.cell? ⟨w.heap.size + 1 + 1 + 1, 2, none⟩ = some (.int .i64 0) := cellB H2.out.1.2.2.2 2; have df2 := fzB H2.out.1.2.2.2 2; have d3 : w2.cell? ⟨w.heap.size + 1 + 1 + 1, 3, none⟩ = some (.int .i64 0) := cellB H2.out.1.2.2.2 3; have df3 := fzB H2.out.1.2.2.2 3; have d4 : w2.cell? ⟨w.heap.size + 1 + 1 + 1, 4, none⟩ = some (.int .i64 0) := cellB H2.out.1.2.2.2 4; have df4 := fzB H2.out.1.2.2.2 4; have hy3 : w.heap.size + 1 + 1 + 1 < w2.heap.size := Nat.lt_of_lt_of_le hz3 b2.size; have hy2 : w.heap.size + 1 + 1 < w2.heap.size := Nat.lt_of_succ_lt hy3; clear b2 cp2 hs2))
  refine bodyPost_ret (v := .tuple #[.agg #[.slice a2 n c2], .agg #[.int .i64 0, .bool false, .int .i64 0, .int .i64 0, .int .i64 0], .bool false]) (by simp [results, Tryd.results10, go_sem, l0, d0, d1, d2, d3, d4]) rfl ⟨a2, c2, by rw [HN.out]; rfl, by rw [HN.out]; exact hc2, ?_, ?_, ?_⟩
  · exact cp_own (((((((H2.out.2.1).set (by show w.heap.size + 1 + 1 < wA.heap.size; exact hz2) _).set (by show w.heap.size + 1 + 1 + 1 < wA.heap.size; exact hz3) _).set (by show w.heap.size + 1 + 1 + 1 < wA.heap.size; exact hz3) _).set (by show w.heap.size + 1 + 1 + 1 < wA.heap.size; exact hz3) _).set (by show w.heap.size + 1 + 1 + 1 < wA.heap.size; exact hz3) _).set (by show w.heap.size + 1 + 1 + 1 < wA.heap.size; exact hz3) _)
  · intro b hb
    have := cp_ge H2.out.2.1 b hb
    omega
  · exact ((((((H2.out.2.2).setCell (Nat.le_add_right _ 2) _).setCell (Nat.le_add_right _ 3) _).setCell (Nat.le_add_right _ 3) _).setCell (Nat.le_add_right _ 3) _).setCell (Nat.le_add_right _ 3) _).setCell (Nat.le_add_right _ 3) _

set_option maxHeartbeats 8000000 in
theorem impl_rel_ok (a : Option Addr) (c : Nat) (L : List Slot) (x y : Int) (p q : Addr) (w : World) (h : Own 35 5 cells w a L) (hl : (L.length : Int) ≤ 1048577) (hc : L.length ≤ c) (HE : Hid (Errs w p q)) (HB : Hid (ledOk L)) (k : Nat) (hk : k < L.length) (HX : x = (k : Int)) (h5 : L[k].x1 = true) (h6 : L[k].x0 = y) :
    Calls Tryd.prog 10 #[.agg #[.slice a L.length c], .agg #[.int .i64 x, .int .i64 y]] w (RAns w (L.set k (back y)) L[k] true) := by
  have HA : Hid (Own 35 5 cells w a L) := h
  have HOL := fun (W : World) h => own_led a c L W h (by omega)
  have HH := fun (W : World) h (he : Errs W p q) => held_ok a c L x y p q W h hl hc he HB k hk HX h5 h6
  clear h
  obtain ⟨n, hn⟩ : ∃ n, L.length = n := ⟨_, rfl⟩
  have HN : Hid (L.length = n) := hn
  rw [hn] at hl hc HH HOL ⊢
  clear hn
  subst HX
  obtain ⟨sx, hsx⟩ : ∃ s, L[k] = s := ⟨_, rfl⟩
  obtain ⟨x0, x1, x2, x3, x4⟩ := sx
  have hb0 := (HB.out.2 k hk).1
  rw [hsx] at h5 h6 HH hb0 ⊢
  obtain rfl : x1 = true := h5
  obtain rfl : x0 = y := h6
  have HX0 : Hid (0 ≤ x0 ∧ x0 ≤ 1000000) := by
    have h9 : slotOk ⟨x0, true, x2, x3, x4⟩ = true := hb0
    simp [slotOk, okUsed] at h9
    exact ⟨h9.1, h9.2.1⟩
  have HH2 : ∀ (W : World), Own 35 5 cells W a L → Errs W p q → Calls Tryd.prog 19 #[.agg #[.slice a n c], .agg #[.int .i64 k, .int .i64 x0]] W (HAns W [.int .i64 x0, .bool true, .int .i64 x2, .int .i64 x3, .int .i64 x4] .nilIface) := HH
  clear HH
  have HH := HH2
  clear HH2
  have HS : Hid (L[k] = ⟨x0, true, x2, x3, x4⟩) := hsx
  have HKL : Hid (k < L.length) := hk
  obtain ⟨z, hz⟩ : ∃ z, x0 + 1 = z := ⟨_, rfl⟩
  obtain ⟨m, hm⟩ : ∃ m, (if 1000000 < z then 1000000 else z : Int) = m := ⟨_, rfl⟩
  obtain ⟨L2, hL2⟩ : ∃ L2, L.set k (back x0) = L2 := ⟨_, rfl⟩
  have HL2 : Hid (L.set k ⟨m, false, 0, 0, 0⟩ = L2) := by show _ = _; rw [← hL2, ← hm, ← hz]; rfl
  have HN2 : Hid (L2.length = n) := by show _ = _; rw [← hL2, List.length_set]; exact HN.out
  have hw : IntKind.i64.wrap (x0 + 1) = z := by rw [IntKind.wrap_i64]; have := HX0.out; omega
  rw [hL2]
  have hkn : (k : Int) < (n : Int) := by have := HN.out; omega
  clear hsx hb0 hL2 hz
  go_enter Tryd.func10, Tryd.ntmps10
  go_upto_region 2 with (go_at_call 19; refine (HH _ (HA.out.below (bel_four _ _ _ _ _)) (HE.out.below (bel_four _ _ _ _ _))).mono ?_; rintro e w1 ⟨rfl, b1⟩; have H1 : Hid ((w1.heap[w.heap.size]? = some (.cells #[.slice a n c] 25 (0, 0)) ∧ w1.heap[w.heap.size + 1]? = some (.cells #[.int .i64 k, .int .i64 x0] 28 (0, 0)) ∧ w1.heap[w.heap.size + 1 + 1]? = some (.cells #[.slice none 0 0] 25 (0, 0)) ∧ w1.heap[w.heap.size + 1 + 1 + 1]? = some (.cells #[.int .i64 0, .bool false, .int .i64 0, .int .i64 0, .int .i64 0] 35 (0, 0))) ∧ Below w.heap.size w w1 ∧ w.heap.size + 1 + 1 + 1 < w1.heap.size) := four b1; clear b1; have hz3 : w.heap.size + 1 + 1 + 1 < w1.heap.size := H1.out.2.2; have hz2 : w.heap.size + 1 + 1 < w1.heap.size := Nat.lt_of_succ_lt hz3; have hz1 : w.heap.size + 1 < w1.heap.size := Nat.lt_of_succ_lt hz2; have hz0 : w.heap.size < w1.heap.size := Nat.lt_of_succ_lt hz1)
  have M2 : Hid (((w1.alloc (.cells #[.int .i64 x0, .bool true, .int .i64 x2, .int .i64 x3, .int .i64 x4] 35)).heap[w.heap.size]? = some (.cells #[.slice a n c] 25 (0, 0)) ∧ (w1.alloc (.cells #[.int .i64 x0, .bool true, .int .i64 x2, .int .i64 x3, .int .i64 x4] 35)).heap[w.heap.size + 1]? = some (.cells #[.int .i64 k, .int .i64 x0] 28 (0, 0)) ∧ (w1.alloc (.cells #[.int .i64 x0, .bool true, .int .i64 x2, .int .i64 x3, .int .i64 x4] 35)).heap[w.heap.size + 1 + 1]? = some (.cells #[.slice none 0 0] 25 (0, 0)) ∧ (w1.alloc (.cells #[.int .i64 x0, .bool true, .int .i64 x2, .int .i64 x3, .int .i64 x4] 35)).heap[w.heap.size + 1 + 1 + 1]? = some (.cells #[.int .i64 0, .bool false, .int .i64 0, .int .i64 0, .int .i64 0] 35 (0, 0))) ∧ (w1.alloc (.cells #[.int .i64 x0, .bool true, .int .i64 x2, .int .i64 x3, .int .i64 x4] 35)).heap[w1.heap.size]? = some (.cells #[.int .i64 x0, .bool true, .int .i64 x2, .int .i64 x3, .int .i64 x4] 35 (0, 0)) ∧ Errs (w1.alloc (.cells #[.int .i64 x0, .bool true, .int .i64 x2, .int .i64 x3, .int .i64 x4] 35)) p q ∧ Below w.heap.size w (w1.alloc (.cells #[.int .i64 x0, .bool true, .int .i64 x2, .int .i64 x3, .int .i64 x4] 35)) ∧ w1.heap.size < (w1.alloc (.cells #[.int .i64 x0, .bool true, .int .i64 x2, .int .i64 x3, .int .i64 x4] 35)).heap.size) := ⟨⟨(Below.heap_alloc _ _ _ hz0).trans H1.out.1.1, (Below.heap_alloc _ _ _ hz1).trans H1.out.1.2.1, (Below.heap_alloc _ _ _ hz2).trans H1.out.1.2.2.1, (Below.heap_alloc _ _ _ hz3).trans H1.out.1.2.2.2⟩, heap_alloc_new w1 _, HE.out.below ((H1.out.2.1).alloc H1.out.2.1.size _), (H1.out.2.1).alloc H1.out.2.1.size _, by simp⟩
  have hN : w.heap.size + 1 + 1 + 1 < w1.heap.size := hz3
  clear hz0 hz1 hz2 hz3 H1
  generalize (w1.alloc (.cells #[.int .i64 x0, .bool true, .int .i64 x2, .int .i64 x3, .int .i64 x4] 35)) = wA at *
  obtain ⟨N1, hN1⟩ : ∃ N1, w1.heap.size = N1 := ⟨_, rfl⟩
  rw [hN1] at M2 hN ⊢
  clear hN1
  have c0 : wA.cell? ⟨w.heap.size, 0, none⟩ = some (.slice a n c) := cellB M2.out.1.1 0
  have p0 : wA.cell? ⟨w.heap.size + 1, 0, none⟩ = some (.int .i64 k) := cellB M2.out.1.2.1 0
  have p1 : wA.cell? ⟨w.heap.size + 1, 1, none⟩ = some (.int .i64 x0) := cellB M2.out.1.2.1 1
  have l0 : wA.cell? ⟨w.heap.size + 1 + 1, 0, none⟩ = some (.slice none 0 0) := cellB M2.out.1.2.2.1 0
  have lf0 := fzB M2.out.1.2.2.1 0
  have d0 : wA.cell? ⟨w.heap.size + 1 + 1 + 1, 0, none⟩ = some (.int .i64 0) := cellB M2.out.1.2.2.2 0
  have df0 := fzB M2.out.1.2.2.2 0
  have d1 : wA.cell? ⟨w.heap.size + 1 + 1 + 1, 1, none⟩ = some (.bool false) := cellB M2.out.1.2.2.2 1
  have df1 := fzB M2.out.1.2.2.2 1
  have d2 : wA.cell? ⟨w.heap.size + 1 + 1 + 1, 2, none⟩ = some (.int .i64 0) := cellB M2.out.1.2.2.2 2
  have df2 := fzB M2.out.1.2.2.2 2
  have d3 : wA.cell? ⟨w.heap.size + 1 + 1 + 1, 3, none⟩ = some (.int .i64 0) := cellB M2.out.1.2.2.2 3
  have df3 := fzB M2.out.1.2.2.2 3
  have d4 : wA.cell? ⟨w.heap.size + 1 + 1 + 1, 4, none⟩ = some (.int .i64 0) := cellB M2.out.1.2.2.2 4
  have df4 := fzB M2.out.1.2.2.2 4
  have s0 : wA.cell? ⟨N1, 0, none⟩ = some (.int .i64 x0) := cellB M2.out.2.1 0
  have s1 : wA.cell? ⟨N1, 1, none⟩ = some (.bool true) := cellB M2.out.2.1 1
  have s2 : wA.cell? ⟨N1, 2, none⟩ = some (.int .i64 x2) := cellB M2.out.2.1 2
  have s3 : wA.cell? ⟨N1, 3, none⟩ = some (.int .i64 x3) := cellB M2.out.2.1 3
  have s4 : wA.cell? ⟨N1, 4, none⟩ = some (.int .i64 x4) := cellB M2.out.2.1 4
  have e0 : wA.cell? ⟨0, 0, none⟩ = some (.iface 82 (.pointer (some p))) := M2.out.2.2.1.1
  have hzn : N1 < wA.heap.size := M2.out.2.2.2.2
  have hz3 : w.heap.size + 1 + 1 + 1 < wA.heap.size := Nat.lt_trans hN hzn
  have hz2 : w.heap.size + 1 + 1 < wA.heap.size := Nat.lt_of_succ_lt hz3
  have hz1 : w.heap.size + 1 < wA.heap.size := Nat.lt_of_succ_lt hz2
  have hz0 : w.heap.size < wA.heap.size := Nat.lt_of_succ_lt hz1
  go_upto_region 7 with (first | (go_at_call 20; refine (is_nil p _).mono ?_; rintro e w9 ⟨rfl, h9⟩; rw [h9]; clear h9 w9) | (go_at_call 21; refine (HOL _ (HA.out.below M2.out.2.2.2.1)).mono ?_; clear c0 p0 p1 l0 lf0 d0 d1 d2 d3 d4 df0 df1 df2 df3 df4 s0 s1 s2 s3 s4 e0; rintro e w2 ⟨v2, rfl, cp2, b2⟩; have H2 : Hid ((w2.heap[w.heap.size]? = some (.cells #[.slice a n c] 25 (0, 0)) ∧ w2.heap[w.heap.size + 1]? = some (.cells #[.int .i64 k, .int .i64 x0] 28 (0, 0)) ∧ w2.heap[w.heap.size + 1 + 1]? = some (.cells #[.slice none 0 0] 25 (0, 0)) ∧ w2.heap[w.heap.size + 1 + 1 + 1]? = some (.cells #[.int .i64 0, .bool false, .int .i64 0, .int .i64 0, .int .i64 0] 35 (0, 0))) ∧ w2.heap[N1]? = some (.cells #[.int .i64 x0, .bool true, .int .i64 x2, .int .i64 x3, .int .i64 x4] 35 (0, 0)) ∧ Cp w2 wA.heap.size v2 L ∧ Below w.heap.size w w2) := ⟨⟨(b2.block _ hz0).trans M2.out.1.1, (b2.block _ hz1).trans M2.out.1.2.1, (b2.block _ hz2).trans M2.out.1.2.2.1, (b2.block _ hz3).trans M2.out.1.2.2.2⟩, (b2.block _ hzn).trans M2.out.2.1, cp2, M2.out.2.2.2.1.trans (b2.mono M2.out.2.2.2.1.size)⟩; have hA2 : wA.heap.size ≤ w2.heap.size := b2.size; obtain ⟨a2, c2, hv2, hc2, hs2⟩ := cp2.shape; rw [HN.out] at hv2 hc2; subst hv2; have c0 : w2.cell? ⟨w.heap.size, 0, none⟩ = some (.slice a n c) := cellB H2.out.1.1 0; have p0 : w2.cell? ⟨w.heap.size + 1, 0, none⟩ = some (.int .i64 k) := cellB H2.out.1.2.1 0; have p1 : w2.cell? ⟨w.heap.size + 1, 1, none⟩ = some (.int .i64 x0) := cellB H2.out.1.2.1 1; have l0 : w2.cell? ⟨w.heap.size + 1 + 1, 0, none⟩ = some (.slice none 0 0) := cellB H2.out.1.2.2.1 0; have lf0 := fzB H2.out.1.2.2.1 0; have d0 : w2.cell? ⟨w.heap.size + 1 + 1 + 1, 0, none⟩ = some (.int .i64 0) := cellB H2.out.1.2.2.2 0; have df0 := fzB H2.out.1.2.2.2 0; have d1 : w2.cell? ⟨w.heap.size + 1 + 1 + 1, 1, none⟩ = some (.bool false) := cellB H2.out.1.2.2.2 1; have df1 := fzB H2.out.1.2.2.2 1; have d2 : w2.cell? ⟨w.heap.size + 1 + 1 + 1, 2, none⟩ = some (.int .i64 0) := cellB H2.out.1.2.2.2 2; have df2 := fzB H2.out.1.2.2.2 2; have d3 : w2.cell? ⟨w.heap.size + 1 + 1 + 1, 3, none⟩ = some (.int .i64 0) := cellB H2.out.1.2.2.2 3; have df3 := fzB H2.out.1.2.2.2 3; have d4 : w2.cell? ⟨w.heap.size + 1 + 1 + 1, 4, none⟩ = some (.int .i64 0) := cellB H2.out.1.2.2.2 4; have df4 := fzB H2.out.1.2.2.2 4; have hy3 : w.heap.size + 1 + 1 + 1 < w2.heap.size := Nat.lt_of_lt_of_le hz3 b2.size; have hy2 : w.heap.size + 1 + 1 < w2.heap.size := Nat.lt_of_succ_lt hy3; clear b2 cp2 hs2))
  obtain ⟨g2, o2, ha2, hg2, hr2⟩ := cp_row H2.out.2.2.1 HKL.out
  subst ha2
  have M7 : Hid (((w2.alloc (.cells #[.slice (some ⟨g2, o2, none⟩) n c2] 25)).heap[w.heap.size]? = some (.cells #[.slice a n c] 25 (0, 0)) ∧ (w2.alloc (.cells #[.slice (some ⟨g2, o2, none⟩) n c2] 25)).heap[w.heap.size + 1]? = some (.cells #[.int .i64 k, .int .i64 x0] 28 (0, 0)) ∧ (w2.alloc (.cells #[.slice (some ⟨g2, o2, none⟩) n c2] 25)).heap[w.heap.size + 1 + 1]? = some (.cells #[.slice none 0 0] 25 (0, 0)) ∧ (w2.alloc (.cells #[.slice (some ⟨g2, o2, none⟩) n c2] 25)).heap[w.heap.size + 1 + 1 + 1]? = some (.cells #[.int .i64 0, .bool false, .int .i64 0, .int .i64 0, .int .i64 0] 35 (0, 0))) ∧ (w2.alloc (.cells #[.slice (some ⟨g2, o2, none⟩) n c2] 25)).heap[N1]? = some (.cells #[.int .i64 x0, .bool true, .int .i64 x2, .int .i64 x3, .int .i64 x4] 35 (0, 0)) ∧ Row 35 5 cells (w2.alloc (.cells #[.slice (some ⟨g2, o2, none⟩) n c2] 25)) g2 o2 L ∧ (w2.alloc (.cells #[.slice (some ⟨g2, o2, none⟩) n c2] 25)).heap[w2.heap.size]? = some (.cells #[.slice (some ⟨g2, o2, none⟩) n c2] 25 (0, 0)) ∧ Below w.heap.size w (w2.alloc (.cells #[.slice (some ⟨g2, o2, none⟩) n c2] 25)) ∧ w2.heap.size < (w2.alloc (.cells #[.slice (some ⟨g2, o2, none⟩) n c2] 25)).heap.size) := by
    have b9 := ((Below.refl w2.heap.size w2).alloc (Nat.le_refl _) (.cells #[.slice (some ⟨g2, o2, none⟩) n c2] 25))
    exact ⟨⟨(b9.block _ (by omega)).trans H2.out.1.1, (b9.block _ (by omega)).trans H2.out.1.2.1, (b9.block _ hy2).trans H2.out.1.2.2.1, (b9.block _ hy3).trans H2.out.1.2.2.2⟩, (b9.block _ (by omega)).trans H2.out.2.1, hr2.below b9, heap_alloc_new w2 _, H2.out.2.2.2.alloc H2.out.2.2.2.size _, by simp⟩
  have HGL : Hid (g2 < w2.heap.size ∧ wA.heap.size ≤ g2 ∧ N1 < wA.heap.size ∧ w.heap.size + 1 + 1 + 1 < N1 ∧ wA.heap.size ≤ w2.heap.size) := ⟨hr2.lt, hg2, hzn, hN, hA2⟩
  clear c0 p0 p1 l0 lf0 d0 d1 d2 d3 d4 df0 df1 df2 df3 df4 hy2 hy3 hz0 hz1 hz2 hz3 hzn hr2 hg2 hA2 H2 M2
  generalize (w2.alloc (.cells #[.slice (some ⟨g2, o2, none⟩) n c2] 25)) = wB at *
  obtain ⟨N2, hN2⟩ : ∃ N2, w2.heap.size = N2 := ⟨_, rfl⟩
  rw [hN2] at M7 HGL ⊢
  clear hN2
  have y0 : wB.cell? ⟨N2, 0, none⟩ = some (.slice (some ⟨g2, o2, none⟩) n c2) := cellB M7.out.2.2.2.1 0
  have p0 : wB.cell? ⟨w.heap.size + 1, 0, none⟩ = some (.int .i64 k) := cellB M7.out.1.2.1 0
  have s0 : wB.cell? ⟨N1, 0, none⟩ = some (.int .i64 x0) := cellB M7.out.2.1 0
  have u9 := fun j hj => M7.out.2.2.1.cell k HKL.out j hj
  rw [HS.out] at u9
  have r0 : wB.cell? ⟨g2, o2 + k * 5, none⟩ = some (.int .i64 x0) := u9 0 (by omega)
  have z0 := M7.out.2.2.1.fz (o2 + k * 5)
  have r1 : wB.cell? ⟨g2, o2 + k * 5 + 1, none⟩ = some (.bool true) := u9 1 (by omega)
  have z1 := M7.out.2.2.1.fz (o2 + k * 5 + 1)
  have r2 : wB.cell? ⟨g2, o2 + k * 5 + 2, none⟩ = some (.int .i64 x2) := u9 2 (by omega)
  have z2 := M7.out.2.2.1.fz (o2 + k * 5 + 2)
  have r3 : wB.cell? ⟨g2, o2 + k * 5 + 3, none⟩ = some (.int .i64 x3) := u9 3 (by omega)
  have z3 := M7.out.2.2.1.fz (o2 + k * 5 + 3)
  have r4 : wB.cell? ⟨g2, o2 + k * 5 + 4, none⟩ = some (.int .i64 x4) := u9 4 (by omega)
  have z4 := M7.out.2.2.1.fz (o2 + k * 5 + 4)
  clear u9
  go_upto_region 8 with fail
  have M8 : Hid (((((((wB.setCell ⟨g2, o2 + k * 5, none⟩ (.int .i64 m)).setCell ⟨g2, o2 + k * 5 + 1, none⟩ (.bool false)).setCell ⟨g2, o2 + k * 5 + 2, none⟩ (.int .i64 0)).setCell ⟨g2, o2 + k * 5 + 3, none⟩ (.int .i64 0)).setCell ⟨g2, o2 + k * 5 + 4, none⟩ (.int .i64 0)).heap[w.heap.size]? = some (.cells #[.slice a n c] 25 (0, 0)) ∧ (((((wB.setCell ⟨g2, o2 + k * 5, none⟩ (.int .i64 m)).setCell ⟨g2, o2 + k * 5 + 1, none⟩ (.bool false)).setCell ⟨g2, o2 + k * 5 + 2, none⟩ (.int .i64 0)).setCell ⟨g2, o2 + k * 5 + 3, none⟩ (.int .i64 0)).setCell ⟨g2, o2 + k * 5 + 4, none⟩ (.int .i64 0)).heap[w.heap.size + 1]? = some (.cells #[.int .i64 k, .int .i64 x0] 28 (0, 0)) ∧ (((((wB.setCell ⟨g2, o2 + k * 5, none⟩ (.int .i64 m)).setCell ⟨g2, o2 + k * 5 + 1, none⟩ (.bool false)).setCell ⟨g2, o2 + k * 5 + 2, none⟩ (.int .i64 0)).setCell ⟨g2, o2 + k * 5 + 3, none⟩ (.int .i64 0)).setCell ⟨g2, o2 + k * 5 + 4, none⟩ (.int .i64 0)).heap[w.heap.size + 1 + 1]? = some (.cells #[.slice none 0 0] 25 (0, 0)) ∧ (((((wB.setCell ⟨g2, o2 + k * 5, none⟩ (.int .i64 m)).setCell ⟨g2, o2 + k * 5 + 1, none⟩ (.bool false)).setCell ⟨g2, o2 + k * 5 + 2, none⟩ (.int .i64 0)).setCell ⟨g2, o2 + k * 5 + 3, none⟩ (.int .i64 0)).setCell ⟨g2, o2 + k * 5 + 4, none⟩ (.int .i64 0)).heap[w.heap.size + 1 + 1 + 1]? = some (.cells #[.int .i64 0, .bool false, .int .i64 0, .int .i64 0, .int .i64 0] 35 (0, 0))) ∧ (((((wB.setCell ⟨g2, o2 + k * 5, none⟩ (.int .i64 m)).setCell ⟨g2, o2 + k * 5 + 1, none⟩ (.bool false)).setCell ⟨g2, o2 + k * 5 + 2, none⟩ (.int .i64 0)).setCell ⟨g2, o2 + k * 5 + 3, none⟩ (.int .i64 0)).setCell ⟨g2, o2 + k * 5 + 4, none⟩ (.int .i64 0)).heap[N1]? = some (.cells #[.int .i64 x0, .bool true, .int .i64 x2, .int .i64 x3, .int .i64 x4] 35 (0, 0)) ∧ Row 35 5 cells (((((wB.setCell ⟨g2, o2 + k * 5, none⟩ (.int .i64 m)).setCell ⟨g2, o2 + k * 5 + 1, none⟩ (.bool false)).setCell ⟨g2, o2 + k * 5 + 2, none⟩ (.int .i64 0)).setCell ⟨g2, o2 + k * 5 + 3, none⟩ (.int .i64 0)).setCell ⟨g2, o2 + k * 5 + 4, none⟩ (.int .i64 0)) g2 o2 L2 ∧ (((((wB.setCell ⟨g2, o2 + k * 5, none⟩ (.int .i64 m)).setCell ⟨g2, o2 + k * 5 + 1, none⟩ (.bool false)).setCell ⟨g2, o2 + k * 5 + 2, none⟩ (.int .i64 0)).setCell ⟨g2, o2 + k * 5 + 3, none⟩ (.int .i64 0)).setCell ⟨g2, o2 + k * 5 + 4, none⟩ (.int .i64 0)).heap[N2]? = some (.cells #[.slice (some ⟨g2, o2, none⟩) n c2] 25 (0, 0)) ∧ Below w.heap.size w (((((wB.setCell ⟨g2, o2 + k * 5, none⟩ (.int .i64 m)).setCell ⟨g2, o2 + k * 5 + 1, none⟩ (.bool false)).setCell ⟨g2, o2 + k * 5 + 2, none⟩ (.int .i64 0)).setCell ⟨g2, o2 + k * 5 + 3, none⟩ (.int .i64 0)).setCell ⟨g2, o2 + k * 5 + 4, none⟩ (.int .i64 0)) ∧ N2 < (((((wB.setCell ⟨g2, o2 + k * 5, none⟩ (.int .i64 m)).setCell ⟨g2, o2 + k * 5 + 1, none⟩ (.bool false)).setCell ⟨g2, o2 + k * 5 + 2, none⟩ (.int .i64 0)).setCell ⟨g2, o2 + k * 5 + 3, none⟩ (.int .i64 0)).setCell ⟨g2, o2 + k * 5 + 4, none⟩ (.int .i64 0)).heap.size) := by
    have e : (((((wB.setCell ⟨g2, o2 + k * 5, none⟩ (.int .i64 m)).setCell ⟨g2, o2 + k * 5 + 1, none⟩ (.bool false)).setCell ⟨g2, o2 + k * 5 + 2, none⟩ (.int .i64 0)).setCell ⟨g2, o2 + k * 5 + 3, none⟩ (.int .i64 0)).setCell ⟨g2, o2 + k * 5 + 4, none⟩ (.int .i64 0)) = sets wB g2 (o2 + k * 5) (cells ⟨m, false, 0, 0, 0⟩) := rfl
    rw [e]
    have q := M7.out
    have u := HGL.out
    have hr := row_put q.2.2.1 k HKL.out ⟨m, false, 0, 0, 0⟩
    rw [HL2.out] at hr
    refine ⟨⟨?_, ?_, ?_, ?_⟩, ?_, hr, ?_, sets_below (by omega) _ _ _ q.2.2.2.2.1, ?_⟩
    · rw [sets_else (by omega)]; exact q.1.1
    · rw [sets_else (by omega)]; exact q.1.2.1
    · rw [sets_else (by omega)]; exact q.1.2.2.1
    · rw [sets_else (by omega)]; exact q.1.2.2.2
    · rw [sets_else (by omega)]; exact q.2.1
    · rw [sets_else (by omega)]; exact q.2.2.2.1
    · have h9 : ((sets wB g2 (o2 + k * 5) (cells ⟨m, false, 0, 0, 0⟩)).heap[N2]?) = some (.cells #[.slice (some ⟨g2, o2, none⟩) n c2] 25 (0, 0)) := by rw [sets_else (by omega)]; exact q.2.2.2.1
      exact (Array.getElem?_eq_some_iff.1 h9).1
  clear r0 r1 r2 r3 r4 z0 z1 z2 z3 z4 y0 p0 s0 M7
  generalize (((((wB.setCell ⟨g2, o2 + k * 5, none⟩ (.int .i64 m)).setCell ⟨g2, o2 + k * 5 + 1, none⟩ (.bool false)).setCell ⟨g2, o2 + k * 5 + 2, none⟩ (.int .i64 0)).setCell ⟨g2, o2 + k * 5 + 3, none⟩ (.int .i64 0)).setCell ⟨g2, o2 + k * 5 + 4, none⟩ (.int .i64 0)) = wC at *
  have y0 : wC.cell? ⟨N2, 0, none⟩ = some (.slice (some ⟨g2, o2, none⟩) n c2) := cellB M8.out.2.2.2.1 0
  have s0 : wC.cell? ⟨N1, 0, none⟩ = some (.int .i64 x0) := cellB M8.out.2.1 0
  have s1 : wC.cell? ⟨N1, 1, none⟩ = some (.bool true) := cellB M8.out.2.1 1
  have s2 : wC.cell? ⟨N1, 2, none⟩ = some (.int .i64 x2) := cellB M8.out.2.1 2
  have s3 : wC.cell? ⟨N1, 3, none⟩ = some (.int .i64 x3) := cellB M8.out.2.1 3
  have s4 : wC.cell? ⟨N1, 4, none⟩ = some (.int .i64 x4) := cellB M8.out.2.1 4
  have l0 : wC.cell? ⟨w.heap.size + 1 + 1, 0, none⟩ = some (.slice none 0 0) := cellB M8.out.1.2.2.1 0
  have lf0 := fzB M8.out.1.2.2.1 0
  have d0 : wC.cell? ⟨w.heap.size + 1 + 1 + 1, 0, none⟩ = some (.int .i64 0) := cellB M8.out.1.2.2.2 0
  have df0 := fzB M8.out.1.2.2.2 0
  have d1 : wC.cell? ⟨w.heap.size + 1 + 1 + 1, 1, none⟩ = some (.bool false) := cellB M8.out.1.2.2.2 1
  have df1 := fzB M8.out.1.2.2.2 1
  have d2 : wC.cell? ⟨w.heap.size + 1 + 1 + 1, 2, none⟩ = some (.int .i64 0) := cellB M8.out.1.2.2.2 2
  have df2 := fzB M8.out.1.2.2.2 2
  have d3 : wC.cell? ⟨w.heap.size + 1 + 1 + 1, 3, none⟩ = some (.int .i64 0) := cellB M8.out.1.2.2.2 3
  have df3 := fzB M8.out.1.2.2.2 3
  have d4 : wC.cell? ⟨w.heap.size + 1 + 1 + 1, 4, none⟩ = some (.int .i64 0) := cellB M8.out.1.2.2.2 4
  have df4 := fzB M8.out.1.2.2.2 4
  have HL3 : Hid (w.heap.size + 1 + 1 + 1 < N1) := HGL.out.2.2.2.1
  have hn1 : N1 ≠ w.heap.size + 1 + 1 := by have := HGL.out; omega
  have hn2 : N1 ≠ w.heap.size + 1 + 1 + 1 := by have := HGL.out; omega
  have hn3 : N2 ≠ w.heap.size + 1 + 1 := by have := HGL.out; omega
  have hn4 : N2 ≠ w.heap.size + 1 + 1 + 1 := by have := HGL.out; omega
  go_region
  go_wp2
  refine bodyPost_ret (v := .tuple #[.agg #[.slice (some ⟨g2, o2, none⟩) n c2], .agg #[.int .i64 x0, .bool true, .int .i64 x2, .int .i64 x3, .int .i64 x4], .bool true]) (by simp [results, Tryd.results10, go_sem, l0, d0, d1, d2, d3, d4]) rfl ⟨some ⟨g2, o2, none⟩, c2, by rw [HN2.out], by rw [HN2.out]; exact hc2, ?_, ?_, ?_⟩
  · have u := HGL.out
    exact Or.inr ⟨g2, o2, rfl, row_drew (((((((M8.out.2.2.1).set (by show g2 ≠ w.heap.size + 1 + 1; omega) _).set (by show g2 ≠ w.heap.size + 1 + 1 + 1; omega) _).set (by show g2 ≠ w.heap.size + 1 + 1 + 1; omega) _).set (by show g2 ≠ w.heap.size + 1 + 1 + 1; omega) _).set (by show g2 ≠ w.heap.size + 1 + 1 + 1; omega) _).set (by show g2 ≠ w.heap.size + 1 + 1 + 1; omega) _)⟩
  · intro b hb
    have u := HGL.out
    cases L2 with
    | nil => simp [blkL] at hb
    | cons q9 L9 => simp [blkL] at hb; omega
  · exact (((((((M8.out.2.2.2.2.1).setCell (Nat.le_add_right _ 2) _).setCell (Nat.le_add_right _ 3) _).setCell (Nat.le_add_right _ 3) _).setCell (Nat.le_add_right _ 3) _).setCell (Nat.le_add_right _ 3) _).setCell (Nat.le_add_right _ 3) _).drew

end Go.Proofs.YtacpblhajoblmaaDoor.LedRel
