/- What the model's Release answers, at every ledger of at most 2 to the 20 slots and every permit; nothing else turns. -/
import Derived.Test.YtacpblhajoblmaaDoorRows
import Derived.WalkKit
import Derived.WalkSmall
import Derived.BigQuiet
import Derived.Deep.RegionWith
import Derived.Deep.DeepCutAuto
import Derived.StillTailTactics
import Derived.Test.YtacpblhajoblmaaDoorListKit
import Derived.Test.YtacpblhajoblmaaDoorSlotKit
import Derived.Test.YtacpblhajoblmaaDoorSlotOks
import Derived.Test.YtacpblhajoblmaaDoorLedFind
import Derived.Test.YtacpblhajoblmaaDoorLedOk
import Derived.Test.YtacpblhajoblmaaDoorLedPermit
import Derived.Test.YtacpblhajoblmaaDoorLedCopy
import Derived.Test.YtacpblhajoblmaaDoorLedGrant
import Derived.Test.YtacpblhajoblmaaDoorLedFour
import Derived.Test.YtacpblhajoblmaaDoorLedHeld
import Derived.Test.YtacpblhajoblmaaDoorLedRel
namespace Go.Proofs.YtacpblhajoblmaaDoor.LedRelS
open Go.RowKit ListKit SlotKit SlotOks LedFind LedOk LedPermit LedCopy LedGrant LedFour LedHeld LedRel
set_option maxRecDepth 8000
set_option linter.unusedVariables false
set_option linter.unusedSimpArgs false

theorem clamp_min (x m : Int) (w : World) (h0 : 0 ≤ x) : Calls Tryd.prog 41 #[.int .i64 x, .int .i64 0, .int .i64 m] w fun e w' => e = .returned (.int .i64 (if m < x then m else x)) ∧ w' = w := by
  have n0 : ¬ x < 0 := by omega
  by_cases hm : m < x
  · rw [if_pos hm]
    clear h0
    go_enter Tryd.func41, Tryd.ntmps41
    go_wp2
    go_ret
    exact ⟨rfl, rfl⟩
  · rw [if_neg hm]
    clear h0
    go_enter Tryd.func41, Tryd.ntmps41
    go_wp2
    go_ret
    exact ⟨rfl, rfl⟩
theorem next_gen (y z m : Int) (w : World) (h0 : 0 ≤ z) (hw : IntKind.i64.wrap (y + 1) = z) (hm : (if 1000000 < z then 1000000 else z : Int) = m) : Calls Tryd.prog 38 #[.int .i64 y] w fun e w' => e = .returned (.int .i64 m) ∧ w' = w := by
  have HC := clamp_min z 1000000 w h0
  rw [hm] at HC
  clear hm
  go_enter Tryd.func38, Tryd.ntmps38
  go_wp2_with (go_at_call 41; refine HC.mono ?_; rintro e w9 ⟨rfl, h9⟩; rw [h9]; clear h9 w9)
  go_ret
  exact ⟨rfl, rfl⟩

set_option maxHeartbeats 8000000 in
theorem spec_rel_bad (a : Option Addr) (c : Nat) (L : List Slot) (x y : Int) (w : World) (h : Own 35 5 cells w a L) (hl : (L.length : Int) ≤ 1048577) (hc : L.length ≤ c) (HB : Hid (¬ ledOk L)) :
    Calls Tryd.prog 23 #[.agg #[.slice a L.length c], .agg #[.int .i64 x, .int .i64 y]] w (RAns w [] zero false) := by
  have HA : Hid (Own 35 5 cells w a L) := h
  have HCP := fun (W : World) h => spec_copy a c L W h (by omega)
  have HLO := fun (W : World) h => spec_ledok a c L false W h (by omega) hc ⟨fun h => (by cases h), fun h => absurd h HB.out⟩
  clear h
  obtain ⟨n, hn⟩ : ∃ n, L.length = n := ⟨_, rfl⟩
  have HN : Hid (L.length = n) := hn
  rw [hn] at hl hc HLO HCP ⊢
  clear hn
  go_enter Tryd.func23, Tryd.ntmps23
  go_wp2_with (go_at_call 36; refine (HLO _ (HA.out.below (bel_four _ _ _ _ _))).mono ?_; rintro e w1 ⟨rfl, b1⟩; have H1 : Hid ((w1.heap[w.heap.size]? = some (.cells #[.slice a n c] 25 (0, 0)) ∧ w1.heap[w.heap.size + 1]? = some (.cells #[.int .i64 x, .int .i64 y] 28 (0, 0)) ∧ w1.heap[w.heap.size + 1 + 1]? = some (.cells #[.slice none 0 0] 25 (0, 0)) ∧ w1.heap[w.heap.size + 1 + 1 + 1]? = some (.cells #[.int .i64 0, .bool false, .int .i64 0, .int .i64 0, .int .i64 0] 35 (0, 0))) ∧ Below w.heap.size w w1 ∧ w.heap.size + 1 + 1 + 1 < w1.heap.size) := four b1; clear b1; have hz3 : w.heap.size + 1 + 1 + 1 < w1.heap.size := H1.out.2.2; have hz2 : w.heap.size + 1 + 1 < w1.heap.size := Nat.lt_of_succ_lt hz3; have hz1 : w.heap.size + 1 < w1.heap.size := Nat.lt_of_succ_lt hz2; have hz0 : w.heap.size < w1.heap.size := Nat.lt_of_succ_lt hz1; have c0 : w1.cell? ⟨w.heap.size, 0, none⟩ = some (.slice a n c) := cellB H1.out.1.1 0; have p0 : w1.cell? ⟨w.heap.size + 1, 0, none⟩ = some (.int .i64 x) := cellB H1.out.1.2.1 0; have p1 : w1.cell? ⟨w.heap.size + 1, 1, none⟩ = some (.int .i64 y) := cellB H1.out.1.2.1 1; have l0 : w1.cell? ⟨w.heap.size + 1 + 1, 0, none⟩ = some (.slice none 0 0) := cellB H1.out.1.2.2.1 0; have lf0 := fzB H1.out.1.2.2.1 0; have d0 : w1.cell? ⟨w.heap.size + 1 + 1 + 1, 0, none⟩ = some (.int .i64 0) := cellB H1.out.1.2.2.2 0; have df0 := fzB H1.out.1.2.2.2 0; have d1 : w1.cell? ⟨w.heap.size + 1 + 1 + 1, 1, none⟩ = some (.bool false) := cellB H1.out.1.2.2.2 1; have df1 := fzB H1.out.1.2.2.2 1; have d2 : w1.cell? ⟨w.heap.size + 1 + 1 + 1, 2, none⟩ = some (.int .i64 0) := cellB H1.out.1.2.2.2 2; have df2 := fzB H1.out.1.2.2.2 2; have d3 : w1.cell? ⟨w.heap.size + 1 + 1 + 1, 3, none⟩ = some (.int .i64 0) := cellB H1.out.1.2.2.2 3; have df3 := fzB H1.out.1.2.2.2 3; have d4 : w1.cell? ⟨w.heap.size + 1 + 1 + 1, 4, none⟩ = some (.int .i64 0) := cellB H1.out.1.2.2.2 4; have df4 := fzB H1.out.1.2.2.2 4)
  refine bodyPost_ret (v := .tuple #[.agg #[.slice none 0 0], .agg #[.int .i64 0, .bool false, .int .i64 0, .int .i64 0, .int .i64 0], .bool false]) (by simp [results, Tryd.results23, go_sem, l0, d0, d1, d2, d3, d4]) rfl ⟨none, 0, rfl, Nat.le_refl _, Or.inl rfl, fun b h => by simp [blkL] at h, ?_⟩
  exact ((((((H1.out.2.1).setCell (Nat.le_add_right _ 2) _).setCell (Nat.le_add_right _ 3) _).setCell (Nat.le_add_right _ 3) _).setCell (Nat.le_add_right _ 3) _).setCell (Nat.le_add_right _ 3) _).setCell (Nat.le_add_right _ 3) _

set_option maxHeartbeats 8000000 in
theorem spec_rel_out (a : Option Addr) (c : Nat) (L : List Slot) (x y : Int) (w : World) (h : Own 35 5 cells w a L) (hl : (L.length : Int) ≤ 1048577) (hc : L.length ≤ c) (HB : Hid (ledOk L)) (HX : x < 0 ∨ (L.length : Int) ≤ x) :
    Calls Tryd.prog 23 #[.agg #[.slice a L.length c], .agg #[.int .i64 x, .int .i64 y]] w (RAns w L zero false) := by
  have HA : Hid (Own 35 5 cells w a L) := h
  have HCP := fun (W : World) h => spec_copy a c L W h (by omega)
  have HLO := fun (W : World) h => spec_ledok a c L true W h (by omega) hc ⟨fun _ => HB.out, fun _ => rfl⟩
  clear h
  obtain ⟨n, hn⟩ : ∃ n, L.length = n := ⟨_, rfl⟩
  have HN : Hid (L.length = n) := hn
  rw [hn] at hl hc HLO HCP ⊢
  clear hn
  rw [HN.out] at HX
  go_enter Tryd.func23, Tryd.ntmps23
  go_upto_region 4 with (first | (go_at_call 36; refine (HLO _ (HA.out.below (bel_four _ _ _ _ _))).mono ?_; rintro e w1 ⟨rfl, b1⟩; have H1 : Hid ((w1.heap[w.heap.size]? = some (.cells #[.slice a n c] 25 (0, 0)) ∧ w1.heap[w.heap.size + 1]? = some (.cells #[.int .i64 x, .int .i64 y] 28 (0, 0)) ∧ w1.heap[w.heap.size + 1 + 1]? = some (.cells #[.slice none 0 0] 25 (0, 0)) ∧ w1.heap[w.heap.size + 1 + 1 + 1]? = some (.cells #[.int .i64 0, .bool false, .int .i64 0, .int .i64 0, .int .i64 0] 35 (0, 0))) ∧ Below w.heap.size w w1 ∧ w.heap.size + 1 + 1 + 1 < w1.heap.size) := four b1; clear b1; have hz3 : w.heap.size + 1 + 1 + 1 < w1.heap.size := H1.out.2.2; have hz2 : w.heap.size + 1 + 1 < w1.heap.size := Nat.lt_of_succ_lt hz3; have hz1 : w.heap.size + 1 < w1.heap.size := Nat.lt_of_succ_lt hz2; have hz0 : w.heap.size < w1.heap.size := Nat.lt_of_succ_lt hz1; have c0 : w1.cell? ⟨w.heap.size, 0, none⟩ = some (.slice a n c) := cellB H1.out.1.1 0; have p0 : w1.cell? ⟨w.heap.size + 1, 0, none⟩ = some (.int .i64 x) := cellB H1.out.1.2.1 0; have p1 : w1.cell? ⟨w.heap.size + 1, 1, none⟩ = some (.int .i64 y) := cellB H1.out.1.2.1 1; have l0 : w1.cell? ⟨w.heap.size + 1 + 1, 0, none⟩ = some (.slice none 0 0) := cellB H1.out.1.2.2.1 0; have lf0 := fzB H1.out.1.2.2.1 0; have d0 : w1.cell? ⟨w.heap.size + 1 + 1 + 1, 0, none⟩ = some (.int .i64 0) := cellB H1.out.1.2.2.2 0; have df0 := fzB H1.out.1.2.2.2 0; have d1 : w1.cell? ⟨w.heap.size + 1 + 1 + 1, 1, none⟩ = some (.bool false) := cellB H1.out.1.2.2.2 1; have df1 := fzB H1.out.1.2.2.2 1; have d2 : w1.cell? ⟨w.heap.size + 1 + 1 + 1, 2, none⟩ = some (.int .i64 0) := cellB H1.out.1.2.2.2 2; have df2 := fzB H1.out.1.2.2.2 2; have d3 : w1.cell? ⟨w.heap.size + 1 + 1 + 1, 3, none⟩ = some (.int .i64 0) := cellB H1.out.1.2.2.2 3; have df3 := fzB H1.out.1.2.2.2 3; have d4 : w1.cell? ⟨w.heap.size + 1 + 1 + 1, 4, none⟩ = some (.int .i64 0) := cellB H1.out.1.2.2.2 4; have df4 := fzB H1.out.1.2.2.2 4) | (go_at_call 37; refine (HCP _ (HA.out.below H1.out.2.1)).mono ?_; clear c0 p0 p1 l0 lf0 d0 d1 d2 d3 d4 df0 df1 df2 df3 df4; rintro e w2 ⟨v2, rfl, cp2, b2⟩; have H2 : Hid ((w2.heap[w.heap.size]? = some (.cells #[.slice a n c] 25 (0, 0)) ∧ w2.heap[w.heap.size + 1]? = some (.cells #[.int .i64 x, .int .i64 y] 28 (0, 0)) ∧ w2.heap[w.heap.size + 1 + 1]? = some (.cells #[.slice none 0 0] 25 (0, 0)) ∧ w2.heap[w.heap.size + 1 + 1 + 1]? = some (.cells #[.int .i64 0, .bool false, .int .i64 0, .int .i64 0, .int .i64 0] 35 (0, 0))) ∧ Cp w2 w1.heap.size v2 L ∧ Below w.heap.size w w2 ∧ w1.heap.size ≤ w2.heap.size) := ⟨⟨(b2.block _ hz0).trans H1.out.1.1, (b2.block _ hz1).trans H1.out.1.2.1, (b2.block _ hz2).trans H1.out.1.2.2.1, (b2.block _ hz3).trans H1.out.1.2.2.2⟩, cp2, H1.out.2.1.trans (b2.mono H1.out.2.1.size), b2.size⟩; obtain ⟨a2, c2, hv2, hc2, hs2⟩ := cp2.shape; rw [HN.out] at hv2 hc2; subst hv2; have c0 : w2.cell? ⟨w.heap.size, 0, none⟩ = some (.slice a n c) := cellB H2.out.1.1 0; have p0 : w2.cell? ⟨w.heap.size + 1, 0, none⟩ = some (.int .i64 x) := cellB H2.out.1.2.1 0; have p1 : w2.cell? ⟨w.heap.size + 1, 1, none⟩ = some (.int .i64 y) := cellB H2.out.1.2.1 1; have l0 : w2.cell? ⟨w.heap.size + 1 + 1, 0, none⟩ = some (.slice none 0 0) := cellB H2.out.1.2.2.1 0; have lf0 := fzB H2.out.1.2.2.1 0; have d0 : w2.cell? ⟨w.heap.size + 1 + 1 + 1, 0, none⟩ = some (.int .i64 0) := cellB H2.out.1.2.2.2 0; have df0 := fzB H2.out.1.2.2.2 0; have d1 : w2.cell? ⟨w.heap.size + 1 + 1 + 1, 1, none⟩ = some (.bool false) := cellB H2.out.1.2.2.2 1; have df1 := fzB H2.out.1.2.2.2 1; have d2 : w2.cell? ⟨w.heap.size + 1 + 1 + 1, 2, none⟩ = some (.int .i64 0) := cellB H2.out.1.2.2.2 2; have df2 := fzB H2.out.1.2.2.2 2; have d3 : w2.cell? ⟨w.heap.size + 1 + 1 + 1, 3, none⟩ = some (.int .i64 0) := cellB H2.out.1.2.2.2 3; have df3 := fzB H2.out.1.2.2.2 3; have d4 : w2.cell? ⟨w.heap.size + 1 + 1 + 1, 4, none⟩ = some (.int .i64 0) := cellB H2.out.1.2.2.2 4; have df4 := fzB H2.out.1.2.2.2 4; have hy3 : w.heap.size + 1 + 1 + 1 < w2.heap.size := Nat.lt_of_lt_of_le hz3 b2.size; have hy2 : w.heap.size + 1 + 1 < w2.heap.size := Nat.lt_of_succ_lt hy3; clear b2 cp2 hs2))
  have M4 : Hid (((w2.alloc (.cells #[.slice a2 n c2] 25)).heap[w.heap.size]? = some (.cells #[.slice a n c] 25 (0, 0)) ∧ (w2.alloc (.cells #[.slice a2 n c2] 25)).heap[w.heap.size + 1]? = some (.cells #[.int .i64 x, .int .i64 y] 28 (0, 0)) ∧ (w2.alloc (.cells #[.slice a2 n c2] 25)).heap[w.heap.size + 1 + 1]? = some (.cells #[.slice none 0 0] 25 (0, 0)) ∧ (w2.alloc (.cells #[.slice a2 n c2] 25)).heap[w.heap.size + 1 + 1 + 1]? = some (.cells #[.int .i64 0, .bool false, .int .i64 0, .int .i64 0, .int .i64 0] 35 (0, 0))) ∧ Cp (w2.alloc (.cells #[.slice a2 n c2] 25)) w1.heap.size (.slice a2 n c2) L ∧ (w2.alloc (.cells #[.slice a2 n c2] 25)).heap[w2.heap.size]? = some (.cells #[.slice a2 n c2] 25 (0, 0)) ∧ Below w.heap.size w (w2.alloc (.cells #[.slice a2 n c2] 25)) ∧ w2.heap.size < (w2.alloc (.cells #[.slice a2 n c2] 25)).heap.size ∧ (∀ g, (Value.slice a2 n c2).ownBlock = some g → g < w2.heap.size)) := by
    have b9 := ((Below.refl w2.heap.size w2).alloc (Nat.le_refl _) (.cells #[.slice a2 n c2] 25))
    exact ⟨⟨(b9.block _ (by omega)).trans H2.out.1.1, (b9.block _ (by omega)).trans H2.out.1.2.1, (b9.block _ hy2).trans H2.out.1.2.2.1, (b9.block _ hy3).trans H2.out.1.2.2.2⟩, H2.out.2.1.below b9, heap_alloc_new w2 _, H2.out.2.2.1.alloc H2.out.2.2.1.size _, by simp, H2.out.2.1.lt⟩
  have HZ : Hid (w.heap.size + 1 + 1 + 1 < w1.heap.size ∧ w1.heap.size ≤ w2.heap.size) := ⟨hz3, H2.out.2.2.2⟩
  clear c0 p0 p1 l0 lf0 d0 d1 d2 d3 d4 df0 df1 df2 df3 df4 hy2 hy3 hz0 hz1 hz2 hz3 H1 H2
  generalize (w2.alloc (.cells #[.slice a2 n c2] 25)) = wB at *
  obtain ⟨N4, hN4⟩ : ∃ N4, w2.heap.size = N4 := ⟨_, rfl⟩
  obtain ⟨N1, hN1⟩ : ∃ N1, w1.heap.size = N1 := ⟨_, rfl⟩
  rw [hN4, hN1] at HZ
  rw [hN4, hN1] at M4
  rw [hN4]
  clear hN4 hN1
  have c0 : wB.cell? ⟨w.heap.size, 0, none⟩ = some (.slice a n c) := cellB M4.out.1.1 0
  have p0 : wB.cell? ⟨w.heap.size + 1, 0, none⟩ = some (.int .i64 x) := cellB M4.out.1.2.1 0
  have p1 : wB.cell? ⟨w.heap.size + 1, 1, none⟩ = some (.int .i64 y) := cellB M4.out.1.2.1 1
  have l0 : wB.cell? ⟨w.heap.size + 1 + 1, 0, none⟩ = some (.slice none 0 0) := cellB M4.out.1.2.2.1 0
  have lf0 := fzB M4.out.1.2.2.1 0
  have d0 : wB.cell? ⟨w.heap.size + 1 + 1 + 1, 0, none⟩ = some (.int .i64 0) := cellB M4.out.1.2.2.2 0
  have df0 := fzB M4.out.1.2.2.2 0
  have d1 : wB.cell? ⟨w.heap.size + 1 + 1 + 1, 1, none⟩ = some (.bool false) := cellB M4.out.1.2.2.2 1
  have df1 := fzB M4.out.1.2.2.2 1
  have d2 : wB.cell? ⟨w.heap.size + 1 + 1 + 1, 2, none⟩ = some (.int .i64 0) := cellB M4.out.1.2.2.2 2
  have df2 := fzB M4.out.1.2.2.2 2
  have d3 : wB.cell? ⟨w.heap.size + 1 + 1 + 1, 3, none⟩ = some (.int .i64 0) := cellB M4.out.1.2.2.2 3
  have df3 := fzB M4.out.1.2.2.2 3
  have d4 : wB.cell? ⟨w.heap.size + 1 + 1 + 1, 4, none⟩ = some (.int .i64 0) := cellB M4.out.1.2.2.2 4
  have df4 := fzB M4.out.1.2.2.2 4
  have v0 : wB.cell? ⟨N4, 0, none⟩ = some (.slice a2 n c2) := cellB M4.out.2.2.1 0
  have hN : w.heap.size + 1 + 1 + 1 < N4 := by have := HZ.out; omega
  have hz3 : w.heap.size + 1 + 1 + 1 < wB.heap.size := Nat.lt_trans hN M4.out.2.2.2.2.1
  have hz2 : w.heap.size + 1 + 1 < wB.heap.size := Nat.lt_of_succ_lt hz3
  have hz1 : w.heap.size + 1 < wB.heap.size := Nat.lt_of_succ_lt hz2
  have hz0 : w.heap.size < wB.heap.size := Nat.lt_of_succ_lt hz1
  by_cases h0 : x < 0
  · have h1 : decide (x < 0) = true := by simpa using h0
    clear HX h0
    go_wp2
    refine bodyPost_ret (v := .tuple #[.agg #[.slice a2 n c2], .agg #[.int .i64 0, .bool false, .int .i64 0, .int .i64 0, .int .i64 0], .bool false]) (by simp [results, Tryd.results23, go_sem, l0, d0, d1, d2, d3, d4]) rfl ⟨a2, c2, by rw [HN.out]; rfl, by rw [HN.out]; exact hc2, ?_, ?_, ?_⟩
    · have u := HZ.out
      exact cp_own (((((((M4.out.2.1).set (by show w.heap.size + 1 + 1 < N1; omega) _).set (by show w.heap.size + 1 + 1 + 1 < N1; omega) _).set (by show w.heap.size + 1 + 1 + 1 < N1; omega) _).set (by show w.heap.size + 1 + 1 + 1 < N1; omega) _).set (by show w.heap.size + 1 + 1 + 1 < N1; omega) _).set (by show w.heap.size + 1 + 1 + 1 < N1; omega) _)
    · intro b hb
      have u := HZ.out
      have := cp_ge M4.out.2.1 b hb
      omega
    · exact ((((((M4.out.2.2.2.1).setCell (Nat.le_add_right _ 2) _).setCell (Nat.le_add_right _ 3) _).setCell (Nat.le_add_right _ 3) _).setCell (Nat.le_add_right _ 3) _).setCell (Nat.le_add_right _ 3) _).setCell (Nat.le_add_right _ 3) _
  · have h1 : decide (x < 0) = false := by simpa using h0
    have h2 : decide ((n : Int) ≤ x) = true := by simp; omega
    clear HX h0
    go_wp2
    refine bodyPost_ret (v := .tuple #[.agg #[.slice a2 n c2], .agg #[.int .i64 0, .bool false, .int .i64 0, .int .i64 0, .int .i64 0], .bool false]) (by simp [results, Tryd.results23, go_sem, l0, d0, d1, d2, d3, d4]) rfl ⟨a2, c2, by rw [HN.out]; rfl, by rw [HN.out]; exact hc2, ?_, ?_, ?_⟩
    · have u := HZ.out
      exact cp_own (((((((M4.out.2.1).set (by show w.heap.size + 1 + 1 < N1; omega) _).set (by show w.heap.size + 1 + 1 + 1 < N1; omega) _).set (by show w.heap.size + 1 + 1 + 1 < N1; omega) _).set (by show w.heap.size + 1 + 1 + 1 < N1; omega) _).set (by show w.heap.size + 1 + 1 + 1 < N1; omega) _).set (by show w.heap.size + 1 + 1 + 1 < N1; omega) _)
    · intro b hb
      have u := HZ.out
      have := cp_ge M4.out.2.1 b hb
      omega
    · exact ((((((M4.out.2.2.2.1).setCell (Nat.le_add_right _ 2) _).setCell (Nat.le_add_right _ 3) _).setCell (Nat.le_add_right _ 3) _).setCell (Nat.le_add_right _ 3) _).setCell (Nat.le_add_right _ 3) _).setCell (Nat.le_add_right _ 3) _

set_option maxHeartbeats 8000000 in
theorem spec_rel_gone (a : Option Addr) (c : Nat) (L : List Slot) (x y : Int) (w : World) (h : Own 35 5 cells w a L) (hl : (L.length : Int) ≤ 1048577) (hc : L.length ≤ c) (HB : Hid (ledOk L)) (k : Nat) (hk : k < L.length) (HX : x = (k : Int)) (HG : ¬ (L[k].x1 = true ∧ L[k].x0 = y)) :
    Calls Tryd.prog 23 #[.agg #[.slice a L.length c], .agg #[.int .i64 x, .int .i64 y]] w (RAns w L zero false) := by
  have HA : Hid (Own 35 5 cells w a L) := h
  have HCP := fun (W : World) h => spec_copy a c L W h (by omega)
  have HLO := fun (W : World) h => spec_ledok a c L true W h (by omega) hc ⟨fun _ => HB.out, fun _ => rfl⟩
  clear h
  obtain ⟨n, hn⟩ : ∃ n, L.length = n := ⟨_, rfl⟩
  have HN : Hid (L.length = n) := hn
  rw [hn] at hl hc HLO HCP ⊢
  clear hn
  subst HX
  rcases HA.out with hnil | ⟨g, o, rfl, hr⟩
  · rw [hnil] at hk; simp at hk
  · have hr0 : Hid (Row 35 5 cells w g o L) := hr
    clear hr
    have hb0 := (HB.out.2 k hk).1
    obtain ⟨sx, hsx⟩ : ∃ s, L[k] = s := ⟨_, rfl⟩
    obtain ⟨x0, x1, x2, x3, x4⟩ := sx
    rw [hsx] at HG
    have h1 : decide ((k : Int) < 0) = false := by simp
    have hkn : (k : Int) < (n : Int) := by have := HN.out; omega
    have h2 : decide ((n : Int) ≤ (k : Int)) = false := by simp; omega
    have HS : Hid (L[k] = ⟨x0, x1, x2, x3, x4⟩) := hsx
    have HKL : Hid (k < L.length) := hk
    clear hsx
    have HG2 : Hid (¬ (x1 = true ∧ x0 = y)) := HG
    clear HG hb0
    cases x1 with
    | false =>
      go_enter Tryd.func23, Tryd.ntmps23
      go_upto_region 4 with (first | (go_at_call 36; refine (HLO _ (HA.out.below (bel_four _ _ _ _ _))).mono ?_; rintro e w1 ⟨rfl, b1⟩; have H1 : Hid ((w1.heap[w.heap.size]? = some (.cells #[.slice (some ⟨g, o, none⟩) n c] 25 (0, 0)) ∧ w1.heap[w.heap.size + 1]? = some (.cells #[.int .i64 k, .int .i64 y] 28 (0, 0)) ∧ w1.heap[w.heap.size + 1 + 1]? = some (.cells #[.slice none 0 0] 25 (0, 0)) ∧ w1.heap[w.heap.size + 1 + 1 + 1]? = some (.cells #[.int .i64 0, .bool false, .int .i64 0, .int .i64 0, .int .i64 0] 35 (0, 0))) ∧ Below w.heap.size w w1 ∧ w.heap.size + 1 + 1 + 1 < w1.heap.size) := four b1; clear b1; have hz3 : w.heap.size + 1 + 1 + 1 < w1.heap.size := H1.out.2.2; have hz2 : w.heap.size + 1 + 1 < w1.heap.size := Nat.lt_of_succ_lt hz3; have hz1 : w.heap.size + 1 < w1.heap.size := Nat.lt_of_succ_lt hz2; have hz0 : w.heap.size < w1.heap.size := Nat.lt_of_succ_lt hz1; have c0 : w1.cell? ⟨w.heap.size, 0, none⟩ = some (.slice (some ⟨g, o, none⟩) n c) := cellB H1.out.1.1 0; have p0 : w1.cell? ⟨w.heap.size + 1, 0, none⟩ = some (.int .i64 k) := cellB H1.out.1.2.1 0; have p1 : w1.cell? ⟨w.heap.size + 1, 1, none⟩ = some (.int .i64 y) := cellB H1.out.1.2.1 1; have l0 : w1.cell? ⟨w.heap.size + 1 + 1, 0, none⟩ = some (.slice none 0 0) := cellB H1.out.1.2.2.1 0; have lf0 := fzB H1.out.1.2.2.1 0; have d0 : w1.cell? ⟨w.heap.size + 1 + 1 + 1, 0, none⟩ = some (.int .i64 0) := cellB H1.out.1.2.2.2 0; have df0 := fzB H1.out.1.2.2.2 0; have d1 : w1.cell? ⟨w.heap.size + 1 + 1 + 1, 1, none⟩ = some (.bool false) := cellB H1.out.1.2.2.2 1; have df1 := fzB H1.out.1.2.2.2 1; have d2 : w1.cell? ⟨w.heap.size + 1 + 1 + 1, 2, none⟩ = some (.int .i64 0) := cellB H1.out.1.2.2.2 2; have df2 := fzB H1.out.1.2.2.2 2; have d3 : w1.cell? ⟨w.heap.size + 1 + 1 + 1, 3, none⟩ = some (.int .i64 0) := cellB H1.out.1.2.2.2 3; have df3 := fzB H1.out.1.2.2.2 3; have d4 : w1.cell? ⟨w.heap.size + 1 + 1 + 1, 4, none⟩ = some (.int .i64 0) := cellB H1.out.1.2.2.2 4; have df4 := fzB H1.out.1.2.2.2 4) | (go_at_call 37; refine (HCP _ (HA.out.below H1.out.2.1)).mono ?_; clear c0 p0 p1 l0 lf0 d0 d1 d2 d3 d4 df0 df1 df2 df3 df4; rintro e w2 ⟨v2, rfl, cp2, b2⟩; have H2 : Hid ((w2.heap[w.heap.size]? = some (.cells #[.slice (some ⟨g, o, none⟩) n c] 25 (0, 0)) ∧ w2.heap[w.heap.size + 1]? = some (.cells #[.int .i64 k, .int .i64 y] 28 (0, 0)) ∧ w2.heap[w.heap.size + 1 + 1]? = some (.cells #[.slice none 0 0] 25 (0, 0)) ∧ w2.heap[w.heap.size + 1 + 1 + 1]? = some (.cells #[.int .i64 0, .bool false, .int .i64 0, .int .i64 0, .int .i64 0] 35 (0, 0))) ∧ Cp w2 w1.heap.size v2 L ∧ Below w.heap.size w w2 ∧ w1.heap.size ≤ w2.heap.size) := ⟨⟨(b2.block _ hz0).trans H1.out.1.1, (b2.block _ hz1).trans H1.out.1.2.1, (b2.block _ hz2).trans H1.out.1.2.2.1, (b2.block _ hz3).trans H1.out.1.2.2.2⟩, cp2, H1.out.2.1.trans (b2.mono H1.out.2.1.size), b2.size⟩; obtain ⟨a2, c2, hv2, hc2, hs2⟩ := cp2.shape; rw [HN.out] at hv2 hc2; subst hv2; have c0 : w2.cell? ⟨w.heap.size, 0, none⟩ = some (.slice (some ⟨g, o, none⟩) n c) := cellB H2.out.1.1 0; have p0 : w2.cell? ⟨w.heap.size + 1, 0, none⟩ = some (.int .i64 k) := cellB H2.out.1.2.1 0; have p1 : w2.cell? ⟨w.heap.size + 1, 1, none⟩ = some (.int .i64 y) := cellB H2.out.1.2.1 1; have l0 : w2.cell? ⟨w.heap.size + 1 + 1, 0, none⟩ = some (.slice none 0 0) := cellB H2.out.1.2.2.1 0; have lf0 := fzB H2.out.1.2.2.1 0; have d0 : w2.cell? ⟨w.heap.size + 1 + 1 + 1, 0, none⟩ = some (.int .i64 0) := cellB H2.out.1.2.2.2 0; have df0 := fzB H2.out.1.2.2.2 0; have d1 : w2.cell? ⟨w.heap.size + 1 + 1 + 1, 1, none⟩ = some (.bool false) := cellB H2.out.1.2.2.2 1; have df1 := fzB H2.out.1.2.2.2 1; have d2 : w2.cell? ⟨w.heap.size + 1 + 1 + 1, 2, none⟩ = some (.int .i64 0) := cellB H2.out.1.2.2.2 2; have df2 := fzB H2.out.1.2.2.2 2; have d3 : w2.cell? ⟨w.heap.size + 1 + 1 + 1, 3, none⟩ = some (.int .i64 0) := cellB H2.out.1.2.2.2 3; have df3 := fzB H2.out.1.2.2.2 3; have d4 : w2.cell? ⟨w.heap.size + 1 + 1 + 1, 4, none⟩ = some (.int .i64 0) := cellB H2.out.1.2.2.2 4; have df4 := fzB H2.out.1.2.2.2 4; have hy3 : w.heap.size + 1 + 1 + 1 < w2.heap.size := Nat.lt_of_lt_of_le hz3 b2.size; have hy2 : w.heap.size + 1 + 1 < w2.heap.size := Nat.lt_of_succ_lt hy3; clear b2 cp2 hs2))
      have M4 : Hid (((w2.alloc (.cells #[.slice a2 n c2] 25)).heap[w.heap.size]? = some (.cells #[.slice (some ⟨g, o, none⟩) n c] 25 (0, 0)) ∧ (w2.alloc (.cells #[.slice a2 n c2] 25)).heap[w.heap.size + 1]? = some (.cells #[.int .i64 k, .int .i64 y] 28 (0, 0)) ∧ (w2.alloc (.cells #[.slice a2 n c2] 25)).heap[w.heap.size + 1 + 1]? = some (.cells #[.slice none 0 0] 25 (0, 0)) ∧ (w2.alloc (.cells #[.slice a2 n c2] 25)).heap[w.heap.size + 1 + 1 + 1]? = some (.cells #[.int .i64 0, .bool false, .int .i64 0, .int .i64 0, .int .i64 0] 35 (0, 0))) ∧ Cp (w2.alloc (.cells #[.slice a2 n c2] 25)) w1.heap.size (.slice a2 n c2) L ∧ (w2.alloc (.cells #[.slice a2 n c2] 25)).heap[w2.heap.size]? = some (.cells #[.slice a2 n c2] 25 (0, 0)) ∧ Below w.heap.size w (w2.alloc (.cells #[.slice a2 n c2] 25)) ∧ w2.heap.size < (w2.alloc (.cells #[.slice a2 n c2] 25)).heap.size ∧ (∀ g, (Value.slice a2 n c2).ownBlock = some g → g < w2.heap.size)) := by
        have b9 := ((Below.refl w2.heap.size w2).alloc (Nat.le_refl _) (.cells #[.slice a2 n c2] 25))
        exact ⟨⟨(b9.block _ (by omega)).trans H2.out.1.1, (b9.block _ (by omega)).trans H2.out.1.2.1, (b9.block _ hy2).trans H2.out.1.2.2.1, (b9.block _ hy3).trans H2.out.1.2.2.2⟩, H2.out.2.1.below b9, heap_alloc_new w2 _, H2.out.2.2.1.alloc H2.out.2.2.1.size _, by simp, H2.out.2.1.lt⟩
      have HZ : Hid (w.heap.size + 1 + 1 + 1 < w1.heap.size ∧ w1.heap.size ≤ w2.heap.size) := ⟨hz3, H2.out.2.2.2⟩
      clear c0 p0 p1 l0 lf0 d0 d1 d2 d3 d4 df0 df1 df2 df3 df4 hy2 hy3 hz0 hz1 hz2 hz3 H1 H2
      generalize (w2.alloc (.cells #[.slice a2 n c2] 25)) = wB at *
      obtain ⟨N4, hN4⟩ : ∃ N4, w2.heap.size = N4 := ⟨_, rfl⟩
      obtain ⟨N1, hN1⟩ : ∃ N1, w1.heap.size = N1 := ⟨_, rfl⟩
      rw [hN4, hN1] at HZ
      rw [hN4, hN1] at M4
      rw [hN4]
      clear hN4 hN1
      have c0 : wB.cell? ⟨w.heap.size, 0, none⟩ = some (.slice (some ⟨g, o, none⟩) n c) := cellB M4.out.1.1 0
      have p0 : wB.cell? ⟨w.heap.size + 1, 0, none⟩ = some (.int .i64 k) := cellB M4.out.1.2.1 0
      have p1 : wB.cell? ⟨w.heap.size + 1, 1, none⟩ = some (.int .i64 y) := cellB M4.out.1.2.1 1
      have l0 : wB.cell? ⟨w.heap.size + 1 + 1, 0, none⟩ = some (.slice none 0 0) := cellB M4.out.1.2.2.1 0
      have lf0 := fzB M4.out.1.2.2.1 0
      have d0 : wB.cell? ⟨w.heap.size + 1 + 1 + 1, 0, none⟩ = some (.int .i64 0) := cellB M4.out.1.2.2.2 0
      have df0 := fzB M4.out.1.2.2.2 0
      have d1 : wB.cell? ⟨w.heap.size + 1 + 1 + 1, 1, none⟩ = some (.bool false) := cellB M4.out.1.2.2.2 1
      have df1 := fzB M4.out.1.2.2.2 1
      have d2 : wB.cell? ⟨w.heap.size + 1 + 1 + 1, 2, none⟩ = some (.int .i64 0) := cellB M4.out.1.2.2.2 2
      have df2 := fzB M4.out.1.2.2.2 2
      have d3 : wB.cell? ⟨w.heap.size + 1 + 1 + 1, 3, none⟩ = some (.int .i64 0) := cellB M4.out.1.2.2.2 3
      have df3 := fzB M4.out.1.2.2.2 3
      have d4 : wB.cell? ⟨w.heap.size + 1 + 1 + 1, 4, none⟩ = some (.int .i64 0) := cellB M4.out.1.2.2.2 4
      have df4 := fzB M4.out.1.2.2.2 4
      have v0 : wB.cell? ⟨N4, 0, none⟩ = some (.slice a2 n c2) := cellB M4.out.2.2.1 0
      have hN : w.heap.size + 1 + 1 + 1 < N4 := by have := HZ.out; omega
      have hz3 : w.heap.size + 1 + 1 + 1 < wB.heap.size := Nat.lt_trans hN M4.out.2.2.2.2.1
      have hz2 : w.heap.size + 1 + 1 < wB.heap.size := Nat.lt_of_succ_lt hz3
      have hz1 : w.heap.size + 1 < wB.heap.size := Nat.lt_of_succ_lt hz2
      have hz0 : w.heap.size < wB.heap.size := Nat.lt_of_succ_lt hz1
      have u9 := fun j hj => (hr0.out.below M4.out.2.2.2.1).cell k HKL.out j hj
      rw [HS.out] at u9
      have r0 : wB.cell? ⟨g, o + k * 5, none⟩ = some (.int .i64 x0) := u9 0 (by omega)
      have r1 : wB.cell? ⟨g, o + k * 5 + 1, none⟩ = some (.bool false) := u9 1 (by omega)
      have r2 : wB.cell? ⟨g, o + k * 5 + 2, none⟩ = some (.int .i64 x2) := u9 2 (by omega)
      have r3 : wB.cell? ⟨g, o + k * 5 + 3, none⟩ = some (.int .i64 x3) := u9 3 (by omega)
      have r4 : wB.cell? ⟨g, o + k * 5 + 4, none⟩ = some (.int .i64 x4) := u9 4 (by omega)
      clear u9
      go_upto_region 7 with fail
      have M7 : Hid (((wB.alloc (.cells #[.int .i64 x0, .bool false, .int .i64 x2, .int .i64 x3, .int .i64 x4] 35)).heap[w.heap.size]? = some (.cells #[.slice (some ⟨g, o, none⟩) n c] 25 (0, 0)) ∧ (wB.alloc (.cells #[.int .i64 x0, .bool false, .int .i64 x2, .int .i64 x3, .int .i64 x4] 35)).heap[w.heap.size + 1]? = some (.cells #[.int .i64 k, .int .i64 y] 28 (0, 0)) ∧ (wB.alloc (.cells #[.int .i64 x0, .bool false, .int .i64 x2, .int .i64 x3, .int .i64 x4] 35)).heap[w.heap.size + 1 + 1]? = some (.cells #[.slice none 0 0] 25 (0, 0)) ∧ (wB.alloc (.cells #[.int .i64 x0, .bool false, .int .i64 x2, .int .i64 x3, .int .i64 x4] 35)).heap[w.heap.size + 1 + 1 + 1]? = some (.cells #[.int .i64 0, .bool false, .int .i64 0, .int .i64 0, .int .i64 0] 35 (0, 0))) ∧ Cp (wB.alloc (.cells #[.int .i64 x0, .bool false, .int .i64 x2, .int .i64 x3, .int .i64 x4] 35)) N1 (.slice a2 n c2) L ∧ (wB.alloc (.cells #[.int .i64 x0, .bool false, .int .i64 x2, .int .i64 x3, .int .i64 x4] 35)).heap[N4]? = some (.cells #[.slice a2 n c2] 25 (0, 0)) ∧ Below w.heap.size w (wB.alloc (.cells #[.int .i64 x0, .bool false, .int .i64 x2, .int .i64 x3, .int .i64 x4] 35)) ∧ (wB.alloc (.cells #[.int .i64 x0, .bool false, .int .i64 x2, .int .i64 x3, .int .i64 x4] 35)).heap[wB.heap.size]? = some (.cells #[.int .i64 x0, .bool false, .int .i64 x2, .int .i64 x3, .int .i64 x4] 35 (0, 0)) ∧ wB.heap.size < (wB.alloc (.cells #[.int .i64 x0, .bool false, .int .i64 x2, .int .i64 x3, .int .i64 x4] 35)).heap.size) := by
        have b9 := ((Below.refl wB.heap.size wB).alloc (Nat.le_refl _) (.cells #[.int .i64 x0, .bool false, .int .i64 x2, .int .i64 x3, .int .i64 x4] 35))
        exact ⟨⟨(b9.block _ hz0).trans M4.out.1.1, (b9.block _ hz1).trans M4.out.1.2.1, (b9.block _ hz2).trans M4.out.1.2.2.1, (b9.block _ hz3).trans M4.out.1.2.2.2⟩, M4.out.2.1.below b9, (b9.block _ M4.out.2.2.2.2.1).trans M4.out.2.2.1, M4.out.2.2.2.1.alloc M4.out.2.2.2.1.size _, heap_alloc_new wB _, by simp⟩
      have HZ7 : Hid (N4 < wB.heap.size) := M4.out.2.2.2.2.1
      have HOB : Hid (∀ g, (Value.slice a2 n c2).ownBlock = some g → g < N4) := M4.out.2.2.2.2.2
      clear c0 p0 p1 l0 lf0 d0 d1 d2 d3 d4 df0 df1 df2 df3 df4 v0 hz0 hz1 hz2 hz3 r0 r1 r2 r3 r4 M4
      generalize (wB.alloc (.cells #[.int .i64 x0, .bool false, .int .i64 x2, .int .i64 x3, .int .i64 x4] 35)) = wC at *
      obtain ⟨N7, hN7⟩ : ∃ N7, wB.heap.size = N7 := ⟨_, rfl⟩
      rw [hN7] at HZ7
      rw [hN7] at M7
      rw [hN7]
      clear hN7
      have c0 : wC.cell? ⟨w.heap.size, 0, none⟩ = some (.slice (some ⟨g, o, none⟩) n c) := cellB M7.out.1.1 0
      have p0 : wC.cell? ⟨w.heap.size + 1, 0, none⟩ = some (.int .i64 k) := cellB M7.out.1.2.1 0
      have p1 : wC.cell? ⟨w.heap.size + 1, 1, none⟩ = some (.int .i64 y) := cellB M7.out.1.2.1 1
      have l0 : wC.cell? ⟨w.heap.size + 1 + 1, 0, none⟩ = some (.slice none 0 0) := cellB M7.out.1.2.2.1 0
      have lf0 := fzB M7.out.1.2.2.1 0
      have d0 : wC.cell? ⟨w.heap.size + 1 + 1 + 1, 0, none⟩ = some (.int .i64 0) := cellB M7.out.1.2.2.2 0
      have df0 := fzB M7.out.1.2.2.2 0
      have d1 : wC.cell? ⟨w.heap.size + 1 + 1 + 1, 1, none⟩ = some (.bool false) := cellB M7.out.1.2.2.2 1
      have df1 := fzB M7.out.1.2.2.2 1
      have d2 : wC.cell? ⟨w.heap.size + 1 + 1 + 1, 2, none⟩ = some (.int .i64 0) := cellB M7.out.1.2.2.2 2
      have df2 := fzB M7.out.1.2.2.2 2
      have d3 : wC.cell? ⟨w.heap.size + 1 + 1 + 1, 3, none⟩ = some (.int .i64 0) := cellB M7.out.1.2.2.2 3
      have df3 := fzB M7.out.1.2.2.2 3
      have d4 : wC.cell? ⟨w.heap.size + 1 + 1 + 1, 4, none⟩ = some (.int .i64 0) := cellB M7.out.1.2.2.2 4
      have df4 := fzB M7.out.1.2.2.2 4
      have v0 : wC.cell? ⟨N4, 0, none⟩ = some (.slice a2 n c2) := cellB M7.out.2.2.1 0
      have s0 : wC.cell? ⟨N7, 0, none⟩ = some (.int .i64 x0) := cellB M7.out.2.2.2.2.1 0
      have s1 : wC.cell? ⟨N7, 1, none⟩ = some (.bool false) := cellB M7.out.2.2.2.2.1 1
      have s2 : wC.cell? ⟨N7, 2, none⟩ = some (.int .i64 x2) := cellB M7.out.2.2.2.2.1 2
      have s3 : wC.cell? ⟨N7, 3, none⟩ = some (.int .i64 x3) := cellB M7.out.2.2.2.2.1 3
      have s4 : wC.cell? ⟨N7, 4, none⟩ = some (.int .i64 x4) := cellB M7.out.2.2.2.2.1 4
      have hz3 : w.heap.size + 1 + 1 + 1 < wC.heap.size := Nat.lt_trans hN (Nat.lt_trans HZ7.out M7.out.2.2.2.2.2)
      have hz2 : w.heap.size + 1 + 1 < wC.heap.size := Nat.lt_of_succ_lt hz3
      have hz1 : w.heap.size + 1 < wC.heap.size := Nat.lt_of_succ_lt hz2
      have hz0 : w.heap.size < wC.heap.size := Nat.lt_of_succ_lt hz1
      go_wp2
      refine bodyPost_ret (v := .tuple #[.agg #[.slice a2 n c2], .agg #[.int .i64 0, .bool false, .int .i64 0, .int .i64 0, .int .i64 0], .bool false]) (by simp [results, Tryd.results23, go_sem, l0, d0, d1, d2, d3, d4]) rfl ⟨a2, c2, by rw [HN.out]; rfl, by rw [HN.out]; exact hc2, ?_, ?_, ?_⟩
      · have u := HZ.out
        exact cp_own (((((((M7.out.2.1).set (by show w.heap.size + 1 + 1 < N1; omega) _).set (by show w.heap.size + 1 + 1 + 1 < N1; omega) _).set (by show w.heap.size + 1 + 1 + 1 < N1; omega) _).set (by show w.heap.size + 1 + 1 + 1 < N1; omega) _).set (by show w.heap.size + 1 + 1 + 1 < N1; omega) _).set (by show w.heap.size + 1 + 1 + 1 < N1; omega) _)
      · intro b hb
        have u := HZ.out
        have := cp_ge M7.out.2.1 b hb
        omega
      · exact ((((((M7.out.2.2.2.1).setCell (Nat.le_add_right _ 2) _).setCell (Nat.le_add_right _ 3) _).setCell (Nat.le_add_right _ 3) _).setCell (Nat.le_add_right _ 3) _).setCell (Nat.le_add_right _ 3) _).setCell (Nat.le_add_right _ 3) _
    | true =>
      have h3 : (x0 != y) = true := by have := HG2.out; simpa using this
      go_enter Tryd.func23, Tryd.ntmps23
      go_upto_region 4 with (first | (go_at_call 36; refine (HLO _ (HA.out.below (bel_four _ _ _ _ _))).mono ?_; rintro e w1 ⟨rfl, b1⟩; have H1 : Hid ((w1.heap[w.heap.size]? = some (.cells #[.slice (some ⟨g, o, none⟩) n c] 25 (0, 0)) ∧ w1.heap[w.heap.size + 1]? = some (.cells #[.int .i64 k, .int .i64 y] 28 (0, 0)) ∧ w1.heap[w.heap.size + 1 + 1]? = some (.cells #[.slice none 0 0] 25 (0, 0)) ∧ w1.heap[w.heap.size + 1 + 1 + 1]? = some (.cells #[.int .i64 0, .bool false, .int .i64 0, .int .i64 0, .int .i64 0] 35 (0, 0))) ∧ Below w.heap.size w w1 ∧ w.heap.size + 1 + 1 + 1 < w1.heap.size) := four b1; clear b1; have hz3 : w.heap.size + 1 + 1 + 1 < w1.heap.size := H1.out.2.2; have hz2 : w.heap.size + 1 + 1 < w1.heap.size := Nat.lt_of_succ_lt hz3; have hz1 : w.heap.size + 1 < w1.heap.size := Nat.lt_of_succ_lt hz2; have hz0 : w.heap.size < w1.heap.size := Nat.lt_of_succ_lt hz1; have c0 : w1.cell? ⟨w.heap.size, 0, none⟩ = some (.slice (some ⟨g, o, none⟩) n c) := cellB H1.out.1.1 0; have p0 : w1.cell? ⟨w.heap.size + 1, 0, none⟩ = some (.int .i64 k) := cellB H1.out.1.2.1 0; have p1 : w1.cell? ⟨w.heap.size + 1, 1, none⟩ = some (.int .i64 y) := cellB H1.out.1.2.1 1; have l0 : w1.cell? ⟨w.heap.size + 1 + 1, 0, none⟩ = some (.slice none 0 0) := cellB H1.out.1.2.2.1 0; have lf0 := fzB H1.out.1.2.2.1 0; have d0 : w1.cell? ⟨w.heap.size + 1 + 1 + 1, 0, none⟩ = some (.int .i64 0) := cellB H1.out.1.2.2.2 0; have df0 := fzB H1.out.1.2.2.2 0; have d1 : w1.cell? ⟨w.heap.size + 1 + 1 + 1, 1, none⟩ = some (.bool false) := cellB H1.out.1.2.2.2 1; have df1 := fzB H1.out.1.2.2.2 1; have d2 : w1.cell? ⟨w.heap.size + 1 + 1 + 1, 2, none⟩ = some (.int .i64 0) := cellB H1.out.1.2.2.2 2; have df2 := fzB H1.out.1.2.2.2 2; have d3 : w1.cell? ⟨w.heap.size + 1 + 1 + 1, 3, none⟩ = some (.int .i64 0) := cellB H1.out.1.2.2.2 3; have df3 := fzB H1.out.1.2.2.2 3; have d4 : w1.cell? ⟨w.heap.size + 1 + 1 + 1, 4, none⟩ = some (.int .i64 0) := cellB H1.out.1.2.2.2 4; have df4 := fzB H1.out.1.2.2.2 4) | (go_at_call 37; refine (HCP _ (HA.out.below H1.out.2.1)).mono ?_; clear c0 p0 p1 l0 lf0 d0 d1 d2 d3 d4 df0 df1 df2 df3 df4; rintro e w2 ⟨v2, rfl, cp2, b2⟩; have H2 : Hid ((w2.heap[w.heap.size]? = some (.cells #[.slice (some ⟨g, o, none⟩) n c] 25 (0, 0)) ∧ w2.heap[w.heap.size + 1]? = some (.cells #[.int .i64 k, .int .i64 y] 28 (0, 0)) ∧ w2.heap[w.heap.size + 1 + 1]? = some (.cells #[.slice none 0 0] 25 (0, 0)) ∧ w2.heap[w.heap.size + 1 + 1 + 1]? = some (.cells #[.int .i64 0, .bool false, .int .i64 0, .int .i64 0, .int .i64 0] 35 (0, 0))) ∧ Cp w2 w1.heap.size v2 L ∧ Below w.heap.size w w2 ∧ w1.heap.size ≤ w2.heap.size) := ⟨⟨(b2.block _ hz0).trans H1.out.1.1, (b2.block _ hz1).trans H1.out.1.2.1, (b2.block _ hz2).trans H1.out.1.2.2.1, (b2.block _ hz3).trans H1.out.1.2.2.2⟩, cp2, H1.out.2.1.trans (b2.mono H1.out.2.1.size), b2.size⟩; obtain ⟨a2, c2, hv2, hc2, hs2⟩ := cp2.shape; rw [HN.out] at hv2 hc2; subst hv2; have c0 : w2.cell? ⟨w.heap.size, 0, none⟩ = some (.slice (some ⟨g, o, none⟩) n c) := cellB H2.out.1.1 0; have p0 : w2.cell? ⟨w.heap.size + 1, 0, none⟩ = some (.int .i64 k) := cellB H2.out.1.2.1 0; have p1 : w2.cell? ⟨w.heap.size + 1, 1, none⟩ = some (.int .i64 y) := cellB H2.out.1.2.1 1; have l0 : w2.cell? ⟨w.heap.size + 1 + 1, 0, none⟩ = some (.slice none 0 0) := cellB H2.out.1.2.2.1 0; have lf0 := fzB H2.out.1.2.2.1 0; have d0 : w2.cell? ⟨w.heap.size + 1 + 1 + 1, 0, none⟩ = some (.int .i64 0) := cellB H2.out.1.2.2.2 0; have df0 := fzB H2.out.1.2.2.2 0; have d1 : w2.cell? ⟨w.heap.size + 1 + 1 + 1, 1, none⟩ = some (.bool false) := cellB H2.out.1.2.2.2 1; have df1 := fzB H2.out.1.2.2.2 1; have d2 : w2.cell? ⟨w.heap.size + 1 + 1 + 1, 2, none⟩ = some (.int .i64 0) := cellB H2.out.1.2.2.2 2; have df2 := fzB H2.out.1.2.2.2 2; have d3 : w2.cell? ⟨w.heap.size + 1 + 1 + 1, 3, none⟩ = some (.int .i64 0) := cellB H2.out.1.2.2.2 3; have df3 := fzB H2.out.1.2.2.2 3; have d4 : w2.cell? ⟨w.heap.size + 1 + 1 + 1, 4, none⟩ = some (.int .i64 0) := cellB H2.out.1.2.2.2 4; have df4 := fzB H2.out.1.2.2.2 4; have hy3 : w.heap.size + 1 + 1 + 1 < w2.heap.size := Nat.lt_of_lt_of_le hz3 b2.size; have hy2 : w.heap.size + 1 + 1 < w2.heap.size := Nat.lt_of_succ_lt hy3; clear b2 cp2 hs2))
      have M4 : Hid (((w2.alloc (.cells #[.slice a2 n c2] 25)).heap[w.heap.size]? = some (.cells #[.slice (some ⟨g, o, none⟩) n c] 25 (0, 0)) ∧ (w2.alloc (.cells #[.slice a2 n c2] 25)).heap[w.heap.size + 1]? = some (.cells #[.int .i64 k, .int .i64 y] 28 (0, 0)) ∧ (w2.alloc (.cells #[.slice a2 n c2] 25)).heap[w.heap.size + 1 + 1]? = some (.cells #[.slice none 0 0] 25 (0, 0)) ∧ (w2.alloc (.cells #[.slice a2 n c2] 25)).heap[w.heap.size + 1 + 1 + 1]? = some (.cells #[.int .i64 0, .bool false, .int .i64 0, .int .i64 0, .int .i64 0] 35 (0, 0))) ∧ Cp (w2.alloc (.cells #[.slice a2 n c2] 25)) w1.heap.size (.slice a2 n c2) L ∧ (w2.alloc (.cells #[.slice a2 n c2] 25)).heap[w2.heap.size]? = some (.cells #[.slice a2 n c2] 25 (0, 0)) ∧ Below w.heap.size w (w2.alloc (.cells #[.slice a2 n c2] 25)) ∧ w2.heap.size < (w2.alloc (.cells #[.slice a2 n c2] 25)).heap.size ∧ (∀ g, (Value.slice a2 n c2).ownBlock = some g → g < w2.heap.size)) := by
        have b9 := ((Below.refl w2.heap.size w2).alloc (Nat.le_refl _) (.cells #[.slice a2 n c2] 25))
        exact ⟨⟨(b9.block _ (by omega)).trans H2.out.1.1, (b9.block _ (by omega)).trans H2.out.1.2.1, (b9.block _ hy2).trans H2.out.1.2.2.1, (b9.block _ hy3).trans H2.out.1.2.2.2⟩, H2.out.2.1.below b9, heap_alloc_new w2 _, H2.out.2.2.1.alloc H2.out.2.2.1.size _, by simp, H2.out.2.1.lt⟩
      have HZ : Hid (w.heap.size + 1 + 1 + 1 < w1.heap.size ∧ w1.heap.size ≤ w2.heap.size) := ⟨hz3, H2.out.2.2.2⟩
      clear c0 p0 p1 l0 lf0 d0 d1 d2 d3 d4 df0 df1 df2 df3 df4 hy2 hy3 hz0 hz1 hz2 hz3 H1 H2
      generalize (w2.alloc (.cells #[.slice a2 n c2] 25)) = wB at *
      obtain ⟨N4, hN4⟩ : ∃ N4, w2.heap.size = N4 := ⟨_, rfl⟩
      obtain ⟨N1, hN1⟩ : ∃ N1, w1.heap.size = N1 := ⟨_, rfl⟩
      rw [hN4, hN1] at HZ
      rw [hN4, hN1] at M4
      rw [hN4]
      clear hN4 hN1
      have c0 : wB.cell? ⟨w.heap.size, 0, none⟩ = some (.slice (some ⟨g, o, none⟩) n c) := cellB M4.out.1.1 0
      have p0 : wB.cell? ⟨w.heap.size + 1, 0, none⟩ = some (.int .i64 k) := cellB M4.out.1.2.1 0
      have p1 : wB.cell? ⟨w.heap.size + 1, 1, none⟩ = some (.int .i64 y) := cellB M4.out.1.2.1 1
      have l0 : wB.cell? ⟨w.heap.size + 1 + 1, 0, none⟩ = some (.slice none 0 0) := cellB M4.out.1.2.2.1 0
      have lf0 := fzB M4.out.1.2.2.1 0
      have d0 : wB.cell? ⟨w.heap.size + 1 + 1 + 1, 0, none⟩ = some (.int .i64 0) := cellB M4.out.1.2.2.2 0
      have df0 := fzB M4.out.1.2.2.2 0
      have d1 : wB.cell? ⟨w.heap.size + 1 + 1 + 1, 1, none⟩ = some (.bool false) := cellB M4.out.1.2.2.2 1
      have df1 := fzB M4.out.1.2.2.2 1
      have d2 : wB.cell? ⟨w.heap.size + 1 + 1 + 1, 2, none⟩ = some (.int .i64 0) := cellB M4.out.1.2.2.2 2
      have df2 := fzB M4.out.1.2.2.2 2
      have d3 : wB.cell? ⟨w.heap.size + 1 + 1 + 1, 3, none⟩ = some (.int .i64 0) := cellB M4.out.1.2.2.2 3
      have df3 := fzB M4.out.1.2.2.2 3
      have d4 : wB.cell? ⟨w.heap.size + 1 + 1 + 1, 4, none⟩ = some (.int .i64 0) := cellB M4.out.1.2.2.2 4
      have df4 := fzB M4.out.1.2.2.2 4
      have v0 : wB.cell? ⟨N4, 0, none⟩ = some (.slice a2 n c2) := cellB M4.out.2.2.1 0
      have hN : w.heap.size + 1 + 1 + 1 < N4 := by have := HZ.out; omega
      have hz3 : w.heap.size + 1 + 1 + 1 < wB.heap.size := Nat.lt_trans hN M4.out.2.2.2.2.1
      have hz2 : w.heap.size + 1 + 1 < wB.heap.size := Nat.lt_of_succ_lt hz3
      have hz1 : w.heap.size + 1 < wB.heap.size := Nat.lt_of_succ_lt hz2
      have hz0 : w.heap.size < wB.heap.size := Nat.lt_of_succ_lt hz1
      have u9 := fun j hj => (hr0.out.below M4.out.2.2.2.1).cell k HKL.out j hj
      rw [HS.out] at u9
      have r0 : wB.cell? ⟨g, o + k * 5, none⟩ = some (.int .i64 x0) := u9 0 (by omega)
      have r1 : wB.cell? ⟨g, o + k * 5 + 1, none⟩ = some (.bool true) := u9 1 (by omega)
      have r2 : wB.cell? ⟨g, o + k * 5 + 2, none⟩ = some (.int .i64 x2) := u9 2 (by omega)
      have r3 : wB.cell? ⟨g, o + k * 5 + 3, none⟩ = some (.int .i64 x3) := u9 3 (by omega)
      have r4 : wB.cell? ⟨g, o + k * 5 + 4, none⟩ = some (.int .i64 x4) := u9 4 (by omega)
      clear u9
      go_upto_region 7 with fail
      have M7 : Hid (((wB.alloc (.cells #[.int .i64 x0, .bool true, .int .i64 x2, .int .i64 x3, .int .i64 x4] 35)).heap[w.heap.size]? = some (.cells #[.slice (some ⟨g, o, none⟩) n c] 25 (0, 0)) ∧ (wB.alloc (.cells #[.int .i64 x0, .bool true, .int .i64 x2, .int .i64 x3, .int .i64 x4] 35)).heap[w.heap.size + 1]? = some (.cells #[.int .i64 k, .int .i64 y] 28 (0, 0)) ∧ (wB.alloc (.cells #[.int .i64 x0, .bool true, .int .i64 x2, .int .i64 x3, .int .i64 x4] 35)).heap[w.heap.size + 1 + 1]? = some (.cells #[.slice none 0 0] 25 (0, 0)) ∧ (wB.alloc (.cells #[.int .i64 x0, .bool true, .int .i64 x2, .int .i64 x3, .int .i64 x4] 35)).heap[w.heap.size + 1 + 1 + 1]? = some (.cells #[.int .i64 0, .bool false, .int .i64 0, .int .i64 0, .int .i64 0] 35 (0, 0))) ∧ Cp (wB.alloc (.cells #[.int .i64 x0, .bool true, .int .i64 x2, .int .i64 x3, .int .i64 x4] 35)) N1 (.slice a2 n c2) L ∧ (wB.alloc (.cells #[.int .i64 x0, .bool true, .int .i64 x2, .int .i64 x3, .int .i64 x4] 35)).heap[N4]? = some (.cells #[.slice a2 n c2] 25 (0, 0)) ∧ Below w.heap.size w (wB.alloc (.cells #[.int .i64 x0, .bool true, .int .i64 x2, .int .i64 x3, .int .i64 x4] 35)) ∧ (wB.alloc (.cells #[.int .i64 x0, .bool true, .int .i64 x2, .int .i64 x3, .int .i64 x4] 35)).heap[wB.heap.size]? = some (.cells #[.int .i64 x0, .bool true, .int .i64 x2, .int .i64 x3, .int .i64 x4] 35 (0, 0)) ∧ wB.heap.size < (wB.alloc (.cells #[.int .i64 x0, .bool true, .int .i64 x2, .int .i64 x3, .int .i64 x4] 35)).heap.size) := by
        have b9 := ((Below.refl wB.heap.size wB).alloc (Nat.le_refl _) (.cells #[.int .i64 x0, .bool true, .int .i64 x2, .int .i64 x3, .int .i64 x4] 35))
        exact ⟨⟨(b9.block _ hz0).trans M4.out.1.1, (b9.block _ hz1).trans M4.out.1.2.1, (b9.block _ hz2).trans M4.out.1.2.2.1, (b9.block _ hz3).trans M4.out.1.2.2.2⟩, M4.out.2.1.below b9, (b9.block _ M4.out.2.2.2.2.1).trans M4.out.2.2.1, M4.out.2.2.2.1.alloc M4.out.2.2.2.1.size _, heap_alloc_new wB _, by simp⟩
      have HZ7 : Hid (N4 < wB.heap.size) := M4.out.2.2.2.2.1
      have HOB : Hid (∀ g, (Value.slice a2 n c2).ownBlock = some g → g < N4) := M4.out.2.2.2.2.2
      clear c0 p0 p1 l0 lf0 d0 d1 d2 d3 d4 df0 df1 df2 df3 df4 v0 hz0 hz1 hz2 hz3 r0 r1 r2 r3 r4 M4
      generalize (wB.alloc (.cells #[.int .i64 x0, .bool true, .int .i64 x2, .int .i64 x3, .int .i64 x4] 35)) = wC at *
      obtain ⟨N7, hN7⟩ : ∃ N7, wB.heap.size = N7 := ⟨_, rfl⟩
      rw [hN7] at HZ7
      rw [hN7] at M7
      rw [hN7]
      clear hN7
      have c0 : wC.cell? ⟨w.heap.size, 0, none⟩ = some (.slice (some ⟨g, o, none⟩) n c) := cellB M7.out.1.1 0
      have p0 : wC.cell? ⟨w.heap.size + 1, 0, none⟩ = some (.int .i64 k) := cellB M7.out.1.2.1 0
      have p1 : wC.cell? ⟨w.heap.size + 1, 1, none⟩ = some (.int .i64 y) := cellB M7.out.1.2.1 1
      have l0 : wC.cell? ⟨w.heap.size + 1 + 1, 0, none⟩ = some (.slice none 0 0) := cellB M7.out.1.2.2.1 0
      have lf0 := fzB M7.out.1.2.2.1 0
      have d0 : wC.cell? ⟨w.heap.size + 1 + 1 + 1, 0, none⟩ = some (.int .i64 0) := cellB M7.out.1.2.2.2 0
      have df0 := fzB M7.out.1.2.2.2 0
      have d1 : wC.cell? ⟨w.heap.size + 1 + 1 + 1, 1, none⟩ = some (.bool false) := cellB M7.out.1.2.2.2 1
      have df1 := fzB M7.out.1.2.2.2 1
      have d2 : wC.cell? ⟨w.heap.size + 1 + 1 + 1, 2, none⟩ = some (.int .i64 0) := cellB M7.out.1.2.2.2 2
      have df2 := fzB M7.out.1.2.2.2 2
      have d3 : wC.cell? ⟨w.heap.size + 1 + 1 + 1, 3, none⟩ = some (.int .i64 0) := cellB M7.out.1.2.2.2 3
      have df3 := fzB M7.out.1.2.2.2 3
      have d4 : wC.cell? ⟨w.heap.size + 1 + 1 + 1, 4, none⟩ = some (.int .i64 0) := cellB M7.out.1.2.2.2 4
      have df4 := fzB M7.out.1.2.2.2 4
      have v0 : wC.cell? ⟨N4, 0, none⟩ = some (.slice a2 n c2) := cellB M7.out.2.2.1 0
      have s0 : wC.cell? ⟨N7, 0, none⟩ = some (.int .i64 x0) := cellB M7.out.2.2.2.2.1 0
      have s1 : wC.cell? ⟨N7, 1, none⟩ = some (.bool true) := cellB M7.out.2.2.2.2.1 1
      have s2 : wC.cell? ⟨N7, 2, none⟩ = some (.int .i64 x2) := cellB M7.out.2.2.2.2.1 2
      have s3 : wC.cell? ⟨N7, 3, none⟩ = some (.int .i64 x3) := cellB M7.out.2.2.2.2.1 3
      have s4 : wC.cell? ⟨N7, 4, none⟩ = some (.int .i64 x4) := cellB M7.out.2.2.2.2.1 4
      have hz3 : w.heap.size + 1 + 1 + 1 < wC.heap.size := Nat.lt_trans hN (Nat.lt_trans HZ7.out M7.out.2.2.2.2.2)
      have hz2 : w.heap.size + 1 + 1 < wC.heap.size := Nat.lt_of_succ_lt hz3
      have hz1 : w.heap.size + 1 < wC.heap.size := Nat.lt_of_succ_lt hz2
      have hz0 : w.heap.size < wC.heap.size := Nat.lt_of_succ_lt hz1
      go_wp2
      refine bodyPost_ret (v := .tuple #[.agg #[.slice a2 n c2], .agg #[.int .i64 0, .bool false, .int .i64 0, .int .i64 0, .int .i64 0], .bool false]) (by simp [results, Tryd.results23, go_sem, l0, d0, d1, d2, d3, d4]) rfl ⟨a2, c2, by rw [HN.out]; rfl, by rw [HN.out]; exact hc2, ?_, ?_, ?_⟩
      · have u := HZ.out
        exact cp_own (((((((M7.out.2.1).set (by show w.heap.size + 1 + 1 < N1; omega) _).set (by show w.heap.size + 1 + 1 + 1 < N1; omega) _).set (by show w.heap.size + 1 + 1 + 1 < N1; omega) _).set (by show w.heap.size + 1 + 1 + 1 < N1; omega) _).set (by show w.heap.size + 1 + 1 + 1 < N1; omega) _).set (by show w.heap.size + 1 + 1 + 1 < N1; omega) _)
      · intro b hb
        have u := HZ.out
        have := cp_ge M7.out.2.1 b hb
        omega
      · exact ((((((M7.out.2.2.2.1).setCell (Nat.le_add_right _ 2) _).setCell (Nat.le_add_right _ 3) _).setCell (Nat.le_add_right _ 3) _).setCell (Nat.le_add_right _ 3) _).setCell (Nat.le_add_right _ 3) _).setCell (Nat.le_add_right _ 3) _

set_option maxHeartbeats 8000000 in
theorem spec_rel_ok (a : Option Addr) (c : Nat) (L : List Slot) (x y : Int) (w : World) (h : Own 35 5 cells w a L) (hl : (L.length : Int) ≤ 1048577) (hc : L.length ≤ c) (HB : Hid (ledOk L)) (k : Nat) (hk : k < L.length) (HX : x = (k : Int)) (h5 : L[k].x1 = true) (h6 : L[k].x0 = y) :
    Calls Tryd.prog 23 #[.agg #[.slice a L.length c], .agg #[.int .i64 x, .int .i64 y]] w (RAns w (L.set k (back y)) L[k] true) := by
  have HA : Hid (Own 35 5 cells w a L) := h
  have HCP := fun (W : World) h => spec_copy a c L W h (by omega)
  have HLO := fun (W : World) h => spec_ledok a c L true W h (by omega) hc ⟨fun _ => HB.out, fun _ => rfl⟩
  clear h
  obtain ⟨n, hn⟩ : ∃ n, L.length = n := ⟨_, rfl⟩
  have HN : Hid (L.length = n) := hn
  rw [hn] at hl hc HLO HCP ⊢
  clear hn
  subst HX
  rcases HA.out with hnil | ⟨g, o, rfl, hr⟩
  · rw [hnil] at hk; simp at hk
  · have hr0 : Hid (Row 35 5 cells w g o L) := hr
    clear hr
    have hb0 := (HB.out.2 k hk).1
    obtain ⟨sx, hsx⟩ : ∃ s, L[k] = s := ⟨_, rfl⟩
    obtain ⟨x0, x1, x2, x3, x4⟩ := sx
    rw [hsx] at h5 h6 hb0 ⊢
    have h1 : decide ((k : Int) < 0) = false := by simp
    have hkn : (k : Int) < (n : Int) := by have := HN.out; omega
    have h2 : decide ((n : Int) ≤ (k : Int)) = false := by simp; omega
    have HS : Hid (L[k] = ⟨x0, x1, x2, x3, x4⟩) := hsx
    have HKL : Hid (k < L.length) := hk
    clear hsx
    obtain rfl : x1 = true := h5
    obtain rfl : x0 = y := h6
    have HX0 : Hid (0 ≤ x0 ∧ x0 ≤ 1000000) := by
      have h9 : slotOk ⟨x0, true, x2, x3, x4⟩ = true := hb0
      simp [slotOk, okUsed] at h9
      exact ⟨h9.1, h9.2.1⟩
    have h3 : (x0 != x0) = false := by simp
    obtain ⟨z, hz⟩ : ∃ z, x0 + 1 = z := ⟨_, rfl⟩
    obtain ⟨m, hm⟩ : ∃ m, (if 1000000 < z then 1000000 else z : Int) = m := ⟨_, rfl⟩
    obtain ⟨L2, hL2⟩ : ∃ L2, L.set k (back x0) = L2 := ⟨_, rfl⟩
    have HL2 : Hid (L.set k ⟨m, false, 0, 0, 0⟩ = L2) := by show _ = _; rw [← hL2, ← hm, ← hz]; rfl
    have HN2 : Hid (L2.length = n) := by show _ = _; rw [← hL2, List.length_set]; exact HN.out
    have HNX := fun W => next_gen x0 z m W (by have := HX0.out; omega) (by rw [IntKind.wrap_i64]; have := HX0.out; omega) hm
    rw [hL2]
    clear hb0 hL2 hz hm
    go_enter Tryd.func23, Tryd.ntmps23
    go_upto_region 4 with (first | (go_at_call 36; refine (HLO _ (HA.out.below (bel_four _ _ _ _ _))).mono ?_; rintro e w1 ⟨rfl, b1⟩; have H1 : Hid ((w1.heap[w.heap.size]? = some (.cells #[.slice (some ⟨g, o, none⟩) n c] 25 (0, 0)) ∧ w1.heap[w.heap.size + 1]? = some (.cells #[.int .i64 k, .int .i64 x0] 28 (0, 0)) ∧ w1.heap[w.heap.size + 1 + 1]? = some (.cells #[.slice none 0 0] 25 (0, 0)) ∧ w1.heap[w.heap.size + 1 + 1 + 1]? = some (.cells #[.int .i64 0, .bool false, .int .i64 0, .int .i64 0, .int .i64 0] 35 (0, 0))) ∧ Below w.heap.size w w1 ∧ w.heap.size + 1 + 1 + 1 < w1.heap.size) := four b1; clear b1; have hz3 : w.heap.size + 1 + 1 + 1 < w1.heap.size := H1.out.2.2; have hz2 : w.heap.size + 1 + 1 < w1.heap.size := Nat.lt_of_succ_lt hz3; have hz1 : w.heap.size + 1 < w1.heap.size := Nat.lt_of_succ_lt hz2; have hz0 : w.heap.size < w1.heap.size := Nat.lt_of_succ_lt hz1; have c0 : w1.cell? ⟨w.heap.size, 0, none⟩ = some (.slice (some ⟨g, o, none⟩) n c) := cellB H1.out.1.1 0; have p0 : w1.cell? ⟨w.heap.size + 1, 0, none⟩ = some (.int .i64 k) := cellB H1.out.1.2.1 0; have p1 : w1.cell? ⟨w.heap.size + 1, 1, none⟩ = some (.int .i64 x0) := cellB H1.out.1.2.1 1; have l0 : w1.cell? ⟨w.heap.size + 1 + 1, 0, none⟩ = some (.slice none 0 0) := cellB H1.out.1.2.2.1 0; have lf0 := fzB H1.out.1.2.2.1 0; have d0 : w1.cell? ⟨w.heap.size + 1 + 1 + 1, 0, none⟩ = some (.int .i64 0) := cellB H1.out.1.2.2.2 0; have df0 := fzB H1.out.1.2.2.2 0; have d1 : w1.cell? ⟨w.heap.size + 1 + 1 + 1, 1, none⟩ = some (.bool false) := cellB H1.out.1.2.2.2 1; have df1 := fzB H1.out.1.2.2.2 1; have d2 : w1.cell? ⟨w.heap.size + 1 + 1 + 1, 2, none⟩ = some (.int .i64 0) := cellB H1.out.1.2.2.2 2; have df2 := fzB H1.out.1.2.2.2 2; have d3 : w1.cell? ⟨w.heap.size + 1 + 1 + 1, 3, none⟩ = some (.int .i64 0) := cellB H1.out.1.2.2.2 3; have df3 := fzB H1.out.1.2.2.2 3; have d4 : w1.cell? ⟨w.heap.size + 1 + 1 + 1, 4, none⟩ = some (.int .i64 0) := cellB H1.out.1.2.2.2 4; have df4 := fzB H1.out.1.2.2.2 4) | (go_at_call 37; refine (HCP _ (HA.out.below H1.out.2.1)).mono ?_; clear c0 p0 p1 l0 lf0 d0 d1 d2 d3 d4 df0 df1 df2 df3 df4; rintro e w2 ⟨v2, rfl, cp2, b2⟩; have H2 : Hid ((w2.heap[w.heap.size]? = some (.cells #[.slice (some ⟨g, o, none⟩) n c] 25 (0, 0)) ∧ w2.heap[w.heap.size + 1]? = some (.cells #[.int .i64 k, .int .i64 x0] 28 (0, 0)) ∧ w2.heap[w.heap.size + 1 + 1]? = some (.cells #[.slice none 0 0] 25 (0, 0)) ∧ w2.heap[w.heap.size + 1 + 1 + 1]? = some (.cells #[.int .i64 0, .bool false, .int .i64 0, .int .i64 0, .int .i64 0] 35 (0, 0))) ∧ Cp w2 w1.heap.size v2 L ∧ Below w.heap.size w w2 ∧ w1.heap.size ≤ w2.heap.size) := ⟨⟨(b2.block _ hz0).trans H1.out.1.1, (b2.block _ hz1).trans H1.out.1.2.1, (b2.block _ hz2).trans H1.out.1.2.2.1, (b2.block _ hz3).trans H1.out.1.2.2.2⟩, cp2, H1.out.2.1.trans (b2.mono H1.out.2.1.size), b2.size⟩; obtain ⟨a2, c2, hv2, hc2, hs2⟩ := cp2.shape; rw [HN.out] at hv2 hc2; subst hv2; have c0 : w2.cell? ⟨w.heap.size, 0, none⟩ = some (.slice (some ⟨g, o, none⟩) n c) := cellB H2.out.1.1 0; have p0 : w2.cell? ⟨w.heap.size + 1, 0, none⟩ = some (.int .i64 k) := cellB H2.out.1.2.1 0; have p1 : w2.cell? ⟨w.heap.size + 1, 1, none⟩ = some (.int .i64 x0) := cellB H2.out.1.2.1 1; have l0 : w2.cell? ⟨w.heap.size + 1 + 1, 0, none⟩ = some (.slice none 0 0) := cellB H2.out.1.2.2.1 0; have lf0 := fzB H2.out.1.2.2.1 0; have d0 : w2.cell? ⟨w.heap.size + 1 + 1 + 1, 0, none⟩ = some (.int .i64 0) := cellB H2.out.1.2.2.2 0; have df0 := fzB H2.out.1.2.2.2 0; have d1 : w2.cell? ⟨w.heap.size + 1 + 1 + 1, 1, none⟩ = some (.bool false) := cellB H2.out.1.2.2.2 1; have df1 := fzB H2.out.1.2.2.2 1; have d2 : w2.cell? ⟨w.heap.size + 1 + 1 + 1, 2, none⟩ = some (.int .i64 0) := cellB H2.out.1.2.2.2 2; have df2 := fzB H2.out.1.2.2.2 2; have d3 : w2.cell? ⟨w.heap.size + 1 + 1 + 1, 3, none⟩ = some (.int .i64 0) := cellB H2.out.1.2.2.2 3; have df3 := fzB H2.out.1.2.2.2 3; have d4 : w2.cell? ⟨w.heap.size + 1 + 1 + 1, 4, none⟩ = some (.int .i64 0) := cellB H2.out.1.2.2.2 4; have df4 := fzB H2.out.1.2.2.2 4; have hy3 : w.heap.size + 1 + 1 + 1 < w2.heap.size := Nat.lt_of_lt_of_le hz3 b2.size; have hy2 : w.heap.size + 1 + 1 < w2.heap.size := Nat.lt_of_succ_lt hy3; clear b2 cp2 hs2))
    have M4 : Hid (((w2.alloc (.cells #[.slice a2 n c2] 25)).heap[w.heap.size]? = some (.cells #[.slice (some ⟨g, o, none⟩) n c] 25 (0, 0)) ∧ (w2.alloc (.cells #[.slice a2 n c2] 25)).heap[w.heap.size + 1]? = some (.cells #[.int .i64 k, .int .i64 x0] 28 (0, 0)) ∧ (w2.alloc (.cells #[.slice a2 n c2] 25)).heap[w.heap.size + 1 + 1]? = some (.cells #[.slice none 0 0] 25 (0, 0)) ∧ (w2.alloc (.cells #[.slice a2 n c2] 25)).heap[w.heap.size + 1 + 1 + 1]? = some (.cells #[.int .i64 0, .bool false, .int .i64 0, .int .i64 0, .int .i64 0] 35 (0, 0))) ∧ Cp (w2.alloc (.cells #[.slice a2 n c2] 25)) w1.heap.size (.slice a2 n c2) L ∧ (w2.alloc (.cells #[.slice a2 n c2] 25)).heap[w2.heap.size]? = some (.cells #[.slice a2 n c2] 25 (0, 0)) ∧ Below w.heap.size w (w2.alloc (.cells #[.slice a2 n c2] 25)) ∧ w2.heap.size < (w2.alloc (.cells #[.slice a2 n c2] 25)).heap.size ∧ (∀ g, (Value.slice a2 n c2).ownBlock = some g → g < w2.heap.size)) := by
      have b9 := ((Below.refl w2.heap.size w2).alloc (Nat.le_refl _) (.cells #[.slice a2 n c2] 25))
      exact ⟨⟨(b9.block _ (by omega)).trans H2.out.1.1, (b9.block _ (by omega)).trans H2.out.1.2.1, (b9.block _ hy2).trans H2.out.1.2.2.1, (b9.block _ hy3).trans H2.out.1.2.2.2⟩, H2.out.2.1.below b9, heap_alloc_new w2 _, H2.out.2.2.1.alloc H2.out.2.2.1.size _, by simp, H2.out.2.1.lt⟩
    have HZ : Hid (w.heap.size + 1 + 1 + 1 < w1.heap.size ∧ w1.heap.size ≤ w2.heap.size) := ⟨hz3, H2.out.2.2.2⟩
    clear c0 p0 p1 l0 lf0 d0 d1 d2 d3 d4 df0 df1 df2 df3 df4 hy2 hy3 hz0 hz1 hz2 hz3 H1 H2
    generalize (w2.alloc (.cells #[.slice a2 n c2] 25)) = wB at *
    obtain ⟨N4, hN4⟩ : ∃ N4, w2.heap.size = N4 := ⟨_, rfl⟩
    obtain ⟨N1, hN1⟩ : ∃ N1, w1.heap.size = N1 := ⟨_, rfl⟩
    rw [hN4, hN1] at HZ
    rw [hN4, hN1] at M4
    rw [hN4]
    clear hN4 hN1
    have c0 : wB.cell? ⟨w.heap.size, 0, none⟩ = some (.slice (some ⟨g, o, none⟩) n c) := cellB M4.out.1.1 0
    have p0 : wB.cell? ⟨w.heap.size + 1, 0, none⟩ = some (.int .i64 k) := cellB M4.out.1.2.1 0
    have p1 : wB.cell? ⟨w.heap.size + 1, 1, none⟩ = some (.int .i64 x0) := cellB M4.out.1.2.1 1
    have l0 : wB.cell? ⟨w.heap.size + 1 + 1, 0, none⟩ = some (.slice none 0 0) := cellB M4.out.1.2.2.1 0
    have lf0 := fzB M4.out.1.2.2.1 0
    have d0 : wB.cell? ⟨w.heap.size + 1 + 1 + 1, 0, none⟩ = some (.int .i64 0) := cellB M4.out.1.2.2.2 0
    have df0 := fzB M4.out.1.2.2.2 0
    have d1 : wB.cell? ⟨w.heap.size + 1 + 1 + 1, 1, none⟩ = some (.bool false) := cellB M4.out.1.2.2.2 1
    have df1 := fzB M4.out.1.2.2.2 1
    have d2 : wB.cell? ⟨w.heap.size + 1 + 1 + 1, 2, none⟩ = some (.int .i64 0) := cellB M4.out.1.2.2.2 2
    have df2 := fzB M4.out.1.2.2.2 2
    have d3 : wB.cell? ⟨w.heap.size + 1 + 1 + 1, 3, none⟩ = some (.int .i64 0) := cellB M4.out.1.2.2.2 3
    have df3 := fzB M4.out.1.2.2.2 3
    have d4 : wB.cell? ⟨w.heap.size + 1 + 1 + 1, 4, none⟩ = some (.int .i64 0) := cellB M4.out.1.2.2.2 4
    have df4 := fzB M4.out.1.2.2.2 4
    have v0 : wB.cell? ⟨N4, 0, none⟩ = some (.slice a2 n c2) := cellB M4.out.2.2.1 0
    have hN : w.heap.size + 1 + 1 + 1 < N4 := by have := HZ.out; omega
    have hz3 : w.heap.size + 1 + 1 + 1 < wB.heap.size := Nat.lt_trans hN M4.out.2.2.2.2.1
    have hz2 : w.heap.size + 1 + 1 < wB.heap.size := Nat.lt_of_succ_lt hz3
    have hz1 : w.heap.size + 1 < wB.heap.size := Nat.lt_of_succ_lt hz2
    have hz0 : w.heap.size < wB.heap.size := Nat.lt_of_succ_lt hz1
    have u9 := fun j hj => (hr0.out.below M4.out.2.2.2.1).cell k HKL.out j hj
    rw [HS.out] at u9
    have r0 : wB.cell? ⟨g, o + k * 5, none⟩ = some (.int .i64 x0) := u9 0 (by omega)
    have r1 : wB.cell? ⟨g, o + k * 5 + 1, none⟩ = some (.bool true) := u9 1 (by omega)
    have r2 : wB.cell? ⟨g, o + k * 5 + 2, none⟩ = some (.int .i64 x2) := u9 2 (by omega)
    have r3 : wB.cell? ⟨g, o + k * 5 + 3, none⟩ = some (.int .i64 x3) := u9 3 (by omega)
    have r4 : wB.cell? ⟨g, o + k * 5 + 4, none⟩ = some (.int .i64 x4) := u9 4 (by omega)
    clear u9
    go_upto_region 7 with fail
    have M7 : Hid (((wB.alloc (.cells #[.int .i64 x0, .bool true, .int .i64 x2, .int .i64 x3, .int .i64 x4] 35)).heap[w.heap.size]? = some (.cells #[.slice (some ⟨g, o, none⟩) n c] 25 (0, 0)) ∧ (wB.alloc (.cells #[.int .i64 x0, .bool true, .int .i64 x2, .int .i64 x3, .int .i64 x4] 35)).heap[w.heap.size + 1]? = some (.cells #[.int .i64 k, .int .i64 x0] 28 (0, 0)) ∧ (wB.alloc (.cells #[.int .i64 x0, .bool true, .int .i64 x2, .int .i64 x3, .int .i64 x4] 35)).heap[w.heap.size + 1 + 1]? = some (.cells #[.slice none 0 0] 25 (0, 0)) ∧ (wB.alloc (.cells #[.int .i64 x0, .bool true, .int .i64 x2, .int .i64 x3, .int .i64 x4] 35)).heap[w.heap.size + 1 + 1 + 1]? = some (.cells #[.int .i64 0, .bool false, .int .i64 0, .int .i64 0, .int .i64 0] 35 (0, 0))) ∧ Cp (wB.alloc (.cells #[.int .i64 x0, .bool true, .int .i64 x2, .int .i64 x3, .int .i64 x4] 35)) N1 (.slice a2 n c2) L ∧ (wB.alloc (.cells #[.int .i64 x0, .bool true, .int .i64 x2, .int .i64 x3, .int .i64 x4] 35)).heap[N4]? = some (.cells #[.slice a2 n c2] 25 (0, 0)) ∧ Below w.heap.size w (wB.alloc (.cells #[.int .i64 x0, .bool true, .int .i64 x2, .int .i64 x3, .int .i64 x4] 35)) ∧ (wB.alloc (.cells #[.int .i64 x0, .bool true, .int .i64 x2, .int .i64 x3, .int .i64 x4] 35)).heap[wB.heap.size]? = some (.cells #[.int .i64 x0, .bool true, .int .i64 x2, .int .i64 x3, .int .i64 x4] 35 (0, 0)) ∧ wB.heap.size < (wB.alloc (.cells #[.int .i64 x0, .bool true, .int .i64 x2, .int .i64 x3, .int .i64 x4] 35)).heap.size) := by
      have b9 := ((Below.refl wB.heap.size wB).alloc (Nat.le_refl _) (.cells #[.int .i64 x0, .bool true, .int .i64 x2, .int .i64 x3, .int .i64 x4] 35))
      exact ⟨⟨(b9.block _ hz0).trans M4.out.1.1, (b9.block _ hz1).trans M4.out.1.2.1, (b9.block _ hz2).trans M4.out.1.2.2.1, (b9.block _ hz3).trans M4.out.1.2.2.2⟩, M4.out.2.1.below b9, (b9.block _ M4.out.2.2.2.2.1).trans M4.out.2.2.1, M4.out.2.2.2.1.alloc M4.out.2.2.2.1.size _, heap_alloc_new wB _, by simp⟩
    have HZ7 : Hid (N4 < wB.heap.size) := M4.out.2.2.2.2.1
    have HOB : Hid (∀ g, (Value.slice a2 n c2).ownBlock = some g → g < N4) := M4.out.2.2.2.2.2
    clear c0 p0 p1 l0 lf0 d0 d1 d2 d3 d4 df0 df1 df2 df3 df4 v0 hz0 hz1 hz2 hz3 r0 r1 r2 r3 r4 M4
    generalize (wB.alloc (.cells #[.int .i64 x0, .bool true, .int .i64 x2, .int .i64 x3, .int .i64 x4] 35)) = wC at *
    obtain ⟨N7, hN7⟩ : ∃ N7, wB.heap.size = N7 := ⟨_, rfl⟩
    rw [hN7] at HZ7
    rw [hN7] at M7
    rw [hN7]
    clear hN7
    have c0 : wC.cell? ⟨w.heap.size, 0, none⟩ = some (.slice (some ⟨g, o, none⟩) n c) := cellB M7.out.1.1 0
    have p0 : wC.cell? ⟨w.heap.size + 1, 0, none⟩ = some (.int .i64 k) := cellB M7.out.1.2.1 0
    have p1 : wC.cell? ⟨w.heap.size + 1, 1, none⟩ = some (.int .i64 x0) := cellB M7.out.1.2.1 1
    have l0 : wC.cell? ⟨w.heap.size + 1 + 1, 0, none⟩ = some (.slice none 0 0) := cellB M7.out.1.2.2.1 0
    have lf0 := fzB M7.out.1.2.2.1 0
    have d0 : wC.cell? ⟨w.heap.size + 1 + 1 + 1, 0, none⟩ = some (.int .i64 0) := cellB M7.out.1.2.2.2 0
    have df0 := fzB M7.out.1.2.2.2 0
    have d1 : wC.cell? ⟨w.heap.size + 1 + 1 + 1, 1, none⟩ = some (.bool false) := cellB M7.out.1.2.2.2 1
    have df1 := fzB M7.out.1.2.2.2 1
    have d2 : wC.cell? ⟨w.heap.size + 1 + 1 + 1, 2, none⟩ = some (.int .i64 0) := cellB M7.out.1.2.2.2 2
    have df2 := fzB M7.out.1.2.2.2 2
    have d3 : wC.cell? ⟨w.heap.size + 1 + 1 + 1, 3, none⟩ = some (.int .i64 0) := cellB M7.out.1.2.2.2 3
    have df3 := fzB M7.out.1.2.2.2 3
    have d4 : wC.cell? ⟨w.heap.size + 1 + 1 + 1, 4, none⟩ = some (.int .i64 0) := cellB M7.out.1.2.2.2 4
    have df4 := fzB M7.out.1.2.2.2 4
    have v0 : wC.cell? ⟨N4, 0, none⟩ = some (.slice a2 n c2) := cellB M7.out.2.2.1 0
    have s0 : wC.cell? ⟨N7, 0, none⟩ = some (.int .i64 x0) := cellB M7.out.2.2.2.2.1 0
    have s1 : wC.cell? ⟨N7, 1, none⟩ = some (.bool true) := cellB M7.out.2.2.2.2.1 1
    have s2 : wC.cell? ⟨N7, 2, none⟩ = some (.int .i64 x2) := cellB M7.out.2.2.2.2.1 2
    have s3 : wC.cell? ⟨N7, 3, none⟩ = some (.int .i64 x3) := cellB M7.out.2.2.2.2.1 3
    have s4 : wC.cell? ⟨N7, 4, none⟩ = some (.int .i64 x4) := cellB M7.out.2.2.2.2.1 4
    have hz3 : w.heap.size + 1 + 1 + 1 < wC.heap.size := Nat.lt_trans hN (Nat.lt_trans HZ7.out M7.out.2.2.2.2.2)
    have hz2 : w.heap.size + 1 + 1 < wC.heap.size := Nat.lt_of_succ_lt hz3
    have hz1 : w.heap.size + 1 < wC.heap.size := Nat.lt_of_succ_lt hz2
    have hz0 : w.heap.size < wC.heap.size := Nat.lt_of_succ_lt hz1
    obtain ⟨g2, o2, ha2, hg2, hr2⟩ := cp_row M7.out.2.1 HKL.out
    subst ha2
    have HR2 : Hid (Row 35 5 cells wC g2 o2 L ∧ N1 ≤ g2 ∧ g2 < N4) := ⟨hr2, hg2, HOB.out g2 rfl⟩
    go_upto_region 9 with fail
    have u9 := fun j hj => HR2.out.1.cell k HKL.out j hj
    rw [HS.out] at u9
    have r0 : wC.cell? ⟨g2, o2 + k * 5, none⟩ = some (.int .i64 x0) := u9 0 (by omega)
    have z0 := HR2.out.1.fz (o2 + k * 5)
    have r1 : wC.cell? ⟨g2, o2 + k * 5 + 1, none⟩ = some (.bool true) := u9 1 (by omega)
    have z1 := HR2.out.1.fz (o2 + k * 5 + 1)
    have r2 : wC.cell? ⟨g2, o2 + k * 5 + 2, none⟩ = some (.int .i64 x2) := u9 2 (by omega)
    have z2 := HR2.out.1.fz (o2 + k * 5 + 2)
    have r3 : wC.cell? ⟨g2, o2 + k * 5 + 3, none⟩ = some (.int .i64 x3) := u9 3 (by omega)
    have z3 := HR2.out.1.fz (o2 + k * 5 + 3)
    have r4 : wC.cell? ⟨g2, o2 + k * 5 + 4, none⟩ = some (.int .i64 x4) := u9 4 (by omega)
    have z4 := HR2.out.1.fz (o2 + k * 5 + 4)
    have v1 : wC.drew.cell? ⟨N4, 0, none⟩ = some (.slice (some ⟨g2, o2, none⟩) n c2) := v0
    have q0 : wC.drew.cell? ⟨w.heap.size + 1, 0, none⟩ = some (.int .i64 k) := p0
    have t0 : wC.drew.cell? ⟨N7, 0, none⟩ = some (.int .i64 x0) := s0
    clear u9 hr2 hg2
    refine wp_region_still_tail 9 (by kernel_rfl) (by kernel_rfl) ?_
    simp only [List.take_succ_cons, List.take_zero, List.drop_succ_cons, List.drop_zero]
    repeat still_step
    still_call HNX wC.drew
    repeat still_step
    refine wpStill_nil ?_
    have M9 : Hid ((wC.heap[w.heap.size]? = some (.cells #[.slice (some ⟨g, o, none⟩) n c] 25 (0, 0)) ∧ wC.heap[w.heap.size + 1]? = some (.cells #[.int .i64 k, .int .i64 x0] 28 (0, 0)) ∧ wC.heap[w.heap.size + 1 + 1]? = some (.cells #[.slice none 0 0] 25 (0, 0)) ∧ wC.heap[w.heap.size + 1 + 1 + 1]? = some (.cells #[.int .i64 0, .bool false, .int .i64 0, .int .i64 0, .int .i64 0] 35 (0, 0))) ∧ wC.heap[N7]? = some (.cells #[.int .i64 x0, .bool true, .int .i64 x2, .int .i64 x3, .int .i64 x4] 35 (0, 0)) ∧ Row 35 5 cells wC g2 o2 L ∧ wC.heap[N4]? = some (.cells #[.slice (some ⟨g2, o2, none⟩) n c2] 25 (0, 0)) ∧ Below w.heap.size w wC) := ⟨M7.out.1, M7.out.2.2.2.2.1, HR2.out.1, M7.out.2.2.1, M7.out.2.2.2.1⟩
    have HGL : Hid (N1 ≤ g2 ∧ g2 < N4 ∧ N4 < N7 ∧ w.heap.size + 1 + 1 + 1 < N1) := ⟨HR2.out.2.1, HR2.out.2.2, HZ7.out, HZ.out.1⟩
    clear c0 p0 p1 l0 lf0 d0 d1 d2 d3 d4 df0 df1 df2 df3 df4 v0 s0 s1 s2 s3 s4 hz0 hz1 hz2 hz3 M7 HR2
    go_upto_region 10 with fail
    have M10 : Hid (((((((wC.setCell ⟨g2, o2 + k * 5, none⟩ (.int .i64 m)).setCell ⟨g2, o2 + k * 5 + 1, none⟩ (.bool false)).setCell ⟨g2, o2 + k * 5 + 2, none⟩ (.int .i64 0)).setCell ⟨g2, o2 + k * 5 + 3, none⟩ (.int .i64 0)).setCell ⟨g2, o2 + k * 5 + 4, none⟩ (.int .i64 0)).drew.heap[w.heap.size]? = some (.cells #[.slice (some ⟨g, o, none⟩) n c] 25 (0, 0)) ∧ (((((wC.setCell ⟨g2, o2 + k * 5, none⟩ (.int .i64 m)).setCell ⟨g2, o2 + k * 5 + 1, none⟩ (.bool false)).setCell ⟨g2, o2 + k * 5 + 2, none⟩ (.int .i64 0)).setCell ⟨g2, o2 + k * 5 + 3, none⟩ (.int .i64 0)).setCell ⟨g2, o2 + k * 5 + 4, none⟩ (.int .i64 0)).drew.heap[w.heap.size + 1]? = some (.cells #[.int .i64 k, .int .i64 x0] 28 (0, 0)) ∧ (((((wC.setCell ⟨g2, o2 + k * 5, none⟩ (.int .i64 m)).setCell ⟨g2, o2 + k * 5 + 1, none⟩ (.bool false)).setCell ⟨g2, o2 + k * 5 + 2, none⟩ (.int .i64 0)).setCell ⟨g2, o2 + k * 5 + 3, none⟩ (.int .i64 0)).setCell ⟨g2, o2 + k * 5 + 4, none⟩ (.int .i64 0)).drew.heap[w.heap.size + 1 + 1]? = some (.cells #[.slice none 0 0] 25 (0, 0)) ∧ (((((wC.setCell ⟨g2, o2 + k * 5, none⟩ (.int .i64 m)).setCell ⟨g2, o2 + k * 5 + 1, none⟩ (.bool false)).setCell ⟨g2, o2 + k * 5 + 2, none⟩ (.int .i64 0)).setCell ⟨g2, o2 + k * 5 + 3, none⟩ (.int .i64 0)).setCell ⟨g2, o2 + k * 5 + 4, none⟩ (.int .i64 0)).drew.heap[w.heap.size + 1 + 1 + 1]? = some (.cells #[.int .i64 0, .bool false, .int .i64 0, .int .i64 0, .int .i64 0] 35 (0, 0))) ∧ (((((wC.setCell ⟨g2, o2 + k * 5, none⟩ (.int .i64 m)).setCell ⟨g2, o2 + k * 5 + 1, none⟩ (.bool false)).setCell ⟨g2, o2 + k * 5 + 2, none⟩ (.int .i64 0)).setCell ⟨g2, o2 + k * 5 + 3, none⟩ (.int .i64 0)).setCell ⟨g2, o2 + k * 5 + 4, none⟩ (.int .i64 0)).drew.heap[N7]? = some (.cells #[.int .i64 x0, .bool true, .int .i64 x2, .int .i64 x3, .int .i64 x4] 35 (0, 0)) ∧ Row 35 5 cells (((((wC.setCell ⟨g2, o2 + k * 5, none⟩ (.int .i64 m)).setCell ⟨g2, o2 + k * 5 + 1, none⟩ (.bool false)).setCell ⟨g2, o2 + k * 5 + 2, none⟩ (.int .i64 0)).setCell ⟨g2, o2 + k * 5 + 3, none⟩ (.int .i64 0)).setCell ⟨g2, o2 + k * 5 + 4, none⟩ (.int .i64 0)).drew g2 o2 L2 ∧ (((((wC.setCell ⟨g2, o2 + k * 5, none⟩ (.int .i64 m)).setCell ⟨g2, o2 + k * 5 + 1, none⟩ (.bool false)).setCell ⟨g2, o2 + k * 5 + 2, none⟩ (.int .i64 0)).setCell ⟨g2, o2 + k * 5 + 3, none⟩ (.int .i64 0)).setCell ⟨g2, o2 + k * 5 + 4, none⟩ (.int .i64 0)).drew.heap[N4]? = some (.cells #[.slice (some ⟨g2, o2, none⟩) n c2] 25 (0, 0)) ∧ Below w.heap.size w (((((wC.setCell ⟨g2, o2 + k * 5, none⟩ (.int .i64 m)).setCell ⟨g2, o2 + k * 5 + 1, none⟩ (.bool false)).setCell ⟨g2, o2 + k * 5 + 2, none⟩ (.int .i64 0)).setCell ⟨g2, o2 + k * 5 + 3, none⟩ (.int .i64 0)).setCell ⟨g2, o2 + k * 5 + 4, none⟩ (.int .i64 0)).drew) := by
      have e : (((((wC.setCell ⟨g2, o2 + k * 5, none⟩ (.int .i64 m)).setCell ⟨g2, o2 + k * 5 + 1, none⟩ (.bool false)).setCell ⟨g2, o2 + k * 5 + 2, none⟩ (.int .i64 0)).setCell ⟨g2, o2 + k * 5 + 3, none⟩ (.int .i64 0)).setCell ⟨g2, o2 + k * 5 + 4, none⟩ (.int .i64 0)).drew = (sets wC g2 (o2 + k * 5) (cells ⟨m, false, 0, 0, 0⟩)).drew := rfl
      rw [e]
      have q := M9.out
      have u := HGL.out
      have hr := row_put q.2.2.1 k HKL.out ⟨m, false, 0, 0, 0⟩
      rw [HL2.out] at hr
      exact ⟨⟨(sets_else (by omega) _ _ _).trans q.1.1, (sets_else (by omega) _ _ _).trans q.1.2.1, (sets_else (by omega) _ _ _).trans q.1.2.2.1, (sets_else (by omega) _ _ _).trans q.1.2.2.2⟩, (sets_else (by omega) _ _ _).trans q.2.1, row_drew hr, (sets_else (by omega) _ _ _).trans q.2.2.2.1, (sets_below (by omega) _ _ _ q.2.2.2.2).drew⟩
    clear r0 r1 r2 r3 r4 z0 z1 z2 z3 z4 v1 q0 t0 M9
    generalize (((((wC.setCell ⟨g2, o2 + k * 5, none⟩ (.int .i64 m)).setCell ⟨g2, o2 + k * 5 + 1, none⟩ (.bool false)).setCell ⟨g2, o2 + k * 5 + 2, none⟩ (.int .i64 0)).setCell ⟨g2, o2 + k * 5 + 3, none⟩ (.int .i64 0)).setCell ⟨g2, o2 + k * 5 + 4, none⟩ (.int .i64 0)).drew = wE at *
    have y0 : wE.cell? ⟨N4, 0, none⟩ = some (.slice (some ⟨g2, o2, none⟩) n c2) := cellB M10.out.2.2.2.1 0
    have s0 : wE.cell? ⟨N7, 0, none⟩ = some (.int .i64 x0) := cellB M10.out.2.1 0
    have s1 : wE.cell? ⟨N7, 1, none⟩ = some (.bool true) := cellB M10.out.2.1 1
    have s2 : wE.cell? ⟨N7, 2, none⟩ = some (.int .i64 x2) := cellB M10.out.2.1 2
    have s3 : wE.cell? ⟨N7, 3, none⟩ = some (.int .i64 x3) := cellB M10.out.2.1 3
    have s4 : wE.cell? ⟨N7, 4, none⟩ = some (.int .i64 x4) := cellB M10.out.2.1 4
    have l0 : wE.cell? ⟨w.heap.size + 1 + 1, 0, none⟩ = some (.slice none 0 0) := cellB M10.out.1.2.2.1 0
    have lf0 := fzB M10.out.1.2.2.1 0
    have d0 : wE.cell? ⟨w.heap.size + 1 + 1 + 1, 0, none⟩ = some (.int .i64 0) := cellB M10.out.1.2.2.2 0
    have df0 := fzB M10.out.1.2.2.2 0
    have d1 : wE.cell? ⟨w.heap.size + 1 + 1 + 1, 1, none⟩ = some (.bool false) := cellB M10.out.1.2.2.2 1
    have df1 := fzB M10.out.1.2.2.2 1
    have d2 : wE.cell? ⟨w.heap.size + 1 + 1 + 1, 2, none⟩ = some (.int .i64 0) := cellB M10.out.1.2.2.2 2
    have df2 := fzB M10.out.1.2.2.2 2
    have d3 : wE.cell? ⟨w.heap.size + 1 + 1 + 1, 3, none⟩ = some (.int .i64 0) := cellB M10.out.1.2.2.2 3
    have df3 := fzB M10.out.1.2.2.2 3
    have d4 : wE.cell? ⟨w.heap.size + 1 + 1 + 1, 4, none⟩ = some (.int .i64 0) := cellB M10.out.1.2.2.2 4
    have df4 := fzB M10.out.1.2.2.2 4
    have hn1 : N7 ≠ w.heap.size + 1 + 1 := by have := HGL.out; omega
    have hn2 : N7 ≠ w.heap.size + 1 + 1 + 1 := by have := HGL.out; omega
    have hn3 : N4 ≠ w.heap.size + 1 + 1 := by have := HGL.out; omega
    have hn4 : N4 ≠ w.heap.size + 1 + 1 + 1 := by have := HGL.out; omega
    go_wp2
    go_region
    go_wp2
    refine bodyPost_ret (v := .tuple #[.agg #[.slice (some ⟨g2, o2, none⟩) n c2], .agg #[.int .i64 x0, .bool true, .int .i64 x2, .int .i64 x3, .int .i64 x4], .bool true]) (by simp [results, Tryd.results23, go_sem, l0, d0, d1, d2, d3, d4]) rfl ⟨some ⟨g2, o2, none⟩, c2, by rw [HN2.out], by rw [HN2.out]; exact hc2, ?_, ?_, ?_⟩
    · have u := HGL.out
      exact Or.inr ⟨g2, o2, rfl, row_drew (((((((M10.out.2.2.1).set (by show g2 ≠ w.heap.size + 1 + 1; omega) _).set (by show g2 ≠ w.heap.size + 1 + 1 + 1; omega) _).set (by show g2 ≠ w.heap.size + 1 + 1 + 1; omega) _).set (by show g2 ≠ w.heap.size + 1 + 1 + 1; omega) _).set (by show g2 ≠ w.heap.size + 1 + 1 + 1; omega) _).set (by show g2 ≠ w.heap.size + 1 + 1 + 1; omega) _)⟩
    · intro b hb
      have u := HGL.out
      cases L2 with
      | nil => simp [blkL] at hb
      | cons q9 L9 => simp [blkL] at hb; omega
    · exact (((((((M10.out.2.2.2.2).setCell (Nat.le_add_right _ 2) _).setCell (Nat.le_add_right _ 3) _).setCell (Nat.le_add_right _ 3) _).setCell (Nat.le_add_right _ 3) _).setCell (Nat.le_add_right _ 3) _).setCell (Nat.le_add_right _ 3) _).drew

end Go.Proofs.YtacpblhajoblmaaDoor.LedRelS
