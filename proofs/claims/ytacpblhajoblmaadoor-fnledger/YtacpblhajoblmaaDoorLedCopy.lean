/- What the model's copy of a ledger and the program's clone of its slots are: the same slots in new memory; nothing else turns. -/
import Derived.Test.YtacpblhajoblmaaDoorRows
import Derived.WalkKit
import Derived.WalkSmall
import Derived.BigQuiet
import Derived.Deep.RegionWith
import Derived.Deep.AppendSrc
import Derived.Laws.AppendOwn
import Derived.Lib.SliceRun
import Derived.Test.YtacpblhajoblmaaDoorListKit
import Derived.Test.YtacpblhajoblmaaDoorSlotKit
import Derived.Test.YtacpblhajoblmaaDoorLedOk
import Derived.Test.YtacpblhajoblmaaDoorLedPermit
namespace Go.Proofs.YtacpblhajoblmaaDoor.LedCopy
open Go.RowKit ListKit SlotKit LedOk LedPermit
set_option maxRecDepth 8000
set_option linter.unusedVariables false
set_option linter.unusedSimpArgs false

theorem info_slot : (Tryd.prog.info? 35).map (fun i => (i.zero, i.size, i.bytes)) = some (some (.agg #[.int .i64 0, .bool false, .int .i64 0, .int .i64 0, .int .i64 0]), 5, 40) := by kernel_rfl
theorem info_parts {t : TypeId} {z : Option Value} {s b : Nat} (h : (Tryd.prog.info? t).map (fun i => (i.zero, i.size, i.bytes)) = some (z, s, b)) : ∃ i, Tryd.prog.info? t = some i ∧ i.zero = z ∧ i.size = s ∧ i.bytes = b := by
  cases hi : Tryd.prog.info? t with
  | none => rw [hi] at h; cases h
  | some i =>
    rw [hi] at h
    simp at h
    exact ⟨i, rfl, h.1, h.2.1, h.2.2⟩
/-- The cells of slots, one behind the other. -/
def flat (L : List Slot) : List Value := L.flatMap cells
theorem flat_len (L : List Slot) : (flat L).length = L.length * 5 := by
  induction L with
  | nil => rfl
  | cons q L ih => simp [flat, cells] at ih ⊢; omega
theorem flat_app (L : List Slot) (s : Slot) : flat (L ++ [s]) = flat L ++ cells s := by simp [flat]
theorem flat_get (L : List Slot) (i : Nat) (h : i < L.length) (j : Nat) (hj : j < 5) : (flat L)[i * 5 + j]? = (cells L[i])[j]? := by
  induction L generalizing i with
  | nil => simp at h
  | cons q L ih =>
    have hf : flat (q :: L) = cells q ++ flat L := by simp [flat]
    rw [hf]
    cases i with
    | zero => rw [List.getElem?_append_left (by rw [cells_len]; omega)]; simp
    | succ i =>
      rw [List.getElem?_append_right (by rw [cells_len]; omega), cells_len, show (i + 1) * 5 + j - 5 = i * 5 + j by omega, ih i (by simpa using h)]
      simp
theorem cells_one (s : Slot) : ∀ u ∈ cells s, u.oneCell' = true := by
  intro u hu
  simp [cells] at hu
  rcases hu with rfl | rfl | rfl | rfl | rfl <;> rfl
theorem flat_one (L : List Slot) : ∀ u ∈ flat L, u.oneCell' = true := by
  intro u hu
  simp [flat] at hu
  obtain ⟨s, _, h⟩ := hu
  exact cells_one s u h
theorem flat_at (L : List Slot) (j : Nat) (u : Value) (h : (flat L)[j]? = some u) : ∃ i, ∃ hi : i < L.length, ∃ q, q < 5 ∧ j = i * 5 + q ∧ (cells L[i])[q]? = some u := by
  have hj : j < L.length * 5 := by
    have := (List.getElem?_eq_some_iff.1 h).1
    rw [flat_len] at this
    exact this
  refine ⟨j / 5, by omega, j % 5, by omega, by omega, ?_⟩
  rw [← flat_get L (j / 5) (by omega) (j % 5) (by omega), show j / 5 * 5 + j % 5 = j by omega]
  exact h

/-- Slots in memory of the call's own, from B on. -/
def Cp (w : World) (B : Nat) (v : Value) (L : List Slot) : Prop := w.ownsRow B 35 5 v L.length (flat L)
theorem Cp.nil (w : World) (B : Nat) : Cp w B (.slice none 0 0) [] := ⟨rfl, Or.inl ⟨rfl, rfl⟩⟩
theorem Cp.shape {w : World} {B : Nat} {v : Value} {L : List Slot} (h : Cp w B v L) : ∃ a c, v = .slice a L.length c ∧ L.length ≤ c ∧ ((a = none ∧ L = [] ∧ c = 0) ∨ ∃ g, a = some ⟨g, 0, none⟩ ∧ B ≤ g ∧ Row 35 5 cells w g 0 L) := by
  obtain ⟨hl, ⟨hv, h0⟩ | ⟨g, cap, cur, hv, hb, hg, hc, hm, hs, ht⟩⟩ := h
  · exact ⟨none, 0, by rw [hv, h0], by omega, Or.inl ⟨rfl, List.length_eq_zero_iff.1 h0, rfl⟩⟩
  · refine ⟨_, cap, hv, hc, Or.inr ⟨g, rfl, hb, cur, hg, ?_, fun i hi j hj => ?_⟩⟩
    · rw [hs]
      have := Nat.mul_le_mul_right 5 hc
      omega
    · have h1 := flat_get L i hi j hj
      rw [← ht, List.getElem?_take] at h1
      rw [if_pos (by omega)] at h1
      rw [← h1, Nat.zero_add]
      simp
theorem shape_own {w : World} {B : Nat} {a : Option Addr} {c : Nat} {L : List Slot} (h : (a = none ∧ L = [] ∧ c = 0) ∨ ∃ g, a = some ⟨g, 0, none⟩ ∧ B ≤ g ∧ Row 35 5 cells w g 0 L) : Own 35 5 cells w a L := by
  rcases h with ⟨_, h, _⟩ | ⟨g, ha, _, hr⟩
  · exact Or.inl h
  · exact Or.inr ⟨g, 0, ha, hr⟩
theorem Cp.same {w w' : World} {B : Nat} {v : Value} {L : List Slot} (h : Cp w B v L) (e : ∀ g, v.ownBlock = some g → B ≤ g → w'.heap[g]? = w.heap[g]?) : Cp w' B v L := by
  obtain ⟨hl, h | ⟨g, cap, cur, hv, hb, hg, rest⟩⟩ := h
  · exact ⟨hl, Or.inl h⟩
  · exact ⟨hl, Or.inr ⟨g, cap, cur, hv, hb, by rw [e g (by rw [hv]; rfl) hb]; exact hg, rest⟩⟩
theorem Cp.lt {w : World} {B : Nat} {v : Value} {L : List Slot} (h : Cp w B v L) : ∀ g, v.ownBlock = some g → g < w.heap.size := by
  intro g hg
  obtain ⟨hl, h | ⟨g2, cap, cur, hv, hb, hg2, rest⟩⟩ := h
  · rw [h.1] at hg; cases hg
  · rw [hv] at hg
    injection hg with hg
    subst hg
    exact (Array.getElem?_eq_some_iff.1 hg2).1
theorem Cp.ge {w : World} {B : Nat} {v : Value} {L : List Slot} (h : Cp w B v L) : ∀ g, v.ownBlock = some g → B ≤ g := by
  intro g hg
  obtain ⟨hl, h | ⟨g2, cap, cur, hv, hb, hg2, rest⟩⟩ := h
  · rw [h.1] at hg; cases hg
  · rw [hv] at hg
    injection hg with hg
    subst hg
    exact hb
theorem Cp.below {w w' : World} {B : Nat} {v : Value} {L : List Slot} (h : Cp w B v L) (hb : Below w.heap.size w w') : Cp w' B v L := h.same fun g hg _ => hb.block g (h.lt g hg)
theorem Cp.set {w : World} {B : Nat} {v : Value} {L : List Slot} (h : Cp w B v L) {p : Addr} (hne : p.block < B) (u : Value) : Cp (w.setCell p u) B v L := h.same fun g _ hg => Below.heap_setCell _ _ _ _ (by omega)
theorem Cp.base {w : World} {B B' : Nat} {v : Value} {L : List Slot} (h : Cp w B v L) (hB : B' ≤ B) : Cp w B' v L := by
  obtain ⟨hl, h | ⟨g, cap, cur, hv, hb, rest⟩⟩ := h
  · exact ⟨hl, Or.inl h⟩
  · exact ⟨hl, Or.inr ⟨g, cap, cur, hv, by omega, rest⟩⟩

/-- What answers a copy. -/
def CAns (w : World) (L : List Slot) (e : Ending) (w' : World) : Prop := ∃ v, e = .returned (.agg #[v]) ∧ Cp w' w.heap.size v L ∧ Below w.heap.size w w'
def KAns (w : World) (L : List Slot) (e : Ending) (w' : World) : Prop := ∃ v, e = .returned v ∧ Cp w' w.heap.size v L ∧ Below w.heap.size w w'

theorem app_nil (a : Option Addr) (W : World) (b c : Nat) (ty : TypeId) : (Builtin.append_ #[23, 23] ty #[.slice (some ⟨b, 0, none⟩) 0 0, .slice a 0 c]).run Tryd.prog W = .ok (.slice (some ⟨b, 0, none⟩) 0 0) W := by
  obtain ⟨i, hi, hz, hs, hb⟩ := info_parts info_slot
  have hsrc : Src Tryd.prog i.size 23 (.slice a 0 c) 0 [] W := by
    cases a with
    | none => exact Src.ofNil W Tryd.underlying23 c
    | some ad => exact Src.ofSlice W Tryd.underlying23 ad 0 c [] (by simp) (fun j u hu => by simp at hu) (fun u hu => by cases hu)
  have h := run_append_room_src (P := Tryd.prog) W 23 23 ty 35 i Tryd.underlying23 hi b 0 0 0 (.slice a 0 c) 0 [] hsrc (by omega) (fun j hj => by simp at hj) (fun j hj => by simp at hj)
  simpa [World.setCells] using h
theorem src_cells {w : World} {ad : Addr} {L : List Slot} (h : Own 35 5 cells w (some ad) L) : ∀ j u, (flat L)[j]? = some u → w.cell? (ad.add j) = some u := fun j u hu => by
  obtain ⟨i, hi, q, hq, rfl, h1⟩ := flat_at L j u hu
  rcases h with h | ⟨g, p, e, hr⟩
  · subst h; simp at hi
  · injection e with e
    subst e
    rw [Addr.add_lit, show p + (i * 5 + q) = p + i * 5 + q by omega, hr.cell i hi q hq]
    exact h1
theorem two_kept {w w1 : World} {A B C : Obj} {r : Option Nat} (hgr : (((w.alloc A).alloc B).alloc C).grownBy w1 r) (hr : ∀ n, r = some n → w.heap.size + 2 ≤ n) : w1.heap[w.heap.size]? = some A ∧ w1.heap[w.heap.size + 1]? = some B := by
  have hblk : ∀ n, n < w.heap.size + 2 → w1.heap[n]? = (((w.alloc A).alloc B).alloc C).heap[n]? := fun n hn => hgr.block n (by simp; omega) (fun e => by have := hr n e.symm; omega)
  refine ⟨?_, ?_⟩
  · rw [hblk _ (by omega), Below.heap_alloc _ _ _ (by simp; omega), Below.heap_alloc _ _ _ (by simp)]
    exact heap_alloc_new w _
  · rw [hblk _ (by omega), Below.heap_alloc _ _ _ (by simp)]
    have h2 := heap_alloc_new (w.alloc A) B
    rw [World.size_alloc] at h2
    exact h2
theorem empty_cp (w : World) {B : Nat} (hB : B ≤ w.heap.size) : (w.alloc (.cells #[] 35)).ownsRow B 35 5 (.slice (some ⟨w.heap.size, 0, none⟩) 0 0) 0 [] := ⟨rfl, Or.inr ⟨w.heap.size, 0, #[], rfl, hB, heap_alloc_new w _, Nat.le_refl _, by unfold maxLen; omega, rfl, rfl⟩⟩

set_option maxHeartbeats 2000000 in
theorem copy_none (c : Nat) (w : World) : Calls Tryd.prog 37 #[.agg #[.slice none 0 c]] w (CAns w []) := by
  have hap := app_nil none
  go_enter Tryd.func37, Tryd.ntmps37
  go_wp2
  refine bodyPost_ret (v := .agg #[.slice (some ⟨w.heap.size + 1 + 1, 0, none⟩) 0 0]) (by simp [results, Tryd.results37, go_sem]) rfl ⟨_, rfl, ?_, ?_⟩
  · have h := empty_cp ((w.alloc (.cells #[.slice none 0 c] 25)).alloc (.cells #[.slice (some ⟨w.heap.size + 1 + 1, 0, none⟩) 0 0] 25)) (B := w.heap.size) (by simp; omega)
    simp only [World.size_alloc] at h
    exact h
  · exact (((Below.refl _ _).alloc (Nat.le_refl _) _).alloc (by simp) _).alloc (by simp; omega) _
set_option maxHeartbeats 2000000 in
theorem copy_some (ad : Addr) (c : Nat) (L : List Slot) (w : World) (hr : Own 35 5 cells w (some ad) L) (hl : L.length ≤ 1048577) : Calls Tryd.prog 37 #[.agg #[.slice (some ad) L.length c]] w (CAns w L) := by
  obtain ⟨i0, hi, hz0, hz1, hz2⟩ := info_parts info_slot
  have B3 : Below w.heap.size w (((w.alloc (.cells #[.slice (some ad) L.length c] 25)).alloc (.cells #[.slice none 0 0] 25)).alloc (.cells #[] 35)) := (((Below.refl _ _).alloc (Nat.le_refl _) _).alloc (by simp) _).alloc (by simp; omega) _
  have hcell := src_cells (hr.below B3)
  have ho : (((w.alloc (.cells #[.slice (some ad) L.length c] 25)).alloc (.cells #[.slice none 0 0] 25)).alloc (.cells #[] 35)).ownsRow (w.heap.size + 2) 35 5 (.slice (some ⟨w.heap.size + 1 + 1, 0, none⟩) 0 0) 0 [] := by
    have h := empty_cp ((w.alloc (.cells #[.slice (some ad) L.length c] 25)).alloc (.cells #[.slice none 0 0] 25)) (B := w.heap.size + 2) (by simp)
    simp only [World.size_alloc] at h
    exact h
  have own2 : ∀ n, (Value.slice (some ⟨w.heap.size + 1 + 1, 0, none⟩) 0 0).ownBlock = some n → w.heap.size + 2 ≤ n := fun n hn => by simp [Value.ownBlock] at hn; omega
  have own0 : ∀ n, (Value.slice (some ⟨w.heap.size + 1 + 1, 0, none⟩) 0 0).ownBlock = some n → w.heap.size ≤ n := fun n hn => by have := own2 n hn; omega
  have HB3 : Hid (Below w.heap.size w (((w.alloc (.cells #[.slice (some ad) L.length c] 25)).alloc (.cells #[.slice none 0 0] 25)).alloc (.cells #[] 35))) := B3
  clear B3 hr
  go_enter Tryd.func37, Tryd.ntmps37
  go_wp2_with (at_builtin; refine wpList_append_own _ rfl (.tmp 3) (.tmp 5) 23 rfl (w.heap.size + 2) 35 i0 (.agg #[.int .i64 0, .bool false, .int .i64 0, .int .i64 0, .int .i64 0]) 5 40 Tryd.underlying23 hi hz0 hz1 hz2 rfl (by decide) _ 0 [] rfl ho ad L.length c (flat L) rfl (flat_len L) hcell (flat_one L) (by unfold maxLen; omega) (by omega) (by simp) ?_; intro v1 w1 hown hgr hnn; rw [Nat.zero_add, List.nil_append] at hown; obtain ⟨q0, q1⟩ := two_kept hgr own2; have B1 : Hid (Below w.heap.size w w1) := HB3.out.grown hgr HB3.out.size own0; have HR : Hid (Cp w1 (w.heap.size + 2) v1 L) := hown; have d0 : w1.cell? ⟨w.heap.size + 1, 0, none⟩ = some (.slice none 0 0) := cellB q1 0; have e0 := fzB q1 0; obtain ⟨v1a, v1c, hv1, _⟩ := HR.out.shape; subst hv1; clear hown hgr hnn q0 q1 hcell ho)
  refine bodyPost_ret (v := .agg #[.slice v1a L.length v1c]) (by simp [results, Tryd.results37, go_sem, d0]) rfl ⟨_, rfl, ?_, ?_⟩
  · exact ((HR.out).set (by show w.heap.size + 1 < _; omega) _).base (by omega)
  · exact (B1.out).setCell (Nat.le_add_right _ 1) _
theorem spec_copy (a : Option Addr) (c : Nat) (L : List Slot) (w : World) (ha : Own 35 5 cells w a L) (hl : L.length ≤ 1048577) : Calls Tryd.prog 37 #[.agg #[.slice a L.length c]] w (CAns w L) := by
  cases a with
  | none =>
    have hL : L = [] := by
      rcases ha with h | ⟨g, o, h, _⟩
      · exact h
      · cases h
    subst hL
    exact copy_none c w
  | some ad => exact copy_some ad c L w ha hl

theorem clone_none (c : Nat) (w : World) : Calls Tryd.prog 25 #[.slice none 0 c] w (KAns w []) := by
  have hn0 := fun (w : World) (a : Option Addr) (n c : Nat) => Lib.run_eql_slice_nil (P := Tryd.prog) w 23 35 a n c 0 0 Tryd.underlying23
  go_enter Tryd.func25, Tryd.ntmps25
  go_wp2
  exact bodyPost_ret (v := .slice none 0 0) (by simp [results, Tryd.results25, go_sem]) rfl ⟨_, rfl, Cp.nil _ _, Below.refl _ _⟩
set_option maxHeartbeats 2000000 in
theorem clone_some (ad : Addr) (c : Nat) (L : List Slot) (w : World) (hr : Own 35 5 cells w (some ad) L) (hl : L.length ≤ 1048577) : Calls Tryd.prog 25 #[.slice (some ad) L.length c] w (KAns w L) := by
  obtain ⟨i0, hi, hz0, hz1, hz2⟩ := info_parts info_slot
  have B3 : Below w.heap.size w (w.alloc (.cells #[] 35)) := (Below.refl _ _).alloc (Nat.le_refl _) _
  have hcell := src_cells (hr.below B3)
  have ho : (w.alloc (.cells #[] 35)).ownsRow w.heap.size 35 5 (.slice (some ⟨w.heap.size, 0, none⟩) 0 0) 0 [] := empty_cp w (Nat.le_refl _)
  have own0 : ∀ n, (Value.slice (some ⟨w.heap.size, 0, none⟩) 0 0).ownBlock = some n → w.heap.size ≤ n := fun n hn => by simp [Value.ownBlock] at hn; omega
  have HB3 : Hid (Below w.heap.size w (w.alloc (.cells #[] 35))) := B3
  clear B3 hr
  have hn0 := fun (w : World) (a : Option Addr) (n c : Nat) => Lib.run_eql_slice_nil (P := Tryd.prog) w 23 35 a n c 0 0 Tryd.underlying23
  go_enter Tryd.func25, Tryd.ntmps25
  go_wp2_with (at_builtin; refine wpList_append_own _ rfl (.tmp 5) (.tmp 6) 23 rfl w.heap.size 35 i0 (.agg #[.int .i64 0, .bool false, .int .i64 0, .int .i64 0, .int .i64 0]) 5 40 Tryd.underlying23 hi hz0 hz1 hz2 rfl (by decide) _ 0 [] rfl ho ad L.length c (flat L) rfl (flat_len L) hcell (flat_one L) (by unfold maxLen; omega) (by omega) (by simp) ?_; intro v1 w1 hown hgr hnn; rw [Nat.zero_add, List.nil_append] at hown; have B1 : Hid (Below w.heap.size w w1) := HB3.out.grown hgr HB3.out.size own0; have HR : Hid (Cp w1 w.heap.size v1 L) := hown; obtain ⟨v1a, v1c, hv1, _⟩ := HR.out.shape; subst hv1; clear hown hgr hnn hcell ho)
  exact bodyPost_ret (v := .slice v1a L.length v1c) (by simp [results, Tryd.results25, go_sem]) rfl ⟨_, rfl, HR.out, B1.out⟩
theorem impl_clone (a : Option Addr) (c : Nat) (L : List Slot) (w : World) (ha : Own 35 5 cells w a L) (hl : L.length ≤ 1048577) : Calls Tryd.prog 25 #[.slice a L.length c] w (KAns w L) := by
  cases a with
  | none =>
    have hL : L = [] := by
      rcases ha with h | ⟨g, o, h, _⟩
      · exact h
      · cases h
    subst hL
    exact clone_none c w
  | some ad => exact clone_some ad c L w ha hl
end Go.Proofs.YtacpblhajoblmaaDoor.LedCopy
