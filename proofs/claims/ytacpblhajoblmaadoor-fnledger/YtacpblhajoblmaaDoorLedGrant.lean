/- What the program's withFree and Grant answer, at every ledger of at most 2 to the 20 slots; nothing else turns. -/
import Derived.Test.YtacpblhajoblmaaDoorRows
import Derived.WalkKit
import Derived.WalkSmall
import Derived.BigQuiet
import Derived.Deep.RegionWith
import Derived.Deep.DeepCutAuto
import Derived.Deep.AppendSrc
import Derived.Laws.AppendOwn
import Derived.Test.YtacpblhajoblmaaDoorListKit
import Derived.Test.YtacpblhajoblmaaDoorSlotKit
import Derived.Test.YtacpblhajoblmaaDoorSlotOks
import Derived.Test.YtacpblhajoblmaaDoorLedFind
import Derived.Test.YtacpblhajoblmaaDoorLedOk
import Derived.Test.YtacpblhajoblmaaDoorLedPermit
import Derived.Test.YtacpblhajoblmaaDoorLedCopy
namespace Go.Proofs.YtacpblhajoblmaaDoor.LedGrant
open Go.RowKit ListKit SlotKit SlotOks LedFind LedOk LedPermit LedCopy
set_option maxRecDepth 8000
set_option linter.unusedVariables false
set_option linter.unusedSimpArgs false

/-- What answers a grant: a ledger in memory of its own, a permit, and whether there is one. -/
def GAns (w : World) (L : List Slot) (P G : Int) (B : Bool) (e : Ending) (w' : World) : Prop := ∃ a c, e = .returned (.tuple #[.agg #[.slice a L.length c], .agg #[.int .i64 P, .int .i64 G], .bool B]) ∧ L.length ≤ c ∧ Own 35 5 cells w' a L ∧ (∀ b, blkL a L = some b → w.heap.size ≤ b) ∧ Below w.heap.size w w'
/-- What answers it by a flag. -/
def GPost (w : World) (L : List Slot) (P G : Int) (B : Bool) (e : Ending) (w' : World) : Prop := (B = false → GAns w [] 0 0 false e w') ∧ (B = true → GAns w L P G true e w')
/-- What answers the search: slots in memory of its own, and a place. -/
def WAns (w : World) (L : List Slot) (k : Nat) (e : Ending) (w' : World) : Prop := ∃ v, e = .returned (.tuple #[v, .int .i64 (k : Int)]) ∧ Cp w' w.heap.size v L ∧ Below w.heap.size w w'

theorem row_put {w : World} {g o : Nat} {L : List Slot} (h : Row 35 5 cells w g o L) (k : Nat) (hk : k < L.length) (s : Slot) : Row 35 5 cells (sets w g (o + k * 5) (cells s)) g o (L.set k s) := by
  obtain ⟨cur, hg, hs, hc⟩ := h
  have hb : o + k * 5 + (cells s).length ≤ cur.size := by rw [cells_len]; have := Nat.mul_le_mul_right 5 (show k + 1 ≤ L.length from hk); omega
  refine ⟨_, sets_at _ _ _ _ hg, by rw [arrSets_size]; simpa using hs, fun i hi j hj => ?_⟩
  rw [arrSets_get _ _ _ _ hb, cells_len]
  by_cases e : i = k
  · subst e
    rw [if_pos (by omega), show o + i * 5 + j - (o + i * 5) = j by omega]
    simp
  · rw [if_neg (by rcases Nat.lt_or_gt_of_ne e with h | h <;> omega), hc i (by simpa using hi) j hj, List.getElem_set_ne (fun h => e h.symm)]
theorem three {w w1 : World} {A B C : Obj} (hb : Below (((w.alloc A).alloc B).alloc C).heap.size (((w.alloc A).alloc B).alloc C) w1) : Hid (w1.heap[w.heap.size]? = some A ∧ w1.heap[w.heap.size + 1]? = some B ∧ w1.heap[w.heap.size + 1 + 1]? = some C ∧ Below w.heap.size w w1 ∧ w.heap.size + 1 + 1 < w1.heap.size) := by
  have hs := hb.size
  simp at hs
  refine ⟨?_, ?_, ?_, ((((Below.refl _ _).alloc (Nat.le_refl _) _).alloc (by simp) _).alloc (by simp; omega) _).trans (hb.mono (by simp; omega)), by omega⟩
  · rw [hb.block _ (by simp; omega), Below.heap_alloc _ _ _ (by simp; omega), Below.heap_alloc _ _ _ (by simp)]
    exact heap_alloc_new w _
  · rw [hb.block _ (by simp), Below.heap_alloc _ _ _ (by simp)]
    have h2 := heap_alloc_new (w.alloc A) B
    rw [World.size_alloc] at h2
    exact h2
  · rw [hb.block _ (by simp)]
    have h2 := heap_alloc_new ((w.alloc A).alloc B) C
    rw [World.size_alloc, World.size_alloc] at h2
    exact h2
theorem shape_row {w : World} {B k : Nat} {a : Option Addr} {c : Nat} {L : List Slot} (h : (a = none ∧ L = [] ∧ c = 0) ∨ ∃ g, a = some ⟨g, 0, none⟩ ∧ B ≤ g ∧ Row 35 5 cells w g 0 L) (hk : k < L.length) : ∃ g o, a = some ⟨g, o, none⟩ ∧ B ≤ g ∧ Row 35 5 cells w g o L := by
  rcases h with ⟨_, h, _⟩ | ⟨g, ha, hb, hr⟩
  · rw [h] at hk; simp at hk
  · exact ⟨g, 0, ha, hb, hr⟩
theorem bel_three (w : World) (A B C : Obj) : Below w.heap.size w (((w.alloc A).alloc B).alloc C) := (((Below.refl _ _).alloc (Nat.le_refl _) _).alloc (by simp) _).alloc (by simp; omega) _
theorem cells_zero (W : World) (t : TypeId) : ∀ j u, (cells zero)[j]? = some u → (W.alloc (.cells #[.int .i64 0, .bool false, .int .i64 0, .int .i64 0, .int .i64 0] t)).cell? ((⟨W.heap.size, 0, none⟩ : Addr).add j) = some u := fun j u hu => by
  rw [Addr.add_lit]
  have h := cellB (heap_alloc_new W (.cells #[.int .i64 0, .bool false, .int .i64 0, .int .i64 0, .int .i64 0] t)) (0 + j)
  rw [h, ← hu]
  simp [cells, zero]


set_option maxHeartbeats 4000000 in
theorem with_free_hit (a : Option Addr) (c : Nat) (L : List Slot) (w : World) (h : Own 35 5 cells w a L) (hl : (L.length : Int) ≤ 1048577) (k : Nat) (HR : Hid (At isFree L (k : Int))) :
    Calls Tryd.prog 13 #[.slice a L.length c] w (WAns w L k) := by
  have HA : Hid (Own 35 5 cells w a L) := h
  clear h
  have HIX := fun a1 c1 (W : World) h => index_free a1 c1 L (k : Int) W h hl HR
  obtain ⟨n, hn⟩ : ∃ n, L.length = n := ⟨_, rfl⟩
  have HN : Hid (L.length = n) := hn
  have HCL := fun (W : World) h => impl_clone a c L W h (by omega)
  rw [hn] at hl HIX HCL ⊢
  clear hn
  have hk0 : decide ((k : Int) < 0) = false := by simp
  go_enter Tryd.func13, Tryd.ntmps13
  go_wp2_with (first | (go_at_call 25; refine (HCL _ HA.out).mono ?_; rintro e w1 ⟨v1, rfl, cp1, b1⟩; have HC : Hid (Cp w1 w.heap.size v1 L) := cp1; have HB1 : Hid (Below w.heap.size w w1) := b1; obtain ⟨a1, c1, hv1, hc1, hs1⟩ := HC.out.shape; rw [HN.out] at hv1; subst hv1; have HO : Hid (Own 35 5 cells w1 a1 L) := shape_own hs1; clear cp1 b1 hs1 hc1) | (go_at_call 26; refine (HIX _ _ _ HO.out).mono ?_; rintro e w2 ⟨rfl, b2⟩; have HC2 : Hid (Cp w2 w.heap.size (.slice a1 n c1) L ∧ Below w.heap.size w w2) := ⟨HC.out.below b2, HB1.out.trans (b2.mono HB1.out.size)⟩; clear b2))
  exact bodyPost_ret (v := .tuple #[.slice a1 n c1, .int .i64 k]) (by simp [results, Tryd.results13, go_sem]) rfl ⟨_, rfl, HC2.out.1, HC2.out.2⟩

set_option maxHeartbeats 4000000 in
theorem with_free_no (a : Option Addr) (c : Nat) (L : List Slot) (w : World) (h : Own 35 5 cells w a L) (hl : (L.length : Int) ≤ 1048577) (HR : Hid (At isFree L (-1))) :
    Calls Tryd.prog 13 #[.slice a L.length c] w (WAns w (L ++ [zero]) L.length) := by
  have HA : Hid (Own 35 5 cells w a L) := h
  clear h
  have HIX := fun a1 c1 (W : World) h => index_free a1 c1 L (-1) W h hl HR
  obtain ⟨n, hn⟩ : ∃ n, L.length = n := ⟨_, rfl⟩
  have HN : Hid (L.length = n) := hn
  have HCL := fun (W : World) h => impl_clone a c L W h (by omega)
  rw [hn] at hl HIX HCL ⊢
  clear hn
  obtain ⟨i0, hi, hz0, hz1, hz2⟩ := info_parts info_slot
  have HZ := fun (W : World) => cells_zero W 35
  go_enter Tryd.func13, Tryd.ntmps13
  go_wp2_with (first | (go_at_call 25; refine (HCL _ HA.out).mono ?_; rintro e w1 ⟨v1, rfl, cp1, b1⟩; have HC : Hid (Cp w1 w.heap.size v1 L) := cp1; have HB1 : Hid (Below w.heap.size w w1) := b1; obtain ⟨a1, c1, hv1, hc1, hs1⟩ := HC.out.shape; rw [HN.out] at hv1; subst hv1; have HO : Hid (Own 35 5 cells w1 a1 L) := shape_own hs1; clear cp1 b1 hs1 hc1) | (go_at_call 26; refine (HIX _ _ _ HO.out).mono ?_; rintro e w2 ⟨rfl, b2⟩; have HC2 : Hid (Cp w2 w.heap.size (.slice a1 n c1) L ∧ Below w.heap.size w w2) := ⟨HC.out.below b2, HB1.out.trans (b2.mono HB1.out.size)⟩; clear b2) | (at_builtin; refine wpList_append_own _ rfl (.tmp 12) (.tmp 14) 23 rfl w.heap.size 35 i0 (.agg #[.int .i64 0, .bool false, .int .i64 0, .int .i64 0, .int .i64 0]) 5 40 Tryd.underlying23 hi hz0 hz1 hz2 rfl (by decide) _ n (flat L) rfl (by have h := HC2.out.1.below ((Below.refl _ _).alloc (Nat.le_refl _) (.cells #[.int .i64 0, .bool false, .int .i64 0, .int .i64 0, .int .i64 0] 35)); unfold Cp at h; rw [HN.out] at h; exact h) ⟨w2.heap.size, 0, none⟩ 1 1 (cells zero) rfl rfl (HZ w2) (cells_one zero) (by unfold maxLen; omega) (by omega) (by have := HC2.out.2.size; simp; omega) ?_; intro v3 w3 hown hgr hnn; have HC3 : Hid (Cp w3 w.heap.size v3 (L ++ [zero])) := (by show World.ownsRow _ _ _ _ _ _ _; rw [flat_app, List.length_append, HN.out]; exact hown); have HB3 : Hid (Below w.heap.size w w3) := (HC2.out.2.alloc HC2.out.2.size _).grown hgr (HC2.out.2.alloc HC2.out.2.size _).size (fun g hg => HC2.out.1.ge g hg); obtain ⟨a3, c3, hv3, _⟩ := HC3.out.shape; have hln : (L ++ [zero]).length = n + 1 := (by rw [List.length_append, HN.out]; rfl); rw [hln] at hv3; subst hv3; clear hown hgr hnn hln))
  exact bodyPost_ret (v := .tuple #[.slice a3 (n + 1) c3, .int .i64 n]) (by simp [results, Tryd.results13, go_sem]) rfl ⟨_, rfl, HC3.out, HB3.out⟩

set_option maxHeartbeats 4000000 in
theorem impl_grant_bad (a : Option Addr) (c : Nat) (L : List Slot) (req cl now : Int) (w : World) (h : Own 35 5 cells w a L) (hl : (L.length : Int) ≤ 1048577) (hc : L.length ≤ c) (HB : Hid (¬ ledOk L)) :
    Calls Tryd.prog 5 #[.agg #[.slice a L.length c], .int .i64 req, .int .i64 cl, .int .i64 now] w (GAns w [] 0 0 false) := by
  have HA : Hid (Own 35 5 cells w a L) := h
  have HLO := fun (W : World) h => impl_ledok a c L false W h hl hc ⟨fun h => (by cases h), fun h => absurd h HB.out⟩
  clear h
  obtain ⟨n, hn⟩ : ∃ n, L.length = n := ⟨_, rfl⟩
  rw [hn] at hl hc HLO ⊢
  clear hn
  go_enter Tryd.func5, Tryd.ntmps5
  go_wp2_with (go_at_call 6; refine (HLO _ (HA.out.below (bel_three _ _ _ _))).mono ?_; rintro e w1 ⟨rfl, b1⟩; have H1 := three b1; have c0 : w1.cell? ⟨w.heap.size, 0, none⟩ = some (.slice a n c) := cellB H1.out.1 0; have d0 : w1.cell? ⟨w.heap.size + 1, 0, none⟩ = some (.slice none 0 0) := cellB H1.out.2.1 0; have f0 := fzB H1.out.2.1 0; have d1 : w1.cell? ⟨w.heap.size + 1 + 1, 0, none⟩ = some (.int .i64 0) := cellB H1.out.2.2.1 0; have f1 := fzB H1.out.2.2.1 0; have d2 : w1.cell? ⟨w.heap.size + 1 + 1, 1, none⟩ = some (.int .i64 0) := cellB H1.out.2.2.1 1; have f2 := fzB H1.out.2.2.1 1; have hz1 : w.heap.size + 1 + 1 < w1.heap.size := H1.out.2.2.2.2; have hz0 : w.heap.size + 1 < w1.heap.size := Nat.lt_of_succ_lt hz1; clear b1)
  refine bodyPost_ret (v := .tuple #[.agg #[.slice none 0 0], .agg #[.int .i64 0, .int .i64 0], .bool false]) (by simp [results, Tryd.results5, go_sem, d0, d1, d2]) rfl ⟨none, 0, rfl, Nat.le_refl _, Or.inl rfl, fun b h => by simp [blkL] at h, ?_⟩
  exact (((H1.out.2.2.2.1).setCell (Nat.le_add_right _ 1) _).setCell (Nat.le_add_right _ 2) _).setCell (Nat.le_add_right _ 2) _
set_option maxHeartbeats 8000000 in
theorem impl_grant_ok (a : Option Addr) (c : Nat) (L L3 : List Slot) (k : Nat) (req cl now G : Int) (B : Bool) (w : World) (h : Own 35 5 cells w a L) (hl : (L.length : Int) ≤ 1048577) (hc : L.length ≤ c) (HK : Hid (ledOk L))
    (HWF : ∀ W, Own 35 5 cells W a L → Calls Tryd.prog 13 #[.slice a L.length c] W (WAns W L3 k)) (hk : k < L3.length) (hl3 : (L3.length : Int) ≤ 1048577) (HG : Hid (L3[k].x0 = G)) (HB : Hid (B = true ↔ ledOk (L3.set k ⟨G, true, req, cl, now⟩))) :
    Calls Tryd.prog 5 #[.agg #[.slice a L.length c], .int .i64 req, .int .i64 cl, .int .i64 now] w (GPost w (L3.set k ⟨G, true, req, cl, now⟩) k G B) := by
  have HA : Hid (Own 35 5 cells w a L) := h
  have HLO := fun (W : World) h => impl_ledok a c L true W h hl hc ⟨fun _ => HK.out, fun _ => rfl⟩
  have hlen : (L3.set k ⟨G, true, req, cl, now⟩).length = L3.length := by simp
  obtain ⟨L4, hL4⟩ : ∃ L4, L3.set k ⟨G, true, req, cl, now⟩ = L4 := ⟨_, rfl⟩
  have HL4 : Hid (L3.set k ⟨G, true, req, cl, now⟩ = L4) := hL4
  rw [hL4] at HB hlen ⊢
  have HLO2 := fun a c (W : World) h hc => impl_ledok a c L4 B W h (by omega) hc HB
  clear h hL4
  obtain ⟨n, hn⟩ : ∃ n, L.length = n := ⟨_, rfl⟩
  rw [hn] at hl hc HLO HWF ⊢
  obtain ⟨n3, hn3⟩ : ∃ n3, L3.length = n3 := ⟨_, rfl⟩
  have HN3 : Hid (L3.length = n3) := hn3
  have HN4 : Hid (L4.length = n3) := by show _ = _; omega
  have hkn : (k : Int) < (n3 : Int) := by omega
  rw [HN4.out] at HLO2
  have HKL : Hid (k < L3.length) := hk
  clear hn hlen hn3
  go_enter Tryd.func5, Tryd.ntmps5
  go_upto_region 6 with (first | (go_at_call 6; refine (HLO _ (HA.out.below (bel_three _ _ _ _))).mono ?_; rintro e w1 ⟨rfl, b1⟩; have H1 := three b1; have c0 : w1.cell? ⟨w.heap.size, 0, none⟩ = some (.slice a n c) := cellB H1.out.1 0; have d0 : w1.cell? ⟨w.heap.size + 1, 0, none⟩ = some (.slice none 0 0) := cellB H1.out.2.1 0; have f0 := fzB H1.out.2.1 0; have d1 : w1.cell? ⟨w.heap.size + 1 + 1, 0, none⟩ = some (.int .i64 0) := cellB H1.out.2.2.1 0; have f1 := fzB H1.out.2.2.1 0; have d2 : w1.cell? ⟨w.heap.size + 1 + 1, 1, none⟩ = some (.int .i64 0) := cellB H1.out.2.2.1 1; have f2 := fzB H1.out.2.2.1 1; have hz1 : w.heap.size + 1 + 1 < w1.heap.size := H1.out.2.2.2.2; have hz0 : w.heap.size + 1 < w1.heap.size := Nat.lt_of_succ_lt hz1; clear b1) | (go_at_call 13; refine (HWF _ (HA.out.below H1.out.2.2.2.1)).mono ?_; clear c0 d0 f0 d1 f1 d2 f2; rintro e w2 ⟨v2, rfl, cp2, b2⟩; obtain ⟨a2, c2, hv2, hc2, hs2⟩ := cp2.shape; rw [HN3.out] at hv2 hc2; subst hv2; obtain ⟨g, o, ha2, hg2, hr2⟩ : ∃ g o, a2 = some ⟨g, o, none⟩ ∧ w1.heap.size ≤ g ∧ Row 35 5 cells w2 g o L3 := shape_row hs2 HKL.out; subst ha2; obtain ⟨sx, hsx⟩ : ∃ s, L3[k]'hk = s := ⟨_, rfl⟩; obtain ⟨x0, x1, x2, x3, x4⟩ := sx; have hG : x0 = G := (by have := HG.out; rw [hsx] at this; exact this); subst hG; have u9 := fun j hj => hr2.cell k hk j hj; rw [hsx] at u9; have p0 : w2.cell? ⟨g, o + k * 5, none⟩ = some (.int .i64 x0) := u9 0 (by omega); have p1 : w2.cell? ⟨g, o + k * 5 + 1, none⟩ = some (.bool x1) := u9 1 (by omega); have p2 : w2.cell? ⟨g, o + k * 5 + 2, none⟩ = some (.int .i64 x2) := u9 2 (by omega); have p3 : w2.cell? ⟨g, o + k * 5 + 3, none⟩ = some (.int .i64 x3) := u9 3 (by omega); have p4 : w2.cell? ⟨g, o + k * 5 + 4, none⟩ = some (.int .i64 x4) := u9 4 (by omega); have z0 := hr2.fz (o + k * 5); have z1 := hr2.fz (o + k * 5 + 1); have z2 := hr2.fz (o + k * 5 + 2); have z3 := hr2.fz (o + k * 5 + 3); have z4 := hr2.fz (o + k * 5 + 4); have HR2 : Hid (Row 35 5 cells w2 g o L3 ∧ w1.heap.size ≤ g ∧ Below w1.heap.size w1 w2) := ⟨hr2, hg2, b2⟩; clear u9 hr2 hg2 b2 cp2 hs2 hsx))
  have M6 : Hid (Row 35 5 cells (((((w2.setCell ⟨g, o + k * 5, none⟩ (.int .i64 x0)).setCell ⟨g, o + k * 5 + 1, none⟩ (.bool true)).setCell ⟨g, o + k * 5 + 2, none⟩ (.int .i64 req)).setCell ⟨g, o + k * 5 + 3, none⟩ (.int .i64 cl)).setCell ⟨g, o + k * 5 + 4, none⟩ (.int .i64 now)) g o L4 ∧ (((((w2.setCell ⟨g, o + k * 5, none⟩ (.int .i64 x0)).setCell ⟨g, o + k * 5 + 1, none⟩ (.bool true)).setCell ⟨g, o + k * 5 + 2, none⟩ (.int .i64 req)).setCell ⟨g, o + k * 5 + 3, none⟩ (.int .i64 cl)).setCell ⟨g, o + k * 5 + 4, none⟩ (.int .i64 now)).heap[w.heap.size + 1]? = some (.cells #[.slice none 0 0] 25 (0, 0)) ∧ (((((w2.setCell ⟨g, o + k * 5, none⟩ (.int .i64 x0)).setCell ⟨g, o + k * 5 + 1, none⟩ (.bool true)).setCell ⟨g, o + k * 5 + 2, none⟩ (.int .i64 req)).setCell ⟨g, o + k * 5 + 3, none⟩ (.int .i64 cl)).setCell ⟨g, o + k * 5 + 4, none⟩ (.int .i64 now)).heap[w.heap.size + 1 + 1]? = some (.cells #[.int .i64 0, .int .i64 0] 28 (0, 0)) ∧ Below w.heap.size w (((((w2.setCell ⟨g, o + k * 5, none⟩ (.int .i64 x0)).setCell ⟨g, o + k * 5 + 1, none⟩ (.bool true)).setCell ⟨g, o + k * 5 + 2, none⟩ (.int .i64 req)).setCell ⟨g, o + k * 5 + 3, none⟩ (.int .i64 cl)).setCell ⟨g, o + k * 5 + 4, none⟩ (.int .i64 now)) ∧ w.heap.size + 1 + 1 < (((((w2.setCell ⟨g, o + k * 5, none⟩ (.int .i64 x0)).setCell ⟨g, o + k * 5 + 1, none⟩ (.bool true)).setCell ⟨g, o + k * 5 + 2, none⟩ (.int .i64 req)).setCell ⟨g, o + k * 5 + 3, none⟩ (.int .i64 cl)).setCell ⟨g, o + k * 5 + 4, none⟩ (.int .i64 now)).heap.size) := by
    have e : (((((w2.setCell ⟨g, o + k * 5, none⟩ (.int .i64 x0)).setCell ⟨g, o + k * 5 + 1, none⟩ (.bool true)).setCell ⟨g, o + k * 5 + 2, none⟩ (.int .i64 req)).setCell ⟨g, o + k * 5 + 3, none⟩ (.int .i64 cl)).setCell ⟨g, o + k * 5 + 4, none⟩ (.int .i64 now)) = sets w2 g (o + k * 5) (cells ⟨x0, true, req, cl, now⟩) := rfl
    rw [e]
    have q := HR2.out
    have hr := row_put q.1 k hk ⟨x0, true, req, cl, now⟩
    rw [HL4.out] at hr
    refine ⟨hr, ?_, ?_, sets_below (by omega) _ _ _ (H1.out.2.2.2.1.trans (q.2.2.mono H1.out.2.2.2.1.size)), by have := hr.lt; omega⟩
    · rw [sets_else (by omega)]; exact (q.2.2.block _ hz0).trans H1.out.2.1
    · rw [sets_else (by omega)]; exact (q.2.2.block _ hz1).trans H1.out.2.2.1
  have HGE : Hid (w.heap.size + 1 + 1 < g) := by have q := HR2.out; show _ < _; omega
  clear p0 p1 p2 p3 p4 z0 z1 z2 z3 z4 HR2 H1 hz1 hz0
  generalize (((((w2.setCell ⟨g, o + k * 5, none⟩ (.int .i64 x0)).setCell ⟨g, o + k * 5 + 1, none⟩ (.bool true)).setCell ⟨g, o + k * 5 + 2, none⟩ (.int .i64 req)).setCell ⟨g, o + k * 5 + 3, none⟩ (.int .i64 cl)).setCell ⟨g, o + k * 5 + 4, none⟩ (.int .i64 now)) = W6 at *
  have d0 : W6.cell? ⟨w.heap.size + 1, 0, none⟩ = some (.slice none 0 0) := cellB M6.out.2.1 0
  have f0 := fzB M6.out.2.1 0
  have d1 : W6.cell? ⟨w.heap.size + 1 + 1, 0, none⟩ = some (.int .i64 0) := cellB M6.out.2.2.1 0
  have f1 := fzB M6.out.2.2.1 0
  have d2 : W6.cell? ⟨w.heap.size + 1 + 1, 1, none⟩ = some (.int .i64 0) := cellB M6.out.2.2.1 1
  have f2 := fzB M6.out.2.2.1 1
  have hy0 : w.heap.size + 1 + 1 < W6.heap.size := M6.out.2.2.2.2
  have HBX : Hid (∀ A : Obj, Below W6.heap.size W6 (W6.alloc A)) := fun A => (Below.refl _ _).alloc (Nat.le_refl _) _
  have hb0 := heap_alloc_new W6 (.cells #[.slice (some ⟨g, o, none⟩) n3 c2] 25)
  have HBE : Hid ((W6.alloc (.cells #[.slice (some ⟨g, o, none⟩) n3 c2] 25)).heap[W6.heap.size]? = some (.cells #[.slice (some ⟨g, o, none⟩) n3 c2] 25 (0, 0))) := hb0
  clear hb0
  cases B with
  | false =>
    go_wp2_with (go_at_call 6; refine (HLO2 _ _ _ (Or.inr ⟨g, o, rfl, M6.out.1.below (HBX.out _)⟩) hc2).mono ?_; clear d0 f0 d1 f1 d2 f2; rintro e w7 ⟨rfl, b7⟩; have b8 : Below W6.heap.size W6 w7 := (HBX.out _).trans (b7.mono (HBX.out _).size); have H7 : Hid (Row 35 5 cells w7 g o L4 ∧ w7.heap[w.heap.size + 1]? = some (.cells #[.slice none 0 0] 25 (0, 0)) ∧ w7.heap[w.heap.size + 1 + 1]? = some (.cells #[.int .i64 0, .int .i64 0] 28 (0, 0)) ∧ Below w.heap.size w w7 ∧ w7.heap[W6.heap.size]? = some (.cells #[.slice (some ⟨g, o, none⟩) n3 c2] 25 (0, 0))) := ⟨M6.out.1.below b8, (b8.block _ (by omega)).trans M6.out.2.1, (b8.block _ (by omega)).trans M6.out.2.2.1, M6.out.2.2.2.1.trans (b8.mono M6.out.2.2.2.1.size), (b7.block _ (by simp)).trans HBE.out⟩; have c7 : w7.cell? ⟨W6.heap.size, 0, none⟩ = some (.slice (some ⟨g, o, none⟩) n3 c2) := cellB H7.out.2.2.2.2 0; have d0 : w7.cell? ⟨w.heap.size + 1, 0, none⟩ = some (.slice none 0 0) := cellB H7.out.2.1 0; have f0 := fzB H7.out.2.1 0; have d1 : w7.cell? ⟨w.heap.size + 1 + 1, 0, none⟩ = some (.int .i64 0) := cellB H7.out.2.2.1 0; have f1 := fzB H7.out.2.2.1 0; have d2 : w7.cell? ⟨w.heap.size + 1 + 1, 1, none⟩ = some (.int .i64 0) := cellB H7.out.2.2.1 1; have f2 := fzB H7.out.2.2.1 1; have hy1 : w.heap.size + 1 + 1 < w7.heap.size := Nat.lt_of_lt_of_le hy0 b8.size; have hy2 : w.heap.size + 1 < w7.heap.size := Nat.lt_of_succ_lt hy1; clear b7 b8)
    refine bodyPost_ret (v := .tuple #[.agg #[.slice none 0 0], .agg #[.int .i64 0, .int .i64 0], .bool false]) (by simp [results, Tryd.results5, go_sem, d0, d1, d2]) rfl ⟨fun _ => ⟨none, 0, rfl, Nat.le_refl _, Or.inl rfl, fun b h => by simp [blkL] at h, ?_⟩, fun h => by cases h⟩
    exact (((H7.out.2.2.2.1).setCell (Nat.le_add_right _ 1) _).setCell (Nat.le_add_right _ 2) _).setCell (Nat.le_add_right _ 2) _
  | true =>
    go_wp2_with (go_at_call 6; refine (HLO2 _ _ _ (Or.inr ⟨g, o, rfl, M6.out.1.below (HBX.out _)⟩) hc2).mono ?_; clear d0 f0 d1 f1 d2 f2; rintro e w7 ⟨rfl, b7⟩; have b8 : Below W6.heap.size W6 w7 := (HBX.out _).trans (b7.mono (HBX.out _).size); have H7 : Hid (Row 35 5 cells w7 g o L4 ∧ w7.heap[w.heap.size + 1]? = some (.cells #[.slice none 0 0] 25 (0, 0)) ∧ w7.heap[w.heap.size + 1 + 1]? = some (.cells #[.int .i64 0, .int .i64 0] 28 (0, 0)) ∧ Below w.heap.size w w7 ∧ w7.heap[W6.heap.size]? = some (.cells #[.slice (some ⟨g, o, none⟩) n3 c2] 25 (0, 0))) := ⟨M6.out.1.below b8, (b8.block _ (by omega)).trans M6.out.2.1, (b8.block _ (by omega)).trans M6.out.2.2.1, M6.out.2.2.2.1.trans (b8.mono M6.out.2.2.2.1.size), (b7.block _ (by simp)).trans HBE.out⟩; have c7 : w7.cell? ⟨W6.heap.size, 0, none⟩ = some (.slice (some ⟨g, o, none⟩) n3 c2) := cellB H7.out.2.2.2.2 0; have d0 : w7.cell? ⟨w.heap.size + 1, 0, none⟩ = some (.slice none 0 0) := cellB H7.out.2.1 0; have f0 := fzB H7.out.2.1 0; have d1 : w7.cell? ⟨w.heap.size + 1 + 1, 0, none⟩ = some (.int .i64 0) := cellB H7.out.2.2.1 0; have f1 := fzB H7.out.2.2.1 0; have d2 : w7.cell? ⟨w.heap.size + 1 + 1, 1, none⟩ = some (.int .i64 0) := cellB H7.out.2.2.1 1; have f2 := fzB H7.out.2.2.1 1; have hy1 : w.heap.size + 1 + 1 < w7.heap.size := Nat.lt_of_lt_of_le hy0 b8.size; have hy2 : w.heap.size + 1 < w7.heap.size := Nat.lt_of_succ_lt hy1; clear b7 b8)
    refine bodyPost_ret (v := .tuple #[.agg #[.slice (some ⟨g, o, none⟩) n3 c2], .agg #[.int .i64 k, .int .i64 x0], .bool true]) (by simp [results, Tryd.results5, go_sem, d0, d1, d2]) rfl ⟨fun h => (by cases h), fun _ => ⟨some ⟨g, o, none⟩, c2, by rw [HN4.out], by rw [HN4.out]; exact hc2, ?_, fun b h => ?_, ?_⟩⟩
    · exact Or.inr ⟨g, o, rfl, (((H7.out.1).set (by show g ≠ w.heap.size + 1; have := HGE.out; omega) _).set (by show g ≠ w.heap.size + 1 + 1; have := HGE.out; omega) _).set (by show g ≠ w.heap.size + 1 + 1; have := HGE.out; omega) _⟩
    · have hg := HGE.out
      cases L4 with
      | nil => simp [blkL] at h
      | cons q L4 => simp [blkL] at h; omega
    · exact (((H7.out.2.2.2.1).setCell (Nat.le_add_right _ 1) _).setCell (Nat.le_add_right _ 2) _).setCell (Nat.le_add_right _ 2) _
end Go.Proofs.YtacpblhajoblmaaDoor.LedGrant
