/- What the model's Grant answers, at every ledger of at most 2 to the 20 slots; nothing else turns. -/
import Derived.Test.YtacpblhajoblmaaDoorRows
import Derived.WalkKit
import Derived.WalkSmall
import Derived.BigQuiet
import Derived.Deep.RegionWith
import Derived.Deep.DeepCutAuto
import Derived.Deep.AppendSrc
import Derived.Laws.AppendOwn
import Derived.Test.YtacpblhajoblmaaDoorListKit
import Derived.Test.YtacpblhajoblmaaDoorSlotKit
import Derived.Test.YtacpblhajoblmaaDoorSlotOks
import Derived.Test.YtacpblhajoblmaaDoorLedFind
import Derived.Test.YtacpblhajoblmaaDoorLedOk
import Derived.Test.YtacpblhajoblmaaDoorLedPermit
import Derived.Test.YtacpblhajoblmaaDoorLedCopy
import Derived.Test.YtacpblhajoblmaaDoorLedGrant
import Derived.Test.YtacpblhajoblmaaDoorLedMath
namespace Go.Proofs.YtacpblhajoblmaaDoor.LedGrantS
open Go.RowKit ListKit SlotKit SlotOks LedFind LedOk LedPermit LedCopy LedGrant LedMath
set_option maxRecDepth 8000
set_option linter.unusedVariables false
set_option linter.unusedSimpArgs false

/-- The boxes of Grant's variables: the ledger, the two answers, the new slot. -/
def Bx (w : World) (a : Option Addr) (n c : Nat) (req cl now : Int) (W : World) : Prop :=
  (W.heap[w.heap.size]? = some (.cells #[.slice a n c] 25 (0, 0)) ∧ W.heap[w.heap.size + 1]? = some (.cells #[.slice none 0 0] 25 (0, 0)) ∧ W.heap[w.heap.size + 1 + 1]? = some (.cells #[.int .i64 0, .int .i64 0] 28 (0, 0)) ∧ W.heap[w.heap.size + 1 + 1 + 1]? = some (.cells #[.int .i64 0, .bool true, .int .i64 req, .int .i64 cl, .int .i64 now] 35 (0, 0))) ∧ Below w.heap.size w W ∧ w.heap.size + 1 + 1 + 1 < W.heap.size
theorem Bx.below {w W W' : World} {a : Option Addr} {n c : Nat} {req cl now : Int} (h : Bx w a n c req cl now W) (hb : Below W.heap.size W W') : Bx w a n c req cl now W' := by
  obtain ⟨⟨h0, h1, h2, h3⟩, hB, hs⟩ := h
  exact ⟨⟨(hb.block _ (by omega)).trans h0, (hb.block _ (by omega)).trans h1, (hb.block _ (by omega)).trans h2, (hb.block _ (by omega)).trans h3⟩, hB.trans (hb.mono hB.size), Nat.lt_of_lt_of_le hs hb.size⟩
theorem four {w w1 : World} {A B C D : Obj} (hb : Below ((((w.alloc A).alloc B).alloc C).alloc D).heap.size ((((w.alloc A).alloc B).alloc C).alloc D) w1) : (w1.heap[w.heap.size]? = some A ∧ w1.heap[w.heap.size + 1]? = some B ∧ w1.heap[w.heap.size + 1 + 1]? = some C ∧ w1.heap[w.heap.size + 1 + 1 + 1]? = some D) ∧ Below w.heap.size w w1 ∧ w.heap.size + 1 + 1 + 1 < w1.heap.size := by
  have hs := hb.size
  simp only [World.size_alloc] at hs
  have h3 := three ((Below.refl (((w.alloc A).alloc B).alloc C).heap.size (((w.alloc A).alloc B).alloc C)))
  have q : ∀ m, m < w.heap.size + 1 + 1 + 1 → w1.heap[m]? = (((w.alloc A).alloc B).alloc C).heap[m]? := fun m hm => (hb.block m (by simp only [World.size_alloc]; omega)).trans (Below.heap_alloc _ _ _ (by simp only [World.size_alloc]; omega))
  refine ⟨⟨(q _ (by omega)).trans h3.out.1, (q _ (by omega)).trans h3.out.2.1, (q _ (by omega)).trans h3.out.2.2.1, ?_⟩, ((bel_three w A B C).alloc (bel_three w A B C).size _).trans (hb.mono (by simp only [World.size_alloc]; omega)), by omega⟩
  rw [hb.block _ (by simp only [World.size_alloc]; omega)]
  have h2 := heap_alloc_new (((w.alloc A).alloc B).alloc C) D
  simp only [World.size_alloc] at h2
  exact h2
theorem bel_four (w : World) (A B C D : Obj) : Below w.heap.size w ((((w.alloc A).alloc B).alloc C).alloc D) := (bel_three w A B C).alloc (bel_three w A B C).size _
theorem cp_row {w : World} {B k : Nat} {a : Option Addr} {n c : Nat} {L : List Slot} (h : Cp w B (.slice a n c) L) (hk : k < L.length) : ∃ g o, a = some ⟨g, o, none⟩ ∧ B ≤ g ∧ Row 35 5 cells w g o L := by
  obtain ⟨a1, c1, hv, _, hs⟩ := h.shape
  injection hv with h1 _ _
  rw [h1]
  exact shape_row hs hk
theorem app_cells (W : World) (t : TypeId) (req cl now : Int) : ∀ j u, (cells ⟨0, true, req, cl, now⟩)[j]? = some u → (W.alloc (.cells #[.int .i64 0, .bool true, .int .i64 req, .int .i64 cl, .int .i64 now] t)).cell? ((⟨W.heap.size, 0, none⟩ : Addr).add j) = some u := fun j u hu => by
  rw [Addr.add_lit]
  have h := cellB (heap_alloc_new W (.cells #[.int .i64 0, .bool true, .int .i64 req, .int .i64 cl, .int .i64 now] t)) (0 + j)
  rw [h, ← hu]
  simp [cells]


set_option maxHeartbeats 8000000 in
theorem spec_grant_bad (a : Option Addr) (c : Nat) (L : List Slot) (req cl now : Int) (P1 G1 : Int) (B1 BB v : Bool) (HP : Hid (Perm L req P1 G1 B1)) (HB : Hid (BB = true ↔ ledOk L)) (HV : Hid (slotOk ⟨0, true, req, cl, now⟩ = v)) (hno : (BB && v && !B1) = false) (w : World) (h : Own 35 5 cells w a L) (hl : (L.length : Int) ≤ 1048576) (hc : L.length ≤ c) :
    Calls Tryd.prog 24 #[.agg #[.slice a L.length c], .int .i64 req, .int .i64 cl, .int .i64 now] w (GAns w [] 0 0 false) := by
  have HA : Hid (Own 35 5 cells w a L) := h
  have HPM := fun (W : World) h => spec_permit a c L req P1 G1 B1 W h (by omega) hc HP
  have HLO := fun (W : World) h => spec_ledok a c L BB W h (by omega) hc HB
  have HCP := fun (W : World) h => spec_copy a c L W h (by omega)
  clear h
  obtain ⟨n, hn⟩ : ∃ n, L.length = n := ⟨_, rfl⟩
  have HN : Hid (L.length = n) := hn
  rw [hn] at hl hc HPM HLO HCP ⊢
  clear hn
  cases BB with
  | false =>
    obtain rfl : B1 = false := by
      rcases HP.out with ⟨h1, _⟩ | ⟨h1, _⟩ | ⟨_, h1, _⟩
      · exact h1
      · exact h1
      · cases HB.out.2 h1
    clear hno
    go_enter Tryd.func24, Tryd.ntmps24
    go_wp2_with (first | (go_at_call 39; refine (HPM _ (HA.out.below (bel_four _ _ _ _ _))).mono ?_; rintro e w1 ⟨rfl, b1⟩; have H1 : Hid (Bx w a n c req cl now w1) := four b1; have H1a : Hid (Bx w a n c req cl now (w1.alloc (.cells #[.int .i64 P1, .int .i64 G1] 28))) := H1.out.below ((Below.refl _ _).alloc (Nat.le_refl _) _); have c0 : w1.cell? ⟨w.heap.size, 0, none⟩ = some (.slice a n c) := cellB H1.out.1.1 0; have d0 : w1.cell? ⟨w.heap.size + 1, 0, none⟩ = some (.slice none 0 0) := cellB H1.out.1.2.1 0; have f0 := fzB H1.out.1.2.1 0; have d1 : w1.cell? ⟨w.heap.size + 1 + 1, 0, none⟩ = some (.int .i64 0) := cellB H1.out.1.2.2.1 0; have f1 := fzB H1.out.1.2.2.1 0; have d2 : w1.cell? ⟨w.heap.size + 1 + 1, 1, none⟩ = some (.int .i64 0) := cellB H1.out.1.2.2.1 1; have f2 := fzB H1.out.1.2.2.1 1; have s0 : w1.cell? ⟨w.heap.size + 1 + 1 + 1, 0, none⟩ = some (.int .i64 0) := cellB H1.out.1.2.2.2 0; have s1 : w1.cell? ⟨w.heap.size + 1 + 1 + 1, 1, none⟩ = some (.bool true) := cellB H1.out.1.2.2.2 1; have s2 : w1.cell? ⟨w.heap.size + 1 + 1 + 1, 2, none⟩ = some (.int .i64 req) := cellB H1.out.1.2.2.2 2; have s3 : w1.cell? ⟨w.heap.size + 1 + 1 + 1, 3, none⟩ = some (.int .i64 cl) := cellB H1.out.1.2.2.2 3; have s4 : w1.cell? ⟨w.heap.size + 1 + 1 + 1, 4, none⟩ = some (.int .i64 now) := cellB H1.out.1.2.2.2 4; have sf0 := fzB H1.out.1.2.2.2 0; have ya3 : w.heap.size + 1 + 1 + 1 < w1.heap.size := H1.out.2.2; have ya2 : w.heap.size + 1 + 1 < w1.heap.size := Nat.lt_of_succ_lt ya3; have ya1 : w.heap.size + 1 < w1.heap.size := Nat.lt_of_succ_lt ya2; have ya0 : w.heap.size < w1.heap.size := Nat.lt_of_succ_lt ya1; clear b1) | (go_at_call 36; refine (HLO _ (HA.out.below H1a.out.2.1)).mono ?_; clear c0 d0 f0 d1 f1 d2 f2 s0 s1 s2 s3 s4 sf0; rintro e w2 ⟨rfl, b2⟩; have H2 : Hid (Bx w a n c req cl now w2) := H1a.out.below b2; have c0 : w2.cell? ⟨w.heap.size, 0, none⟩ = some (.slice a n c) := cellB H2.out.1.1 0; have d0 : w2.cell? ⟨w.heap.size + 1, 0, none⟩ = some (.slice none 0 0) := cellB H2.out.1.2.1 0; have f0 := fzB H2.out.1.2.1 0; have d1 : w2.cell? ⟨w.heap.size + 1 + 1, 0, none⟩ = some (.int .i64 0) := cellB H2.out.1.2.2.1 0; have f1 := fzB H2.out.1.2.2.1 0; have d2 : w2.cell? ⟨w.heap.size + 1 + 1, 1, none⟩ = some (.int .i64 0) := cellB H2.out.1.2.2.1 1; have f2 := fzB H2.out.1.2.2.1 1; have s0 : w2.cell? ⟨w.heap.size + 1 + 1 + 1, 0, none⟩ = some (.int .i64 0) := cellB H2.out.1.2.2.2 0; have s1 : w2.cell? ⟨w.heap.size + 1 + 1 + 1, 1, none⟩ = some (.bool true) := cellB H2.out.1.2.2.2 1; have s2 : w2.cell? ⟨w.heap.size + 1 + 1 + 1, 2, none⟩ = some (.int .i64 req) := cellB H2.out.1.2.2.2 2; have s3 : w2.cell? ⟨w.heap.size + 1 + 1 + 1, 3, none⟩ = some (.int .i64 cl) := cellB H2.out.1.2.2.2 3; have s4 : w2.cell? ⟨w.heap.size + 1 + 1 + 1, 4, none⟩ = some (.int .i64 now) := cellB H2.out.1.2.2.2 4; have sf0 := fzB H2.out.1.2.2.2 0; have yb3 : w.heap.size + 1 + 1 + 1 < w2.heap.size := H2.out.2.2; have yb2 : w.heap.size + 1 + 1 < w2.heap.size := Nat.lt_of_succ_lt yb3; have yb1 : w.heap.size + 1 < w2.heap.size := Nat.lt_of_succ_lt yb2; have yb0 : w.heap.size < w2.heap.size := Nat.lt_of_succ_lt yb1; clear b2))
    refine bodyPost_ret (v := .tuple #[.agg #[.slice none 0 0], .agg #[.int .i64 0, .int .i64 0], .bool false]) (by simp [results, Tryd.results24, go_sem, d0, d1, d2]) rfl ⟨none, 0, rfl, Nat.le_refl _, Or.inl rfl, fun b h => by simp [blkL] at h, ?_⟩
    first | exact (((H2.out.2.1).setCell (Nat.le_add_right _ 1) _).setCell (Nat.le_add_right _ 2) _).setCell (Nat.le_add_right _ 2) _
  | true =>
    cases v with
    | false =>
      clear hno
      go_enter Tryd.func24, Tryd.ntmps24
      go_wp2_with (first | (go_at_call 39; refine (HPM _ (HA.out.below (bel_four _ _ _ _ _))).mono ?_; rintro e w1 ⟨rfl, b1⟩; have H1 : Hid (Bx w a n c req cl now w1) := four b1; have H1a : Hid (Bx w a n c req cl now (w1.alloc (.cells #[.int .i64 P1, .int .i64 G1] 28))) := H1.out.below ((Below.refl _ _).alloc (Nat.le_refl _) _); have c0 : w1.cell? ⟨w.heap.size, 0, none⟩ = some (.slice a n c) := cellB H1.out.1.1 0; have d0 : w1.cell? ⟨w.heap.size + 1, 0, none⟩ = some (.slice none 0 0) := cellB H1.out.1.2.1 0; have f0 := fzB H1.out.1.2.1 0; have d1 : w1.cell? ⟨w.heap.size + 1 + 1, 0, none⟩ = some (.int .i64 0) := cellB H1.out.1.2.2.1 0; have f1 := fzB H1.out.1.2.2.1 0; have d2 : w1.cell? ⟨w.heap.size + 1 + 1, 1, none⟩ = some (.int .i64 0) := cellB H1.out.1.2.2.1 1; have f2 := fzB H1.out.1.2.2.1 1; have s0 : w1.cell? ⟨w.heap.size + 1 + 1 + 1, 0, none⟩ = some (.int .i64 0) := cellB H1.out.1.2.2.2 0; have s1 : w1.cell? ⟨w.heap.size + 1 + 1 + 1, 1, none⟩ = some (.bool true) := cellB H1.out.1.2.2.2 1; have s2 : w1.cell? ⟨w.heap.size + 1 + 1 + 1, 2, none⟩ = some (.int .i64 req) := cellB H1.out.1.2.2.2 2; have s3 : w1.cell? ⟨w.heap.size + 1 + 1 + 1, 3, none⟩ = some (.int .i64 cl) := cellB H1.out.1.2.2.2 3; have s4 : w1.cell? ⟨w.heap.size + 1 + 1 + 1, 4, none⟩ = some (.int .i64 now) := cellB H1.out.1.2.2.2 4; have sf0 := fzB H1.out.1.2.2.2 0; have ya3 : w.heap.size + 1 + 1 + 1 < w1.heap.size := H1.out.2.2; have ya2 : w.heap.size + 1 + 1 < w1.heap.size := Nat.lt_of_succ_lt ya3; have ya1 : w.heap.size + 1 < w1.heap.size := Nat.lt_of_succ_lt ya2; have ya0 : w.heap.size < w1.heap.size := Nat.lt_of_succ_lt ya1; clear b1) | (go_at_call 36; refine (HLO _ (HA.out.below H1a.out.2.1)).mono ?_; clear c0 d0 f0 d1 f1 d2 f2 s0 s1 s2 s3 s4 sf0; rintro e w2 ⟨rfl, b2⟩; have H2 : Hid (Bx w a n c req cl now w2) := H1a.out.below b2; have c0 : w2.cell? ⟨w.heap.size, 0, none⟩ = some (.slice a n c) := cellB H2.out.1.1 0; have d0 : w2.cell? ⟨w.heap.size + 1, 0, none⟩ = some (.slice none 0 0) := cellB H2.out.1.2.1 0; have f0 := fzB H2.out.1.2.1 0; have d1 : w2.cell? ⟨w.heap.size + 1 + 1, 0, none⟩ = some (.int .i64 0) := cellB H2.out.1.2.2.1 0; have f1 := fzB H2.out.1.2.2.1 0; have d2 : w2.cell? ⟨w.heap.size + 1 + 1, 1, none⟩ = some (.int .i64 0) := cellB H2.out.1.2.2.1 1; have f2 := fzB H2.out.1.2.2.1 1; have s0 : w2.cell? ⟨w.heap.size + 1 + 1 + 1, 0, none⟩ = some (.int .i64 0) := cellB H2.out.1.2.2.2 0; have s1 : w2.cell? ⟨w.heap.size + 1 + 1 + 1, 1, none⟩ = some (.bool true) := cellB H2.out.1.2.2.2 1; have s2 : w2.cell? ⟨w.heap.size + 1 + 1 + 1, 2, none⟩ = some (.int .i64 req) := cellB H2.out.1.2.2.2 2; have s3 : w2.cell? ⟨w.heap.size + 1 + 1 + 1, 3, none⟩ = some (.int .i64 cl) := cellB H2.out.1.2.2.2 3; have s4 : w2.cell? ⟨w.heap.size + 1 + 1 + 1, 4, none⟩ = some (.int .i64 now) := cellB H2.out.1.2.2.2 4; have sf0 := fzB H2.out.1.2.2.2 0; have yb3 : w.heap.size + 1 + 1 + 1 < w2.heap.size := H2.out.2.2; have yb2 : w.heap.size + 1 + 1 < w2.heap.size := Nat.lt_of_succ_lt yb3; have yb1 : w.heap.size + 1 < w2.heap.size := Nat.lt_of_succ_lt yb2; have yb0 : w.heap.size < w2.heap.size := Nat.lt_of_succ_lt yb1; clear b2) | (go_at_call 40; refine (spec_slot 0 true req cl now _ _ HV).mono ?_; clear c0 d0 f0 d1 f1 d2 f2 s0 s1 s2 s3 s4 sf0; rintro e w3 ⟨rfl, b3⟩; have H3 : Hid (Bx w a n c req cl now w3) := H2.out.below b3; have c0 : w3.cell? ⟨w.heap.size, 0, none⟩ = some (.slice a n c) := cellB H3.out.1.1 0; have d0 : w3.cell? ⟨w.heap.size + 1, 0, none⟩ = some (.slice none 0 0) := cellB H3.out.1.2.1 0; have f0 := fzB H3.out.1.2.1 0; have d1 : w3.cell? ⟨w.heap.size + 1 + 1, 0, none⟩ = some (.int .i64 0) := cellB H3.out.1.2.2.1 0; have f1 := fzB H3.out.1.2.2.1 0; have d2 : w3.cell? ⟨w.heap.size + 1 + 1, 1, none⟩ = some (.int .i64 0) := cellB H3.out.1.2.2.1 1; have f2 := fzB H3.out.1.2.2.1 1; have s0 : w3.cell? ⟨w.heap.size + 1 + 1 + 1, 0, none⟩ = some (.int .i64 0) := cellB H3.out.1.2.2.2 0; have s1 : w3.cell? ⟨w.heap.size + 1 + 1 + 1, 1, none⟩ = some (.bool true) := cellB H3.out.1.2.2.2 1; have s2 : w3.cell? ⟨w.heap.size + 1 + 1 + 1, 2, none⟩ = some (.int .i64 req) := cellB H3.out.1.2.2.2 2; have s3 : w3.cell? ⟨w.heap.size + 1 + 1 + 1, 3, none⟩ = some (.int .i64 cl) := cellB H3.out.1.2.2.2 3; have s4 : w3.cell? ⟨w.heap.size + 1 + 1 + 1, 4, none⟩ = some (.int .i64 now) := cellB H3.out.1.2.2.2 4; have sf0 := fzB H3.out.1.2.2.2 0; have yc3 : w.heap.size + 1 + 1 + 1 < w3.heap.size := H3.out.2.2; have yc2 : w.heap.size + 1 + 1 < w3.heap.size := Nat.lt_of_succ_lt yc3; have yc1 : w.heap.size + 1 < w3.heap.size := Nat.lt_of_succ_lt yc2; have yc0 : w.heap.size < w3.heap.size := Nat.lt_of_succ_lt yc1; clear b3))
      refine bodyPost_ret (v := .tuple #[.agg #[.slice none 0 0], .agg #[.int .i64 0, .int .i64 0], .bool false]) (by simp [results, Tryd.results24, go_sem, d0, d1, d2]) rfl ⟨none, 0, rfl, Nat.le_refl _, Or.inl rfl, fun b h => by simp [blkL] at h, ?_⟩
      first | exact (((H3.out.2.1).setCell (Nat.le_add_right _ 1) _).setCell (Nat.le_add_right _ 2) _).setCell (Nat.le_add_right _ 2) _
    | true =>
      cases B1 with
      | false => cases hno
      | true =>
        clear hno
        go_enter Tryd.func24, Tryd.ntmps24
        go_wp2_with (first | (go_at_call 39; refine (HPM _ (HA.out.below (bel_four _ _ _ _ _))).mono ?_; rintro e w1 ⟨rfl, b1⟩; have H1 : Hid (Bx w a n c req cl now w1) := four b1; have H1a : Hid (Bx w a n c req cl now (w1.alloc (.cells #[.int .i64 P1, .int .i64 G1] 28))) := H1.out.below ((Below.refl _ _).alloc (Nat.le_refl _) _); have c0 : w1.cell? ⟨w.heap.size, 0, none⟩ = some (.slice a n c) := cellB H1.out.1.1 0; have d0 : w1.cell? ⟨w.heap.size + 1, 0, none⟩ = some (.slice none 0 0) := cellB H1.out.1.2.1 0; have f0 := fzB H1.out.1.2.1 0; have d1 : w1.cell? ⟨w.heap.size + 1 + 1, 0, none⟩ = some (.int .i64 0) := cellB H1.out.1.2.2.1 0; have f1 := fzB H1.out.1.2.2.1 0; have d2 : w1.cell? ⟨w.heap.size + 1 + 1, 1, none⟩ = some (.int .i64 0) := cellB H1.out.1.2.2.1 1; have f2 := fzB H1.out.1.2.2.1 1; have s0 : w1.cell? ⟨w.heap.size + 1 + 1 + 1, 0, none⟩ = some (.int .i64 0) := cellB H1.out.1.2.2.2 0; have s1 : w1.cell? ⟨w.heap.size + 1 + 1 + 1, 1, none⟩ = some (.bool true) := cellB H1.out.1.2.2.2 1; have s2 : w1.cell? ⟨w.heap.size + 1 + 1 + 1, 2, none⟩ = some (.int .i64 req) := cellB H1.out.1.2.2.2 2; have s3 : w1.cell? ⟨w.heap.size + 1 + 1 + 1, 3, none⟩ = some (.int .i64 cl) := cellB H1.out.1.2.2.2 3; have s4 : w1.cell? ⟨w.heap.size + 1 + 1 + 1, 4, none⟩ = some (.int .i64 now) := cellB H1.out.1.2.2.2 4; have sf0 := fzB H1.out.1.2.2.2 0; have ya3 : w.heap.size + 1 + 1 + 1 < w1.heap.size := H1.out.2.2; have ya2 : w.heap.size + 1 + 1 < w1.heap.size := Nat.lt_of_succ_lt ya3; have ya1 : w.heap.size + 1 < w1.heap.size := Nat.lt_of_succ_lt ya2; have ya0 : w.heap.size < w1.heap.size := Nat.lt_of_succ_lt ya1; clear b1) | (go_at_call 36; refine (HLO _ (HA.out.below H1a.out.2.1)).mono ?_; clear c0 d0 f0 d1 f1 d2 f2 s0 s1 s2 s3 s4 sf0; rintro e w2 ⟨rfl, b2⟩; have H2 : Hid (Bx w a n c req cl now w2) := H1a.out.below b2; have c0 : w2.cell? ⟨w.heap.size, 0, none⟩ = some (.slice a n c) := cellB H2.out.1.1 0; have d0 : w2.cell? ⟨w.heap.size + 1, 0, none⟩ = some (.slice none 0 0) := cellB H2.out.1.2.1 0; have f0 := fzB H2.out.1.2.1 0; have d1 : w2.cell? ⟨w.heap.size + 1 + 1, 0, none⟩ = some (.int .i64 0) := cellB H2.out.1.2.2.1 0; have f1 := fzB H2.out.1.2.2.1 0; have d2 : w2.cell? ⟨w.heap.size + 1 + 1, 1, none⟩ = some (.int .i64 0) := cellB H2.out.1.2.2.1 1; have f2 := fzB H2.out.1.2.2.1 1; have s0 : w2.cell? ⟨w.heap.size + 1 + 1 + 1, 0, none⟩ = some (.int .i64 0) := cellB H2.out.1.2.2.2 0; have s1 : w2.cell? ⟨w.heap.size + 1 + 1 + 1, 1, none⟩ = some (.bool true) := cellB H2.out.1.2.2.2 1; have s2 : w2.cell? ⟨w.heap.size + 1 + 1 + 1, 2, none⟩ = some (.int .i64 req) := cellB H2.out.1.2.2.2 2; have s3 : w2.cell? ⟨w.heap.size + 1 + 1 + 1, 3, none⟩ = some (.int .i64 cl) := cellB H2.out.1.2.2.2 3; have s4 : w2.cell? ⟨w.heap.size + 1 + 1 + 1, 4, none⟩ = some (.int .i64 now) := cellB H2.out.1.2.2.2 4; have sf0 := fzB H2.out.1.2.2.2 0; have yb3 : w.heap.size + 1 + 1 + 1 < w2.heap.size := H2.out.2.2; have yb2 : w.heap.size + 1 + 1 < w2.heap.size := Nat.lt_of_succ_lt yb3; have yb1 : w.heap.size + 1 < w2.heap.size := Nat.lt_of_succ_lt yb2; have yb0 : w.heap.size < w2.heap.size := Nat.lt_of_succ_lt yb1; clear b2) | (go_at_call 40; refine (spec_slot 0 true req cl now _ _ HV).mono ?_; clear c0 d0 f0 d1 f1 d2 f2 s0 s1 s2 s3 s4 sf0; rintro e w3 ⟨rfl, b3⟩; have H3 : Hid (Bx w a n c req cl now w3) := H2.out.below b3; have c0 : w3.cell? ⟨w.heap.size, 0, none⟩ = some (.slice a n c) := cellB H3.out.1.1 0; have d0 : w3.cell? ⟨w.heap.size + 1, 0, none⟩ = some (.slice none 0 0) := cellB H3.out.1.2.1 0; have f0 := fzB H3.out.1.2.1 0; have d1 : w3.cell? ⟨w.heap.size + 1 + 1, 0, none⟩ = some (.int .i64 0) := cellB H3.out.1.2.2.1 0; have f1 := fzB H3.out.1.2.2.1 0; have d2 : w3.cell? ⟨w.heap.size + 1 + 1, 1, none⟩ = some (.int .i64 0) := cellB H3.out.1.2.2.1 1; have f2 := fzB H3.out.1.2.2.1 1; have s0 : w3.cell? ⟨w.heap.size + 1 + 1 + 1, 0, none⟩ = some (.int .i64 0) := cellB H3.out.1.2.2.2 0; have s1 : w3.cell? ⟨w.heap.size + 1 + 1 + 1, 1, none⟩ = some (.bool true) := cellB H3.out.1.2.2.2 1; have s2 : w3.cell? ⟨w.heap.size + 1 + 1 + 1, 2, none⟩ = some (.int .i64 req) := cellB H3.out.1.2.2.2 2; have s3 : w3.cell? ⟨w.heap.size + 1 + 1 + 1, 3, none⟩ = some (.int .i64 cl) := cellB H3.out.1.2.2.2 3; have s4 : w3.cell? ⟨w.heap.size + 1 + 1 + 1, 4, none⟩ = some (.int .i64 now) := cellB H3.out.1.2.2.2 4; have sf0 := fzB H3.out.1.2.2.2 0; have yc3 : w.heap.size + 1 + 1 + 1 < w3.heap.size := H3.out.2.2; have yc2 : w.heap.size + 1 + 1 < w3.heap.size := Nat.lt_of_succ_lt yc3; have yc1 : w.heap.size + 1 < w3.heap.size := Nat.lt_of_succ_lt yc2; have yc0 : w.heap.size < w3.heap.size := Nat.lt_of_succ_lt yc1; clear b3))
        refine bodyPost_ret (v := .tuple #[.agg #[.slice none 0 0], .agg #[.int .i64 0, .int .i64 0], .bool false]) (by simp [results, Tryd.results24, go_sem, d0, d1, d2]) rfl ⟨none, 0, rfl, Nat.le_refl _, Or.inl rfl, fun b h => by simp [blkL] at h, ?_⟩
        first | exact (((H3.out.2.1).setCell (Nat.le_add_right _ 1) _).setCell (Nat.le_add_right _ 2) _).setCell (Nat.le_add_right _ 2) _

set_option maxHeartbeats 8000000 in
theorem spec_grant_ok (a : Option Addr) (c : Nat) (L : List Slot) (req cl now : Int) (P1 G1 : Int) (HP : Hid (Perm L req P1 G1 false)) (HB : Hid (true = true ↔ ledOk L)) (HV : Hid (slotOk ⟨0, true, req, cl, now⟩ = true)) (L2 : List Slot) (P G : Int) (B : Bool) (HGR : Hid (Gr L req cl now L2 P G B)) (w : World) (h : Own 35 5 cells w a L) (hl : (L.length : Int) ≤ 1048576) (hc : L.length ≤ c) :
    Calls Tryd.prog 24 #[.agg #[.slice a L.length c], .int .i64 req, .int .i64 cl, .int .i64 now] w (GAns w L2 P G B) := by
  have HA : Hid (Own 35 5 cells w a L) := h
  have HPM := fun (W : World) h => spec_permit a c L req P1 G1 false W h (by omega) hc HP
  have HLO := fun (W : World) h => spec_ledok a c L true W h (by omega) hc HB
  have HCP := fun (W : World) h => spec_copy a c L W h (by omega)
  clear h
  obtain ⟨n, hn⟩ : ∃ n, L.length = n := ⟨_, rfl⟩
  have HN : Hid (L.length = n) := hn
  rw [hn] at hl hc HPM HLO HCP ⊢
  clear hn
  have HCAN : Hid (can L req cl now) := ⟨HB.out.1 rfl, HV.out, by
    rcases HP.out with ⟨_, _, _, h4⟩ | ⟨_, _, _, _, h5⟩ | ⟨h1, _⟩
    · exact absurd (HB.out.1 rfl) h4
    · exact h5
    · cases h1⟩
  go_enter Tryd.func24, Tryd.ntmps24
  go_wp2_with (first | (go_at_call 39; refine (HPM _ (HA.out.below (bel_four _ _ _ _ _))).mono ?_; rintro e w1 ⟨rfl, b1⟩; have H1 : Hid (Bx w a n c req cl now w1) := four b1; have H1a : Hid (Bx w a n c req cl now (w1.alloc (.cells #[.int .i64 P1, .int .i64 G1] 28))) := H1.out.below ((Below.refl _ _).alloc (Nat.le_refl _) _); have c0 : w1.cell? ⟨w.heap.size, 0, none⟩ = some (.slice a n c) := cellB H1.out.1.1 0; have d0 : w1.cell? ⟨w.heap.size + 1, 0, none⟩ = some (.slice none 0 0) := cellB H1.out.1.2.1 0; have f0 := fzB H1.out.1.2.1 0; have d1 : w1.cell? ⟨w.heap.size + 1 + 1, 0, none⟩ = some (.int .i64 0) := cellB H1.out.1.2.2.1 0; have f1 := fzB H1.out.1.2.2.1 0; have d2 : w1.cell? ⟨w.heap.size + 1 + 1, 1, none⟩ = some (.int .i64 0) := cellB H1.out.1.2.2.1 1; have f2 := fzB H1.out.1.2.2.1 1; have s0 : w1.cell? ⟨w.heap.size + 1 + 1 + 1, 0, none⟩ = some (.int .i64 0) := cellB H1.out.1.2.2.2 0; have s1 : w1.cell? ⟨w.heap.size + 1 + 1 + 1, 1, none⟩ = some (.bool true) := cellB H1.out.1.2.2.2 1; have s2 : w1.cell? ⟨w.heap.size + 1 + 1 + 1, 2, none⟩ = some (.int .i64 req) := cellB H1.out.1.2.2.2 2; have s3 : w1.cell? ⟨w.heap.size + 1 + 1 + 1, 3, none⟩ = some (.int .i64 cl) := cellB H1.out.1.2.2.2 3; have s4 : w1.cell? ⟨w.heap.size + 1 + 1 + 1, 4, none⟩ = some (.int .i64 now) := cellB H1.out.1.2.2.2 4; have sf0 := fzB H1.out.1.2.2.2 0; have ya3 : w.heap.size + 1 + 1 + 1 < w1.heap.size := H1.out.2.2; have ya2 : w.heap.size + 1 + 1 < w1.heap.size := Nat.lt_of_succ_lt ya3; have ya1 : w.heap.size + 1 < w1.heap.size := Nat.lt_of_succ_lt ya2; have ya0 : w.heap.size < w1.heap.size := Nat.lt_of_succ_lt ya1; clear b1) | (go_at_call 36; refine (HLO _ (HA.out.below H1a.out.2.1)).mono ?_; clear c0 d0 f0 d1 f1 d2 f2 s0 s1 s2 s3 s4 sf0; rintro e w2 ⟨rfl, b2⟩; have H2 : Hid (Bx w a n c req cl now w2) := H1a.out.below b2; have c0 : w2.cell? ⟨w.heap.size, 0, none⟩ = some (.slice a n c) := cellB H2.out.1.1 0; have d0 : w2.cell? ⟨w.heap.size + 1, 0, none⟩ = some (.slice none 0 0) := cellB H2.out.1.2.1 0; have f0 := fzB H2.out.1.2.1 0; have d1 : w2.cell? ⟨w.heap.size + 1 + 1, 0, none⟩ = some (.int .i64 0) := cellB H2.out.1.2.2.1 0; have f1 := fzB H2.out.1.2.2.1 0; have d2 : w2.cell? ⟨w.heap.size + 1 + 1, 1, none⟩ = some (.int .i64 0) := cellB H2.out.1.2.2.1 1; have f2 := fzB H2.out.1.2.2.1 1; have s0 : w2.cell? ⟨w.heap.size + 1 + 1 + 1, 0, none⟩ = some (.int .i64 0) := cellB H2.out.1.2.2.2 0; have s1 : w2.cell? ⟨w.heap.size + 1 + 1 + 1, 1, none⟩ = some (.bool true) := cellB H2.out.1.2.2.2 1; have s2 : w2.cell? ⟨w.heap.size + 1 + 1 + 1, 2, none⟩ = some (.int .i64 req) := cellB H2.out.1.2.2.2 2; have s3 : w2.cell? ⟨w.heap.size + 1 + 1 + 1, 3, none⟩ = some (.int .i64 cl) := cellB H2.out.1.2.2.2 3; have s4 : w2.cell? ⟨w.heap.size + 1 + 1 + 1, 4, none⟩ = some (.int .i64 now) := cellB H2.out.1.2.2.2 4; have sf0 := fzB H2.out.1.2.2.2 0; have yb3 : w.heap.size + 1 + 1 + 1 < w2.heap.size := H2.out.2.2; have yb2 : w.heap.size + 1 + 1 < w2.heap.size := Nat.lt_of_succ_lt yb3; have yb1 : w.heap.size + 1 < w2.heap.size := Nat.lt_of_succ_lt yb2; have yb0 : w.heap.size < w2.heap.size := Nat.lt_of_succ_lt yb1; clear b2) | (go_at_call 40; refine (spec_slot 0 true req cl now _ _ HV).mono ?_; clear c0 d0 f0 d1 f1 d2 f2 s0 s1 s2 s3 s4 sf0; rintro e w3 ⟨rfl, b3⟩; have H3 : Hid (Bx w a n c req cl now w3) := H2.out.below b3; have c0 : w3.cell? ⟨w.heap.size, 0, none⟩ = some (.slice a n c) := cellB H3.out.1.1 0; have d0 : w3.cell? ⟨w.heap.size + 1, 0, none⟩ = some (.slice none 0 0) := cellB H3.out.1.2.1 0; have f0 := fzB H3.out.1.2.1 0; have d1 : w3.cell? ⟨w.heap.size + 1 + 1, 0, none⟩ = some (.int .i64 0) := cellB H3.out.1.2.2.1 0; have f1 := fzB H3.out.1.2.2.1 0; have d2 : w3.cell? ⟨w.heap.size + 1 + 1, 1, none⟩ = some (.int .i64 0) := cellB H3.out.1.2.2.1 1; have f2 := fzB H3.out.1.2.2.1 1; have s0 : w3.cell? ⟨w.heap.size + 1 + 1 + 1, 0, none⟩ = some (.int .i64 0) := cellB H3.out.1.2.2.2 0; have s1 : w3.cell? ⟨w.heap.size + 1 + 1 + 1, 1, none⟩ = some (.bool true) := cellB H3.out.1.2.2.2 1; have s2 : w3.cell? ⟨w.heap.size + 1 + 1 + 1, 2, none⟩ = some (.int .i64 req) := cellB H3.out.1.2.2.2 2; have s3 : w3.cell? ⟨w.heap.size + 1 + 1 + 1, 3, none⟩ = some (.int .i64 cl) := cellB H3.out.1.2.2.2 3; have s4 : w3.cell? ⟨w.heap.size + 1 + 1 + 1, 4, none⟩ = some (.int .i64 now) := cellB H3.out.1.2.2.2 4; have sf0 := fzB H3.out.1.2.2.2 0; have yc3 : w.heap.size + 1 + 1 + 1 < w3.heap.size := H3.out.2.2; have yc2 : w.heap.size + 1 + 1 < w3.heap.size := Nat.lt_of_succ_lt yc3; have yc1 : w.heap.size + 1 < w3.heap.size := Nat.lt_of_succ_lt yc2; have yc0 : w.heap.size < w3.heap.size := Nat.lt_of_succ_lt yc1; clear b3) | (go_at_call 37; refine (HCP _ (HA.out.below H3.out.2.1)).mono ?_; clear c0 d0 f0 d1 f1 d2 f2 s0 s1 s2 s3 s4 sf0; rintro e w4 ⟨v4, rfl, cp4, b4⟩; have H4 : Hid (Bx w a n c req cl now w4 ∧ Cp w4 w3.heap.size v4 L) := ⟨H3.out.below b4, cp4⟩; have HB34 : Hid (w3.heap.size ≤ w4.heap.size) := b4.size; obtain ⟨a4, c4, hv4, hc4, hs4⟩ := cp4.shape; rw [HN.out] at hv4 hc4; subst hv4; have c0 : w4.cell? ⟨w.heap.size, 0, none⟩ = some (.slice a n c) := cellB H4.out.1.1.1 0; have d0 : w4.cell? ⟨w.heap.size + 1, 0, none⟩ = some (.slice none 0 0) := cellB H4.out.1.1.2.1 0; have f0 := fzB H4.out.1.1.2.1 0; have d1 : w4.cell? ⟨w.heap.size + 1 + 1, 0, none⟩ = some (.int .i64 0) := cellB H4.out.1.1.2.2.1 0; have f1 := fzB H4.out.1.1.2.2.1 0; have d2 : w4.cell? ⟨w.heap.size + 1 + 1, 1, none⟩ = some (.int .i64 0) := cellB H4.out.1.1.2.2.1 1; have f2 := fzB H4.out.1.1.2.2.1 1; have s0 : w4.cell? ⟨w.heap.size + 1 + 1 + 1, 0, none⟩ = some (.int .i64 0) := cellB H4.out.1.1.2.2.2 0; have s1 : w4.cell? ⟨w.heap.size + 1 + 1 + 1, 1, none⟩ = some (.bool true) := cellB H4.out.1.1.2.2.2 1; have s2 : w4.cell? ⟨w.heap.size + 1 + 1 + 1, 2, none⟩ = some (.int .i64 req) := cellB H4.out.1.1.2.2.2 2; have s3 : w4.cell? ⟨w.heap.size + 1 + 1 + 1, 3, none⟩ = some (.int .i64 cl) := cellB H4.out.1.1.2.2.2 3; have s4 : w4.cell? ⟨w.heap.size + 1 + 1 + 1, 4, none⟩ = some (.int .i64 now) := cellB H4.out.1.1.2.2.2 4; have sf0 := fzB H4.out.1.1.2.2.2 0; have yd3 : w.heap.size + 1 + 1 + 1 < w4.heap.size := H4.out.1.2.2; have yd2 : w.heap.size + 1 + 1 < w4.heap.size := Nat.lt_of_succ_lt yd3; have yd1 : w.heap.size + 1 < w4.heap.size := Nat.lt_of_succ_lt yd2; have yd0 : w.heap.size < w4.heap.size := Nat.lt_of_succ_lt yd1; clear b4 cp4 hs4))
  have M5 : Hid (Bx w a n c req cl now (w4.alloc (.cells #[.slice a4 n c4] 25)) ∧ (w4.alloc (.cells #[.slice a4 n c4] 25)).heap[w4.heap.size]? = some (.cells #[.slice a4 n c4] 25 (0, 0)) ∧ Cp (w4.alloc (.cells #[.slice a4 n c4] 25)) w3.heap.size (.slice a4 n c4) L ∧ w.heap.size + 1 + 1 + 1 < w4.heap.size ∧ w4.heap.size < (w4.alloc (.cells #[.slice a4 n c4] 25)).heap.size ∧ w.heap.size + 1 + 1 + 1 < w3.heap.size ∧ ∀ g, (Value.slice a4 n c4).ownBlock = some g → g < w4.heap.size) := ⟨H4.out.1.below ((Below.refl _ _).alloc (Nat.le_refl _) _), heap_alloc_new w4 _, H4.out.2.below ((Below.refl _ _).alloc (Nat.le_refl _) _), yd3, by simp, yc3, H4.out.2.lt⟩
  clear c0 d0 f0 d1 f1 d2 f2 s0 s1 s2 s3 s4 sf0 H1 H1a H2 H3 H4 ya0 ya1 ya2 ya3 yb0 yb1 yb2 yb3 yc0 yc1 yc2 yc3 yd0 yd1 yd2 yd3
  have HW34 : Hid (w3.heap.size ≤ w4.heap.size) := HB34.out
  obtain ⟨N4, hN4⟩ : ∃ N4, w4.heap.size = N4 := ⟨_, rfl⟩
  rw [hN4] at HW34
  generalize (w4.alloc (.cells #[.slice a4 n c4] 25)) = w5 at *
  rw [hN4] at M5 ⊢
  go_loopw [45] (fun i wr => ∃ k : Nat, k ≤ n ∧ i = .int .i64 k ∧ Hid (∀ (j : Nat) (h : j < L.length), j < k → isFree L[j] = false) ∧ Hid (Below w5.heap.size w5 wr)) (fun i _ => n - (intOf i).toNat)
  case atStart => exact ⟨0, by omega, rfl, fun j _ hj => by omega, Below.refl _ _⟩
  case round =>
    obtain ⟨k, hk, rfl, HK, HW⟩ := hrel
    have MR : Hid (Bx w a n c req cl now wr ∧ wr.heap[N4]? = some (.cells #[.slice a4 n c4] 25 (0, 0)) ∧ Cp wr w3.heap.size (.slice a4 n c4) L ∧ N4 < wr.heap.size) := ⟨M5.out.1.below HW.out, (HW.out.block _ M5.out.2.2.2.2.1).trans M5.out.2.1, M5.out.2.2.1.below HW.out, Nat.lt_of_lt_of_le M5.out.2.2.2.2.1 HW.out.size⟩
    by_cases hlt : k < n
    · have hlt2 : k < L.length := by rw [HN.out]; exact hlt
      rcases HA.out with hnil | ⟨g, o, rfl, hr⟩
      · rw [hnil] at hlt2; simp at hlt2
      · have hr1 : Row 35 5 cells wr g o L := hr.below MR.out.1.2.1
        obtain ⟨sx, hsx⟩ : ∃ s, L[k] = s := ⟨_, rfl⟩
        obtain ⟨x0, x1, x2, x3, x4⟩ := sx
        have u9 := fun j hj => (hr1).cell k hlt2 j hj
        have p0 : wr.cell? ⟨g, o + k * 5, none⟩ = some (.int .i64 x0) := by have h9 := u9 0 (by omega); rw [hsx] at h9; exact h9
        have p1 : wr.cell? ⟨g, o + k * 5 + 1, none⟩ = some (.bool x1) := by have h9 := u9 1 (by omega); rw [hsx] at h9; exact h9
        have p2 : wr.cell? ⟨g, o + k * 5 + 2, none⟩ = some (.int .i64 x2) := by have h9 := u9 2 (by omega); rw [hsx] at h9; exact h9
        have p3 : wr.cell? ⟨g, o + k * 5 + 3, none⟩ = some (.int .i64 x3) := by have h9 := u9 3 (by omega); rw [hsx] at h9; exact h9
        have p4 : wr.cell? ⟨g, o + k * 5 + 4, none⟩ = some (.int .i64 x4) := by have h9 := u9 4 (by omega); rw [hsx] at h9; exact h9
        clear u9
        have hli : (k : Int) < (n : Int) := by omega
        have HS : Hid (L[k] = ⟨x0, x1, x2, x3, x4⟩) := hsx
        clear hr hr1 hsx
        have HG2 : Hid (∀ A : Obj, Below w5.heap.size w5 (wr.alloc A)) := fun A => HW.out.alloc HW.out.size _
        have nx : Hid (isFree ⟨x0, x1, x2, x3, x4⟩ = false → ∀ (j : Nat) (h : j < L.length), j < k + 1 → isFree L[j] = false) := fun hv j h hj => by
          by_cases e : j = k
          · subst e; rw [HS.out]; exact hv
          · exact HK.out j h (by omega)
        cases x1 with
        | true =>
          have HK2 : Hid (∀ (j : Nat) (h : j < L.length), j < k + 1 → isFree L[j] = false) := nx.out rfl
          clear nx
          go_wp2
          go_roundw
          case rel => exact ⟨k + 1, by omega, by go_num, HK2, HG2.out _⟩
          case measure => simp [intOf]; omega
        | false =>
          by_cases e : x0 < 1000000
          · have e1 : decide (x0 < 1000000) = true := by simpa using e
            have hfr : isFree ⟨x0, false, x2, x3, x4⟩ = true := by simp [isFree, e]
            obtain ⟨rfl, rfl, hG, hL2⟩ : B = true ∧ P = (k : Int) ∧ x0 = G ∧ L.set k ⟨x0, true, req, cl, now⟩ = L2 := by
              rcases HGR.out with ⟨_, _, _, _, h5⟩ | ⟨h1, _, q, hq, h3, h4, h5, h6, h7⟩ | ⟨_, _, h3, _⟩
              · have := (h5 HCAN.out).1 k hlt2; rw [HS.out, hfr] at this; cases this
              · have hqk : q = k := by
                  rcases Nat.lt_trichotomy q k with hh | hh | hh
                  · rw [HK.out q hq hh] at h3; cases h3
                  · exact hh
                  · have := h4 k hh; rw [HS.out, hfr] at this; cases this
                subst hqk
                rw [HS.out] at h6 h7
                exact ⟨h1, h5, h6.symm, h7.symm⟩
              · have := h3 k hlt2; rw [HS.out, hfr] at this; cases this
            subst hG
            have HL2 : Hid (L.set k ⟨x0, true, req, cl, now⟩ = L2) := hL2
            clear hL2 nx hfr HGR
            obtain ⟨g4, o4, ha4, hg4, _⟩ := cp_row MR.out.2.2.1 hlt2
            subst ha4
            have hgn : g4 < N4 := M5.out.2.2.2.2.2.2 g4 rfl
            have hgs : w.heap.size + 1 + 1 + 1 < g4 := Nat.lt_of_lt_of_le M5.out.2.2.2.2.2.1 hg4
            go_upto_region 10 with fail
            have M9 : Hid (Bx w (some ⟨g, o, none⟩) n c req cl now (wr.alloc (.cells #[.int .i64 x0, .bool false, .int .i64 x2, .int .i64 x3, .int .i64 x4] 35)) ∧ (wr.alloc (.cells #[.int .i64 x0, .bool false, .int .i64 x2, .int .i64 x3, .int .i64 x4] 35)).heap[N4]? = some (.cells #[.slice (some ⟨g4, o4, none⟩) n c4] 25 (0, 0)) ∧ Row 35 5 cells (wr.alloc (.cells #[.int .i64 x0, .bool false, .int .i64 x2, .int .i64 x3, .int .i64 x4] 35)) g4 o4 L ∧ (wr.alloc (.cells #[.int .i64 x0, .bool false, .int .i64 x2, .int .i64 x3, .int .i64 x4] 35)).heap[wr.heap.size]? = some (.cells #[.int .i64 x0, .bool false, .int .i64 x2, .int .i64 x3, .int .i64 x4] 35 (0, 0)) ∧ N4 < wr.heap.size ∧ wr.heap.size < (wr.alloc (.cells #[.int .i64 x0, .bool false, .int .i64 x2, .int .i64 x3, .int .i64 x4] 35)).heap.size) := by
              have ha : Below wr.heap.size wr (wr.alloc (.cells #[.int .i64 x0, .bool false, .int .i64 x2, .int .i64 x3, .int .i64 x4] 35)) := (Below.refl _ _).alloc (Nat.le_refl _) _
              obtain ⟨g5, o5, ha5, _, hr5⟩ := cp_row MR.out.2.2.1 hlt2
              injection ha5 with ha5
              injection ha5 with e5 e6 _
              subst e5; subst e6
              exact ⟨MR.out.1.below ha, (ha.block _ MR.out.2.2.2).trans MR.out.2.1, hr5.below ha, heap_alloc_new wr _, MR.out.2.2.2, by simp⟩
            clear p0 p1 p2 p3 p4 HG2 HW MR
            obtain ⟨N9, hN9⟩ : ∃ N9, wr.heap.size = N9 := ⟨_, rfl⟩
            generalize (wr.alloc (.cells #[.int .i64 x0, .bool false, .int .i64 x2, .int .i64 x3, .int .i64 x4] 35)) = W9 at *
            rw [hN9] at M9 ⊢
            clear hN9
            have xc : W9.cell? ⟨N9, 0, none⟩ = some (.int .i64 x0) := cellB M9.out.2.2.2.1 0
            have s0 : W9.cell? ⟨w.heap.size + 1 + 1 + 1, 0, none⟩ = some (.int .i64 0) := cellB M9.out.1.1.2.2.2 0
            have sf0 := fzB M9.out.1.1.2.2.2 0
            go_upto_region 11 with fail
            have M10 : Hid ((W9.setCell ⟨w.heap.size + 1 + 1 + 1, 0, none⟩ (.int .i64 x0)).heap[w.heap.size + 1 + 1 + 1]? = some (.cells #[.int .i64 x0, .bool true, .int .i64 req, .int .i64 cl, .int .i64 now] 35 (0, 0)) ∧ Row 35 5 cells (W9.setCell ⟨w.heap.size + 1 + 1 + 1, 0, none⟩ (.int .i64 x0)) g4 o4 L ∧ (W9.setCell ⟨w.heap.size + 1 + 1 + 1, 0, none⟩ (.int .i64 x0)).heap[w.heap.size + 1]? = some (.cells #[.slice none 0 0] 25 (0, 0)) ∧ (W9.setCell ⟨w.heap.size + 1 + 1 + 1, 0, none⟩ (.int .i64 x0)).heap[w.heap.size + 1 + 1]? = some (.cells #[.int .i64 0, .int .i64 0] 28 (0, 0)) ∧ (W9.setCell ⟨w.heap.size + 1 + 1 + 1, 0, none⟩ (.int .i64 x0)).heap[N4]? = some (.cells #[.slice (some ⟨g4, o4, none⟩) n c4] 25 (0, 0)) ∧ (W9.setCell ⟨w.heap.size + 1 + 1 + 1, 0, none⟩ (.int .i64 x0)).heap[N9]? = some (.cells #[.int .i64 x0, .bool false, .int .i64 x2, .int .i64 x3, .int .i64 x4] 35 (0, 0)) ∧ Below w.heap.size w (W9.setCell ⟨w.heap.size + 1 + 1 + 1, 0, none⟩ (.int .i64 x0)) ∧ N9 < (W9.setCell ⟨w.heap.size + 1 + 1 + 1, 0, none⟩ (.int .i64 x0)).heap.size) := by
              obtain ⟨⟨⟨m0, m1, m2, m3⟩, m4, m5⟩, m6, m7, m8, m9, m10⟩ := M9.out
              refine ⟨set_at m3 _ _, m7.set (by show g4 ≠ w.heap.size + 1 + 1 + 1; omega) _, ?_, ?_, ?_, ?_, m4.setCell (by show w.heap.size ≤ w.heap.size + 1 + 1 + 1; omega) _, by simpa using m10⟩
              · rw [Below.heap_setCell _ _ _ _ (by show w.heap.size + 1 ≠ w.heap.size + 1 + 1 + 1; omega)]; exact m1
              · rw [Below.heap_setCell _ _ _ _ (by show w.heap.size + 1 + 1 ≠ w.heap.size + 1 + 1 + 1; omega)]; exact m2
              · rw [Below.heap_setCell _ _ _ _ (by show N4 ≠ w.heap.size + 1 + 1 + 1; omega)]; exact m6
              · rw [Below.heap_setCell _ _ _ _ (by show N9 ≠ w.heap.size + 1 + 1 + 1; omega)]; exact m8
            have HNN : Hid (N4 < N9) := M9.out.2.2.2.2.1
            clear xc s0 sf0 M9
            generalize (W9.setCell ⟨w.heap.size + 1 + 1 + 1, 0, none⟩ (.int .i64 x0)) = W10 at *
            have s0 : W10.cell? ⟨w.heap.size + 1 + 1 + 1, 0, none⟩ = some (.int .i64 x0) := cellB M10.out.1 0
            have s1 : W10.cell? ⟨w.heap.size + 1 + 1 + 1, 1, none⟩ = some (.bool true) := cellB M10.out.1 1
            have s2 : W10.cell? ⟨w.heap.size + 1 + 1 + 1, 2, none⟩ = some (.int .i64 req) := cellB M10.out.1 2
            have s3 : W10.cell? ⟨w.heap.size + 1 + 1 + 1, 3, none⟩ = some (.int .i64 cl) := cellB M10.out.1 3
            have s4 : W10.cell? ⟨w.heap.size + 1 + 1 + 1, 4, none⟩ = some (.int .i64 now) := cellB M10.out.1 4
            have oc : W10.cell? ⟨N4, 0, none⟩ = some (.slice (some ⟨g4, o4, none⟩) n c4) := cellB M10.out.2.2.2.2.1 0
            have u9 := fun j hj => M10.out.2.1.cell k hlt2 j hj
            rw [HS.out] at u9
            have p0 : W10.cell? ⟨g4, o4 + k * 5, none⟩ = some (.int .i64 x0) := u9 0 (by omega)
            have p1 : W10.cell? ⟨g4, o4 + k * 5 + 1, none⟩ = some (.bool false) := u9 1 (by omega)
            have p2 : W10.cell? ⟨g4, o4 + k * 5 + 2, none⟩ = some (.int .i64 x2) := u9 2 (by omega)
            have p3 : W10.cell? ⟨g4, o4 + k * 5 + 3, none⟩ = some (.int .i64 x3) := u9 3 (by omega)
            have p4 : W10.cell? ⟨g4, o4 + k * 5 + 4, none⟩ = some (.int .i64 x4) := u9 4 (by omega)
            have z0 := M10.out.2.1.fz (o4 + k * 5)
            have z1 := M10.out.2.1.fz (o4 + k * 5 + 1)
            have z2 := M10.out.2.1.fz (o4 + k * 5 + 2)
            have z3 := M10.out.2.1.fz (o4 + k * 5 + 3)
            have z4 := M10.out.2.1.fz (o4 + k * 5 + 4)
            clear u9
            go_upto_region 12 with fail
            have M11 : Hid (Row 35 5 cells (((((W10.setCell ⟨g4, o4 + k * 5, none⟩ (.int .i64 x0)).setCell ⟨g4, o4 + k * 5 + 1, none⟩ (.bool true)).setCell ⟨g4, o4 + k * 5 + 2, none⟩ (.int .i64 req)).setCell ⟨g4, o4 + k * 5 + 3, none⟩ (.int .i64 cl)).setCell ⟨g4, o4 + k * 5 + 4, none⟩ (.int .i64 now)) g4 o4 L2 ∧ (((((W10.setCell ⟨g4, o4 + k * 5, none⟩ (.int .i64 x0)).setCell ⟨g4, o4 + k * 5 + 1, none⟩ (.bool true)).setCell ⟨g4, o4 + k * 5 + 2, none⟩ (.int .i64 req)).setCell ⟨g4, o4 + k * 5 + 3, none⟩ (.int .i64 cl)).setCell ⟨g4, o4 + k * 5 + 4, none⟩ (.int .i64 now)).heap[w.heap.size + 1]? = some (.cells #[.slice none 0 0] 25 (0, 0)) ∧ (((((W10.setCell ⟨g4, o4 + k * 5, none⟩ (.int .i64 x0)).setCell ⟨g4, o4 + k * 5 + 1, none⟩ (.bool true)).setCell ⟨g4, o4 + k * 5 + 2, none⟩ (.int .i64 req)).setCell ⟨g4, o4 + k * 5 + 3, none⟩ (.int .i64 cl)).setCell ⟨g4, o4 + k * 5 + 4, none⟩ (.int .i64 now)).heap[w.heap.size + 1 + 1]? = some (.cells #[.int .i64 0, .int .i64 0] 28 (0, 0)) ∧ (((((W10.setCell ⟨g4, o4 + k * 5, none⟩ (.int .i64 x0)).setCell ⟨g4, o4 + k * 5 + 1, none⟩ (.bool true)).setCell ⟨g4, o4 + k * 5 + 2, none⟩ (.int .i64 req)).setCell ⟨g4, o4 + k * 5 + 3, none⟩ (.int .i64 cl)).setCell ⟨g4, o4 + k * 5 + 4, none⟩ (.int .i64 now)).heap[N4]? = some (.cells #[.slice (some ⟨g4, o4, none⟩) n c4] 25 (0, 0)) ∧ (((((W10.setCell ⟨g4, o4 + k * 5, none⟩ (.int .i64 x0)).setCell ⟨g4, o4 + k * 5 + 1, none⟩ (.bool true)).setCell ⟨g4, o4 + k * 5 + 2, none⟩ (.int .i64 req)).setCell ⟨g4, o4 + k * 5 + 3, none⟩ (.int .i64 cl)).setCell ⟨g4, o4 + k * 5 + 4, none⟩ (.int .i64 now)).heap[N9]? = some (.cells #[.int .i64 x0, .bool false, .int .i64 x2, .int .i64 x3, .int .i64 x4] 35 (0, 0)) ∧ Below w.heap.size w (((((W10.setCell ⟨g4, o4 + k * 5, none⟩ (.int .i64 x0)).setCell ⟨g4, o4 + k * 5 + 1, none⟩ (.bool true)).setCell ⟨g4, o4 + k * 5 + 2, none⟩ (.int .i64 req)).setCell ⟨g4, o4 + k * 5 + 3, none⟩ (.int .i64 cl)).setCell ⟨g4, o4 + k * 5 + 4, none⟩ (.int .i64 now)) ∧ N9 < (((((W10.setCell ⟨g4, o4 + k * 5, none⟩ (.int .i64 x0)).setCell ⟨g4, o4 + k * 5 + 1, none⟩ (.bool true)).setCell ⟨g4, o4 + k * 5 + 2, none⟩ (.int .i64 req)).setCell ⟨g4, o4 + k * 5 + 3, none⟩ (.int .i64 cl)).setCell ⟨g4, o4 + k * 5 + 4, none⟩ (.int .i64 now)).heap.size) := by
              have e : (((((W10.setCell ⟨g4, o4 + k * 5, none⟩ (.int .i64 x0)).setCell ⟨g4, o4 + k * 5 + 1, none⟩ (.bool true)).setCell ⟨g4, o4 + k * 5 + 2, none⟩ (.int .i64 req)).setCell ⟨g4, o4 + k * 5 + 3, none⟩ (.int .i64 cl)).setCell ⟨g4, o4 + k * 5 + 4, none⟩ (.int .i64 now)) = sets W10 g4 (o4 + k * 5) (cells ⟨x0, true, req, cl, now⟩) := rfl
              rw [e]
              obtain ⟨_, m1, m2, m3, m4, m5, m6, m7⟩ := M10.out
              have hr := row_put m1 k hlt2 ⟨x0, true, req, cl, now⟩
              rw [HL2.out] at hr
              have hnn := HNN.out
              refine ⟨hr, ?_, ?_, ?_, ?_, sets_below (by omega) _ _ _ m6, ?_⟩
              · rw [sets_else (by omega)]; exact m2
              · rw [sets_else (by omega)]; exact m3
              · rw [sets_else (by omega)]; exact m4
              · rw [sets_else (by omega)]; exact m5
              · have h9 := (Array.getElem?_eq_some_iff.1 ((sets_else (g := g4) (k := N9) (by omega) (cells ⟨x0, true, req, cl, now⟩) W10 (o4 + k * 5)).trans m5)).1
                exact h9
            clear s0 s1 s2 s3 s4 oc p0 p1 p2 p3 p4 z0 z1 z2 z3 z4 M10
            generalize (((((W10.setCell ⟨g4, o4 + k * 5, none⟩ (.int .i64 x0)).setCell ⟨g4, o4 + k * 5 + 1, none⟩ (.bool true)).setCell ⟨g4, o4 + k * 5 + 2, none⟩ (.int .i64 req)).setCell ⟨g4, o4 + k * 5 + 3, none⟩ (.int .i64 cl)).setCell ⟨g4, o4 + k * 5 + 4, none⟩ (.int .i64 now)) = W11 at *
            have d0 : W11.cell? ⟨w.heap.size + 1, 0, none⟩ = some (.slice none 0 0) := cellB M11.out.2.1 0
            have f0 := fzB M11.out.2.1 0
            have d1 : W11.cell? ⟨w.heap.size + 1 + 1, 0, none⟩ = some (.int .i64 0) := cellB M11.out.2.2.1 0
            have f1 := fzB M11.out.2.2.1 0
            have d2 : W11.cell? ⟨w.heap.size + 1 + 1, 1, none⟩ = some (.int .i64 0) := cellB M11.out.2.2.1 1
            have f2 := fzB M11.out.2.2.1 1
            have oc : W11.cell? ⟨N4, 0, none⟩ = some (.slice (some ⟨g4, o4, none⟩) n c4) := cellB M11.out.2.2.2.1 0
            have xc : W11.cell? ⟨N9, 0, none⟩ = some (.int .i64 x0) := cellB M11.out.2.2.2.2.1 0
            have hz4 : w.heap.size + 1 + 1 < N4 := by omega
            have hz9 : N4 < N9 := HNN.out
            go_wp2
            go_region
            go_wp2
            have hln : L2.length = n := by rw [← HL2.out, List.length_set]; exact HN.out
            refine bodyPost_ret (v := .tuple #[.agg #[.slice (some ⟨g4, o4, none⟩) n c4], .agg #[.int .i64 k, .int .i64 x0], .bool true]) (by simp [results, Tryd.results24, go_sem, d0, d1, d2]) rfl ⟨some ⟨g4, o4, none⟩, c4, by rw [hln], by rw [hln]; exact hc4, ?_, fun b h => ?_, ?_⟩
            · exact Or.inr ⟨g4, o4, rfl, ((((M11.out.1).set (by show g4 ≠ w.heap.size + 1; omega) _).set (by show g4 ≠ w.heap.size + 1 + 1; omega) _).set (by show g4 ≠ w.heap.size + 1 + 1; omega) _).same rfl⟩
            · cases L2 with
              | nil => simp [blkL] at h
              | cons q L2 => simp [blkL] at h; omega
            · exact ((((M11.out.2.2.2.2.2.1).setCell (Nat.le_add_right _ 1) _).setCell (Nat.le_add_right _ 2) _).setCell (Nat.le_add_right _ 2) _).drew
          · have e1 : decide (x0 < 1000000) = false := by simpa using e
            have HK2 : Hid (∀ (j : Nat) (h : j < L.length), j < k + 1 → isFree L[j] = false) := nx.out (by simp [isFree]; omega)
            clear nx e
            go_wp2
            go_roundw
            case rel => exact ⟨k + 1, by omega, by go_num, HK2, HG2.out _⟩
            case measure => simp [intOf]; omega
    · obtain rfl : k = n := by omega
      have HNF : Hid (∀ (j : Nat) (h : j < L.length), isFree L[j] = false) := fun j h => HK.out j h (by rw [HN.out] at h; exact h)
      have c0 : wr.cell? ⟨w.heap.size, 0, none⟩ = some (.slice a k c) := cellB MR.out.1.1.1 0
      have d0 : wr.cell? ⟨w.heap.size + 1, 0, none⟩ = some (.slice none 0 0) := cellB MR.out.1.1.2.1 0
      have f0 := fzB MR.out.1.1.2.1 0
      have d1 : wr.cell? ⟨w.heap.size + 1 + 1, 0, none⟩ = some (.int .i64 0) := cellB MR.out.1.1.2.2.1 0
      have f1 := fzB MR.out.1.1.2.2.1 0
      have d2 : wr.cell? ⟨w.heap.size + 1 + 1, 1, none⟩ = some (.int .i64 0) := cellB MR.out.1.1.2.2.1 1
      have f2 := fzB MR.out.1.1.2.2.1 1
      have s0 : wr.cell? ⟨w.heap.size + 1 + 1 + 1, 0, none⟩ = some (.int .i64 0) := cellB MR.out.1.1.2.2.2 0
      have s1 : wr.cell? ⟨w.heap.size + 1 + 1 + 1, 1, none⟩ = some (.bool true) := cellB MR.out.1.1.2.2.2 1
      have s2 : wr.cell? ⟨w.heap.size + 1 + 1 + 1, 2, none⟩ = some (.int .i64 req) := cellB MR.out.1.1.2.2.2 2
      have s3 : wr.cell? ⟨w.heap.size + 1 + 1 + 1, 3, none⟩ = some (.int .i64 cl) := cellB MR.out.1.1.2.2.2 3
      have s4 : wr.cell? ⟨w.heap.size + 1 + 1 + 1, 4, none⟩ = some (.int .i64 now) := cellB MR.out.1.1.2.2.2 4
      have sf0 := fzB MR.out.1.1.2.2.2 0
      have oc : wr.cell? ⟨N4, 0, none⟩ = some (.slice a4 k c4) := cellB MR.out.2.1 0
      have of := fzB MR.out.2.1 0
      have hy3 : w.heap.size + 1 + 1 + 1 < wr.heap.size := MR.out.1.2.2
      have hy2 : w.heap.size + 1 + 1 < wr.heap.size := Nat.lt_of_succ_lt hy3
      have hy1 : w.heap.size + 1 < wr.heap.size := Nat.lt_of_succ_lt hy2
      have hy0 : w.heap.size < wr.heap.size := Nat.lt_of_succ_lt hy1
      have hyn : N4 < wr.heap.size := MR.out.2.2.2
      by_cases h6 : (k : Int) = 60
      · have h7 : ((k : Int) == 60) = true := by simpa using h6
        obtain ⟨rfl, rfl, rfl, rfl⟩ : B = false ∧ L2 = [] ∧ P = 0 ∧ G = 0 := by
          rcases HGR.out with ⟨h1, h2, h3, h4, _⟩ | ⟨_, _, q, hq, h3, _⟩ | ⟨_, _, _, h4, _⟩
          · exact ⟨h1, h2, h3, h4⟩
          · rw [HNF.out q hq] at h3; cases h3
          · exact absurd (by rw [HN.out]; omega) h4
        clear h6
        go_wp2
        refine bodyPost_ret (v := .tuple #[.agg #[.slice none 0 0], .agg #[.int .i64 0, .int .i64 0], .bool false]) (by simp [results, Tryd.results24, go_sem, d0, d1, d2]) rfl ⟨none, 0, rfl, Nat.le_refl _, Or.inl rfl, fun b h => by simp [blkL] at h, ?_⟩
        first | exact (((MR.out.1.2.1).setCell (Nat.le_add_right _ 1) _).setCell (Nat.le_add_right _ 2) _).setCell (Nat.le_add_right _ 2) _
      · have h7 : ((k : Int) == 60) = false := by simpa using h6
        obtain ⟨rfl, hP, rfl, hL2⟩ : B = true ∧ P = (k : Int) ∧ G = 0 ∧ L ++ [⟨0, true, req, cl, now⟩] = L2 := by
          rcases HGR.out with ⟨_, _, _, _, h5⟩ | ⟨_, _, q, hq, h3, _⟩ | ⟨h1, _, _, _, h5, h6, h7⟩
          · have := (h5 HCAN.out).2; rw [HN.out] at this; omega
          · rw [HNF.out q hq] at h3; cases h3
          · exact ⟨h1, by rw [h5, HN.out], h6, h7.symm⟩
        subst hP
        have HL2 : Hid (L ++ [⟨0, true, req, cl, now⟩] = L2) := hL2
        have HLN : Hid (L2.length = k + 1) := by show _ = _; rw [← hL2, List.length_append, HN.out]; rfl
        have HSL3 : Hid (w.heap.size + 1 + 1 + 1 < w3.heap.size) := M5.out.2.2.2.2.2.1
        have HSL : Hid (w.heap.size ≤ w3.heap.size) := by have := HSL3.out; show _ ≤ _; omega
        have HLE : Hid (w3.heap.size ≤ wr.heap.size) := by
          show _ ≤ _
          have h1 := HW34.out
          have h2 := hyn
          omega
        have HGN : Hid (∀ g, (Value.slice a4 k c4).ownBlock = some g → g < N4) := M5.out.2.2.2.2.2.2
        have HN4L : Hid (w.heap.size + 1 + 1 + 1 < N4) := M5.out.2.2.2.1
        clear hL2 h6 HGR
        obtain ⟨i0, hi, hz0, hz1, hz2⟩ := info_parts info_slot
        go_upto_region 17 with (at_builtin; refine wpList_append_own _ rfl (.tmp 79) (.tmp 81) 23 rfl w3.heap.size 35 i0 (.agg #[.int .i64 0, .bool false, .int .i64 0, .int .i64 0, .int .i64 0]) 5 40 Tryd.underlying23 hi hz0 hz1 hz2 rfl (by decide) _ k (flat L) rfl (by have h := MR.out.2.2.1.below ((Below.refl _ _).alloc (Nat.le_refl _) (.cells #[.int .i64 0, .bool true, .int .i64 req, .int .i64 cl, .int .i64 now] 35)); unfold Cp at h; rw [HN.out] at h; exact h) ⟨wr.heap.size, 0, none⟩ 1 1 (cells ⟨0, true, req, cl, now⟩) rfl rfl (app_cells wr 35 req cl now) (cells_one _) (by unfold maxLen; omega) (by omega) (by have h1 := HLE.out; simp only [World.size_alloc]; omega) ?_; intro v6 w6 hown hgr hnn; have HC6 : Hid (Cp w6 w3.heap.size v6 L2) := (by show World.ownsRow _ _ _ _ _ _ _; rw [← HL2.out, flat_app, List.length_append, HN.out]; exact hown); have HK6 : Hid (∀ m, m < wr.heap.size → (∀ g, (Value.slice a4 k c4).ownBlock = some g → m ≠ g) → w6.heap[m]? = wr.heap[m]?) := (fun m hm hne => (hgr.block m (by simp only [World.size_alloc]; omega) (fun e => hne m e.symm rfl)).trans (Below.heap_alloc _ _ _ hm)); have HB6 : Hid (Below w.heap.size w w6) := (MR.out.1.2.1.alloc MR.out.1.2.1.size _).grown hgr (MR.out.1.2.1.alloc MR.out.1.2.1.size _).size (fun g hg => Nat.le_trans HSL.out (MR.out.2.2.1.ge g hg)); obtain ⟨a6, c6, hv6, hc6, hs6⟩ := HC6.out.shape; obtain ⟨g6, o6, ha6, hg6, hr6⟩ := shape_row (k := 0) hs6 (by rw [← HL2.out]; simp); rw [HLN.out] at hv6 hc6; subst ha6; subst hv6; have E1 : w6.heap[w.heap.size + 1]? = some (.cells #[.slice none 0 0] 25 (0, 0)) := (HK6.out _ (by omega) (fun g hg => by have := MR.out.2.2.1.ge g hg; have := HSL3.out; omega)).trans MR.out.1.1.2.1; have E2 : w6.heap[w.heap.size + 1 + 1]? = some (.cells #[.int .i64 0, .int .i64 0] 28 (0, 0)) := (HK6.out _ (by omega) (fun g hg => by have := MR.out.2.2.1.ge g hg; have := HSL3.out; omega)).trans MR.out.1.1.2.2.1; have E0 : w6.heap[w.heap.size]? = some (.cells #[.slice a k c] 25 (0, 0)) := (HK6.out _ (by omega) (fun g hg => by have := MR.out.2.2.1.ge g hg; have := HSL3.out; omega)).trans MR.out.1.1.1; have E4 : w6.heap[N4]? = some (.cells #[.slice a4 k c4] 25 (0, 0)) := (HK6.out _ MR.out.2.2.2 (fun g hg => by have := HGN.out g hg; omega)).trans MR.out.2.1; have hne6 : g6 ≠ N4 := (fun e => by obtain ⟨cur, hg, _⟩ := hr6; rw [e, E4] at hg; simp at hg); have M6 : Hid (Row 35 5 cells w6 g6 o6 L2 ∧ w3.heap.size ≤ g6 ∧ g6 ≠ N4 ∧ w6.heap[w.heap.size + 1]? = some (.cells #[.slice none 0 0] 25 (0, 0)) ∧ w6.heap[w.heap.size + 1 + 1]? = some (.cells #[.int .i64 0, .int .i64 0] 28 (0, 0)) ∧ w6.heap[w.heap.size]? = some (.cells #[.slice a k c] 25 (0, 0)) ∧ w6.heap[N4]? = some (.cells #[.slice a4 k c4] 25 (0, 0))) := ⟨hr6, hg6, hne6, E1, E2, E0, E4⟩; have oc : w6.cell? ⟨N4, 0, none⟩ = some (.slice a4 k c4) := cellB E4 0; have of := fzB E4 0; clear c0 d0 f0 d1 f1 d2 f2 s0 s1 s2 s3 s4 sf0 hown hgr hnn hs6 hr6 hg6 hne6 E0 E1 E2 E4)
        have M17 : Hid (Row 35 5 cells (w6.setCell ⟨N4, 0, none⟩ (.slice (some ⟨g6, o6, none⟩) (k + 1) c6)) g6 o6 L2 ∧ (w6.setCell ⟨N4, 0, none⟩ (.slice (some ⟨g6, o6, none⟩) (k + 1) c6)).heap[w.heap.size + 1]? = some (.cells #[.slice none 0 0] 25 (0, 0)) ∧ (w6.setCell ⟨N4, 0, none⟩ (.slice (some ⟨g6, o6, none⟩) (k + 1) c6)).heap[w.heap.size + 1 + 1]? = some (.cells #[.int .i64 0, .int .i64 0] 28 (0, 0)) ∧ (w6.setCell ⟨N4, 0, none⟩ (.slice (some ⟨g6, o6, none⟩) (k + 1) c6)).heap[w.heap.size]? = some (.cells #[.slice a k c] 25 (0, 0)) ∧ (w6.setCell ⟨N4, 0, none⟩ (.slice (some ⟨g6, o6, none⟩) (k + 1) c6)).heap[N4]? = some (.cells #[.slice (some ⟨g6, o6, none⟩) (k + 1) c6] 25 (0, 0)) ∧ Below w.heap.size w (w6.setCell ⟨N4, 0, none⟩ (.slice (some ⟨g6, o6, none⟩) (k + 1) c6))) := by
          obtain ⟨m1, m2, m3, m4, m5, m6, m7⟩ := M6.out
          have hh := HN4L.out
          refine ⟨m1.set (by show g6 ≠ N4; exact m3) _, ?_, ?_, ?_, set_at m7 _ _, HB6.out.setCell (by show w.heap.size ≤ N4; omega) _⟩
          · rw [Below.heap_setCell _ _ _ _ (by show w.heap.size + 1 ≠ N4; omega)]; exact m4
          · rw [Below.heap_setCell _ _ _ _ (by show w.heap.size + 1 + 1 ≠ N4; omega)]; exact m5
          · rw [Below.heap_setCell _ _ _ _ (by show w.heap.size ≠ N4; omega)]; exact m6
        have hg6 : w.heap.size + 1 + 1 < g6 := by have h1 := M6.out.2.1; have h2 := HSL3.out; omega
        have hn4 : w.heap.size + 1 + 1 < N4 := by have h2 := HN4L.out; omega
        clear oc of M6 HB6 HK6 HC6
        generalize (w6.setCell ⟨N4, 0, none⟩ (.slice (some ⟨g6, o6, none⟩) (k + 1) c6)) = W17 at *
        have c0 : W17.cell? ⟨w.heap.size, 0, none⟩ = some (.slice a k c) := cellB M17.out.2.2.2.1 0
        have d0 : W17.cell? ⟨w.heap.size + 1, 0, none⟩ = some (.slice none 0 0) := cellB M17.out.2.1 0
        have f0 := fzB M17.out.2.1 0
        have d1 : W17.cell? ⟨w.heap.size + 1 + 1, 0, none⟩ = some (.int .i64 0) := cellB M17.out.2.2.1 0
        have f1 := fzB M17.out.2.2.1 0
        have d2 : W17.cell? ⟨w.heap.size + 1 + 1, 1, none⟩ = some (.int .i64 0) := cellB M17.out.2.2.1 1
        have f2 := fzB M17.out.2.2.1 1
        have oc : W17.cell? ⟨N4, 0, none⟩ = some (.slice (some ⟨g6, o6, none⟩) (k + 1) c6) := cellB M17.out.2.2.2.2.1 0
        go_wp2
        go_region
        go_wp2
        refine bodyPost_ret (v := .tuple #[.agg #[.slice (some ⟨g6, o6, none⟩) (k + 1) c6], .agg #[.int .i64 k, .int .i64 0], .bool true]) (by simp [results, Tryd.results24, go_sem, d0, d1, d2]) rfl ⟨some ⟨g6, o6, none⟩, c6, by rw [HLN.out], by rw [HLN.out]; exact hc6, ?_, fun b h => ?_, ?_⟩
        · exact Or.inr ⟨g6, o6, rfl, ((((M17.out.1).set (by show g6 ≠ w.heap.size + 1; omega) _).set (by show g6 ≠ w.heap.size + 1 + 1; omega) _).set (by show g6 ≠ w.heap.size + 1 + 1; omega) _).same rfl⟩
        · cases L2 with
          | nil => simp [blkL] at h
          | cons q L2 => simp [blkL] at h; omega
        · exact ((((M17.out.2.2.2.2.2).setCell (Nat.le_add_right _ 1) _).setCell (Nat.le_add_right _ 2) _).setCell (Nat.le_add_right _ 2) _).drew
end Go.Proofs.YtacpblhajoblmaaDoor.LedGrantS
