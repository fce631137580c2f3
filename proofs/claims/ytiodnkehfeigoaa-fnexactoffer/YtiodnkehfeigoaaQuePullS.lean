/- What the model's Pull answers, at every queue and id: the queue without it, and it; nothing else turns. -/
import Derived.Test.YtiodnkehfeigoaaRows
import Derived.WalkKit
import Derived.WalkSmall
import Derived.BigQuiet
import Derived.Deep.RegionWith
import Derived.Deep.DeepCutAuto
import Derived.Deep.RegionHeld3
import Derived.Test.YtiodnkehfeigoaaListKit
import Derived.Test.YtiodnkehfeigoaaHoldKit
import Derived.Test.YtiodnkehfeigoaaGrowKit
import Derived.Test.YtiodnkehfeigoaaReqKit
import Derived.Test.YtiodnkehfeigoaaReqOks
import Derived.Test.YtiodnkehfeigoaaQueMath
import Derived.Test.YtiodnkehfeigoaaQueAt
import Derived.Test.YtiodnkehfeigoaaQueOkS
import Derived.Test.YtiodnkehfeigoaaQueTierS
import Derived.Test.YtiodnkehfeigoaaQueOutS
import Derived.Test.YtiodnkehfeigoaaQueCopyS
namespace Go.Proofs.Ytiodnkehfeigoaa.QuePullS
open Go.RowKit ListKit HoldKit QueMath QueOutS
set_option maxRecDepth 8000
set_option linter.unusedVariables false
set_option linter.unusedSimpArgs false

def pullL (L : List ReqKit.Req) (r : Int) (B : Bool) : List ReqKit.Req := if B = true then (if r < 0 then L else outOf L r) else []
def pullR (L : List ReqKit.Req) (r : Int) (B : Bool) : ReqKit.Req := if B = true then (if r < 0 then ReqKit.zero else (L[r.toNat]?).getD ReqKit.zero) else ReqKit.zero
/-- A queue, its list new, a request and whether. -/
def PAns (w : World) (y : Int) (M : List ReqKit.Req) (s : ReqKit.Req) (b : Bool) (e : Ending) (w' : World) : Prop := ∃ a2 c2, e = .returned (.tuple #[.agg #[.int .i64 y, .slice a2 M.length c2], .agg (ReqKit.cells s).toArray, .bool b]) ∧ M.length ≤ c2 ∧ Holds w' w.heap.size [⟨a2, 39, 6, M.map ReqKit.cells⟩] ∧ Below w.heap.size w w'
theorem eight_set {W : World} {p : Addr} {u : Value} {N g o k n c : Nat} {x x0 x1 x2 x3 x4 x5 : Int} (hN : N < p.block) (hg : g < N) (h : W.cell? ⟨N, 0, none⟩ = some (.int .i64 x) ∧ W.cell? ⟨N, 1, none⟩ = some (.slice (some ⟨g, o, none⟩) n c) ∧ W.cell? ⟨g, o + k * 6, none⟩ = some (.int .i64 x0) ∧ W.cell? ⟨g, o + k * 6 + 1, none⟩ = some (.int .i64 x1) ∧ W.cell? ⟨g, o + k * 6 + 2, none⟩ = some (.int .i64 x2) ∧ W.cell? ⟨g, o + k * 6 + 3, none⟩ = some (.int .i64 x3) ∧ W.cell? ⟨g, o + k * 6 + 4, none⟩ = some (.int .i64 x4) ∧ W.cell? ⟨g, o + k * 6 + 5, none⟩ = some (.int .i64 x5)) : (W.setCell p u).cell? ⟨N, 0, none⟩ = some (.int .i64 x) ∧ (W.setCell p u).cell? ⟨N, 1, none⟩ = some (.slice (some ⟨g, o, none⟩) n c) ∧ (W.setCell p u).cell? ⟨g, o + k * 6, none⟩ = some (.int .i64 x0) ∧ (W.setCell p u).cell? ⟨g, o + k * 6 + 1, none⟩ = some (.int .i64 x1) ∧ (W.setCell p u).cell? ⟨g, o + k * 6 + 2, none⟩ = some (.int .i64 x2) ∧ (W.setCell p u).cell? ⟨g, o + k * 6 + 3, none⟩ = some (.int .i64 x3) ∧ (W.setCell p u).cell? ⟨g, o + k * 6 + 4, none⟩ = some (.int .i64 x4) ∧ (W.setCell p u).cell? ⟨g, o + k * 6 + 5, none⟩ = some (.int .i64 x5) := by
  have eN : ∀ i, (W.setCell p u).cell? ⟨N, i, none⟩ = W.cell? ⟨N, i, none⟩ := fun i => World.cell?_of_block (Below.heap_setCell W p u N (by omega))
  have eg : ∀ i, (W.setCell p u).cell? ⟨g, i, none⟩ = W.cell? ⟨g, i, none⟩ := fun i => World.cell?_of_block (Below.heap_setCell W p u g (by omega))
  simp only [eN, eg]
  exact h
set_option maxHeartbeats 8000000 in
theorem spec_pull (x : Int) (a : Option Addr) (c : Nat) (L : List ReqKit.Req) (id r : Int) (B : Bool) (w : World) (h : Own 39 6 ReqKit.cells w a L) (hl : L.length ≤ 1048577) (hc : L.length ≤ c) (bf : Hid (B = true ↔ QueOk x L)) (hr : Hid (AtId L id r)) :
    Calls Try.prog 24 #[.agg #[.int .i64 x, .slice a L.length c], .int .i64 id] w (PAns w (if B = true then x else 0) (pullL L r B) (pullR L r B) (B && decide (0 ≤ r))) := by
  have HA : Hid (Own 39 6 ReqKit.cells w a L) := h
  have HQ := fun W h => QueOkS.spec_queueok x a c L B W h hl hc bf
  have HT := fun W h => QueAt.spec_at x a c L id r W h hl hc hr
  have HC := fun W h => QueCopyS.spec_copy x a c L W h hl
  have HO := fun W h => spec_out x a c L r W h hl hc
  clear h
  obtain ⟨n, hn⟩ : ∃ n, L.length = n := ⟨_, rfl⟩
  have HN : Hid (L.length = n) := hn
  obtain ⟨Y, hY⟩ : ∃ Y, (if B = true then x else 0) = Y := ⟨_, rfl⟩
  obtain ⟨M, hM⟩ : ∃ M, pullL L r B = M := ⟨_, rfl⟩
  obtain ⟨R, hR⟩ : ∃ R, pullR L r B = R := ⟨_, rfl⟩
  obtain ⟨V, hV⟩ : ∃ V, (B && decide (0 ≤ r)) = V := ⟨_, rfl⟩
  have HE : Hid ((if B = true then x else 0) = Y ∧ pullL L r B = M ∧ pullR L r B = R ∧ (B && decide (0 ≤ r)) = V) := ⟨hY, hM, hR, hV⟩
  rw [hY, hM, hR, hV]
  rw [hn] at hl hc HQ HT HC HO ⊢
  clear hn hY hM hR hV
  have B0 : Hid (boxB (((w.alloc (.cells #[.int .i64 x, .slice a n c] 29)).alloc (.cells #[.int .i64 0, .slice none 0 0] 29)).alloc (.cells #[.int .i64 0, .int .i64 0, .int .i64 0, .int .i64 0, .int .i64 0, .int .i64 0] 39)) w.heap.size #[.int .i64 x, .slice a n c] 29 ∧ boxB (((w.alloc (.cells #[.int .i64 x, .slice a n c] 29)).alloc (.cells #[.int .i64 0, .slice none 0 0] 29)).alloc (.cells #[.int .i64 0, .int .i64 0, .int .i64 0, .int .i64 0, .int .i64 0, .int .i64 0] 39)) (w.heap.size + 1) #[.int .i64 0, .slice none 0 0] 29 ∧ boxB (((w.alloc (.cells #[.int .i64 x, .slice a n c] 29)).alloc (.cells #[.int .i64 0, .slice none 0 0] 29)).alloc (.cells #[.int .i64 0, .int .i64 0, .int .i64 0, .int .i64 0, .int .i64 0, .int .i64 0] 39)) (w.heap.size + 1 + 1) #[.int .i64 0, .int .i64 0, .int .i64 0, .int .i64 0, .int .i64 0, .int .i64 0] 39 ∧ Below w.heap.size w (((w.alloc (.cells #[.int .i64 x, .slice a n c] 29)).alloc (.cells #[.int .i64 0, .slice none 0 0] 29)).alloc (.cells #[.int .i64 0, .int .i64 0, .int .i64 0, .int .i64 0, .int .i64 0, .int .i64 0] 39))) := ⟨(boxB.new _ _ _).below (n2 _ _ _), (new2 _ _ _ _).below (n1 _ _), new3 _ _ _ _ _, n3 _ _ _ _⟩
  go_enter Try.func24, Try.ntmps24
  go_wp2_with fail
  refine (HQ _ (HA.out.below B0.out.2.2.2)).mono ?_
  rintro e w1 ⟨rfl, b1⟩
  have B1 : Hid (boxB w1 w.heap.size #[.int .i64 x, .slice a n c] 29 ∧ boxB w1 (w.heap.size + 1) #[.int .i64 0, .slice none 0 0] 29 ∧ boxB w1 (w.heap.size + 1 + 1) #[.int .i64 0, .int .i64 0, .int .i64 0, .int .i64 0, .int .i64 0, .int .i64 0] 39 ∧ Below w.heap.size w w1) := ⟨B0.out.1.below b1, B0.out.2.1.below b1, B0.out.2.2.1.below b1, B0.out.2.2.2.trans (b1.mono B0.out.2.2.2.size)⟩
  have hz1 : w.heap.size + 1 + 1 < w1.heap.size := B1.out.2.2.1.lt
  clear b1 B0 HQ
  have l0 := B1.out.1.cell 0
  have l1 := B1.out.1.cell 1
  have y0 := B1.out.2.1.cell 0
  have z0 := fzB B1.out.2.1 0
  have y1 := B1.out.2.1.cell 1
  have z1 := fzB B1.out.2.1 1
  have d0 := B1.out.2.2.1.cell 0
  have f0 := fzB B1.out.2.2.1 0
  have d1 := B1.out.2.2.1.cell 1
  have f1 := fzB B1.out.2.2.1 1
  have d2 := B1.out.2.2.1.cell 2
  have f2 := fzB B1.out.2.2.1 2
  have d3 := B1.out.2.2.1.cell 3
  have f3 := fzB B1.out.2.2.1 3
  have d4 := B1.out.2.2.1.cell 4
  have f4 := fzB B1.out.2.2.1 4
  have d5 := B1.out.2.2.1.cell 5
  have f5 := fzB B1.out.2.2.1 5
  cases B with
  | false =>
    clear HT HC HO
    have HP : Hid (Y = 0 ∧ M = [] ∧ R = ReqKit.zero ∧ V = false) := ⟨HE.out.1.symm, HE.out.2.1.symm, HE.out.2.2.1.symm, HE.out.2.2.2.symm⟩
    go_wp2
    refine bodyPost_ret (v := .tuple #[.agg #[.int .i64 0, .slice none 0 0], .agg #[.int .i64 0, .int .i64 0, .int .i64 0, .int .i64 0, .int .i64 0, .int .i64 0], .bool false]) (by simp [results, Try.results24, go_sem, y0, y1, d0, d1, d2, d3, d4, d5]) rfl ?_
    rw [HP.out.1, HP.out.2.1, HP.out.2.2.1, HP.out.2.2.2]
    refine ⟨none, 0, rfl, Nat.le_refl _, Holds.own (L := []) (f := ReqKit.cells) (Or.inl rfl) (fun b hb => by simp [blkL] at hb), ?_⟩
    exact ((((((((B1.out.2.2.2).setCell (Nat.le_add_right _ 1) _).setCell (Nat.le_add_right _ 1) _).setCell (Nat.le_add_right _ 2) _).setCell (Nat.le_add_right _ 2) _).setCell (Nat.le_add_right _ 2) _).setCell (Nat.le_add_right _ 2) _).setCell (Nat.le_add_right _ 2) _).setCell (Nat.le_add_right _ 2) _
  | true =>
    go_wp2_with fail
    refine (HT _ (HA.out.below B1.out.2.2.2)).mono ?_
    rintro e w2 ⟨rfl, b2⟩
    have B2 : Hid (boxB w2 w.heap.size #[.int .i64 x, .slice a n c] 29 ∧ boxB w2 (w.heap.size + 1) #[.int .i64 0, .slice none 0 0] 29 ∧ boxB w2 (w.heap.size + 1 + 1) #[.int .i64 0, .int .i64 0, .int .i64 0, .int .i64 0, .int .i64 0, .int .i64 0] 39 ∧ Below w.heap.size w w2) := ⟨B1.out.1.below b2, B1.out.2.1.below b2, B1.out.2.2.1.below b2, B1.out.2.2.2.trans (b2.mono B1.out.2.2.2.size)⟩
    have hz2 : w.heap.size + 1 + 1 < w2.heap.size := B2.out.2.2.1.lt
    clear b2 B1 HT hz1 l0 l1 y0 y1 d0 d1 d2 d3 d4 d5 z0 z1 f0 f1 f2 f3 f4 f5
    rcases hr.out with ⟨hneg, _⟩ | ⟨k, hpos, hk, hid, _⟩
    · have HP : Hid (Y = x ∧ M = L ∧ R = ReqKit.zero ∧ V = false) := ⟨HE.out.1.symm, by rw [← HE.out.2.1]; simp [pullL, hneg], by rw [← HE.out.2.2.1]; simp [pullR, hneg], by rw [← HE.out.2.2.2]; simp [hneg]⟩
      have hrd : decide (r < 0) = true := by simp [hneg]
      clear hneg HO
      have l0 := B2.out.1.cell 0
      have l1 := B2.out.1.cell 1
      go_wp2_with fail
      refine (HC _ (HA.out.below B2.out.2.2.2)).mono ?_
      rintro e w3 ⟨a2, c2, rfl, hc2, hh, b3⟩
      have B3 : Hid (boxB w3 w.heap.size #[.int .i64 x, .slice a n c] 29 ∧ boxB w3 (w.heap.size + 1) #[.int .i64 0, .slice none 0 0] 29 ∧ boxB w3 (w.heap.size + 1 + 1) #[.int .i64 0, .int .i64 0, .int .i64 0, .int .i64 0, .int .i64 0, .int .i64 0] 39 ∧ Below w.heap.size w w3) := ⟨B2.out.1.below b3, B2.out.2.1.below b3, B2.out.2.2.1.below b3, B2.out.2.2.2.trans (b3.mono B2.out.2.2.2.size)⟩
      have HH : Hid (L.length ≤ c2 ∧ Holds w3 w2.heap.size [⟨a2, 39, 6, L.map ReqKit.cells⟩]) := ⟨hc2, hh⟩
      have hz3 : w.heap.size + 1 + 1 < w3.heap.size := B3.out.2.2.1.lt
      clear b3 hc2 hh B2 l0 l1 HC
      have y0 := B3.out.2.1.cell 0
      have z0 := fzB B3.out.2.1 0
      have y1 := B3.out.2.1.cell 1
      have z1 := fzB B3.out.2.1 1
      have d0 := B3.out.2.2.1.cell 0
      have f0 := fzB B3.out.2.2.1 0
      have d1 := B3.out.2.2.1.cell 1
      have f1 := fzB B3.out.2.2.1 1
      have d2 := B3.out.2.2.1.cell 2
      have f2 := fzB B3.out.2.2.1 2
      have d3 := B3.out.2.2.1.cell 3
      have f3 := fzB B3.out.2.2.1 3
      have d4 := B3.out.2.2.1.cell 4
      have f4 := fzB B3.out.2.2.1 4
      have d5 := B3.out.2.2.1.cell 5
      have f5 := fzB B3.out.2.2.1 5
      go_wp2
      refine bodyPost_ret (v := .tuple #[.agg #[.int .i64 x, .slice a2 L.length c2], .agg #[.int .i64 0, .int .i64 0, .int .i64 0, .int .i64 0, .int .i64 0, .int .i64 0], .bool false]) (by simp [results, Try.results24, go_sem, y0, y1, d0, d1, d2, d3, d4, d5]) rfl ?_
      rw [HP.out.1, HP.out.2.1, HP.out.2.2.1, HP.out.2.2.2]
      refine ⟨a2, c2, rfl, HH.out.1, ?_, ?_⟩
      · exact (((((((((HH.out.2).set (by show w.heap.size + 1 < _; omega) _).set (by show w.heap.size + 1 < _; omega) _).set (by show w.heap.size + 1 + 1 < _; omega) _).set (by show w.heap.size + 1 + 1 < _; omega) _).set (by show w.heap.size + 1 + 1 < _; omega) _).set (by show w.heap.size + 1 + 1 < _; omega) _).set (by show w.heap.size + 1 + 1 < _; omega) _).set (by show w.heap.size + 1 + 1 < _; omega) _).low (by omega)
      · exact ((((((((B3.out.2.2.2).setCell (Nat.le_add_right _ 1) _).setCell (Nat.le_add_right _ 1) _).setCell (Nat.le_add_right _ 2) _).setCell (Nat.le_add_right _ 2) _).setCell (Nat.le_add_right _ 2) _).setCell (Nat.le_add_right _ 2) _).setCell (Nat.le_add_right _ 2) _).setCell (Nat.le_add_right _ 2) _
    · subst hpos
      have hrd : decide ((k : Int) < 0) = false := by simp
      rcases HA.out with hnil | ⟨g, o, rfl, hrw⟩
      · rw [hnil] at hk; simp at hk
      · have hgl : Hid (g < w.heap.size) := hrw.lt
        have hr1 : Row 39 6 ReqKit.cells w2 g o L := hrw.below B2.out.2.2.2
        obtain ⟨sx, hsx⟩ : ∃ s, L[k] = s := ⟨_, rfl⟩
        obtain ⟨x0, x1, x2, x3, x4, x5⟩ := sx
        have u9 := fun jj hjj => (hr1).cell k hk jj hjj
        have p0 : w2.cell? ⟨g, o + k * 6, none⟩ = some (.int .i64 x0) := by have h9 := u9 0 (by omega); rw [hsx] at h9; exact h9
        have p1 : w2.cell? ⟨g, o + k * 6 + 1, none⟩ = some (.int .i64 x1) := by have h9 := u9 1 (by omega); rw [hsx] at h9; exact h9
        have p2 : w2.cell? ⟨g, o + k * 6 + 2, none⟩ = some (.int .i64 x2) := by have h9 := u9 2 (by omega); rw [hsx] at h9; exact h9
        have p3 : w2.cell? ⟨g, o + k * 6 + 3, none⟩ = some (.int .i64 x3) := by have h9 := u9 3 (by omega); rw [hsx] at h9; exact h9
        have p4 : w2.cell? ⟨g, o + k * 6 + 4, none⟩ = some (.int .i64 x4) := by have h9 := u9 4 (by omega); rw [hsx] at h9; exact h9
        have p5 : w2.cell? ⟨g, o + k * 6 + 5, none⟩ = some (.int .i64 x5) := by have h9 := u9 5 (by omega); rw [hsx] at h9; exact h9
        clear u9
        have hkn : (k : Int) < (n : Int) := by have := HN.out; omega
        have hkc : (k : Int) < (c : Int) := by have := HN.out; omega
        have HP : Hid (Y = x ∧ M = outOf L (k : Int) ∧ R = ⟨x0, x1, x2, x3, x4, x5⟩ ∧ V = true) := ⟨HE.out.1.symm, by rw [← HE.out.2.1]; simp [pullL, show ¬ ((k : Int) < 0) by omega], by rw [← HE.out.2.2.1]; simp [pullR, show ¬ ((k : Int) < 0) by omega, hk, hsx], by rw [← HE.out.2.2.2]; simp⟩
        have HSX : Hid (L[k] = ⟨x0, x1, x2, x3, x4, x5⟩) := hsx
        have S0 : Hid (w2.drew.cell? ⟨w.heap.size, 0, none⟩ = some (.int .i64 x) ∧ w2.drew.cell? ⟨w.heap.size, 1, none⟩ = some (.slice (some ⟨g, o, none⟩) n c) ∧ w2.drew.cell? ⟨g, o + k * 6, none⟩ = some (.int .i64 x0) ∧ w2.drew.cell? ⟨g, o + k * 6 + 1, none⟩ = some (.int .i64 x1) ∧ w2.drew.cell? ⟨g, o + k * 6 + 2, none⟩ = some (.int .i64 x2) ∧ w2.drew.cell? ⟨g, o + k * 6 + 3, none⟩ = some (.int .i64 x3) ∧ w2.drew.cell? ⟨g, o + k * 6 + 4, none⟩ = some (.int .i64 x4) ∧ w2.drew.cell? ⟨g, o + k * 6 + 5, none⟩ = some (.int .i64 x5)) := ⟨B2.out.1.cell 0, B2.out.1.cell 1, p0, p1, p2, p3, p4, p5⟩
        have EQ : Hid (∀ (W : World) (j : Nat) (u : Value), (W.cell? ⟨w.heap.size, 0, none⟩ = some (.int .i64 x) ∧ W.cell? ⟨w.heap.size, 1, none⟩ = some (.slice (some ⟨g, o, none⟩) n c) ∧ W.cell? ⟨g, o + k * 6, none⟩ = some (.int .i64 x0) ∧ W.cell? ⟨g, o + k * 6 + 1, none⟩ = some (.int .i64 x1) ∧ W.cell? ⟨g, o + k * 6 + 2, none⟩ = some (.int .i64 x2) ∧ W.cell? ⟨g, o + k * 6 + 3, none⟩ = some (.int .i64 x3) ∧ W.cell? ⟨g, o + k * 6 + 4, none⟩ = some (.int .i64 x4) ∧ W.cell? ⟨g, o + k * 6 + 5, none⟩ = some (.int .i64 x5)) → ((W.setCell ⟨w.heap.size + 1, j, none⟩ u).cell? ⟨w.heap.size, 0, none⟩ = some (.int .i64 x) ∧ (W.setCell ⟨w.heap.size + 1, j, none⟩ u).cell? ⟨w.heap.size, 1, none⟩ = some (.slice (some ⟨g, o, none⟩) n c) ∧ (W.setCell ⟨w.heap.size + 1, j, none⟩ u).cell? ⟨g, o + k * 6, none⟩ = some (.int .i64 x0) ∧ (W.setCell ⟨w.heap.size + 1, j, none⟩ u).cell? ⟨g, o + k * 6 + 1, none⟩ = some (.int .i64 x1) ∧ (W.setCell ⟨w.heap.size + 1, j, none⟩ u).cell? ⟨g, o + k * 6 + 2, none⟩ = some (.int .i64 x2) ∧ (W.setCell ⟨w.heap.size + 1, j, none⟩ u).cell? ⟨g, o + k * 6 + 3, none⟩ = some (.int .i64 x3) ∧ (W.setCell ⟨w.heap.size + 1, j, none⟩ u).cell? ⟨g, o + k * 6 + 4, none⟩ = some (.int .i64 x4) ∧ (W.setCell ⟨w.heap.size + 1, j, none⟩ u).cell? ⟨g, o + k * 6 + 5, none⟩ = some (.int .i64 x5))) := fun W j u h => eight_set (by show w.heap.size < w.heap.size + 1; omega) hgl.out h
        have ER : Hid (∀ (W : World) (j : Nat) (u : Value), (W.cell? ⟨w.heap.size, 0, none⟩ = some (.int .i64 x) ∧ W.cell? ⟨w.heap.size, 1, none⟩ = some (.slice (some ⟨g, o, none⟩) n c) ∧ W.cell? ⟨g, o + k * 6, none⟩ = some (.int .i64 x0) ∧ W.cell? ⟨g, o + k * 6 + 1, none⟩ = some (.int .i64 x1) ∧ W.cell? ⟨g, o + k * 6 + 2, none⟩ = some (.int .i64 x2) ∧ W.cell? ⟨g, o + k * 6 + 3, none⟩ = some (.int .i64 x3) ∧ W.cell? ⟨g, o + k * 6 + 4, none⟩ = some (.int .i64 x4) ∧ W.cell? ⟨g, o + k * 6 + 5, none⟩ = some (.int .i64 x5)) → ((W.setCell ⟨w.heap.size + 1 + 1, j, none⟩ u).cell? ⟨w.heap.size, 0, none⟩ = some (.int .i64 x) ∧ (W.setCell ⟨w.heap.size + 1 + 1, j, none⟩ u).cell? ⟨w.heap.size, 1, none⟩ = some (.slice (some ⟨g, o, none⟩) n c) ∧ (W.setCell ⟨w.heap.size + 1 + 1, j, none⟩ u).cell? ⟨g, o + k * 6, none⟩ = some (.int .i64 x0) ∧ (W.setCell ⟨w.heap.size + 1 + 1, j, none⟩ u).cell? ⟨g, o + k * 6 + 1, none⟩ = some (.int .i64 x1) ∧ (W.setCell ⟨w.heap.size + 1 + 1, j, none⟩ u).cell? ⟨g, o + k * 6 + 2, none⟩ = some (.int .i64 x2) ∧ (W.setCell ⟨w.heap.size + 1 + 1, j, none⟩ u).cell? ⟨g, o + k * 6 + 3, none⟩ = some (.int .i64 x3) ∧ (W.setCell ⟨w.heap.size + 1 + 1, j, none⟩ u).cell? ⟨g, o + k * 6 + 4, none⟩ = some (.int .i64 x4) ∧ (W.setCell ⟨w.heap.size + 1 + 1, j, none⟩ u).cell? ⟨g, o + k * 6 + 5, none⟩ = some (.int .i64 x5))) := fun W j u h => eight_set (by show w.heap.size < w.heap.size + 1 + 1; omega) hgl.out h
        have HRW : Hid (Row 39 6 ReqKit.cells w g o L) := hrw
        clear hr1 hsx hrw hid p0 p1 p2 p3 p4 p5 HC
        go_wp2_with fail
        go_region_held3 (fun w' => w'.cell? ⟨w.heap.size, 0, none⟩ = some (.int .i64 x) ∧ w'.cell? ⟨w.heap.size, 1, none⟩ = some (.slice (some ⟨g, o, none⟩) n c) ∧ w'.cell? ⟨g, o + k * 6, none⟩ = some (.int .i64 x0) ∧ w'.cell? ⟨g, o + k * 6 + 1, none⟩ = some (.int .i64 x1) ∧ w'.cell? ⟨g, o + k * 6 + 2, none⟩ = some (.int .i64 x2) ∧ w'.cell? ⟨g, o + k * 6 + 3, none⟩ = some (.int .i64 x3) ∧ w'.cell? ⟨g, o + k * 6 + 4, none⟩ = some (.int .i64 x4) ∧ w'.cell? ⟨g, o + k * 6 + 5, none⟩ = some (.int .i64 x5)) (first | with_reducible exact S0.out | with_reducible exact S3.out | with_reducible exact EQ.out _ _ _ (EQ.out _ _ _ (S3.out)) | with_reducible exact ER.out _ _ _ (ER.out _ _ _ (ER.out _ _ _ (ER.out _ _ _ (ER.out _ _ _ (ER.out _ _ _ (EQ.out _ _ _ (EQ.out _ _ _ (S3.out))))))))) ((go_at_call 47; refine (HO _ (HA.out.below B2.out.2.2.2.drew)).mono ?_; rintro e w3 ⟨a2, c2, rfl, hc2, hh, b3⟩; have B3 : Hid (boxB w3 w.heap.size #[.int .i64 x, .slice (some ⟨g, o, none⟩) n c] 29 ∧ boxB w3 (w.heap.size + 1) #[.int .i64 0, .slice none 0 0] 29 ∧ boxB w3 (w.heap.size + 1 + 1) #[.int .i64 0, .int .i64 0, .int .i64 0, .int .i64 0, .int .i64 0, .int .i64 0] 39 ∧ Below w.heap.size w w3) := (by have b4 : Below w2.heap.size w2 w3 := (Below.refl _ w2).drew.trans b3; exact ⟨B2.out.1.below b4, B2.out.2.1.below b4, B2.out.2.2.1.below b4, B2.out.2.2.2.trans (b4.mono B2.out.2.2.2.size)⟩); have S3 : Hid (w3.cell? ⟨w.heap.size, 0, none⟩ = some (.int .i64 x) ∧ w3.cell? ⟨w.heap.size, 1, none⟩ = some (.slice (some ⟨g, o, none⟩) n c) ∧ w3.cell? ⟨g, o + k * 6, none⟩ = some (.int .i64 x0) ∧ w3.cell? ⟨g, o + k * 6 + 1, none⟩ = some (.int .i64 x1) ∧ w3.cell? ⟨g, o + k * 6 + 2, none⟩ = some (.int .i64 x2) ∧ w3.cell? ⟨g, o + k * 6 + 3, none⟩ = some (.int .i64 x3) ∧ w3.cell? ⟨g, o + k * 6 + 4, none⟩ = some (.int .i64 x4) ∧ w3.cell? ⟨g, o + k * 6 + 5, none⟩ = some (.int .i64 x5)) := (by have hr3 := HRW.out.below B3.out.2.2.2; exact ⟨B3.out.1.cell 0, B3.out.1.cell 1, by have h9 := hr3.cell k hk 0 (by omega); rw [HSX.out] at h9; exact h9, by have h9 := hr3.cell k hk 1 (by omega); rw [HSX.out] at h9; exact h9, by have h9 := hr3.cell k hk 2 (by omega); rw [HSX.out] at h9; exact h9, by have h9 := hr3.cell k hk 3 (by omega); rw [HSX.out] at h9; exact h9, by have h9 := hr3.cell k hk 4 (by omega); rw [HSX.out] at h9; exact h9, by have h9 := hr3.cell k hk 5 (by omega); rw [HSX.out] at h9; exact h9⟩); have HH : Hid ((outOf L (k : Int)).length ≤ c2 ∧ Holds w3 w2.heap.size [⟨a2, 39, 6, (outOf L (k : Int)).map ReqKit.cells⟩]) := ⟨hc2, hh⟩; have hz3 : w.heap.size + 1 + 1 < w3.heap.size := B3.out.2.2.1.lt; clear b3 hc2 hh; have y0 := B3.out.2.1.cell 0; have z0 := fzB B3.out.2.1 0; have y1 := B3.out.2.1.cell 1; have z1 := fzB B3.out.2.1 1; have d0 := B3.out.2.2.1.cell 0; have f0 := fzB B3.out.2.2.1 0; have d1 := B3.out.2.2.1.cell 1; have f1 := fzB B3.out.2.2.1 1; have d2 := B3.out.2.2.1.cell 2; have f2 := fzB B3.out.2.2.1 2; have d3 := B3.out.2.2.1.cell 3; have f3 := fzB B3.out.2.2.1 3; have d4 := B3.out.2.2.1.cell 4; have f4 := fzB B3.out.2.2.1 4; have d5 := B3.out.2.2.1.cell 5; have f5 := fzB B3.out.2.2.1 5))
        go_wp2
        refine bodyPost_ret (v := .tuple #[.agg #[.int .i64 x, .slice a2 (outOf L (k : Int)).length c2], .agg #[.int .i64 x0, .int .i64 x1, .int .i64 x2, .int .i64 x3, .int .i64 x4, .int .i64 x5], .bool true]) (by simp [results, Try.results24, go_sem, y0, y1, d0, d1, d2, d3, d4, d5]) rfl ?_
        rw [HP.out.1, HP.out.2.1, HP.out.2.2.1, HP.out.2.2.2]
        refine ⟨a2, c2, rfl, HH.out.1, ?_, ?_⟩
        · exact (((((((((HH.out.2).set (by show w.heap.size + 1 < _; omega) _).set (by show w.heap.size + 1 < _; omega) _).set (by show w.heap.size + 1 + 1 < _; omega) _).set (by show w.heap.size + 1 + 1 < _; omega) _).set (by show w.heap.size + 1 + 1 < _; omega) _).set (by show w.heap.size + 1 + 1 < _; omega) _).set (by show w.heap.size + 1 + 1 < _; omega) _).set (by show w.heap.size + 1 + 1 < _; omega) _).low (by omega)
        · exact ((((((((B3.out.2.2.2).setCell (Nat.le_add_right _ 1) _).setCell (Nat.le_add_right _ 1) _).setCell (Nat.le_add_right _ 2) _).setCell (Nat.le_add_right _ 2) _).setCell (Nat.le_add_right _ 2) _).setCell (Nat.le_add_right _ 2) _).setCell (Nat.le_add_right _ 2) _).setCell (Nat.le_add_right _ 2) _
end Go.Proofs.Ytiodnkehfeigoaa.QuePullS
