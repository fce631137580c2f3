/- What the program's Pull answers, at every queue and id: the queue without it, and it; nothing else turns. -/
import Derived.Test.YtnejomfaojpicaaRows
import Derived.WalkKit
import Derived.WalkSmall
import Derived.BigQuiet
import Derived.Deep.RegionWith
import Derived.Deep.DeepCutAuto
import Derived.Deep.RegionHeld3
import Derived.Test.YtnejomfaojpicaaListKit
import Derived.Test.YtnejomfaojpicaaHoldKit
import Derived.Test.YtnejomfaojpicaaGrowKit
import Derived.Test.YtnejomfaojpicaaReqKit
import Derived.Test.YtnejomfaojpicaaReqOks
import Derived.Test.YtnejomfaojpicaaQueMath
import Derived.Test.YtnejomfaojpicaaQueMiscS
import Derived.Test.YtnejomfaojpicaaQueFindI
import Derived.Test.YtnejomfaojpicaaQueStandI
import Derived.Test.YtnejomfaojpicaaQueTierS
import Derived.Test.YtnejomfaojpicaaQueOutS
import Derived.Test.YtnejomfaojpicaaQueCopyS
import Derived.Test.YtnejomfaojpicaaQuePullS
import Derived.Test.YtnejomfaojpicaaQueWorst
import Derived.Test.YtnejomfaojpicaaQueCloneI
import Derived.Test.YtnejomfaojpicaaQueDelI
namespace Go.Proofs.Ytnejomfaojpicaa.QuePullI
open Go.RowKit ListKit HoldKit GrowKit QueMath QueOutS QuePullS QueCloneI QueDelI
set_option maxRecDepth 8000
set_option linter.unusedVariables false
set_option linter.unusedSimpArgs false

theorem seven_set {W : World} {p : Addr} {u : Value} {N M : Nat} {x x0 x1 x2 x3 x4 x5 : Int} (hN : N ≠ p.block) (hM : M ≠ p.block) (h : W.cell? ⟨N, 0, none⟩ = some (.int .i64 x) ∧ W.cell? ⟨M, 0, none⟩ = some (.int .i64 x0) ∧ W.cell? ⟨M, 1, none⟩ = some (.int .i64 x1) ∧ W.cell? ⟨M, 2, none⟩ = some (.int .i64 x2) ∧ W.cell? ⟨M, 3, none⟩ = some (.int .i64 x3) ∧ W.cell? ⟨M, 4, none⟩ = some (.int .i64 x4) ∧ W.cell? ⟨M, 5, none⟩ = some (.int .i64 x5)) : (W.setCell p u).cell? ⟨N, 0, none⟩ = some (.int .i64 x) ∧ (W.setCell p u).cell? ⟨M, 0, none⟩ = some (.int .i64 x0) ∧ (W.setCell p u).cell? ⟨M, 1, none⟩ = some (.int .i64 x1) ∧ (W.setCell p u).cell? ⟨M, 2, none⟩ = some (.int .i64 x2) ∧ (W.setCell p u).cell? ⟨M, 3, none⟩ = some (.int .i64 x3) ∧ (W.setCell p u).cell? ⟨M, 4, none⟩ = some (.int .i64 x4) ∧ (W.setCell p u).cell? ⟨M, 5, none⟩ = some (.int .i64 x5) := by
  have eN : ∀ i, (W.setCell p u).cell? ⟨N, i, none⟩ = W.cell? ⟨N, i, none⟩ := fun i => World.cell?_of_block (Below.heap_setCell W p u N hN)
  have eg : ∀ i, (W.setCell p u).cell? ⟨M, i, none⟩ = W.cell? ⟨M, i, none⟩ := fun i => World.cell?_of_block (Below.heap_setCell W p u M hM)
  simp only [eN, eg]
  exact h
theorem cp_own {w : World} {B : Nat} {a : Option Addr} {c : Nat} {L : List ReqKit.Req} (h : Cp 27 6 ReqKit.cells w B (.slice a L.length c) L) : Own 27 6 ReqKit.cells w a L ∧ L.length ≤ c ∧ Holds w B [⟨a, 27, 6, L.map ReqKit.cells⟩] := by
  obtain ⟨a3, c3, h3, h4, h5⟩ := Cp.shape (t := 27) (m := 6) (f := ReqKit.cells) (fun _ => rfl) h
  injection h3 with e1 _ e3
  subst e1 e3
  exact ⟨h5.get (by simp), h4, h5⟩
theorem cp_at {w : World} {B : Nat} {a : Option Addr} {c : Nat} {L : List ReqKit.Req} (h : Cp 27 6 ReqKit.cells w B (.slice a L.length c) L) (hL : 0 < L.length) : ∃ g, a = some ⟨g, 0, none⟩ ∧ B ≤ g := by
  obtain ⟨_, ⟨_, h0⟩ | ⟨g, cap, cur, hv, hb, _⟩⟩ := h
  · omega
  · injection hv with e1
    exact ⟨g, e1, hb⟩
set_option maxHeartbeats 8000000 in
theorem impl_pull (x : Int) (a : Option Addr) (c : Nat) (L : List ReqKit.Req) (id r : Int) (B : Bool) (w : World) (h : Own 27 6 ReqKit.cells w a L) (hl : L.length ≤ 1048577) (hc : L.length ≤ c) (bf : Hid (B = true ↔ QueOk x L)) (hr : Hid (AtId L id r)) :
    Calls Try.prog 6 #[.agg #[.int .i64 x, .slice a L.length c], .int .i64 id] w (PAns w (if B = true then x else 0) (pullL L r B) (pullR L r B) (B && decide (0 ≤ r))) := by
  have HA : Hid (Own 27 6 ReqKit.cells w a L) := h
  have HQ := fun W h => QueStandI.impl_queueok x a c L B W h hl hc bf
  have HC := fun W h => impl_clone a c L W h hl
  have HT := fun aa cc W h => QueFindI.impl_place aa cc L id r W h hl hr
  clear h
  obtain ⟨n, hn⟩ : ∃ n, L.length = n := ⟨_, rfl⟩
  have HN : Hid (L.length = n) := hn
  obtain ⟨Y, hY⟩ : ∃ Y, (if B = true then x else 0) = Y := ⟨_, rfl⟩
  obtain ⟨M, hM⟩ : ∃ M, pullL L r B = M := ⟨_, rfl⟩
  obtain ⟨R, hR⟩ : ∃ R, pullR L r B = R := ⟨_, rfl⟩
  obtain ⟨V, hV⟩ : ∃ V, (B && decide (0 ≤ r)) = V := ⟨_, rfl⟩
  have HE : Hid ((if B = true then x else 0) = Y ∧ pullL L r B = M ∧ pullR L r B = R ∧ (B && decide (0 ≤ r)) = V) := ⟨hY, hM, hR, hV⟩
  rw [hY, hM, hR, hV]
  rw [hn] at hl hc HQ HT HC ⊢
  clear hn hY hM hR hV
  have B0 : Hid (boxB (((w.alloc (.cells #[.int .i64 x, .slice a n c] 25)).alloc (.cells #[.int .i64 0, .slice none 0 0] 25)).alloc (.cells #[.int .i64 0, .int .i64 0, .int .i64 0, .int .i64 0, .int .i64 0, .int .i64 0] 27)) w.heap.size #[.int .i64 x, .slice a n c] 25 ∧ boxB (((w.alloc (.cells #[.int .i64 x, .slice a n c] 25)).alloc (.cells #[.int .i64 0, .slice none 0 0] 25)).alloc (.cells #[.int .i64 0, .int .i64 0, .int .i64 0, .int .i64 0, .int .i64 0, .int .i64 0] 27)) (w.heap.size + 1) #[.int .i64 0, .slice none 0 0] 25 ∧ boxB (((w.alloc (.cells #[.int .i64 x, .slice a n c] 25)).alloc (.cells #[.int .i64 0, .slice none 0 0] 25)).alloc (.cells #[.int .i64 0, .int .i64 0, .int .i64 0, .int .i64 0, .int .i64 0, .int .i64 0] 27)) (w.heap.size + 1 + 1) #[.int .i64 0, .int .i64 0, .int .i64 0, .int .i64 0, .int .i64 0, .int .i64 0] 27 ∧ Below w.heap.size w (((w.alloc (.cells #[.int .i64 x, .slice a n c] 25)).alloc (.cells #[.int .i64 0, .slice none 0 0] 25)).alloc (.cells #[.int .i64 0, .int .i64 0, .int .i64 0, .int .i64 0, .int .i64 0, .int .i64 0] 27))) := ⟨(boxB.new _ _ _).below (n2 _ _ _), (new2 _ _ _ _).below (n1 _ _), new3 _ _ _ _ _, n3 _ _ _ _⟩
  go_enter Try.func6, Try.ntmps6
  go_wp2_with fail
  refine (HQ _ (HA.out.below B0.out.2.2.2)).mono ?_
  rintro e w1 ⟨rfl, b1⟩
  have B1 : Hid (boxB w1 w.heap.size #[.int .i64 x, .slice a n c] 25 ∧ boxB w1 (w.heap.size + 1) #[.int .i64 0, .slice none 0 0] 25 ∧ boxB w1 (w.heap.size + 1 + 1) #[.int .i64 0, .int .i64 0, .int .i64 0, .int .i64 0, .int .i64 0, .int .i64 0] 27 ∧ Below w.heap.size w w1) := ⟨B0.out.1.below b1, B0.out.2.1.below b1, B0.out.2.2.1.below b1, B0.out.2.2.2.trans (b1.mono B0.out.2.2.2.size)⟩
  have hz1 : w.heap.size + 1 + 1 < w1.heap.size := B1.out.2.2.1.lt
  clear b1 B0 HQ
  have l0 := B1.out.1.cell 0
  have l1 := B1.out.1.cell 1
  have y0 := B1.out.2.1.cell 0
  have z0 := fzB B1.out.2.1 0
  have y1 := B1.out.2.1.cell 1
  have z1 := fzB B1.out.2.1 1
  have d0 := B1.out.2.2.1.cell 0
  have f0 := fzB B1.out.2.2.1 0
  have d1 := B1.out.2.2.1.cell 1
  have f1 := fzB B1.out.2.2.1 1
  have d2 := B1.out.2.2.1.cell 2
  have f2 := fzB B1.out.2.2.1 2
  have d3 := B1.out.2.2.1.cell 3
  have f3 := fzB B1.out.2.2.1 3
  have d4 := B1.out.2.2.1.cell 4
  have f4 := fzB B1.out.2.2.1 4
  have d5 := B1.out.2.2.1.cell 5
  have f5 := fzB B1.out.2.2.1 5
  cases B with
  | false =>
    clear HT HC
    have HP : Hid (Y = 0 ∧ M = [] ∧ R = ReqKit.zero ∧ V = false) := ⟨HE.out.1.symm, HE.out.2.1.symm, HE.out.2.2.1.symm, HE.out.2.2.2.symm⟩
    go_wp2
    refine bodyPost_ret (v := .tuple #[.agg #[.int .i64 0, .slice none 0 0], .agg #[.int .i64 0, .int .i64 0, .int .i64 0, .int .i64 0, .int .i64 0, .int .i64 0], .bool false]) (by simp [results, Try.results6, go_sem, y0, y1, d0, d1, d2, d3, d4, d5]) rfl ?_
    rw [HP.out.1, HP.out.2.1, HP.out.2.2.1, HP.out.2.2.2]
    refine ⟨none, 0, rfl, Nat.le_refl _, Holds.own (L := []) (f := ReqKit.cells) (Or.inl rfl) (fun b hb => by simp [blkL] at hb), ?_⟩
    exact ((((((((B1.out.2.2.2).setCell (Nat.le_add_right _ 1) _).setCell (Nat.le_add_right _ 1) _).setCell (Nat.le_add_right _ 2) _).setCell (Nat.le_add_right _ 2) _).setCell (Nat.le_add_right _ 2) _).setCell (Nat.le_add_right _ 2) _).setCell (Nat.le_add_right _ 2) _).setCell (Nat.le_add_right _ 2) _
  | true =>
    go_wp2_with fail
    refine (HC _ (HA.out.below B1.out.2.2.2)).mono ?_
    rintro e w2 ⟨a2, c2, rfl, hcp, b2⟩
    have B2 : Hid ((boxB w2 w.heap.size #[.int .i64 x, .slice a n c] 25 ∧ boxB w2 (w.heap.size + 1) #[.int .i64 0, .slice none 0 0] 25 ∧ boxB w2 (w.heap.size + 1 + 1) #[.int .i64 0, .int .i64 0, .int .i64 0, .int .i64 0, .int .i64 0, .int .i64 0] 27 ∧ Below w.heap.size w w2) ∧ Cp 27 6 ReqKit.cells w2 w1.heap.size (.slice a2 L.length c2) L) := ⟨⟨B1.out.1.below b2, B1.out.2.1.below b2, B1.out.2.2.1.below b2, B1.out.2.2.2.trans (b2.mono B1.out.2.2.2.size)⟩, hcp⟩
    clear b2 hcp B1 HC l0 l1 y0 y1 d0 d1 d2 d3 d4 d5 z0 z1 f0 f1 f2 f3 f4 f5
    rw [HN.out]
    go_wp2_with fail
    refine (HT a2 c2 _ (cp_own B2.out.2).1).mono ?_
    rintro e w3 ⟨rfl, b3⟩
    have B3 : Hid ((boxB w3 w.heap.size #[.int .i64 x, .slice a n c] 25 ∧ boxB w3 (w.heap.size + 1) #[.int .i64 0, .slice none 0 0] 25 ∧ boxB w3 (w.heap.size + 1 + 1) #[.int .i64 0, .int .i64 0, .int .i64 0, .int .i64 0, .int .i64 0, .int .i64 0] 27 ∧ Below w.heap.size w w3) ∧ Cp 27 6 ReqKit.cells w3 w1.heap.size (.slice a2 L.length c2) L) := ⟨⟨B2.out.1.1.below b3, B2.out.1.2.1.below b3, B2.out.1.2.2.1.below b3, B2.out.1.2.2.2.trans (b3.mono B2.out.1.2.2.2.size)⟩, B2.out.2.below b3⟩
    have hz3 : w.heap.size + 1 + 1 < w3.heap.size := B3.out.1.2.2.1.lt
    clear b3 B2 HT
    rcases hr.out with ⟨hneg, _⟩ | ⟨k, hpos, hk, hid, _⟩
    · have HP : Hid (Y = x ∧ M = L ∧ R = ReqKit.zero ∧ V = false) := ⟨HE.out.1.symm, by rw [← HE.out.2.1]; simp [pullL, hneg], by rw [← HE.out.2.2.1]; simp [pullR, hneg], by rw [← HE.out.2.2.2]; simp [hneg]⟩
      have hrd : decide (r < 0) = true := by simp [hneg]
      clear hneg
      have l0 := B3.out.1.1.cell 0
      have l1 := B3.out.1.1.cell 1
      have y0 := B3.out.1.2.1.cell 0
      have z0 := fzB B3.out.1.2.1 0
      have y1 := B3.out.1.2.1.cell 1
      have z1 := fzB B3.out.1.2.1 1
      have d0 := B3.out.1.2.2.1.cell 0
      have f0 := fzB B3.out.1.2.2.1 0
      have d1 := B3.out.1.2.2.1.cell 1
      have f1 := fzB B3.out.1.2.2.1 1
      have d2 := B3.out.1.2.2.1.cell 2
      have f2 := fzB B3.out.1.2.2.1 2
      have d3 := B3.out.1.2.2.1.cell 3
      have f3 := fzB B3.out.1.2.2.1 3
      have d4 := B3.out.1.2.2.1.cell 4
      have f4 := fzB B3.out.1.2.2.1 4
      have d5 := B3.out.1.2.2.1.cell 5
      have f5 := fzB B3.out.1.2.2.1 5
      go_wp2
      refine bodyPost_ret (v := .tuple #[.agg #[.int .i64 x, .slice a2 n c2], .agg #[.int .i64 0, .int .i64 0, .int .i64 0, .int .i64 0, .int .i64 0, .int .i64 0], .bool false]) (by simp [results, Try.results6, go_sem, y0, y1, d0, d1, d2, d3, d4, d5]) rfl ?_
      rw [HP.out.1, HP.out.2.1, HP.out.2.2.1, HP.out.2.2.2]
      refine ⟨a2, c2, by rw [HN.out]; rfl, (cp_own B3.out.2).2.1, ?_, ?_⟩
      · exact ((((((((((cp_own B3.out.2).2.2).set (by show w.heap.size + 1 < _; omega) _).set (by show w.heap.size + 1 < _; omega) _).set (by show w.heap.size + 1 + 1 < _; omega) _).set (by show w.heap.size + 1 + 1 < _; omega) _).set (by show w.heap.size + 1 + 1 < _; omega) _).set (by show w.heap.size + 1 + 1 < _; omega) _).set (by show w.heap.size + 1 + 1 < _; omega) _).set (by show w.heap.size + 1 + 1 < _; omega) _).low (by omega)
      · exact ((((((((B3.out.1.2.2.2).setCell (Nat.le_add_right _ 1) _).setCell (Nat.le_add_right _ 1) _).setCell (Nat.le_add_right _ 2) _).setCell (Nat.le_add_right _ 2) _).setCell (Nat.le_add_right _ 2) _).setCell (Nat.le_add_right _ 2) _).setCell (Nat.le_add_right _ 2) _).setCell (Nat.le_add_right _ 2) _
    · subst hpos
      have hrd : decide ((k : Int) < 0) = false := by simp
      obtain ⟨g, hg2, hgb⟩ := cp_at B3.out.2 (by omega)
      subst hg2
      obtain ⟨sx, hsx⟩ : ∃ s, L[k] = s := ⟨_, rfl⟩
      obtain ⟨x0, x1, x2, x3, x4, x5⟩ := sx
      have HK : Hid (k < L.length) := hk
      have HSX : Hid (L[k]'hk = ⟨x0, x1, x2, x3, x4, x5⟩) := hsx
      have HP : Hid (Y = x ∧ M = less L k ∧ R = ⟨x0, x1, x2, x3, x4, x5⟩ ∧ V = true) := ⟨HE.out.1.symm, by rw [← HE.out.2.1, ← less_out L k hk]; simp [pullL, show ¬ ((k : Int) < 0) by omega], by rw [← HE.out.2.2.1]; simp [pullR, show ¬ ((k : Int) < 0) by omega, hk, hsx], by rw [← HE.out.2.2.2]; simp⟩
      clear hsx hid
      go_wp2_with fail
      obtain ⟨m, hm⟩ : ∃ m, (less L k).length = m := ⟨_, rfl⟩
      have HM : Hid ((less L k).length = m) := hm
      refine (without_as w1.heap.size g c2 k n m L x0 x1 x2 x3 x4 x5 _ HN.out hm (by have h9 := B3.out.2; rw [HN.out] at h9; exact h9) hk HSX.out hl).mono ?_
      rintro e w4 ⟨rfl, hcp, hgr⟩
      have B4 : Hid ((boxB w4 w.heap.size #[.int .i64 x, .slice a n c] 25 ∧ boxB w4 (w.heap.size + 1) #[.int .i64 0, .slice none 0 0] 25 ∧ boxB w4 (w.heap.size + 1 + 1) #[.int .i64 0, .int .i64 0, .int .i64 0, .int .i64 0, .int .i64 0, .int .i64 0] 27 ∧ Below w.heap.size w w4) ∧ Cp 27 6 ReqKit.cells w4 w1.heap.size (.slice (some ⟨g, 0, none⟩) m c2) (less L k)) := ⟨⟨box_grown B3.out.1.1 hgr (fun e => by injection e with e; omega), box_grown B3.out.1.2.1 hgr (fun e => by injection e with e; omega), box_grown B3.out.1.2.2.1 hgr (fun e => by injection e with e; omega), B3.out.1.2.2.2.grown hgr B3.out.1.2.2.2.size (fun q hq => by injection hq with hq; omega)⟩, hcp⟩
      have hz4 : w.heap.size + 1 + 1 < w4.heap.size := B4.out.1.2.2.1.lt
      have B5 : Hid ((boxB (w4.alloc (.cells #[.int .i64 x0, .int .i64 x1, .int .i64 x2, .int .i64 x3, .int .i64 x4, .int .i64 x5] 27)) w.heap.size #[.int .i64 x, .slice a n c] 25 ∧ boxB (w4.alloc (.cells #[.int .i64 x0, .int .i64 x1, .int .i64 x2, .int .i64 x3, .int .i64 x4, .int .i64 x5] 27)) (w.heap.size + 1) #[.int .i64 0, .slice none 0 0] 25 ∧ boxB (w4.alloc (.cells #[.int .i64 x0, .int .i64 x1, .int .i64 x2, .int .i64 x3, .int .i64 x4, .int .i64 x5] 27)) (w.heap.size + 1 + 1) #[.int .i64 0, .int .i64 0, .int .i64 0, .int .i64 0, .int .i64 0, .int .i64 0] 27 ∧ Below w.heap.size w (w4.alloc (.cells #[.int .i64 x0, .int .i64 x1, .int .i64 x2, .int .i64 x3, .int .i64 x4, .int .i64 x5] 27))) ∧ Cp 27 6 ReqKit.cells (w4.alloc (.cells #[.int .i64 x0, .int .i64 x1, .int .i64 x2, .int .i64 x3, .int .i64 x4, .int .i64 x5] 27)) w1.heap.size (.slice (some ⟨g, 0, none⟩) m c2) (less L k) ∧ boxB (w4.alloc (.cells #[.int .i64 x0, .int .i64 x1, .int .i64 x2, .int .i64 x3, .int .i64 x4, .int .i64 x5] 27)) w4.heap.size #[.int .i64 x0, .int .i64 x1, .int .i64 x2, .int .i64 x3, .int .i64 x4, .int .i64 x5] 27) := ⟨⟨B4.out.1.1.below (n1 _ _), B4.out.1.2.1.below (n1 _ _), B4.out.1.2.2.1.below (n1 _ _), B4.out.1.2.2.2.trans ((n1 _ _).mono B4.out.1.2.2.2.size)⟩, B4.out.2.below (n1 _ _), boxB.new _ _ _⟩
      clear hcp hgr B3 B4 hz3 hm HK HSX
      go_upto_region 8 with fail
      obtain ⟨M4, hM4⟩ : ∃ M4, w4.heap.size = M4 := ⟨_, rfl⟩
      have HM4 : Hid (w.heap.size + 1 + 1 < M4) := by rw [← hM4]; exact hz4
      rw [hM4] at B5 ⊢
      clear hM4 hz4
      generalize (w4.alloc (.cells #[.int .i64 x0, .int .i64 x1, .int .i64 x2, .int .i64 x3, .int .i64 x4, .int .i64 x5] 27)) = W6 at *
      have S9 : Hid (W6.cell? ⟨w.heap.size, 0, none⟩ = some (.int .i64 x) ∧ W6.cell? ⟨M4, 0, none⟩ = some (.int .i64 x0) ∧ W6.cell? ⟨M4, 1, none⟩ = some (.int .i64 x1) ∧ W6.cell? ⟨M4, 2, none⟩ = some (.int .i64 x2) ∧ W6.cell? ⟨M4, 3, none⟩ = some (.int .i64 x3) ∧ W6.cell? ⟨M4, 4, none⟩ = some (.int .i64 x4) ∧ W6.cell? ⟨M4, 5, none⟩ = some (.int .i64 x5)) := ⟨B5.out.1.1.cell 0, B5.out.2.2.cell 0, B5.out.2.2.cell 1, B5.out.2.2.cell 2, B5.out.2.2.cell 3, B5.out.2.2.cell 4, B5.out.2.2.cell 5⟩
      have ED : Hid (∀ W : World, (W.cell? ⟨w.heap.size, 0, none⟩ = some (.int .i64 x) ∧ W.cell? ⟨M4, 0, none⟩ = some (.int .i64 x0) ∧ W.cell? ⟨M4, 1, none⟩ = some (.int .i64 x1) ∧ W.cell? ⟨M4, 2, none⟩ = some (.int .i64 x2) ∧ W.cell? ⟨M4, 3, none⟩ = some (.int .i64 x3) ∧ W.cell? ⟨M4, 4, none⟩ = some (.int .i64 x4) ∧ W.cell? ⟨M4, 5, none⟩ = some (.int .i64 x5)) → (W.drew.cell? ⟨w.heap.size, 0, none⟩ = some (.int .i64 x) ∧ W.drew.cell? ⟨M4, 0, none⟩ = some (.int .i64 x0) ∧ W.drew.cell? ⟨M4, 1, none⟩ = some (.int .i64 x1) ∧ W.drew.cell? ⟨M4, 2, none⟩ = some (.int .i64 x2) ∧ W.drew.cell? ⟨M4, 3, none⟩ = some (.int .i64 x3) ∧ W.drew.cell? ⟨M4, 4, none⟩ = some (.int .i64 x4) ∧ W.drew.cell? ⟨M4, 5, none⟩ = some (.int .i64 x5))) := fun W h => h
      have S0 : Hid (W6.drew.cell? ⟨w.heap.size, 0, none⟩ = some (.int .i64 x) ∧ W6.drew.cell? ⟨M4, 0, none⟩ = some (.int .i64 x0) ∧ W6.drew.cell? ⟨M4, 1, none⟩ = some (.int .i64 x1) ∧ W6.drew.cell? ⟨M4, 2, none⟩ = some (.int .i64 x2) ∧ W6.drew.cell? ⟨M4, 3, none⟩ = some (.int .i64 x3) ∧ W6.drew.cell? ⟨M4, 4, none⟩ = some (.int .i64 x4) ∧ W6.drew.cell? ⟨M4, 5, none⟩ = some (.int .i64 x5)) := ⟨B5.out.1.1.cell 0, B5.out.2.2.cell 0, B5.out.2.2.cell 1, B5.out.2.2.cell 2, B5.out.2.2.cell 3, B5.out.2.2.cell 4, B5.out.2.2.cell 5⟩
      have EQ : Hid (∀ (W : World) (j : Nat) (u : Value), (W.cell? ⟨w.heap.size, 0, none⟩ = some (.int .i64 x) ∧ W.cell? ⟨M4, 0, none⟩ = some (.int .i64 x0) ∧ W.cell? ⟨M4, 1, none⟩ = some (.int .i64 x1) ∧ W.cell? ⟨M4, 2, none⟩ = some (.int .i64 x2) ∧ W.cell? ⟨M4, 3, none⟩ = some (.int .i64 x3) ∧ W.cell? ⟨M4, 4, none⟩ = some (.int .i64 x4) ∧ W.cell? ⟨M4, 5, none⟩ = some (.int .i64 x5)) → ((W.setCell ⟨w.heap.size + 1, j, none⟩ u).cell? ⟨w.heap.size, 0, none⟩ = some (.int .i64 x) ∧ (W.setCell ⟨w.heap.size + 1, j, none⟩ u).cell? ⟨M4, 0, none⟩ = some (.int .i64 x0) ∧ (W.setCell ⟨w.heap.size + 1, j, none⟩ u).cell? ⟨M4, 1, none⟩ = some (.int .i64 x1) ∧ (W.setCell ⟨w.heap.size + 1, j, none⟩ u).cell? ⟨M4, 2, none⟩ = some (.int .i64 x2) ∧ (W.setCell ⟨w.heap.size + 1, j, none⟩ u).cell? ⟨M4, 3, none⟩ = some (.int .i64 x3) ∧ (W.setCell ⟨w.heap.size + 1, j, none⟩ u).cell? ⟨M4, 4, none⟩ = some (.int .i64 x4) ∧ (W.setCell ⟨w.heap.size + 1, j, none⟩ u).cell? ⟨M4, 5, none⟩ = some (.int .i64 x5))) := fun W j u h => seven_set (by show w.heap.size ≠ w.heap.size + 1; omega) (by show M4 ≠ w.heap.size + 1; have := HM4.out; omega) h
      have ER : Hid (∀ (W : World) (j : Nat) (u : Value), (W.cell? ⟨w.heap.size, 0, none⟩ = some (.int .i64 x) ∧ W.cell? ⟨M4, 0, none⟩ = some (.int .i64 x0) ∧ W.cell? ⟨M4, 1, none⟩ = some (.int .i64 x1) ∧ W.cell? ⟨M4, 2, none⟩ = some (.int .i64 x2) ∧ W.cell? ⟨M4, 3, none⟩ = some (.int .i64 x3) ∧ W.cell? ⟨M4, 4, none⟩ = some (.int .i64 x4) ∧ W.cell? ⟨M4, 5, none⟩ = some (.int .i64 x5)) → ((W.setCell ⟨w.heap.size + 1 + 1, j, none⟩ u).cell? ⟨w.heap.size, 0, none⟩ = some (.int .i64 x) ∧ (W.setCell ⟨w.heap.size + 1 + 1, j, none⟩ u).cell? ⟨M4, 0, none⟩ = some (.int .i64 x0) ∧ (W.setCell ⟨w.heap.size + 1 + 1, j, none⟩ u).cell? ⟨M4, 1, none⟩ = some (.int .i64 x1) ∧ (W.setCell ⟨w.heap.size + 1 + 1, j, none⟩ u).cell? ⟨M4, 2, none⟩ = some (.int .i64 x2) ∧ (W.setCell ⟨w.heap.size + 1 + 1, j, none⟩ u).cell? ⟨M4, 3, none⟩ = some (.int .i64 x3) ∧ (W.setCell ⟨w.heap.size + 1 + 1, j, none⟩ u).cell? ⟨M4, 4, none⟩ = some (.int .i64 x4) ∧ (W.setCell ⟨w.heap.size + 1 + 1, j, none⟩ u).cell? ⟨M4, 5, none⟩ = some (.int .i64 x5))) := fun W j u h => seven_set (by show w.heap.size ≠ w.heap.size + 1 + 1; omega) (by show M4 ≠ w.heap.size + 1 + 1; have := HM4.out; omega) h
      have y0 := B5.out.1.2.1.cell 0
      have z0 := fzB B5.out.1.2.1 0
      have y1 := B5.out.1.2.1.cell 1
      have z1 := fzB B5.out.1.2.1 1
      have d0 := B5.out.1.2.2.1.cell 0
      have f0 := fzB B5.out.1.2.2.1 0
      have d1 := B5.out.1.2.2.1.cell 1
      have f1 := fzB B5.out.1.2.2.1 1
      have d2 := B5.out.1.2.2.1.cell 2
      have f2 := fzB B5.out.1.2.2.1 2
      have d3 := B5.out.1.2.2.1.cell 3
      have f3 := fzB B5.out.1.2.2.1 3
      have d4 := B5.out.1.2.2.1.cell 4
      have f4 := fzB B5.out.1.2.2.1 4
      have d5 := B5.out.1.2.2.1.cell 5
      have f5 := fzB B5.out.1.2.2.1 5
      go_wp2_with fail
      go_region_held3 (fun w' => w'.cell? ⟨w.heap.size, 0, none⟩ = some (.int .i64 x) ∧ w'.cell? ⟨M4, 0, none⟩ = some (.int .i64 x0) ∧ w'.cell? ⟨M4, 1, none⟩ = some (.int .i64 x1) ∧ w'.cell? ⟨M4, 2, none⟩ = some (.int .i64 x2) ∧ w'.cell? ⟨M4, 3, none⟩ = some (.int .i64 x3) ∧ w'.cell? ⟨M4, 4, none⟩ = some (.int .i64 x4) ∧ w'.cell? ⟨M4, 5, none⟩ = some (.int .i64 x5)) (first | with_reducible exact S0.out | with_reducible exact S9.out | with_reducible exact ED.out _ (EQ.out _ _ _ (EQ.out _ _ _ (S9.out))) | with_reducible exact EQ.out _ _ _ (EQ.out _ _ _ (S0.out)) | with_reducible exact ED.out _ (ER.out _ _ _ (ER.out _ _ _ (ER.out _ _ _ (ER.out _ _ _ (ER.out _ _ _ (ER.out _ _ _ (EQ.out _ _ _ (EQ.out _ _ _ (S9.out))))))))) | with_reducible exact EQ.out _ _ _ (EQ.out _ _ _ (S9.out)) | with_reducible exact ER.out _ _ _ (ER.out _ _ _ (ER.out _ _ _ (ER.out _ _ _ (ER.out _ _ _ (ER.out _ _ _ (EQ.out _ _ _ (EQ.out _ _ _ (S9.out)))))))) | with_reducible exact ER.out _ _ _ (ER.out _ _ _ (ER.out _ _ _ (ER.out _ _ _ (ER.out _ _ _ (ER.out _ _ _ (EQ.out _ _ _ (EQ.out _ _ _ (S0.out))))))))) (fail)
      go_wp2
      refine bodyPost_ret (v := .tuple #[.agg #[.int .i64 x, .slice (some ⟨g, 0, none⟩) m c2], .agg #[.int .i64 x0, .int .i64 x1, .int .i64 x2, .int .i64 x3, .int .i64 x4, .int .i64 x5], .bool true]) (by simp [results, Try.results6, go_sem, y0, y1, d0, d1, d2, d3, d4, d5]) rfl ?_
      rw [HP.out.1, HP.out.2.1, HP.out.2.2.1, HP.out.2.2.2]
      have HC9 := B5.out.2.1
      rw [← HM.out] at HC9
      refine ⟨some ⟨g, 0, none⟩, c2, by rw [HM.out]; rfl, (cp_own HC9).2.1, ?_, ?_⟩
      · exact (((((((((((cp_own HC9).2.2).set (by show w.heap.size + 1 < _; omega) _).set (by show w.heap.size + 1 < _; omega) _).set (by show w.heap.size + 1 + 1 < _; omega) _).set (by show w.heap.size + 1 + 1 < _; omega) _).set (by show w.heap.size + 1 + 1 < _; omega) _).set (by show w.heap.size + 1 + 1 < _; omega) _).set (by show w.heap.size + 1 + 1 < _; omega) _).set (by show w.heap.size + 1 + 1 < _; omega) _).below (Below.refl _ _).drew).low (by omega)
      · exact (((((((((B5.out.1.2.2.2).setCell (Nat.le_add_right _ 1) _).setCell (Nat.le_add_right _ 1) _).setCell (Nat.le_add_right _ 2) _).setCell (Nat.le_add_right _ 2) _).setCell (Nat.le_add_right _ 2) _).setCell (Nat.le_add_right _ 2) _).setCell (Nat.le_add_right _ 2) _).setCell (Nat.le_add_right _ 2) _).drew
end Go.Proofs.Ytnejomfaojpicaa.QuePullI
