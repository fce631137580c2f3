/- What the program's Offer answers, at every queue and request; nothing else turns. -/
import Derived.Test.YtnejomfaojpicaaRows
import Derived.WalkKit
import Derived.WalkSmall
import Derived.BigQuiet
import Derived.Deep.RegionWith
import Derived.Deep.DeepCutAuto
import Derived.Deep.RegionHeld3
import Derived.Test.YtnejomfaojpicaaListKit
import Derived.Test.YtnejomfaojpicaaHoldKit
import Derived.Test.YtnejomfaojpicaaGrowKit
import Derived.Test.YtnejomfaojpicaaReqKit
import Derived.Test.YtnejomfaojpicaaReqOks
import Derived.Test.YtnejomfaojpicaaQueMath
import Derived.Test.YtnejomfaojpicaaQueMiscS
import Derived.Test.YtnejomfaojpicaaQueFindI
import Derived.Test.YtnejomfaojpicaaQueStandI
import Derived.Test.YtnejomfaojpicaaQueTierS
import Derived.Test.YtnejomfaojpicaaQueOutS
import Derived.Test.YtnejomfaojpicaaQueCopyS
import Derived.Test.YtnejomfaojpicaaQuePullS
import Derived.Test.YtnejomfaojpicaaQueWorst
import Derived.Test.YtnejomfaojpicaaQueCloneI
import Derived.Test.YtnejomfaojpicaaQueDelI
import Derived.Test.YtnejomfaojpicaaQuePullI
import Derived.Test.YtnejomfaojpicaaQueOfferS
namespace Go.Proofs.Ytnejomfaojpicaa.QueOfferI
open Go.RowKit ListKit HoldKit GrowKit QueMath QueTierS QueOutS QueCopyS QuePullS QueWorst QueCloneI QueDelI QuePullI QueOfferS
set_option maxRecDepth 8000
set_option linter.unusedVariables false
set_option linter.unusedSimpArgs false

theorem ok_push {x : Int} {L : List ReqKit.Req} (hq : QueOk x L) (s : ReqKit.Req) {t : Int} (ht : AtId L s.x0 t) (G : Bool) (hG : goes true t L s = G) : G = true ↔ ∀ (k : Nat) (h : k < (L ++ [s]).length), okAt (L ++ [s]) k h := by
  have hlen : (L ++ [s]).length = L.length + 1 := by simp
  have hlast : ∀ (h : 0 < L.length), L.getLast? = some (L[L.length - 1]'(by omega)) := fun h => by rw [List.getLast?_eq_getElem?, List.getElem?_eq_getElem (by omega)]
  have hself : (L ++ [s])[L.length]'(by rw [hlen]; omega) = s := by rw [List.getElem_append_right (Nat.le_refl _)]; simp
  have hat : t < 0 ↔ ∀ (j : Nat) (h : j < L.length), L[j].x0 ≠ s.x0 := by
    rcases ht with ⟨h1, h2⟩ | ⟨k, h1, hk, h2, _⟩
    · exact ⟨fun _ => h2, fun _ => by omega⟩
    · exact ⟨fun h => by omega, fun h => absurd h2 (h k hk)⟩
  have hm : (match L.getLast? with | none => true | some l => decide (l.x4 ≤ s.x4)) = true ↔ ∀ (h : 0 < L.length), (L[L.length - 1]'(by omega)).x4 ≤ s.x4 := by
    by_cases h0 : 0 < L.length
    · rw [hlast h0]
      simp only [decide_eq_true_eq]
      exact ⟨fun h _ => h, fun h => h h0⟩
    · have e : L = [] := List.length_eq_zero_iff.1 (by omega)
      subst e
      simp
  rw [← hG]
  unfold goes
  rw [Bool.true_and, Bool.and_eq_true, Bool.and_eq_true, decide_eq_true_eq, hat]
  refine Iff.trans (and_congr Iff.rfl (Iff.trans (by exact Iff.rfl) hm)) ?_
  constructor
  · rintro ⟨⟨h1, h2⟩, h3⟩ k hk
    by_cases hkl : k < L.length
    · obtain ⟨o1, o2, o3⟩ := hq.2.2.2 k hkl
      refine ⟨by rw [List.getElem_append_left hkl]; exact o1, fun j hj => ?_, fun h0 => ?_⟩
      · rw [List.getElem_append_left hkl, List.getElem_append_left (by omega)]
        exact o2 j hj
      · rw [List.getElem_append_left hkl, List.getElem_append_left (by omega)]
        exact o3 h0
    · obtain rfl : k = L.length := by omega
      refine ⟨by rw [hself]; exact h1, fun j hj => ?_, fun h0 => ?_⟩
      · rw [hself, List.getElem_append_left hj]
        exact h2 j hj
      · rw [hself, List.getElem_append_left (by omega)]
        exact h3 h0
  · intro h
    obtain ⟨o1, o2, o3⟩ := h L.length (by omega)
    rw [hself] at o1
    refine ⟨⟨o1, fun j hj => ?_⟩, fun h0 => ?_⟩
    · have h9 := o2 j hj
      rw [hself, List.getElem_append_left hj] at h9
      exact h9
    · have h9 := o3 h0
      rw [hself, List.getElem_append_left (by omega)] at h9
      exact h9
set_option maxHeartbeats 8000000 in
theorem impl_offer (x : Int) (a : Option Addr) (c : Nat) (L : List ReqKit.Req) (r0 r1 r2 r3 r4 r5 t : Int) (B : Bool) (w : World) (h : Own 27 6 ReqKit.cells w a L) (hl : L.length ≤ 1048576) (hc : L.length ≤ c) (bf : Hid (B = true ↔ QueOk x L)) (ht : Hid (AtId L r0 t)) :
    Calls Try.prog 5 #[.agg #[.int .i64 x, .slice a L.length c], .agg #[.int .i64 r0, .int .i64 r1, .int .i64 r2, .int .i64 r3, .int .i64 r4, .int .i64 r5]] w (PAns w (if goes B t L ⟨r0, r1, r2, r3, r4, r5⟩ = true then x else 0) (offL x L ⟨r0, r1, r2, r3, r4, r5⟩ (goes B t L ⟨r0, r1, r2, r3, r4, r5⟩)) (offR x L ⟨r0, r1, r2, r3, r4, r5⟩ (goes B t L ⟨r0, r1, r2, r3, r4, r5⟩)) (goes B t L ⟨r0, r1, r2, r3, r4, r5⟩)) := by
  have HA : Hid (Own 27 6 ReqKit.cells w a L) := h
  have HQ := fun W h => QueStandI.impl_queueok x a c L B W h (by omega) hc bf
  have HC := fun W h => impl_clone a c L W h (by omega)
  clear h
  obtain ⟨n, hn⟩ : ∃ n, L.length = n := ⟨_, rfl⟩
  have HN : Hid (L.length = n) := hn
  obtain ⟨G, hG⟩ : ∃ G, goes B t L ⟨r0, r1, r2, r3, r4, r5⟩ = G := ⟨_, rfl⟩
  rw [hG]
  have HG : Hid (goes B t L ⟨r0, r1, r2, r3, r4, r5⟩ = G) := hG
  obtain ⟨Y, hY⟩ : ∃ Y, (if G = true then x else 0) = Y := ⟨_, rfl⟩
  obtain ⟨M, hM⟩ : ∃ M, offL x L ⟨r0, r1, r2, r3, r4, r5⟩ G = M := ⟨_, rfl⟩
  obtain ⟨R, hR⟩ : ∃ R, offR x L ⟨r0, r1, r2, r3, r4, r5⟩ G = R := ⟨_, rfl⟩
  obtain ⟨V, hV⟩ : ∃ V, G = V := ⟨_, rfl⟩
  have HE : Hid ((if G = true then x else 0) = Y ∧ offL x L ⟨r0, r1, r2, r3, r4, r5⟩ G = M ∧ offR x L ⟨r0, r1, r2, r3, r4, r5⟩ G = R ∧ G = V) := ⟨hY, hM, hR, hV⟩
  have hpost : PAns w (if G = true then x else 0) (offL x L ⟨r0, r1, r2, r3, r4, r5⟩ G) (offR x L ⟨r0, r1, r2, r3, r4, r5⟩ G) G = PAns w Y M R V := by rw [hY, hM, hR, hV]
  rw [hpost]
  rw [hn] at hl hc HQ HC ⊢
  clear hn hY hM hR hV hG hpost
  have B0 : Hid (boxB ((((w.alloc (.cells #[.int .i64 x, .slice a n c] 25)).alloc (.cells #[.int .i64 r0, .int .i64 r1, .int .i64 r2, .int .i64 r3, .int .i64 r4, .int .i64 r5] 27)).alloc (.cells #[.int .i64 0, .slice none 0 0] 25)).alloc (.cells #[.int .i64 0, .int .i64 0, .int .i64 0, .int .i64 0, .int .i64 0, .int .i64 0] 27)) w.heap.size #[.int .i64 x, .slice a n c] 25 ∧ boxB ((((w.alloc (.cells #[.int .i64 x, .slice a n c] 25)).alloc (.cells #[.int .i64 r0, .int .i64 r1, .int .i64 r2, .int .i64 r3, .int .i64 r4, .int .i64 r5] 27)).alloc (.cells #[.int .i64 0, .slice none 0 0] 25)).alloc (.cells #[.int .i64 0, .int .i64 0, .int .i64 0, .int .i64 0, .int .i64 0, .int .i64 0] 27)) (w.heap.size + 1) #[.int .i64 r0, .int .i64 r1, .int .i64 r2, .int .i64 r3, .int .i64 r4, .int .i64 r5] 27 ∧ boxB ((((w.alloc (.cells #[.int .i64 x, .slice a n c] 25)).alloc (.cells #[.int .i64 r0, .int .i64 r1, .int .i64 r2, .int .i64 r3, .int .i64 r4, .int .i64 r5] 27)).alloc (.cells #[.int .i64 0, .slice none 0 0] 25)).alloc (.cells #[.int .i64 0, .int .i64 0, .int .i64 0, .int .i64 0, .int .i64 0, .int .i64 0] 27)) (w.heap.size + 1 + 1) #[.int .i64 0, .slice none 0 0] 25 ∧ boxB ((((w.alloc (.cells #[.int .i64 x, .slice a n c] 25)).alloc (.cells #[.int .i64 r0, .int .i64 r1, .int .i64 r2, .int .i64 r3, .int .i64 r4, .int .i64 r5] 27)).alloc (.cells #[.int .i64 0, .slice none 0 0] 25)).alloc (.cells #[.int .i64 0, .int .i64 0, .int .i64 0, .int .i64 0, .int .i64 0, .int .i64 0] 27)) (w.heap.size + 1 + 1 + 1) #[.int .i64 0, .int .i64 0, .int .i64 0, .int .i64 0, .int .i64 0, .int .i64 0] 27 ∧ Below w.heap.size w ((((w.alloc (.cells #[.int .i64 x, .slice a n c] 25)).alloc (.cells #[.int .i64 r0, .int .i64 r1, .int .i64 r2, .int .i64 r3, .int .i64 r4, .int .i64 r5] 27)).alloc (.cells #[.int .i64 0, .slice none 0 0] 25)).alloc (.cells #[.int .i64 0, .int .i64 0, .int .i64 0, .int .i64 0, .int .i64 0, .int .i64 0] 27))) := ⟨(boxB.new _ _ _).below ((n2 _ _ _).alloc (n2 _ _ _).size _), (new2 _ _ _ _).below (n2 _ _ _), (new3 _ _ _ _ _).below (n1 _ _), new4 _ _ _ _ _ _, n4 _ _ _ _ _⟩
  go_enter Try.func5, Try.ntmps5
  go_wp2_with fail
  refine (HQ _ (HA.out.below B0.out.2.2.2.2)).mono ?_
  rintro e w1 ⟨rfl, b1⟩
  have B1 : Hid (boxB w1 w.heap.size #[.int .i64 x, .slice a n c] 25 ∧ boxB w1 (w.heap.size + 1) #[.int .i64 r0, .int .i64 r1, .int .i64 r2, .int .i64 r3, .int .i64 r4, .int .i64 r5] 27 ∧ boxB w1 (w.heap.size + 1 + 1) #[.int .i64 0, .slice none 0 0] 25 ∧ boxB w1 (w.heap.size + 1 + 1 + 1) #[.int .i64 0, .int .i64 0, .int .i64 0, .int .i64 0, .int .i64 0, .int .i64 0] 27 ∧ Below w.heap.size w w1) := ⟨B0.out.1.below b1, B0.out.2.1.below b1, B0.out.2.2.1.below b1, B0.out.2.2.2.1.below b1, B0.out.2.2.2.2.trans (b1.mono B0.out.2.2.2.2.size)⟩
  have hz1 : w.heap.size + 1 + 1 + 1 < w1.heap.size := B1.out.2.2.2.1.lt
  clear b1 B0 HQ
  cases B with
  | false =>
    obtain rfl : G = false := by rw [← HG.out]; simp [goes]
    have HP : Hid (Y = 0 ∧ M = [] ∧ R = ReqKit.zero ∧ V = false) := ⟨HE.out.1.symm, HE.out.2.1.symm, HE.out.2.2.1.symm, HE.out.2.2.2.symm⟩
    have y0 := B1.out.2.2.1.cell 0
    have z0 := fzB B1.out.2.2.1 0
    have y1 := B1.out.2.2.1.cell 1
    have z1 := fzB B1.out.2.2.1 1
    have d0 := B1.out.2.2.2.1.cell 0
    have f0 := fzB B1.out.2.2.2.1 0
    have d1 := B1.out.2.2.2.1.cell 1
    have f1 := fzB B1.out.2.2.2.1 1
    have d2 := B1.out.2.2.2.1.cell 2
    have f2 := fzB B1.out.2.2.2.1 2
    have d3 := B1.out.2.2.2.1.cell 3
    have f3 := fzB B1.out.2.2.2.1 3
    have d4 := B1.out.2.2.2.1.cell 4
    have f4 := fzB B1.out.2.2.2.1 4
    have d5 := B1.out.2.2.2.1.cell 5
    have f5 := fzB B1.out.2.2.2.1 5
    go_wp2
    refine bodyPost_ret (v := .tuple #[.agg #[.int .i64 0, .slice none 0 0], .agg #[.int .i64 0, .int .i64 0, .int .i64 0, .int .i64 0, .int .i64 0, .int .i64 0], .bool false]) (by simp [results, Try.results5, go_sem, y0, y1, d0, d1, d2, d3, d4, d5]) rfl ?_
    rw [HP.out.1, HP.out.2.1, HP.out.2.2.1, HP.out.2.2.2]
    refine ⟨none, 0, rfl, Nat.le_refl _, Holds.own (L := []) (f := ReqKit.cells) (Or.inl rfl) (fun b hb => by simp [blkL] at hb), ?_⟩
    exact ((((((((B1.out.2.2.2.2).setCell (Nat.le_add_right _ 2) _).setCell (Nat.le_add_right _ 2) _).setCell (Nat.le_add_right _ 3) _).setCell (Nat.le_add_right _ 3) _).setCell (Nat.le_add_right _ 3) _).setCell (Nat.le_add_right _ 3) _).setCell (Nat.le_add_right _ 3) _).setCell (Nat.le_add_right _ 3) _
  | true =>
    have HQO : Hid (QueOk x L) := bf.out.1 rfl
    have HBS : Hid (w.heap.size + 1 + 1 + 1 < w1.heap.size) := hz1
    obtain ⟨p, hp⟩ : ∃ p, n + 1 = p := ⟨_, rfl⟩
    have hpl : p ≤ 1048577 := by omega
    obtain ⟨M9, hM9⟩ : ∃ M9, L ++ [⟨r0, r1, r2, r3, r4, r5⟩] = M9 := ⟨_, rfl⟩
    have HM9 : Hid (L ++ [⟨r0, r1, r2, r3, r4, r5⟩] = M9) := hM9
    have HP9 : Hid (M9.length = p ∧ 0 < p ∧ n + 1 = p) := ⟨by rw [← hM9, List.length_append, HN.out]; exact hp, by omega, hp⟩
    have hst := ok_push HQO.out ⟨r0, r1, r2, r3, r4, r5⟩ ht.out G HG.out
    rw [hM9] at hst
    have HST := fun aa cc W h hc => QueStandI.impl_stand aa cc M9 G W h (by rw [HP9.out.1]; exact hpl) hc hst
    rw [HP9.out.1] at HST
    clear hM9 hp hz1 hst
    obtain ⟨i0, hi, hy0, hy1, hy2⟩ := info_parts info_req
    have S0 : Hid (w1.drew.cell? ⟨w.heap.size, 1, none⟩ = some (.slice a n c) ∧ w1.drew.cell? ⟨w.heap.size + 1, 0, none⟩ = some (.int .i64 r0) ∧ w1.drew.cell? ⟨w.heap.size + 1, 1, none⟩ = some (.int .i64 r1) ∧ w1.drew.cell? ⟨w.heap.size + 1, 2, none⟩ = some (.int .i64 r2) ∧ w1.drew.cell? ⟨w.heap.size + 1, 3, none⟩ = some (.int .i64 r3) ∧ w1.drew.cell? ⟨w.heap.size + 1, 4, none⟩ = some (.int .i64 r4) ∧ w1.drew.cell? ⟨w.heap.size + 1, 5, none⟩ = some (.int .i64 r5)) := ⟨B1.out.1.cell 1, B1.out.2.1.cell 0, B1.out.2.1.cell 1, B1.out.2.1.cell 2, B1.out.2.1.cell 3, B1.out.2.1.cell 4, B1.out.2.1.cell 5⟩
    have l0 := B1.out.1.cell 0
    have l1 := B1.out.1.cell 1
    have ar0 := B1.out.2.1.cell 0
    have ar1 := B1.out.2.1.cell 1
    have ar2 := B1.out.2.1.cell 2
    have ar3 := B1.out.2.1.cell 3
    have ar4 := B1.out.2.1.cell 4
    have ar5 := B1.out.2.1.cell 5
    go_wp2_with fail
    go_region_held3 (fun w' => w'.cell? ⟨w.heap.size, 1, none⟩ = some (.slice a n c) ∧ w'.cell? ⟨w.heap.size + 1, 0, none⟩ = some (.int .i64 r0) ∧ w'.cell? ⟨w.heap.size + 1, 1, none⟩ = some (.int .i64 r1) ∧ w'.cell? ⟨w.heap.size + 1, 2, none⟩ = some (.int .i64 r2) ∧ w'.cell? ⟨w.heap.size + 1, 3, none⟩ = some (.int .i64 r3) ∧ w'.cell? ⟨w.heap.size + 1, 4, none⟩ = some (.int .i64 r4) ∧ w'.cell? ⟨w.heap.size + 1, 5, none⟩ = some (.int .i64 r5)) (first | with_reducible exact S0.out | with_reducible exact S2.out | with_reducible exact S8.out | go_keep) (first | (go_at_call 14; refine (HC w1.drew (HA.out.below B1.out.2.2.2.2.drew)).mono ?_; rintro e w2 ⟨a2, c2, rfl, hcp, b2⟩; have B2 : Hid ((boxB w2 w.heap.size #[.int .i64 x, .slice a n c] 25 ∧ boxB w2 (w.heap.size + 1) #[.int .i64 r0, .int .i64 r1, .int .i64 r2, .int .i64 r3, .int .i64 r4, .int .i64 r5] 27 ∧ boxB w2 (w.heap.size + 1 + 1) #[.int .i64 0, .slice none 0 0] 25 ∧ boxB w2 (w.heap.size + 1 + 1 + 1) #[.int .i64 0, .int .i64 0, .int .i64 0, .int .i64 0, .int .i64 0, .int .i64 0] 27 ∧ Below w.heap.size w w2) ∧ GrowKit.Cp 27 6 ReqKit.cells w2 w1.heap.size (.slice a2 L.length c2) L ∧ w1.heap.size ≤ w2.heap.size) := (by have b4 : Below w1.heap.size w1 w2 := (Below.refl _ w1).drew.trans b2; exact ⟨⟨B1.out.1.below b4, B1.out.2.1.below b4, B1.out.2.2.1.below b4, B1.out.2.2.2.1.below b4, B1.out.2.2.2.2.trans (b4.mono B1.out.2.2.2.2.size)⟩, hcp, b4.size⟩); have S2 : Hid (w2.cell? ⟨w.heap.size, 1, none⟩ = some (.slice a n c) ∧ w2.cell? ⟨w.heap.size + 1, 0, none⟩ = some (.int .i64 r0) ∧ w2.cell? ⟨w.heap.size + 1, 1, none⟩ = some (.int .i64 r1) ∧ w2.cell? ⟨w.heap.size + 1, 2, none⟩ = some (.int .i64 r2) ∧ w2.cell? ⟨w.heap.size + 1, 3, none⟩ = some (.int .i64 r3) ∧ w2.cell? ⟨w.heap.size + 1, 4, none⟩ = some (.int .i64 r4) ∧ w2.cell? ⟨w.heap.size + 1, 5, none⟩ = some (.int .i64 r5)) := ⟨B2.out.1.1.cell 1, B2.out.1.2.1.cell 0, B2.out.1.2.1.cell 1, B2.out.1.2.1.cell 2, B2.out.1.2.1.cell 3, B2.out.1.2.1.cell 4, B2.out.1.2.1.cell 5⟩; rw [HN.out] at B2 ⊢; clear b2 hcp) | (go_at_call 14; refine (HC (w1.alloc (.cells #[.int .i64 r0, .int .i64 r1, .int .i64 r2, .int .i64 r3, .int .i64 r4, .int .i64 r5] 27)).drew (HA.out.below (B1.out.2.2.2.2.trans ((n1 w1 _).drew.mono B1.out.2.2.2.2.size)))).mono ?_; rintro e w2 ⟨a2, c2, rfl, hcp, b2⟩; have B2 : Hid ((boxB w2 w.heap.size #[.int .i64 x, .slice a n c] 25 ∧ boxB w2 (w.heap.size + 1) #[.int .i64 r0, .int .i64 r1, .int .i64 r2, .int .i64 r3, .int .i64 r4, .int .i64 r5] 27 ∧ boxB w2 (w.heap.size + 1 + 1) #[.int .i64 0, .slice none 0 0] 25 ∧ boxB w2 (w.heap.size + 1 + 1 + 1) #[.int .i64 0, .int .i64 0, .int .i64 0, .int .i64 0, .int .i64 0, .int .i64 0] 27 ∧ Below w.heap.size w w2) ∧ GrowKit.Cp 27 6 ReqKit.cells w2 w1.heap.size (.slice a2 L.length c2) L ∧ w1.heap.size < w2.heap.size) := (by have b4 : Below w1.heap.size w1 w2 := (n1 w1 _).drew.trans (b2.mono (n1 w1 _).drew.size); have h5 : (w1.alloc (.cells #[.int .i64 r0, .int .i64 r1, .int .i64 r2, .int .i64 r3, .int .i64 r4, .int .i64 r5] 27)).drew.heap.size = w1.heap.size + 1 := sz1 _ _; exact ⟨⟨B1.out.1.below b4, B1.out.2.1.below b4, B1.out.2.2.1.below b4, B1.out.2.2.2.1.below b4, B1.out.2.2.2.2.trans (b4.mono B1.out.2.2.2.2.size)⟩, Cp.base hcp (by rw [h5]; omega), by have := b2.size; rw [h5] at this; omega⟩); have HTMP : Hid (∀ j u, (ReqKit.cells ⟨r0, r1, r2, r3, r4, r5⟩)[j]? = some u → w2.cell? ((⟨w1.heap.size, 0, none⟩ : Addr).add j) = some u) := (fun j u hu => (b2.cell (by rw [Addr.add_lit]; show w1.heap.size < (w1.alloc (.cells #[.int .i64 r0, .int .i64 r1, .int .i64 r2, .int .i64 r3, .int .i64 r4, .int .i64 r5] 27)).drew.heap.size; rw [show (w1.alloc (.cells #[.int .i64 r0, .int .i64 r1, .int .i64 r2, .int .i64 r3, .int .i64 r4, .int .i64 r5] 27)).drew.heap.size = w1.heap.size + 1 from sz1 _ _]; omega)).trans (new_cells w1 ⟨r0, r1, r2, r3, r4, r5⟩ 27 j u hu)); have S2 : Hid (w2.cell? ⟨w.heap.size, 1, none⟩ = some (.slice a n c) ∧ w2.cell? ⟨w.heap.size + 1, 0, none⟩ = some (.int .i64 r0) ∧ w2.cell? ⟨w.heap.size + 1, 1, none⟩ = some (.int .i64 r1) ∧ w2.cell? ⟨w.heap.size + 1, 2, none⟩ = some (.int .i64 r2) ∧ w2.cell? ⟨w.heap.size + 1, 3, none⟩ = some (.int .i64 r3) ∧ w2.cell? ⟨w.heap.size + 1, 4, none⟩ = some (.int .i64 r4) ∧ w2.cell? ⟨w.heap.size + 1, 5, none⟩ = some (.int .i64 r5)) := ⟨B2.out.1.1.cell 1, B2.out.1.2.1.cell 0, B2.out.1.2.1.cell 1, B2.out.1.2.1.cell 2, B2.out.1.2.1.cell 3, B2.out.1.2.1.cell 4, B2.out.1.2.1.cell 5⟩; rw [HN.out] at B2 ⊢; clear b2 hcp) | (refine step_own (by rfl) (.tmp 16) (.tmp 18) 23 (by rfl) w1.heap.size 27 i0 (.agg #[.int .i64 0, .int .i64 0, .int .i64 0, .int .i64 0, .int .i64 0, .int .i64 0]) 6 48 Try.underlying23 hi hy0 hy1 hy2 (by rfl) (by decide) (.slice a2 n c2) n (flat ReqKit.cells L) (by rfl) (by have h9 := B2.out.2.1.below (n1 w2 (.cells #[.int .i64 r0, .int .i64 r1, .int .i64 r2, .int .i64 r3, .int .i64 r4, .int .i64 r5] 27)); unfold GrowKit.Cp at h9; rw [HN.out] at h9; exact h9) ⟨w2.heap.size, 0, none⟩ 1 1 (ReqKit.cells ⟨r0, r1, r2, r3, r4, r5⟩) (by rfl) (by rfl) (new_cells w2 ⟨r0, r1, r2, r3, r4, r5⟩ 27) (cells_one _) (by unfold maxLen; omega) (by omega) (by rw [sz1]; have := B2.out.2.2; omega) ?_; intro v8 w8 hown hgr; have hcp : GrowKit.Cp 27 6 ReqKit.cells w8 w1.heap.size v8 M9 := (by rw [← HM9.out]; exact Cp.push (by rw [HN.out]; exact hown)); obtain ⟨a8, c8, hv8, hc8, _⟩ := Cp.shape (t := 27) (m := 6) (f := ReqKit.cells) (fun _ => rfl) hcp; rw [HP9.out.1] at hv8 hc8; subst hv8; have hge := B2.out.2.1.ge; have hbz := HBS.out; have B8 : Hid ((boxB w8 w.heap.size #[.int .i64 x, .slice a n c] 25 ∧ boxB w8 (w.heap.size + 1) #[.int .i64 r0, .int .i64 r1, .int .i64 r2, .int .i64 r3, .int .i64 r4, .int .i64 r5] 27 ∧ boxB w8 (w.heap.size + 1 + 1) #[.int .i64 0, .slice none 0 0] 25 ∧ boxB w8 (w.heap.size + 1 + 1 + 1) #[.int .i64 0, .int .i64 0, .int .i64 0, .int .i64 0, .int .i64 0, .int .i64 0] 27 ∧ Below w.heap.size w w8) ∧ GrowKit.Cp 27 6 ReqKit.cells w8 w1.heap.size (.slice a8 p c8) M9 ∧ p ≤ c8) := ⟨⟨box_grown (B2.out.1.1.below (n1 _ _)) hgr (fun e => by have := hge _ e; omega), box_grown (B2.out.1.2.1.below (n1 _ _)) hgr (fun e => by have := hge _ e; omega), box_grown (B2.out.1.2.2.1.below (n1 _ _)) hgr (fun e => by have := hge _ e; omega), box_grown (B2.out.1.2.2.2.1.below (n1 _ _)) hgr (fun e => by have := hge _ e; omega), (B2.out.1.2.2.2.2.alloc B2.out.1.2.2.2.2.size _).grown hgr (Below.size (B2.out.1.2.2.2.2.alloc B2.out.1.2.2.2.2.size _)) (fun q hq => by have := hge _ hq; omega)⟩, hcp, hc8⟩; have S8 : Hid (w8.cell? ⟨w.heap.size, 1, none⟩ = some (.slice a n c) ∧ w8.cell? ⟨w.heap.size + 1, 0, none⟩ = some (.int .i64 r0) ∧ w8.cell? ⟨w.heap.size + 1, 1, none⟩ = some (.int .i64 r1) ∧ w8.cell? ⟨w.heap.size + 1, 2, none⟩ = some (.int .i64 r2) ∧ w8.cell? ⟨w.heap.size + 1, 3, none⟩ = some (.int .i64 r3) ∧ w8.cell? ⟨w.heap.size + 1, 4, none⟩ = some (.int .i64 r4) ∧ w8.cell? ⟨w.heap.size + 1, 5, none⟩ = some (.int .i64 r5)) := ⟨B8.out.1.1.cell 1, B8.out.1.2.1.cell 0, B8.out.1.2.1.cell 1, B8.out.1.2.1.cell 2, B8.out.1.2.1.cell 3, B8.out.1.2.1.cell 4, B8.out.1.2.1.cell 5⟩; clear hown hgr hcp hge hbz hc8) | (refine step_own (by rfl) (.tmp 16) (.tmp 18) 23 (by rfl) w1.heap.size 27 i0 (.agg #[.int .i64 0, .int .i64 0, .int .i64 0, .int .i64 0, .int .i64 0, .int .i64 0]) 6 48 Try.underlying23 hi hy0 hy1 hy2 (by rfl) (by decide) (.slice a2 n c2) n (flat ReqKit.cells L) (by rfl) (by have h9 := B2.out.2.1; unfold GrowKit.Cp at h9; rw [HN.out] at h9; exact h9) ⟨w1.heap.size, 0, none⟩ 1 1 (ReqKit.cells ⟨r0, r1, r2, r3, r4, r5⟩) (by rfl) (by rfl) HTMP.out (cells_one _) (by unfold maxLen; omega) (by omega) (by have := B2.out.2.2; omega) ?_; intro v8 w8 hown hgr; have hcp : GrowKit.Cp 27 6 ReqKit.cells w8 w1.heap.size v8 M9 := (by rw [← HM9.out]; exact Cp.push (by rw [HN.out]; exact hown)); obtain ⟨a8, c8, hv8, hc8, _⟩ := Cp.shape (t := 27) (m := 6) (f := ReqKit.cells) (fun _ => rfl) hcp; rw [HP9.out.1] at hv8 hc8; subst hv8; have hge := B2.out.2.1.ge; have hbz := HBS.out; have B8 : Hid ((boxB w8 w.heap.size #[.int .i64 x, .slice a n c] 25 ∧ boxB w8 (w.heap.size + 1) #[.int .i64 r0, .int .i64 r1, .int .i64 r2, .int .i64 r3, .int .i64 r4, .int .i64 r5] 27 ∧ boxB w8 (w.heap.size + 1 + 1) #[.int .i64 0, .slice none 0 0] 25 ∧ boxB w8 (w.heap.size + 1 + 1 + 1) #[.int .i64 0, .int .i64 0, .int .i64 0, .int .i64 0, .int .i64 0, .int .i64 0] 27 ∧ Below w.heap.size w w8) ∧ GrowKit.Cp 27 6 ReqKit.cells w8 w1.heap.size (.slice a8 p c8) M9 ∧ p ≤ c8) := ⟨⟨box_grown (B2.out.1.1) hgr (fun e => by have := hge _ e; omega), box_grown (B2.out.1.2.1) hgr (fun e => by have := hge _ e; omega), box_grown (B2.out.1.2.2.1) hgr (fun e => by have := hge _ e; omega), box_grown (B2.out.1.2.2.2.1) hgr (fun e => by have := hge _ e; omega), (B2.out.1.2.2.2.2).grown hgr (Below.size (B2.out.1.2.2.2.2)) (fun q hq => by have := hge _ hq; omega)⟩, hcp, hc8⟩; have S8 : Hid (w8.cell? ⟨w.heap.size, 1, none⟩ = some (.slice a n c) ∧ w8.cell? ⟨w.heap.size + 1, 0, none⟩ = some (.int .i64 r0) ∧ w8.cell? ⟨w.heap.size + 1, 1, none⟩ = some (.int .i64 r1) ∧ w8.cell? ⟨w.heap.size + 1, 2, none⟩ = some (.int .i64 r2) ∧ w8.cell? ⟨w.heap.size + 1, 3, none⟩ = some (.int .i64 r3) ∧ w8.cell? ⟨w.heap.size + 1, 4, none⟩ = some (.int .i64 r4) ∧ w8.cell? ⟨w.heap.size + 1, 5, none⟩ = some (.int .i64 r5)) := ⟨B8.out.1.1.cell 1, B8.out.1.2.1.cell 0, B8.out.1.2.1.cell 1, B8.out.1.2.1.cell 2, B8.out.1.2.1.cell 3, B8.out.1.2.1.cell 4, B8.out.1.2.1.cell 5⟩; clear hown hgr hcp hge hbz hc8))
    all_goals
      clear l0 l1 ar0 ar1 ar2 ar3 ar4 ar5
      have hc8 : p ≤ c8 := B8.out.2.2
      have hz8 : w.heap.size + 1 + 1 + 1 < w8.heap.size := B8.out.1.2.2.2.1.lt
      go_wp2_with fail
      refine (HST a8 c8 _ (by have h9 := B8.out.2.1; rw [← HP9.out.1] at h9; exact (cp_own h9).1) hc8).mono ?_
      rintro e w3 ⟨rfl, b3⟩
      have B3 : Hid ((boxB w3 w.heap.size #[.int .i64 x, .slice a n c] 25 ∧ boxB w3 (w.heap.size + 1) #[.int .i64 r0, .int .i64 r1, .int .i64 r2, .int .i64 r3, .int .i64 r4, .int .i64 r5] 27 ∧ boxB w3 (w.heap.size + 1 + 1) #[.int .i64 0, .slice none 0 0] 25 ∧ boxB w3 (w.heap.size + 1 + 1 + 1) #[.int .i64 0, .int .i64 0, .int .i64 0, .int .i64 0, .int .i64 0, .int .i64 0] 27 ∧ Below w.heap.size w w3) ∧ GrowKit.Cp 27 6 ReqKit.cells w3 w1.heap.size (.slice a8 p c8) M9) := ⟨⟨B8.out.1.1.below b3, B8.out.1.2.1.below b3, B8.out.1.2.2.1.below b3, B8.out.1.2.2.2.1.below b3, B8.out.1.2.2.2.2.trans (b3.mono B8.out.1.2.2.2.2.size)⟩, B8.out.2.1.below b3⟩
      have hz3 : w.heap.size + 1 + 1 + 1 < w3.heap.size := B3.out.1.2.2.2.1.lt
      clear b3 B8 HST hz8
      cases G with
      | false =>
        have HP : Hid (Y = 0 ∧ M = [] ∧ R = ReqKit.zero ∧ V = false) := ⟨HE.out.1.symm, HE.out.2.1.symm, HE.out.2.2.1.symm, HE.out.2.2.2.symm⟩
        have y0 := B3.out.1.2.2.1.cell 0
        have z0 := fzB B3.out.1.2.2.1 0
        have y1 := B3.out.1.2.2.1.cell 1
        have z1 := fzB B3.out.1.2.2.1 1
        have d0 := B3.out.1.2.2.2.1.cell 0
        have f0 := fzB B3.out.1.2.2.2.1 0
        have d1 := B3.out.1.2.2.2.1.cell 1
        have f1 := fzB B3.out.1.2.2.2.1 1
        have d2 := B3.out.1.2.2.2.1.cell 2
        have f2 := fzB B3.out.1.2.2.2.1 2
        have d3 := B3.out.1.2.2.2.1.cell 3
        have f3 := fzB B3.out.1.2.2.2.1 3
        have d4 := B3.out.1.2.2.2.1.cell 4
        have f4 := fzB B3.out.1.2.2.2.1 4
        have d5 := B3.out.1.2.2.2.1.cell 5
        have f5 := fzB B3.out.1.2.2.2.1 5
        go_wp2
        refine bodyPost_ret (v := .tuple #[.agg #[.int .i64 0, .slice none 0 0], .agg #[.int .i64 0, .int .i64 0, .int .i64 0, .int .i64 0, .int .i64 0, .int .i64 0], .bool false]) (by simp [results, Try.results5, go_sem, y0, y1, d0, d1, d2, d3, d4, d5]) rfl ?_
        rw [HP.out.1, HP.out.2.1, HP.out.2.2.1, HP.out.2.2.2]
        refine ⟨none, 0, rfl, Nat.le_refl _, Holds.own (L := []) (f := ReqKit.cells) (Or.inl rfl) (fun b hb => by simp [blkL] at hb), ?_⟩
        exact ((((((((B3.out.1.2.2.2.2).setCell (Nat.le_add_right _ 2) _).setCell (Nat.le_add_right _ 2) _).setCell (Nat.le_add_right _ 3) _).setCell (Nat.le_add_right _ 3) _).setCell (Nat.le_add_right _ 3) _).setCell (Nat.le_add_right _ 3) _).setCell (Nat.le_add_right _ 3) _).setCell (Nat.le_add_right _ 3) _
      | true =>
        obtain ⟨T8, hT8⟩ : ∃ T8, w3.heap.size = T8 := ⟨_, rfl⟩
        have HT8 : Hid (w.heap.size + 1 + 1 + 1 < T8 ∧ ∀ gg, (Value.slice a8 p c8).ownBlock = some gg → gg < T8) := ⟨by rw [← hT8]; exact hz3, fun gg hgg => by rw [← hT8]; exact B3.out.2.lt gg hgg⟩
        have B9 : Hid ((boxB (w3.alloc (.cells #[.int .i64 0, .int .i64 0, .int .i64 0, .int .i64 0, .int .i64 0, .int .i64 0] 27)) w.heap.size #[.int .i64 x, .slice a n c] 25 ∧ boxB (w3.alloc (.cells #[.int .i64 0, .int .i64 0, .int .i64 0, .int .i64 0, .int .i64 0, .int .i64 0] 27)) (w.heap.size + 1) #[.int .i64 r0, .int .i64 r1, .int .i64 r2, .int .i64 r3, .int .i64 r4, .int .i64 r5] 27 ∧ boxB (w3.alloc (.cells #[.int .i64 0, .int .i64 0, .int .i64 0, .int .i64 0, .int .i64 0, .int .i64 0] 27)) (w.heap.size + 1 + 1) #[.int .i64 0, .slice none 0 0] 25 ∧ boxB (w3.alloc (.cells #[.int .i64 0, .int .i64 0, .int .i64 0, .int .i64 0, .int .i64 0, .int .i64 0] 27)) (w.heap.size + 1 + 1 + 1) #[.int .i64 0, .int .i64 0, .int .i64 0, .int .i64 0, .int .i64 0, .int .i64 0] 27 ∧ Below w.heap.size w (w3.alloc (.cells #[.int .i64 0, .int .i64 0, .int .i64 0, .int .i64 0, .int .i64 0, .int .i64 0] 27))) ∧ GrowKit.Cp 27 6 ReqKit.cells (w3.alloc (.cells #[.int .i64 0, .int .i64 0, .int .i64 0, .int .i64 0, .int .i64 0, .int .i64 0] 27)) w1.heap.size (.slice a8 p c8) M9 ∧ boxB (w3.alloc (.cells #[.int .i64 0, .int .i64 0, .int .i64 0, .int .i64 0, .int .i64 0, .int .i64 0] 27)) T8 #[.int .i64 0, .int .i64 0, .int .i64 0, .int .i64 0, .int .i64 0, .int .i64 0] 27) := by
          have h9 := boxB.new w3 #[.int .i64 0, .int .i64 0, .int .i64 0, .int .i64 0, .int .i64 0, .int .i64 0] 27
          rw [hT8] at h9
          exact ⟨⟨B3.out.1.1.below (n1 _ _), B3.out.1.2.1.below (n1 _ _), B3.out.1.2.2.1.below (n1 _ _), B3.out.1.2.2.2.1.below (n1 _ _), B3.out.1.2.2.2.2.trans ((n1 _ _).mono B3.out.1.2.2.2.2.size)⟩, B3.out.2.below (n1 _ _), h9⟩
        clear hz3 B3
        go_upto_region 7 with fail
        try rw [hT8]
        clear hT8
        generalize (w3.alloc (.cells #[.int .i64 0, .int .i64 0, .int .i64 0, .int .i64 0, .int .i64 0, .int .i64 0] 27)) = W9 at *
        have l0 := B9.out.1.1.cell 0
        by_cases fit : (p : Int) ≤ x
        · have fd : decide (x < (p : Int)) = false := by simp; omega
          have HP : Hid (Y = x ∧ M = M9 ∧ R = ReqKit.zero ∧ V = true) := ⟨HE.out.1.symm, by rw [← HE.out.2.1]; unfold offL; rw [if_pos rfl, HM9.out, HP9.out.1, if_pos fit], by rw [← HE.out.2.2.1]; unfold offR; rw [if_pos rfl, HM9.out, HP9.out.1, if_pos fit], HE.out.2.2.2.symm⟩
          clear fit
          go_upto_region 9 with fail
          clear l0
          have hT9 := HT8.out.1
          have hBS9 := HBS.out
          have S9 : Hid (W9.cell? ⟨w.heap.size, 0, none⟩ = some (.int .i64 x) ∧ W9.cell? ⟨T8, 0, none⟩ = some (.int .i64 0) ∧ W9.cell? ⟨T8, 1, none⟩ = some (.int .i64 0) ∧ W9.cell? ⟨T8, 2, none⟩ = some (.int .i64 0) ∧ W9.cell? ⟨T8, 3, none⟩ = some (.int .i64 0) ∧ W9.cell? ⟨T8, 4, none⟩ = some (.int .i64 0) ∧ W9.cell? ⟨T8, 5, none⟩ = some (.int .i64 0)) := ⟨B9.out.1.1.cell 0, B9.out.2.2.cell 0, B9.out.2.2.cell 1, B9.out.2.2.cell 2, B9.out.2.2.cell 3, B9.out.2.2.cell 4, B9.out.2.2.cell 5⟩
          have ED : Hid (∀ W : World, (W.cell? ⟨w.heap.size, 0, none⟩ = some (.int .i64 x) ∧ W.cell? ⟨T8, 0, none⟩ = some (.int .i64 0) ∧ W.cell? ⟨T8, 1, none⟩ = some (.int .i64 0) ∧ W.cell? ⟨T8, 2, none⟩ = some (.int .i64 0) ∧ W.cell? ⟨T8, 3, none⟩ = some (.int .i64 0) ∧ W.cell? ⟨T8, 4, none⟩ = some (.int .i64 0) ∧ W.cell? ⟨T8, 5, none⟩ = some (.int .i64 0)) → (W.drew.cell? ⟨w.heap.size, 0, none⟩ = some (.int .i64 x) ∧ W.drew.cell? ⟨T8, 0, none⟩ = some (.int .i64 0) ∧ W.drew.cell? ⟨T8, 1, none⟩ = some (.int .i64 0) ∧ W.drew.cell? ⟨T8, 2, none⟩ = some (.int .i64 0) ∧ W.drew.cell? ⟨T8, 3, none⟩ = some (.int .i64 0) ∧ W.drew.cell? ⟨T8, 4, none⟩ = some (.int .i64 0) ∧ W.drew.cell? ⟨T8, 5, none⟩ = some (.int .i64 0))) := fun W h => h
          have S0 : Hid (W9.drew.cell? ⟨w.heap.size, 0, none⟩ = some (.int .i64 x) ∧ W9.drew.cell? ⟨T8, 0, none⟩ = some (.int .i64 0) ∧ W9.drew.cell? ⟨T8, 1, none⟩ = some (.int .i64 0) ∧ W9.drew.cell? ⟨T8, 2, none⟩ = some (.int .i64 0) ∧ W9.drew.cell? ⟨T8, 3, none⟩ = some (.int .i64 0) ∧ W9.drew.cell? ⟨T8, 4, none⟩ = some (.int .i64 0) ∧ W9.drew.cell? ⟨T8, 5, none⟩ = some (.int .i64 0)) := S9.out
          have EQ : Hid (∀ (W : World) (j : Nat) (u : Value), (W.cell? ⟨w.heap.size, 0, none⟩ = some (.int .i64 x) ∧ W.cell? ⟨T8, 0, none⟩ = some (.int .i64 0) ∧ W.cell? ⟨T8, 1, none⟩ = some (.int .i64 0) ∧ W.cell? ⟨T8, 2, none⟩ = some (.int .i64 0) ∧ W.cell? ⟨T8, 3, none⟩ = some (.int .i64 0) ∧ W.cell? ⟨T8, 4, none⟩ = some (.int .i64 0) ∧ W.cell? ⟨T8, 5, none⟩ = some (.int .i64 0)) → ((W.setCell ⟨w.heap.size + 1 + 1, j, none⟩ u).cell? ⟨w.heap.size, 0, none⟩ = some (.int .i64 x) ∧ (W.setCell ⟨w.heap.size + 1 + 1, j, none⟩ u).cell? ⟨T8, 0, none⟩ = some (.int .i64 0) ∧ (W.setCell ⟨w.heap.size + 1 + 1, j, none⟩ u).cell? ⟨T8, 1, none⟩ = some (.int .i64 0) ∧ (W.setCell ⟨w.heap.size + 1 + 1, j, none⟩ u).cell? ⟨T8, 2, none⟩ = some (.int .i64 0) ∧ (W.setCell ⟨w.heap.size + 1 + 1, j, none⟩ u).cell? ⟨T8, 3, none⟩ = some (.int .i64 0) ∧ (W.setCell ⟨w.heap.size + 1 + 1, j, none⟩ u).cell? ⟨T8, 4, none⟩ = some (.int .i64 0) ∧ (W.setCell ⟨w.heap.size + 1 + 1, j, none⟩ u).cell? ⟨T8, 5, none⟩ = some (.int .i64 0))) := fun W j u h => seven_set (by show w.heap.size ≠ w.heap.size + 1 + 1; omega) (by show T8 ≠ w.heap.size + 1 + 1; omega) h
          have ER : Hid (∀ (W : World) (j : Nat) (u : Value), (W.cell? ⟨w.heap.size, 0, none⟩ = some (.int .i64 x) ∧ W.cell? ⟨T8, 0, none⟩ = some (.int .i64 0) ∧ W.cell? ⟨T8, 1, none⟩ = some (.int .i64 0) ∧ W.cell? ⟨T8, 2, none⟩ = some (.int .i64 0) ∧ W.cell? ⟨T8, 3, none⟩ = some (.int .i64 0) ∧ W.cell? ⟨T8, 4, none⟩ = some (.int .i64 0) ∧ W.cell? ⟨T8, 5, none⟩ = some (.int .i64 0)) → ((W.setCell ⟨w.heap.size + 1 + 1 + 1, j, none⟩ u).cell? ⟨w.heap.size, 0, none⟩ = some (.int .i64 x) ∧ (W.setCell ⟨w.heap.size + 1 + 1 + 1, j, none⟩ u).cell? ⟨T8, 0, none⟩ = some (.int .i64 0) ∧ (W.setCell ⟨w.heap.size + 1 + 1 + 1, j, none⟩ u).cell? ⟨T8, 1, none⟩ = some (.int .i64 0) ∧ (W.setCell ⟨w.heap.size + 1 + 1 + 1, j, none⟩ u).cell? ⟨T8, 2, none⟩ = some (.int .i64 0) ∧ (W.setCell ⟨w.heap.size + 1 + 1 + 1, j, none⟩ u).cell? ⟨T8, 3, none⟩ = some (.int .i64 0) ∧ (W.setCell ⟨w.heap.size + 1 + 1 + 1, j, none⟩ u).cell? ⟨T8, 4, none⟩ = some (.int .i64 0) ∧ (W.setCell ⟨w.heap.size + 1 + 1 + 1, j, none⟩ u).cell? ⟨T8, 5, none⟩ = some (.int .i64 0))) := fun W j u h => seven_set (by show w.heap.size ≠ w.heap.size + 1 + 1 + 1; omega) (by show T8 ≠ w.heap.size + 1 + 1 + 1; omega) h
          have y0 := B9.out.1.2.2.1.cell 0
          have z0 := fzB B9.out.1.2.2.1 0
          have y1 := B9.out.1.2.2.1.cell 1
          have z1 := fzB B9.out.1.2.2.1 1
          have d0 := B9.out.1.2.2.2.1.cell 0
          have f0 := fzB B9.out.1.2.2.2.1 0
          have d1 := B9.out.1.2.2.2.1.cell 1
          have f1 := fzB B9.out.1.2.2.2.1 1
          have d2 := B9.out.1.2.2.2.1.cell 2
          have f2 := fzB B9.out.1.2.2.2.1 2
          have d3 := B9.out.1.2.2.2.1.cell 3
          have f3 := fzB B9.out.1.2.2.2.1 3
          have d4 := B9.out.1.2.2.2.1.cell 4
          have f4 := fzB B9.out.1.2.2.2.1 4
          have d5 := B9.out.1.2.2.2.1.cell 5
          have f5 := fzB B9.out.1.2.2.2.1 5
          go_wp2_with fail
          go_region_held3 (fun w' => w'.cell? ⟨w.heap.size, 0, none⟩ = some (.int .i64 x) ∧ w'.cell? ⟨T8, 0, none⟩ = some (.int .i64 0) ∧ w'.cell? ⟨T8, 1, none⟩ = some (.int .i64 0) ∧ w'.cell? ⟨T8, 2, none⟩ = some (.int .i64 0) ∧ w'.cell? ⟨T8, 3, none⟩ = some (.int .i64 0) ∧ w'.cell? ⟨T8, 4, none⟩ = some (.int .i64 0) ∧ w'.cell? ⟨T8, 5, none⟩ = some (.int .i64 0)) (first | with_reducible exact S0.out | with_reducible exact S9.out | with_reducible exact ED.out _ (EQ.out _ _ _ (EQ.out _ _ _ (S9.out))) | with_reducible exact EQ.out _ _ _ (EQ.out _ _ _ (S0.out)) | with_reducible exact ED.out _ (ER.out _ _ _ (ER.out _ _ _ (ER.out _ _ _ (ER.out _ _ _ (ER.out _ _ _ (ER.out _ _ _ (EQ.out _ _ _ (EQ.out _ _ _ (S9.out))))))))) | with_reducible exact EQ.out _ _ _ (EQ.out _ _ _ (S9.out)) | with_reducible exact ER.out _ _ _ (ER.out _ _ _ (ER.out _ _ _ (ER.out _ _ _ (ER.out _ _ _ (ER.out _ _ _ (EQ.out _ _ _ (EQ.out _ _ _ (S9.out)))))))) | with_reducible exact ER.out _ _ _ (ER.out _ _ _ (ER.out _ _ _ (ER.out _ _ _ (ER.out _ _ _ (ER.out _ _ _ (EQ.out _ _ _ (EQ.out _ _ _ (S0.out))))))))) (fail)
          go_wp2
          refine bodyPost_ret (v := .tuple #[.agg #[.int .i64 x, .slice a8 p c8], .agg #[.int .i64 0, .int .i64 0, .int .i64 0, .int .i64 0, .int .i64 0, .int .i64 0], .bool true]) (by simp [results, Try.results5, go_sem, y0, y1, d0, d1, d2, d3, d4, d5]) rfl ?_
          rw [HP.out.1, HP.out.2.1, HP.out.2.2.1, HP.out.2.2.2]
          have HC9 := B9.out.2.1
          rw [← HP9.out.1] at HC9
          refine ⟨_, _, by rw [HP9.out.1]; rfl, (cp_own HC9).2.1, ?_, ?_⟩
          · exact (((((((((((cp_own HC9).2.2).set (by show w.heap.size + 1 + 1 < _; omega) _).set (by show w.heap.size + 1 + 1 < _; omega) _).set (by show w.heap.size + 1 + 1 + 1 < _; omega) _).set (by show w.heap.size + 1 + 1 + 1 < _; omega) _).set (by show w.heap.size + 1 + 1 + 1 < _; omega) _).set (by show w.heap.size + 1 + 1 + 1 < _; omega) _).set (by show w.heap.size + 1 + 1 + 1 < _; omega) _).set (by show w.heap.size + 1 + 1 + 1 < _; omega) _).below (Below.refl _ _).drew).low (by omega)
          · exact (((((((((B9.out.1.2.2.2.2).setCell (Nat.le_add_right _ 2) _).setCell (Nat.le_add_right _ 2) _).setCell (Nat.le_add_right _ 3) _).setCell (Nat.le_add_right _ 3) _).setCell (Nat.le_add_right _ 3) _).setCell (Nat.le_add_right _ 3) _).setCell (Nat.le_add_right _ 3) _).setCell (Nat.le_add_right _ 3) _).drew
        · have fd : decide (x < (p : Int)) = true := by simp; omega
          obtain ⟨g8, hag8, hg8⟩ := cp_at (by have h9 := B9.out.2.1; rw [← HP9.out.1] at h9; exact h9) (by have := HP9.out; omega)
          subst hag8
          have HG8 : Hid (g8 < T8 ∧ w1.heap.size ≤ g8 ∧ w.heap.size + 1 + 1 + 1 < g8) := ⟨HT8.out.2 g8 rfl, hg8, by have := HBS.out; omega⟩
          have HWP := fun W h => worst_place (some ⟨g8, 0, none⟩) c8 M9 W h (by rw [HP9.out.1]; exact hpl) (by rw [HP9.out.1]; exact hc8)
          rw [HP9.out.1] at HWP
          obtain ⟨q, hq⟩ : ∃ q, worstTo M9 p = q := ⟨_, rfl⟩
          have HWT : Hid (worstTo M9 M9.length = q) := by show _ = _; rw [HP9.out.1]; exact hq
          have hq2 : q < M9.length := by rw [← HWT.out]; exact worst_lt M9 (by have := HP9.out; omega) _ (Nat.le_refl _)
          rw [hq] at HWP
          obtain ⟨se, hse⟩ : ∃ s, M9[q] = s := ⟨_, rfl⟩
          obtain ⟨e0, e1, e2, e3, e4, e5⟩ := se
          obtain ⟨m, hm⟩ : ∃ m, (less M9 q).length = m := ⟨_, rfl⟩
          have HM : Hid ((less M9 q).length = m) := hm
          have HWO := fun W h => without_as w1.heap.size g8 c8 q p m M9 e0 e1 e2 e3 e4 e5 W HP9.out.1 hm h hq2 hse hpl
          have HP : Hid (Y = x ∧ M = less M9 q ∧ R = ⟨e0, e1, e2, e3, e4, e5⟩ ∧ V = true) := ⟨HE.out.1.symm, by rw [← HE.out.2.1, ← less_out M9 q hq2]; unfold offL; rw [if_pos rfl, HM9.out, if_neg (by rw [HP9.out.1]; exact fit), HWT.out], by rw [← HE.out.2.2.1]; unfold offR; rw [if_pos rfl, HM9.out, if_neg (by rw [HP9.out.1]; exact fit), HWT.out, List.getElem?_eq_getElem hq2, hse]; rfl, HE.out.2.2.2.symm⟩
          clear fit hq hm hse hg8
          go_wp2_with fail
          refine (HWP _ (by have h9 := B9.out.2.1; rw [← HP9.out.1] at h9; exact (cp_own h9).1)).mono ?_
          rintro e w4 ⟨rfl, b4⟩
          have B4 : Hid ((boxB w4 w.heap.size #[.int .i64 x, .slice a n c] 25 ∧ boxB w4 (w.heap.size + 1) #[.int .i64 r0, .int .i64 r1, .int .i64 r2, .int .i64 r3, .int .i64 r4, .int .i64 r5] 27 ∧ boxB w4 (w.heap.size + 1 + 1) #[.int .i64 0, .slice none 0 0] 25 ∧ boxB w4 (w.heap.size + 1 + 1 + 1) #[.int .i64 0, .int .i64 0, .int .i64 0, .int .i64 0, .int .i64 0, .int .i64 0] 27 ∧ Below w.heap.size w w4) ∧ GrowKit.Cp 27 6 ReqKit.cells w4 w1.heap.size (.slice (some ⟨g8, 0, none⟩) p c8) M9 ∧ boxB w4 T8 #[.int .i64 0, .int .i64 0, .int .i64 0, .int .i64 0, .int .i64 0, .int .i64 0] 27) := ⟨⟨B9.out.1.1.below b4, B9.out.1.2.1.below b4, B9.out.1.2.2.1.below b4, B9.out.1.2.2.2.1.below b4, B9.out.1.2.2.2.2.trans (b4.mono B9.out.1.2.2.2.2.size)⟩, B9.out.2.1.below b4, B9.out.2.2.below b4⟩
          clear b4 B9 l0 HWP
          go_wp2_with fail
          refine (HWO _ B4.out.2.1).mono ?_
          rintro e w5 ⟨rfl, hcp, hgr⟩
          have B5 : Hid ((boxB w5 w.heap.size #[.int .i64 x, .slice a n c] 25 ∧ boxB w5 (w.heap.size + 1) #[.int .i64 r0, .int .i64 r1, .int .i64 r2, .int .i64 r3, .int .i64 r4, .int .i64 r5] 27 ∧ boxB w5 (w.heap.size + 1 + 1) #[.int .i64 0, .slice none 0 0] 25 ∧ boxB w5 (w.heap.size + 1 + 1 + 1) #[.int .i64 0, .int .i64 0, .int .i64 0, .int .i64 0, .int .i64 0, .int .i64 0] 27 ∧ Below w.heap.size w w5) ∧ GrowKit.Cp 27 6 ReqKit.cells w5 w1.heap.size (.slice (some ⟨g8, 0, none⟩) m c8) (less M9 q) ∧ boxB w5 T8 #[.int .i64 0, .int .i64 0, .int .i64 0, .int .i64 0, .int .i64 0, .int .i64 0] 27) := by
            have h9 := HG8.out
            refine ⟨⟨box_grown B4.out.1.1 hgr (fun e => by injection e with e; omega), box_grown B4.out.1.2.1 hgr (fun e => by injection e with e; omega), box_grown B4.out.1.2.2.1 hgr (fun e => by injection e with e; omega), box_grown B4.out.1.2.2.2.1 hgr (fun e => by injection e with e; omega), B4.out.1.2.2.2.2.grown hgr (Below.size B4.out.1.2.2.2.2) (fun q hq => by injection hq with hq; omega)⟩, hcp, box_grown B4.out.2.2 hgr (fun e => by injection e with e; omega)⟩
          clear hcp hgr B4 HWO
          have k0 := B5.out.2.2.cell 0
          have kz0 := fzB B5.out.2.2 0
          have k1 := B5.out.2.2.cell 1
          have kz1 := fzB B5.out.2.2 1
          have k2 := B5.out.2.2.cell 2
          have kz2 := fzB B5.out.2.2 2
          have k3 := B5.out.2.2.cell 3
          have kz3 := fzB B5.out.2.2 3
          have k4 := B5.out.2.2.cell 4
          have kz4 := fzB B5.out.2.2 4
          have k5 := B5.out.2.2.cell 5
          have kz5 := fzB B5.out.2.2 5
          go_upto_region 9 with fail
          have B9 : Hid ((boxB ((((((w5.setCell ⟨T8, 0, none⟩ (.int .i64 e0)).setCell ⟨T8, 1, none⟩ (.int .i64 e1)).setCell ⟨T8, 2, none⟩ (.int .i64 e2)).setCell ⟨T8, 3, none⟩ (.int .i64 e3)).setCell ⟨T8, 4, none⟩ (.int .i64 e4)).setCell ⟨T8, 5, none⟩ (.int .i64 e5)) w.heap.size #[.int .i64 x, .slice a n c] 25 ∧ boxB ((((((w5.setCell ⟨T8, 0, none⟩ (.int .i64 e0)).setCell ⟨T8, 1, none⟩ (.int .i64 e1)).setCell ⟨T8, 2, none⟩ (.int .i64 e2)).setCell ⟨T8, 3, none⟩ (.int .i64 e3)).setCell ⟨T8, 4, none⟩ (.int .i64 e4)).setCell ⟨T8, 5, none⟩ (.int .i64 e5)) (w.heap.size + 1) #[.int .i64 r0, .int .i64 r1, .int .i64 r2, .int .i64 r3, .int .i64 r4, .int .i64 r5] 27 ∧ boxB ((((((w5.setCell ⟨T8, 0, none⟩ (.int .i64 e0)).setCell ⟨T8, 1, none⟩ (.int .i64 e1)).setCell ⟨T8, 2, none⟩ (.int .i64 e2)).setCell ⟨T8, 3, none⟩ (.int .i64 e3)).setCell ⟨T8, 4, none⟩ (.int .i64 e4)).setCell ⟨T8, 5, none⟩ (.int .i64 e5)) (w.heap.size + 1 + 1) #[.int .i64 0, .slice none 0 0] 25 ∧ boxB ((((((w5.setCell ⟨T8, 0, none⟩ (.int .i64 e0)).setCell ⟨T8, 1, none⟩ (.int .i64 e1)).setCell ⟨T8, 2, none⟩ (.int .i64 e2)).setCell ⟨T8, 3, none⟩ (.int .i64 e3)).setCell ⟨T8, 4, none⟩ (.int .i64 e4)).setCell ⟨T8, 5, none⟩ (.int .i64 e5)) (w.heap.size + 1 + 1 + 1) #[.int .i64 0, .int .i64 0, .int .i64 0, .int .i64 0, .int .i64 0, .int .i64 0] 27 ∧ Below w.heap.size w ((((((w5.setCell ⟨T8, 0, none⟩ (.int .i64 e0)).setCell ⟨T8, 1, none⟩ (.int .i64 e1)).setCell ⟨T8, 2, none⟩ (.int .i64 e2)).setCell ⟨T8, 3, none⟩ (.int .i64 e3)).setCell ⟨T8, 4, none⟩ (.int .i64 e4)).setCell ⟨T8, 5, none⟩ (.int .i64 e5))) ∧ GrowKit.Cp 27 6 ReqKit.cells ((((((w5.setCell ⟨T8, 0, none⟩ (.int .i64 e0)).setCell ⟨T8, 1, none⟩ (.int .i64 e1)).setCell ⟨T8, 2, none⟩ (.int .i64 e2)).setCell ⟨T8, 3, none⟩ (.int .i64 e3)).setCell ⟨T8, 4, none⟩ (.int .i64 e4)).setCell ⟨T8, 5, none⟩ (.int .i64 e5)) w1.heap.size (.slice (some ⟨g8, 0, none⟩) m c8) (less M9 q) ∧ boxB ((((((w5.setCell ⟨T8, 0, none⟩ (.int .i64 e0)).setCell ⟨T8, 1, none⟩ (.int .i64 e1)).setCell ⟨T8, 2, none⟩ (.int .i64 e2)).setCell ⟨T8, 3, none⟩ (.int .i64 e3)).setCell ⟨T8, 4, none⟩ (.int .i64 e4)).setCell ⟨T8, 5, none⟩ (.int .i64 e5)) T8 #[.int .i64 e0, .int .i64 e1, .int .i64 e2, .int .i64 e3, .int .i64 e4, .int .i64 e5] 27) := by
            have h8 := HT8.out.1
            have h7 := HG8.out
            have hne : ∀ j, (Value.slice (some ⟨g8, 0, none⟩) m c8).ownBlock ≠ some (⟨T8, j, none⟩ : Addr).block := fun j e => by have e2 : some g8 = some T8 := e; injection e2 with e2; omega
            refine ⟨⟨((((((B5.out.1.1).else (by show w.heap.size ≠ T8; omega) _).else (by show w.heap.size ≠ T8; omega) _).else (by show w.heap.size ≠ T8; omega) _).else (by show w.heap.size ≠ T8; omega) _).else (by show w.heap.size ≠ T8; omega) _).else (by show w.heap.size ≠ T8; omega) _, ((((((B5.out.1.2.1).else (by show w.heap.size + 1 ≠ T8; omega) _).else (by show w.heap.size + 1 ≠ T8; omega) _).else (by show w.heap.size + 1 ≠ T8; omega) _).else (by show w.heap.size + 1 ≠ T8; omega) _).else (by show w.heap.size + 1 ≠ T8; omega) _).else (by show w.heap.size + 1 ≠ T8; omega) _, ((((((B5.out.1.2.2.1).else (by show w.heap.size + 1 + 1 ≠ T8; omega) _).else (by show w.heap.size + 1 + 1 ≠ T8; omega) _).else (by show w.heap.size + 1 + 1 ≠ T8; omega) _).else (by show w.heap.size + 1 + 1 ≠ T8; omega) _).else (by show w.heap.size + 1 + 1 ≠ T8; omega) _).else (by show w.heap.size + 1 + 1 ≠ T8; omega) _, ((((((B5.out.1.2.2.2.1).else (by show w.heap.size + 1 + 1 + 1 ≠ T8; omega) _).else (by show w.heap.size + 1 + 1 + 1 ≠ T8; omega) _).else (by show w.heap.size + 1 + 1 + 1 ≠ T8; omega) _).else (by show w.heap.size + 1 + 1 + 1 ≠ T8; omega) _).else (by show w.heap.size + 1 + 1 + 1 ≠ T8; omega) _).else (by show w.heap.size + 1 + 1 + 1 ≠ T8; omega) _, ((((((B5.out.1.2.2.2.2).setCell (by show w.heap.size ≤ T8; omega) _).setCell (by show w.heap.size ≤ T8; omega) _).setCell (by show w.heap.size ≤ T8; omega) _).setCell (by show w.heap.size ≤ T8; omega) _).setCell (by show w.heap.size ≤ T8; omega) _).setCell (by show w.heap.size ≤ T8; omega) _⟩, Cp.apart (Cp.apart (Cp.apart (Cp.apart (Cp.apart (Cp.apart (B5.out.2.1) (hne _) _) (hne _) _) (hne _) _) (hne _) _) (hne _) _) (hne _) _, ((((((B5.out.2.2).set 0 _).set 1 _).set 2 _).set 3 _).set 4 _).set 5 _⟩
          clear B5 k0 k1 k2 k3 k4 k5 kz0 kz1 kz2 kz3 kz4 kz5
          generalize ((((((w5.setCell ⟨T8, 0, none⟩ (.int .i64 e0)).setCell ⟨T8, 1, none⟩ (.int .i64 e1)).setCell ⟨T8, 2, none⟩ (.int .i64 e2)).setCell ⟨T8, 3, none⟩ (.int .i64 e3)).setCell ⟨T8, 4, none⟩ (.int .i64 e4)).setCell ⟨T8, 5, none⟩ (.int .i64 e5)) = W9 at *
          have hz9 := B9.out.1.2.2.2.1.lt
          have hT9 := HT8.out.1
          have hBS9 := HBS.out
          have S9 : Hid (W9.cell? ⟨w.heap.size, 0, none⟩ = some (.int .i64 x) ∧ W9.cell? ⟨T8, 0, none⟩ = some (.int .i64 e0) ∧ W9.cell? ⟨T8, 1, none⟩ = some (.int .i64 e1) ∧ W9.cell? ⟨T8, 2, none⟩ = some (.int .i64 e2) ∧ W9.cell? ⟨T8, 3, none⟩ = some (.int .i64 e3) ∧ W9.cell? ⟨T8, 4, none⟩ = some (.int .i64 e4) ∧ W9.cell? ⟨T8, 5, none⟩ = some (.int .i64 e5)) := ⟨B9.out.1.1.cell 0, B9.out.2.2.cell 0, B9.out.2.2.cell 1, B9.out.2.2.cell 2, B9.out.2.2.cell 3, B9.out.2.2.cell 4, B9.out.2.2.cell 5⟩
          have ED : Hid (∀ W : World, (W.cell? ⟨w.heap.size, 0, none⟩ = some (.int .i64 x) ∧ W.cell? ⟨T8, 0, none⟩ = some (.int .i64 e0) ∧ W.cell? ⟨T8, 1, none⟩ = some (.int .i64 e1) ∧ W.cell? ⟨T8, 2, none⟩ = some (.int .i64 e2) ∧ W.cell? ⟨T8, 3, none⟩ = some (.int .i64 e3) ∧ W.cell? ⟨T8, 4, none⟩ = some (.int .i64 e4) ∧ W.cell? ⟨T8, 5, none⟩ = some (.int .i64 e5)) → (W.drew.cell? ⟨w.heap.size, 0, none⟩ = some (.int .i64 x) ∧ W.drew.cell? ⟨T8, 0, none⟩ = some (.int .i64 e0) ∧ W.drew.cell? ⟨T8, 1, none⟩ = some (.int .i64 e1) ∧ W.drew.cell? ⟨T8, 2, none⟩ = some (.int .i64 e2) ∧ W.drew.cell? ⟨T8, 3, none⟩ = some (.int .i64 e3) ∧ W.drew.cell? ⟨T8, 4, none⟩ = some (.int .i64 e4) ∧ W.drew.cell? ⟨T8, 5, none⟩ = some (.int .i64 e5))) := fun W h => h
          have S0 : Hid (W9.drew.cell? ⟨w.heap.size, 0, none⟩ = some (.int .i64 x) ∧ W9.drew.cell? ⟨T8, 0, none⟩ = some (.int .i64 e0) ∧ W9.drew.cell? ⟨T8, 1, none⟩ = some (.int .i64 e1) ∧ W9.drew.cell? ⟨T8, 2, none⟩ = some (.int .i64 e2) ∧ W9.drew.cell? ⟨T8, 3, none⟩ = some (.int .i64 e3) ∧ W9.drew.cell? ⟨T8, 4, none⟩ = some (.int .i64 e4) ∧ W9.drew.cell? ⟨T8, 5, none⟩ = some (.int .i64 e5)) := S9.out
          have EQ : Hid (∀ (W : World) (j : Nat) (u : Value), (W.cell? ⟨w.heap.size, 0, none⟩ = some (.int .i64 x) ∧ W.cell? ⟨T8, 0, none⟩ = some (.int .i64 e0) ∧ W.cell? ⟨T8, 1, none⟩ = some (.int .i64 e1) ∧ W.cell? ⟨T8, 2, none⟩ = some (.int .i64 e2) ∧ W.cell? ⟨T8, 3, none⟩ = some (.int .i64 e3) ∧ W.cell? ⟨T8, 4, none⟩ = some (.int .i64 e4) ∧ W.cell? ⟨T8, 5, none⟩ = some (.int .i64 e5)) → ((W.setCell ⟨w.heap.size + 1 + 1, j, none⟩ u).cell? ⟨w.heap.size, 0, none⟩ = some (.int .i64 x) ∧ (W.setCell ⟨w.heap.size + 1 + 1, j, none⟩ u).cell? ⟨T8, 0, none⟩ = some (.int .i64 e0) ∧ (W.setCell ⟨w.heap.size + 1 + 1, j, none⟩ u).cell? ⟨T8, 1, none⟩ = some (.int .i64 e1) ∧ (W.setCell ⟨w.heap.size + 1 + 1, j, none⟩ u).cell? ⟨T8, 2, none⟩ = some (.int .i64 e2) ∧ (W.setCell ⟨w.heap.size + 1 + 1, j, none⟩ u).cell? ⟨T8, 3, none⟩ = some (.int .i64 e3) ∧ (W.setCell ⟨w.heap.size + 1 + 1, j, none⟩ u).cell? ⟨T8, 4, none⟩ = some (.int .i64 e4) ∧ (W.setCell ⟨w.heap.size + 1 + 1, j, none⟩ u).cell? ⟨T8, 5, none⟩ = some (.int .i64 e5))) := fun W j u h => seven_set (by show w.heap.size ≠ w.heap.size + 1 + 1; omega) (by show T8 ≠ w.heap.size + 1 + 1; omega) h
          have ER : Hid (∀ (W : World) (j : Nat) (u : Value), (W.cell? ⟨w.heap.size, 0, none⟩ = some (.int .i64 x) ∧ W.cell? ⟨T8, 0, none⟩ = some (.int .i64 e0) ∧ W.cell? ⟨T8, 1, none⟩ = some (.int .i64 e1) ∧ W.cell? ⟨T8, 2, none⟩ = some (.int .i64 e2) ∧ W.cell? ⟨T8, 3, none⟩ = some (.int .i64 e3) ∧ W.cell? ⟨T8, 4, none⟩ = some (.int .i64 e4) ∧ W.cell? ⟨T8, 5, none⟩ = some (.int .i64 e5)) → ((W.setCell ⟨w.heap.size + 1 + 1 + 1, j, none⟩ u).cell? ⟨w.heap.size, 0, none⟩ = some (.int .i64 x) ∧ (W.setCell ⟨w.heap.size + 1 + 1 + 1, j, none⟩ u).cell? ⟨T8, 0, none⟩ = some (.int .i64 e0) ∧ (W.setCell ⟨w.heap.size + 1 + 1 + 1, j, none⟩ u).cell? ⟨T8, 1, none⟩ = some (.int .i64 e1) ∧ (W.setCell ⟨w.heap.size + 1 + 1 + 1, j, none⟩ u).cell? ⟨T8, 2, none⟩ = some (.int .i64 e2) ∧ (W.setCell ⟨w.heap.size + 1 + 1 + 1, j, none⟩ u).cell? ⟨T8, 3, none⟩ = some (.int .i64 e3) ∧ (W.setCell ⟨w.heap.size + 1 + 1 + 1, j, none⟩ u).cell? ⟨T8, 4, none⟩ = some (.int .i64 e4) ∧ (W.setCell ⟨w.heap.size + 1 + 1 + 1, j, none⟩ u).cell? ⟨T8, 5, none⟩ = some (.int .i64 e5))) := fun W j u h => seven_set (by show w.heap.size ≠ w.heap.size + 1 + 1 + 1; omega) (by show T8 ≠ w.heap.size + 1 + 1 + 1; omega) h
          have y0 := B9.out.1.2.2.1.cell 0
          have z0 := fzB B9.out.1.2.2.1 0
          have y1 := B9.out.1.2.2.1.cell 1
          have z1 := fzB B9.out.1.2.2.1 1
          have d0 := B9.out.1.2.2.2.1.cell 0
          have f0 := fzB B9.out.1.2.2.2.1 0
          have d1 := B9.out.1.2.2.2.1.cell 1
          have f1 := fzB B9.out.1.2.2.2.1 1
          have d2 := B9.out.1.2.2.2.1.cell 2
          have f2 := fzB B9.out.1.2.2.2.1 2
          have d3 := B9.out.1.2.2.2.1.cell 3
          have f3 := fzB B9.out.1.2.2.2.1 3
          have d4 := B9.out.1.2.2.2.1.cell 4
          have f4 := fzB B9.out.1.2.2.2.1 4
          have d5 := B9.out.1.2.2.2.1.cell 5
          have f5 := fzB B9.out.1.2.2.2.1 5
          go_wp2_with fail
          go_region_held3 (fun w' => w'.cell? ⟨w.heap.size, 0, none⟩ = some (.int .i64 x) ∧ w'.cell? ⟨T8, 0, none⟩ = some (.int .i64 e0) ∧ w'.cell? ⟨T8, 1, none⟩ = some (.int .i64 e1) ∧ w'.cell? ⟨T8, 2, none⟩ = some (.int .i64 e2) ∧ w'.cell? ⟨T8, 3, none⟩ = some (.int .i64 e3) ∧ w'.cell? ⟨T8, 4, none⟩ = some (.int .i64 e4) ∧ w'.cell? ⟨T8, 5, none⟩ = some (.int .i64 e5)) (first | with_reducible exact S0.out | with_reducible exact S9.out | with_reducible exact ED.out _ (EQ.out _ _ _ (EQ.out _ _ _ (S9.out))) | with_reducible exact EQ.out _ _ _ (EQ.out _ _ _ (S0.out)) | with_reducible exact ED.out _ (ER.out _ _ _ (ER.out _ _ _ (ER.out _ _ _ (ER.out _ _ _ (ER.out _ _ _ (ER.out _ _ _ (EQ.out _ _ _ (EQ.out _ _ _ (S9.out))))))))) | with_reducible exact EQ.out _ _ _ (EQ.out _ _ _ (S9.out)) | with_reducible exact ER.out _ _ _ (ER.out _ _ _ (ER.out _ _ _ (ER.out _ _ _ (ER.out _ _ _ (ER.out _ _ _ (EQ.out _ _ _ (EQ.out _ _ _ (S9.out)))))))) | with_reducible exact ER.out _ _ _ (ER.out _ _ _ (ER.out _ _ _ (ER.out _ _ _ (ER.out _ _ _ (ER.out _ _ _ (EQ.out _ _ _ (EQ.out _ _ _ (S0.out))))))))) (fail)
          go_wp2
          refine bodyPost_ret (v := .tuple #[.agg #[.int .i64 x, .slice (some ⟨g8, 0, none⟩) m c8], .agg #[.int .i64 e0, .int .i64 e1, .int .i64 e2, .int .i64 e3, .int .i64 e4, .int .i64 e5], .bool true]) (by simp [results, Try.results5, go_sem, y0, y1, d0, d1, d2, d3, d4, d5]) rfl ?_
          rw [HP.out.1, HP.out.2.1, HP.out.2.2.1, HP.out.2.2.2]
          have HC9 := B9.out.2.1
          rw [← HM.out] at HC9
          refine ⟨_, _, by rw [HM.out]; rfl, (cp_own HC9).2.1, ?_, ?_⟩
          · exact (((((((((((cp_own HC9).2.2).set (by show w.heap.size + 1 + 1 < _; omega) _).set (by show w.heap.size + 1 + 1 < _; omega) _).set (by show w.heap.size + 1 + 1 + 1 < _; omega) _).set (by show w.heap.size + 1 + 1 + 1 < _; omega) _).set (by show w.heap.size + 1 + 1 + 1 < _; omega) _).set (by show w.heap.size + 1 + 1 + 1 < _; omega) _).set (by show w.heap.size + 1 + 1 + 1 < _; omega) _).set (by show w.heap.size + 1 + 1 + 1 < _; omega) _).below (Below.refl _ _).drew).low (by omega)
          · exact (((((((((B9.out.1.2.2.2.2).setCell (Nat.le_add_right _ 2) _).setCell (Nat.le_add_right _ 2) _).setCell (Nat.le_add_right _ 3) _).setCell (Nat.le_add_right _ 3) _).setCell (Nat.le_add_right _ 3) _).setCell (Nat.le_add_right _ 3) _).setCell (Nat.le_add_right _ 3) _).setCell (Nat.le_add_right _ 3) _).drew
end Go.Proofs.Ytnejomfaojpicaa.QueOfferI
