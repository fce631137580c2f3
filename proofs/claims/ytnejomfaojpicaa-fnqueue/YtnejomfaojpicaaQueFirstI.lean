/- What the program's First answers, at every queue, list of clients that fly and number; nothing else turns. -/
import Derived.Test.YtnejomfaojpicaaRows
import Derived.WalkKit
import Derived.WalkSmall
import Derived.BigQuiet
import Derived.Deep.RegionWith
import Derived.Deep.DeepCutAuto
import Derived.Test.YtnejomfaojpicaaListKit
import Derived.Test.YtnejomfaojpicaaHoldKit
import Derived.Test.YtnejomfaojpicaaGrowKit
import Derived.Test.YtnejomfaojpicaaMapKit
import Derived.Test.YtnejomfaojpicaaReqKit
import Derived.Test.YtnejomfaojpicaaIntKit
import Derived.Test.YtnejomfaojpicaaReqOks
import Derived.Test.YtnejomfaojpicaaQueMath
import Derived.Test.YtnejomfaojpicaaQueMiscS
import Derived.Test.YtnejomfaojpicaaQueStandI
import Derived.Test.YtnejomfaojpicaaQueTierS
import Derived.Test.YtnejomfaojpicaaQueMapI
import Derived.Test.YtnejomfaojpicaaQueTierI
import Derived.Test.YtnejomfaojpicaaQueHeadS
import Derived.Test.YtnejomfaojpicaaQueFirstS
import Derived.Test.YtnejomfaojpicaaQueRiseI
import Derived.Test.YtnejomfaojpicaaQueKeys
import Derived.Test.YtnejomfaojpicaaQueHeadI
import Derived.Test.YtnejomfaojpicaaQueTimesI
namespace Go.Proofs.Ytnejomfaojpicaa.QueFirstI
open Go.RowKit ListKit HoldKit GrowKit MapKit QueMath QueMiscS QueTierS QueMapI QueTierI QueFirstS QueRiseI QueKeys QueHeadI QueTimesI
set_option maxRecDepth 8000
set_option linter.unusedVariables false
set_option linter.unusedSimpArgs false

theorem first_no_ok (L : List ReqKit.Req) (fl : List Int) (most : Int) : firstOf L false fl most = none :=
  first_no fun t _ => by rw [tier_no]; rfl
/-- Who is first of these tiers. -/
def firstIn (L : List ReqKit.Req) (K : List Int) (fl : List Int) (most : Int) : Option ReqKit.Req := K.findSome? fun t => (tierOf L t true).find? (isFree fl most)
theorem first_filter (L : List ReqKit.Req) (fl : List Int) (most : Int) : ∀ K : List Int, firstIn L (K.filter fun t => L.any (ofTier t true)) fl most = firstIn L K fl most
  | [] => rfl
  | t :: K => by
    cases e : L.any (ofTier t true) with
    | true =>
      rw [List.filter_cons_of_pos (by simpa using e)]
      unfold firstIn
      rw [List.findSome?_cons, List.findSome?_cons]
      have ih := first_filter L fl most K
      unfold firstIn at ih
      rw [ih]
    | false =>
      rw [List.filter_cons_of_neg (by simpa using e)]
      have h2 : tierOf L t true = [] := by
        rcases Classical.em (tierOf L t true = []) with h | h
        · exact h
        · rw [any_tier.2 h] at e; cases e
      rw [first_filter L fl most K]
      unfold firstIn
      rw [List.findSome?_cons, h2]
      rfl
theorem first_four (L : List ReqKit.Req) (fl : List Int) (most : Int) : firstIn L four fl most = firstOf L true fl most := by
  unfold firstIn firstOf four
  rw [List.findSome?_map]
  rfl
theorem first_keys {x : Int} {L : List ReqKit.Req} (hq : QueOk x L) {K : List Int} (hr : K.Pairwise (· < ·)) (hm : ∀ t, t ∈ K ↔ L.any (ofTier t true) = true) (fl : List Int) (most : Int) : firstIn L K fl most = firstOf L true fl most := by
  rw [keys_four hq hr hm, first_filter, first_four]
theorem in_hit {L : List ReqKit.Req} {K : List Int} {fl : List Int} {most : Int} {k : Nat} (hk : k < K.length) {s : ReqKit.Req} (h : ∀ (i : Nat) (hi : i < K.length), i < k → (tierOf L K[i] true).find? (isFree fl most) = none) (hs : (tierOf L K[k] true).find? (isFree fl most) = some s) : firstIn L K fl most = some s := by
  unfold firstIn
  have e : K = K.take k ++ (K[k] :: K.drop (k + 1)) := by rw [← List.drop_eq_getElem_cons hk, List.take_append_drop]
  have h1 : (K.take k).findSome? (fun t => (tierOf L t true).find? (isFree fl most)) = none := by
    rw [List.findSome?_eq_none_iff]
    intro t ht
    obtain ⟨i, hi, e2⟩ := List.getElem_of_mem ht
    have hik : i < k := by rw [List.length_take] at hi; omega
    rw [List.getElem_take] at e2
    rw [← e2]
    exact h i (by omega) hik
  have h2 : K.findSome? (fun t => (tierOf L t true).find? (isFree fl most)) = (K.take k ++ (K[k] :: K.drop (k + 1))).findSome? (fun t => (tierOf L t true).find? (isFree fl most)) := congrArg _ e
  rw [h2, List.findSome?_append, h1, List.findSome?_cons, hs]
  rfl
theorem in_no {L : List ReqKit.Req} {K : List Int} {fl : List Int} {most : Int} (h : ∀ (i : Nat) (hi : i < K.length), (tierOf L K[i] true).find? (isFree fl most) = none) : firstIn L K fl most = none := by
  unfold firstIn
  rw [List.findSome?_eq_none_iff]
  intro t ht
  obtain ⟨i, hi, e⟩ := List.getElem_of_mem ht
  rw [← e]
  exact h i hi
set_option maxHeartbeats 8000000 in
theorem impl_first (x : Int) (a : Option Addr) (c : Nat) (L : List ReqKit.Req) (b : Option Addr) (d : Nat) (fl : List Int) (most : Int) (B : Bool) (w : World) (h : Own 27 6 ReqKit.cells w a L) (hl : L.length ≤ 1048577) (hc : L.length ≤ c) (hf : Own 3 1 IntKit.cells w b fl) (hfl : fl.length ≤ 1048577) (hfd : fl.length ≤ d) (hfw : ∀ (k : Nat) (h : k < fl.length), wf fl[k]) (bf : Hid (B = true ↔ QueOk x L)) :
    Calls Try.prog 9 #[.agg #[.int .i64 x, .slice a L.length c], .slice b fl.length d, .int .i64 most] w (FAns w (firstOf L B fl most)) := by
  have HA : Hid (Own 27 6 ReqKit.cells w a L) := h
  have HFL : Hid (Own 3 1 IntKit.cells w b fl) := hf
  have HQ := fun W h => QueStandI.impl_queueok x a c L B W h hl hc bf
  have HTM := fun W h => times_map b d fl W h hfl hfd hfw
  clear h hf hfw
  obtain ⟨n, hn⟩ : ∃ n, L.length = n := ⟨_, rfl⟩
  obtain ⟨m, hm⟩ : ∃ m, fl.length = m := ⟨_, rfl⟩
  have b0 : Hid (boxB ((w.alloc (.cells #[.int .i64 x, .slice a n c] 25)).alloc (.cells #[.int .i64 0, .int .i64 0, .int .i64 0, .int .i64 0, .int .i64 0, .int .i64 0] 27)) w.heap.size #[.int .i64 x, .slice a n c] 25 ∧ boxB ((w.alloc (.cells #[.int .i64 x, .slice a n c] 25)).alloc (.cells #[.int .i64 0, .int .i64 0, .int .i64 0, .int .i64 0, .int .i64 0, .int .i64 0] 27)) (w.heap.size + 1) #[.int .i64 0, .int .i64 0, .int .i64 0, .int .i64 0, .int .i64 0, .int .i64 0] 27 ∧ Below w.heap.size w ((w.alloc (.cells #[.int .i64 x, .slice a n c] 25)).alloc (.cells #[.int .i64 0, .int .i64 0, .int .i64 0, .int .i64 0, .int .i64 0, .int .i64 0] 27))) := ⟨(boxB.new _ _ _).below (n1 _ _), new2 _ _ _ _, n2 _ _ _⟩
  cases B with
  | false =>
    rw [first_no_ok]
    rw [hn] at hl hc HQ ⊢
    rw [hm] at hfl hfd HTM ⊢
    clear hn hm
    go_enter Try.func9, Try.ntmps9
    go_wp2_with fail
    refine (HQ _ (HA.out.below b0.out.2.2)).mono ?_
    rintro e w1 ⟨rfl, b1⟩
    have B1 : Hid (boxB w1 (w.heap.size + 1) #[.int .i64 0, .int .i64 0, .int .i64 0, .int .i64 0, .int .i64 0, .int .i64 0] 27 ∧ Below w.heap.size w w1) := ⟨b0.out.2.1.below b1, b0.out.2.2.trans (b1.mono b0.out.2.2.size)⟩
    have hz : w.heap.size + 1 < w1.heap.size := B1.out.1.lt
    clear b1 HQ bf HTM
    have d0 := B1.out.1.cell 0
    have f0 := fzB B1.out.1 0
    have d1 := B1.out.1.cell 1
    have f1 := fzB B1.out.1 1
    have d2 := B1.out.1.cell 2
    have f2 := fzB B1.out.1 2
    have d3 := B1.out.1.cell 3
    have f3 := fzB B1.out.1 3
    have d4 := B1.out.1.cell 4
    have f4 := fzB B1.out.1 4
    have d5 := B1.out.1.cell 5
    have f5 := fzB B1.out.1 5
    go_wp2
    refine bodyPost_ret (v := .tuple #[.agg #[.int .i64 0, .int .i64 0, .int .i64 0, .int .i64 0, .int .i64 0, .int .i64 0], .bool false]) (by simp [results, Try.results9, go_sem, d0, d1, d2, d3, d4, d5]) rfl ⟨rfl, ?_⟩
    exact ((((((B1.out.2).setCell (Nat.le_add_right _ 1) _).setCell (Nat.le_add_right _ 1) _).setCell (Nat.le_add_right _ 1) _).setCell (Nat.le_add_right _ 1) _).setCell (Nat.le_add_right _ 1) _).setCell (Nat.le_add_right _ 1) _
  | true =>
    have HT := fun W h => by_tier a c L W h hl hc (fun k hk => wf_of (by have := tier_wf (bf.out.1 rfl) k hk; omega) (by have := tier_wf (bf.out.1 rfl) k hk; omega))
    have HQO : Hid (QueOk x L) := bf.out.1 rfl
    have HNL : Hid (L.length = n) := hn
    rw [hn] at hl hc HQ HT
    rw [hm] at hfl hfd HTM ⊢
    clear hn hm
    rw [HNL.out]
    obtain ⟨R, hR⟩ : ∃ R, firstOf L true fl most = R := ⟨_, rfl⟩
    have HR : Hid (firstOf L true fl most = R) := hR
    rw [hR]
    clear hR
    go_enter Try.func9, Try.ntmps9
    go_wp2_with fail
    refine (HQ _ (HA.out.below b0.out.2.2)).mono ?_
    rintro e w1 ⟨rfl, b1⟩
    have B1 : Hid (boxB w1 w.heap.size #[.int .i64 x, .slice a n c] 25 ∧ boxB w1 (w.heap.size + 1) #[.int .i64 0, .int .i64 0, .int .i64 0, .int .i64 0, .int .i64 0, .int .i64 0] 27 ∧ Below w.heap.size w w1) := ⟨b0.out.1.below b1, b0.out.2.1.below b1, b0.out.2.2.trans (b1.mono b0.out.2.2.size)⟩
    have l1 := B1.out.1.cell 1
    clear b1 HQ bf b0
    go_wp2_with fail
    refine (HT _ (HA.out.below B1.out.2.2)).mono ?_
    rintro e w2 ⟨V, rfl, hg, b2⟩
    have B2 : Hid (Grp w2 w1.heap.size V L ∧ boxB w2 (w.heap.size + 1) #[.int .i64 0, .int .i64 0, .int .i64 0, .int .i64 0, .int .i64 0, .int .i64 0] 27 ∧ Below w.heap.size w w2) := ⟨hg, B1.out.2.1.below b2, B1.out.2.2.trans (b2.mono B1.out.2.2.size)⟩
    clear hg b2 B1 l1 HT
    obtain ⟨bm, hbm⟩ : ∃ bm, w1.heap.size = bm := ⟨_, rfl⟩
    rw [hbm] at B2 ⊢
    clear hbm
    go_wp2_with fail
    refine (HTM _ (HFL.out.below B2.out.2.2)).mono ?_
    rintro e w3 ⟨rfl, him, b3⟩
    have B3 : Hid (Grp w3 bm V L ∧ IM Try.prog 3 w3 w2.heap.size m (.int .i64 0) (fun t => .int .i64 (timesOf fl t : Nat)) (fun t => fl.any (· == t)) ∧ boxB w3 (w.heap.size + 1) #[.int .i64 0, .int .i64 0, .int .i64 0, .int .i64 0, .int .i64 0, .int .i64 0] 27 ∧ Below w.heap.size w w3) := ⟨B2.out.1.below b3, him, B2.out.2.1.below b3, B2.out.2.2.trans (b3.mono B2.out.2.2.size)⟩
    clear him b3 B2 HTM
    obtain ⟨bt, hbt⟩ : ∃ bt, w2.heap.size = bt := ⟨_, rfl⟩
    rw [hbt] at B3 ⊢
    clear hbt
    go_wp2_with fail
    refine (rising bm L.length _ V _ _ B3.out.1.map (by rw [HNL.out]; exact hl)).mono ?_
    rintro e w4 ⟨aK, cK, K, rfl, hcp, hKl, hKr, hKm, hKw, b4⟩
    have HK : Hid (K.Pairwise (· < ·) ∧ (∀ t, t ∈ K ↔ L.any (ofTier t true) = true) ∧ ∀ t ∈ K, wf t) := ⟨hKr, fun t => ⟨fun h => (hKm t (hKw t h)).1 h, fun h => (hKm t (wf_of (by have := any_range HQO.out h; omega) (by have := any_range HQO.out h; omega))).2 h⟩, hKw⟩
    have B4 : Hid (Grp w4 bm V L ∧ IM Try.prog 3 w4 bt m (.int .i64 0) (fun t => .int .i64 (timesOf fl t : Nat)) (fun t => fl.any (· == t)) ∧ GrowKit.Cp 3 1 IntKit.cells w4 (w3.heap.size) (.slice aK K.length cK) K ∧ boxB w4 (w.heap.size + 1) #[.int .i64 0, .int .i64 0, .int .i64 0, .int .i64 0, .int .i64 0, .int .i64 0] 27 ∧ Below w.heap.size w w4) := ⟨B3.out.1.below b4, B3.out.2.1.below b4, hcp, B3.out.2.2.1.below b4, B3.out.2.2.2.trans (b4.mono B3.out.2.2.2.size)⟩
    clear b4 hcp hKr hKm hKw B3
    obtain ⟨q, hq⟩ : ∃ q, K.length = q := ⟨_, rfl⟩
    have HQL : Hid (K.length = q) := hq
    rw [hq] at hKl ⊢
    clear hq
    go_wp2
    go_loopw [11, 13, 26] (fun t11 t13 i wr => ∃ k : Nat, k ≤ q ∧ i = .int .i64 (k : Int) ∧ Hid (∀ (i : Nat) (hi : i < K.length), i < k → (tierOf L K[i] true).find? (isFree fl most) = none) ∧ Hid (Grp wr bm V L ∧ IM Try.prog 3 wr bt m (.int .i64 0) (fun t => .int .i64 (timesOf fl t : Nat)) (fun t => fl.any (· == t)) ∧ GrowKit.Cp 3 1 IntKit.cells wr (w3.heap.size) (.slice aK K.length cK) K ∧ boxB wr (w.heap.size + 1) #[.int .i64 0, .int .i64 0, .int .i64 0, .int .i64 0, .int .i64 0, .int .i64 0] 27 ∧ Below w.heap.size w wr)) (fun _ _ i _ => q - (intOf i).toNat)
    case atStart => exact ⟨0, by omega, rfl, fun i _ hi => by omega, B4⟩
    case round =>
      obtain ⟨k, hk, rfl, HN0, HW⟩ := hrel
      clear B4
      by_cases hlt : k < q
      · have hlt2 : k < K.length := by rw [HQL.out]; exact hlt
        obtain ⟨gK, haK, hgK, hcK, hgl, hKc⟩ := ints_own HW.out.2.2.1 (by omega)
        subst haK
        obtain ⟨t, ht⟩ : ∃ t, K[k] = t := ⟨_, rfl⟩
        have HTK : Hid (K[k] = t) := ht
        have htK : t ∈ K := by rw [← ht]; exact List.getElem_mem hlt2
        have hwt := HK.out.2.2 t htK
        have hcell : wr.cell? ⟨gK, k, none⟩ = some (.int .i64 t) := by rw [hKc k hlt2, ht]
        have hcell0 : wr.cell? ⟨gK, 0 + k, none⟩ = some (.int .i64 t) := by rw [Nat.zero_add]; exact hcell
        have hne : 0 < (tierOf L t true).length := List.length_pos_iff.2 (any_tier.1 ((HK.out.2.1 t).1 htK))
        obtain ⟨g, c2, hV, hc2, hgb, hgw, hrow⟩ := reqs_own (HW.out.1.own t hwt) hne
        have hlk := HW.out.1.look hwt
        rw [hV] at hlk
        obtain ⟨M, hMM⟩ : ∃ M, tierOf L t true = M := ⟨_, rfl⟩
        have HM : Hid (tierOf L t true = M) := hMM
        have HMF : Hid (∀ s ∈ M, 0 ≤ s.x2 ∧ s.x2 ≤ 1000) := fun s hs => by
          rw [← hMM] at hs
          obtain ⟨j, hj, e⟩ := List.getElem_of_mem (List.mem_filter.1 hs).1
          have h9 := tier_wf HQO.out j hj
          rw [e] at h9
          omega
        have HRW : Hid (Row 27 6 ReqKit.cells wr g 0 M) := by show Row _ _ _ _ _ _ _; rw [← hMM]; exact hrow
        obtain ⟨p, hp⟩ : ∃ p, (tierOf L t true).length = p := ⟨_, rfl⟩
        have HP : Hid (M.length = p) := by show M.length = p; rw [← hMM]; exact hp
        have hpl : p ≤ 1048577 := by rw [← HP.out, ← HM.out]; exact Nat.le_trans (List.length_filter_le _ _) (by rw [HNL.out]; exact hl)
        rw [hp] at hlk hc2
        have hli : (k : Int) < (q : Int) := by omega
        have hkc : (k : Int) < (cK : Int) := by have := HQL.out; omega
        clear hrow hV hgb hgw hMM ht htK hKc hgK hne hp
        go_wp2
        go_loopw [13, 34] (fun t13 i wi => ∃ j : Nat, j ≤ p ∧ i = .int .i64 (j : Int) ∧ Hid (∀ (i : Nat) (h : i < M.length), i < j → isFree fl most M[i] = false) ∧ Hid (Below wr.heap.size wr wi)) (fun _ i _ => p - (intOf i).toNat)
        case atStart => exact ⟨0, by omega, rfl, fun i _ hi => by omega, Below.refl _ _⟩
        case round =>
          rename World => wi
          obtain ⟨j, hj, rfl, HJ, HI⟩ := hrel
          by_cases hjq : j < p
          · have hj2 : j < M.length := by rw [HP.out]; exact hjq
            have hr1 : Row 27 6 ReqKit.cells wi g 0 M := HRW.out.below HI.out
            obtain ⟨sx, hsx⟩ : ∃ s, M[j] = s := ⟨_, rfl⟩
            obtain ⟨x0, x1, x2, x3, x4, x5⟩ := sx
            have u9 := fun jj hjj => (hr1).cell j hj2 jj hjj
            have p0 : wi.cell? ⟨g, 0 + j * 6, none⟩ = some (.int .i64 x0) := by have h9 := u9 0 (by omega); rw [hsx] at h9; exact h9
            have p1 : wi.cell? ⟨g, 0 + j * 6 + 1, none⟩ = some (.int .i64 x1) := by have h9 := u9 1 (by omega); rw [hsx] at h9; exact h9
            have p2 : wi.cell? ⟨g, 0 + j * 6 + 2, none⟩ = some (.int .i64 x2) := by have h9 := u9 2 (by omega); rw [hsx] at h9; exact h9
            have p3 : wi.cell? ⟨g, 0 + j * 6 + 3, none⟩ = some (.int .i64 x3) := by have h9 := u9 3 (by omega); rw [hsx] at h9; exact h9
            have p4 : wi.cell? ⟨g, 0 + j * 6 + 4, none⟩ = some (.int .i64 x4) := by have h9 := u9 4 (by omega); rw [hsx] at h9; exact h9
            have p5 : wi.cell? ⟨g, 0 + j * 6 + 5, none⟩ = some (.int .i64 x5) := by have h9 := u9 5 (by omega); rw [hsx] at h9; exact h9
            clear u9
            simp only [Nat.zero_add] at p0 p1 p2 p3 p4 p5
            have hjl : (j : Int) < (p : Int) := by omega
            have hjc : (j : Int) < (c2 : Int) := by omega
            have HS : Hid (M[j] = ⟨x0, x1, x2, x3, x4, x5⟩) := hsx
            have hx2 : 0 ≤ x2 ∧ x2 ≤ 1000 := by
              have h9 := HMF.out M[j] (List.getElem_mem hj2)
              rw [hsx] at h9
              exact h9
            have hw2 : wf x2 := wf_of (by omega) (by omega)
            have BI : Hid (Grp wi bm V L ∧ IM Try.prog 3 wi bt m (.int .i64 0) (fun t => .int .i64 (timesOf fl t : Nat)) (fun t => fl.any (· == t)) ∧ GrowKit.Cp 3 1 IntKit.cells wi (w3.heap.size) (.slice (some ⟨gK, 0, none⟩) K.length cK) K ∧ boxB wi (w.heap.size + 1) #[.int .i64 0, .int .i64 0, .int .i64 0, .int .i64 0, .int .i64 0, .int .i64 0] 27 ∧ Below w.heap.size w wi) := by
              have b9 := HI.out
              exact ⟨HW.out.1.below b9, HW.out.2.1.below b9, HW.out.2.2.1.below b9, HW.out.2.2.2.1.below b9, HW.out.2.2.2.2.trans (b9.mono HW.out.2.2.2.2.size)⟩
            have BA : Hid (IM Try.prog 3 (wi.alloc (.cells #[.int .i64 x0, .int .i64 x1, .int .i64 x2, .int .i64 x3, .int .i64 x4, .int .i64 x5] 27)) bt m (.int .i64 0) (fun t => .int .i64 (timesOf fl t : Nat)) (fun t => fl.any (· == t)) ∧ boxB (wi.alloc (.cells #[.int .i64 x0, .int .i64 x1, .int .i64 x2, .int .i64 x3, .int .i64 x4, .int .i64 x5] 27)) (w.heap.size + 1) #[.int .i64 0, .int .i64 0, .int .i64 0, .int .i64 0, .int .i64 0, .int .i64 0] 27 ∧ Below w.heap.size w (wi.alloc (.cells #[.int .i64 x0, .int .i64 x1, .int .i64 x2, .int .i64 x3, .int .i64 x4, .int .i64 x5] 27)) ∧ boxB (wi.alloc (.cells #[.int .i64 x0, .int .i64 x1, .int .i64 x2, .int .i64 x3, .int .i64 x4, .int .i64 x5] 27)) wi.heap.size #[.int .i64 x0, .int .i64 x1, .int .i64 x2, .int .i64 x3, .int .i64 x4, .int .i64 x5] 27) := ⟨BI.out.2.1.below (n1 _ _), BI.out.2.2.2.1.below (n1 _ _), BI.out.2.2.2.2.alloc BI.out.2.2.2.2.size _, boxB.new _ _ _⟩
            have hlk2 := BA.out.1.look (m := 53) (e := 3) Try.underlying3 Try.underlying53 (zero_int _) hw2
            have HI2 : Hid (Below wr.heap.size wr (wi.alloc (.cells #[.int .i64 x0, .int .i64 x1, .int .i64 x2, .int .i64 x3, .int .i64 x4, .int .i64 x5] 27))) := HI.out.alloc HI.out.size _
            obtain ⟨u, hu⟩ : ∃ u, timesOf fl x2 = u := ⟨_, rfl⟩
            have HU : Hid (timesOf fl x2 = u) := hu
            rw [hu] at hlk2
            have hz : w.heap.size + 1 < wi.heap.size := BI.out.2.2.2.1.lt
            clear hr1 hsx hu
            go_upto_region 10 with fail
            clear p0 p1 p2 p3 p4 p5
            obtain ⟨N, hN⟩ : ∃ N, wi.heap.size = N := ⟨_, rfl⟩
            rw [hN] at BA hz ⊢
            generalize (wi.alloc (.cells #[.int .i64 x0, .int .i64 x1, .int .i64 x2, .int .i64 x3, .int .i64 x4, .int .i64 x5] 27)) = W6 at *
            have q0 := BA.out.2.2.2.cell 0
            have q1 := BA.out.2.2.2.cell 1
            have q2 := BA.out.2.2.2.cell 2
            have q3 := BA.out.2.2.2.cell 3
            have q4 := BA.out.2.2.2.cell 4
            have q5 := BA.out.2.2.2.cell 5
            by_cases hfree : (u : Int) < most
            · have hf1 : decide ((u : Int) < most) = true := by simpa using hfree
              have HPP : Hid (isFree fl most ⟨x0, x1, x2, x3, x4, x5⟩ = true) := by
                show decide _ = true
                simp only [HU.out]
                exact hf1
              have HRR : Hid (R = some ⟨x0, x1, x2, x3, x4, x5⟩) := by
                show R = _
                rw [← HR.out, ← first_keys HQO.out HK.out.1 HK.out.2.1]
                exact in_hit hlt2 HN0.out (by rw [HTK.out, HM.out]; exact find_hit hj2 HS.out HPP.out HJ.out)
              clear hfree
              have d0 := BA.out.2.1.cell 0
              have f0 := fzB BA.out.2.1 0
              have d1 := BA.out.2.1.cell 1
              have f1 := fzB BA.out.2.1 1
              have d2 := BA.out.2.1.cell 2
              have f2 := fzB BA.out.2.1 2
              have d3 := BA.out.2.1.cell 3
              have f3 := fzB BA.out.2.1 3
              have d4 := BA.out.2.1.cell 4
              have f4 := fzB BA.out.2.1 4
              have d5 := BA.out.2.1.cell 5
              have f5 := fzB BA.out.2.1 5
              go_wp2
              refine bodyPost_ret (v := .tuple #[.agg #[.int .i64 x0, .int .i64 x1, .int .i64 x2, .int .i64 x3, .int .i64 x4, .int .i64 x5], .bool true]) (by simp [results, Try.results9, go_sem, d0, d1, d2, d3, d4, d5]) rfl ⟨?_, ?_⟩
              · rw [HRR.out]
                rfl
              · exact ((((((BA.out.2.2.1).setCell (Nat.le_add_right _ 1) _).setCell (Nat.le_add_right _ 1) _).setCell (Nat.le_add_right _ 1) _).setCell (Nat.le_add_right _ 1) _).setCell (Nat.le_add_right _ 1) _).setCell (Nat.le_add_right _ 1) _
            · have hf1 : decide ((u : Int) < most) = false := by simpa using hfree
              have HJ2 : Hid (∀ (i : Nat) (h : i < M.length), i < j + 1 → isFree fl most M[i] = false) := fun i hi hij => by
                by_cases e : i = j
                · subst e
                  rw [HS.out]
                  show decide _ = false
                  simp only [HU.out]
                  exact hf1
                · exact HJ.out i hi (by omega)
              clear hfree HJ
              go_wp2
              go_roundw
              case rel => exact ⟨j + 1, by omega, by go_num, HJ2, HI2⟩
              case measure => simp [intOf]; omega
          · obtain rfl : j = p := by omega
            have HK2 : Hid (∀ (i : Nat) (hi : i < K.length), i < k + 1 → (tierOf L K[i] true).find? (isFree fl most) = none) := fun i hi hik => by
              by_cases e : i = k
              · subst e
                rw [HTK.out, HM.out]
                exact find_no (fun i hi => HJ.out i hi (by rw [← HP.out]; exact hi))
              · exact HN0.out i hi (by omega)
            have BI : Hid (Grp wi bm V L ∧ IM Try.prog 3 wi bt m (.int .i64 0) (fun t => .int .i64 (timesOf fl t : Nat)) (fun t => fl.any (· == t)) ∧ GrowKit.Cp 3 1 IntKit.cells wi (w3.heap.size) (.slice (some ⟨gK, 0, none⟩) K.length cK) K ∧ boxB wi (w.heap.size + 1) #[.int .i64 0, .int .i64 0, .int .i64 0, .int .i64 0, .int .i64 0, .int .i64 0] 27 ∧ Below w.heap.size w wi) := by
              have b9 := HI.out
              exact ⟨HW.out.1.below b9, HW.out.2.1.below b9, HW.out.2.2.1.below b9, HW.out.2.2.2.1.below b9, HW.out.2.2.2.2.trans (b9.mono HW.out.2.2.2.2.size)⟩
            clear HN0 HJ
            go_wp2
            go_roundw
            case rel => exact ⟨k + 1, by omega, by go_num, HK2, BI⟩
            case measure => simp [intOf]; omega
      · obtain rfl : k = q := by omega
        have HRR : Hid (R = none) := by
          show R = none
          rw [← HR.out, ← first_keys HQO.out HK.out.1 HK.out.2.1]
          exact in_no fun i hi => HN0.out i hi (by rw [← HQL.out]; exact hi)
        have hz : w.heap.size + 1 < wr.heap.size := HW.out.2.2.2.1.lt
        have d0 := HW.out.2.2.2.1.cell 0
        have f0 := fzB HW.out.2.2.2.1 0
        have d1 := HW.out.2.2.2.1.cell 1
        have f1 := fzB HW.out.2.2.2.1 1
        have d2 := HW.out.2.2.2.1.cell 2
        have f2 := fzB HW.out.2.2.2.1 2
        have d3 := HW.out.2.2.2.1.cell 3
        have f3 := fzB HW.out.2.2.2.1 3
        have d4 := HW.out.2.2.2.1.cell 4
        have f4 := fzB HW.out.2.2.2.1 4
        have d5 := HW.out.2.2.2.1.cell 5
        have f5 := fzB HW.out.2.2.2.1 5
        go_wp2
        refine bodyPost_ret (v := .tuple #[.agg #[.int .i64 0, .int .i64 0, .int .i64 0, .int .i64 0, .int .i64 0, .int .i64 0], .bool false]) (by simp [results, Try.results9, go_sem, d0, d1, d2, d3, d4, d5]) rfl ⟨?_, ?_⟩
        · rw [HRR.out]
          rfl
        · exact ((((((HW.out.2.2.2.2).setCell (Nat.le_add_right _ 1) _).setCell (Nat.le_add_right _ 1) _).setCell (Nat.le_add_right _ 1) _).setCell (Nat.le_add_right _ 1) _).setCell (Nat.le_add_right _ 1) _).setCell (Nat.le_add_right _ 1) _
end Go.Proofs.Ytnejomfaojpicaa.QueFirstI
