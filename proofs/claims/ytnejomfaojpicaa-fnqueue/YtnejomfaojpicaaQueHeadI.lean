/- What the program's Heads answers, at every queue: the first of each tier, in a list of its own; nothing else turns. -/
import Derived.Test.YtnejomfaojpicaaRows
import Derived.WalkKit
import Derived.WalkSmall
import Derived.BigQuiet
import Derived.Deep.RegionWith
import Derived.Deep.DeepCutAuto
import Derived.Test.YtnejomfaojpicaaListKit
import Derived.Test.YtnejomfaojpicaaHoldKit
import Derived.Test.YtnejomfaojpicaaGrowKit
import Derived.Test.YtnejomfaojpicaaMapKit
import Derived.Test.YtnejomfaojpicaaReqKit
import Derived.Test.YtnejomfaojpicaaIntKit
import Derived.Test.YtnejomfaojpicaaReqOks
import Derived.Test.YtnejomfaojpicaaQueMath
import Derived.Test.YtnejomfaojpicaaQueStandI
import Derived.Test.YtnejomfaojpicaaQueTierS
import Derived.Test.YtnejomfaojpicaaQueMapI
import Derived.Test.YtnejomfaojpicaaQueTierI
import Derived.Test.YtnejomfaojpicaaQueHeadS
import Derived.Test.YtnejomfaojpicaaQueRiseI
import Derived.Test.YtnejomfaojpicaaQueKeys
namespace Go.Proofs.Ytnejomfaojpicaa.QueHeadI
open Go.RowKit ListKit HoldKit GrowKit MapKit QueMath QueTierS QueMapI QueTierI QueHeadS QueRiseI QueKeys
set_option maxRecDepth 8000
set_option linter.unusedVariables false
set_option linter.unusedSimpArgs false

theorem ints_own {w : World} {B : Nat} {a : Option Addr} {c : Nat} {K : List Int} (h : GrowKit.Cp 3 1 IntKit.cells w (B) (.slice a K.length c) K) (hK : 0 < K.length) : ∃ g, a = some ⟨g, 0, none⟩ ∧ B ≤ g ∧ K.length ≤ c ∧ g < w.heap.size ∧ ∀ (i : Nat) (hi : i < K.length), w.cell? ⟨g, i, none⟩ = some (.int .i64 K[i]) := by
  have hlt := h.lt
  obtain ⟨hl, ⟨_, h0⟩ | ⟨g, cap, cur, hv, hb, hg, hc, hm, hs, ht⟩⟩ := h
  · omega
  · injection hv with e1 e2 e3
    subst e1 e3
    refine ⟨g, rfl, hb, hc, hlt g rfl, fun i hi => ?_⟩
    rw [cellB hg]
    have h1 : (cur.toList.take (K.length * 1))[i]? = (flat IntKit.cells K)[i]? := by rw [ht]
    rw [List.getElem?_take, if_pos (by omega), Array.getElem?_toList, flat_ints, List.getElem?_map, List.getElem?_eq_getElem hi] at h1
    exact h1
theorem reqs_own {w : World} {B : Nat} {v : Value} {M : List ReqKit.Req} (h : GrowKit.Cp 27 6 ReqKit.cells w (B) v M) (hM : 0 < M.length) : ∃ g c, v = .slice (some ⟨g, 0, none⟩) M.length c ∧ M.length ≤ c ∧ B ≤ g ∧ g < w.heap.size ∧ Row 27 6 ReqKit.cells w g 0 M := by
  have hlt := h.lt
  obtain ⟨a2, c2, hv, hc2, hh⟩ := Cp.shape (t := 27) (m := 6) (f := ReqKit.cells) (fun _ => rfl) h
  subst hv
  obtain ⟨hl, ⟨_, h0⟩ | ⟨g, cap, cur, hv, hb, hg, hc, hm, hs, ht⟩⟩ := h
  · omega
  · injection hv with e1 e2 e3
    subst e1 e3
    refine ⟨g, c2, rfl, hc2, hb, hlt g rfl, ?_⟩
    rcases hh.get (t := 27) (m := 6) (L := M) (f := ReqKit.cells) (a := some ⟨g, 0, none⟩) (by simp) with h6 | ⟨g2, o2, e2, h6⟩
    · subst h6; simp at hM
    · injection e2 with e2
      injection e2 with e3 e4 _
      subst e3 e4
      exact h6
set_option maxHeartbeats 8000000 in
theorem impl_heads (x : Int) (a : Option Addr) (c : Nat) (L : List ReqKit.Req) (B : Bool) (w : World) (h : Own 27 6 ReqKit.cells w a L) (hl : L.length ≤ 1048577) (hc : L.length ≤ c) (bf : Hid (B = true ↔ QueOk x L)) :
    Calls Try.prog 8 #[.agg #[.int .i64 x, .slice a L.length c]] w fun e w' => ∃ a2 c2, e = .returned (.slice a2 (headsTo L B 4).length c2) ∧ (headsTo L B 4).length ≤ c2 ∧ Holds w' w.heap.size [⟨a2, 27, 6, (headsTo L B 4).map ReqKit.cells⟩] ∧ Below w.heap.size w w' := by
  have HA : Hid (Own 27 6 ReqKit.cells w a L) := h
  have HQ := fun W h => QueStandI.impl_queueok x a c L B W h hl hc bf
  clear h
  obtain ⟨n, hn⟩ : ∃ n, L.length = n := ⟨_, rfl⟩
  have b0 : Hid (boxB (w.alloc (.cells #[.int .i64 x, .slice a n c] 25)) w.heap.size #[.int .i64 x, .slice a n c] 25 ∧ Below w.heap.size w (w.alloc (.cells #[.int .i64 x, .slice a n c] 25))) := ⟨boxB.new _ _ _, n1 _ _⟩
  cases B with
  | false =>
    rw [heads_no]
    rw [hn] at hl hc HQ ⊢
    clear hn
    go_enter Try.func8, Try.ntmps8
    go_wp2_with fail
    refine (HQ _ (HA.out.below b0.out.2)).mono ?_
    rintro e w1 ⟨rfl, b1⟩
    have B1 : Hid (Below w.heap.size w w1) := b0.out.2.trans (b1.mono b0.out.2.size)
    have G1 : Hid (Holds w1 w.heap.size [⟨none, 27, 6, ([] : List ReqKit.Req).map ReqKit.cells⟩]) := Holds.own (f := ReqKit.cells) (L := []) (Or.inl rfl) (fun b hb => by simp [blkL] at hb)
    clear b1 HQ bf
    go_wp2
    go_ret
    exact ⟨none, 0, rfl, Nat.le_refl _, G1.out, B1.out⟩
  | true =>
    have HT := fun W h => by_tier a c L W h hl hc (fun k hk => wf_of (by have := tier_wf (bf.out.1 rfl) k hk; omega) (by have := tier_wf (bf.out.1 rfl) k hk; omega))
    have HQO : Hid (QueOk x L) := bf.out.1 rfl
    have HNL : Hid (L.length = n) := hn
    rw [hn] at hl hc HQ HT
    clear hn
    go_enter Try.func8, Try.ntmps8
    rw [HNL.out]
    go_wp2_with fail
    refine (HQ _ (HA.out.below b0.out.2)).mono ?_
    rintro e w1 ⟨rfl, b1⟩
    have B1 : Hid (boxB w1 w.heap.size #[.int .i64 x, .slice a n c] 25 ∧ Below w.heap.size w w1) := ⟨b0.out.1.below b1, b0.out.2.trans (b1.mono b0.out.2.size)⟩
    have l1 := B1.out.1.cell 1
    clear b1 HQ bf b0
    go_wp2_with fail
    refine (HT _ (HA.out.below B1.out.2)).mono ?_
    rintro e w2 ⟨V, rfl, hg, b2⟩
    have B2 : Hid (Grp w2 w1.heap.size V L ∧ Below w.heap.size w w2) := ⟨hg, B1.out.2.trans (b2.mono B1.out.2.size)⟩
    clear hg b2 B1 l1 HT
    obtain ⟨bm, hbm⟩ : ∃ bm, w1.heap.size = bm := ⟨_, rfl⟩
    rw [hbm] at B2 ⊢
    clear hbm
    go_wp2_with fail
    refine (rising bm L.length _ V _ _ B2.out.1.map (by rw [HNL.out]; exact hl)).mono ?_
    rintro e w3 ⟨aK, cK, K, rfl, hcp, hKl, hKr, hKm, hKw, b3⟩
    have HK : Hid (K.Pairwise (· < ·) ∧ (∀ t, t ∈ K ↔ L.any (ofTier t true) = true) ∧ ∀ t ∈ K, wf t) := ⟨hKr, fun t => ⟨fun h => (hKm t (hKw t h)).1 h, fun h => (hKm t (wf_of (by have := any_range HQO.out h; omega) (by have := any_range HQO.out h; omega))).2 h⟩, hKw⟩
    have B3 : Hid (Grp w3 bm V L ∧ GrowKit.Cp 3 1 IntKit.cells w3 (w2.heap.size) (.slice aK K.length cK) K ∧ Below w.heap.size w w3) := ⟨B2.out.1.below b3, hcp, B2.out.2.trans (b3.mono B2.out.2.size)⟩
    have hz3 : w.heap.size ≤ w3.heap.size := B3.out.2.2.size
    clear b3 hcp hKr hKm hKw B2
    obtain ⟨q, hq⟩ : ∃ q, K.length = q := ⟨_, rfl⟩
    have HQL : Hid (K.length = q) := hq
    rw [hq] at hKl ⊢
    clear hq
    have B4 : Hid (GrowKit.Cp 27 6 ReqKit.cells w3 (w3.heap.size) (.slice none 0 0) (heads L (K.take 0)) ∧ Below w3.heap.size w3 w3) := ⟨Cp.nil _ _, Below.refl _ _⟩
    go_wp2
    go_loopw [4, 6, 16] (fun t4 t6 i wr => ∃ (k : Nat) (v : Value), k ≤ q ∧ t4 = v ∧ i = .int .i64 (k : Int) ∧ Hid (GrowKit.Cp 27 6 ReqKit.cells wr (w3.heap.size) v (heads L (K.take k)) ∧ Below w3.heap.size w3 wr)) (fun _ _ i _ => q - (intOf i).toNat)
    case atStart => exact ⟨0, _, by omega, rfl, rfl, B4⟩
    case round =>
      obtain ⟨k, v, hk, rfl, rfl, HW⟩ := hrel
      clear B4
      by_cases hlt : k < q
      · have hlt2 : k < K.length := by rw [HQL.out]; exact hlt
        obtain ⟨gK, haK, hgK, hcK, hgl, hKc⟩ := ints_own B3.out.2.1 (by omega)
        subst haK
        obtain ⟨t, ht⟩ : ∃ t, K[k] = t := ⟨_, rfl⟩
        have htK : t ∈ K := by rw [← ht]; exact List.getElem_mem hlt2
        have hwt := HK.out.2.2 t htK
        have hcell : wr.cell? ⟨gK, k, none⟩ = some (.int .i64 t) := by rw [HW.out.2.cell (p := ⟨gK, k, none⟩) hgl, hKc k hlt2, ht]
        have hcell0 : wr.cell? ⟨gK, 0 + k, none⟩ = some (.int .i64 t) := by rw [Nat.zero_add]; exact hcell
        have hne : 0 < (tierOf L t true).length := List.length_pos_iff.2 (any_tier.1 ((HK.out.2.1 t).1 htK))
        obtain ⟨g, c2, hV, hc2, hgb, hgw, hrow⟩ := reqs_own (B3.out.1.own t hwt) hne
        have hlk := (B3.out.1.below HW.out.2).look hwt
        rw [hV] at hlk
        obtain ⟨m, hm⟩ : ∃ m, (tierOf L t true).length = m := ⟨_, rfl⟩
        obtain ⟨M, hMM⟩ : ∃ M, tierOf L t true = M := ⟨_, rfl⟩
        have hr1 : Row 27 6 ReqKit.cells wr g 0 M := by rw [← hMM]; exact hrow.below HW.out.2
        have h0M : 0 < M.length := by rw [← hMM]; exact hne
        obtain ⟨sx, hsx⟩ : ∃ s, M[0] = s := ⟨_, rfl⟩
        obtain ⟨x0, x1, x2, x3, x4, x5⟩ := sx
        have u9 := fun jj hjj => (hr1).cell 0 h0M jj hjj
        have p0 : wr.cell? ⟨g, 0 + 0 * 6, none⟩ = some (.int .i64 x0) := by have h9 := u9 0 (by omega); rw [hsx] at h9; exact h9
        have p1 : wr.cell? ⟨g, 0 + 0 * 6 + 1, none⟩ = some (.int .i64 x1) := by have h9 := u9 1 (by omega); rw [hsx] at h9; exact h9
        have p2 : wr.cell? ⟨g, 0 + 0 * 6 + 2, none⟩ = some (.int .i64 x2) := by have h9 := u9 2 (by omega); rw [hsx] at h9; exact h9
        have p3 : wr.cell? ⟨g, 0 + 0 * 6 + 3, none⟩ = some (.int .i64 x3) := by have h9 := u9 3 (by omega); rw [hsx] at h9; exact h9
        have p4 : wr.cell? ⟨g, 0 + 0 * 6 + 4, none⟩ = some (.int .i64 x4) := by have h9 := u9 4 (by omega); rw [hsx] at h9; exact h9
        have p5 : wr.cell? ⟨g, 0 + 0 * 6 + 5, none⟩ = some (.int .i64 x5) := by have h9 := u9 5 (by omega); rw [hsx] at h9; exact h9
        clear u9
        simp only [Nat.zero_add, Nat.zero_mul] at p0 p1 p2 p3 p4 p5
        rw [hm] at hlk hne hc2
        have hli : (k : Int) < (q : Int) := by omega
        have hkc : (k : Int) < (cK : Int) := by have := HQL.out; omega
        have hmi : (0 : Int) < (m : Int) := by omega
        have hHP : Hid (heads L (K.take (k + 1)) = heads L (K.take k) ++ [⟨x0, x1, x2, x3, x4, x5⟩]) := by
          refine heads_push L K k hlt2 _ ?_
          rw [ht, hMM, ← hsx]
          cases M with
          | nil => simp at h0M
          | cons s M => simp
        have HD := heads_klen L (K.take k)
        rw [List.length_take] at HD
        obtain ⟨D, hD⟩ : ∃ D, heads L (K.take k) = D := ⟨_, rfl⟩
        rw [hD] at HW hHP HD
        have hz4 := HW.out.2.size
        clear hr1 hsx hrow hV hgb hgw hm hMM h0M ht htK hKc hgK hD
        obtain ⟨i0, hi, hy0, hy1, hy2⟩ := info_parts info_req
        go_wp2_with (at_builtin; refine wpList_append_own _ rfl (.tmp 20) (.tmp 26) 23 rfl w3.heap.size 27 i0 (.agg #[.int .i64 0, .int .i64 0, .int .i64 0, .int .i64 0, .int .i64 0, .int .i64 0]) 6 48 Try.underlying23 hi hy0 hy1 hy2 rfl (by decide) _ D.length (flat ReqKit.cells D) rfl (HW.out.1.below (n1 _ _)) ⟨wr.heap.size, 0, none⟩ 1 1 (ReqKit.cells ⟨x0, x1, x2, x3, x4, x5⟩) rfl rfl (new_cells wr ⟨x0, x1, x2, x3, x4, x5⟩ 27) (cells_one _) (by unfold maxLen; omega) (by omega) (by rw [sz1]; omega) ?_; intro v8 w8 hown hgr _; have HE : Hid (GrowKit.Cp 27 6 ReqKit.cells w8 (w3.heap.size) v8 (heads L (K.take (k + 1))) ∧ Below w3.heap.size w3 w8) := ⟨by rw [hHP.out]; exact Cp.push hown, Cp.turned (HW.out.1.below (n1 _ _)) hgr (Nat.le_refl _) (HW.out.2.alloc hz4 _)⟩; clear hown hgr)
        go_roundw
        case rel => exact ⟨k + 1, v8, by omega, rfl, by go_num, HE⟩
        case measure => simp [intOf]; omega
      · obtain rfl : k = q := by omega
        have hfull : Hid (heads L (K.take k) = headsTo L true 4) := by
          show _ = _
          rw [← HQL.out, List.take_length]
          exact heads_keys HQO.out HK.out.1 HK.out.2.1
        have HE : Hid (∃ a2 c2, u4 = .slice a2 (headsTo L true 4).length c2 ∧ (headsTo L true 4).length ≤ c2 ∧ Holds wr w3.heap.size [⟨a2, 27, 6, (headsTo L true 4).map ReqKit.cells⟩]) := by
          have h9 := HW.out.1
          rw [hfull.out] at h9
          exact Cp.shape (t := 27) (m := 6) (f := ReqKit.cells) (fun _ => rfl) h9
        obtain ⟨a2, c2, hu, hc2, hh⟩ := HE.out
        subst hu
        have HH : Hid (Holds wr w3.heap.size [⟨a2, 27, 6, (headsTo L true 4).map ReqKit.cells⟩]) := hh
        have HB : Hid (Below w.heap.size w wr) := B3.out.2.2.trans (HW.out.2.mono hz3)
        clear hh HE
        go_wp2
        go_ret
        exact ⟨a2, c2, rfl, hc2, HH.out.low hz3, HB.out⟩
end Go.Proofs.Ytnejomfaojpicaa.QueHeadI
