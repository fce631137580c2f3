/- What slices.Delete does with one request of a list that the caller owns, and the program's without: the list without it lies in the same memory; nothing else turns. -/
import Derived.Test.YtnejomfaojpicaaRows
import Derived.WalkKit
import Derived.WalkSmall
import Derived.BigQuiet
import Derived.Deep.RegionWith
import Derived.Deep.DeepCutAuto
import Derived.Deep.RegionLaw
import Derived.Deep.RegionHeld3
import Derived.Lib.SliceRun
import Derived.Maps.AppendAt
import Derived.Test.YtnejomfaojpicaaListKit
import Derived.Test.YtnejomfaojpicaaHoldKit
import Derived.Test.YtnejomfaojpicaaGrowKit
import Derived.Test.YtnejomfaojpicaaReqKit
import Derived.Test.YtnejomfaojpicaaQueTierS
import Derived.Test.YtnejomfaojpicaaQueOutS
import Derived.Test.YtnejomfaojpicaaQueCopyS
namespace Go.Proofs.Ytnejomfaojpicaa.QueDelI
open Go.RowKit ListKit HoldKit GrowKit QueTierS QueOutS QueCopyS
set_option maxRecDepth 8000
set_option linter.unusedVariables false
set_option linter.unusedSimpArgs false

/-- An array written from o on. -/
def wr (cur : Array Value) : Nat → List Value → Array Value
  | _, [] => cur
  | o, v :: r => wr (cur.setIfInBounds o v) (o + 1) r
theorem wr_size : ∀ (vs : List Value) (o : Nat) (cur : Array Value), (wr cur o vs).size = cur.size
  | [], _, _ => rfl
  | v :: r, o, cur => by rw [wr, wr_size r]; simp
theorem wr_get (j : Nat) : ∀ (vs : List Value) (o : Nat) (cur : Array Value), o + vs.length ≤ cur.size → (wr cur o vs)[j]? = if o ≤ j ∧ j < o + vs.length then vs[j - o]? else cur[j]?
  | [], o, cur, _ => by rw [wr, if_neg (by simp)]
  | v :: r, o, cur, h => by
    simp only [List.length_cons] at h
    rw [wr, wr_get j r (o + 1) _ (by simp; omega)]
    by_cases e : j = o
    · subst e
      rw [if_neg (by omega), if_pos (by simp), Array.getElem?_setIfInBounds]
      simp
      omega
    · by_cases e2 : o + 1 ≤ j ∧ j < o + 1 + r.length
      · rw [if_pos e2, if_pos (by simp only [List.length_cons]; omega), show j - o = (j - (o + 1)) + 1 by omega]
        simp
      · rw [if_neg e2, if_neg (by simp only [List.length_cons]; omega), Array.getElem?_setIfInBounds, if_neg (by omega)]
theorem heap_sets {g : Nat} {t : TypeId} : ∀ (vs : List Value) (o : Nat) (w : World) (cur : Array Value), w.heap[g]? = some (.cells cur t (0, 0)) → (w.setCells g o vs).heap[g]? = some (.cells (wr cur o vs) t (0, 0))
  | [], _, _, _, h => h
  | v :: r, o, w, cur, h => heap_sets r (o + 1) _ _ (set_at h o v)
theorem grown_sets {g : Nat} : ∀ (vs : List Value) (o : Nat) (w : World), w.grownBy (w.setCells g o vs) (some g)
  | [], _, _ => ⟨rfl, rfl, rfl, Nat.le_refl _, fun _ _ _ => rfl⟩
  | v :: r, o, w => World.grownBy.trans (b := w.setCell ⟨g, o, none⟩ v) ⟨rfl, rfl, rfl, by simp [World.setCell], fun k _ hk => Below.heap_setCell _ _ _ _ (fun e => hk (by rw [e]))⟩ (grown_sets r (o + 1) _)
/-- The list without one of its elements. -/
def less (L : List ReqKit.Req) (i : Nat) : List ReqKit.Req := L.take i ++ L.drop (i + 1)
theorem less_len (L : List ReqKit.Req) (i : Nat) (h : i < L.length) : (less L i).length = L.length - 1 := by simp [less]; omega
theorem less_out (L : List ReqKit.Req) (i : Nat) (h : i < L.length) : outOf L (i : Int) = less L i := by
  have aux : ∀ (k : Nat), k ≤ L.length → outTo L (i : Int) k = if k ≤ i then L.take k else L.take i ++ (L.take k).drop (i + 1) := by
    intro k
    induction k with
    | zero => intro _; simp [outTo]
    | succ k ih =>
      intro hk
      rw [out_next L _ k (by omega), ih (by omega)]
      by_cases e : k = i
      · subst e
        rw [if_pos (Nat.le_refl _), if_pos rfl, if_neg (by omega)]
        rw [List.drop_eq_nil_of_le (by rw [List.length_take]; omega)]
      · rw [if_neg (by omega : ¬ ((k : Int) = (i : Int)))]
        by_cases e2 : k ≤ i
        · rw [if_pos e2, if_pos (by omega), List.take_add_one, List.getElem?_eq_getElem (by omega)]
          rfl
        · rw [if_neg e2, if_neg (by omega), List.take_add_one, List.getElem?_eq_getElem (by omega), List.drop_append_of_le_length (by rw [List.length_take]; omega), List.append_assoc]
          rfl
  unfold outOf
  rw [aux L.length (Nat.le_refl _), if_neg (by omega), List.take_length]
  rfl
theorem run_clear_one {P : Program} (w : World) (t e ty : TypeId) (z : Value) (zs : List Value) (ht : P.underlying t = some (.slice e)) (hv : ∀ w, (zeroValue e).run P w = .ok z w) (hz : (Builtin.zeroCells z.cells 1).toList = zs) (h1 : ∀ v ∈ zs, v.oneCell' = true) (b o c : Nat)
    (hc : ∀ j, j < zs.length → (w.cell? ⟨b, o + j, none⟩).isSome = true) (hf : ∀ j, j < zs.length → w.frozen? ⟨b, o + j, none⟩ = false) :
    (Builtin.clear_ #[t] ty #[.slice (some ⟨b, o, none⟩) 1 c]).run P w = .ok (.tuple #[]) (w.setCells b o zs) := by
  have hst := run_storeCells_cells (P := P) b o zs 0 w (by simpa using hc) (by simpa using hf) h1
  simp only [Nat.add_zero] at hst
  simp [Builtin.clear_, run_underlying ht, hv, hz, hst]
def zeros : List Value := [.int .i64 0, .int .i64 0, .int .i64 0, .int .i64 0, .int .i64 0, .int .i64 0]
theorem zero_req (w : World) : (zeroValue 27).run Try.prog w = .ok (.agg #[.int .i64 0, .int .i64 0, .int .i64 0, .int .i64 0, .int .i64 0, .int .i64 0]) w := by kernel_rfl
theorem clear_req (w : World) (ty : TypeId) (b o c : Nat) (hc : ∀ j, j < 6 → (w.cell? ⟨b, o + j, none⟩).isSome = true) (hf : ∀ j, j < 6 → w.frozen? ⟨b, o + j, none⟩ = false) :
    (Builtin.clear_ #[23] ty #[.slice (some ⟨b, o, none⟩) 1 c]).run Try.prog w = .ok (.tuple #[]) (w.setCells b o zeros) :=
  run_clear_one w 23 27 ty (.agg #[.int .i64 0, .int .i64 0, .int .i64 0, .int .i64 0, .int .i64 0, .int .i64 0]) zeros Try.underlying23 zero_req (by kernel_rfl) (fun v hv => by simp [zeros] at hv; subst hv; rfl) b o c hc hf
/-- What a deletion leaves. -/
theorem less_cells (cur : Array Value) (L : List ReqKit.Req) (i c : Nat) (hi : i < L.length) (hs : cur.size = c * 6) (hc : L.length ≤ c) (ht : cur.toList.take (L.length * 6) = flat ReqKit.cells L) :
    (wr (wr cur (i * 6) (flat ReqKit.cells (L.drop (i + 1)))) ((L.length - 1) * 6) zeros).toList.take ((L.length - 1) * 6) = flat ReqKit.cells (less L i) := by
  have l1 : (flat ReqKit.cells (L.drop (i + 1))).length = (L.length - (i + 1)) * 6 := by rw [flat_len (m := 6) (fun _ => rfl), List.length_drop]
  have l2 : (flat ReqKit.cells (L.take i)).length = i * 6 := by rw [flat_len (m := 6) (fun _ => rfl), List.length_take]; congr 1; omega
  have hsz : L.length * 6 ≤ cur.size := by rw [hs]; exact Nat.mul_le_mul_right 6 hc
  have hz : zeros.length = 6 := rfl
  apply List.ext_getElem?
  intro j
  rw [List.getElem?_take]
  unfold less
  rw [flat_app]
  by_cases hj : j < (L.length - 1) * 6
  · rw [if_pos hj, Array.getElem?_toList, wr_get j _ _ _ (by rw [wr_size, hz]; omega), if_neg (by omega), wr_get j _ _ _ (by rw [l1]; omega), l1]
    by_cases h2 : j < i * 6
    · rw [if_neg (by omega), List.getElem?_append_left (by omega)]
      have h3 : (cur.toList.take (L.length * 6))[j]? = cur[j]? := by rw [List.getElem?_take, if_pos (by omega), Array.getElem?_toList]
      rw [← h3, ht]
      have h4 : flat ReqKit.cells L = flat ReqKit.cells (L.take i) ++ flat ReqKit.cells (L.drop i) := by rw [← flat_app, List.take_append_drop]
      rw [h4, List.getElem?_append_left (by omega)]
    · rw [if_pos (by omega), List.getElem?_append_right (by omega), l2]
  · rw [if_neg hj, List.getElem?_eq_none]
    rw [List.length_append, l1, l2]
    omega
set_option maxHeartbeats 4000000 in
theorem delete_one (Bs g c i : Nat) (L : List ReqKit.Req) (w : World) (h : Cp 27 6 ReqKit.cells w Bs (.slice (some ⟨g, 0, none⟩) L.length c) L) (hi : i < L.length) (hl : L.length ≤ 1048577) :
    Calls Try.prog 27 #[.slice (some ⟨g, 0, none⟩) L.length c, .int .i64 (i : Int), .int .i64 ((i + 1 : Nat) : Int)] w fun e w' => e = .returned (.slice (some ⟨g, 0, none⟩) (L.length - 1) c) ∧ Cp 27 6 ReqKit.cells w' Bs (.slice (some ⟨g, 0, none⟩) (less L i).length c) (less L i) ∧ w.grownBy w' (some g) := by
  obtain ⟨hfl, h0 | ⟨g2, cap, cur, hv, hb, hg, hcc, hm, hs, ht⟩⟩ := h
  · cases h0.1
  · injection hv with e1 e2 e3
    injection e1 with e1
    injection e1 with e1
    subst e1 e3
    obtain ⟨n, hn⟩ : ∃ n, L.length = n := ⟨_, rfl⟩
    obtain ⟨j, hj⟩ : ∃ j, i + 1 = j := ⟨_, rfl⟩
    obtain ⟨news, hnews⟩ : ∃ news, flat ReqKit.cells (L.drop (i + 1)) = news := ⟨_, rfl⟩
    have hnl : news.length = (n - j) * 6 := by rw [← hnews, flat_len (m := 6) (fun _ => rfl), List.length_drop, hn, hj]
    have HM : Hid ((less L i).length = n - 1) := by show _ = _; rw [less_len L i hi, hn]
    have HLESS : Hid ((wr (wr cur (i * 6) news) ((n - 1) * 6) zeros).toList.take ((n - 1) * 6) = flat ReqKit.cells (less L i)) := by
      have h9 := less_cells cur L i c hi hs hcc ht
      rw [hnews, hn] at h9
      exact h9
    have HN1 : Hid (∀ u ∈ news, u.oneCell' = true) := by rw [← hnews]; exact flat_ones _
    have hcell : ∀ q u, news[q]? = some u → cur[j * 6 + q]? = some u := fun q u hu => by
      have hq : q < (n - j) * 6 := by rw [← hnl]; exact (List.getElem?_eq_some_iff.1 hu).1
      have h4 : flat ReqKit.cells L = flat ReqKit.cells (L.take j) ++ news := by rw [← hnews, hj, ← flat_app, List.take_append_drop]
      have l2 : (flat ReqKit.cells (L.take j)).length = j * 6 := by rw [flat_len (m := 6) (fun _ => rfl), List.length_take]; congr 1; omega
      have h3 : (cur.toList.take (L.length * 6))[j * 6 + q]? = cur[j * 6 + q]? := by rw [List.getElem?_take, if_pos (by rw [hn]; omega), Array.getElem?_toList]
      rw [← h3, ht, h4, List.getElem?_append_right (by omega), l2, show j * 6 + q - j * 6 = q by omega]
      exact hu
    have HG : Hid (w.heap[g]? = some (.cells cur 27 (0, 0))) := hg
    have hsz : n * 6 ≤ cur.size := by rw [hs, ← hn]; exact Nat.mul_le_mul_right 6 hcc
    have HW1 : Hid ((w.drew.setCells g (0 + i * 6) news).heap[g]? = some (.cells (wr cur (i * 6) news) 27 (0, 0))) := by
      have h9 := heap_sets (t := 27) news (0 + i * 6) w.drew cur hg
      rw [Nat.zero_add] at h9 ⊢
      exact h9
    have HGR : Hid (w.grownBy (w.drew.setCells g (0 + i * 6) news) (some g)) := World.grownBy.trans (b := w.drew) ⟨rfl, rfl, rfl, Nat.le_refl _, fun _ _ _ => rfl⟩ (grown_sets _ _ _)
    have hsp : ∀ q, q < news.length → (w.drew.cell? ⟨g, 0 + i * 6 + q, none⟩).isSome = true ∧ w.drew.frozen? ⟨g, 0 + i * 6 + q, none⟩ = false := fun q hq => by
      have hg2 : w.drew.heap[g]? = some (.cells cur 27 (0, 0)) := hg
      rw [hnl] at hq
      exact ⟨by rw [cellB hg2]; rw [Array.getElem?_eq_getElem (by omega)]; rfl, fzB hg2 _⟩
    have HSP : Hid (∀ q, q < news.length → (w.drew.cell? ⟨g, 0 + i * 6 + q, none⟩).isSome = true ∧ w.drew.frozen? ⟨g, 0 + i * 6 + q, none⟩ = false) := hsp
    obtain ⟨ad, had, hsrc⟩ : ∃ ad : Addr, (if c = j then some (⟨g, 0, none⟩ : Addr) else some ⟨g, j * 6, none⟩) = some ad ∧ Hid (∀ q u, news[q]? = some u → w.drew.cell? (ad.add q) = some u) := by
      have hg2 : w.drew.heap[g]? = some (.cells cur 27 (0, 0)) := hg
      by_cases e : c = j
      · refine ⟨⟨g, 0, none⟩, by rw [if_pos e], fun q u hu => ?_⟩
        have h5 : n = j := by omega
        rw [h5] at hnl
        have h6 : news = [] := List.length_eq_zero_iff.1 (by rw [hnl]; omega)
        rw [h6] at hu
        simp at hu
      · refine ⟨⟨g, j * 6, none⟩, by rw [if_neg e], fun q u hu => ?_⟩
        rw [Addr.add_lit, cellB hg2]
        exact hcell q u hu
    have HCP : Hid (Bs ≤ g ∧ c ≤ maxLen ∧ cur.size = c * 6) := ⟨hb, hm, hs⟩
    have hjn : j ≤ n := by omega
    have hnc : n ≤ c := by omega
    have hjc : j ≤ c := by omega
    have hic : i ≤ c := by omega
    have hij : i ≤ j := by omega
    have hni : ¬ n = i := by omega
    have hne : ((i : Int) == (j : Int)) = false := by rw [beq_eq_false_iff_ne]; omega
    have HJ : Hid (i + (n - j) = n - 1 ∧ i + 1 = j ∧ i < n) := ⟨by omega, hj, by omega⟩
    obtain ⟨i0, hi0, hy0, hy1, hy2⟩ := info_parts info_req
    obtain ⟨m, hm1⟩ : ∃ m, n - 1 = m := ⟨_, rfl⟩
    have hmn : m ≤ n := by omega
    have hcm : ¬ c = m := by omega
    have hmm : n - m = 1 := by omega
    obtain ⟨W1, hW1⟩ : ∃ W1, w.drew.setCells g (i * 6) news = W1 := ⟨_, rfl⟩
    have e0 : 0 + i * 6 = i * 6 := Nat.zero_add _
    have HW1 := HW1.out
    have HGR := HGR.out
    rw [e0, hW1] at HW1 HGR
    have hclr : ∀ ty, (Builtin.clear_ #[23] ty #[.slice (some ⟨g, m * 6, none⟩) 1 (c - m)]).run Try.prog W1 = .ok (.tuple #[]) (W1.setCells g (m * 6) zeros) := fun ty => by
      exact clear_req W1 ty g (m * 6) (c - m) (fun q hq => by rw [cellB HW1, Array.getElem?_eq_getElem (by rw [wr_size]; omega)]; rfl) (fun q hq => fzB HW1 _)
    have HW2 : Hid ((W1.setCells g (m * 6) zeros).heap[g]? = some (.cells (wr (wr cur (i * 6) news) (m * 6) zeros) 27 (0, 0))) := heap_sets (t := 27) zeros (m * 6) W1 _ HW1
    have HLESS := HLESS.out
    rw [hm1] at HLESS
    have HLESS : Hid ((wr (wr cur (i * 6) news) (m * 6) zeros).toList.take (m * 6) = flat ReqKit.cells (less L i)) := HLESS
    have HGR : Hid (w.grownBy W1 (some g)) := HGR
    have HWE : Hid (w.drew.setCells g (i * 6) news = W1) := hW1
    have HM : Hid ((less L i).length = m) := by show _ = _; rw [HM.out, hm1]
    clear hW1 HW1 e0
    rw [hn, hj, hm1]
    rw [hn] at hl
    clear hcell hg hsp hnews hs ht hm hb hfl hn hj hi hcc
    go_enter Try.func27, Try.ntmps27
    go_wp2_with fail
    go_region_law (refine step_append_room rfl (.tmp 22) (.tmp 25) 23 rfl 27 i0 6 Try.underlying23 hi0 hy1 g 0 i c (by simp [Act.eval, Act.put]) ad (n - j) (c - j) news (by simp [Act.eval, Act.put]) hnl hsrc.out HN1.out (by omega) HSP.out ?_)
    rw [show i + (n - j) = m by have := HJ.out; omega]
    rw [HWE.out]
    clear HWE HSP hsrc had HN1 hnl hjn hjc hic hij hne hi0 hy0 hy1 hy2 hni
    go_wp2
    go_ret
    refine ⟨rfl, ?_, ?_⟩
    · refine ⟨?_, Or.inr ⟨g, c, _, by rw [HM.out], HCP.out.1, HW2.out, by rw [HM.out]; omega, HCP.out.2.1, by rw [wr_size, wr_size]; exact HCP.out.2.2, ?_⟩⟩
      · rw [flat_len (m := 6) (fun _ => rfl)]
      · rw [HM.out]
        exact HLESS.out
    · exact World.grownBy.trans HGR.out (grown_sets _ _ _)
theorem Cp.apart {w : World} {B : Nat} {v : Value} {L : List ReqKit.Req} (h : Cp 27 6 ReqKit.cells w B v L) {p : Addr} (hne : v.ownBlock ≠ some p.block) (u : Value) : Cp 27 6 ReqKit.cells (w.setCell p u) B v L := h.same fun g hg _ => Below.heap_setCell _ _ _ _ (fun e => hne (by rw [hg, e]))
theorem grown_set {w w1 : World} {r : Option Nat} (h : w.grownBy w1 r) {p : Addr} (hp : w.heap.size ≤ p.block) (u : Value) : w.grownBy (w1.setCell p u) r :=
  ⟨h.os, h.tape, h.output, Nat.le_trans h.size (by simp [World.setCell]), fun k hk hr => (Below.heap_setCell _ _ _ _ (by omega)).trans (h.block k hk hr)⟩
theorem six_set {W : World} {p : Addr} {u : Value} {N : Nat} {x0 x1 x2 x3 x4 x5 : Int} (hN : N ≠ p.block) (h : W.cell? ⟨N, 0, none⟩ = some (.int .i64 x0) ∧ W.cell? ⟨N, 1, none⟩ = some (.int .i64 x1) ∧ W.cell? ⟨N, 2, none⟩ = some (.int .i64 x2) ∧ W.cell? ⟨N, 3, none⟩ = some (.int .i64 x3) ∧ W.cell? ⟨N, 4, none⟩ = some (.int .i64 x4) ∧ W.cell? ⟨N, 5, none⟩ = some (.int .i64 x5)) : (W.setCell p u).cell? ⟨N, 0, none⟩ = some (.int .i64 x0) ∧ (W.setCell p u).cell? ⟨N, 1, none⟩ = some (.int .i64 x1) ∧ (W.setCell p u).cell? ⟨N, 2, none⟩ = some (.int .i64 x2) ∧ (W.setCell p u).cell? ⟨N, 3, none⟩ = some (.int .i64 x3) ∧ (W.setCell p u).cell? ⟨N, 4, none⟩ = some (.int .i64 x4) ∧ (W.setCell p u).cell? ⟨N, 5, none⟩ = some (.int .i64 x5) := by
  have eN : ∀ i, (W.setCell p u).cell? ⟨N, i, none⟩ = W.cell? ⟨N, i, none⟩ := fun i => World.cell?_of_block (Below.heap_setCell W p u N hN)
  simp only [eN]
  exact h
set_option maxHeartbeats 4000000 in
theorem without_one (Bs g c i : Nat) (L : List ReqKit.Req) (w : World) (h : Cp 27 6 ReqKit.cells w Bs (.slice (some ⟨g, 0, none⟩) L.length c) L) (hi : i < L.length) (hl : L.length ≤ 1048577) :
    Calls Try.prog 16 #[.slice (some ⟨g, 0, none⟩) L.length c, .int .i64 (i : Int)] w fun e w' => e = .returned (.tuple #[.slice (some ⟨g, 0, none⟩) (less L i).length c, .agg (ReqKit.cells L[i]).toArray]) ∧ Cp 27 6 ReqKit.cells w' Bs (.slice (some ⟨g, 0, none⟩) (less L i).length c) (less L i) ∧ w.grownBy w' (some g) := by
  have HC : Hid (Cp 27 6 ReqKit.cells w Bs (.slice (some ⟨g, 0, none⟩) L.length c) L) := h
  have hgl : g < w.heap.size := h.lt g rfl
  have HD := fun W h => delete_one Bs g c i L W h hi hl
  have hrow : Row 27 6 ReqKit.cells w g 0 L := by
    obtain ⟨a3, c3, h3, h4, h5⟩ := Cp.shape (t := 27) (m := 6) (f := ReqKit.cells) (fun _ => rfl) h
    injection h3 with e1 _ e3
    subst e1 e3
    rcases h5.get (t := 27) (m := 6) (L := L) (f := ReqKit.cells) (a := some ⟨g, 0, none⟩) (by simp) with h6 | ⟨g2, o2, e2, h6⟩
    · subst h6; simp at hi
    · injection e2 with e2
      injection e2 with e3 e4 _
      subst e3 e4
      exact h6
  obtain ⟨sx, hsx⟩ : ∃ s, L[i] = s := ⟨_, rfl⟩
  obtain ⟨x0, x1, x2, x3, x4, x5⟩ := sx
  have u9 := fun jj hjj => (hrow).cell i hi jj hjj
  have p0 : w.cell? ⟨g, 0 + i * 6, none⟩ = some (.int .i64 x0) := by have h9 := u9 0 (by omega); rw [hsx] at h9; exact h9
  have p1 : w.cell? ⟨g, 0 + i * 6 + 1, none⟩ = some (.int .i64 x1) := by have h9 := u9 1 (by omega); rw [hsx] at h9; exact h9
  have p2 : w.cell? ⟨g, 0 + i * 6 + 2, none⟩ = some (.int .i64 x2) := by have h9 := u9 2 (by omega); rw [hsx] at h9; exact h9
  have p3 : w.cell? ⟨g, 0 + i * 6 + 3, none⟩ = some (.int .i64 x3) := by have h9 := u9 3 (by omega); rw [hsx] at h9; exact h9
  have p4 : w.cell? ⟨g, 0 + i * 6 + 4, none⟩ = some (.int .i64 x4) := by have h9 := u9 4 (by omega); rw [hsx] at h9; exact h9
  have p5 : w.cell? ⟨g, 0 + i * 6 + 5, none⟩ = some (.int .i64 x5) := by have h9 := u9 5 (by omega); rw [hsx] at h9; exact h9
  clear u9
  simp only [Nat.zero_add] at p0 p1 p2 p3 p4 p5
  have hcc : L.length ≤ c := by
    obtain ⟨a3, c3, h3, h4, h5⟩ := Cp.shape (t := 27) (m := 6) (f := ReqKit.cells) (fun _ => rfl) h
    injection h3 with e1 _ e3
    subst e3
    exact h4
  obtain ⟨n, hn⟩ : ∃ n, L.length = n := ⟨_, rfl⟩
  obtain ⟨m, hm⟩ : ∃ m, (less L i).length = m := ⟨_, rfl⟩
  have hmn : n - 1 = m := by rw [← hm, less_len L i hi, hn]
  have hin : (i : Int) < (n : Int) := by omega
  have hi1 : (i : Int) + 1 = ((i + 1 : Nat) : Int) := by omega
  have hw1 : IntKind.i64.wrap ((i + 1 : Nat) : Int) = ((i + 1 : Nat) : Int) := by rw [IntKind.wrap_i64]; omega
  have HN : Hid (L.length = n) := hn
  have HM : Hid ((less L i).length = m) := hm
  rw [hsx]
  rw [hn, hm, hmn] at HD
  rw [hn, hm]
  rw [hn] at hcc hl
  obtain ⟨j, hj⟩ : ∃ j, i + 1 = j := ⟨_, rfl⟩
  rw [hj] at HD hi1 hw1
  have HCn : Hid (Cp 27 6 ReqKit.cells w Bs (.slice (some ⟨g, 0, none⟩) n c) L) := by show Cp _ _ _ _ _ _ _; rw [← hn]; exact h
  have HS : Hid (L[i] = ⟨x0, x1, x2, x3, x4, x5⟩) := hsx
  clear hrow hsx h hn hm hmn hj HC
  have B0 : Hid (Cp 27 6 ReqKit.cells ((w.alloc (.cells #[.int .i64 0, .int .i64 0, .int .i64 0, .int .i64 0, .int .i64 0, .int .i64 0] 27)).alloc (.cells #[.int .i64 x0, .int .i64 x1, .int .i64 x2, .int .i64 x3, .int .i64 x4, .int .i64 x5] 27)) Bs (.slice (some ⟨g, 0, none⟩) n c) L ∧ boxB ((w.alloc (.cells #[.int .i64 0, .int .i64 0, .int .i64 0, .int .i64 0, .int .i64 0, .int .i64 0] 27)).alloc (.cells #[.int .i64 x0, .int .i64 x1, .int .i64 x2, .int .i64 x3, .int .i64 x4, .int .i64 x5] 27)) w.heap.size #[.int .i64 0, .int .i64 0, .int .i64 0, .int .i64 0, .int .i64 0, .int .i64 0] 27 ∧ boxB ((w.alloc (.cells #[.int .i64 0, .int .i64 0, .int .i64 0, .int .i64 0, .int .i64 0, .int .i64 0] 27)).alloc (.cells #[.int .i64 x0, .int .i64 x1, .int .i64 x2, .int .i64 x3, .int .i64 x4, .int .i64 x5] 27)) (w.heap.size + 1) #[.int .i64 x0, .int .i64 x1, .int .i64 x2, .int .i64 x3, .int .i64 x4, .int .i64 x5] 27 ∧ Below w.heap.size w ((w.alloc (.cells #[.int .i64 0, .int .i64 0, .int .i64 0, .int .i64 0, .int .i64 0, .int .i64 0] 27)).alloc (.cells #[.int .i64 x0, .int .i64 x1, .int .i64 x2, .int .i64 x3, .int .i64 x4, .int .i64 x5] 27))) := ⟨HCn.out.below (n2 _ _ _), (boxB.new _ _ _).below (n1 _ _), new2 _ _ _ _, n2 _ _ _⟩
  go_enter Try.func16, Try.ntmps16
  go_upto_region 2 with fail
  clear p0 p1 p2 p3 p4 p5
  generalize ((w.alloc (.cells #[.int .i64 0, .int .i64 0, .int .i64 0, .int .i64 0, .int .i64 0, .int .i64 0] 27)).alloc (.cells #[.int .i64 x0, .int .i64 x1, .int .i64 x2, .int .i64 x3, .int .i64 x4, .int .i64 x5] 27)) = W6 at *
  have S0 : Hid (W6.drew.cell? ⟨w.heap.size + 1, 0, none⟩ = some (.int .i64 x0) ∧ W6.drew.cell? ⟨w.heap.size + 1, 1, none⟩ = some (.int .i64 x1) ∧ W6.drew.cell? ⟨w.heap.size + 1, 2, none⟩ = some (.int .i64 x2) ∧ W6.drew.cell? ⟨w.heap.size + 1, 3, none⟩ = some (.int .i64 x3) ∧ W6.drew.cell? ⟨w.heap.size + 1, 4, none⟩ = some (.int .i64 x4) ∧ W6.drew.cell? ⟨w.heap.size + 1, 5, none⟩ = some (.int .i64 x5)) := ⟨B0.out.2.2.1.cell 0, B0.out.2.2.1.cell 1, B0.out.2.2.1.cell 2, B0.out.2.2.1.cell 3, B0.out.2.2.1.cell 4, B0.out.2.2.1.cell 5⟩
  have ES : Hid (∀ (W : World) (j : Nat) (u : Value), (W.cell? ⟨w.heap.size + 1, 0, none⟩ = some (.int .i64 x0) ∧ W.cell? ⟨w.heap.size + 1, 1, none⟩ = some (.int .i64 x1) ∧ W.cell? ⟨w.heap.size + 1, 2, none⟩ = some (.int .i64 x2) ∧ W.cell? ⟨w.heap.size + 1, 3, none⟩ = some (.int .i64 x3) ∧ W.cell? ⟨w.heap.size + 1, 4, none⟩ = some (.int .i64 x4) ∧ W.cell? ⟨w.heap.size + 1, 5, none⟩ = some (.int .i64 x5)) → ((W.setCell ⟨w.heap.size, j, none⟩ u).cell? ⟨w.heap.size + 1, 0, none⟩ = some (.int .i64 x0) ∧ (W.setCell ⟨w.heap.size, j, none⟩ u).cell? ⟨w.heap.size + 1, 1, none⟩ = some (.int .i64 x1) ∧ (W.setCell ⟨w.heap.size, j, none⟩ u).cell? ⟨w.heap.size + 1, 2, none⟩ = some (.int .i64 x2) ∧ (W.setCell ⟨w.heap.size, j, none⟩ u).cell? ⟨w.heap.size + 1, 3, none⟩ = some (.int .i64 x3) ∧ (W.setCell ⟨w.heap.size, j, none⟩ u).cell? ⟨w.heap.size + 1, 4, none⟩ = some (.int .i64 x4) ∧ (W.setCell ⟨w.heap.size, j, none⟩ u).cell? ⟨w.heap.size + 1, 5, none⟩ = some (.int .i64 x5))) := fun W j u h => six_set (by show w.heap.size + 1 ≠ w.heap.size; omega) h
  have hzz := B0.out.2.2.1.lt
  go_wp2_with fail
  go_region_held3 (fun w' => w'.cell? ⟨w.heap.size + 1, 0, none⟩ = some (.int .i64 x0) ∧ w'.cell? ⟨w.heap.size + 1, 1, none⟩ = some (.int .i64 x1) ∧ w'.cell? ⟨w.heap.size + 1, 2, none⟩ = some (.int .i64 x2) ∧ w'.cell? ⟨w.heap.size + 1, 3, none⟩ = some (.int .i64 x3) ∧ w'.cell? ⟨w.heap.size + 1, 4, none⟩ = some (.int .i64 x4) ∧ w'.cell? ⟨w.heap.size + 1, 5, none⟩ = some (.int .i64 x5)) (first | with_reducible exact S0.out | with_reducible exact S3.out | with_reducible exact ES.out _ _ _ (ES.out _ _ _ (ES.out _ _ _ (ES.out _ _ _ (ES.out _ _ _ (ES.out _ _ _ (S3.out))))))) ((go_at_call 27; refine (HD _ (B0.out.1.below (Below.refl _ _).drew)).mono ?_; rintro e w3 ⟨rfl, hcp, hgr⟩; have B3 : Hid (Cp 27 6 ReqKit.cells w3 Bs (.slice (some ⟨g, 0, none⟩) m c) (less L i) ∧ boxB w3 w.heap.size #[.int .i64 0, .int .i64 0, .int .i64 0, .int .i64 0, .int .i64 0, .int .i64 0] 27 ∧ boxB w3 (w.heap.size + 1) #[.int .i64 x0, .int .i64 x1, .int .i64 x2, .int .i64 x3, .int .i64 x4, .int .i64 x5] 27 ∧ w.grownBy w3 (some g)) := ⟨hcp, box_grown (r := some g) (w := W6.drew) B0.out.2.1 hgr (fun e => by injection e with e; omega), box_grown (r := some g) (w := W6.drew) B0.out.2.2.1 hgr (fun e => by injection e with e; omega), World.grownBy.trans ⟨B0.out.2.2.2.os, B0.out.2.2.2.tape, B0.out.2.2.2.output, B0.out.2.2.2.size, fun k hk _ => B0.out.2.2.2.block k hk⟩ (World.grownBy.trans (b := W6.drew) ⟨rfl, rfl, rfl, Nat.le_refl _, fun _ _ _ => rfl⟩ hgr)⟩; have S3 : Hid (w3.cell? ⟨w.heap.size + 1, 0, none⟩ = some (.int .i64 x0) ∧ w3.cell? ⟨w.heap.size + 1, 1, none⟩ = some (.int .i64 x1) ∧ w3.cell? ⟨w.heap.size + 1, 2, none⟩ = some (.int .i64 x2) ∧ w3.cell? ⟨w.heap.size + 1, 3, none⟩ = some (.int .i64 x3) ∧ w3.cell? ⟨w.heap.size + 1, 4, none⟩ = some (.int .i64 x4) ∧ w3.cell? ⟨w.heap.size + 1, 5, none⟩ = some (.int .i64 x5)) := ⟨B3.out.2.2.1.cell 0, B3.out.2.2.1.cell 1, B3.out.2.2.1.cell 2, B3.out.2.2.1.cell 3, B3.out.2.2.1.cell 4, B3.out.2.2.1.cell 5⟩; clear hcp hgr; have d0 := B3.out.2.1.cell 0; have f0 := fzB B3.out.2.1 0; have d1 := B3.out.2.1.cell 1; have f1 := fzB B3.out.2.1 1; have d2 := B3.out.2.1.cell 2; have f2 := fzB B3.out.2.1 2; have d3 := B3.out.2.1.cell 3; have f3 := fzB B3.out.2.1 3; have d4 := B3.out.2.1.cell 4; have f4 := fzB B3.out.2.1 4; have d5 := B3.out.2.1.cell 5; have f5 := fzB B3.out.2.1 5))
  go_wp2
  refine bodyPost_ret (v := .tuple #[.slice (some ⟨g, 0, none⟩) m c, .agg #[.int .i64 x0, .int .i64 x1, .int .i64 x2, .int .i64 x3, .int .i64 x4, .int .i64 x5]]) (by simp [results, Try.results16, go_sem, d0, d1, d2, d3, d4, d5]) rfl ⟨rfl, ?_, ?_⟩
  · have hne : ∀ q, (Value.slice (some ⟨g, 0, none⟩) m c).ownBlock ≠ some (⟨w.heap.size, q, none⟩ : Addr).block := fun q e => by simp [Value.ownBlock] at e; omega
    exact Cp.apart (Cp.apart (Cp.apart (Cp.apart (Cp.apart (Cp.apart (B3.out.1) (hne _) _) (hne _) _) (hne _) _) (hne _) _) (hne _) _) (hne _) _
  · exact grown_set (grown_set (grown_set (grown_set (grown_set (grown_set (B3.out.2.2.2) (Nat.le_refl _) _) (Nat.le_refl _) _) (Nat.le_refl _) _) (Nat.le_refl _) _) (Nat.le_refl _) _) (Nat.le_refl _) _
theorem without_at (Bs g c i n m : Nat) (L : List ReqKit.Req) (s : ReqKit.Req) (w : World) (hn : L.length = n) (hm : (less L i).length = m) (h : Cp 27 6 ReqKit.cells w Bs (.slice (some ⟨g, 0, none⟩) n c) L) (hi : i < L.length) (hs : L[i] = s) (hl : n ≤ 1048577) :
    Calls Try.prog 16 #[.slice (some ⟨g, 0, none⟩) n c, .int .i64 (i : Int)] w fun e w' => e = .returned (.tuple #[.slice (some ⟨g, 0, none⟩) m c, .agg (ReqKit.cells s).toArray]) ∧ Cp 27 6 ReqKit.cells w' Bs (.slice (some ⟨g, 0, none⟩) m c) (less L i) ∧ w.grownBy w' (some g) := by
  subst hn hs hm
  exact without_one Bs g c i L w h hi hl
theorem without_as (Bs g c i n m : Nat) (L : List ReqKit.Req) (x0 x1 x2 x3 x4 x5 : Int) (w : World) (hn : L.length = n) (hm : (less L i).length = m) (h : Cp 27 6 ReqKit.cells w Bs (.slice (some ⟨g, 0, none⟩) n c) L) (hi : i < L.length) (hs : L[i] = ⟨x0, x1, x2, x3, x4, x5⟩) (hl : n ≤ 1048577) :
    Calls Try.prog 16 #[.slice (some ⟨g, 0, none⟩) n c, .int .i64 (i : Int)] w fun e w' => e = .returned (.tuple #[.slice (some ⟨g, 0, none⟩) m c, .agg #[.int .i64 x0, .int .i64 x1, .int .i64 x2, .int .i64 x3, .int .i64 x4, .int .i64 x5]]) ∧ Cp 27 6 ReqKit.cells w' Bs (.slice (some ⟨g, 0, none⟩) m c) (less L i) ∧ w.grownBy w' (some g) := without_at Bs g c i n m L ⟨x0, x1, x2, x3, x4, x5⟩ w hn hm h hi hs hl
end Go.Proofs.Ytnejomfaojpicaa.QueDelI
