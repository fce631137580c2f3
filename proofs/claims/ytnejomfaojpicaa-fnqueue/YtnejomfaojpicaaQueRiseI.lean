/- What the program's risingTiers answers: the keys of a map by ints, each once, rising, in a list of its own; nothing else turns. -/
import Derived.Test.YtnejomfaojpicaaRows
import Derived.WalkKit
import Derived.WalkSmall
import Derived.BigQuiet
import Derived.Deep.RegionWith
import Derived.Deep.DeepCutAuto
import Derived.Maps.RangeWalk
import Derived.Sort.OwnSortedInts
import Derived.Test.YtnejomfaojpicaaListKit
import Derived.Test.YtnejomfaojpicaaHoldKit
import Derived.Test.YtnejomfaojpicaaGrowKit
import Derived.Test.YtnejomfaojpicaaMapKit
import Derived.Test.YtnejomfaojpicaaIntKit
import Derived.Test.YtnejomfaojpicaaReqKit
import Derived.Test.YtnejomfaojpicaaShelf
namespace Go.Proofs.Ytnejomfaojpicaa.QueRiseI
open Go.RowKit ListKit HoldKit GrowKit MapKit Go.Maps
set_option maxRecDepth 8000
set_option linter.unusedVariables false
set_option linter.unusedSimpArgs false

theorem info_int : (Try.prog.info? 3).map (fun i => (i.zero, i.size, i.bytes)) = some (some (.int .i64 0), 1, 8) := by kernel_rfl
theorem flat_ints (L : List Int) : flat IntKit.cells L = L.map (Value.int .i64) := by
  induction L with
  | nil => rfl
  | cons x L ih =>
    show IntKit.cells x ++ flat IntKit.cells L = _
    rw [ih]
    rfl
/-- The numbers, rising. -/
def up (L : List Int) : List Int := L.mergeSort fun x y => decide (x ≤ y)
theorem up_len (L : List Int) : (up L).length = L.length := List.length_mergeSort _
theorem up_mem (L : List Int) (x : Int) : x ∈ up L ↔ x ∈ L := (List.mergeSort_perm L _).mem_iff
theorem up_rises (L : List Int) (h : L.Nodup) : (up L).Pairwise (· < ·) := by
  have h1 : (up L).Pairwise (fun x y => decide (x ≤ y) = true) := List.pairwise_mergeSort (fun a b c h1 h2 => by simp at *; omega) (fun a b => by simp; omega) L
  have h2 : (up L).Nodup := (List.mergeSort_perm L _).nodup_iff.2 h
  exact (h1.and h2).imp (fun h => by have h3 := h.1; have h4 := h.2; simp at h3; omega)
theorem sort_ints (B : Nat) (a : Option Addr) (c : Nat) (L : List Int) (w : World) (h : GrowKit.Cp 3 1 IntKit.cells w (B) (.slice a L.length c) L) (hl : L.length ≤ 1048577) :
    Calls Try.prog 31 #[.slice a L.length c] w fun e w' => e = .returned (.tuple #[]) ∧ GrowKit.Cp 3 1 IntKit.cells w' (B) (.slice a L.length c) (up L) ∧ w.grownBy w' (Value.slice a L.length c).ownBlock := by
  by_cases h0 : L = []
  · subst h0
    refine (Try.slices_Sort_int_none a c w).mono ?_
    rintro e w' ⟨rfl, rfl⟩
    exact ⟨rfl, by rw [show up [] = [] by simp [up]]; exact h, ⟨rfl, rfl, rfl, Nat.le_refl _, fun _ _ _ => rfl⟩⟩
  · obtain ⟨hfl, h1 | ⟨g, cap, cur, hv, hb, hg, hcc, hm, hs, ht⟩⟩ := h
    · exact absurd (List.length_eq_zero_iff.1 h1.2) h0
    · injection hv with e1 e2 e3
      subst e1 e3
      rw [Nat.mul_one, flat_ints] at ht
      refine (Try.slices_Sort_int g 0 c L w (holds_of_blockI hg ht) (Array.getElem?_eq_some_iff.1 hg).1 (by omega)).mono ?_
      rintro e w' ⟨rfl, n, os, rfl⟩
      refine ⟨rfl, ?_, grownBy_sortedI _⟩
      have h9 := ownsRow_sortedI (w := w) (base := B) (g := g) (cap := c) (n := n) (e := 3) (os := os) (cur := cur) (ss := L) (ts := up L) (up_len L) hb hg hcc hm hs
      show World.ownsRow _ _ _ _ _ _ _
      rw [flat_ints, up_len]
      exact h9
/-- What answers: the keys, rising. -/
def RAns (w : World) (S : Int → Bool) (e : Ending) (w' : World) : Prop := ∃ a c K, e = .returned (.slice a K.length c) ∧ GrowKit.Cp 3 1 IntKit.cells w' (w.heap.size) (.slice a K.length c) K ∧ K.length ≤ 1048577 ∧ K.Pairwise (· < ·) ∧ (∀ t, wf t → (t ∈ K ↔ S t = true)) ∧ (∀ t ∈ K, wf t) ∧ Below w.heap.size w w'
set_option maxHeartbeats 4000000 in
theorem rising (b n : Nat) (z : Value) (V : Int → Value) (S : Int → Bool) (w : World) (h : IM Try.prog 3 w b n z V S) (hn : n ≤ 1048577) :
    Calls Try.prog 20 #[.map (some b)] w (RAns w S) := by
  obtain ⟨D, hown, hD⟩ := h
  have HD : Hid (∀ t, wf t → Maps.has D (ky t) = S t) := fun t ht => (hD t ht).2
  have hsz : Maps.size D ≤ n := by
    obtain ⟨es, clock, _, _, h1, rfl⟩ := hown
    rw [Maps.size_eq, length_sorted, List.length_map]
    simpa using h1
  have HSZ : Hid (Maps.size D ≤ n) := hsz
  have HBL : Hid (b < w.heap.size) := hown.lt
  obtain ⟨i0, hi, hy0, hy1, hy2⟩ := info_parts info_int
  clear hD hsz
  go_enter Try.func20, Try.ntmps20
  go_wp2_with (at_range; refine wpList_range_own _ rfl _ 49 rfl 3 23 (int_keyed Try.underlying3) Try.underlying49 RV b n D rfl hown ?_; intro w0 hrg0 hg0 hs0)
  go_frame
  have B0 : Hid (w0.ranges Try.prog 3 RV b w.heap.size n D (Maps.has D) (Maps.size D) ∧ GrowKit.Cp 3 1 IntKit.cells w0 (w.heap.size + 1) (.slice none 0 0) [] ∧ Below w.heap.size w w0) := ⟨hrg0, Cp.nil _ _, (Below.refl _ _).grown hg0 (Nat.le_refl _) (fun k hk => by cases hk)⟩
  clear hrg0 hg0 hs0 hown
  go_loopw [3] (fun t3 wr => ∃ (v : Value) (left : Lit → Bool) (cnt : Nat) (ks : List Int), t3 = v ∧ Hid (wr.ranges Try.prog 3 RV b w.heap.size n D left cnt ∧ GrowKit.Cp 3 1 IntKit.cells wr (w.heap.size + 1) v ks ∧ Below w.heap.size w wr) ∧ Hid (ks.length + cnt ≤ Maps.size D ∧ ks.Nodup ∧ (∀ t ∈ ks, wf t) ∧ ∀ t, wf t → (t ∈ ks ↔ Maps.has D (ky t) = true ∧ left (ky t) = false))) (fun _ wr => wr.rangeLeft b w.heap.size)
  case atStart => exact ⟨_, _, _, [], rfl, B0, ⟨by simp, List.nodup_nil, fun t h => by simp at h, fun t _ => by simp⟩⟩
  case round =>
    obtain ⟨v, left, cnt, ks, rfl, HW, HK⟩ := hrel
    clear B0
    have hrg := HW.out.1
    go_wp2_with (at_next; refine wpList_next _ rfl _ rfl 3 Try.underlying3 b w.heap.size n D left cnt rfl hrg ?_ ?_)
    · intro hc0 hl0
      have hks : ks.length ≤ 1048577 := by have := HK.out.1; have := HSZ.out; omega
      obtain ⟨a3, c3, hv3, hc3, _⟩ := Cp.shape (t := 3) (m := 1) (f := IntKit.cells) (fun _ => rfl) HW.out.2.1
      subst hv3
      have HL : Hid (∀ kl, left kl = false) := hl0
      have HC3 : Hid (ks.length ≤ 1048577 ∧ ks.length ≤ c3) := ⟨hks, hc3⟩
      clear hc0 hl0 hrg hc3
      go_wp2_with fail
      refine (sort_ints (w.heap.size + 1) a3 c3 ks _ HW.out.2.1 HC3.out.1).mono ?_
      rintro e w2 ⟨rfl, hcp, hgr⟩
      have HE : Hid (GrowKit.Cp 3 1 IntKit.cells w2 (w.heap.size + 1) (.slice a3 ks.length c3) (up ks) ∧ Below w.heap.size w w2) := ⟨hcp, HW.out.2.2.grown hgr HW.out.2.2.size (fun q hq => by have := HW.out.2.1.ge q hq; omega)⟩
      clear hcp hgr
      go_wp2
      go_ret
      refine ⟨a3, c3, up ks, by rw [up_len]; rfl, by rw [up_len]; exact HE.out.1.base (by omega), by rw [up_len]; exact HC3.out.1, up_rises ks HK.out.2.1, fun t ht => ?_, fun t ht => HK.out.2.2.1 t ((up_mem ks t).1 ht), HE.out.2⟩
      rw [up_mem, HK.out.2.2.2 t ht, HD.out t ht, HL.out]
      simp
    · intro x c w1 cnt1 hwx hlx hhx hrg1 hlt hg1 hs1 hen
      have hks : ks.length + 1 ≤ 1048577 := by have := HK.out.1; have := HSZ.out; omega
      have hle := HW.out.2.2.size
      have hrl := hrg.lt
      have B1 : Hid (w1.ranges Try.prog 3 RV b w.heap.size n D (fun z => left z && !z.sameKey (ky x)) cnt1 ∧ GrowKit.Cp 3 1 IntKit.cells w1 (w.heap.size + 1) u3 ks ∧ Below w.heap.size w w1) := ⟨hrg1, HW.out.2.1.same (fun q hq hqb => hg1.block q (HW.out.2.1.lt q hq) (fun e => by injection e with e; omega)), HW.out.2.2.grown hg1 hle (fun q hq => by injection hq with hq; omega)⟩
      have HK2 : Hid ((ks ++ [x]).length + cnt1 ≤ Maps.size D ∧ (ks ++ [x]).Nodup ∧ (∀ t ∈ ks ++ [x], wf t) ∧ ∀ t, wf t → (t ∈ ks ++ [x] ↔ Maps.has D (ky t) = true ∧ (fun z : Lit => left z && !z.sameKey (ky x)) (ky t) = false)) := by
        have hnx : x ∉ ks := fun hx => by
          have h9 := ((HK.out.2.2.2 x hwx).1 hx).2
          rw [hlx] at h9
          cases h9
        refine ⟨by rw [List.length_append, List.length_singleton]; have := HK.out.1; omega, ?_, fun t ht => ?_, fun t ht => ?_⟩
        · rw [List.nodup_append]
          exact ⟨HK.out.2.1, by simp, fun a ha b hb => by
            have hbx : b = x := by simpa using hb
            subst hbx
            exact fun e => hnx (e ▸ ha)⟩
        · rcases List.mem_append.1 ht with ht | ht
          · exact HK.out.2.2.1 t ht
          · have e : t = x := by simpa using ht
            rw [e]
            exact hwx
        · show t ∈ ks ++ [x] ↔ Maps.has D (ky t) = true ∧ (left (ky t) && !(ky t).sameKey (ky x)) = false
          rw [List.mem_append, HK.out.2.2.2 t ht, key_same t x ht hwx]
          by_cases e : t = x
          · subst e
            simp [hhx]
          · have e3 : (t ∈ [x]) = False := by simpa using e
            rw [e3, decide_eq_false e]
            simp
      have hz1 : w.heap.size + 1 ≤ w1.heap.size := by omega
      have HME : Hid (wr.rangeLeft b w.heap.size = cnt ∧ cnt1 < cnt) := ⟨hrg.left_eq, hlt⟩
      clear hrg1 hg1 hlx hhx hrg hlt hs1
      go_wp2_with (at_builtin; refine wpList_append_own _ rfl (.tmp 11) (.tmp 13) 51 rfl (w.heap.size + 1) 3 i0 (.int .i64 0) 1 8 Try.underlying51 hi hy0 hy1 hy2 rfl (by decide) _ ks.length (flat IntKit.cells ks) rfl (B1.out.2.1.below (n1 _ _)) ⟨w1.heap.size, 0, none⟩ 1 1 (IntKit.cells x) rfl rfl (cell_one_new w1 (.int .i64 x) 3) (fun u hu => by simp [IntKit.cells] at hu; subst hu; rfl) (by unfold maxLen; omega) (by omega) (by rw [sz1]; omega) ?_; intro v8 w8 hown hgr _; have HE : Hid (w8.ranges Try.prog 3 RV b w.heap.size n D (fun z => left z && !z.sameKey (ky x)) cnt1 ∧ GrowKit.Cp 3 1 IntKit.cells w8 (w.heap.size + 1) v8 (ks ++ [x]) ∧ Below w.heap.size w w8) := ⟨(B1.out.1.alloc _).kept hgr (fun e => by have := B1.out.2.1.ge _ e.symm; have := HBL.out; omega) (fun e => by have := B1.out.2.1.ge _ e.symm; omega), Cp.push hown, Cp.turned (B1.out.2.1.below (n1 _ _)) hgr (Nat.le_succ _) (B1.out.2.2.alloc B1.out.2.2.size _)⟩; clear hown hgr)
      go_roundw
      case rel => exact ⟨v8, _, cnt1, ks ++ [x], rfl, HE, HK2⟩
      case measure =>
        have e1 := HE.out.1.left_eq
        have e2 := HME.out
        omega
end Go.Proofs.Ytnejomfaojpicaa.QueRiseI
