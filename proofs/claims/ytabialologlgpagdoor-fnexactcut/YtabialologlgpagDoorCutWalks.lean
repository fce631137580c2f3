/- What the model's Cut and the program's Cut answer at every text of at most 2 to the 20 bytes and every byte: the parts, in a list of the call's own, and nothing else turns. -/
import Derived.Test.YtabialologlgpagDoorRows
import Derived.Test.YtabialologlgpagDoorCutMath
import Derived.Test.YtabialologlgpagDoorMarkWalks
import Derived.Test.YtabialologlgpagDoorShelf
import Derived.WalkKit
namespace Go.Proofs.YtabialologlgpagDoor.CutWalks
open Go.RowKit CutMath MarkWalks

theorem info9 : (Tryd.prog.info? 9).map (fun i => (i.zero, i.size, i.bytes)) = some (some (.string ByteArray.empty), 1, 16) := by kernel_rfl

theorem row_of_owns {w : World} {base n : Nat} {v : Value} {L : List (List UInt8)} (h : w.ownsRow base 9 1 v n (L.map S)) (hn : n = L.length) (h1 : 1 ≤ n) :
    ∃ g cap, v = .slice (some ⟨g, 0, none⟩) n cap ∧ base ≤ g ∧ Row w g L ∧ n ≤ cap := by
  rcases h.2 with ⟨_, h0⟩ | ⟨g, cap, cur, hv, hb, hg, hnc, hm, hs, ht⟩
  · omega
  · refine ⟨g, cap, hv, hb, ⟨cur, hg, by omega, fun i hi => ?_⟩, hnc⟩
    have h2 : (cur.toList.take (n * 1))[i]? = (L.map S)[i]? := by rw [ht]
    rw [List.getElem?_take_of_lt (by omega)] at h2
    simpa [hi] using h2

theorem size_toList (s : ByteArray) : s.data.toList.length = s.size := Array.length_toList

/-- One part more in the list that grows. -/
theorem rel_hit {w wr w1 : World} {s : ByteArray} {fr k : Nat} {D : List (List UInt8)} {v v' : Value} {o : Obj} (hown : wr.ownsRow w.heap.size 9 1 v D.length (D.map S)) (hb : Below w.heap.size w wr)
    (h1 : w1.ownsRow w.heap.size 9 1 v' (D.length + 1) (D.map S ++ [.string (s.extract fr k)])) (hg : (wr.alloc o).grownBy w1 v.ownBlock) :
    w1.ownsRow w.heap.size 9 1 v' (D ++ [(s.data.toList.drop fr).take (k - fr)]).length ((D ++ [(s.data.toList.drop fr).take (k - fr)]).map S) ∧ Hid (Below w.heap.size w w1) := by
  refine ⟨?_, (hb.alloc hb.size o).grown hg (by have := hb.size; simp; omega) (fun j hj => (hown.lt j hj).1)⟩
  rw [List.map_append, List.map_cons, List.map_nil, ← extract_S, List.length_append]
  exact h1

theorem take_all (s : ByteArray) (fr : Nat) : (s.data.toList.drop fr).take (s.size - fr) = s.data.toList.drop fr := by
  rw [List.take_of_length_le]
  rw [List.length_drop, size_toList]
  exact Nat.le_refl _

set_option maxHeartbeats 1000000 in
theorem spec_cut_cap (s : ByteArray) (c : UInt8) (w : World) (hs : s.size ≤ 1048576) :
    Calls Tryd.prog 11 #[.string s, .int .u8 (c.toNat : Int)] w fun e w' => ∃ g cap, e = .returned (.slice (some ⟨g, 0, none⟩) (cutFrom c [] s.data.toList).length cap) ∧ w.heap.size ≤ g ∧ Row w' g (cutFrom c [] s.data.toList) ∧ Below w.heap.size w w' ∧ (cutFrom c [] s.data.toList).length ≤ cap := by
  obtain ⟨i0, hi, hz0, hz1, hz2⟩ := info_parts info9
  go_enter Tryd.func11, Tryd.ntmps11
  go_wp2
  go_loopw [5, 6, 7] (fun v f i wr => ∃ (k fr : Nat) (D : List (List UInt8)), fr ≤ k ∧ k ≤ s.size ∧ D.length ≤ k ∧ f = .int .i64 fr ∧ i = .int .i64 k ∧ Hid (Kept c s.data.toList fr k D) ∧ wr.ownsRow w.heap.size 9 1 v D.length (D.map S) ∧ Hid (Below w.heap.size w wr)) (fun _ _ i _ => s.size - (intOf i).toNat)
  case atStart => exact ⟨0, 0, [], by omega, by omega, by simp, rfl, rfl, kept_start _ _, World.ownsRow_made w #[] 0 (Nat.le_refl _) (by decide) rfl, (Below.refl _ _).alloc (Nat.le_refl _) _⟩
  case round =>
    obtain ⟨k, fr, D, hfk, hk, hDk, rfl, rfl, HK, hown, HB⟩ := hrel
    have hbs := HB.out.size
    by_cases hlt : k < s.size
    · by_cases hc : s[k] = c
      · have hcb : ((s[k].toNat : Int) == (c.toNat : Int)) = true := by rw [hc]; simp
        have HK2 : Hid (Kept c s.data.toList (k + 1) (k + 1) (D ++ [(s.data.toList.drop fr).take (k - fr)])) := kept_hit HK.out (by rw [size_toList]; exact hlt) hc
        clear HK hc
        go_wp2_with (at_builtin; refine wpList_append_own _ rfl (.tmp 20) (.tmp 25) 27 rfl w.heap.size 9 i0 (.string ByteArray.empty) 1 16 Tryd.underlying27 hi hz0 hz1 hz2 rfl (by decide) _ _ _ rfl (hown.alloc _) ⟨wr.heap.size, 0, none⟩ 1 1 [.string (s.extract fr k)] rfl rfl ?c1 ?c2 ?c3 ?c4 ?c5 ?_)
        case c1 =>
          intro j u hj
          match j, hj with
          | 0, hj => simp at hj; subst hj; simp [Addr.add]
        case c2 => intro u hu; simp at hu; subst hu; rfl
        case c3 => unfold maxLen; omega
        case c4 => omega
        case c5 => simp; omega
        · intro v' w1 hown1 hgrow _
          have R := rel_hit hown HB.out hown1 hgrow
          clear hown1 hgrow hown HB
          go_wp2
          go_roundw
          case rel => exact ⟨k + 1, k + 1, D ++ [(s.data.toList.drop fr).take (k - fr)], by omega, by omega, by simp; omega, by go_num, by go_num, HK2, R.1, R.2⟩
          case measure => simp [intOf]; omega
      · have hcb : ((s[k].toNat : Int) == (c.toNat : Int)) = false := by
          rw [beq_eq_false_iff_ne]
          intro e
          exact hc (UInt8.toNat_inj.1 (by omega))
        have HK2 : Hid (Kept c s.data.toList fr (k + 1) D) := kept_miss HK.out hfk (by rw [size_toList]; exact hlt) hc
        clear HK hc
        have HO : Hid (wr.ownsRow w.heap.size 9 1 u5 D.length (D.map S)) := hown
        clear hown
        go_wp2
        go_roundw
        case rel => exact ⟨k + 1, fr, D, by omega, by omega, by omega, rfl, by go_num, HK2, HO.out, HB⟩
        case measure => simp [intOf]; omega
    · obtain rfl : k = s.size := by omega
      have HE : Hid (cutFrom c [] s.data.toList = D ++ [s.data.toList.drop fr]) := by
        refine kept_end ?_
        rw [size_toList]
        exact HK.out
      clear HK
      go_wp2_with (at_builtin; refine wpList_append_own _ rfl (.tmp 29) (.tmp 33) 27 rfl w.heap.size 9 i0 (.string ByteArray.empty) 1 16 Tryd.underlying27 hi hz0 hz1 hz2 rfl (by decide) _ _ _ rfl (hown.alloc _) ⟨wr.heap.size, 0, none⟩ 1 1 [.string (s.extract fr s.size)] rfl rfl ?d1 ?d2 ?d3 ?d4 ?d5 ?_)
      case d1 =>
        intro j u hj
        match j, hj with
        | 0, hj => simp at hj; subst hj; simp [Addr.add]
      case d2 => intro u hu; simp at hu; subst hu; rfl
      case d3 => unfold maxLen; omega
      case d4 => omega
      case d5 => simp; omega
      · intro v' w1 hown1 hgrow _
        have R := rel_hit hown HB.out hown1 hgrow
        rw [take_all, ← HE.out] at R
        obtain ⟨g, cap, hv, hg, hrow, hcap⟩ := row_of_owns R.1 rfl (cutFrom_length _ _ _).1
        have HR : Hid (w.heap.size ≤ g ∧ Row w1 g (cutFrom c [] s.data.toList) ∧ Below w.heap.size w w1 ∧ (cutFrom c [] s.data.toList).length ≤ cap) := ⟨hg, hrow, R.2, hcap⟩
        clear hown1 hgrow hown HB R hg hrow hcap
        rw [hv]
        clear hv
        go_wp2
        go_ret
        exact ⟨g, cap, rfl, HR.out.1, HR.out.2.1, HR.out.2.2.1, HR.out.2.2.2⟩

theorem ret_slice {a : Option Addr} {n m c : Nat} (h : n = m) : Ending.returned (.slice a n c) = .returned (.slice a m c) := by rw [h]

theorem row_made (W : World) (c : UInt8) (s : ByteArray) (o : Obj) : Row ((W.alloc o).alloc (.cells ((Lib.splitB ⟨#[c]⟩ 0 (Lib.countB s ⟨#[c]⟩) s).map Value.string).toArray 9)) (W.heap.size + 1) (cutFrom c [] s.data.toList) := by
  refine ⟨((cutFrom c [] s.data.toList).map S).toArray, ?_, by simp, fun i hi => ?_⟩
  · rw [split_vals]
    have h := heap_alloc_new (W.alloc o) (.cells ((cutFrom c [] s.data.toList).map S).toArray 9)
    simpa using h
  · simp [hi]

theorem row_store {w : World} {g i : Nat} {L : List (List UInt8)} (h : Row w g L) (hi : i < L.length) : Row (w.setCell ⟨g, i, none⟩ (S L[i])) g L := by
  obtain ⟨cur, hg, hl, hc⟩ := h
  refine ⟨_, heap_setCell_at hg i _, by simpa using hl, fun j hj => ?_⟩
  by_cases e : j = i
  · subst e
    simp [show j < cur.size from by omega]
  · rw [Array.getElem?_setIfInBounds_ne (by omega)]
    exact hc j hj

set_option maxHeartbeats 1000000 in
theorem impl_cut_cap (s : ByteArray) (c : UInt8) (m : Int) (w : World) (hs : s.size ≤ 1048576) (hm : w.cell? ⟨3, 0, none⟩ = some (.int .i64 m)) :
    Calls Tryd.prog 12 #[.string s, .int .u8 (c.toNat : Int)] w fun e w' => ∃ g cap, e = .returned (.slice (some ⟨g, 0, none⟩) (cutFrom c [] s.data.toList).length cap) ∧ w.heap.size ≤ g ∧ Row w' g (cutFrom c [] s.data.toList) ∧ Below w.heap.size w w' ∧ (cutFrom c [] s.data.toList).length ≤ cap := by
  have h3 : 3 < w.heap.size := World.block_lt_of_cell? w ⟨3, 0, none⟩ hm
  have hcv : (convert 33 9 (.slice (some ⟨w.heap.size, 0, none⟩) 1 1)).run Tryd.prog (w.alloc (.cells #[.int .u8 (c.toNat : Int)] 5)) = .ok (.string ⟨#[c]⟩) (w.alloc (.cells #[.int .u8 (c.toNat : Int)] 5)) :=
    NumWalks.conv_one _ _ _ (by simp)
  have HM : Hid ((w.alloc (.cells #[.int .u8 (c.toNat : Int)] 5)).cell? ⟨3, 0, none⟩ = some (.int .i64 m)) := by
    show (w.alloc _).cell? _ = _
    rw [World.cell?_alloc_past _ _ _ h3]
    exact hm
  clear hm
  obtain ⟨L, hL⟩ : ∃ L, cutFrom c [] s.data.toList = L := ⟨_, rfl⟩
  have KL : Hid (cutFrom c [] s.data.toList = L) := hL
  have hcount := split_count c s
  have hlen := (cutFrom_length c s.data.toList []).2
  rw [hL] at hcount hlen ⊢
  rw [size_toList] at hlen
  have HN : Hid (Lib.countB s ⟨#[c]⟩ + 1 = L.length) := hcount
  clear hcount
  go_enter Tryd.func12, Tryd.ntmps12
  go_wp2_with fail
  refine (Tryd.strings_Split s ⟨#[c]⟩ m _ (by omega) HM.out (Nat.le_refl 1)).mono ?_
  rintro e w1 ⟨rfl, rfl⟩
  have hrow := row_made w c s (.cells #[.int .u8 (c.toNat : Int)] 5)
  have hbel : Below w.heap.size w ((w.alloc (.cells #[.int .u8 (c.toNat : Int)] 5)).alloc (.cells ((Lib.splitB ⟨#[c]⟩ 0 (Lib.countB s ⟨#[c]⟩) s).map Value.string).toArray 9)) := ((Below.refl _ _).alloc (Nat.le_refl _) _).alloc (by simp) _
  rw [hL] at hrow
  rw [HN.out]
  generalize (w.alloc (.cells #[.int .u8 (c.toNat : Int)] 5)).alloc (.cells ((Lib.splitB ⟨#[c]⟩ 0 (Lib.countB s ⟨#[c]⟩) s).map Value.string).toArray 9) = W at *
  have HR : Hid (Row W (w.heap.size + 1) L) := hrow
  have HB : Hid (Below w.heap.size w W) := hbel
  have hg : w.heap.size ≤ w.heap.size + 1 := by omega
  clear hrow hbel hL hcv
  obtain ⟨n, hn⟩ : ∃ n, L.length = n := ⟨_, rfl⟩
  have KN : Hid (L.length = n) := hn
  rw [hn] at hlen ⊢
  clear hn
  go_wp2
  go_loopw [15] (fun i wr => ∃ k : Nat, k ≤ n ∧ i = .int .i64 k ∧ Hid (Row wr (w.heap.size + 1) L) ∧ Hid (Below w.heap.size w wr)) (fun i _ => n - (intOf i).toNat)
  case atStart => exact ⟨0, by omega, rfl, HR, HB⟩
  case round =>
    clear HR HB
    obtain ⟨k, hk, rfl, HR, HB⟩ := hrel
    by_cases hlt : k < n
    · have hlt2 : k < L.length := by rw [KN.out]; exact hlt
      obtain ⟨p, hp⟩ : ∃ p, L[k] = p := ⟨_, rfl⟩
      have KP : Hid (L[k] = p) := hp
      have q1 : wr.cell? ⟨w.heap.size + 1, k, none⟩ = some (.string ⟨p.toArray⟩) := by
        have := HR.out.cell k hlt2
        rw [this, hp]; rfl
      have hps : Hid (p.length ≤ 1048576) := by
        have h1 := cutFrom_part c s.data.toList [] p (by rw [KL.out, ← hp]; exact List.getElem_mem _)
        rw [size_toList] at h1
        simp at h1
        exact Nat.le_trans h1 hs
      have hli : (k : Int) < (n : Int) := by omega
      clear hp
      go_wp2_with (first | (go_at_call 23; go_in) | (go_at_call 29; refine (Tryd.stringslite_Clone ⟨p.toArray⟩ _ (by have := hps.out; simp [ByteArray.size]; omega)).mono ?_; rintro e w1 ⟨rfl, hb⟩; have HR1 : Hid (Row w1 (w.heap.size + 1) L) := HR.out.below hb; have HB1 : Hid (Below w.heap.size w w1) := HB.out.trans (hb.mono HB.out.size); have q2 : w1.cell? ⟨w.heap.size + 1, k, none⟩ = some (.string ⟨p.toArray⟩) := (hb.cell (p := ⟨w.heap.size + 1, k, none⟩) HR.out.lt).trans q1; have q3 := HR1.out.frozen k))
      have HR2 : Hid (Row (w1.setCell ⟨w.heap.size + 1, k, none⟩ (.string ⟨p.toArray⟩)) (w.heap.size + 1) L) := by
        have := row_store HR1.out hlt2
        rw [KP.out] at this
        exact this
      have HB2 : Hid (Below w.heap.size w (w1.setCell ⟨w.heap.size + 1, k, none⟩ (.string ⟨p.toArray⟩))) := HB1.out.setCell hg _
      go_roundw
      case rel => exact ⟨k + 1, by omega, by go_num, HR2, HB2⟩
      case measure => simp [intOf]; omega
    · obtain rfl : k = n := by omega
      go_wp2
      go_ret
      exact ⟨w.heap.size + 1, k, ret_slice KN.out.symm, hg, HR.out, HB.out, by rw [KN.out]; exact Nat.le_refl _⟩

theorem spec_cut (s : ByteArray) (c : UInt8) (w : World) (hs : s.size ≤ 1048576) :
    Calls Tryd.prog 11 #[.string s, .int .u8 (c.toNat : Int)] w fun e w' => ∃ g cap, e = .returned (.slice (some ⟨g, 0, none⟩) (cutFrom c [] s.data.toList).length cap) ∧ w.heap.size ≤ g ∧ Row w' g (cutFrom c [] s.data.toList) ∧ Below w.heap.size w w' :=
  (spec_cut_cap s c w hs).mono fun _ _ ⟨g, cap, he, h1, h2, h3, _⟩ => ⟨g, cap, he, h1, h2, h3⟩

theorem impl_cut (s : ByteArray) (c : UInt8) (m : Int) (w : World) (hs : s.size ≤ 1048576) (hm : w.cell? ⟨3, 0, none⟩ = some (.int .i64 m)) :
    Calls Tryd.prog 12 #[.string s, .int .u8 (c.toNat : Int)] w fun e w' => ∃ g cap, e = .returned (.slice (some ⟨g, 0, none⟩) (cutFrom c [] s.data.toList).length cap) ∧ w.heap.size ≤ g ∧ Row w' g (cutFrom c [] s.data.toList) ∧ Below w.heap.size w w' :=
  (impl_cut_cap s c m w hs hm).mono fun _ _ ⟨g, cap, he, h1, h2, h3, _⟩ => ⟨g, cap, he, h1, h2, h3⟩
end Go.Proofs.YtabialologlgpagDoor.CutWalks
