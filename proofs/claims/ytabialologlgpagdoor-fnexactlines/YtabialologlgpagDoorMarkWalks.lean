/- What the laws' helpers on lists of texts do: two lists of the same texts are found equal; marks are laid into a list of the call's own and found there again, and nothing else turns; no condition but those written in each. -/
import Derived.Test.YtabialologlgpagDoorRows
import Derived.Test.YtabialologlgpagDoorCutMath
import Derived.Test.YtabialologlgpagDoorNumWalks
import Derived.WalkKit
import Derived.BigQuiet
import Derived.Deep.RegionWith
import Derived.Lib.ItoaNum
import Derived.WalkSmall
namespace Go.Proofs.YtabialologlgpagDoor.MarkWalks
open Go.RowKit CutMath NumWalks

/-- The mark of a number. -/
def mk (k : Nat) : List UInt8 := 109 :: Lib.decDigits k

/-- What the loop of markText keeps. -/
def MInv (k m : Nat) (l : List UInt8) : Prop := (0 < m ∧ Lib.decDigits m ++ l = Lib.decDigits k) ∨ (m = 0 ∧ l = Lib.decDigits k)

theorem minv_start {k : Nat} (h : 0 < k) : MInv k k [] := Or.inl ⟨h, by simp⟩

theorem minv_step {k m : Nat} {l : List UInt8} (h : MInv k m l) (hm : 0 < m) : MInv k (m / 10) (UInt8.ofNat (48 + m % 10) :: l) := by
  rcases h with ⟨_, h⟩ | ⟨h, _⟩
  · by_cases h9 : m < 10
    · refine Or.inr ⟨by omega, ?_⟩
      rw [Lib.decDigits_one h9] at h
      rw [← h, Nat.mod_eq_of_lt h9]; rfl
    · refine Or.inl ⟨by omega, ?_⟩
      rw [Lib.decDigits, dif_neg h9] at h
      rw [← h]; simp
  · omega

theorem minv_len {k m : Nat} {l : List UInt8} (h : MInv k m l) : l.length ≤ (Lib.decDigits k).length := by
  rcases h with ⟨_, h⟩ | ⟨_, h⟩
  · rw [← h]; simp
  · rw [h]; exact Nat.le_refl _

theorem minv_end {k : Nat} {l : List UInt8} (h : MInv k 0 l) : l = Lib.decDigits k := by
  rcases h with ⟨h, _⟩ | ⟨_, h⟩
  · omega
  · exact h

theorem add_one_lists (x y : List UInt8) (hx : x.length ≤ 100) (hy : y.length ≤ 100) (W : World) : (Op.stringOp .add ⟨x.toArray⟩ ⟨y.toArray⟩).run Tryd.prog W = .ok (.string ⟨(x ++ y).toArray⟩) W :=
  run_string_add_lists (P := Tryd.prog) (w := W) x y (by omega) (by omega)

set_option maxHeartbeats 1000000 in
theorem mark_text (k : Nat) (w : World) (h0 : 0 < k) (hk : k ≤ 1000000000000) :
    Calls Tryd.prog 24 #[.int .i64 k] w fun e w' => e = .returned (.string ⟨(mk k).toArray⟩) ∧ Below w.heap.size w w' := by
  have hlen := digits_short 12 k (by omega)
  go_enter Tryd.func24, Tryd.ntmps24
  go_wp2
  go_loopw [0, 3] (fun a b wr => ∃ (m : Nat) (l : List UInt8), m ≤ 1000000000000 ∧ l.length ≤ 13 ∧ Hid (MInv k m l) ∧ a = .int .i64 m ∧ b = .string ⟨l.toArray⟩ ∧ Below w.heap.size w wr) (fun a _ _ => (intOf a).toNat)
  case atStart => exact ⟨k, [], hk, by simp, minv_start h0, rfl, rfl, Below.refl _ _⟩
  case round =>
    obtain ⟨m, l, hm, hl, HM, rfl, rfl, hb⟩ := hrel
    by_cases hz : m = 0
    · subst hz
      have hl2 : Hid (l = Lib.decDigits k) := minv_end HM.out
      have kadd : ∀ W : World, (Op.stringOp .add ⟨#[109]⟩ ⟨l.toArray⟩).run Tryd.prog W = .ok (.string ⟨(109 :: l).toArray⟩) W := fun W => by
        have := add_one_lists [109] l (by simp) (by omega) W
        simpa using this
      go_wp2
      go_ret
      refine ⟨?_, hb⟩
      have : mk k = 109 :: l := by rw [hl2.out]; rfl
      rw [this]
      rfl
    · obtain ⟨d, hd⟩ : ∃ d : Nat, m % 10 = d := ⟨_, rfl⟩
      obtain ⟨c, hc⟩ : ∃ c : UInt8, UInt8.ofNat (48 + d) = c := ⟨_, rfl⟩
      have hd10 : d < 10 := by omega
      have hci : (c.toNat : Int) = 48 + (d : Int) := by rw [← hc]; exact ofNat48 d hd10
      have hM2 : Hid (MInv k (m / 10) (c :: l)) := by rw [← hc, ← hd]; exact minv_step HM.out (by omega)
      have hlen2 : (c :: l).length ≤ 13 := Nat.le_trans (minv_len hM2.out) hlen
      have hdd : (m : Int) % 10 = (d : Int) := by omega
      have hcv : (convert 33 9 (.slice (some ⟨wr.heap.size, 0, none⟩) 1 1)).run Tryd.prog (wr.alloc (.cells #[.int .u8 (48 + (d : Int))] 5)) = .ok (.string ⟨#[c]⟩) (wr.alloc (.cells #[.int .u8 (48 + (d : Int))] 5)) :=
        conv_one _ _ _ (by rw [hci]; simp)
      have kadd : ∀ W : World, (Op.stringOp .add ⟨#[c]⟩ ⟨l.toArray⟩).run Tryd.prog W = .ok (.string ⟨(c :: l).toArray⟩) W := fun W => by
        have := add_one_lists [c] l (by simp) (by omega) W
        simpa using this
      have hb2 : Hid (Below w.heap.size w (wr.alloc (.cells #[.int .u8 (48 + (d : Int))] 5))) := hb.alloc hb.size _
      clear hlen HM hd hc hci
      go_wp2
      go_roundw
      case rel => exact ⟨m / 10, c :: l, by omega, hlen2, hM2, by go_num, rfl, hb2⟩
      case measure => simp [intOf]; omega

theorem mark_text_int (x : Int) (k : Nat) (w : World) (hx : x = (k : Int)) (h0 : 0 < k) (hk : k ≤ 1000000000000) :
    Calls Tryd.prog 24 #[.int .i64 x] w fun e w' => e = .returned (.string ⟨(mk k).toArray⟩) ∧ Below w.heap.size w w' := by
  rw [hx]; exact mark_text k w h0 hk

/-- Block g begins with these texts; it is not frozen. -/
def Row (w : World) (g : Nat) (L : List (List UInt8)) : Prop :=
  ∃ cur : Array Value, w.heap[g]? = some (.cells cur 9 (0, 0)) ∧ L.length ≤ cur.size ∧ ∀ (i : Nat) (h : i < L.length), cur[i]? = some (S L[i])

theorem Row.lt {w : World} {g : Nat} {L : List (List UInt8)} (h : Row w g L) : g < w.heap.size := by
  obtain ⟨cur, hg, _, _⟩ := h
  exact (Array.getElem?_eq_some_iff.1 hg).1

theorem Row.cell {w : World} {g : Nat} {L : List (List UInt8)} (h : Row w g L) (i : Nat) (hi : i < L.length) : w.cell? ⟨g, i, none⟩ = some (S L[i]) := by
  obtain ⟨cur, hg, _, hc⟩ := h
  simp [World.cell?, hg, hc i hi]

theorem Row.frozen {w : World} {g : Nat} {L : List (List UInt8)} (h : Row w g L) (i : Nat) : w.frozen? ⟨g, i, none⟩ = false := by
  obtain ⟨cur, hg, _, _⟩ := h
  simp [World.frozen?, hg]

theorem Row.same {w w' : World} {g : Nat} {L : List (List UInt8)} (h : Row w g L) (e : w'.heap[g]? = w.heap[g]?) : Row w' g L := by
  obtain ⟨cur, hg, rest⟩ := h
  exact ⟨cur, by rw [e]; exact hg, rest⟩

theorem Row.below {w w' : World} {g : Nat} {L : List (List UInt8)} (h : Row w g L) (hb : Below w.heap.size w w') : Row w' g L :=
  h.same (hb.block g h.lt)

theorem Row.grown {w w' : World} {g k : Nat} {L : List (List UInt8)} (h : Row w g L) (hb : w.grownBy w' (some k)) (hne : g ≠ k) : Row w' g L :=
  h.same (hb.block g h.lt (by intro e; exact hne (Option.some.inj e)))

theorem Row.take {w : World} {g : Nat} {L : List (List UInt8)} (h : Row w g L) (m : Nat) : Row w g (L.take m) := by
  obtain ⟨cur, hg, hl, hc⟩ := h
  refine ⟨cur, hg, by rw [List.length_take]; omega, fun i hi => ?_⟩
  rw [List.length_take] at hi
  rw [hc i (by omega), List.getElem_take]

set_option maxHeartbeats 1000000 in
theorem eq_strs (g1 g2 c1 c2 : Nat) (L : List (List UInt8)) (w : World) (h1 : Row w g1 L) (h2 : Row w g2 L) (hl : L.length ≤ 1048577) :
    Calls Tryd.prog 13 #[.slice (some ⟨g1, 0, none⟩) L.length c1, .slice (some ⟨g2, 0, none⟩) L.length c2] w fun e w' => e = .returned (.bool true) ∧ Below w.heap.size w w' := by
  have H1 : Hid (Row w g1 L) := h1
  have H2 : Hid (Row w g2 L) := h2
  clear h1 h2
  obtain ⟨n, hn⟩ : ∃ n, L.length = n := ⟨_, rfl⟩
  have HN : Hid (L.length = n) := hn
  rw [hn] at hl ⊢
  clear hn
  have e0 : ((n : Int) != (n : Int)) = false := by simp
  go_enter Tryd.func13, Tryd.ntmps13
  go_wp2
  go_loopw [5] (fun i wr => ∃ k : Nat, k ≤ n ∧ i = .int .i64 k ∧ Below w.heap.size w wr) (fun i _ => n - (intOf i).toNat)
  case atStart => exact ⟨0, by omega, rfl, Below.refl _ _⟩
  case round =>
    obtain ⟨k, hk, rfl, hb⟩ := hrel
    by_cases hlt : k < n
    · have hlt2 : k < L.length := by rw [HN.out]; exact hlt
      obtain ⟨p, hp⟩ : ∃ p, L[k] = p := ⟨_, rfl⟩
      have q1 : wr.cell? ⟨g1, k, none⟩ = some (.string ⟨p.toArray⟩) := by
        have := (H1.out.below hb).cell k hlt2
        rw [this, hp]; rfl
      have q2 : wr.cell? ⟨g2, k, none⟩ = some (.string ⟨p.toArray⟩) := by
        have := (H2.out.below hb).cell k hlt2
        rw [this, hp]; rfl
      have hli : (k : Int) < (n : Int) := by omega
      clear hp
      go_wp2
      go_quiet (fail)
      go_wp2
      go_roundw
      case rel => exact ⟨k + 1, by omega, by go_num, below_drewN hb _⟩
      case measure => simp [intOf]; omega
    · obtain rfl : k = n := by omega
      go_wp2
      go_ret
      exact ⟨rfl, hb⟩

/-- The marks of n numbers from k on. -/
def marks (k n : Nat) : List (List UInt8) := (List.range n).map fun i => mk (k + i)

theorem marks_length (k n : Nat) : (marks k n).length = n := by simp [marks]
theorem marks_get (k n i : Nat) (h : i < (marks k n).length) : (marks k n)[i] = mk (k + i) := by simp [marks]

/-- So many marks lie in block g; it has room for n. -/
def Part (w : World) (g k n i : Nat) : Prop :=
  ∃ cur : Array Value, w.heap[g]? = some (.cells cur 9 (0, 0)) ∧ n ≤ cur.size ∧ ∀ j, j < i → cur[j]? = some (S (mk (k + j)))

theorem Part.start {w : World} {g k : Nat} {L : List (List UInt8)} (h : Row w g L) : Part w g k L.length 0 := by
  obtain ⟨cur, hg, hl, _⟩ := h
  exact ⟨cur, hg, hl, fun j hj => by omega⟩

theorem Part.stop {w : World} {g k n : Nat} (h : Part w g k n n) : Row w g (marks k n) := by
  obtain ⟨cur, hg, hl, hc⟩ := h
  refine ⟨cur, hg, by rw [marks_length]; exact hl, fun i hi => ?_⟩
  rw [marks_get, hc i (by rw [marks_length] at hi; exact hi)]

theorem Part.same {w w' : World} {g k n i : Nat} (h : Part w g k n i) (e : w'.heap[g]? = w.heap[g]?) : Part w' g k n i := by
  obtain ⟨cur, hg, rest⟩ := h
  exact ⟨cur, by rw [e]; exact hg, rest⟩

theorem Part.lt {w : World} {g k n i : Nat} (h : Part w g k n i) : g < w.heap.size := by
  obtain ⟨cur, hg, _, _⟩ := h
  exact (Array.getElem?_eq_some_iff.1 hg).1

theorem Part.frozen {w : World} {g k n i : Nat} (h : Part w g k n i) (j : Nat) : w.frozen? ⟨g, j, none⟩ = false := by
  obtain ⟨cur, hg, _, _⟩ := h
  simp [World.frozen?, hg]

theorem Part.cell {w : World} {g k n i : Nat} (h : Part w g k n i) (j : Nat) (hj : j < n) : ∃ v, w.cell? ⟨g, j, none⟩ = some v := by
  obtain ⟨cur, hg, hl, _⟩ := h
  exact ⟨cur[j]'(by omega), by simp [World.cell?, hg]⟩

theorem heap_setCell_at {w : World} {g : Nat} {cur : Array Value} {t : TypeId} (h : w.heap[g]? = some (.cells cur t (0, 0))) (i : Nat) (v : Value) :
    (w.setCell ⟨g, i, none⟩ v).heap[g]? = some (.cells (cur.setIfInBounds i v) t (0, 0)) := by
  have hlt := (Array.getElem?_eq_some_iff.1 h).1
  simp [World.setCell, h, Array.getElem?_modify]

theorem Part.store {w : World} {g k n i : Nat} (h : Part w g k n i) (hi : i < n) : Part (w.setCell ⟨g, i, none⟩ (S (mk (k + i)))) g k n (i + 1) := by
  obtain ⟨cur, hg, hl, hc⟩ := h
  refine ⟨_, heap_setCell_at hg i _, by simpa using hl, fun j hj => ?_⟩
  by_cases e : j = i
  · subst e
    simp [show j < cur.size from by omega]
  · rw [Array.getElem?_setIfInBounds_ne (by omega)]
    exact hc j (by omega)

theorem grown_store {w w1 : World} {g : Nat} (h : w.grownBy w1 (some g)) (i : Nat) (v : Value) : w.grownBy (w1.setCell ⟨g, i, none⟩ v) (some g) := by
  refine ⟨h.os, h.tape, h.output, by have := h.size; simpa using this, fun k hk hne => ?_⟩
  rw [Below.heap_setCell w1 ⟨g, i, none⟩ v k (by intro e; exact hne (by rw [e]))]
  exact h.block k hk hne

theorem grown_below {w wr w1 : World} {g : Nat} (h : w.grownBy wr (some g)) (hb : Below wr.heap.size wr w1) : w.grownBy w1 (some g) :=
  ⟨hb.os.trans h.os, hb.tape.trans h.tape, hb.output.trans h.output, Nat.le_trans h.size hb.size, fun k hk hne => (hb.block k (Nat.lt_of_lt_of_le hk h.size)).trans (h.block k hk hne)⟩

theorem val_int {k : IntKind} {a b : Int} (h : a = b) : Value.int k a = .int k b := by rw [h]

theorem grown_refl (w : World) (r : Option Nat) : w.grownBy w r := ⟨rfl, rfl, rfl, Nat.le_refl _, fun _ _ _ => rfl⟩

set_option maxHeartbeats 1000000 in
theorem mark_strs (g c k : Nat) (L : List (List UInt8)) (w : World) (h : Row w g L) (hl : L.length ≤ 1048577) (hk0 : 0 < k) (hk : k ≤ 1048577) :
    Calls Tryd.prog 14 #[.slice (some ⟨g, 0, none⟩) L.length c, .int .i64 k] w fun e w' => e = .returned (.int .i64 ((k : Int) + (L.length : Int))) ∧ Row w' g (marks k L.length) ∧ w.grownBy w' (some g) := by
  have HP : Hid (Part w g k L.length 0) := Part.start h
  clear h
  generalize L.length = n at *
  go_enter Tryd.func14, Tryd.ntmps14
  go_wp2
  go_loopw [1, 5] (fun a i wr => ∃ j : Nat, j ≤ n ∧ a = .int .i64 ((k : Int) + (j : Int)) ∧ i = .int .i64 j ∧ Hid (Part wr g k n j) ∧ Hid (w.grownBy wr (some g))) (fun _ i _ => n - (intOf i).toNat)
  case atStart => exact ⟨0, by omega, by simp, rfl, HP, grown_refl _ _⟩
  case round =>
    obtain ⟨j, hj, rfl, rfl, hP, hG⟩ := hrel
    by_cases hlt : j < n
    · have hli : (j : Int) < (n : Int) := by omega
      go_wp2_with (go_at_call 24; refine (mark_text_int _ (k + j) _ (by omega) (by omega) (by omega)).mono ?_; rintro e w1 ⟨rfl, hb⟩; have hP1 : Hid (Part w1 g k n j) := hP.out.same (hb.block g hP.out.lt); obtain ⟨v, hv⟩ := hP1.out.cell j hlt; have hfr := hP1.out.frozen j; have hG1 : Hid (w.grownBy w1 (some g)) := grown_below hG.out hb)
      go_roundw
      case rel => exact ⟨j + 1, by omega, val_int (by omega), by go_num, hP1.out.store hlt, grown_store hG1.out _ _⟩
      case measure => simp [intOf]; omega
    · obtain rfl : j = n := by omega
      have hR : Hid (Row wr g (marks k j)) := hP.out.stop
      go_wp2
      go_ret
      exact ⟨rfl, hR.out, hG.out⟩

set_option maxHeartbeats 1000000 in
theorem held_strs (g c k n : Nat) (w : World) (h : Row w g (marks k n)) (hl : n ≤ 1048577) (hk0 : 0 < k) (hk : k ≤ 1048577) :
    Calls Tryd.prog 15 #[.slice (some ⟨g, 0, none⟩) n c, .int .i64 k] w fun e w' => e = .returned (.int .i64 ((k : Int) + (n : Int))) ∧ Below w.heap.size w w' := by
  have HR : Hid (Row w g (marks k n)) := h
  clear h
  go_enter Tryd.func15, Tryd.ntmps15
  go_wp2
  go_loopw [1, 5] (fun a i wr => ∃ j : Nat, j ≤ n ∧ a = .int .i64 ((k : Int) + (j : Int)) ∧ i = .int .i64 j ∧ Hid (Below w.heap.size w wr)) (fun _ i _ => n - (intOf i).toNat)
  case atStart => exact ⟨0, by omega, by simp, rfl, Below.refl _ _⟩
  case round =>
    obtain ⟨j, hj, rfl, rfl, hB⟩ := hrel
    by_cases hlt : j < n
    · have hli : (j : Int) < (n : Int) := by omega
      have hR1 : Hid (Row wr g (marks k n)) := HR.out.below hB.out
      have hgl := hR1.out.lt
      obtain ⟨p, hp⟩ : ∃ p, mk (k + j) = p := ⟨_, rfl⟩
      have KP : Hid (mk (k + j) = p) := hp
      have q1 : wr.cell? ⟨g, j, none⟩ = some (.string ⟨p.toArray⟩) := by
        have := hR1.out.cell j (by rw [marks_length]; exact hlt)
        rw [this, marks_get, hp]; rfl
      clear hp
      go_wp2
      go_region_with (go_at_call 24; refine (mark_text_int _ (k + j) _ (by omega) (by omega) (by omega)).mono ?_; rintro e w1 ⟨rfl, hb⟩; rw [KP.out]; have q2 : w1.cell? ⟨g, j, none⟩ = some (.string ⟨p.toArray⟩) := (hb.cell (p := ⟨g, j, none⟩) hgl).trans q1)
      all_goals
        have hB1 : Hid (Below w.heap.size w w1) := hB.out.drew.trans (hb.mono hB.out.size)
        clear hb q1 q2
        go_wp2
        go_roundw
        case rel => exact ⟨j + 1, by omega, val_int (by omega), by go_num, hB1⟩
        case measure => simp [intOf]; omega
    · obtain rfl : j = n := by omega
      go_wp2
      go_ret
      exact ⟨rfl, hB.out⟩
end Go.Proofs.YtabialologlgpagDoor.MarkWalks
