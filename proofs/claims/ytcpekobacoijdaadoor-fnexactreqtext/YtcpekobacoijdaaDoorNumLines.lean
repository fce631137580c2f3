/- What the model's l06Line and the program's numTexts answer at numbers that lie in a row: the line of them, with blanks between; the program's under the library's own table of powers of ten. -/
import Derived.Test.YtcpekobacoijdaaDoorRows
import Derived.WalkKit
import Derived.WalkSmall
import Derived.BigQuiet
import Derived.Deep.RegionWith
import Derived.Laws.MakeOwn
import Derived.Lib.ItoaNum
import Derived.Lib.SmallJoins
import Derived.Test.YtcpekobacoijdaaDoorShelf
import Derived.Test.YtcpekobacoijdaaDoorNumWalks
import Derived.Test.YtcpekobacoijdaaDoorLineMath
import Derived.Test.YtcpekobacoijdaaDoorListKit
namespace Go.Proofs.YtcpekobacoijdaaDoor.NumLines
open Go.RowKit ListKit LineMath NumWalks
set_option maxRecDepth 8000
set_option linter.unusedVariables false
set_option linter.unusedSimpArgs false

/-- A number's cell, a text's cell. -/
def nf (n : Nat) : List Value := [.int .i64 (n : Int)]
def sf (l : List UInt8) : List Value := [.string ⟨l.toArray⟩]

theorem add_texts (x y : List UInt8) (hx : x.length ≤ 4000) (hy : y.length ≤ 4000) (W : World) : (Op.stringOp .add ⟨x.toArray⟩ ⟨y.toArray⟩).run Tryd.prog W = .ok (.string ⟨(x ++ y).toArray⟩) W :=
  run_string_add_lists (P := Tryd.prog) (w := W) x y (by omega) (by omega)

set_option maxHeartbeats 2000000 in
theorem spec_line (s : List UInt8) (ns : List Nat) (g c : Nat) (w : World) (h : Row 3 1 nf w g 0 ns) (hn : ∀ n ∈ ns, n ≤ 1000000000000) (hl : ns.length ≤ 100) (hs : s.length ≤ 100) :
    Calls Tryd.prog 12 #[.string ⟨s.toArray⟩, .slice (some ⟨g, 0, none⟩) ns.length c] w fun e w' => e = .returned (.string ⟨(lineFrom s ns).toArray⟩) ∧ Below w.heap.size w w' := by
  have HR : Hid (Row 3 1 nf w g 0 ns) := h
  have HM : Hid (∀ n ∈ ns, n ≤ 1000000000000) := hn
  clear h hn
  obtain ⟨N, hN⟩ : ∃ N, ns.length = N := ⟨_, rfl⟩
  have HN : Hid (ns.length = N) := hN
  rw [hN] at hl ⊢
  clear hN
  go_enter Tryd.func12, Tryd.ntmps12
  go_wp2
  go_loopw [0, 6, 9] (fun a x i wr => ∃ (k : Nat) (l : List UInt8), k ≤ N ∧ a = .string ⟨l.toArray⟩ ∧ i = .int .i64 (k : Int) ∧ l.length ≤ 100 + 14 * k ∧ Hid (l = lineFrom s (ns.take k)) ∧ Hid (Below w.heap.size w wr)) (fun _ _ i _ => N - (intOf i).toNat)
  case atStart => exact ⟨0, s, by omega, rfl, rfl, by omega, (rfl : s = lineFrom s []), Below.refl _ _⟩
  case round =>
    obtain ⟨k, l, hk, rfl, rfl, hlen, HL, hb⟩ := hrel
    by_cases hlt : k < N
    · have hlt2 : k < ns.length := by rw [HN.out]; exact hlt
      have hm := HM.out ns[k] (List.getElem_mem hlt2)
      have hc := (HR.out.below hb.out).cell k hlt2 0 (by omega)
      have HS : Hid (lineFrom s (ns.take (k + 1)) = lineStep l ns[k]) := by
        show lineFrom s (ns.take (k + 1)) = _
        rw [lineFrom_take s ns k hlt2, ← HL.out]
      obtain ⟨x, hx⟩ : ∃ x, ns[k] = x := ⟨_, rfl⟩
      rw [hx] at hm hc HS
      have hc2 : wr.cell? ⟨g, k, none⟩ = some (.int .i64 (x : Int)) := by simpa [nf] using hc
      have hd := dec_len13 x hm
      have HD : Hid (lineStep l x = (if l = [] then [] else l ++ [32]) ++ Lib.decDigits x) := rfl
      clear hc hx HL
      obtain ⟨D, hD⟩ : ∃ D, Lib.decDigits x = D := ⟨_, rfl⟩
      have HSN := fun w => spec_num x x (Nat.le_refl _) hm w
      rw [hD] at hd HD HSN
      clear hD
      have hli : (k : Int) < (N : Int) := by omega
      cases l with
      | nil =>
        have kadd : ∀ W : World, (Op.stringOp .add ⟨#[]⟩ ⟨D.toArray⟩).run Tryd.prog W = .ok (.string ⟨D.toArray⟩) W := fun W => by
          have := add_texts [] D (by simp) (by omega) W
          simpa using this
        go_wp2_with (go_at_call 19; refine (HSN _).mono ?_; rintro e w1 ⟨rfl, hb1⟩; have hB1 : Hid (Below w.heap.size w w1) := hb.out.trans (hb1.mono hb.out.size); clear hb1)
        have HQ : Hid (D = lineFrom s (ns.take (k + 1))) := by
          show D = lineFrom s (ns.take (k + 1))
          rw [HS.out, HD.out]
          rfl
        exact ⟨⟨k + 1, D, by omega, rfl, by go_num, by omega, HQ, hB1⟩, by simp [intOf]; omega⟩
      | cons y r =>
        obtain ⟨M, hM⟩ : ∃ M, y :: r ++ [32] = M := ⟨_, rfl⟩
        have hMl : M.length ≤ 101 + 14 * k := by rw [← hM, List.length_append]; simp at hlen ⊢; omega
        have KM : Hid (y :: r ++ [32] = M) := hM
        have kb : ∀ W : World, (Op.stringOp .add ⟨(y :: r).toArray⟩ ⟨#[32]⟩).run Tryd.prog W = .ok (.string ⟨M.toArray⟩) W := fun W => by
          have := add_texts (y :: r) [32] (by omega) (by simp) W
          rw [KM.out] at this
          exact this
        clear hM
        have kadd : ∀ W : World, (Op.stringOp .add ⟨M.toArray⟩ ⟨D.toArray⟩).run Tryd.prog W = .ok (.string ⟨(M ++ D).toArray⟩) W := fun W => add_texts M D (by omega) (by omega) W
        go_wp2_with (go_at_call 19; refine (HSN _).mono ?_; rintro e w1 ⟨rfl, hb1⟩; have hB1 : Hid (Below w.heap.size w w1) := hb.out.trans (hb1.mono hb.out.size); clear hb1)
        have HQ : Hid (M ++ D = lineFrom s (ns.take (k + 1))) := by
          show M ++ D = lineFrom s (ns.take (k + 1))
          rw [HS.out, HD.out, ← KM.out]
          rfl
        exact ⟨⟨k + 1, M ++ D, by omega, rfl, by go_num, by simp; omega, HQ, hB1⟩, by simp [intOf]; omega⟩
    · obtain rfl : k = N := by omega
      have HE : Hid (l = lineFrom s ns) := by
        show l = lineFrom s ns
        rw [HL.out, ← HN.out, List.take_length]
      clear HL
      go_wp2
      go_ret
      exact ⟨by rw [HE.out]; rfl, hb.out⟩

theorem info_str : (Tryd.prog.info? 9).map (fun i => (i.zero, i.size)) = some (some (.string ByteArray.empty), 1) := by kernel_rfl
theorem info_strb : ((Tryd.prog.info? 9).map fun i => decide (i.bytes ≤ 40)) = some true := by kernel_rfl
theorem make_texts (n : Nat) (hn : n ≤ 1048577) (W : World) :
    (Instr.makeSlice 39 (.int .i64 (n : Int)) (.int .i64 (n : Int))).run Tryd.prog W = .ok (.slice (some ⟨W.heap.size, 0, none⟩) n n) (W.alloc (.cells (madeCells #[.string ByteArray.empty] n) 9)) := by
  obtain ⟨i, hi, hz, hs⟩ : ∃ i, Tryd.prog.info? 9 = some i ∧ i.zero = some (.string ByteArray.empty) ∧ i.size = 1 := by
    have := info_str
    cases h : Tryd.prog.info? 9 with
    | none => rw [h] at this; cases this
    | some i => rw [h] at this; simp at this; exact ⟨i, rfl, this.1, this.2⟩
  have hb : i.bytes ≤ 40 := by have := info_strb; rw [hi] at this; simpa using this
  have hb2 : i.bytes * n ≤ 40 * n := Nat.mul_le_mul_right n hb
  have h := run_make (P := Tryd.prog) W 39 9 i _ Tryd.underlying39 hi hz .i64 .i64 (n : Int) (n : Int) (by omega) (by omega) (by first | omega | (rw [Nat.mul_comm]; omega)) (by omega)
  rw [hs] at h
  simpa [Value.cells] using h

theorem gPow : Tryd.prog.globalNamed "internal/strconv.uint64pow10" = some 2 := by kernel_rfl

set_option maxHeartbeats 4000000 in
theorem impl_nums (ns : List Nat) (g c : Nat) (w : World) (h : Row 3 1 nf w g 0 ns) (hn : ∀ n ∈ ns, n ≤ 1000000000000) (hl : ns.length ≤ 100) (h1 : 1 ≤ ns.length) (ht : Lib.TabIs Tryd.prog w "internal/strconv.uint64pow10" .u64 Lib.pow10Tab) :
    Calls Tryd.prog 15 #[.slice (some ⟨g, 0, none⟩) ns.length c] w fun e w' => e = .returned (.string ⟨(nums ns).toArray⟩) ∧ Below w.heap.size w w' := by
  obtain ⟨T, hT⟩ : ∃ T, ns.map Lib.decDigits = T := ⟨_, rfl⟩
  have hTl : T.length = ns.length := by rw [← hT, List.length_map]
  have hmk := make_texts ns.length (by omega)
  have HP : Hid (Part 9 1 sf (w.alloc (.cells (madeCells #[.string ByteArray.empty] ns.length) 9)) w.heap.size 0 T 0) := by
    have h9 := Part.made (t := 9) (m := 1) (f := sf) w T #[.string ByteArray.empty] (by rw [size_madeCells])
    rw [Nat.mul_one, hTl] at h9
    exact h9
  have HB : Hid (Below w.heap.size w (w.alloc (.cells (madeCells #[.string ByteArray.empty] ns.length) 9))) := (Below.refl _ _).alloc (Nat.le_refl _) _
  have HR : Hid (Row 3 1 nf w g 0 ns) := h
  have HM : Hid (∀ n ∈ ns, n ≤ 1000000000000) := hn
  have HT : Hid (Lib.TabIs Tryd.prog w "internal/strconv.uint64pow10" .u64 Lib.pow10Tab) := ht
  have HE : Hid (ns.map Lib.decDigits = T) := hT
  clear h hn ht hT
  obtain ⟨N, hN⟩ : ∃ N, ns.length = N := ⟨_, rfl⟩
  have HN : Hid (ns.length = N ∧ T.length = N) := ⟨hN, hTl.trans hN⟩
  rw [hN] at hl h1 hmk HP HB ⊢
  clear hN hTl
  go_enter Tryd.func15, Tryd.ntmps15
  go_wp2
  go_loopw [4, 5, 11] (fun a b i wr => ∃ k : Nat, k ≤ N ∧ i = .int .i64 (k : Int) ∧ Hid (Part 9 1 sf wr w.heap.size 0 T k) ∧ Hid (Below w.heap.size w wr)) (fun _ _ i _ => N - (intOf i).toNat)
  case atStart => exact ⟨0, by omega, rfl, HP, HB⟩
  case round =>
    clear HP HB hmk
    obtain ⟨k, hk, rfl, HP, HB⟩ := hrel
    by_cases hlt : k < N
    · have hlt2 : k < ns.length := by rw [HN.out.1]; exact hlt
      have hlt3 : k < T.length := by rw [HN.out.2]; exact hlt
      have hm := HM.out ns[k] (List.getElem_mem hlt2)
      have hc := (HR.out.below HB.out).cell k hlt2 0 (by omega)
      have HD : Hid (T[k] = Lib.decDigits ns[k]) := by
        show T[k] = Lib.decDigits ns[k]
        have := HE.out
        subst this
        simp
      obtain ⟨x, hx⟩ : ∃ x, ns[k] = x := ⟨_, rfl⟩
      rw [hx] at hm hc HD
      have hc2 : wr.cell? ⟨g, k, none⟩ = some (.int .i64 (x : Int)) := by simpa [nf] using hc
      have HIN := impl_num x wr hm (Joins.tab_stays gPow HT.out HB.out (Nat.le_refl _))
      have hli : (k : Int) < (N : Int) := by omega
      clear hc hx
      go_wp2_with (go_at_call 25; refine HIN.mono ?_; rintro e w1 ⟨rfl, hb1⟩; have HP1 : Hid (Part 9 1 sf w1 w.heap.size 0 T k) := HP.out.same (hb1.block _ HP.out.lt); have HB1 : Hid (Below w.heap.size w w1) := HB.out.trans (hb1.mono HB.out.size); obtain ⟨v0, z0⟩ := HP1.out.cell k (by rw [HN.out.2]; omega); have f0 := HP1.out.fz k; clear hb1)
      have HP2 : Hid (Part 9 1 sf (w1.setCell ⟨w.heap.size, k, none⟩ (.string ⟨(Lib.decDigits x).toArray⟩)) w.heap.size 0 T (k + 1)) := by
        have h1 := Part.store (t := 9) (m := 1) (f := sf) (fun _ => rfl) HP1.out hlt3
        rw [HD.out, Nat.zero_add, Nat.mul_one] at h1
        exact h1
      have HB2 : Hid (Below w.heap.size w (w1.setCell ⟨w.heap.size, k, none⟩ (.string ⟨(Lib.decDigits x).toArray⟩))) := HB1.out.setCell (Nat.le_refl _) _
      go_roundw
      case rel => exact ⟨k + 1, by omega, by go_num, HP2, HB2⟩
      case measure => simp [intOf]; omega
    · obtain rfl : k = N := by omega
      have HW : Hid (Row 9 1 sf wr w.heap.size 0 T) := Part.stop (by rw [HN.out.2]; exact HP.out)
      have HQ : Hid (Lib.join T [32] = nums ns) := by
        show Lib.join T [32] = nums ns
        unfold nums
        rw [HE.out]
      have hlen : (Lib.join T [32]).length ≤ 140737488355328 := by
        rw [HQ.out]
        match ns, HN.out.1, h1 with
        | [], h2, h3 => simp at h2; omega
        | n :: r, h2, _ =>
          have h4 := nums_len n r HM.out
          simp at h2
          omega
      have HJ := Tryd.strings_Join w.heap.size 0 k (T.map fun l => ⟨l.toArray⟩) ⟨#[32]⟩ wr (fun j x hj => by
        have hj2 : j < T.length := by
          have := (List.getElem?_eq_some_iff.1 hj).1
          simpa using this
        have h5 := HW.out.cell j hj2 0 (by omega)
        have h6 : x = ⟨T[j].toArray⟩ := by
          have := (List.getElem?_eq_some_iff.1 hj).2
          simpa using this.symm
        rw [h6]
        simpa [sf] using h5) HW.out.lt (by rw [List.length_map, HN.out.2]; omega) (by rw [List.length_map, HN.out.2]; omega) (by
        rw [List.map_map]
        have : (fun (x : ByteArray) => x.data.toList) ∘ (fun (l : List UInt8) => (⟨l.toArray⟩ : ByteArray)) = id := by funext l; simp
        rw [this, List.map_id]
        exact hlen)
      rw [List.length_map, HN.out.2, List.map_map, show (fun (x : ByteArray) => x.data.toList) ∘ (fun (l : List UInt8) => (⟨l.toArray⟩ : ByteArray)) = id by funext l; simp, List.map_id] at HJ
      go_wp2_with (go_at_call 26; refine HJ.mono ?_; rintro e w1 ⟨rfl, hb1⟩; have HB1 : Hid (Below w.heap.size w w1) := HB.out.trans (hb1.mono HB.out.size); clear hb1)
      go_ret
      exact ⟨by rw [← HQ.out]; rfl, HB1.out⟩
end Go.Proofs.YtcpekobacoijdaaDoor.NumLines
