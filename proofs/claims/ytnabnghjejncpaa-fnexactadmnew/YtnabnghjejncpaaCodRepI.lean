/- What the library's slices.Repeat answers at a list of one codel and a number from 1 to 4: a new list of its like; nothing that was there turns. -/
import Derived.Test.YtnabnghjejncpaaRows
import Derived.WalkKit
import Derived.WalkSmall
import Derived.BigQuiet
import Derived.Deep.RegionWith
import Derived.Deep.RegionLaw
import Derived.Deep.DeepCutAuto
import Derived.Laws.CopyOwn
import Derived.Test.YtnabnghjejncpaaListKit
import Derived.Test.YtnabnghjejncpaaHoldKit
import Derived.Test.YtnabnghjejncpaaGrowKit
import Derived.Test.YtnabnghjejncpaaCodelKit
import Derived.Test.YtnabnghjejncpaaCodelRows
import Derived.Test.YtnabnghjejncpaaCopyKit
import Derived.Test.YtnabnghjejncpaaShelfA
namespace Go.Proofs.Ytnabnghjejncpaa.CodRepI
open Go.RowKit ListKit HoldKit CopyKit
open GrowKit (flat flat_len flat_app)
set_option maxRecDepth 8000
set_option linter.unusedVariables false
set_option linter.unusedSimpArgs false

def rep (n : Nat) (s : CodelKit.Codel) : List Value := flat CodelKit.cells (List.replicate n s)
theorem rep_len (n : Nat) (s : CodelKit.Codel) : (rep n s).length = n * 6 := by
  unfold rep
  rw [flat_len (m := 6) (fun _ => rfl), List.length_replicate]
theorem rep_add (n c : Nat) (s : CodelKit.Codel) : rep (n + c) s = rep n s ++ rep c s := by
  unfold rep
  rw [← flat_app, List.replicate_append_replicate]
theorem rep_ones (n : Nat) (s : CodelKit.Codel) : ∀ v ∈ rep n s, v.oneCell' = true := by
  intro v hv
  unfold rep flat at hv
  rw [List.map_replicate, List.mem_flatten] at hv
  obtain ⟨l, hl, hv⟩ := hv
  rw [List.eq_of_mem_replicate hl] at hv
  simp [CodelKit.cells] at hv
  rcases hv with rfl | rfl | rfl | rfl | rfl | rfl <;> rfl
theorem rep_one (s : CodelKit.Codel) : rep 1 s = CodelKit.cells s := by simp [rep, flat]
/-- Ahead of the end, cells are laid over what is there. -/
theorem laid {n c k : Nat} (s : CodelKit.Codel) (rest : List Value) (hr : rest.length = (k - n) * 6) (hc : c ≤ k - n) :
    ((rep n s ++ rest).toArray.toList.take (n * 6) ++ rep c s ++ (rep n s ++ rest).toArray.toList.drop (n * 6 + (rep c s).length)).toArray = (rep (n + c) s ++ rest.drop (c * 6)).toArray := by
  have h1 : (rep n s).length = n * 6 := rep_len n s
  rw [List.toList_toArray, ← h1, List.take_left, List.drop_length_add_append, rep_len c, rep_add]
theorem mul_one (k : Nat) (hk : k ≤ 4) (w : World) : Calls Try.prog 83 #[.int .u64 1, .int .u64 (k : Int)] w fun e w' => e = .returned (.tuple #[.int .u64 0, .int .u64 (k : Int)]) ∧ w' = w := by
  have h := Try.bits_Mul 1 k (by decide) (by omega) w
  have e1 : 1 * k / 18446744073709551616 = 0 := Nat.div_eq_of_lt (by omega)
  have e2 : 1 * k % 18446744073709551616 = k := by rw [Nat.mod_eq_of_lt (by omega), Nat.one_mul]
  rw [e1, e2] at h
  exact h
set_option maxHeartbeats 4000000 in
theorem impl_repeat (s : CodelKit.Codel) (b k : Nat) (w : World) (hs : boxB w b (CodelKit.cells s).toArray 87) (hk : 1 ≤ k ∧ k ≤ 4) :
    Calls Try.prog 42 #[.slice (some ⟨b, 0, none⟩) 1 1, .int .i64 (k : Int)] w fun e w' => e = .returned (.slice (some ⟨w.heap.size, 0, none⟩) k k) ∧ boxB w' w.heap.size (rep k s).toArray 87 ∧ Below w.heap.size w w' := by
  have hmk := CodelRows.make_rows k (by omega) w
  have HM := fun W => mul_one k hk.2 W
  have hbw : b < w.heap.size := hs.lt
  obtain ⟨g, hg⟩ : ∃ g, w.heap.size = g := ⟨_, rfl⟩
  obtain ⟨Z, hZ⟩ : ∃ Z : Array Value, madeCells #[.int .i64 0, .int .i64 0, .int .i64 0, .bool false, .int .i64 0, .int .i64 0] (k * 6) = Z := ⟨_, rfl⟩
  have hzs : Z.size = k * 6 := by rw [← hZ]; exact size_madeCells _ _
  rw [hZ] at hmk
  have H0 : Hid (boxB (w.alloc (.cells Z 87)) g Z 87 ∧ boxB (w.alloc (.cells Z 87)) b (CodelKit.cells s).toArray 87 ∧ Below g w (w.alloc (.cells Z 87))) := by
    have h1 := boxB.new w Z 87
    have h2 := n1 w (.cells Z 87)
    rw [hg] at h1 h2
    exact ⟨h1, hs.below (n1 _ _), h2⟩
  rw [hg] at hmk ⊢
  have hsz : Hid ((Try.prog.info? 87).map (·.size) = some 6) := by show _ = _; kernel_rfl
  have wk : IntKind.u64.wrap (k : Int) = (k : Int) := by rw [IntKind.wrap_u64]; omega
  have wk2 : IntKind.i64.wrap (k : Int) = (k : Int) := by rw [IntKind.wrap_i64]; omega
  have hkn : ¬ (k : Int) < 0 := by omega
  have hkb : ¬ 9223372036854775807 < (k : Int) := by omega
  have HK : Hid (1 ≤ k ∧ k ≤ 4) := hk
  have hk1 : 1 ≤ k := hk.1
  clear hs hZ hg hk
  go_enter Try.func42, Try.ntmps42
  go_upto_region 7 with (go_big_may; go_at_call 83; refine (HM _).mono ?_; rintro e w1 ⟨rfl, hw⟩; subst w1)
  obtain ⟨W0, hW0⟩ : ∃ W0, w.alloc (.cells Z 87) = W0 := ⟨_, rfl⟩
  rw [hW0] at H0 ⊢
  have hsrc : ∀ j v, (rep 1 s)[j]? = some v → W0.cell? ((⟨b, 0, none⟩ : Addr).add j) = some v := fun j v hv => by
    rw [Addr.add_lit, Nat.zero_add, H0.out.2.1.cell j, List.getElem?_toArray, ← rep_one]
    exact hv
  have hfit : 0 + (rep 1 s).length ≤ Z.size := by rw [rep_len, hzs]; omega
  have HA : Hid (boxB (W0.setRow g (Z.toList.take 0 ++ rep 1 s ++ Z.toList.drop (0 + (rep 1 s).length)).toArray) g (rep 1 s ++ Z.toList.drop 6).toArray 87 ∧ Below g w (W0.setRow g (Z.toList.take 0 ++ rep 1 s ++ Z.toList.drop (0 + (rep 1 s).length)).toArray)) := by
    refine ⟨?_, below_setRow H0.out.2.2 (Nat.le_refl _) _⟩
    have h9 := setRow_heap W0 g Z (Z.toList.take 0 ++ rep 1 s ++ Z.toList.drop (0 + (rep 1 s).length)).toArray 87 (0, 0) H0.out.1
    have e : Z.toList.take 0 ++ rep 1 s ++ Z.toList.drop (0 + (rep 1 s).length) = rep 1 s ++ Z.toList.drop 6 := by rw [rep_len]; simp
    rw [e] at h9 ⊢
    exact h9
  have hcp : (Builtin.copy_ #[43, 43] 3 #[.slice (some ⟨g, 0, none⟩) k k, .slice (some ⟨b, 0, none⟩) 1 1]).run Try.prog W0 = .ok (.int .i64 1) (W0.setRow g (Z.toList.take 0 ++ rep 1 s ++ Z.toList.drop (0 + (rep 1 s).length)).toArray) := run_copy_many W0 43 43 3 87 6 g 0 k k ⟨b, 0, none⟩ 1 1 Z 87 (rep 1 s) 1 Try.underlying43 hsz.out H0.out.1 (Nat.min_eq_left hk1) (rep_len 1 s) hsrc hfit (rep_ones 1 s)
  obtain ⟨WA, hWA⟩ : ∃ WA, W0.setRow g (Z.toList.take 0 ++ rep 1 s ++ Z.toList.drop (0 + (rep 1 s).length)).toArray = WA := ⟨_, rfl⟩
  rw [hWA] at hcp HA
  clear hmk hW0 hWA hsrc hfit H0
  go_wp2
  have HS : Hid (boxB WA g (rep 1 s ++ Z.toList.drop 6).toArray 87 ∧ Below g w WA) := HA
  have hz1 : (Z.toList.drop 6).length = (k - 1) * 6 := by rw [List.length_drop, Array.length_toList, hzs]; omega
  clear HA hcp
  go_loopw [8] (fun t8 wr => ∃ (n : Nat) (rest : List Value), 1 ≤ n ∧ n ≤ k ∧ t8 = .int .i64 (n : Int) ∧ Hid (rest.length = (k - n) * 6) ∧ Hid (boxB wr g (rep n s ++ rest).toArray 87 ∧ Below g w wr)) (fun t8 _ => k - (intOf t8).toNat)
  case atStart => exact ⟨1, _, by omega, hk1, rfl, hz1, HS⟩
  case round =>
    clear HS hz1
    obtain ⟨n, rest, h1n, hnk, rfl, HR, HW⟩ := hrel
    by_cases hlt : n < k
    · have hli : (n : Int) < (k : Int) := by omega
      obtain ⟨c, hc⟩ : ∃ c, Nat.min n (k - n) = c := ⟨_, rfl⟩
      have hck : c ≤ k - n := by rw [← hc]; exact Nat.min_le_right _ _
      have hcn : c ≤ n := by rw [← hc]; exact Nat.min_le_left _ _
      have hc1 : 1 ≤ c := by rw [← hc]; exact Nat.le_min.2 ⟨h1n, by omega⟩
      have hsz0 : (rep n s ++ rest).toArray.size = k * 6 := by rw [List.size_toArray, List.length_append, rep_len, HR.out]; omega
      have hg2 : wr.drew.heap[g]? = some (.cells (rep n s ++ rest).toArray 87 (0, 0)) := HW.out.1
      have hsrc : ∀ j v, (rep c s)[j]? = some v → wr.drew.cell? ((⟨g, 0, none⟩ : Addr).add j) = some v := fun j v hv => by
        rw [Addr.add_lit, Nat.zero_add, cellB hg2, List.getElem?_toArray]
        have hj : j < c * 6 := by have := (List.getElem?_eq_some_iff.1 hv).1; rwa [rep_len] at this
        obtain ⟨d, hd⟩ : ∃ d, n = c + d := ⟨n - c, by omega⟩
        rw [hd, rep_add, List.append_assoc, List.getElem?_append_left (by rw [rep_len]; exact hj)]
        exact hv
      have hfit : n * 6 + (rep c s).length ≤ (rep n s ++ rest).toArray.size := by rw [hsz0, rep_len]; omega
      have HA : Hid (boxB (wr.drew.setRow g ((rep n s ++ rest).toArray.toList.take (n * 6) ++ rep c s ++ (rep n s ++ rest).toArray.toList.drop (n * 6 + (rep c s).length)).toArray) g (rep (n + c) s ++ rest.drop (c * 6)).toArray 87 ∧ Below g w (wr.drew.setRow g ((rep n s ++ rest).toArray.toList.take (n * 6) ++ rep c s ++ (rep n s ++ rest).toArray.toList.drop (n * 6 + (rep c s).length)).toArray)) := by
        have hd : Below g w wr.drew := ⟨HW.out.2.os, HW.out.2.tape, HW.out.2.output, HW.out.2.size, HW.out.2.block⟩
        refine ⟨?_, below_setRow hd (Nat.le_refl _) _⟩
        have h9 := setRow_heap wr.drew g (rep n s ++ rest).toArray ((rep n s ++ rest).toArray.toList.take (n * 6) ++ rep c s ++ (rep n s ++ rest).toArray.toList.drop (n * 6 + (rep c s).length)).toArray 87 (0, 0) hg2
        rw [laid s rest HR.out hck] at h9 ⊢
        exact h9
      obtain ⟨cur, hcur⟩ : ∃ cur, (rep n s ++ rest).toArray = cur := ⟨_, rfl⟩
      rw [hcur] at hg2 hfit HA
      have hl2 : Hid ((rest.drop (c * 6)).length = (k - (n + c)) * 6) := by show _ = _; rw [List.length_drop, HR.out, ← Nat.sub_mul]; congr 1; omega
      have hko : ¬ (k = n) := by omega
      have h0n : (0 : Int) ≤ (n : Int) := by omega
      have hni : (n : Int) ≤ (k : Int) := by omega
      have wn : IntKind.i64.wrap ((n : Int) + (c : Int)) = ((n + c : Nat) : Int) := by rw [IntKind.wrap_i64]; have := HK.out; omega
      have HC : Hid (Nat.min n (k - n) = c) := hc
      have HG2 : Hid (wr.drew.heap[g]? = some (.cells cur 87 (0, 0))) := hg2
      have HSR : Hid (∀ j v, (rep c s)[j]? = some v → wr.drew.cell? ((⟨g, 0, none⟩ : Addr).add j) = some v) := hsrc
      have HF : Hid (n * 6 + (rep c s).length ≤ cur.size) := hfit
      clear hc hg2 hsrc hfit hcur hsz0 HW
      go_wp2_with fail
      go_region_law (refine step_copy_many rfl (.tmp 41) (.tmp 44) 43 43 rfl 87 6 Try.underlying43 hsz.out g (n * 6) (k - n) (k - n) ⟨g, 0, none⟩ n k (by simp [Act.eval, Act.put]) (by simp [Act.eval, Act.put]) cur 87 HG2.out (rep c s) c HC.out (rep_len c s) HSR.out HF.out (rep_ones c s) ?_)
      rw [List.append_assoc] at HA
      generalize wr.drew.setRow g (cur.toList.take (n * 6) ++ (rep c s ++ cur.toList.drop (n * 6 + (rep c s).length))).toArray = W9 at *
      clear HSR HF HG2 HC HR
      go_simp
      go_wp2
      go_roundw
      case rel => exact ⟨n + c, rest.drop (c * 6), by omega, by omega, by go_num, hl2, HA⟩
      case measure => simp [intOf]; omega
    · obtain rfl : n = k := by omega
      have hli : ¬ (n : Int) < (n : Int) := by omega
      have HE : Hid (boxB wr g (rep n s).toArray 87) := by
        have h0 : rest = [] := List.length_eq_zero_iff.1 (by rw [HR.out]; omega)
        have h9 := HW.out.1
        rw [h0, List.append_nil] at h9
        exact h9
      go_wp2
      go_ret
      exact ⟨rfl, HE.out, HW.out.2⟩
end Go.Proofs.Ytnabnghjejncpaa.CodRepI
