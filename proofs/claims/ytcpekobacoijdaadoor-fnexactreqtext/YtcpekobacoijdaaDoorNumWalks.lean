/- What the model's NumText and the program's NumText answer at every number of 64 bits: its decimal digits, or the empty text where it is none; the program's under the library's own table of powers of ten. -/
import Derived.Test.YtcpekobacoijdaaDoorRows
import Derived.WalkKit
import Derived.Deep.RegionWith
import Derived.Lib.ItoaNum
import Derived.Lib.ItoaMem
import Derived.Lib.SmallJoins
import Derived.Test.YtcpekobacoijdaaDoorShelf
namespace Go.Proofs.YtcpekobacoijdaaDoor.NumWalks
open Go.RowKit

theorem bcell {W w1 : World} (hb : Below W.heap.size W w1) : (∀ b o, b < W.heap.size → w1.cell? ⟨b, o, none⟩ = W.cell? ⟨b, o, none⟩) ∧ (∀ b o, b < W.heap.size → w1.frozen? ⟨b, o, none⟩ = W.frozen? ⟨b, o, none⟩) :=
  ⟨fun b o h => hb.cell (p := ⟨b, o, none⟩) h, fun b o h => hb.frozen (p := ⟨b, o, none⟩) h⟩

set_option maxHeartbeats 400000 in
theorem spec_low (n : Int) (w : World) (h : n < 0 ∨ 1000000000000 < n) : Calls Tryd.prog 19 #[.int .i64 n] w fun e w' => e = .returned (.string ⟨#[]⟩) ∧ w' = w := by
  rcases h with h | h
  · go_enter Tryd.func19, Tryd.ntmps19
    go_wp2
    go_ret
    exact ⟨rfl, rfl⟩
  · have h' : ¬ n < 0 := by omega
    have hd : decide (n ≤ 1000000000000) = false := by simp; omega
    go_enter Tryd.func19, Tryd.ntmps19
    go_wp2
    go_ret
    exact ⟨rfl, rfl⟩

theorem conv_one (W : World) (b : Nat) (c : UInt8) (h : W.cell? ⟨b, 0, none⟩ = some (.int .u8 (c.toNat : Int))) :
    (convert 49 9 (.slice (some ⟨b, 0, none⟩) 1 1)).run Tryd.prog W = .ok (.string ⟨#[c]⟩) W := by
  refine run_convert_bytes_back (P := Tryd.prog) W 49 9 5 ⟨b, 0, none⟩ 1 [c] Tryd.underlying49 Tryd.underlying5 Tryd.underlying9 ?_
  intro j hj
  obtain rfl : j = 0 := by simpa using hj
  simpa [Addr.add] using h

theorem ofNat48 (d : Nat) (h : d < 10) : ((UInt8.ofNat (48 + d)).toNat : Int) = 48 + (d : Int) := by
  simp [UInt8.toNat_ofNat']; omega

set_option maxHeartbeats 400000 in
theorem spec_one (n : Nat) (c : UInt8) (w : World) (h : n < 10) (hc : Hid ((c.toNat : Int) = 48 + (n : Int))) : Calls Tryd.prog 19 #[.int .i64 n] w fun e w' => e = .returned (.string ⟨#[c]⟩) ∧ Below w.heap.size w w' := by
  have hd : decide ((n : Int) ≤ 1000000000000) = true := by simp; omega
  have hcv : (convert 49 9 (.slice (some ⟨w.heap.size, 0, none⟩) 1 1)).run Tryd.prog (w.alloc (.cells #[.int .u8 (48 + (n : Int))] 5)) = .ok (.string ⟨#[c]⟩) (w.alloc (.cells #[.int .u8 (48 + (n : Int))] 5)) :=
    conv_one _ _ _ (by rw [hc.out]; simp)
  go_enter Tryd.func19, Tryd.ntmps19
  go_wp2
  go_ret
  exact ⟨rfl, (Below.refl _ _).alloc (Nat.le_refl _) _⟩

set_option maxHeartbeats 1000000 in
theorem spec_more (n m d : Nat) (c : UInt8) (l : List UInt8) (w : World) (h : ¬ n < 10) (hn : n ≤ 1000000000000) (hm : (n : Int) / 10 = (m : Int)) (hdd : (n : Int) % 10 = (d : Int)) (_hd10 : d < 10) (hc : Hid ((c.toNat : Int) = 48 + (d : Int))) (hl : l.length ≤ 100)
    (IH : Hid (∀ w, Calls Tryd.prog 19 #[.int .i64 m] w fun e w' => e = .returned (.string ⟨l.toArray⟩) ∧ Below w.heap.size w w')) :
    Calls Tryd.prog 19 #[.int .i64 n] w fun e w' => e = .returned (.string ⟨(l ++ [c]).toArray⟩) ∧ Below w.heap.size w w' := by
  have hd : decide ((n : Int) ≤ 1000000000000) = true := by simp; omega
  have hcv : ∀ (W : World) (b : Nat), W.cell? ⟨b, 0, none⟩ = some (.int .u8 (48 + (d : Int))) → (convert 49 9 (.slice (some ⟨b, 0, none⟩) 1 1)).run Tryd.prog W = .ok (.string ⟨#[c]⟩) W :=
    fun W b hb => conv_one _ _ _ (by rw [hc.out]; exact hb)
  have kadd : ∀ W : World, (Op.stringOp .add ⟨l.toArray⟩ ⟨#[c]⟩).run Tryd.prog W = .ok (.string ⟨(l ++ [c]).toArray⟩) W := fun W => by
    have := run_string_add_lists (P := Tryd.prog) (w := W) l [c] (by omega) (by simp)
    simpa using this
  have k0 : (n : Int).tmod 10 = (d : Int) := by rw [Int.tmod_eq_emod_of_nonneg (by omega)]; exact hdd
  have k1 : IntKind.i64.wrap (m : Int) = (m : Int) := by rw [IntKind.wrap_i64]; omega
  have k2 : IntKind.i64.wrap (d : Int) = (d : Int) := by rw [IntKind.wrap_i64]; omega
  have k3 : IntKind.i64.wrap (48 + (d : Int)) = 48 + (d : Int) := by rw [IntKind.wrap_i64]; omega
  have k4 : IntKind.u8.wrap (48 + (d : Int)) = 48 + (d : Int) := by rw [IntKind.wrap_u8]; omega
  go_enter Tryd.func19, Tryd.ntmps19
  go_wp2_with (go_at_call 30; go_in)
  go_region_with (go_at_call 19; refine (IH.out _).mono ?_; rintro e w' ⟨rfl, hb⟩; obtain ⟨hcc, hf⟩ := bcell hb)
  all_goals (go_wp2; go_ret; refine ⟨rfl, ?_⟩; clear hcv IH kadd)
  · have hb1 : Below w.heap.size w w' := (Below.refl _ _).drew.trans hb
    exact hb1.alloc hb1.size _
  · exact ((Below.refl _ _).alloc (Nat.le_refl _) _).drew.trans (hb.mono (by simp))
  · exact ((Below.refl _ _).alloc (Nat.le_refl _) _).drew.trans (hb.mono (by simp))

theorem digits_short : ∀ (k n : Nat), n < 10 ^ (k + 1) → (Lib.decDigits n).length ≤ k + 1
  | 0, n, h => by rw [Lib.decDigits_one (by simpa using h)]; simp
  | k + 1, n, h => by
    by_cases h9 : n < 10
    · rw [Lib.decDigits_one h9]; simp
    · rw [Lib.decDigits, dif_neg h9, List.length_append]
      have := digits_short k (n / 10) (by rw [Nat.pow_succ] at h; omega)
      simp
      omega

/-- The model's NumText at a number: its decimal digits. -/
theorem spec_num : ∀ (N n : Nat), n ≤ N → n ≤ 1000000000000 → ∀ w : World, Calls Tryd.prog 19 #[.int .i64 n] w fun e w' => e = .returned (.string ⟨(Lib.decDigits n).toArray⟩) ∧ Below w.heap.size w w'
  | 0, n, h, _, w => by
    obtain rfl : n = 0 := by omega
    rw [Lib.decDigits_one (by omega)]
    exact spec_one 0 (UInt8.ofNat (48 + 0)) w (by omega) (ofNat48 0 (by omega))
  | N + 1, n, h, hn, w => by
    by_cases h9 : n < 10
    · rw [Lib.decDigits_one h9]
      exact spec_one n (UInt8.ofNat (48 + n)) w h9 (ofNat48 n h9)
    · rw [Lib.decDigits, dif_neg h9]
      exact spec_more n (n / 10) (n % 10) (UInt8.ofNat (48 + n % 10)) (Lib.decDigits (n / 10)) w h9 hn (by omega) (by omega) (by omega) (ofNat48 _ (by omega))
        (Nat.le_trans (digits_short 12 (n / 10) (by omega)) (by omega)) (fun w => spec_num N (n / 10) (by omega) (by omega) w)

theorem below_grow (w : World) (k : Nat) (os : Array Obj) : Below w.heap.size w (Sort.grow (w.drewN k) os) :=
  ⟨rfl, rfl, rfl, by simp [Sort.grow], fun i hi => by
    show ((w.drewN k).heap ++ os)[i]? = _
    rw [Array.getElem?_append_left (by show i < w.heap.size; omega)]
    rfl⟩

theorem impl_low (n : Int) (w : World) (h : n < 0 ∨ 1000000000000 < n) : Calls Tryd.prog 25 #[.int .i64 n] w fun e w' => e = .returned (.string ⟨#[]⟩) ∧ w' = w := by
  rcases h with h | h
  · go_enter Tryd.func25, Tryd.ntmps25
    go_wp2
    go_ret
    exact ⟨rfl, rfl⟩
  · have h' : ¬ n < 0 := by omega
    have hd : decide (n ≤ 1000000000000) = false := by simp; omega
    go_enter Tryd.func25, Tryd.ntmps25
    go_wp2
    go_ret
    exact ⟨rfl, rfl⟩

/-- The program's NumText at a number: its decimal digits. -/
theorem impl_num (n : Nat) (w : World) (hn : n ≤ 1000000000000) (htab : Lib.TabIs Tryd.prog w "internal/strconv.uint64pow10" .u64 Lib.pow10Tab) :
    Calls Tryd.prog 25 #[.int .i64 n] w fun e w' => e = .returned (.string ⟨(Lib.decDigits n).toArray⟩) ∧ Below w.heap.size w w' := by
  have hd : decide ((n : Int) ≤ 1000000000000) = true := by simp; omega
  have HT : Hid (Lib.TabIs Tryd.prog w "internal/strconv.uint64pow10" .u64 Lib.pow10Tab) := htab
  clear htab
  go_enter Tryd.func25, Tryd.ntmps25
  go_wp2_with (first | (go_at_call 31; go_in) | (go_at_call 32; refine (Tryd.strconv_Itoa n (by omega) (by omega) _ HT.out).mono ?_; rintro e w' ⟨rfl, k, os, rfl⟩; rw [Lib.itoa_nonneg]))
  go_ret
  exact ⟨rfl, below_grow w k os⟩

end Go.Proofs.YtcpekobacoijdaaDoor.NumWalks
