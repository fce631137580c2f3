/- What the model's TextNum and the program's TextNum answer at every text of at most 2 to the 20 bytes: the number whose digits it is and true, or 0 and false; the program's under what the library's variables hold. -/
import Derived.Test.YtabialologlgpagDoorRows
import Derived.Test.YtabialologlgpagDoorTextMath
import Derived.Test.YtabialologlgpagDoorNumWalks
import Derived.Test.YtabialologlgpagDoorShelf
import Derived.Test.YtabialologlgpagDoorShelfAtoi
import Derived.WalkKit
import Derived.Lib.SmallJoins
import Derived.Lib.AtoiErrMem
namespace Go.Proofs.YtabialologlgpagDoor.TextWalks
open Go.RowKit TextMath

theorem ret2 {a b : Int} {x y : Bool} (h : (a, x) = (b, y)) : Ending.returned (.tuple #[.int .i64 a, .bool x]) = .returned (.tuple #[.int .i64 b, .bool y]) := by
  cases h; rfl

theorem val_int {k : IntKind} {a b : Int} (h : a = b) : Value.int k a = .int k b := by rw [h]

theorem take_snoc (s : ByteArray) (k : Nat) (h : k < s.size) : s.data.toList.take (k + 1) = s.data.toList.take k ++ [s[k]] := by
  rw [List.take_succ_eq_append_getElem (by simpa using h)]; rfl

theorem mem_at (s : ByteArray) (k : Nat) (h : k < s.size) : s[k] ∈ s.data.toList := by
  have : s[k] = s.data.toList[k]'(by simpa using h) := rfl
  rw [this]; exact List.getElem_mem _

set_option maxHeartbeats 1000000 in
theorem spec_text (s : ByteArray) (R : Nat) (B : Bool) (w : World) (hs : s.size ≤ 1048576) (KR : Hid (textNum s.data.toList = (R, B))) :
    Calls Tryd.prog 9 #[.string s] w fun e w' => e = .returned (.tuple #[.int .i64 R, .bool B]) ∧ Below w.heap.size w w' := by
  have hlen : s.data.toList.length = s.size := Array.length_toList
  by_cases c1 : s.size < 1
  · have hf : Hid ((0, false) = (R, B)) := by rw [← KR.out]; exact (textNum_len (by omega)).symm
    clear hlen
    go_enter Tryd.func9, Tryd.ntmps9
    go_wp2
    go_ret2
    obtain ⟨rfl, rfl⟩ := Prod.mk.inj hf.out
    exact ⟨rfl, Below.refl _ _⟩
  · by_cases c2 : 13 < s.size
    · have hf : Hid ((0, false) = (R, B)) := by rw [← KR.out]; exact (textNum_len (by omega)).symm
      clear hlen
      go_enter Tryd.func9, Tryd.ntmps9
      go_wp2
      go_ret2
      obtain ⟨rfl, rfl⟩ := Prod.mk.inj hf.out
      exact ⟨rfl, Below.refl _ _⟩
    · have HL : Hid (s.data.toList.length = s.size) := hlen
      clear hlen
      go_enter Tryd.func9, Tryd.ntmps9
      go_wp2
      go_loop [4, 5] (fun n i => ∃ k V : Nat, k ≤ s.size ∧ Hid (V = valFrom 0 (s.data.toList.take k) ∧ ∀ c ∈ s.data.toList.take k, isDig c) ∧ V < 10000000000000 ∧ n = .int .i64 V ∧ i = .int .i64 k) (fun _ i => s.size - (intOf i).toNat)
      case atStart => exact ⟨0, 0, by omega, ⟨rfl, by simp⟩, by omega, rfl, rfl⟩
      case round =>
        obtain ⟨k, V, hk, HV, hV, rfl, rfl⟩ := hrel
        by_cases hlt : k < s.size
        · by_cases hd : isDig s[k]
          · have hm : Hid (V * 10 + (s[k].toNat - 48) = valFrom 0 (s.data.toList.take (k + 1)) ∧ ∀ c ∈ s.data.toList.take (k + 1), isDig c) := by
              rw [take_snoc s k hlt]
              refine ⟨by rw [valFrom_snoc, ← HV.out.1], fun c hc => ?_⟩
              rcases List.mem_append.1 hc with h | h
              · exact HV.out.2 c h
              · obtain rfl : c = s[k] := by simpa using h
                exact hd
            have hV2 : V < 1000000000000 := by
              have h1 := valFrom_lt (s.data.toList.take k) HV.out.2
              rw [← HV.out.1] at h1
              have h2 : (s.data.toList.take k).length ≤ 12 := by rw [List.length_take]; omega
              exact Nat.lt_of_lt_of_le h1 (Nat.pow_le_pow_right (by omega) h2)
            have g1 : 48 ≤ (s[k].toNat : Int) := by have := hd.1; omega
            have g2 : (s[k].toNat : Int) ≤ 57 := by have := hd.2; omega
            clear HV hV hd
            go_wp2
            go_round
            case rel => exact ⟨k + 1, V * 10 + (s[k].toNat - 48), by omega, hm, by omega, val_int (by omega), by go_num⟩
            case measure => simp [intOf]; omega
          · have hf : Hid ((0, false) = (R, B)) := by rw [← KR.out]; exact (textNum_bad (mem_at s k hlt) hd).symm
            by_cases g1 : (s[k].toNat : Int) < 48
            · clear hd
              go_wp2
              go_ret2
              obtain ⟨rfl, rfl⟩ := Prod.mk.inj hf.out
              exact ⟨rfl, Below.refl _ _⟩
            · have g2 : 57 < (s[k].toNat : Int) := by unfold isDig at hd; omega
              clear hd
              go_wp2
              go_ret2
              obtain ⟨rfl, rfl⟩ := Prod.mk.inj hf.out
              exact ⟨rfl, Below.refl _ _⟩
        · obtain rfl : k = s.size := by omega
          have HW : Hid (V = valFrom 0 s.data.toList) := by
            have h1 := HV.out.1
            rw [List.take_of_length_le (by rw [HL.out]; exact Nat.le_refl _)] at h1
            exact h1
          clear HV
          by_cases hbig : V ≤ 1000000000000
          · obtain ⟨D, hD⟩ : ∃ D, Lib.decDigits V = D := ⟨_, rfl⟩
            have KD : Hid (Lib.decDigits V = D) := hD
            by_cases hsame : D = s.data.toList
            · have hf : Hid ((V, true) = (R, B)) := by
                rw [← KR.out]; exact (textNum_of (hD.trans hsame) hbig).symm
              clear hD
              go_wp2_with (go_at_call 7; refine (NumWalks.spec_num V V (Nat.le_refl _) (by omega) _).mono ?_; rintro e w1 ⟨rfl, hb⟩; rw [KD.out])
              go_ret2
              obtain ⟨rfl, rfl⟩ := Prod.mk.inj hf.out
              exact ⟨rfl, hb⟩
            · have hf : Hid ((0, false) = (R, B)) := by
                rw [← KR.out]
                refine (textNum_none fun hh => hsame ?_).symm
                rw [← hD, HW.out]; exact hh.1
              have hcmp : (D == s.toList) = false := by rw [ByteArray.toList_eq]; simpa using hsame
              clear hD hsame
              go_wp2_with (go_at_call 7; refine (NumWalks.spec_num V V (Nat.le_refl _) (by omega) _).mono ?_; rintro e w1 ⟨rfl, hb⟩; rw [KD.out])
              go_ret2
              obtain ⟨rfl, rfl⟩ := Prod.mk.inj hf.out
              exact ⟨rfl, hb⟩
          · have hf : Hid ((0, false) = (R, B)) := by
              rw [← KR.out]
              refine (textNum_none fun hh => hbig ?_).symm
              rw [HW.out]; exact hh.2
            have hne : s.toList.isEmpty = false := by
              rw [ByteArray.toList_eq]
              have h1 := HL.out
              cases h2 : s.data.toList with
              | nil => rw [h2] at h1; simp at h1; omega
              | cons c r => rfl
            go_wp2_with (go_at_call 7; refine (NumWalks.spec_low _ _ (Or.inr (by omega))).mono ?_; rintro e w1 ⟨rfl, rfl⟩)
            go_ret2
            obtain ⟨rfl, rfl⟩ := Prod.mk.inj hf.out
            exact ⟨rfl, Below.refl _ _⟩

set_option maxHeartbeats 1000000 in
/-- The program's TextNum where the library reads a number. -/
theorem impl_ok (s : ByteArray) (R : Nat) (B : Bool) (v : Int) (w : World) (hs : s.size ≤ 1048576) (KR : Hid (textNum s.data.toList = (R, B))) (ha : Lib.atoiAll s.data.toList = .ok v)
    (htab : Lib.TabIs Tryd.prog w "internal/strconv.uint64pow10" .u64 Lib.pow10Tab) (gPow : Tryd.prog.globalNamed "internal/strconv.uint64pow10" = some 2) :
    Calls Tryd.prog 10 #[.string s] w fun e w' => e = .returned (.tuple #[.int .i64 R, .bool B]) ∧ Below w.heap.size w w' := by
  have HA : Hid (Lib.atoiAll s.data.toList = .ok v) := ha
  have HT : Hid (Lib.TabIs Tryd.prog w "internal/strconv.uint64pow10" .u64 Lib.pow10Tab) := htab
  have HG : Hid (Tryd.prog.globalNamed "internal/strconv.uint64pow10" = some 2) := gPow
  clear htab gPow
  go_enter Tryd.func10, Tryd.ntmps10
  go_wp2_with fail
  refine (Tryd.strconv_Atoi_ok s (by omega) v HA.out _).mono ?_
  rintro e w1 ⟨rfl, hw⟩
  have hb : Below w.heap.size w w1 := by
    rcases hw with rfl | ⟨t, rfl⟩
    · exact Below.refl _ _
    · exact Lib.bytesWorld_below w 5 t
  have HB : Hid (Below w.heap.size w w1) := hb
  clear hw hb
  by_cases hv : v < 0 ∨ 1000000000000 < v
  · have HVV : Hid (v < 0 ∨ 1000000000000 < v) := hv
    have hf : Hid ((0, false) = (R, B)) := by
      rw [← KR.out]
      refine (textNum_atoi fun n hn h => ?_).symm
      rw [ha] at h
      cases h
      omega
    have hne : s.toList.isEmpty = false := by
      rw [ByteArray.toList_eq]
      cases h2 : s.data.toList with
      | nil => rw [h2] at ha; cases ha
      | cons c r => rfl
    clear ha hv
    go_wp2_with (go_at_call 8; refine (NumWalks.impl_low _ _ HVV.out).mono ?_; rintro e w2 ⟨rfl, rfl⟩)
    go_ret2
    obtain ⟨rfl, rfl⟩ := Prod.mk.inj hf.out
    exact ⟨rfl, HB.out⟩
  · obtain ⟨n, rfl⟩ := Int.eq_ofNat_of_zero_le (show 0 ≤ v by omega)
    obtain ⟨D, hD⟩ : ∃ D, Lib.decDigits n = D := ⟨_, rfl⟩
    have KD : Hid (Lib.decDigits n = D) := hD
    by_cases hsame : D = s.data.toList
    · have hf : Hid ((n, true) = (R, B)) := by
        rw [← KR.out]; exact (textNum_of (hD.trans hsame) (by omega)).symm
      clear hD ha
      go_wp2_with (go_at_call 8; refine (NumWalks.impl_num n _ (by omega) (Joins.tab_stays HG.out HT.out HB.out (Nat.le_refl _))).mono ?_; rintro e w2 ⟨rfl, hb2⟩; rw [KD.out])
      go_ret2
      obtain ⟨rfl, rfl⟩ := Prod.mk.inj hf.out
      exact ⟨rfl, HB.out.trans (hb2.mono HB.out.size)⟩
    · have hf : Hid ((0, false) = (R, B)) := by
        rw [← KR.out]
        refine (textNum_atoi fun m hm h he => hsame ?_).symm
        rw [ha] at h
        have e : n = m := by injection h with h; omega
        rw [← hD, e]; exact he
      have hcmp : (D == s.toList) = false := by rw [ByteArray.toList_eq]; simpa using hsame
      clear hD ha hsame
      go_wp2_with (go_at_call 8; refine (NumWalks.impl_num n _ (by omega) (Joins.tab_stays HG.out HT.out HB.out (Nat.le_refl _))).mono ?_; rintro e w2 ⟨rfl, hb2⟩; rw [KD.out])
      go_ret2
      obtain ⟨rfl, rfl⟩ := Prod.mk.inj hf.out
      exact ⟨rfl, HB.out.trans (hb2.mono HB.out.size)⟩

set_option maxHeartbeats 1000000 in
/-- The program's TextNum where the library reads no number. -/
theorem impl_no (s : ByteArray) (R : Nat) (B : Bool) (w : World) (KR : Hid (textNum s.data.toList = (R, B))) (ha : ∀ v, Lib.atoiAll s.data.toList ≠ .ok v) (x : Int)
    (hc : Hid (Calls Tryd.prog 21 #[.string s] w fun e w' => ∃ N, e = .returned (.tuple #[.int .i64 x, .iface 46 (.pointer (some ⟨N, 0, none⟩))]) ∧ Below w.heap.size w w')) :
    Calls Tryd.prog 10 #[.string s] w fun e w' => e = .returned (.tuple #[.int .i64 R, .bool B]) ∧ Below w.heap.size w w' := by
  have hf : Hid ((0, false) = (R, B)) := by
    rw [← KR.out]
    exact (textNum_atoi fun n hn h => absurd h (ha n)).symm
  clear ha
  go_enter Tryd.func10, Tryd.ntmps10
  go_wp2_with (go_at_call 21; refine hc.out.mono ?_; rintro e w1 ⟨N, rfl, hb⟩)
  go_ret2
  obtain ⟨rfl, rfl⟩ := Prod.mk.inj hf.out
  exact ⟨rfl, hb⟩
end Go.Proofs.YtabialologlgpagDoor.TextWalks
