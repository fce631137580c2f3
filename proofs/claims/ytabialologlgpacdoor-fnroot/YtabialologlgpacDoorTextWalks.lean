/- What the program's TextNum answers at the decimal digits of a number: that number and true; under the library's own table of powers of ten. -/
import Derived.Test.YtabialologlgpacDoorRows
import Derived.Test.YtabialologlgpacDoorTextMath
import Derived.Test.YtabialologlgpacDoorNumWalks
import Derived.Test.YtabialologlgpacDoorShelf
import Derived.WalkKit
import Derived.Lib.SmallJoins
import Derived.Lib.AtoiErrMem
namespace Go.Proofs.YtabialologlgpacDoor.TextWalks
open Go.RowKit TextMath

theorem gPow : Tryd.prog.globalNamed "internal/strconv.uint64pow10" = some 4 := by kernel_rfl

set_option maxHeartbeats 1000000 in
theorem impl_back (n : Nat) (w : World) (hn : n ≤ 1000000000000) (htab : Lib.TabIs Tryd.prog w "internal/strconv.uint64pow10" .u64 Lib.pow10Tab) :
    Calls Tryd.prog 7 #[.string ⟨(Lib.decDigits n).toArray⟩] w fun e w' => e = .returned (.tuple #[.int .i64 n, .bool true]) ∧ Below w.heap.size w w' := by
  have HA : Hid (Lib.atoiAll (⟨(Lib.decDigits n).toArray⟩ : ByteArray).data.toList = .ok (n : Int)) := atoi_dec hn
  have hlen : (⟨(Lib.decDigits n).toArray⟩ : ByteArray).size ≤ 13 := by
    have := dec_short 12 n (by omega)
    simpa [ByteArray.size] using this
  have HL : Hid ((⟨(Lib.decDigits n).toArray⟩ : ByteArray).size ≤ 13) := hlen
  have HT : Hid (Lib.TabIs Tryd.prog w "internal/strconv.uint64pow10" .u64 Lib.pow10Tab) := htab
  obtain ⟨D, hD⟩ : ∃ D, Lib.decDigits n = D := ⟨_, rfl⟩
  have KD : Hid (Lib.decDigits n = D) := hD
  rw [hD] at HA HL ⊢
  clear htab hD hlen
  go_enter Tryd.func7, Tryd.ntmps7
  go_wp2_with fail
  refine (Tryd.strconv_Atoi_ok ⟨D.toArray⟩ (Nat.le_trans HL.out (by omega)) n HA.out _).mono ?_
  rintro e w1 ⟨rfl, hw⟩
  have HB : Hid (Below w.heap.size w w1) := by
    rcases hw with rfl | ⟨t, rfl⟩
    · exact Below.refl _ _
    · exact Lib.bytesWorld_below w 5 t
  clear hw
  go_wp2_with (go_at_call 8; refine (NumWalks.impl_num n _ hn (Joins.tab_stays gPow HT.out HB.out (Nat.le_refl _))).mono ?_; rintro e w2 ⟨rfl, hb2⟩; rw [KD.out])
  go_ret2
  exact ⟨rfl, HB.out.trans (hb2.mono HB.out.size)⟩
end Go.Proofs.YtabialologlgpacDoor.TextWalks
