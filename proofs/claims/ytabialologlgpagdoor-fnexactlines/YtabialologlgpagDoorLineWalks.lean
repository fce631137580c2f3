/- What the model's Lines and the program's Lines answer at every text of at most 2 to the 20 bytes: the parts cut at byte 10, without the last one where it is empty, in a list of the call's own, and nothing else turns. -/
import Derived.Test.YtabialologlgpagDoorRows
import Derived.Test.YtabialologlgpagDoorCutWalks
import Derived.WalkKit
namespace Go.Proofs.YtabialologlgpagDoor.LineWalks
open Go.RowKit CutMath MarkWalks CutWalks

/-- The lines of a text. -/
def linesOf (l : List UInt8) : List (List UInt8) := if (cutFrom 10 [] l).getLast? = some [] then (cutFrom 10 [] l).take ((cutFrom 10 [] l).length - 1) else cutFrom 10 [] l

theorem spec_cut10 (s : ByteArray) (w : World) (hs : s.size ≤ 1048576) :
    Calls Tryd.prog 11 #[.string s, .int .u8 10] w fun e w' => ∃ g cap, e = .returned (.slice (some ⟨g, 0, none⟩) (cutFrom 10 [] s.data.toList).length cap) ∧ w.heap.size ≤ g ∧ Row w' g (cutFrom 10 [] s.data.toList) ∧ Below w.heap.size w w' ∧ (cutFrom 10 [] s.data.toList).length ≤ cap :=
  spec_cut_cap s 10 w hs

theorem impl_cut10 (s : ByteArray) (m : Int) (w : World) (hs : s.size ≤ 1048576) (hm : w.cell? ⟨3, 0, none⟩ = some (.int .i64 m)) :
    Calls Tryd.prog 12 #[.string s, .int .u8 10] w fun e w' => ∃ g cap, e = .returned (.slice (some ⟨g, 0, none⟩) (cutFrom 10 [] s.data.toList).length cap) ∧ w.heap.size ≤ g ∧ Row w' g (cutFrom 10 [] s.data.toList) ∧ Below w.heap.size w w' ∧ (cutFrom 10 [] s.data.toList).length ≤ cap :=
  impl_cut_cap s 10 m w hs hm

theorem last_eq {L : List (List UInt8)} (h : 1 ≤ L.length) : L.getLast? = some (L[L.length - 1]'(by omega)) := by
  rw [List.getLast?_eq_getElem?, List.getElem?_eq_getElem (by omega)]

set_option maxHeartbeats 1000000 in
theorem spec_lines (s : ByteArray) (w : World) (hs : s.size ≤ 1048576) :
    Calls Tryd.prog 16 #[.string s] w fun e w' => ∃ g cap, e = .returned (.slice (some ⟨g, 0, none⟩) (linesOf s.data.toList).length cap) ∧ w.heap.size ≤ g ∧ Row w' g (linesOf s.data.toList) ∧ Below w.heap.size w w' := by
  obtain ⟨L, hL⟩ : ∃ L, cutFrom 10 [] s.data.toList = L := ⟨_, rfl⟩
  have h1 := (cutFrom_length 10 s.data.toList []).1
  have h2 := (cutFrom_length 10 s.data.toList []).2
  have KK : Hid (linesOf s.data.toList = if L.getLast? = some [] then L.take (L.length - 1) else L) := by show linesOf _ = _; unfold linesOf; rw [hL]
  rw [hL, size_toList] at h2
  rw [hL] at h1
  have KL : Hid (cutFrom 10 [] s.data.toList = L) := hL
  clear hL
  obtain ⟨p, hp⟩ : ∃ p, L[L.length - 1]'(by omega) = p := ⟨_, rfl⟩
  have hlast := last_eq h1
  rw [hp] at hlast
  have KP : Hid (L[L.length - 1]'(by omega) = p) := hp
  have HLAST : Hid (L.getLast? = some p) := hlast
  clear hp hlast
  go_enter Tryd.func16, Tryd.ntmps16
  go_wp2_with fail
  refine (spec_cut10 s _ hs).mono ?_
  rintro e w1 ⟨g, cap, rfl, hg, hr, hb, hcap⟩
  rw [KL.out] at hr hcap ⊢
  have q1 : w1.cell? ⟨g, L.length - 1, none⟩ = some (.string ⟨p.toArray⟩) := by
    have := hr.cell (L.length - 1) (by omega)
    rw [this, KP.out]; rfl
  have HR : Hid (Row w1 g L) := hr
  have HB : Hid (Below w.heap.size w w1) := hb
  clear hr hb
  obtain ⟨n, hn⟩ : ∃ n, L.length = n + 1 := ⟨L.length - 1, by omega⟩
  have KN : Hid (L.length = n + 1) := hn
  rw [hn] at q1 h2 hcap ⊢
  simp only [Nat.add_sub_cancel] at q1
  clear hn KP
  clear h1
  by_cases hemp : p = []
  · subst hemp
    have HF : Hid (linesOf s.data.toList = L.take n) := by
      show linesOf _ = _
      rw [KK.out, if_pos HLAST.out, KN.out]; rfl
    have HLn : Hid ((linesOf s.data.toList).length = n) := by show _ = _; rw [HF.out, List.length_take, KN.out]; omega
    go_wp2
    go_ret
    exact ⟨g, cap, ret_slice HLn.out.symm, hg, by rw [HF.out]; exact HR.out.take n, HB.out⟩
  · have hne : p.isEmpty = false := by cases p with
      | nil => exact absurd rfl hemp
      | cons a r => rfl
    have HF : Hid (linesOf s.data.toList = L) := by
      show linesOf _ = _
      rw [KK.out, if_neg (by rw [HLAST.out]; intro e; exact hemp (Option.some.inj e))]
    have HLn : Hid ((linesOf s.data.toList).length = n + 1) := by show _ = _; rw [HF.out, KN.out]
    go_wp2
    go_ret
    exact ⟨g, cap, ret_slice HLn.out.symm, hg, by rw [HF.out]; exact HR.out, HB.out⟩

set_option maxHeartbeats 1000000 in
theorem impl_lines (s : ByteArray) (m : Int) (w : World) (hs : s.size ≤ 1048576) (hm : w.cell? ⟨3, 0, none⟩ = some (.int .i64 m)) :
    Calls Tryd.prog 17 #[.string s] w fun e w' => ∃ g cap, e = .returned (.slice (some ⟨g, 0, none⟩) (linesOf s.data.toList).length cap) ∧ w.heap.size ≤ g ∧ Row w' g (linesOf s.data.toList) ∧ Below w.heap.size w w' := by
  obtain ⟨L, hL⟩ : ∃ L, cutFrom 10 [] s.data.toList = L := ⟨_, rfl⟩
  have h1 := (cutFrom_length 10 s.data.toList []).1
  have h2 := (cutFrom_length 10 s.data.toList []).2
  have KK : Hid (linesOf s.data.toList = if L.getLast? = some [] then L.take (L.length - 1) else L) := by show linesOf _ = _; unfold linesOf; rw [hL]
  rw [hL, size_toList] at h2
  rw [hL] at h1
  have KL : Hid (cutFrom 10 [] s.data.toList = L) := hL
  clear hL
  obtain ⟨p, hp⟩ : ∃ p, L[L.length - 1]'(by omega) = p := ⟨_, rfl⟩
  have hlast := last_eq h1
  rw [hp] at hlast
  have KP : Hid (L[L.length - 1]'(by omega) = p) := hp
  have HLAST : Hid (L.getLast? = some p) := hlast
  clear hp hlast
  have HM : Hid (w.cell? ⟨3, 0, none⟩ = some (.int .i64 m)) := hm
  clear hm
  go_enter Tryd.func17, Tryd.ntmps17
  go_wp2_with fail
  refine (impl_cut10 s m _ hs HM.out).mono ?_
  rintro e w1 ⟨g, cap, rfl, hg, hr, hb, hcap⟩
  rw [KL.out] at hr hcap ⊢
  have q1 : w1.cell? ⟨g, L.length - 1, none⟩ = some (.string ⟨p.toArray⟩) := by
    have := hr.cell (L.length - 1) (by omega)
    rw [this, KP.out]; rfl
  have HR : Hid (Row w1 g L) := hr
  have HB : Hid (Below w.heap.size w w1) := hb
  clear hr hb
  obtain ⟨n, hn⟩ : ∃ n, L.length = n + 1 := ⟨L.length - 1, by omega⟩
  have KN : Hid (L.length = n + 1) := hn
  rw [hn] at q1 h2 hcap ⊢
  simp only [Nat.add_sub_cancel] at q1
  clear hn KP
  clear h1
  by_cases hemp : p = []
  · subst hemp
    have HF : Hid (linesOf s.data.toList = L.take n) := by
      show linesOf _ = _
      rw [KK.out, if_pos HLAST.out, KN.out]; rfl
    have HLn : Hid ((linesOf s.data.toList).length = n) := by show _ = _; rw [HF.out, List.length_take, KN.out]; omega
    go_wp2
    go_ret
    exact ⟨g, cap, ret_slice HLn.out.symm, hg, by rw [HF.out]; exact HR.out.take n, HB.out⟩
  · have hne : p.isEmpty = false := by cases p with
      | nil => exact absurd rfl hemp
      | cons a r => rfl
    have HF : Hid (linesOf s.data.toList = L) := by
      show linesOf _ = _
      rw [KK.out, if_neg (by rw [HLAST.out]; intro e; exact hemp (Option.some.inj e))]
    have HLn : Hid ((linesOf s.data.toList).length = n + 1) := by show _ = _; rw [HF.out, KN.out]
    go_wp2
    go_ret
    exact ⟨g, cap, ret_slice HLn.out.symm, hg, by rw [HF.out]; exact HR.out, HB.out⟩
end Go.Proofs.YtabialologlgpagDoor.LineWalks
