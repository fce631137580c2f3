/- An argument of the laws' type Ledger, opened: its numbers and its lists; no condition. -/
import Derived.Test.YtdmjffkcjkcdnaaDoorRows
import Derived.Test.YtdmjffkcjkcdnaaDoorOpenKit
import Derived.Test.YtdmjffkcjkcdnaaDoorSlotKit
namespace Go.Proofs.YtdmjffkcjkcdnaaDoor.OpenLedger
open Go.RowKit Go.ChangeShapes Go.WideShapes OpenKit
set_option maxRecDepth 100000

theorem array1 {α : Type} {cs : Array α} (h : cs.size = 1) : ∃ c0, cs = #[c0] := by
  obtain ⟨l⟩ := cs
  match l, h with
  | [c0], _ => exact ⟨c0, rfl⟩

section
variable {H : Type} {enc : TypeId × Value → H} {W : World} {base b0 : Nat} {held : Bool} {spare : Nat → Bool} {v : Value} {d : DataW H} {p : List MemPlace}

theorem el_Slot {cs : List Value} (h : Rd enc Tryd.prog W base spare held 57 cs) : ∃ x : SlotKit.Slot, cs = (SlotKit.cells) x := by
  have hl : cs.length = 5 := by
    obtain ⟨fuel, x, hx⟩ := h
    obtain ⟨xs, n, _, _, hl, _, _⟩ := DataW.trod_struct Tryd.underlying57 hx
    exact hl.trans (by kernel_rfl)
  match cs, hl with
  | [q0, q1, q2, q3, q4], _ =>
    have h_0 : Rd enc Tryd.prog W base spare held 3 [q0] := rd_field Tryd.underlying57 h 0 _ rfl 0 1 rfl (by kernel_rfl)
    obtain ⟨xq0, rfl, _⟩ := rd_int Tryd.underlying3 h_0
    have h_1 : Rd enc Tryd.prog W base spare held 4 [q1] := rd_field Tryd.underlying57 h 1 _ rfl 1 1 rfl (by kernel_rfl)
    obtain ⟨xq1, rfl⟩ := rd_bool Tryd.underlying4 h_1
    have h_2 : Rd enc Tryd.prog W base spare held 3 [q2] := rd_field Tryd.underlying57 h 2 _ rfl 2 1 rfl (by kernel_rfl)
    obtain ⟨xq2, rfl, _⟩ := rd_int Tryd.underlying3 h_2
    have h_3 : Rd enc Tryd.prog W base spare held 3 [q3] := rd_field Tryd.underlying57 h 3 _ rfl 3 1 rfl (by kernel_rfl)
    obtain ⟨xq3, rfl, _⟩ := rd_int Tryd.underlying3 h_3
    have h_4 : Rd enc Tryd.prog W base spare held 3 [q4] := rd_field Tryd.underlying57 h 4 _ rfl 4 1 rfl (by kernel_rfl)
    obtain ⟨xq4, rfl, _⟩ := rd_int Tryd.underlying3 h_4
    exact ⟨⟨xq0, xq1, xq2, xq3, xq4⟩, rfl⟩

theorem open_ledger (hv : Value.okWide Tryd.prog W .any b0 24 v) (h : DataW.Trod enc Tryd.prog W base spare held 24 v d p) :
    ∃ (aL : Option Addr) (cL : Nat) (L : List SlotKit.Slot), v = .agg #[.slice aL L.length cL] ∧ LArg 5 (SlotKit.cells) W aL L ∧ L.length ≤ maxLen := by
  obtain ⟨cs, rfl, hsz⟩ := okWide_struct Tryd.underlying24 hv
  have hC : Tryd.prog.cellsOf 24 = 1 := by kernel_rfl
  obtain ⟨c0, rfl⟩ := array1 (hsz.trans hC)
  have r : Rd enc Tryd.prog W base spare held 24 [c0] := rd_of h
  clear h hv hsz hC
  have r_0 : Rd enc Tryd.prog W base spare held 22 [c0] := rd_field Tryd.underlying24 r 0 _ rfl 0 1 rfl (by kernel_rfl)
  obtain ⟨aL, cL, L, rfl, hL, mL⟩ := rd_list 5 (SlotKit.cells) SlotKit.zero (by omega) Tryd.underlying22 (by kernel_rfl) (fun cs h => el_Slot h) (fun x => rfl) r_0
  exact ⟨aL, cL, L, rfl, hL, mL⟩
end
end Go.Proofs.YtdmjffkcjkcdnaaDoor.OpenLedger
