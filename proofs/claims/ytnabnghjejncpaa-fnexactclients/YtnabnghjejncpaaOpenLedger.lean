/- An argument of the laws' type Ledger, opened: its numbers and its lists; no condition. -/
import Derived.Test.YtnabnghjejncpaaRows
import Derived.Test.YtnabnghjejncpaaOpenKit
import Derived.Test.YtnabnghjejncpaaSlotKit
namespace Go.Proofs.Ytnabnghjejncpaa.OpenLedger
open Go.RowKit Go.ChangeShapes Go.WideShapes OpenKit
set_option maxRecDepth 100000

theorem array1 {α : Type} {cs : Array α} (h : cs.size = 1) : ∃ c0, cs = #[c0] := by
  obtain ⟨l⟩ := cs
  match l, h with
  | [c0], _ => exact ⟨c0, rfl⟩

section
variable {H : Type} {enc : TypeId × Value → H} {W : World} {base b0 : Nat} {held : Bool} {spare : Nat → Bool} {v : Value} {d : DataW H} {p : List MemPlace}

theorem el_Slot {cs : List Value} (h : Rd enc Try.prog W base spare held 141 cs) : ∃ x : SlotKit.Slot, cs = (SlotKit.cells) x := by
  have hl : cs.length = 5 := by
    obtain ⟨fuel, x, hx⟩ := h
    obtain ⟨xs, n, _, _, hl, _, _⟩ := DataW.trod_struct Try.underlying141 hx
    exact hl.trans (by kernel_rfl)
  match cs, hl with
  | [q0, q1, q2, q3, q4], _ =>
    have h_0 : Rd enc Try.prog W base spare held 3 [q0] := rd_field Try.underlying141 h 0 _ rfl 0 1 rfl (by kernel_rfl)
    obtain ⟨xq0, rfl, _⟩ := rd_int Try.underlying3 h_0
    have h_1 : Rd enc Try.prog W base spare held 4 [q1] := rd_field Try.underlying141 h 1 _ rfl 1 1 rfl (by kernel_rfl)
    obtain ⟨xq1, rfl⟩ := rd_bool Try.underlying4 h_1
    have h_2 : Rd enc Try.prog W base spare held 3 [q2] := rd_field Try.underlying141 h 2 _ rfl 2 1 rfl (by kernel_rfl)
    obtain ⟨xq2, rfl, _⟩ := rd_int Try.underlying3 h_2
    have h_3 : Rd enc Try.prog W base spare held 3 [q3] := rd_field Try.underlying141 h 3 _ rfl 3 1 rfl (by kernel_rfl)
    obtain ⟨xq3, rfl, _⟩ := rd_int Try.underlying3 h_3
    have h_4 : Rd enc Try.prog W base spare held 3 [q4] := rd_field Try.underlying141 h 4 _ rfl 4 1 rfl (by kernel_rfl)
    obtain ⟨xq4, rfl, _⟩ := rd_int Try.underlying3 h_4
    exact ⟨⟨xq0, xq1, xq2, xq3, xq4⟩, rfl⟩

theorem open_ledger (hv : Value.okWide Try.prog W .any b0 55 v) (h : DataW.Trod enc Try.prog W base spare held 55 v d p) :
    ∃ (aL : Option Addr) (cL : Nat) (L : List SlotKit.Slot), v = .agg #[.slice aL L.length cL] ∧ LArg 5 (SlotKit.cells) W aL L ∧ L.length ≤ maxLen := by
  obtain ⟨cs, rfl, hsz⟩ := okWide_struct Try.underlying55 hv
  have hC : Try.prog.cellsOf 55 = 1 := by kernel_rfl
  obtain ⟨c0, rfl⟩ := array1 (hsz.trans hC)
  have r : Rd enc Try.prog W base spare held 55 [c0] := rd_of h
  clear h hv hsz hC
  have r_0 : Rd enc Try.prog W base spare held 53 [c0] := rd_field Try.underlying55 r 0 _ rfl 0 1 rfl (by kernel_rfl)
  obtain ⟨aL, cL, L, rfl, hL, mL⟩ := rd_list 5 (SlotKit.cells) SlotKit.zero (by omega) Try.underlying53 (by kernel_rfl) (fun cs h => el_Slot h) (fun x => rfl) r_0
  exact ⟨aL, cL, L, rfl, hL, mL⟩
end
end Go.Proofs.Ytnabnghjejncpaa.OpenLedger
