/- An argument of the laws' type Queue, opened: its numbers and its lists; no condition. -/
import Derived.Test.YtiodnkehfeigoaaRows
import Derived.Test.YtiodnkehfeigoaaOpenKit
import Derived.Test.YtiodnkehfeigoaaReqKit
namespace Go.Proofs.Ytiodnkehfeigoaa.OpenQueue
open Go.RowKit Go.ChangeShapes Go.WideShapes OpenKit
set_option maxRecDepth 100000

theorem array2 {α : Type} {cs : Array α} (h : cs.size = 2) : ∃ c0 c1, cs = #[c0, c1] := by
  obtain ⟨l⟩ := cs
  match l, h with
  | [c0, c1], _ => exact ⟨c0, c1, rfl⟩

section
variable {H : Type} {enc : TypeId × Value → H} {W : World} {base b0 : Nat} {held : Bool} {spare : Nat → Bool} {v : Value} {d : DataW H} {p : List MemPlace}

theorem el_Req {cs : List Value} (h : Rd enc Try.prog W base spare held 38 cs) : ∃ x : ReqKit.Req, cs = (ReqKit.cells) x := by
  have hl : cs.length = 6 := by
    obtain ⟨fuel, x, hx⟩ := h
    obtain ⟨xs, n, _, _, hl, _, _⟩ := DataW.trod_struct Try.underlying38 hx
    exact hl.trans (by kernel_rfl)
  match cs, hl with
  | [q0, q1, q2, q3, q4, q5], _ =>
    have h_0 : Rd enc Try.prog W base spare held 3 [q0] := rd_field Try.underlying38 h 0 _ rfl 0 1 rfl (by kernel_rfl)
    obtain ⟨xq0, rfl, _⟩ := rd_int Try.underlying3 h_0
    have h_1 : Rd enc Try.prog W base spare held 3 [q1] := rd_field Try.underlying38 h 1 _ rfl 1 1 rfl (by kernel_rfl)
    obtain ⟨xq1, rfl, _⟩ := rd_int Try.underlying3 h_1
    have h_2 : Rd enc Try.prog W base spare held 3 [q2] := rd_field Try.underlying38 h 2 _ rfl 2 1 rfl (by kernel_rfl)
    obtain ⟨xq2, rfl, _⟩ := rd_int Try.underlying3 h_2
    have h_3 : Rd enc Try.prog W base spare held 3 [q3] := rd_field Try.underlying38 h 3 _ rfl 3 1 rfl (by kernel_rfl)
    obtain ⟨xq3, rfl, _⟩ := rd_int Try.underlying3 h_3
    have h_4 : Rd enc Try.prog W base spare held 3 [q4] := rd_field Try.underlying38 h 4 _ rfl 4 1 rfl (by kernel_rfl)
    obtain ⟨xq4, rfl, _⟩ := rd_int Try.underlying3 h_4
    have h_5 : Rd enc Try.prog W base spare held 3 [q5] := rd_field Try.underlying38 h 5 _ rfl 5 1 rfl (by kernel_rfl)
    obtain ⟨xq5, rfl, _⟩ := rd_int Try.underlying3 h_5
    exact ⟨⟨xq0, xq1, xq2, xq3, xq4, xq5⟩, rfl⟩

theorem open_queue (hv : Value.okWide Try.prog W .any b0 24 v) (h : DataW.Trod enc Try.prog W base spare held 24 v d p) :
    ∃ (x0 : Int) (aL1 : Option Addr) (cL1 : Nat) (L1 : List ReqKit.Req), v = .agg #[.int .i64 x0, .slice aL1 L1.length cL1] ∧ LArg 6 (ReqKit.cells) W aL1 L1 ∧ L1.length ≤ maxLen := by
  obtain ⟨cs, rfl, hsz⟩ := okWide_struct Try.underlying24 hv
  have hC : Try.prog.cellsOf 24 = 2 := by kernel_rfl
  obtain ⟨c0, c1, rfl⟩ := array2 (hsz.trans hC)
  have r : Rd enc Try.prog W base spare held 24 [c0, c1] := rd_of h
  clear h hv hsz hC
  have r_0 : Rd enc Try.prog W base spare held 3 [c0] := rd_field Try.underlying24 r 0 _ rfl 0 1 rfl (by kernel_rfl)
  obtain ⟨x0, rfl, _⟩ := rd_int Try.underlying3 r_0
  have r_1 : Rd enc Try.prog W base spare held 22 [c1] := rd_field Try.underlying24 r 1 _ rfl 1 1 rfl (by kernel_rfl)
  obtain ⟨aL1, cL1, L1, rfl, hL1, mL1⟩ := rd_list 6 (ReqKit.cells) ReqKit.zero (by omega) Try.underlying22 (by kernel_rfl) (fun cs h => el_Req h) (fun x => rfl) r_1
  exact ⟨x0, aL1, cL1, L1, rfl, hL1, mL1⟩
end
end Go.Proofs.Ytiodnkehfeigoaa.OpenQueue
