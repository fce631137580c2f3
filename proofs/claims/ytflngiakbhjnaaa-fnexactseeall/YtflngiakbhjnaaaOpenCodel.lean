/- An argument of the laws' type Codel, opened: its numbers and its lists; no condition. -/
import Derived.Test.YtflngiakbhjnaaaRows
import Derived.Test.YtflngiakbhjnaaaOpenKit
namespace Go.Proofs.Ytflngiakbhjnaaa.OpenCodel
open Go.RowKit Go.ChangeShapes Go.WideShapes OpenKit
set_option maxRecDepth 100000

theorem array6 {α : Type} {cs : Array α} (h : cs.size = 6) : ∃ c0 c1 c2 c3 c4 c5, cs = #[c0, c1, c2, c3, c4, c5] := by
  obtain ⟨l⟩ := cs
  match l, h with
  | [c0, c1, c2, c3, c4, c5], _ => exact ⟨c0, c1, c2, c3, c4, c5, rfl⟩

section
variable {H : Type} {enc : TypeId × Value → H} {W : World} {base b0 : Nat} {held : Bool} {spare : Nat → Bool} {v : Value} {d : DataW H} {p : List MemPlace}

theorem open_codel (hv : Value.okWide Try.prog W .any b0 23 v) (h : DataW.Trod enc Try.prog W base spare held 23 v d p) :
    ∃ (x0 : Int) (x1 : Int) (x2 : Int) (x3 : Bool) (x4 : Int) (x5 : Int), v = .agg #[.int .i64 x0, .int .i64 x1, .int .i64 x2, .bool x3, .int .i64 x4, .int .i64 x5] := by
  obtain ⟨cs, rfl, hsz⟩ := okWide_struct Try.underlying23 hv
  have hC : Try.prog.cellsOf 23 = 6 := by kernel_rfl
  obtain ⟨c0, c1, c2, c3, c4, c5, rfl⟩ := array6 (hsz.trans hC)
  have r : Rd enc Try.prog W base spare held 23 [c0, c1, c2, c3, c4, c5] := rd_of h
  clear h hv hsz hC
  have r_0 : Rd enc Try.prog W base spare held 3 [c0] := rd_field Try.underlying23 r 0 _ rfl 0 1 rfl (by kernel_rfl)
  obtain ⟨x0, rfl, _⟩ := rd_int Try.underlying3 r_0
  have r_1 : Rd enc Try.prog W base spare held 3 [c1] := rd_field Try.underlying23 r 1 _ rfl 1 1 rfl (by kernel_rfl)
  obtain ⟨x1, rfl, _⟩ := rd_int Try.underlying3 r_1
  have r_2 : Rd enc Try.prog W base spare held 3 [c2] := rd_field Try.underlying23 r 2 _ rfl 2 1 rfl (by kernel_rfl)
  obtain ⟨x2, rfl, _⟩ := rd_int Try.underlying3 r_2
  have r_3 : Rd enc Try.prog W base spare held 4 [c3] := rd_field Try.underlying23 r 3 _ rfl 3 1 rfl (by kernel_rfl)
  obtain ⟨x3, rfl⟩ := rd_bool Try.underlying4 r_3
  have r_4 : Rd enc Try.prog W base spare held 3 [c4] := rd_field Try.underlying23 r 4 _ rfl 4 1 rfl (by kernel_rfl)
  obtain ⟨x4, rfl, _⟩ := rd_int Try.underlying3 r_4
  have r_5 : Rd enc Try.prog W base spare held 3 [c5] := rd_field Try.underlying23 r 5 _ rfl 5 1 rfl (by kernel_rfl)
  obtain ⟨x5, rfl, _⟩ := rd_int Try.underlying3 r_5
  exact ⟨x0, x1, x2, x3, x4, x5, rfl⟩
end
end Go.Proofs.Ytflngiakbhjnaaa.OpenCodel
