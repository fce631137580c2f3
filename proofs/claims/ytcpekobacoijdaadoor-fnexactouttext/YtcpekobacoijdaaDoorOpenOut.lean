/- An argument of the laws' type Out, opened: its numbers and its lists; no condition. -/
import Derived.Test.YtcpekobacoijdaaDoorRows
import Derived.Test.YtcpekobacoijdaaDoorOpenKit
namespace Go.Proofs.YtcpekobacoijdaaDoor.OpenOut
open Go.RowKit Go.ChangeShapes Go.WideShapes OpenKit
set_option maxRecDepth 100000

theorem array5 {α : Type} {cs : Array α} (h : cs.size = 5) : ∃ c0 c1 c2 c3 c4, cs = #[c0, c1, c2, c3, c4] := by
  obtain ⟨l⟩ := cs
  match l, h with
  | [c0, c1, c2, c3, c4], _ => exact ⟨c0, c1, c2, c3, c4, rfl⟩

section
variable {H : Type} {enc : TypeId × Value → H} {W : World} {base b0 : Nat} {held : Bool} {spare : Nat → Bool} {v : Value} {d : DataW H} {p : List MemPlace}

theorem open_out (hv : Value.okWide Tryd.prog W .any b0 25 v) (h : DataW.Trod enc Tryd.prog W base spare held 25 v d p) :
    ∃ (x0 : Int) (x1 : Int) (x2 : Int) (x3 : Int) (x4 : Int), v = .agg #[.int .i64 x0, .int .i64 x1, .int .i64 x2, .int .i64 x3, .int .i64 x4] := by
  obtain ⟨cs, rfl, hsz⟩ := okWide_struct Tryd.underlying25 hv
  have hC : Tryd.prog.cellsOf 25 = 5 := by kernel_rfl
  obtain ⟨c0, c1, c2, c3, c4, rfl⟩ := array5 (hsz.trans hC)
  have r : Rd enc Tryd.prog W base spare held 25 [c0, c1, c2, c3, c4] := rd_of h
  clear h hv hsz hC
  have r_0 : Rd enc Tryd.prog W base spare held 3 [c0] := rd_field Tryd.underlying25 r 0 _ rfl 0 1 rfl (by kernel_rfl)
  obtain ⟨x0, rfl, _⟩ := rd_int Tryd.underlying3 r_0
  have r_1 : Rd enc Tryd.prog W base spare held 3 [c1] := rd_field Tryd.underlying25 r 1 _ rfl 1 1 rfl (by kernel_rfl)
  obtain ⟨x1, rfl, _⟩ := rd_int Tryd.underlying3 r_1
  have r_2 : Rd enc Tryd.prog W base spare held 3 [c2] := rd_field Tryd.underlying25 r 2 _ rfl 2 1 rfl (by kernel_rfl)
  obtain ⟨x2, rfl, _⟩ := rd_int Tryd.underlying3 r_2
  have r_3 : Rd enc Tryd.prog W base spare held 23 [c3, c4] := rd_field Tryd.underlying25 r 3 _ rfl 3 2 rfl (by kernel_rfl)
  have r_3_0 : Rd enc Tryd.prog W base spare held 3 [c3] := rd_field Tryd.underlying23 r_3 0 _ rfl 0 1 rfl (by kernel_rfl)
  obtain ⟨x3, rfl, _⟩ := rd_int Tryd.underlying3 r_3_0
  have r_3_1 : Rd enc Tryd.prog W base spare held 3 [c4] := rd_field Tryd.underlying23 r_3 1 _ rfl 1 1 rfl (by kernel_rfl)
  obtain ⟨x4, rfl, _⟩ := rd_int Tryd.underlying3 r_3_1
  exact ⟨x0, x1, x2, x3, x4, rfl⟩
end
end Go.Proofs.YtcpekobacoijdaaDoor.OpenOut
