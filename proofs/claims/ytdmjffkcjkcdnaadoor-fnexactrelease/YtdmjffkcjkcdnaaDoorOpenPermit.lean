/- An argument of the laws' type Permit, opened: its numbers and its lists; no condition. -/
import Derived.Test.YtdmjffkcjkcdnaaDoorRows
import Derived.Test.YtdmjffkcjkcdnaaDoorOpenKit
namespace Go.Proofs.YtdmjffkcjkcdnaaDoor.OpenPermit
open Go.RowKit Go.ChangeShapes Go.WideShapes OpenKit
set_option maxRecDepth 100000

theorem array2 {α : Type} {cs : Array α} (h : cs.size = 2) : ∃ c0 c1, cs = #[c0, c1] := by
  obtain ⟨l⟩ := cs
  match l, h with
  | [c0, c1], _ => exact ⟨c0, c1, rfl⟩

section
variable {H : Type} {enc : TypeId × Value → H} {W : World} {base b0 : Nat} {held : Bool} {spare : Nat → Bool} {v : Value} {d : DataW H} {p : List MemPlace}

theorem open_permit (hv : Value.okWide Tryd.prog W .any b0 26 v) (h : DataW.Trod enc Tryd.prog W base spare held 26 v d p) :
    ∃ (x : Int) (y : Int), v = .agg #[.int .i64 x, .int .i64 y] := by
  obtain ⟨cs, rfl, hsz⟩ := okWide_struct Tryd.underlying26 hv
  have hC : Tryd.prog.cellsOf 26 = 2 := by kernel_rfl
  obtain ⟨c0, c1, rfl⟩ := array2 (hsz.trans hC)
  have r : Rd enc Tryd.prog W base spare held 26 [c0, c1] := rd_of h
  clear h hv hsz hC
  have r_0 : Rd enc Tryd.prog W base spare held 3 [c0] := rd_field Tryd.underlying26 r 0 _ rfl 0 1 rfl (by kernel_rfl)
  obtain ⟨x, rfl, _⟩ := rd_int Tryd.underlying3 r_0
  have r_1 : Rd enc Tryd.prog W base spare held 3 [c1] := rd_field Tryd.underlying26 r 1 _ rfl 1 1 rfl (by kernel_rfl)
  obtain ⟨y, rfl, _⟩ := rd_int Tryd.underlying3 r_1
  exact ⟨x, y, rfl⟩
end
end Go.Proofs.YtdmjffkcjkcdnaaDoor.OpenPermit
