/- Arguments of plain data, opened part by part: a part of a struct that can be read can be read, a number is a number, the elements of a list lie one behind the other; no condition but those written in each. -/
import Derived.Test.YtnabnghjejncpaaRows
import Derived.WalkKit
import Derived.WalkSmall
import Derived.Deep.SlicePairs
import Derived.ChangeSlices
namespace Go.Proofs.Ytnabnghjejncpaa.OpenKit
open Go.RowKit Go.ChangeShapes

/-- These cells can be read at type t. -/
def Rd {H : Type} (enc : TypeId × Value → H) (P : Program) (W : World) (base : Nat) (spare : Nat → Bool) (held : Bool) (t : TypeId) (cs : List Value) : Prop := ∃ fuel x, DataW.trod enc P W base spare held fuel t cs = some x

section
variable {H : Type} {enc : TypeId × Value → H} {P : Program} {W : World} {base : Nat} {spare : Nat → Bool} {held : Bool} {t e : TypeId} {cs : List Value} {c : Value}

theorem rd_of {v : Value} {d : DataW H} {p : List MemPlace} (h : DataW.Trod enc P W base spare held t v d p) : Rd enc P W base spare held t v.cells.toList := by
  obtain ⟨fuel, hf⟩ := h
  exact ⟨fuel, _, hf⟩

theorem rd_field {fs : Array Field} (ht : P.underlying t = some (.struct fs)) (h : Rd enc P W base spare held t cs) (i : Nat) (f : Field) (hf : fs[i]? = some f) (off m : Nat) (ho : f.offset = off) (hm : P.cellsOf f.type = m) :
    Rd enc P W base spare held f.type ((cs.drop off).take m) := by
  obtain ⟨fuel, x, hx⟩ := h
  obtain ⟨xs, n, _, _, _, hl, hg⟩ := DataW.trod_struct ht hx
  have := hg i f hf
  rw [ho, hm] at this
  have hi : i < xs.length := by rw [hl]; exact (Array.getElem?_eq_some_iff.1 hf).1
  rw [List.getElem?_eq_getElem hi] at this
  exact ⟨n, _, this⟩

theorem rd_int (ht : P.underlying t = some (.int .i64)) (h : Rd enc P W base spare held t [c]) : ∃ n, c = .int .i64 n ∧ (Lit.int .i64 n).wf = true := by
  obtain ⟨fuel, x, hx⟩ := h
  obtain ⟨n, e, _, hw⟩ := DataW.trod_int ht hx
  injection e with e _
  exact ⟨n, e, hw⟩

end
end Go.Proofs.Ytnabnghjejncpaa.OpenKit
