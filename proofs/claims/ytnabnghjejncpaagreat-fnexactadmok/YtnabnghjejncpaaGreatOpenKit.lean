/- Arguments of plain data, opened part by part: a part of a struct that can be read can be read, a number is a number, the elements of a list lie one behind the other; no condition but those written in each. -/
import Derived.Test.YtnabnghjejncpaaGreatRows
import Derived.WalkKit
import Derived.WalkSmall
import Derived.Deep.SlicePairs
import Derived.ChangeSlices
namespace Go.Proofs.YtnabnghjejncpaaGreat.OpenKit
open Go.RowKit Go.ChangeShapes

/-- These cells can be read at type t. -/
def Rd {H : Type} (enc : TypeId × Value → H) (P : Program) (W : World) (base : Nat) (spare : Nat → Bool) (held : Bool) (t : TypeId) (cs : List Value) : Prop := ∃ fuel x, DataW.trod enc P W base spare held fuel t cs = some x

theorem spot_none {w : World} {a : Addr} {v : Value} (h : w.cell? a = some v) : a.spot = none := by
  unfold World.cell? at h
  cases hs : a.spot with
  | none => rfl
  | some s =>
    exfalso
    split at h <;> simp_all

theorem add_add (a : Addr) (i j : Nat) : (a.add i).add j = a.add (i + j) := by
  unfold Addr.add
  by_cases hi : i = 0
  · simp [hi]
  · by_cases hj : j = 0
    · simp [hi, hj]
    · simp [hi, hj, Nat.add_assoc]

section
variable {H : Type} {enc : TypeId × Value → H} {P : Program} {W : World} {base : Nat} {spare : Nat → Bool} {held : Bool} {t e : TypeId} {cs : List Value} {c : Value}

theorem rd_of {v : Value} {d : DataW H} {p : List MemPlace} (h : DataW.Trod enc P W base spare held t v d p) : Rd enc P W base spare held t v.cells.toList := by
  obtain ⟨fuel, hf⟩ := h
  exact ⟨fuel, _, hf⟩

theorem rd_field {fs : Array Field} (ht : P.underlying t = some (.struct fs)) (h : Rd enc P W base spare held t cs) (i : Nat) (f : Field) (hf : fs[i]? = some f) (off m : Nat) (ho : f.offset = off) (hm : P.cellsOf f.type = m) :
    Rd enc P W base spare held f.type ((cs.drop off).take m) := by
  obtain ⟨fuel, x, hx⟩ := h
  obtain ⟨xs, n, _, _, _, hl, hg⟩ := DataW.trod_struct ht hx
  have := hg i f hf
  rw [ho, hm] at this
  have hi : i < xs.length := by rw [hl]; exact (Array.getElem?_eq_some_iff.1 hf).1
  rw [List.getElem?_eq_getElem hi] at this
  exact ⟨n, _, this⟩

theorem rd_int (ht : P.underlying t = some (.int .i64)) (h : Rd enc P W base spare held t [c]) : ∃ n, c = .int .i64 n ∧ (Lit.int .i64 n).wf = true := by
  obtain ⟨fuel, x, hx⟩ := h
  obtain ⟨n, e, _, hw⟩ := DataW.trod_int ht hx
  injection e with e _
  exact ⟨n, e, hw⟩

theorem rd_bool (ht : P.underlying t = some .bool) (h : Rd enc P W base spare held t [c]) : ∃ b, c = .bool b := by
  obtain ⟨fuel, x, hx⟩ := h
  obtain ⟨b, e, _⟩ := DataW.trod_bool ht hx
  injection e with e _
  exact ⟨b, e⟩

/-- The elements of an argument: none, or one behind the other from an address on. -/
def LArg {α : Type} (m : Nat) (f : α → List Value) (w : World) (a : Option Addr) (L : List α) : Prop :=
  L = [] ∨ ∃ b o, a = some ⟨b, o, none⟩ ∧ ∀ (i : Nat) (h : i < L.length) (j : Nat), j < m → w.cell? ⟨b, o + i * m + j, none⟩ = (f L[i])[j]?

theorem rd_list {α : Type} (m : Nat) (f : α → List Value) (d0 : α) (hm0 : 0 < m) (ht : P.underlying t = some (.slice e)) (hm : P.cellsOf e = m) (hE : ∀ cs, Rd enc P W base spare held e cs → ∃ x : α, cs = f x) (hlen : ∀ x, (f x).length = m) (h : Rd enc P W base spare held t [c]) :
    ∃ (a : Option Addr) (cap : Nat) (L : List α), c = .slice a L.length cap ∧ LArg m f W a L ∧ L.length ≤ maxLen := by
  obtain ⟨fuel, x, hx⟩ := h
  rcases Go.Deep.open_slice ht hx with ⟨hc, _⟩ | ⟨a, len, cap, k, n, D, Pl, hc, _, hl, hmx, hmm, _, hel⟩
  · injection hc with hc _
    exact ⟨none, 0, [], hc, Or.inl rfl, by simp [maxLen]⟩
  · injection hc with hc _
    have hlk : len ≤ k := by rw [hmm]; split <;> omega
    have each : ∀ i, i < k → ∃ q : α, ∀ j, j < m → W.cell? (a.add (i * m + j)) = (f q)[j]? := by
      intro i hi
      obtain ⟨cs', h1, h2⟩ := hel i hi
      rw [hm] at h1
      obtain ⟨_, hl2, hcell⟩ := World.cells?_some h1
      obtain ⟨q, rfl⟩ := hE cs' ⟨_, _, h2⟩
      refine ⟨q, fun j hj => ?_⟩
      have := hcell j hj
      rw [add_add] at this
      exact this
    have pick : ∃ L : List α, L.length = len ∧ ∀ (i : Nat) (h : i < L.length) (j : Nat), j < m → W.cell? (a.add (i * m + j)) = (f L[i])[j]? := by
      classical
      refine ⟨(List.range len).map fun i => if h : i < k then (each i h).choose else d0, by simp, fun i hi => ?_⟩
      have hi2 : i < k := by simp at hi; omega
      simp only [List.getElem_map, List.getElem_range, dif_pos hi2]
      exact (each i hi2).choose_spec
    obtain ⟨L, hL, hcell⟩ := pick
    subst hL
    refine ⟨some a, cap, L, hc, ?_, by omega⟩
    cases L with
    | nil => exact Or.inl rfl
    | cons q L =>
      right
      have h00 := hcell 0 (by simp) 0 hm0
      obtain ⟨b, o, sp⟩ := a
      rw [List.getElem?_eq_getElem (by rw [hlen]; exact hm0)] at h00
      have hs : sp = none := by
        have := spot_none h00
        simpa [Addr.add] using this
      subst hs
      refine ⟨b, o, rfl, fun i hi j hj => ?_⟩
      have := hcell i hi j hj
      rw [Addr.add_lit] at this
      simpa [Nat.add_assoc] using this
end
end Go.Proofs.YtnabnghjejncpaaGreat.OpenKit
