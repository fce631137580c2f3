/- An argument of the type []int, opened: its numbers; no condition. -/
import Derived.Test.YtflngiakbhjnaaaRows
import Derived.Test.YtflngiakbhjnaaaOpenKit
import Derived.Test.YtflngiakbhjnaaaIntKit
namespace Go.Proofs.Ytflngiakbhjnaaa.OpenInts
open Go.RowKit Go.ChangeShapes Go.WideShapes OpenKit
set_option maxRecDepth 100000

section
variable {H : Type} {enc : TypeId × Value → H} {W : World} {base b0 : Nat} {held : Bool} {spare : Nat → Bool} {v : Value} {d : DataW H} {p : List MemPlace}

theorem el_int {cs : List Value} (h : Rd enc Try.prog W base spare held 3 cs) : ∃ x : Int, cs = IntKit.cells x := by
  obtain ⟨fuel, x, hx⟩ := h
  obtain ⟨n, e, _, hw⟩ := DataW.trod_int Try.underlying3 hx
  exact ⟨n, e⟩

theorem open_ints (hv : Value.okWide Try.prog W .any b0 35 v) (h : DataW.Trod enc Try.prog W base spare held 35 v d p) :
    ∃ (a : Option Addr) (c : Nat) (L : List Int), v = .slice a L.length c ∧ LArg 1 IntKit.cells W a L ∧ L.length ≤ maxLen := by
  obtain ⟨a0, l0, c0, rfl⟩ := okWide_slice Try.underlying35 hv
  have r : Rd enc Try.prog W base spare held 35 [.slice a0 l0 c0] := rd_of h
  obtain ⟨a, c, L, hc, hl, hm⟩ := rd_list 1 IntKit.cells IntKit.zero (by omega) Try.underlying35 (by kernel_rfl) (fun cs h => el_int h) (fun x => rfl) r
  exact ⟨a, c, L, hc, hl, hm⟩
theorem open_ints_wf (hv : Value.okWide Try.prog W .any b0 35 v) (h : DataW.Trod enc Try.prog W base spare held 35 v d p) :
    ∃ (a : Option Addr) (c : Nat) (L : List Int), v = .slice a L.length c ∧ LArg 1 IntKit.cells W a L ∧ L.length ≤ maxLen ∧ ∀ (k : Nat) (h : k < L.length), (Lit.int .i64 L[k]).wf = true := by
  obtain ⟨a0, l0, c0, rfl⟩ := okWide_slice Try.underlying35 hv
  have r : Rd enc Try.prog W base spare held 35 [.slice a0 l0 c0] := rd_of h
  obtain ⟨a, c, L, hc, hl, hm⟩ := rd_list (α := {x : Int // (Lit.int .i64 x).wf = true}) 1 (fun x => IntKit.cells x.1) ⟨0, by decide⟩ (by omega) Try.underlying35 (by kernel_rfl) (fun cs h => by
    obtain ⟨fuel, x, hx⟩ := h
    obtain ⟨n, e, _, hw⟩ := DataW.trod_int Try.underlying3 hx
    exact ⟨⟨n, hw⟩, e⟩) (fun x => rfl) r
  refine ⟨a, c, L.map (fun x => x.1), by rw [List.length_map]; exact hc, ?_, by rw [List.length_map]; exact hm, fun k hk => ?_⟩
  · rcases hl with h | ⟨b, o, ha, h2⟩
    · exact Or.inl (by rw [h]; rfl)
    · refine Or.inr ⟨b, o, ha, fun i hi j hj => ?_⟩
      rw [List.getElem_map]
      exact h2 i (by simpa using hi) j hj
  · rw [List.getElem_map]
    exact (L[k]'(by simpa using hk)).2
end
end Go.Proofs.Ytflngiakbhjnaaa.OpenInts
