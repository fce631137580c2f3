/- A window that came in, opened: its span, and its samples one behind the other; no condition. -/
import Derived.Test.YtjopeogdebepmaaRows
import Derived.Test.YtjopeogdebepmaaPairWalks
import Derived.WalkKit
import Derived.WalkSmall
import Derived.Deep.SlicePairs
import Derived.Lib.SmallJoins
import Derived.ChangeSlices
namespace Go.Proofs.Ytjopeogdebepmaa.WinArg
open Go.RowKit Go.ChangeShapes PairWalks

/-- The samples of an argument: none, or one behind the other from an address on. -/
def Arg (w : World) (a : Option Addr) (L : List (Int × Int)) : Prop := L = [] ∨ ∃ b o, a = some ⟨b, o, none⟩ ∧ PArg w b o L

theorem Arg.below {w w' : World} {a : Option Addr} {L : List (Int × Int)} (h : Arg w a L) (hb : Below w.heap.size w w') : Arg w' a L := by
  rcases h with h | ⟨b, o, ha, hr⟩
  · exact Or.inl h
  · exact Or.inr ⟨b, o, ha, hr.below hb⟩

/-- A variable of two cells at N. -/
def boxAt (w : World) (N : Nat) (x0 x1 : Value) : Prop := w.cell? ⟨N, 0, none⟩ = some x0 ∧ w.cell? ⟨N, 1, none⟩ = some x1

theorem boxAt.below {w w' : World} {N : Nat} {x0 x1 : Value} (h : boxAt w N x0 x1) (hb : Below w.heap.size w w') : boxAt w' N x0 x1 :=
  ⟨(hb.cell (World.block_lt_of_cell? w _ h.1)).trans h.1, (hb.cell (World.block_lt_of_cell? w _ h.2)).trans h.2⟩

theorem boxAt.new (w : World) (x0 x1 : Value) (t : TypeId) : boxAt (w.alloc (.cells #[x0, x1] t)) w.heap.size x0 x1 := by
  have e := heap_alloc_new w (.cells #[x0, x1] t)
  exact ⟨(cell_blk e 0).trans rfl, (cell_blk e 1).trans rfl⟩

theorem boxAt.grown {w w' : World} {N : Nat} {x0 x1 : Value} {r : Option Nat} (h : boxAt w N x0 x1) (hg : w.grownBy w' r) (hne : some N ≠ r) : boxAt w' N x0 x1 :=
  ⟨hg.cell h.1 hne, hg.cell h.2 hne⟩

/-- Where a law stands: the box of its window, the argument as it came, nothing else turned. -/
def St (W w : World) (span : Int) (a : Option Addr) (n c : Nat) (L : List (Int × Int)) : Prop := boxAt w W.heap.size (.int .i64 span) (.slice a n c) ∧ Below W.heap.size W w ∧ Arg W a L

theorem St.start {W : World} {span : Int} {a : Option Addr} {n c : Nat} {L : List (Int × Int)} (t : TypeId) (h : Arg W a L) : St W (W.alloc (.cells #[.int .i64 span, .slice a n c] t)) span a n c L :=
  ⟨boxAt.new _ _ _ _, (Below.refl _ _).alloc (Nat.le_refl _) _, h⟩
theorem St.next {W w w' : World} {span : Int} {a : Option Addr} {n c : Nat} {L : List (Int × Int)} (h : St W w span a n c L) (hb : Below w.heap.size w w') : St W w' span a n c L :=
  ⟨h.1.below hb, h.2.1.trans (hb.mono h.2.1.size), h.2.2⟩
theorem St.drew {W w : World} {span : Int} {a : Option Addr} {n c : Nat} {L : List (Int × Int)} (h : St W w span a n c L) : St W w.drew span a n c L := ⟨h.1, h.2.1.drew, h.2.2⟩
theorem St.arg {W w : World} {span : Int} {a : Option Addr} {n c : Nat} {L : List (Int × Int)} (h : St W w span a n c L) : Arg w a L := h.2.2.below h.2.1
theorem St.grow {W w w' : World} {span : Int} {a : Option Addr} {n c : Nat} {L : List (Int × Int)} {r : Option Nat} (h : St W w span a n c L) (hg : w.grownBy w' r) (hr : ∀ k, r = some k → W.heap.size < k) : St W w' span a n c L := by
  refine ⟨h.1.grown hg (fun e => by have := hr _ e.symm; omega), h.2.1.grown hg h.2.1.size (fun k hk => by have := hr k hk; omega), h.2.2⟩

theorem spot_none {w : World} {a : Addr} {v : Value} (h : w.cell? a = some v) : a.spot = none := by
  unfold World.cell? at h
  cases hs : a.spot with
  | none => rfl
  | some s =>
    exfalso
    split at h <;> simp_all

section
variable {H : Type} {enc : TypeId × Value → H} {W : World} {base b0 : Nat} {held : Bool} {spare : Nat → Bool} {v : Value} {d : DataW H} {p : List MemPlace}

theorem open_window (hv : Value.okWide Try.prog W .any b0 24 v) (h : DataW.Trod enc Try.prog W base spare held 24 v d p) :
    ∃ (span : Int) (a : Option Addr) (cap : Nat) (L : List (Int × Int)), v = .agg #[.int .i64 span, .slice a L.length cap] ∧ Arg W a L ∧ L.length ≤ maxLen := by
  obtain ⟨v0, v1, y0, y1, n, rfl, _, _, h0, h1⟩ := Joins.open_agg2 Try.underlying24 (by kernel_rfl) (by kernel_rfl) hv h
  obtain ⟨span, e0, _, _⟩ := DataW.trod_int Try.underlying3 h0
  injection e0 with e0 _
  subst e0
  rcases Go.Deep.open_slice_pairs Try.underlying22 Try.underlying56 (by kernel_rfl) rfl rfl (by kernel_rfl) (by kernel_rfl) h1 with ⟨hc, _⟩ | ⟨a, len, cap, m, k, V0, V1, D0, D1, P0, P1, hc, _, hl, hm, hmm, _, hx⟩
  · injection hc with hc _
    subst hc
    exact ⟨span, none, 0, [], rfl, Or.inl rfl, by simp [maxLen]⟩
  · injection hc with hc _
    subst hc
    have hlm : len ≤ m := by rw [hmm]; split <;> omega
    have each : ∀ i, i < m → ∃ q : Int × Int, W.cell? (a.add (i * 2)) = some (.int .i64 q.1) ∧ W.cell? (a.add (i * 2 + 1)) = some (.int .i64 q.2) := by
      intro i hi
      obtain ⟨c0, c1, t0, t1⟩ := hx i hi
      obtain ⟨n0, k0, _, _⟩ := DataW.trod_int Try.underlying3 t0
      obtain ⟨n1, k1, _, _⟩ := DataW.trod_int Try.underlying3 t1
      injection k0 with k0 _
      injection k1 with k1 _
      exact ⟨(n0, n1), by rw [c0, k0], by rw [c1, k1]⟩
    have pick : ∃ L : List (Int × Int), L.length = len ∧ ∀ (i : Nat) (h : i < L.length), W.cell? (a.add (i * 2)) = some (.int .i64 L[i].1) ∧ W.cell? (a.add (i * 2 + 1)) = some (.int .i64 L[i].2) := by
      classical
      refine ⟨(List.range len).map fun i => if h : i < m then (each i h).choose else (0, 0), by simp, fun i hi => ?_⟩
      have hi2 : i < m := by simp at hi; omega
      simp only [List.getElem_map, List.getElem_range, dif_pos hi2]
      exact (each i hi2).choose_spec
    obtain ⟨L, hL, hcell⟩ := pick
    subst hL
    refine ⟨span, some a, cap, L, rfl, ?_, by omega⟩
    cases L with
    | nil => exact Or.inl rfl
    | cons q L =>
      right
      have h00 := (hcell 0 (by simp)).1
      obtain ⟨b, o, sp⟩ := a
      have hs : sp = none := by
        have := spot_none h00
        simpa [Addr.add] using this
      subst hs
      refine ⟨b, o, rfl, fun i hi => ?_⟩
      have := hcell i hi
      rw [Addr.add_lit, Addr.add_lit] at this
      exact this
end
end Go.Proofs.Ytjopeogdebepmaa.WinArg
