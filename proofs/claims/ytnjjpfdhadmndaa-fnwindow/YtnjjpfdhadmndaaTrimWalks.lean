/- What the model's Trim answers at every window of at most 2 to the 20 samples: the young ones, in a list of the call's own, and nothing else turns. -/
import Derived.Test.YtnjjpfdhadmndaaRows
import Derived.Test.YtnjjpfdhadmndaaPairWalks
import Derived.Test.YtnjjpfdhadmndaaWinOk
import Derived.WalkKit
import Derived.WalkSmall
import Derived.BigQuiet
import Derived.Deep.RegionWith
import Derived.Laws.AppendOwn
namespace Go.Proofs.Ytnjjpfdhadmndaa.TrimWalks
open Go.RowKit PairWalks WinOk

/-- Samples as cells. -/
def flat (L : List (Int × Int)) : List Value := L.flatMap fun p => [.int .i64 p.1, .int .i64 p.2]

/-- Those that are younger than span. -/
def young (span now : Int) (L : List (Int × Int)) : List (Int × Int) := L.filter fun p => decide (now - span < p.1)

/-- The young ones of a right window at a time; else none. -/
def trimmed (span : Int) (L : List (Int × Int)) (now : Int) : List (Int × Int) := @ite _ (winOk span L ∧ 0 ≤ now ∧ now ≤ 1000000000) (@instDecidableAnd _ _ (winOkD span L) inferInstance) (young span now L) []
def trimSpan (span : Int) (L : List (Int × Int)) (now : Int) : Int := @ite _ (winOk span L ∧ 0 ≤ now ∧ now ≤ 1000000000) (@instDecidableAnd _ _ (winOkD span L) inferInstance) span 0

theorem trimmed_bad {span now : Int} {L : List (Int × Int)} (h : ¬ (winOk span L ∧ 0 ≤ now ∧ now ≤ 1000000000)) : trimmed span L now = [] ∧ trimSpan span L now = 0 := by
  unfold trimmed trimSpan
  exact ⟨if_neg h, if_neg h⟩

theorem trimmed_good {span now : Int} {L : List (Int × Int)} (h : winOk span L ∧ 0 ≤ now ∧ now ≤ 1000000000) : trimmed span L now = young span now L ∧ trimSpan span L now = span := by
  unfold trimmed trimSpan
  exact ⟨if_pos h, if_pos h⟩

theorem flag (p : Prop) : ∃ B : Bool, Hid (B = true ↔ p) := by
  by_cases h : p
  · refine ⟨true, ?_⟩
    show true = true ↔ p
    exact ⟨fun _ => h, fun _ => rfl⟩
  · refine ⟨false, ?_⟩
    show false = true ↔ p
    exact ⟨fun e => by simp at e, fun e => absurd e h⟩

/-- Two boxes laid one behind the other, and what is left of them behind a call that turns nothing below. -/
theorem boxes {w w1 : World} {x0 x1 y0 y1 : Value} {s t : TypeId} (hb : Below ((w.alloc (.cells #[x0, x1] s)).alloc (.cells #[y0, y1] t)).heap.size ((w.alloc (.cells #[x0, x1] s)).alloc (.cells #[y0, y1] t)) w1) :
    (w1.cell? ⟨w.heap.size, 0, none⟩ = some x0 ∧ w1.cell? ⟨w.heap.size, 1, none⟩ = some x1) ∧ (w1.cell? ⟨w.heap.size + 1, 0, none⟩ = some y0 ∧ w1.cell? ⟨w.heap.size + 1, 1, none⟩ = some y1) ∧ (∀ j, w1.frozen? ⟨w.heap.size + 1, j, none⟩ = false) ∧ w.heap.size + 2 ≤ w1.heap.size := by
  have hs := hb.size
  simp at hs
  have e0 : w1.heap[w.heap.size]? = some (.cells #[x0, x1] s (0, 0)) := by
    rw [hb.block _ (by simp; omega), Below.heap_alloc _ _ _ (by simp)]
    exact heap_alloc_new w _
  have e1 : w1.heap[w.heap.size + 1]? = some (.cells #[y0, y1] t (0, 0)) := by
    rw [hb.block _ (by simp)]
    have := heap_alloc_new (w.alloc (.cells #[x0, x1] s)) (.cells #[y0, y1] t)
    simpa using this
  refine ⟨⟨?_, ?_⟩, ⟨?_, ?_⟩, fun j => ?_, by omega⟩ <;> simp [World.cell?, World.frozen?, e0, e1]

theorem info31s : (Try.prog.info? 31).map (fun i => (i.zero, i.size, i.bytes)) = some (some (.agg #[.int .i64 0, .int .i64 0]), 2, 16) := by kernel_rfl

theorem flat_snoc (D : List (Int × Int)) (x y : Int) : flat (D ++ [(x, y)]) = flat D ++ [.int .i64 x, .int .i64 y] := by simp [flat]

/-- One sample more in the list that grows, and its variable. -/
theorem trim_step {w1 wr w2 : World} {span x y : Int} {v v' : Value} {D : List (Int × Int)} {A B : Obj} {t : TypeId} (hown : wr.ownsRow (w1.heap.size + 1) 31 2 v D.length (flat D)) (hv : wr.heap[w1.heap.size]? = some (.cells #[.int .i64 span, v] t (0, 0))) (hb : Below w1.heap.size w1 wr)
    (h1 : w2.ownsRow (w1.heap.size + 1) 31 2 v' (D.length + 1) (flat D ++ [.int .i64 x, .int .i64 y])) (hg : ((wr.alloc A).alloc B).grownBy w2 v.ownBlock) :
    w2.heap[w1.heap.size]? = some (.cells #[.int .i64 span, v] t (0, 0)) ∧ (w2.setCell ⟨w1.heap.size, 1, none⟩ v').heap[w1.heap.size]? = some (.cells #[.int .i64 span, v'] t (0, 0)) ∧
    (w2.setCell ⟨w1.heap.size, 1, none⟩ v').ownsRow (w1.heap.size + 1) 31 2 v' (D ++ [(x, y)]).length (flat (D ++ [(x, y)])) ∧ Below w1.heap.size w1 (w2.setCell ⟨w1.heap.size, 1, none⟩ v') := by
  have hlt : w1.heap.size < wr.heap.size := (Array.getElem?_eq_some_iff.1 hv).1
  have hne : some w1.heap.size ≠ v.ownBlock := fun e => by have := (hown.lt _ e.symm).1; omega
  have e2 : w2.heap[w1.heap.size]? = some (.cells #[.int .i64 span, v] t (0, 0)) := by
    rw [hg.block _ (by simp; omega) hne, Below.heap_alloc _ _ _ (by simp; omega), Below.heap_alloc _ _ _ hlt]
    exact hv
  refine ⟨e2, ?_, ?_, ?_⟩
  · have := heap_setCell_at e2 1 v'
    simpa using this
  · rw [flat_snoc, List.length_append]
    refine h1.kept (row := some w1.heap.size) ⟨rfl, rfl, rfl, by simp, fun k hk hne => Below.heap_setCell _ _ _ _ (fun e => hne (by rw [e]))⟩ (Or.inr fun e => ?_)
    have := (h1.lt _ e).1
    omega
  · exact (((hb.alloc hb.size A).alloc (by simp; omega) B).grown hg (by simp; omega) (fun j hj => by have := (hown.lt j hj).1; omega)).setCell (Nat.le_refl _) _

theorem own_below {w : World} {b B n size : Nat} {e : TypeId} {v : Value} {xs : List Value} (hb : b ≤ B) (h : w.ownsRow B e size v n xs) : w.ownsRow b e size v n xs := by
  refine ⟨h.1, ?_⟩
  rcases h.2 with h0 | ⟨g, cap, cur, h1, h2, h3⟩
  · exact Or.inl h0
  · exact Or.inr ⟨g, cap, cur, h1, by omega, h3⟩

end Go.Proofs.Ytnjjpfdhadmndaa.TrimWalks
