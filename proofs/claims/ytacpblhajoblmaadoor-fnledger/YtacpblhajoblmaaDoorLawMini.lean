/- What a law's walk leans on: a variable's box behind calls, boxes made one behind the other; two permits held against each other; no condition but those written in each. -/
import Derived.Laws.StructEq
import Derived.Test.YtacpblhajoblmaaDoorRows
import Derived.Test.YtacpblhajoblmaaDoorListKit
import Derived.Test.YtacpblhajoblmaaDoorSlotKit
import Derived.WalkKit
import Derived.WalkSmall
namespace Go.Proofs.YtacpblhajoblmaaDoor.LawMini
open Go.RowKit ListKit SlotKit

/-- A variable of these cells at N. -/
def boxB (w : World) (N : Nat) (cs : Array Value) (t : TypeId) : Prop := w.heap[N]? = some (.cells cs t (0, 0))
theorem boxB.lt {w : World} {N : Nat} {cs : Array Value} {t : TypeId} (h : boxB w N cs t) : N < w.heap.size := (Array.getElem?_eq_some_iff.1 h).1
theorem boxB.below {w w' : World} {N : Nat} {cs : Array Value} {t : TypeId} (h : boxB w N cs t) (hb : Below w.heap.size w w') : boxB w' N cs t := (hb.block N h.lt).trans h
theorem boxB.new (w : World) (cs : Array Value) (t : TypeId) : boxB (w.alloc (.cells cs t)) w.heap.size cs t := heap_alloc_new w _
theorem boxB.cell {w : World} {N : Nat} {cs : Array Value} {t : TypeId} (h : boxB w N cs t) (i : Nat) : w.cell? ⟨N, i, none⟩ = cs[i]? := cellB h i
theorem n1 (w : World) (o : Obj) : Below w.heap.size w (w.alloc o) := (Below.refl _ _).alloc (Nat.le_refl _) _
theorem n2 (w : World) (o p : Obj) : Below w.heap.size w ((w.alloc o).alloc p) := (n1 w o).alloc (by simp) _
theorem new2 (w : World) (o : Obj) (cs : Array Value) (t : TypeId) : boxB ((w.alloc o).alloc (.cells cs t)) (w.heap.size + 1) cs t := by
  have h := boxB.new (w.alloc o) cs t
  rw [World.size_alloc] at h
  exact h
/-- All that W holds lies as it lay. -/
def Bel (W w : World) : Prop := Below W.heap.size W w
theorem Bel.below {W w w' : World} (h : Bel W w) (hb : Below w.heap.size w w') : Bel W w' := Below.trans h (hb.mono (Below.size h))

theorem eq_perm (x y x' y' : Int) (w : World) : (binOp .eql 28 (.agg #[.int .i64 x, .int .i64 y]) (.agg #[.int .i64 x', .int .i64 y'])).run Tryd.prog w = .ok (.bool (if x = x' then (if y = y' then true else false) else false)) w := by
  have u3 := Tryd.underlying3
  have a3 := Tryd.isAgg3
  have z3 := Tryd.sizeOf3
  have hS : Tryd.prog.underlying 28 = some (.struct (Tryd.prog.fieldsOf 28)) := by kernel_rfl
  have hp : Tryd.prog.stoodInHeld 28 = false := by kernel_rfl
  rw [run_eql_struct, show (10000 : Nat) = 9999 + 1 from rfl, run_equalIn_agg w 9999 28 _ _ hS hp]
  simp only [Program.fieldsOf, Tryd.underlying28]
  by_cases h1 : x = x'
  · by_cases h2 : y = y'
    · subst h1; subst h2
      rw [if_pos rfl, if_pos rfl]
      go_simp
    · rw [if_pos h1, if_neg h2]
      subst h1
      have e1 : (y == y') = false := by simpa using h2
      go_simp
  · rw [if_neg h1]
    have e1 : (x == x') = false := by simpa using h1
    go_simp
end Go.Proofs.YtacpblhajoblmaaDoor.LawMini
