/- Variables of many cells, read and written at once; no condition but those written in each. -/
import Derived.Test.YtnabnghjejncpaaGreatRows
import Derived.Test.YtnabnghjejncpaaGreatListKit
import Derived.Test.YtnabnghjejncpaaGreatHoldKit
import Derived.WalkKit
import Derived.WalkSmall
import Derived.Deep.MidRow
import Derived.BigFrame
import Derived.BigQuiet
namespace Go.Proofs.YtnabnghjejncpaaGreat.BigBox
open Go.RowKit ListKit HoldKit

theorem range_of_box {w : World} {N : Nat} {cs : Array Value} {t : TypeId} (h : boxB w N cs t) (o : Nat) (sub : List Value) (hs : (cs.toList.drop o).take sub.length = sub) : w.rangeAt N o sub := fun j v hv => by
  rw [h.cell (o + j), ← Array.getElem?_toList]
  have hj : j < sub.length := (List.getElem?_eq_some_iff.1 hv).1
  rw [← hs, List.getElem?_take, if_pos hj, List.getElem?_drop] at hv
  exact hv
theorem there_of_box {w : World} {N : Nat} {cs : Array Value} {t : TypeId} (h : boxB w N cs t) (o n : Nat) (hn : o + n ≤ cs.size) : w.there N o n := fun j hj => by
  refine ⟨?_, fzB h _⟩
  rw [h.cell (o + j), Array.getElem?_eq_getElem (by omega)]
  rfl
/-- A store of cells one behind the other, seen as one. -/
theorem setCells_keep {R : World → Prop} (b : Nat) (hR : ∀ w o v, R w → R (w.setCell ⟨b, o, none⟩ v)) : ∀ (vs : List Value) (o : Nat) (w : World), R w → R (w.setCells b o vs)
  | [], _, _, h => h
  | v :: r, o, w, h => setCells_keep b hR r (o + 1) (w.setCell ⟨b, o, none⟩ v) (hR w o v h)
theorem boxB.put {N : Nat} {t : TypeId} : ∀ (vs : List Value) (o : Nat) (w : World) (cs : Array Value), boxB w N cs t → o + vs.length ≤ cs.size → boxB (w.setCells N o vs) N (cs.toList.take o ++ (vs ++ cs.toList.drop (o + vs.length))).toArray t
  | [], o, w, cs, h, _ => by
    have e : (cs.toList.take o ++ ([] ++ cs.toList.drop (o + ([] : List Value).length))).toArray = cs := by simp
    rw [e]
    exact h
  | v :: r, o, w, cs, h, hl => by
    have hl2 : o + (r.length + 1) ≤ cs.size := hl
    have ih := boxB.put r (o + 1) (w.setCell ⟨N, o, none⟩ v) (cs.setIfInBounds o v) (h.set o v) (by simp; omega)
    have e : (cs.setIfInBounds o v).toList.take (o + 1) ++ (r ++ (cs.setIfInBounds o v).toList.drop (o + 1 + r.length)) = cs.toList.take o ++ (v :: r ++ cs.toList.drop (o + (v :: r).length)) := by
      have ho : o < cs.toList.length := by simp; omega
      rw [Array.toList_setIfInBounds, List.set_eq_take_append_cons_drop, if_pos ho]
      have h1 : (cs.toList.take o).length = o := by rw [List.length_take]; omega
      rw [List.take_append, List.drop_append, h1]
      have e2 : o + 1 - o = 1 := by omega
      have e3 : o + 1 + r.length - o = r.length + 1 := by omega
      have e4 : (cs.toList.take o).take (o + 1) = cs.toList.take o := by rw [List.take_take]; congr 1; omega
      have e5 : (cs.toList.take o).drop (o + 1 + r.length) = [] := List.drop_eq_nil_of_le (by omega)
      rw [e2, e3, e4, e5]
      simp [Nat.add_assoc, Nat.add_comm 1]
    rw [e] at ih
    exact ih
theorem boxB.putElse {w : World} {N M : Nat} {cs : Array Value} {t : TypeId} (h : boxB w N cs t) (hne : N ≠ M) (o : Nat) (vs : List Value) : boxB (w.setCells M o vs) N cs t := setCells_keep (R := fun w => boxB w N cs t) M (fun _ _ v h => h.else hne v) vs o w h
theorem Below.put {B M : Nat} {a w : World} (h : Below B a w) (hM : B ≤ M) (o : Nat) (vs : List Value) : Below B a (w.setCells M o vs) := setCells_keep (R := fun w => Below B a w) M (fun _ _ v h => h.setCell hM v) vs o w h
theorem Holds.put {w : World} {lo M : Nat} {l : List It} (h : Holds w lo l) (hM : M < lo) (o : Nat) (vs : List Value) : Holds (w.setCells M o vs) lo l := setCells_keep (R := fun w => Holds w lo l) M (fun _ _ v h => h.set hM v) vs o w h
theorem size_put {w : World} (M o : Nat) (vs : List Value) : (w.setCells M o vs).heap.size = w.heap.size := setCells_keep (R := fun v => v.heap.size = w.heap.size) M (fun v o u h => by rw [World.size_setCell]; exact h) vs o w rfl
/-- The whole of a variable is written anew. -/
theorem boxB.putAll {w : World} {N : Nat} {cs : Array Value} {t : TypeId} (h : boxB w N cs t) (vs : List Value) (hl : vs.length = cs.size) : boxB (w.setCells N 0 vs) N vs.toArray t := by
  have h9 := boxB.put vs 0 w cs h (by omega)
  have e : (cs.toList.take 0 ++ (vs ++ cs.toList.drop (0 + vs.length))).toArray = vs.toArray := by
    rw [List.drop_eq_nil_of_le (by simp; omega)]; simp
  rw [e] at h9
  exact h9
/-- The operation 'load' of a whole struct or array, where it is guarded and wanted. -/
theorem wpList_load_want {P : Program} {ops : Array Oper} {rest : List Oper} {op : Oper} {a : Act} {w : World} {Q : Exit → Act → World → Prop} (hw : Region.wanted op (yielded ops a.tmps) = true) (ty : TypeId) (x : Operand) (ho : op.op = .load ty x)
    (b o : Nat) (hx : a.eval x = .pointer (some ⟨b, o, none⟩)) (cs : List Value) (d : TypeDesc) (hc : w.rangeAt b o cs) (hu : P.underlying ty = some d) (hd : d.isRow = true) (hi : (P.info? ty).map (·.size) = some cs.length)
    (h : wpList P ops Q rest (a.put op.dst (.agg cs.toArray)) w) : wpList P ops Q (op :: rest) a w :=
  BigFrame.wpList_want hw fun _ hK => wp_load_mid ty x ho b o hx cs d hc hu hd hi (hK _ _ h)
/-- The operation 'load' of a whole struct or array in a region whose operations only read: it lies so in every world of the class. -/
theorem wpQuiet_load_mid {P : Program} {ops : Array Oper} {C : World → Prop} {Q : Act → Prop} {a : Act} {o : Oper} {rest : List Oper} (hw : Region.wanted o (yielded ops a.tmps) = true) (ty : TypeId) (x : Operand) (ho : o.op = .load ty x)
    (b off : Nat) (hx : a.eval x = .pointer (some ⟨b, off, none⟩)) (cs : List Value) (d : TypeDesc) (hc : ∀ w, C w → w.rangeAt b off cs) (hu : P.underlying ty = some d) (hd : d.isRow = true) (hi : (P.info? ty).map (·.size) = some cs.length)
    (h : wpQuiet P ops C Q rest (a.put o.dst (.agg cs.toArray))) : wpQuiet P ops C Q (o :: rest) a :=
  BigFrame.wpQuiet_want hw fun K hK => ⟨_, fun w hW => by
    unfold Oper.quietAt execOp
    simp only [ho, hx, Instr.loadAt, Instr.sureAddr, Sem.run_bind, Sem.run_pure, Result.andThen_ok, run_loadVar_mid w b off ty cs d (hc w hW) hu hd hi]
    exact ⟨rfl, rfl⟩, hK _ h⟩
/-- The operation 'store' of a whole struct or array. -/
theorem wpList_store_list {P : Program} {ops : Array Oper} {rest : List Oper} {op : Oper} {a : Act} {w : World} {Q : Exit → Act → World → Prop} (hgd : op.guard = none) (ty : TypeId) (x y : Operand) (ho : op.op = .store ty x y)
    (b o : Nat) (vs : List Value) (hx : a.eval x = .pointer (some ⟨b, o, none⟩)) (hy : a.eval y = .agg vs.toArray) (ht : w.there b o vs.length) (hi : (P.info? ty).map (·.size) = some vs.length) (h1 : ∀ v ∈ vs, v.oneCell' = true)
    (h : wpList P ops Q rest (a.put op.dst undef) (w.setCells b o vs)) : wpList P ops Q (op :: rest) a w :=
  wpList_store_mid hgd ty x y ho b o vs.toArray hx hy (by simpa using ht) (by simpa using hi) (all_oneCell_toArray h1) h
theorem setCells_new {t : TypeId} : ∀ (vs : List Value) (o : Nat) (w : World) (c : Array Value), ∃ c', (w.alloc (.cells c t)).setCells w.heap.size o vs = w.alloc (.cells c' t)
  | [], _, _, c => ⟨c, rfl⟩
  | v :: r, o, w, c => by
    rw [World.setCells, World.setCell_alloc_new c t o v]
    exact setCells_new r (o + 1) w _
theorem put_new {w : World} {c : Array Value} {t : TypeId} (vs : List Value) (hl : vs.length = c.size) : (w.alloc (.cells c t)).setCells w.heap.size 0 vs = w.alloc (.cells vs.toArray t) := by
  obtain ⟨c', h⟩ := setCells_new (t := t) vs 0 w c
  have h1 := boxB.putAll (boxB.new w c t) vs hl
  rw [h] at h1
  have h2 := (boxB.new w c' t).symm.trans h1
  injection h2 with h2
  injection h2 with h2
  rw [h, h2]
/-- The operation 'store' of a whole struct or array into a variable that was made last. -/
theorem wpList_store_new {P : Program} {ops : Array Oper} {rest : List Oper} {op : Oper} {a : Act} {w0 : World} {c : Array Value} {t : TypeId} {Q : Exit → Act → World → Prop} (hgd : op.guard = none) (ty : TypeId) (x y : Operand) (ho : op.op = .store ty x y)
    (vs : List Value) (hx : a.eval x = .pointer (some ⟨w0.heap.size, 0, none⟩)) (hy : a.eval y = .agg vs.toArray) (hl : vs.length = c.size) (hi : (P.info? ty).map (·.size) = some vs.length) (h1 : ∀ v ∈ vs, v.oneCell' = true)
    (h : wpList P ops Q rest (a.put op.dst undef) (w0.alloc (.cells vs.toArray t))) : wpList P ops Q (op :: rest) a (w0.alloc (.cells c t)) :=
  wpList_store_list hgd ty x y ho w0.heap.size 0 vs hx hy (there_of_box (boxB.new w0 c t) 0 vs.length (by omega)) hi h1 (by rw [put_new vs hl]; exact h)
theorem range_all {w : World} {N : Nat} {vs : List Value} {t : TypeId} (h : boxB w N vs.toArray t) : w.rangeAt N 0 vs := range_of_box h 0 vs (by simp)
theorem Cp.ansAll {w wd : World} {ca : Array Value} {ta : TypeId} {cz cs : Array Value} {t : TypeId} {l : List It} (h : Cp w wd ca ta cz cs t l) (vs : List Value) (hl : vs.length = cz.size) : Cp w (wd.setCells (w.heap.size + 1) 0 vs) ca ta vs.toArray cs t l :=
  ⟨boxB.putElse h.a (by omega) _ _, boxB.putAll h.z vs hl, boxB.putElse h.c (by omega) _ _, Below.put h.bel (Nat.le_add_right _ 1) _ _, by have := h.sz; rw [size_put]; exact this, Holds.put h.holds (by omega) _ _⟩
end Go.Proofs.YtnabnghjejncpaaGreat.BigBox
