/- Maps by ints in memory of the call's own, whatever values they hold: what stands at each key; no condition but those written in each. -/
import Derived.Test.YtnabnghjejncpaaGreatRows
import Derived.WalkKit
import Derived.WalkSmall
import Derived.Maps.Own
import Derived.Maps.OwnOps
import Derived.Maps.Views
import Derived.Maps.RangeWalk
import Derived.Maps.AppendAt
import Derived.Test.YtnabnghjejncpaaGreatListKit
import Derived.Test.YtnabnghjejncpaaGreatHoldKit
namespace Go.Proofs.YtnabnghjejncpaaGreat.MapKit
set_option linter.unusedVariables false
set_option linter.unusedSimpArgs false
open Go.RowKit ListKit HoldKit Go.Maps

/-- An element as it is. -/
def RV (v : Value) : Option (DataW Value × List MemPlace) := some (.held v, [])
/-- A key. -/
def ky (t : Int) : Lit := .int .i64 t
def wf (t : Int) : Prop := (Lit.int .i64 t).wf = true
theorem wf_of {t : Int} (h1 : -9223372036854775808 ≤ t) (h2 : t ≤ 9223372036854775807) : wf t := by
  unfold wf
  exact WalkArith.wf_i64 (by omega)
/-- Block b is a map by ints that holds V t at each key t of S, and nothing else; z is what a key that isn't there gives. -/
def IM (P : Program) (K : TypeId) (w : World) (b n : Nat) (z : Value) (V : Int → Value) (S : Int → Bool) : Prop := ∃ D : DataW Value, w.ownsMap P K RV b n D ∧ ∀ t, wf t → D.atKey (ky t) (.held z) = .held (V t) ∧ Maps.has D (ky t) = S t

section
variable {P : Program} {K : TypeId} {w : World} {b n : Nat} {z : Value} {V : Int → Value} {S : Int → Bool}
theorem is_map {D : DataW Value} (h : w.ownsMap P K RV b n D) : IsMap D := by
  obtain ⟨es, clock, _, _, _, rfl⟩ := h
  exact ⟨_, rfl⟩
theorem IM.made (w : World) (P : Program) (K : TypeId) (z : Value) : IM P K (w.alloc (.map #[] 0)) w.heap.size 0 z (fun _ => z) (fun _ => false) :=
  ⟨_, World.ownsMap_made w P K RV, fun t _ => ⟨by rw [atKey_of_not_has (by rfl)], by rfl⟩⟩
theorem IM.mono (h : IM P K w b n z V S) {n' : Nat} (hn : n ≤ n') : IM P K w b n' z V S := by
  obtain ⟨D, h1, h2⟩ := h
  exact ⟨D, h1.mono hn, h2⟩
theorem IM.lt (h : IM P K w b n z V S) : b < w.heap.size := by
  obtain ⟨D, h1, _⟩ := h
  exact h1.lt
theorem IM.kept {w' : World} {r : Option Nat} (h : IM P K w b n z V S) (hg : w.grownBy w' r) (hne : some b ≠ r) : IM P K w' b n z V S := by
  obtain ⟨D, h1, h2⟩ := h
  exact ⟨D, h1.kept hg hne, h2⟩
theorem grown_below {w w' : World} (h : Below w.heap.size w w') : w.grownBy w' none := ⟨h.os, h.tape, h.output, h.size, fun k hk _ => h.block k hk⟩
theorem IM.below {w' : World} (h : IM P K w b n z V S) (hb : Below w.heap.size w w') : IM P K w' b n z V S := h.kept (grown_below hb) (by simp)
theorem IM.set {p : Addr} (h : IM P K w b n z V S) (hp : p.block ≠ b) (u : Value) : IM P K (w.setCell p u) b n z V S :=
  h.kept (r := some p.block) ⟨rfl, rfl, rfl, by simp [World.setCell], fun k _ hk => Below.heap_setCell _ _ _ _ (fun e => hk (by rw [e]))⟩ (fun e => hp (by injection e with e; exact e.symm))
theorem IM.cong {V2 : Int → Value} {S2 : Int → Bool} (h : IM P K w b n z V S) (e : ∀ t, wf t → V t = V2 t ∧ S t = S2 t) : IM P K w b n z V2 S2 := by
  obtain ⟨D, h1, h2⟩ := h
  exact ⟨D, h1, fun t ht => by rw [(h2 t ht).1, (h2 t ht).2, (e t ht).1, (e t ht).2]; exact ⟨rfl, rfl⟩⟩
/-- What isn't there gives z. -/
theorem IM.none (h : IM P K w b n z V S) {t : Int} (ht : wf t) (hs : S t = false) : V t = z := by
  obtain ⟨D, _, h2⟩ := h
  have h3 := (h2 t ht).1
  rw [atKey_of_not_has (by rw [(h2 t ht).2]; exact hs)] at h3
  injection h3 with h3
  exact h3.symm
theorem IM.look {m e : TypeId} (h : IM P K w b n z V S) (hk : P.underlying K = some (.int .i64)) (hm : P.underlying m = some (.map K e)) (hz : (zeroValue e).run P w = .ok z w) {t : Int} (ht : wf t) :
    (Instr.lookup m (.map (some b)) (.int .i64 t) false).run P w = .ok (V t) w := by
  obtain ⟨D, h1, h2⟩ := h
  obtain ⟨v, ps, hrun, hv⟩ := h1.lookup (int_keyed hk) hm hz (zd := .held z) (zp := []) rfl (keyOf_int_mk hk ht)
  have h3 : DataW.held v = D.atKey (ky t) (.held z) := by
    have h4 : RV v = some (D.atKey (ky t) (.held z), ps) := hv
    unfold RV at h4
    injection h4 with h4
    injection h4
  rw [(h2 t ht).1] at h3
  injection h3 with h3
  rw [hrun, h3]
theorem IM.put {m e : TypeId} (h : IM P K w b n z V S) (hk : P.underlying K = some (.int .i64)) (hm : P.underlying m = some (.map K e)) (hn : n < maxLen) {t : Int} (ht : wf t) (v : Value) :
    ∃ w', (Instr.mapUpdate m (.map (some b)) (.int .i64 t) v).run P w = .ok () w' ∧ IM P K w' b (n + 1) z (fun x => if x = t then v else V x) (fun x => decide (x = t) || S x) ∧ w.grownBy w' (some b) := by
  obtain ⟨D, h1, h2⟩ := h
  obtain ⟨w', hrun, h3, h4⟩ := h1.update (int_keyed hk) hm hn (keyOf_int_mk hk ht) (d := .held v) (ps := []) (val := v) rfl
  refine ⟨w', hrun, ⟨_, h3, fun x hx => ?_⟩, h4⟩
  by_cases e1 : x = t
  · subst e1
    have hkl : WideAt.IsKeyLit (ky x) := (int_keyed hk).key (keyOf_int_mk hk ht)
    refine ⟨?_, ?_⟩
    · dsimp only
      rw [if_pos rfl]
      exact atKey_put_same (is_map h1) hkl _ _
    · dsimp only
      rw [decide_eq_true rfl, Bool.true_or]
      exact has_put_same (is_map h1) hkl _
  · have hne : ky x ≠ ky t := fun e2 => e1 (by injection e2)
    refine ⟨?_, ?_⟩
    · dsimp only
      rw [if_neg e1, ← (h2 x hx).1]
      exact atKey_put_other hne _ _
    · dsimp only
      rw [decide_eq_false e1, Bool.false_or, ← (h2 x hx).2]
      exact has_put_other hne _
end

/-- .. at the operation of a walk. -/
theorem wpList_put {P : Program} (w : World) {ops : Array Oper} {rest : List Oper} {o : Oper} {a : Act} {Q : Exit → Act → World → Prop}
    (hg : o.guard = none) (m x v : Operand) (t : TypeId) (hop : o.op = Op.mapUpdate t m x v) (v1 v2 v3 : Value) (w' : World) (h1 : a.eval m = v1) (h2 : a.eval x = v2) (h3 : a.eval v = v3) (hr : (Instr.mapUpdate t v1 v2 v3).run P w = .ok () w')
    (hK : wpList P ops Q rest (a.put o.dst undef) w') : wpList P ops Q (o :: rest) a w := by
  refine wpList_plain hg fun K' hK' => ?_
  unfold Oper.wp
  simp [execOp, hop, h1, h2, h3, hr, Result.andThen]
  exact hK' _ _ hK
theorem key_same (t x : Int) (ht : wf t) (hx : wf x) : (ky t).sameKey (ky x) = decide (t = x) := by
  by_cases e : t = x
  · subst e
    rw [decide_eq_true rfl]
    simp [ky, Lit.sameKey]
  · rw [decide_eq_false e]
    exact sameKey_ne (fun e2 => e (by injection e2))
end Go.Proofs.YtnabnghjejncpaaGreat.MapKit
