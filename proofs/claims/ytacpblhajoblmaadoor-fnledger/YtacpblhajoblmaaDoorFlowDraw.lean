/- Permits in memory of the call's own; what stores and draws leave of memory, for regions that draw their order; no condition but those written in each. -/
import Derived.Test.YtacpblhajoblmaaDoorRows
import Derived.Test.YtacpblhajoblmaaDoorListKit
import Derived.Test.YtacpblhajoblmaaDoorSlotKit
import Derived.Test.YtacpblhajoblmaaDoorDrawKit
import Derived.WalkKit
import Derived.WalkSmall
import Derived.Laws.AppendOwn
namespace Go.Proofs.YtacpblhajoblmaaDoor.FlowDraw
open Go.RowKit ListKit SlotKit DrawKit

def cellsP (q : Int × Int) : List Value := [.int .i64 q.1, .int .i64 q.2]
def flatP (Ps : List (Int × Int)) : List Value := Ps.flatMap cellsP
theorem flatP_len (Ps : List (Int × Int)) : (flatP Ps).length = Ps.length * 2 := by
  induction Ps with
  | nil => rfl
  | cons q Ps ih => simp [flatP, cellsP] at *; omega
theorem flatP_app (Ps : List (Int × Int)) (q : Int × Int) : flatP (Ps ++ [q]) = flatP Ps ++ cellsP q := by simp [flatP]
theorem flatP_get (Ps : List (Int × Int)) (i : Nat) (h : i < Ps.length) (j : Nat) (hj : j < 2) : (flatP Ps)[i * 2 + j]? = (cellsP Ps[i])[j]? := by
  induction Ps generalizing i with
  | nil => simp at h
  | cons q Ps ih =>
    cases i with
    | zero =>
      show (cellsP q ++ flatP Ps)[0 * 2 + j]? = _
      rw [List.getElem?_append_left (by simp [cellsP]; omega)]
      simp
    | succ i =>
      show (cellsP q ++ flatP Ps)[(i + 1) * 2 + j]? = _
      rw [List.getElem?_append_right (by simp [cellsP]; omega), show (i + 1) * 2 + j - (cellsP q).length = i * 2 + j by simp [cellsP]; omega, ih i (by simpa using h)]
      simp
/-- Permits in memory of the call's own. -/
def OwnP (X : World) (B : Nat) (v : Value) (Ps : List (Int × Int)) : Prop := X.ownsRow B 28 2 v Ps.length (flatP Ps)
theorem OwnP.grown {X Y : World} {B g : Nat} {v : Value} {Ps : List (Int × Int)} (h : OwnP X B v Ps) (gr : X.grownBy Y (some g)) (hg : g < B) : OwnP Y B v Ps := by
  obtain ⟨h1, h2 | ⟨b, cap, cur, hv, hb, hh, hc, hm, hs, ht⟩⟩ := h
  · exact ⟨h1, Or.inl h2⟩
  · exact ⟨h1, Or.inr ⟨b, cap, cur, hv, hb, kept_draw hh (by omega) gr, hc, hm, hs, ht⟩⟩
theorem OwnP.set {X : World} {B : Nat} {v : Value} {Ps : List (Int × Int)} (h : OwnP X B v Ps) {p : Addr} (hp : p.block < B) (u : Value) : OwnP (X.setCell p u) B v Ps := by
  obtain ⟨h1, h2 | ⟨b, cap, cur, hv, hb, hh, hc, hm, hs, ht⟩⟩ := h
  · exact ⟨h1, Or.inl h2⟩
  · exact ⟨h1, Or.inr ⟨b, cap, cur, hv, hb, kept_set hh (by omega), hc, hm, hs, ht⟩⟩
theorem OwnP.at {X : World} {B : Nat} {v : Value} {Ps : List (Int × Int)} (h : OwnP X B v Ps) {i : Nat} (hi : i < Ps.length) : ∃ b cap, v = .slice (some ⟨b, 0, none⟩) Ps.length cap ∧ Ps.length ≤ cap ∧ X.cell? ⟨b, i * 2, none⟩ = some (.int .i64 Ps[i].1) ∧ X.cell? ⟨b, i * 2 + 1, none⟩ = some (.int .i64 Ps[i].2) := by
  obtain ⟨h1, ⟨_, h2⟩ | ⟨b, cap, cur, hv, hb, hh, hc, hm, hs, ht⟩⟩ := h
  · omega
  · have hg : ∀ j, j < 2 → X.cell? ⟨b, i * 2 + j, none⟩ = (cellsP Ps[i])[j]? := by
      intro j hj
      rw [cellB hh, ← flatP_get Ps i hi j hj, ← ht, List.getElem?_take_of_lt (by omega), Array.getElem?_toList]
    exact ⟨b, cap, hv, hc, by simpa [cellsP] using hg 0 (by omega), by simpa [cellsP] using hg 1 (by omega)⟩
theorem OwnP.shape {X : World} {B : Nat} {v : Value} {Ps : List (Int × Int)} (h : OwnP X B v Ps) : ∃ ap cp, v = .slice ap Ps.length cp := by
  obtain ⟨h1, ⟨hv, h2⟩ | ⟨b, cap, cur, hv, _⟩⟩ := h
  · exact ⟨none, 0, by rw [hv, h2]⟩
  · exact ⟨_, _, hv⟩
theorem own_lt {X : World} {B b n c : Nat} {Ps : List (Int × Int)} (h : OwnP X B (.slice (some ⟨b, 0, none⟩) n c) Ps) : b < X.heap.size := by
  obtain ⟨h1, ⟨hv, _⟩ | ⟨b', cap, cur, hv, hb, hh, _⟩⟩ := h
  · cases hv
  · injection hv with hv _ _
    injection hv with hv
    injection hv with hv _ _
    subst hv
    exact (Array.getElem?_eq_some_iff.1 hh).1
theorem gr_sets {W : World} {r : Option Nat} {n : Nat} (hn : W.heap.size ≤ n) (vs : List Value) : ∀ (X : World) (p : Nat), W.grownBy X r → W.grownBy (sets X n p vs) r := by
  induction vs with
  | nil => intro X p h; exact h
  | cons v vs ih => intro X p h; exact ih _ _ (gr_set h hn _)
theorem ready_sets {w : World} {g n cap m : Nat} {a : Option Addr} (hne : g ≠ m) (hp : w.heap.size ≤ m) (vs : List Value) : ∀ (X : World) (p : Nat), Ready w X g a n cap → Ready w (sets X m p vs) g a n cap := by
  induction vs with
  | nil => intro X p h; exact h
  | cons v vs ih => intro X p h; exact ih _ _ (h.set hne hp _)
theorem own_sets {w : World} {a : Option Addr} {L : List Slot} {m p : Nat} (h : Own 35 5 cells w a L) (hne : ∀ b, blkL a L = some b → b ≠ m) (vs : List Value) : Own 35 5 cells (sets w m p vs) a L := by
  cases L with
  | nil => exact Or.inl rfl
  | cons q L =>
    rcases h with h | ⟨g, o, rfl, hr⟩
    · simp at h
    · exact Or.inr ⟨g, o, rfl, hr.same (sets_else (hne g rfl) vs w p)⟩
theorem apart_of {X : World} {B : Nat} {aL : Option Addr} {L : List Slot} {pv : Value} {Ps : List (Int × Int)} (ho : Own 35 5 cells X aL L) (hp : OwnP X B pv Ps) : ∀ b, blkL aL L = some b → pv.ownBlock ≠ some b := by
  intro b hb e
  cases L with
  | nil => simp [blkL] at hb
  | cons q L =>
    rcases ho with h | ⟨g, o, rfl, cur, hg, _⟩
    · simp at h
    · simp [blkL] at hb
      subst hb
      obtain ⟨_, ⟨hv, _⟩ | ⟨b', cap, cur', hv, _, hh, _⟩⟩ := hp
      · subst hv
        cases e
      · subst hv
        have e2 : b' = g := Option.some.inj e
        rw [e2, hg] at hh
        simp at hh
/-- The world with a variable stored, where that has come up. -/
def Stored (b : Bool) (w : World) (n : Nat) (vs : List Value) : World := if b then sets w n 0 vs else w
theorem stored_no {b : Bool} {w : World} {n : Nat} {vs : List Value} (h : b = false) : Stored b w n vs = w := by subst h; rfl
theorem stored_yes {b : Bool} {w : World} {n : Nat} {vs : List Value} (h : b = true) : Stored b w n vs = sets w n 0 vs := by subst h; rfl
theorem no_way {b : Bool} {p : Prop} (h : b = false) (h' : b = true) : p := by rw [h] at h'; cases h'
end Go.Proofs.YtacpblhajoblmaaDoor.FlowDraw
