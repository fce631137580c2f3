/- Ledgers that were drawn stay right, their requests small; what a grant to request 777 and its release come to on such a one; no condition but those written in each. -/
import Derived.Test.YtacpblhajoblmaaDoorRows
import Derived.WalkKit
import Derived.WalkSmall
import Derived.Test.YtacpblhajoblmaaDoorListKit
import Derived.Test.YtacpblhajoblmaaDoorSlotKit
import Derived.Test.YtacpblhajoblmaaDoorSlotOks
import Derived.Test.YtacpblhajoblmaaDoorLedFind
import Derived.Test.YtacpblhajoblmaaDoorLedCount
import Derived.Test.YtacpblhajoblmaaDoorLedOk
import Derived.Test.YtacpblhajoblmaaDoorLedPermit
import Derived.Test.YtacpblhajoblmaaDoorLedCopy
import Derived.Test.YtacpblhajoblmaaDoorLedGrant
import Derived.Test.YtacpblhajoblmaaDoorLedMath
import Derived.Test.YtacpblhajoblmaaDoorLedHeld
import Derived.Test.YtacpblhajoblmaaDoorLedRel
namespace Go.Proofs.YtacpblhajoblmaaDoor.LedInv
open Go.RowKit ListKit SlotKit SlotOks LedFind LedCount LedOk LedPermit LedCopy LedGrant LedMath LedHeld LedRel
set_option linter.unusedVariables false

theorem slot_gen {s : Slot} (h : slotOk s = true) : 0 ≤ s.x0 ∧ s.x0 ≤ 1000000 := by
  obtain ⟨x0, x1, x2, x3, x4⟩ := s
  cases x1 with
  | true => simp [slotOk, okUsed] at h; exact ⟨h.1, h.2.1⟩
  | false => simp [slotOk, okFree] at h; exact ⟨h.1, h.2.1⟩
theorem back_ok {y : Int} (h0 : 0 ≤ y) (h1 : y ≤ 1000000) : slotOk (back y) = true := by
  unfold back
  simp [slotOk, okFree]
  split <;> omega
theorem rel_ok {L : List Slot} {k : Nat} (hk : k < L.length) (ho : ledOk L) : ledOk (L.set k (back L[k].x0)) := by
  obtain ⟨g0, g1⟩ := slot_gen (ho.2 k hk).1
  refine ⟨by simpa using ho.1, fun i hi => ?_⟩
  have hi2 : i < L.length := by simpa using hi
  unfold okAt
  by_cases e : i = k
  · subst e
    rw [List.getElem_set_self]
    exact ⟨back_ok g0 g1, fun h => by cases h⟩
  · rw [List.getElem_set_ne (fun h => e h.symm)]
    refine ⟨(ho.2 i hi2).1, fun hx j hj => ?_⟩
    by_cases e2 : j = k
    · subst e2
      rw [List.getElem_set_self]
      rfl
    · rw [List.getElem_set_ne (fun h => e2 h.symm)]
      exact (ho.2 i hi2).2 hx j hj

/-- A ledger as it is drawn: right, of at most m slots, of small requests. -/
def Good (m : Nat) (L : List Slot) : Prop := ledOk L ∧ L.length ≤ m ∧ ∀ (j : Nat) (h : j < L.length), L[j].x2 ≤ 20
theorem good_nil : Good 0 [] := ⟨⟨by simp, fun i h => by simp at h⟩, by simp, fun j h => by simp at h⟩
theorem Good.up {m n : Nat} {L : List Slot} (h : Good m L) (hn : m ≤ n) : Good n L := ⟨h.1, Nat.le_trans h.2.1 hn, h.2.2⟩
theorem good_grant {m : Nat} {L L2 : List Slot} {req cl now P G : Int} (h : Good m L) (hg : Gr L req cl now L2 P G true) (hr : req ≤ 20) : Good (m + 1) L2 := by
  rcases hg with ⟨h1, _⟩ | ⟨_, hc, k, hk, hf, _, _, _, rfl⟩ | ⟨_, hc, _, h6, _, _, rfl⟩
  · cases h1
  · refine ⟨(set_ok hk hf h.1).2 hc, by have := h.2.1; simp; omega, fun j hj => ?_⟩
    by_cases e : j = k
    · subst e
      rw [List.getElem_set_self]
      exact hr
    · rw [List.getElem_set_ne (fun h => e h.symm)]
      exact h.2.2 j (by simpa using hj)
  · refine ⟨(app_ok h.1).2 ⟨hc, h6⟩, by have := h.2.1; simp; omega, fun j hj => ?_⟩
    by_cases e : j < L.length
    · rw [List.getElem_append_left e]
      exact h.2.2 j e
    · obtain rfl : j = L.length := by simp at hj; omega
      simp
      exact hr
theorem good_rel {m : Nat} {L L2 : List Slot} {x y : Int} {s : Slot} {B : Bool} (h : Good m L) (hr : Rl L x y L2 s B) : Good m L2 := by
  rcases hr with ⟨_, h1, _⟩ | ⟨_, _, _, rfl, _⟩ | ⟨_, _, k, hk, _, h1, rfl, _, rfl⟩
  · exact absurd h.1 h1
  · exact h
  · refine ⟨rel_ok hk h.1, by simpa using h.2.1, fun j hj => ?_⟩
    by_cases e : j = k
    · subst e
      rw [List.getElem_set_self]
      show (0 : Int) ≤ 20
      omega
    · rw [List.getElem_set_ne (fun h => e h.symm)]
      exact h.2.2 j (by simpa using hj)

/-- A slot was put at k. -/
def Put (L L2 : List Slot) (k : Nat) (s : Slot) : Prop :=
  (∃ h : k < L.length, L[k].x1 = false ∧ L2 = L.set k s) ∨ (k = L.length ∧ L2 = L ++ [s])
theorem count_put {p : Slot → Bool} {L L2 : List Slot} {k : Nat} {s : Slot} (h : Put L L2 k s) (hs : p s = true) (hn : ∀ t : Slot, t.x1 = false → p t = false) : L2.countP p = L.countP p + 1 := by
  rcases h with ⟨hk, h1, rfl⟩ | ⟨_, rfl⟩
  · have := hn _ h1
    rw [List.countP_set hk]
    simp [this, hs]
  · rw [List.countP_append]
    simp [hs]
theorem put_at {L L2 : List Slot} {k : Nat} {s : Slot} (h : Put L L2 k s) : ∃ hk : k < L2.length, L2[k] = s := by
  rcases h with ⟨hk, _, rfl⟩ | ⟨rfl, rfl⟩
  · exact ⟨by simpa using hk, by simp⟩
  · exact ⟨by simp, by simp⟩
theorem put_else {L L2 : List Slot} {k : Nat} {s : Slot} (h : Put L L2 k s) {j : Nat} (hj : j < L.length) (hu : L[j].x1 = true) : j ≠ k ∧ ∃ h2 : j < L2.length, L2[j] = L[j] := by
  rcases h with ⟨hk, h1, rfl⟩ | ⟨rfl, rfl⟩
  · have e : j ≠ k := fun e => by subst e; rw [h1] at hu; cases hu
    exact ⟨e, by simpa using hj, List.getElem_set_ne (fun h => e h.symm) _⟩
  · exact ⟨by omega, by simp; omega, List.getElem_append_left hj⟩

/-- The grant to request 777. -/
def new777 (G : Int) : Slot := ⟨G, true, 777, 3, 40⟩
theorem can_777 {m : Nat} {L : List Slot} (h : Good m L) : can L 777 3 40 := ⟨h.1, by decide, fun j hj => not_of fun hu => by have := h.2.2 j hj; have := hu.2; omega⟩
theorem grant_777 {L L2 : List Slot} {P G : Int} {B : Bool} (h : Good 9 L) (hg : Gr L 777 3 40 L2 P G B) : B = true ∧ ledOk L2 ∧ ∃ k : Nat, P = (k : Int) ∧ Put L L2 k (new777 G) := by
  have hc := can_777 h
  have hlen := h.2.1
  rcases hg with ⟨_, _, _, _, h1⟩ | ⟨hb, _, k, hk, hf, _, hp, hG, rfl⟩ | ⟨hb, _, _, h6, hp, hG, rfl⟩
  · have := (h1 hc).2; omega
  · refine ⟨hb, (set_ok hk hf h.1).2 hc, k, hp, Or.inl ⟨hk, (free_ok hf (h.1.2 k hk).1).1, ?_⟩⟩
    rw [hG]; rfl
  · refine ⟨hb, (app_ok h.1).2 ⟨hc, h6⟩, L.length, hp, Or.inr ⟨rfl, ?_⟩⟩
    rw [hG]; rfl
/-- A ledger with the grant at k. -/
structure Got (L L2 : List Slot) (k : Nat) (G : Int) : Prop where
  ok : ledOk L2
  put : Put L L2 k (new777 G)
theorem got_again {L L2 L5 : List Slot} {k : Nat} {G P5 G5 : Int} {B5 : Bool} (h : Got L L2 k G) (hg : Gr L2 777 3 40 L5 P5 G5 B5) : B5 = false := by
  obtain ⟨hk, e⟩ := put_at h.put
  rcases hg with ⟨hb, _⟩ | ⟨_, hc, _⟩ | ⟨_, hc, _⟩
  · exact hb
  all_goals
    have := hc.2.2 k hk
    rw [e] at this
    cases this
theorem got_used {L L2 : List Slot} {k : Nat} {G : Int} (h : Got L L2 k G) : cnt isUsed L2 L2.length = cnt isUsed L L.length + 1 := by
  rw [cnt_all, cnt_all]
  exact count_put h.put rfl fun t ht => ht
theorem got_by {L L2 : List Slot} {k : Nat} {G : Int} (h : Got L L2 k G) : cnt (isBy 3) L2 L2.length = cnt (isBy 3) L L.length + 1 := by
  rw [cnt_all, cnt_all]
  exact count_put h.put rfl fun t ht => by simp [isBy, ht]
/-- One slot a request. -/
theorem one_req {L : List Slot} {i j : Nat} {r : Int} (ho : ledOk L) (hi : i < L.length) (hj : j < L.length) (h1 : isOf r L[i] = true) (h2 : isOf r L[j] = true) : i = j := by
  have e1 := isOf_iff.1 h1
  have e2 := isOf_iff.1 h2
  rcases Nat.lt_trichotomy i j with h | h | h
  · have := (ho.2 j hj).2 e2.1 i h
    rw [e2.2, h1] at this
    cases this
  · exact h
  · have := (ho.2 i hi).2 e1.1 j h
    rw [e1.2, h2] at this
    cases this
theorem got_perm {L L2 : List Slot} {k j : Nat} {G P6 G6 : Int} {B6 : Bool} (h : Got L L2 k G) (hj : j < L.length) (hu : L[j].x1 = true) (hp : Perm L2 L[j].x2 P6 G6 B6) : B6 = true ∧ P6 ≠ (k : Int) := by
  obtain ⟨hne, h2, e⟩ := put_else h.put hj hu
  have hof : isOf L[j].x2 L2[j] = true := isOf_iff.2 ⟨by rw [e]; exact hu, by rw [e]⟩
  rcases hp with ⟨_, _, _, h4⟩ | ⟨_, _, _, _, h5⟩ | ⟨hb, _, i, hP, hi, h3, _⟩
  · exact absurd h.ok h4
  · rw [h5 j h2] at hof; cases hof
  · have := one_req h.ok hi h2 h3 hof
    exact ⟨hb, by omega⟩
theorem got_777 {L L2 : List Slot} {k : Nat} {G P6 G6 : Int} {B6 : Bool} (h : Got L L2 k G) (hp : Perm L2 777 P6 G6 B6) : B6 = true ∧ P6 = (k : Int) ∧ G6 = G := by
  obtain ⟨hk, e⟩ := put_at h.put
  have hof : isOf 777 L2[k] = true := by rw [e]; rfl
  rcases hp with ⟨_, _, _, h4⟩ | ⟨_, _, _, _, h5⟩ | ⟨hb, _, i, hP, hi, h3, hG, _⟩
  · exact absurd h.ok h4
  · rw [h5 k hk] at hof; cases hof
  · obtain rfl := one_req h.ok hi hk h3 hof
    rw [e] at hG
    exact ⟨hb, hP, hG⟩
theorem got_rel {L L2 L3 : List Slot} {k : Nat} {G : Int} {s : Slot} {B3 : Bool} (h : Got L L2 k G) (hr : Rl L2 (k : Int) G L3 s B3) : B3 = true ∧ s = new777 G ∧ ledOk L3 ∧ ∃ hk : k < L2.length, L3 = L2.set k (back G) := by
  obtain ⟨hk, e⟩ := put_at h.put
  rcases hr with ⟨_, h4, _⟩ | ⟨_, _, hg, _⟩ | ⟨hb, _, i, hi, hx, _, hG, hs, hL⟩
  · exact absurd h.ok h4
  · exact absurd ⟨by rw [e]; rfl, by rw [e]; rfl⟩ (hg k hk rfl)
  · obtain rfl : i = k := by omega
    refine ⟨hb, by rw [hs, e], ?_, hk, hL⟩
    rw [hL, ← hG]
    exact rel_ok hk h.ok
theorem rel_used {L L2 L3 : List Slot} {k : Nat} {G : Int} (h : Got L L2 k G) (hk : k < L2.length) (hL : L3 = L2.set k (back G)) : cnt isUsed L3 L3.length = cnt isUsed L L.length := by
  obtain ⟨_, e⟩ := put_at h.put
  have h1 := got_used h
  rw [cnt_all, cnt_all] at *
  subst hL
  rw [List.countP_set hk, e]
  have : isUsed (new777 G) = true := rfl
  have h3 : isUsed (back G) = false := rfl
  simp [this, h3]
  omega
theorem rel_twice {L2 L3 L4 : List Slot} {k : Nat} {G : Int} {s : Slot} {B4 : Bool} (hk : k < L2.length) (hL : L3 = L2.set k (back G)) (ho : ledOk L3) (hr : Rl L3 (k : Int) G L4 s B4) : B4 = false ∧ L4 = L3 := by
  rcases hr with ⟨_, h4, _⟩ | ⟨hb, _, _, hL4, _⟩ | ⟨_, _, i, hi, hx, h1, _⟩
  · exact absurd ho h4
  · exact ⟨hb, hL4⟩
  · obtain rfl : i = k := by omega
    subst hL
    rw [List.getElem_set_self] at h1
    cases h1
end Go.Proofs.YtacpblhajoblmaaDoor.LedInv
