/- When a slot may be granted: the ledger with it is right just where the ledger is, the slot is, and no other is of its request; then what the program's Grant answers, at every ledger of at most 2 to the 20 slots. -/
import Derived.Test.YtacpblhajoblmaaDoorRows
import Derived.WalkKit
import Derived.WalkSmall
import Derived.BigQuiet
import Derived.Deep.RegionWith
import Derived.Test.YtacpblhajoblmaaDoorListKit
import Derived.Test.YtacpblhajoblmaaDoorSlotKit
import Derived.Test.YtacpblhajoblmaaDoorSlotOks
import Derived.Test.YtacpblhajoblmaaDoorLedFind
import Derived.Test.YtacpblhajoblmaaDoorLedOk
import Derived.Test.YtacpblhajoblmaaDoorLedPermit
import Derived.Test.YtacpblhajoblmaaDoorLedCopy
import Derived.Test.YtacpblhajoblmaaDoorLedGrant
namespace Go.Proofs.YtacpblhajoblmaaDoor.LedMath
open Go.RowKit ListKit SlotKit SlotOks LedFind LedOk LedPermit LedCopy LedGrant
set_option maxRecDepth 8000
set_option linter.unusedVariables false
set_option linter.unusedSimpArgs false

/-- A grant to this request is right. -/
def can (L : List Slot) (req cl now : Int) : Prop := ledOk L ∧ slotOk ⟨0, true, req, cl, now⟩ = true ∧ ∀ (j : Nat) (h : j < L.length), isOf req L[j] = false
/-- What a grant comes to. -/
def Gr (L : List Slot) (req cl now : Int) (L2 : List Slot) (P G : Int) (B : Bool) : Prop :=
  (B = false ∧ L2 = [] ∧ P = 0 ∧ G = 0 ∧ (can L req cl now → (∀ (j : Nat) (h : j < L.length), isFree L[j] = false) ∧ L.length = 60)) ∨
  (B = true ∧ can L req cl now ∧ ∃ k : Nat, ∃ h : k < L.length, isFree L[k] = true ∧ (∀ (j : Nat) (hj : j < k), isFree (L[j]'(by omega)) = false) ∧ P = (k : Int) ∧ G = L[k].x0 ∧ L2 = L.set k ⟨L[k].x0, true, req, cl, now⟩) ∨
  (B = true ∧ can L req cl now ∧ (∀ (j : Nat) (h : j < L.length), isFree L[j] = false) ∧ L.length ≠ 60 ∧ P = (L.length : Int) ∧ G = 0 ∧ L2 = L ++ [⟨0, true, req, cl, now⟩])
theorem gr_ex (L : List Slot) (req cl now : Int) : ∃ L2 P G B, Gr L req cl now L2 P G B := by
  classical
  by_cases h : can L req cl now
  · obtain ⟨r, ⟨_, h1⟩ | ⟨k, _, hk, h1, h2⟩⟩ := at_ex isFree L
    · by_cases h6 : L.length = 60
      · exact ⟨[], 0, 0, false, Or.inl ⟨rfl, rfl, rfl, rfl, fun _ => ⟨h1, h6⟩⟩⟩
      · exact ⟨_, _, _, true, Or.inr (Or.inr ⟨rfl, h, h1, h6, rfl, rfl, rfl⟩)⟩
    · exact ⟨_, _, _, true, Or.inr (Or.inl ⟨rfl, h, k, hk, h1, h2, rfl, rfl, rfl⟩)⟩
  · exact ⟨[], 0, 0, false, Or.inl ⟨rfl, rfl, rfl, rfl, fun h2 => absurd h2 h⟩⟩
theorem gr_len {L L2 : List Slot} {req cl now P G : Int} {B : Bool} (h : Gr L req cl now L2 P G B) : L2.length ≤ L.length + 1 := by
  rcases h with ⟨_, rfl, _⟩ | ⟨_, _, k, hk, _, _, _, _, rfl⟩ | ⟨_, _, _, _, _, _, rfl⟩ <;> simp

theorem used_ok {g req cl now : Int} : slotOk ⟨g, true, req, cl, now⟩ = true ↔ 0 ≤ g ∧ g ≤ 1000000 ∧ slotOk ⟨0, true, req, cl, now⟩ = true := by
  simp [slotOk, okUsed]
theorem free_ok {s : Slot} (h : isFree s = true) (h2 : slotOk s = true) : s.x1 = false ∧ 0 ≤ s.x0 ∧ s.x0 ≤ 1000000 := by
  obtain ⟨x0, x1, x2, x3, x4⟩ := s
  cases x1 with
  | true => simp [isFree] at h
  | false =>
    simp [slotOk, okFree] at h2
    exact ⟨rfl, h2.1, h2.2.1⟩
theorem isOf_iff {req : Int} {s : Slot} : isOf req s = true ↔ s.x1 = true ∧ s.x2 = req := by simp [isOf]
theorem not_of {req : Int} {s : Slot} (h : ¬ (s.x1 = true ∧ s.x2 = req)) : isOf req s = false := by
  cases e : isOf req s with
  | false => rfl
  | true => exact absurd (isOf_iff.1 e) h

theorem set_ok {L : List Slot} {req cl now : Int} {k : Nat} (hk : k < L.length) (hf : isFree L[k] = true) (ho : ledOk L) : ledOk (L.set k ⟨L[k].x0, true, req, cl, now⟩) ↔ can L req cl now := by
  obtain ⟨f1, f2, f3⟩ := free_ok hf (ho.2 k hk).1
  constructor
  · intro h
    have hkk := h.2 k (by simpa using hk)
    unfold okAt at hkk
    rw [List.getElem_set_self] at hkk
    refine ⟨ho, (used_ok.1 hkk.1).2.2, fun j hj => not_of fun hu => ?_⟩
    rcases Nat.lt_trichotomy j k with hjk | hjk | hjk
    · have h1 := hkk.2 rfl j hjk
      rw [List.getElem_set_ne (by omega)] at h1
      rw [isOf_iff.2 hu] at h1
      cases h1
    · subst hjk
      rw [f1] at hu
      cases hu.1
    · have h1 := h.2 j (by simpa using hj)
      unfold okAt at h1
      rw [List.getElem_set_ne (by omega)] at h1
      have h2 := h1.2 hu.1 k hjk
      rw [List.getElem_set_self] at h2
      rw [isOf_iff.2 ⟨rfl, hu.2.symm⟩] at h2
      cases h2
  · rintro ⟨_, hs, hno⟩
    refine ⟨by simpa using ho.1, fun i hi => ?_⟩
    have hi2 : i < L.length := by simpa using hi
    unfold okAt
    by_cases e : i = k
    · subst e
      rw [List.getElem_set_self]
      refine ⟨used_ok.2 ⟨f2, f3, hs⟩, fun _ j hj => ?_⟩
      rw [List.getElem_set_ne (by omega)]
      exact hno j (by omega)
    · rw [List.getElem_set_ne (fun h => e h.symm)]
      refine ⟨(ho.2 i hi2).1, fun hx j hj => ?_⟩
      by_cases e2 : j = k
      · subst e2
        rw [List.getElem_set_self]
        refine not_of fun hu => ?_
        have h1 := hno i hi2
        rw [isOf_iff.2 ⟨hx, hu.2.symm⟩] at h1
        cases h1
      · rw [List.getElem_set_ne (fun h => e2 h.symm)]
        exact (ho.2 i hi2).2 hx j hj
theorem app_ok {L : List Slot} {req cl now : Int} (ho : ledOk L) : ledOk (L ++ [⟨0, true, req, cl, now⟩]) ↔ can L req cl now ∧ L.length ≠ 60 := by
  constructor
  · intro h
    have h6 := h.1
    simp at h6
    have hkk := h.2 L.length (by simp)
    unfold okAt at hkk
    have e : (L ++ [(⟨0, true, req, cl, now⟩ : Slot)])[L.length]'(by simp) = ⟨0, true, req, cl, now⟩ := by simp
    rw [e] at hkk
    refine ⟨⟨ho, hkk.1, fun j hj => ?_⟩, by omega⟩
    have h1 := hkk.2 rfl j hj
    rw [List.getElem_append_left hj] at h1
    exact h1
  · rintro ⟨⟨_, hs, hno⟩, h6⟩
    refine ⟨by have := ho.1; simp; omega, fun i hi => ?_⟩
    unfold okAt
    by_cases e : i < L.length
    · rw [List.getElem_append_left e]
      refine ⟨(ho.2 i e).1, fun hx j hj => ?_⟩
      rw [List.getElem_append_left (by omega)]
      exact (ho.2 i e).2 hx j hj
    · obtain rfl : i = L.length := by simp at hi; omega
      have e : (L ++ [(⟨0, true, req, cl, now⟩ : Slot)])[L.length]'(by simp) = ⟨0, true, req, cl, now⟩ := by simp
      rw [e]
      refine ⟨hs, fun _ j hj => ?_⟩
      rw [List.getElem_append_left hj]
      exact hno j hj

theorem impl_grant (a : Option Addr) (c : Nat) (L L2 : List Slot) (req cl now P G : Int) (B : Bool) (w : World) (h : Own 35 5 cells w a L) (hl : (L.length : Int) ≤ 1048576) (hc : L.length ≤ c) (HG : Gr L req cl now L2 P G B) :
    Calls Tryd.prog 5 #[.agg #[.slice a L.length c], .int .i64 req, .int .i64 cl, .int .i64 now] w (GAns w L2 P G B) := by
  classical
  by_cases ho : ledOk L
  · obtain ⟨r, hr⟩ := at_ex isFree L
    rcases hr with ⟨rfl, h1⟩ | ⟨k, rfl, hk, h1, h2⟩
    · have HR : Hid (At isFree L (-1)) := Or.inl ⟨rfl, h1⟩
      have e1 : (L ++ [zero])[L.length]'(by simp) = zero := by simp
      have e2 : (L ++ [zero]).set L.length ⟨0, true, req, cl, now⟩ = L ++ [⟨0, true, req, cl, now⟩] := by simp
      obtain ⟨F, HF⟩ := flag (ledOk ((L ++ [zero]).set L.length ⟨0, true, req, cl, now⟩))
      refine (impl_grant_ok a c L (L ++ [zero]) L.length req cl now 0 F w h (by omega) hc ho (fun W hW => with_free_no a c L W hW (by omega) HR) (by simp) (by simp; omega) (by rw [e1]; exact rfl) HF).mono fun e w' hp => ?_
      have HF2 := HF.out
      rw [e2] at hp HF2
      rw [app_ok ho] at HF2
      rcases HG with ⟨rfl, rfl, rfl, rfl, h3⟩ | ⟨_, _, k, hk, h3, _⟩ | ⟨rfl, h3, _, h4, rfl, rfl, rfl⟩
      · exact hp.1 (by cases F with
          | false => rfl
          | true => exact absurd (h3 (HF2.1 rfl).1).2 (HF2.1 rfl).2)
      · rw [h1 k hk] at h3; cases h3
      · exact hp.2 (HF2.2 ⟨h3, h4⟩)
    · have HR : Hid (At isFree L (k : Int)) := Or.inr ⟨k, rfl, hk, h1, h2⟩
      obtain ⟨F, HF⟩ := flag (ledOk (L.set k ⟨L[k].x0, true, req, cl, now⟩))
      refine (impl_grant_ok a c L L k req cl now L[k].x0 F w h (by omega) hc ho (fun W hW => with_free_hit a c L W hW (by omega) k HR) hk (by omega) rfl HF).mono fun e w' hp => ?_
      have HF2 := HF.out
      rw [set_ok hk h1 ho] at HF2
      rcases HG with ⟨rfl, rfl, rfl, rfl, h3⟩ | ⟨rfl, h3, q, hq, h4, h5, rfl, rfl, rfl⟩ | ⟨_, _, h3, _⟩
      · exact hp.1 (by cases F with
          | false => rfl
          | true => have := (h3 (HF2.1 rfl)).1 k hk; rw [h1] at this; cases this)
      · have hqk : q = k := by
          rcases Nat.lt_trichotomy q k with hh | hh | hh
          · rw [h2 q hh] at h4; cases h4
          · exact hh
          · have := h5 k hh; rw [h1] at this; cases this
        subst hqk
        exact hp.2 (HF2.2 h3)
      · rw [h3 k hk] at h1; cases h1
  · rcases HG with ⟨rfl, rfl, rfl, rfl, _⟩ | ⟨_, h3, _⟩ | ⟨_, h3, _⟩
    · exact impl_grant_bad a c L req cl now w h (by omega) hc ho
    · exact absurd h3.1 ho
    · exact absurd h3.1 ho
end Go.Proofs.YtacpblhajoblmaaDoor.LedMath
