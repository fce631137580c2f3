/- Plain facts on queues: where a request of a number stands, when a queue is right; no condition but those written in each. -/
import Derived.Test.YtnejomfaojpicaaRows
import Derived.WalkKit
import Derived.Test.YtnejomfaojpicaaReqKit
import Derived.Test.YtnejomfaojpicaaReqOks
namespace Go.Proofs.Ytnejomfaojpicaa.QueMath
open ReqKit ReqOks

/-- The place of the first request of this number, -1 where there is none. -/
def AtId (L : List Req) (id r : Int) : Prop := (r = -1 ∧ ∀ (j : Nat) (h : j < L.length), L[j].x0 ≠ id) ∨ ∃ k : Nat, r = (k : Int) ∧ ∃ h : k < L.length, L[k].x0 = id ∧ ∀ (j : Nat) (hj : j < k), (L[j]'(by omega)).x0 ≠ id

theorem at_ex (L : List Req) (id : Int) : ∃ r, AtId L id r := by
  cases h : L.findIdx? (fun s => s.x0 == id) with
  | none =>
    refine ⟨-1, Or.inl ⟨rfl, fun j hj => ?_⟩⟩
    rw [List.findIdx?_eq_none_iff] at h
    simpa using h _ (List.getElem_mem hj)
  | some k =>
    rw [List.findIdx?_eq_some_iff_getElem] at h
    obtain ⟨hk, h1, h2⟩ := h
    exact ⟨(k : Int), Or.inr ⟨k, rfl, hk, by simpa using h1, fun j hj => by simpa using h2 j hj⟩⟩
theorem AtId.hit {L : List Req} {id r : Int} (h : AtId L id r) (k : Nat) (hk : k < L.length) (h1 : L[k].x0 = id) (h2 : ∀ (j : Nat) (h : j < L.length), j < k → L[j].x0 ≠ id) : r = (k : Int) := by
  rcases h with ⟨_, h3⟩ | ⟨q, rfl, hq, h3, h4⟩
  · exact absurd h1 (h3 k hk)
  · rcases Nat.lt_trichotomy q k with hlt | he | hgt
    · exact absurd h3 (h2 q hq hlt)
    · rw [he]
    · exact absurd h1 (h4 k hgt)
theorem AtId.no {L : List Req} {id r : Int} (h : AtId L id r) (h2 : ∀ (j : Nat) (h : j < L.length), L[j].x0 ≠ id) : r = -1 := by
  rcases h with ⟨h3, _⟩ | ⟨q, rfl, hq, h3, h4⟩
  · exact h3
  · exact absurd h3 (h2 q hq)
theorem AtId.self {L : List Req} {r : Int} (k : Nat) (hk : k < L.length) (h : AtId L L[k].x0 r) : 0 ≤ r ∧ r ≤ (k : Int) := by
  rcases h with ⟨_, h3⟩ | ⟨q, rfl, hq, h3, h4⟩
  · exact absurd rfl (h3 k hk)
  · refine ⟨by omega, ?_⟩
    by_cases hle : q ≤ k
    · omega
    · exact absurd rfl (h4 k (by omega))

/-- Request k may stand where it stands. -/
def okAt (L : List Req) (k : Nat) (h : k < L.length) : Prop := reqOk L[k] = true ∧ (∀ (j : Nat) (hj : j < k), (L[j]'(by omega)).x0 ≠ L[k].x0) ∧ ∀ (hk : 0 < k), (L[k - 1]'(by omega)).x4 ≤ L[k].x4
/-- A queue is right. -/
def QueOk (room : Int) (L : List Req) : Prop := 0 ≤ room ∧ room ≤ 50 ∧ (L.length : Int) ≤ room ∧ ∀ (k : Nat) (h : k < L.length), okAt L k h

/-- What is asked of a request's place in the model's words. -/
theorem at_same {L : List Req} {k : Nat} {r : Int} (hk : k < L.length) (h : AtId L L[k].x0 r) : r = (k : Int) ↔ ∀ (j : Nat) (hj : j < k), (L[j]'(by omega)).x0 ≠ L[k].x0 := by
  constructor
  · intro e j hj
    rcases h with ⟨h3, _⟩ | ⟨q, rfl, hq, h3, h4⟩
    · omega
    · obtain rfl : q = k := by omega
      exact h4 j hj
  · intro h2
    exact h.hit k hk rfl (fun j hj hjk => h2 j hjk)
end Go.Proofs.Ytnejomfaojpicaa.QueMath
