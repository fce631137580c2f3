/- Right queues as lists: what is left of one is right, one more that fits is; no condition but those written in each. -/
import Derived.Test.YtnejomfaojpicaaRows
import Derived.WalkKit
import Derived.Test.YtnejomfaojpicaaReqKit
import Derived.Test.YtnejomfaojpicaaReqOks
import Derived.Test.YtnejomfaojpicaaQueMath
import Derived.Test.YtnejomfaojpicaaQueOutS
import Derived.Test.YtnejomfaojpicaaQueDelI
namespace Go.Proofs.Ytnejomfaojpicaa.QueGood
set_option linter.unusedVariables false
set_option linter.unusedSimpArgs false
open QueMath QueDelI

/-- All right, no two of one number, Came not falling. -/
def Good (L : List ReqKit.Req) : Prop := (∀ s ∈ L, ReqOks.reqOk s = true) ∧ L.Pairwise (fun a b => a.x0 ≠ b.x0) ∧ L.Pairwise (fun a b => a.x4 ≤ b.x4)
theorem good_ok (L : List ReqKit.Req) : (∀ (k : Nat) (h : k < L.length), okAt L k h) ↔ Good L := by
  constructor
  · intro h
    refine ⟨fun s hs => ?_, ?_, ?_⟩
    · obtain ⟨k, hk, e⟩ := List.getElem_of_mem hs
      rw [← e]
      exact (h k hk).1
    · rw [List.pairwise_iff_getElem]
      intro i j hi hj hij
      exact (h j hj).2.1 i hij
    · rw [List.pairwise_iff_getElem]
      intro i j hi hj hij
      have aux : ∀ d (hd : i + d < L.length), L[i].x4 ≤ (L[i + d]'hd).x4 := by
        intro d
        induction d with
        | zero => intro hd; exact Int.le_refl _
        | succ d ih =>
          intro hd
          have h1 := ih (by omega)
          have h2 := (h (i + (d + 1)) hd).2.2 (by omega)
          simp only [show i + (d + 1) - 1 = i + d by omega] at h2
          exact Int.le_trans h1 h2
      have h3 := aux (j - i) (by omega)
      simp only [show i + (j - i) = j by omega] at h3
      exact h3
  · rintro ⟨h1, h2, h3⟩ k hk
    rw [List.pairwise_iff_getElem] at h2 h3
    exact ⟨h1 _ (List.getElem_mem hk), fun j hj => h2 j k (by omega) hk hj, fun h0 => h3 (k - 1) k (by omega) hk (by omega)⟩
theorem Good.sub {L M : List ReqKit.Req} (h : Good L) (hs : M.Sublist L) : Good M := ⟨fun s hm => h.1 s (hs.subset hm), h.2.1.sublist hs, h.2.2.sublist hs⟩
theorem less_sub (L : List ReqKit.Req) (i : Nat) : (less L i).Sublist L := by
  have e : L.take i ++ L.drop i = L := List.take_append_drop i L
  have h : (L.take i ++ L.drop (i + 1)).Sublist (L.take i ++ L.drop i) := (List.Sublist.refl _).append (by rw [← List.drop_drop]; exact List.drop_sublist _ _)
  rw [e] at h
  exact h
theorem Good.push {L : List ReqKit.Req} (h : Good L) (s : ReqKit.Req) (h1 : ReqOks.reqOk s = true) (h2 : ∀ a ∈ L, a.x0 ≠ s.x0) (h3 : ∀ a ∈ L, a.x4 ≤ s.x4) : Good (L ++ [s]) := by
  refine ⟨fun a ha => ?_, ?_, ?_⟩
  · rcases List.mem_append.1 ha with ha | ha
    · exact h.1 a ha
    · have e : a = s := by simpa using ha
      rw [e]; exact h1
  · rw [List.pairwise_append]
    exact ⟨h.2.1, List.pairwise_singleton _ _, fun a ha b hb => by
      have e : b = s := by simpa using hb
      rw [e]; exact h2 a ha⟩
  · rw [List.pairwise_append]
    exact ⟨h.2.2, List.pairwise_singleton _ _, fun a ha b hb => by
      have e : b = s := by simpa using hb
      rw [e]; exact h3 a ha⟩
theorem ok_good {x : Int} {L : List ReqKit.Req} (h : QueOk x L) : Good L := (good_ok L).1 h.2.2.2
theorem ok_of {x : Int} {L : List ReqKit.Req} (h0 : 0 ≤ x) (h1 : x ≤ 50) (hl : (L.length : Int) ≤ x) (h : Good L) : QueOk x L := ⟨h0, h1, hl, (good_ok L).2 h⟩
end Go.Proofs.Ytnejomfaojpicaa.QueGood
