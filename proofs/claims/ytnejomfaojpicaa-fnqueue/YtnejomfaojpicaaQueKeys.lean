/- The tiers of a queue, rising, and what is asked of them one by one; no condition but those written in each. -/
import Derived.Test.YtnejomfaojpicaaRows
import Derived.WalkKit
import Derived.Test.YtnejomfaojpicaaReqKit
import Derived.Test.YtnejomfaojpicaaQueMath
import Derived.Test.YtnejomfaojpicaaQueTierS
import Derived.Test.YtnejomfaojpicaaQueTierI
import Derived.Test.YtnejomfaojpicaaQueHeadS
namespace Go.Proofs.Ytnejomfaojpicaa.QueKeys
set_option linter.unusedVariables false
set_option linter.unusedSimpArgs false
open QueMath QueTierS QueTierI QueHeadS

theorem rise_eq : ∀ (A B : List Int), A.Pairwise (· < ·) → B.Pairwise (· < ·) → (∀ x, x ∈ A ↔ x ∈ B) → A = B
  | [], [], _, _, _ => rfl
  | [], b :: B, _, _, h => by have := (h b).2 (by simp); simp at this
  | a :: A, [], _, _, h => by have := (h a).1 (by simp); simp at this
  | a :: A, b :: B, hA, hB, h => by
    obtain ⟨a1, a2⟩ := List.pairwise_cons.1 hA
    obtain ⟨b1, b2⟩ := List.pairwise_cons.1 hB
    have e : a = b := by
      rcases List.mem_cons.1 ((h a).1 (by simp)) with e | e
      · exact e
      · rcases List.mem_cons.1 ((h b).2 (by simp)) with e2 | e2
        · exact e2.symm
        · have := b1 a e
          have := a1 b e2
          omega
    subst e
    rw [rise_eq A B a2 b2 fun x => ⟨fun hx => ?_, fun hx => ?_⟩]
    · rcases List.mem_cons.1 ((h x).1 (List.mem_cons_of_mem _ hx)) with e | e
      · have := a1 x hx; omega
      · exact e
    · rcases List.mem_cons.1 ((h x).2 (List.mem_cons_of_mem _ hx)) with e | e
      · have := b1 x hx; omega
      · exact e
/-- The four tiers. -/
def four : List Int := (List.range 4).map fun (t : Nat) => (t : Int)
theorem four_rises : four.Pairwise (· < ·) := by decide
theorem four_mem (t : Int) : t ∈ four ↔ 0 ≤ t ∧ t < 4 := by
  have e : four = [0, 1, 2, 3] := by decide
  rw [e]
  simp
  omega
theorem any_tier {L : List ReqKit.Req} {t : Int} : L.any (ofTier t true) = true ↔ tierOf L t true ≠ [] := by
  unfold tierOf
  rw [List.any_eq_true, ne_eq, List.filter_eq_nil_iff]
  constructor
  · rintro ⟨s, hs, h⟩ h2
    exact h2 s hs h
  · intro h
    rcases Classical.em (∃ s, s ∈ L ∧ ofTier t true s = true) with h2 | h2
    · exact h2
    · exact absurd (fun s hs h3 => h2 ⟨s, hs, h3⟩) h
theorem any_range {x : Int} {L : List ReqKit.Req} (hq : QueOk x L) {t : Int} (h : L.any (ofTier t true) = true) : 0 ≤ t ∧ t < 4 := by
  rw [List.any_eq_true] at h
  obtain ⟨s, hs, h2⟩ := h
  obtain ⟨k, hk, e⟩ := List.getElem_of_mem hs
  have h3 := tier_wf hq k hk
  rw [e] at h3
  have h4 : s.x1 = t := by simpa [ofTier] using h2
  omega
/-- The keys are those of the four tiers that have one. -/
theorem keys_four {x : Int} {L : List ReqKit.Req} (hq : QueOk x L) {K : List Int} (hr : K.Pairwise (· < ·)) (hm : ∀ t, t ∈ K ↔ L.any (ofTier t true) = true) : K = four.filter fun t => L.any (ofTier t true) :=
  rise_eq _ _ hr (four_rises.filter _) fun t => by
    rw [hm, List.mem_filter]
    exact ⟨fun h => ⟨(four_mem t).2 (any_range hq h), h⟩, fun h => h.2⟩
def heads (L : List ReqKit.Req) (K : List Int) : List ReqKit.Req := (K.map fun t => (tierOf L t true).take 1).flatten
theorem heads_filter (L : List ReqKit.Req) : ∀ K : List Int, heads L (K.filter fun t => L.any (ofTier t true)) = heads L K
  | [] => rfl
  | t :: K => by
    cases e : L.any (ofTier t true) with
    | true =>
      rw [List.filter_cons_of_pos (by simpa using e)]
      show (tierOf L t true).take 1 ++ heads L _ = (tierOf L t true).take 1 ++ heads L K
      rw [heads_filter L K]
    | false =>
      rw [List.filter_cons_of_neg (by simpa using e)]
      have h2 : tierOf L t true = [] := by
        rcases Classical.em (tierOf L t true = []) with h | h
        · exact h
        · rw [any_tier.2 h] at e; cases e
      show _ = (tierOf L t true).take 1 ++ heads L K
      rw [h2, heads_filter L K]
      rfl
theorem heads_four (L : List ReqKit.Req) : heads L four = headsTo L true 4 := by
  unfold heads headsTo four
  rw [List.map_map]
  rfl
theorem heads_keys {x : Int} {L : List ReqKit.Req} (hq : QueOk x L) {K : List Int} (hr : K.Pairwise (· < ·)) (hm : ∀ t, t ∈ K ↔ L.any (ofTier t true) = true) : heads L K = headsTo L true 4 := by
  rw [keys_four hq hr hm, heads_filter, heads_four]
theorem heads_no (L : List ReqKit.Req) (m : Nat) : headsTo L false m = [] := by
  unfold headsTo
  rw [List.flatten_eq_nil_iff]
  intro l hl
  obtain ⟨t, _, rfl⟩ := List.mem_map.1 hl
  rw [tier_no]
  rfl
theorem heads_push (L : List ReqKit.Req) (K : List Int) (k : Nat) (h : k < K.length) (s : ReqKit.Req) (hs : (tierOf L K[k] true).take 1 = [s]) : heads L (K.take (k + 1)) = heads L (K.take k) ++ [s] := by
  unfold heads
  rw [List.take_add_one, List.getElem?_eq_getElem h, List.map_append, List.flatten_append, Option.toList_some, List.map_singleton, hs]
  simp
theorem heads_klen (L : List ReqKit.Req) : ∀ K : List Int, (heads L K).length ≤ K.length
  | [] => Nat.le_refl _
  | t :: K => by
    show ((tierOf L t true).take 1 ++ heads L K).length ≤ _
    have := heads_klen L K
    rw [List.length_append, List.length_cons, List.length_take]
    omega
end Go.Proofs.Ytnejomfaojpicaa.QueKeys
