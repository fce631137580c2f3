/- Regions whose order is drawn, whose last operations stand in a row behind all others and may write, and whose other operations turn nothing that was there: one walk, in the order of the text, serves every order. Over the library's laws on classes of worlds and on tails; no condition but those written in each. -/
import Derived.Test.YtdgkmiknnelddaaRows
import Derived.WalkKit
import Derived.WalkSmall
import Derived.BigQuiet
import Derived.StillTail
import Derived.Test.YtdgkmiknnelddaaNearKit
namespace Go.Proofs.Ytdgkmiknnelddaa.NearTail
open Go.RowKit NearKit
set_option linter.unusedSimpArgs false
set_option linter.unnecessarySimpa false

/-- Nothing ahead of the tail is guarded, its edges point back; the tail waits for it, and goes one by one. -/
def tailB (l t : List Oper) : Bool :=
  (l.all fun p => p.guard.isNone) && (l.zipIdx.all fun p => p.1.after.all fun e => decide (e.on < p.2)) && decide (0 < t.length) && Region.sinkB .any (l ++ t).toArray l.length && Region.chainB .any (l ++ t).toArray l.length && Region.seqB .any (l ++ t).toArray t.length l.length (Array.replicate l.length true ++ Array.replicate t.length false)

theorem app_getD (listed : Array Bool) (k : Nat) (d : Bool) (i : Nat) (h : i < listed.size) : (listed ++ Array.replicate k false).getD i d = listed.getD i d := by
  simp [Array.getElem?_append_left h]
theorem app_set (listed : Array Bool) (k i : Nat) (h : i < listed.size) : (listed ++ Array.replicate k false).setIfInBounds i true = listed.setIfInBounds i true ++ Array.replicate k false := by
  apply Array.ext_getElem?
  intro j
  by_cases hj : i = j
  · subst hj
    rw [Array.getElem?_setIfInBounds_self_of_lt (by simp; omega), Array.getElem?_append_left (by simpa using h), Array.getElem?_setIfInBounds_self_of_lt h]
  · rw [Array.getElem?_setIfInBounds_ne hj]
    by_cases hl : j < listed.size
    · rw [Array.getElem?_append_left hl, Array.getElem?_append_left (by simpa using hl), Array.getElem?_setIfInBounds_ne hj]
    · rw [Array.getElem?_append_right (by omega), Array.getElem?_append_right (by simpa using hl)]
      simp

theorem wpAny_more {P : Program} {ops : Array Oper} {Q : Exit → Act → World → Prop} : ∀ (f : Nat) (listed : Array Bool) (a : Act) (w : World), wpAny P .any ops Q f listed a w → wpAny P .any ops Q (f + 1) listed a w
  | 0, _, _, _, h => ⟨fun _ => h.2, fun i hi => by rw [h.1] at hi; cases hi⟩
  | f + 1, _, _, _, h => ⟨h.1, fun i hi => wpOp_mono (fun a w h => wpAny_more f _ a w h) (h.2 i hi)⟩
theorem wpAny_plus {P : Program} {ops : Array Oper} {Q : Exit → Act → World → Prop} (k f : Nat) {listed : Array Bool} {a : Act} {w : World} (h : wpAny P .any ops Q k listed a w) : wpAny P .any ops Q (f + k) listed a w := by
  induction f with
  | zero => rw [Nat.zero_add]; exact h
  | succ f ih => rw [Nat.add_right_comm]; exact wpAny_more _ _ _ _ ih

section
variable {P : Program} {C : World → Prop} {l t : List Oper} {Q : Exit → Act → World → Prop} {Qa : Act → Prop}

theorem all_listed (hb : ∀ (i : Nat) (p : Oper), l[i]? = some p → ∀ e ∈ p.after, e.on < i) {listed : Array Bool} (hs : listed.size = l.length) (hr : Region.ready .any l.toArray listed = []) : ∀ i, i < l.length → listed.getD i true = true := by
  intro i
  induction i using Nat.strongRecOn with
  | _ i ih =>
    intro hi
    cases hc : listed.getD i true with
    | true => rfl
    | false =>
      exfalso
      have hp : l[i]? = some l[i] := List.getElem?_eq_getElem hi
      have : i ∈ Region.ready .any l.toArray listed := mem_ready.2 ⟨hc, l[i], by simpa using hp, fun e he _ => by
        have hlt := hb i _ hp e he
        have := ih e.on hlt (by omega)
        have hz : e.on < listed.size := by omega
        simp [hz] at this ⊢
        exact this⟩
      rw [hr] at this
      cases this

theorem any_tail (hg : ∀ p ∈ l, p.guard = none) (hb : ∀ (i : Nat) (p : Oper), l[i]? = some p → ∀ e ∈ p.after, e.on < i) (ht : 0 < t.length) (hsink : Region.sinkB .any (l ++ t).toArray l.length = true) (hchain : Region.chainB .any (l ++ t).toArray l.length = true)
    (hseq : Region.seqB .any (l ++ t).toArray t.length l.length (Array.replicate l.length true ++ Array.replicate t.length false) = true)
    (hQ : ∀ a w, C w → Qa a → wpList P (l ++ t).toArray Q t a w) :
    ∀ (fuel : Nat) (listed : Array Bool) (a : Act) (w : World), listed.size = l.length → HeadInv .any (l ++ t).toArray l.length (listed ++ Array.replicate t.length false) → C w → wpAnyQ P .any l.toArray C Qa fuel listed a → wpAny P .any (l ++ t).toArray Q (fuel + t.length) (listed ++ Array.replicate t.length false) a w := by
  have last : ∀ (fuel : Nat) (listed : Array Bool) (a : Act) (w : World), listed.size = l.length → C w → Region.ready .any l.toArray listed = [] → Qa a → wpAny P .any (l ++ t).toArray Q (fuel + t.length) (listed ++ Array.replicate t.length false) a w := by
    intro fuel listed a w hs hC hr hq
    have hall := all_listed hb hs hr
    have he : listed = Array.replicate l.length true := by
      apply Array.ext (by simp [hs])
      intro i h1 h2
      have := hall i (by omega)
      simp [h1] at this ⊢
      exact this
    rw [he]
    exact wpAny_plus _ _ (wpAny_of_seq t l.length _ a w (fun j => by simp [List.getElem?_append_right]) hseq (hQ a w hC hq))
  intro fuel
  induction fuel with
  | zero =>
    intro listed a w hs _ hC h
    exact last 0 listed a w hs hC h.1 h.2
  | succ fuel ih =>
    intro listed a w hs inv hC h
    by_cases hr : Region.ready .any l.toArray listed = []
    · exact last _ listed a w hs hC hr (h.1 hr)
    · have sup : ∀ i, i ∈ Region.ready .any l.toArray listed → i ∈ Region.ready .any (l ++ t).toArray (listed ++ Array.replicate t.length false) := by
        intro i hi
        obtain ⟨h0, p, hp, hall⟩ := mem_ready.1 hi
        have hp : l[i]? = some p := by simpa using hp
        have hin : i < l.length := (List.getElem?_eq_some_iff.1 hp).1
        refine mem_ready.2 ⟨by rw [app_getD _ _ _ _ (by omega)]; exact h0, p, by simpa [List.getElem?_append_left hin] using hp, fun e he hbe => ?_⟩
        have hlt := hb i p hp e he
        rw [app_getD _ _ _ _ (by omega)]
        exact hall e he hbe
      obtain ⟨j, hj⟩ : ∃ j, j ∈ Region.ready .any l.toArray listed := List.exists_mem_of_ne_nil _ hr
      have hjl : j < l.length := by
        obtain ⟨_, q, hq, _⟩ := mem_ready.1 hj
        have := (Array.getElem?_eq_some_iff.1 hq).1
        simpa using this
      have hju := (mem_ready.1 (sup j hj)).1
      have sub : ∀ i, i ∈ Region.ready .any (l ++ t).toArray (listed ++ Array.replicate t.length false) → i < l.length := by
        intro i hi
        by_cases hin : i < l.length
        · exact hin
        · exact absurd hi (tail_waits hsink hchain (by simp; omega) inv (l.length - j) j rfl hjl hju i (by omega))
      rw [show fuel + 1 + t.length = (fuel + t.length) + 1 by omega]
      refine ⟨fun h0 => ?_, fun i hi => ?_⟩
      · exfalso
        have := sup j hj
        rw [h0] at this
        cases this
      · have hin := sub i hi
        obtain ⟨h0, p, hp, hall⟩ := mem_ready.1 hi
        have hp : l[i]? = some p := by simpa [List.getElem?_append_left hin] using hp
        have hi' : i ∈ Region.ready .any l.toArray listed := mem_ready.2 ⟨by rw [app_getD _ _ _ _ (by omega)] at h0; exact h0, p, by simpa using hp, fun e he hbe => by
          have := hall e he hbe
          rw [app_getD _ _ _ _ (by have := hb i p hp e he; omega)] at this
          exact this⟩
        have hq := h.2 i hi'
        have hgp : p.guard = none := hg p (List.mem_of_getElem? hp)
        have hw : ∀ y, Region.wanted p y = true := fun y => by unfold Region.wanted; rw [hgp]
        have e1 : (l.toArray)[i]? = some p := by simpa using hp
        have e2 : ((l ++ t).toArray)[i]? = some p := by simpa [List.getElem?_append_left hin] using hp
        have inv2 := inv.set hi hin
        unfold qOp at hq
        simp only [e1, hw, if_true] at hq
        unfold wpOp
        simp only [e2, hw, if_true]
        rw [app_set _ _ _ (by omega)] at inv2 ⊢
        exact .inl (Oper.wp_of_quiet hC (fun a' w' hC' hK => ih _ a' w' (by simpa using hs) inv2 hC' hK) hq)

theorem wp_region_near_tail {id : Nat} {a : Act} {W : World} (n : Nat) {L : List Oper} (hm : P.follows .mixedOrders = true) (hB : Region.lexB .any (L.take n).toArray = true) (hT : tailB (L.take n) (L.drop n) = true)
    (h : wpQuiet P (L.take n).toArray (fun w' => ∃ y : Near W, w' = y.w) (fun a' => ∀ w', (∃ y : Near W, w' = y.w) → wpList P L.toArray Q (L.drop n) a' w') (L.take n) a) : (Code.region id L.toArray true).wp P Q a W := by
  have hL : L.take n ++ L.drop n = L := List.take_append_drop n L
  have hn : (L.take n).length + (L.drop n).length = L.length := by
    have := congrArg List.length hL
    rw [List.length_append] at this
    exact this
  simp only [Region.lexB, Bool.and_eq_true] at hB
  simp only [tailB, Bool.and_eq_true, List.all_eq_true, Array.all_eq_true_iff_forall_mem, decide_eq_true_eq, Option.isNone_iff_eq_none] at hT
  obtain ⟨⟨⟨⟨⟨t1, t2⟩, t3⟩, t4⟩, t5⟩, t6⟩ := hT
  have hlex := wpAnyQ_lex (C := fun w' => ∃ y : Near W, w' = y.w) (md := .any) hB.1 (L.take n) 0 (Array.replicate (L.take n).length false) a (by simp) (by simpa using hB.2) h
  generalize L.take n = l at *
  generalize L.drop n = t at *
  subst hL
  refine wp_region_any hm ?_
  have inv0 : HeadInv .any (l ++ t).toArray l.length (Array.replicate l.length false ++ Array.replicate t.length false) := by
    rw [Array.replicate_append_replicate]
    refine ⟨by simp, fun j oj _ hl => ?_, fun i h1 h2 => ?_⟩
    · rw [getD_replicate_false] at hl
      cases hl
    · have : i < l.length + t.length := by simpa using h2
      simp [this]
  have key := any_tail (Q := Q) t1 (fun i p hp e he => t2 (p, i) (by rw [List.mem_zipIdx_iff_getElem?]; exact hp) e he) t3 t4 t5 t6 (fun a w hC hq => hq w hC)
    l.length (Array.replicate l.length false) a W.drew (by simp) inv0 ⟨⟨W.drew, (Below.refl _ _).drew⟩, rfl⟩ hlex
  rw [Array.replicate_append_replicate] at key
  simpa using key
end
end Go.Proofs.Ytdgkmiknnelddaa.NearTail
