/- What the law on queues leans on: the program's calls at a drawn queue, and plain facts on tiers and heads. -/
import Derived.Test.YtnejomfaojpicaaRows
import Derived.WalkKit
import Derived.WalkSmall
import Derived.BigQuiet
import Derived.Deep.RegionWith
import Derived.Deep.DeepCutAuto
import Derived.Test.YtnejomfaojpicaaListKit
import Derived.Test.YtnejomfaojpicaaHoldKit
import Derived.Test.YtnejomfaojpicaaGrowKit
import Derived.Test.YtnejomfaojpicaaMapKit
import Derived.Test.YtnejomfaojpicaaReqKit
import Derived.Test.YtnejomfaojpicaaIntKit
import Derived.Test.YtnejomfaojpicaaReqOks
import Derived.Test.YtnejomfaojpicaaQueMath
import Derived.Test.YtnejomfaojpicaaQueMiscS
import Derived.Test.YtnejomfaojpicaaQueTierS
import Derived.Test.YtnejomfaojpicaaQueOutS
import Derived.Test.YtnejomfaojpicaaQuePullS
import Derived.Test.YtnejomfaojpicaaQueWorst
import Derived.Test.YtnejomfaojpicaaQueOfferS
import Derived.Test.YtnejomfaojpicaaQueDelI
import Derived.Test.YtnejomfaojpicaaQueOfferI
import Derived.Test.YtnejomfaojpicaaQuePullI
import Derived.Test.YtnejomfaojpicaaQueMapI
import Derived.Test.YtnejomfaojpicaaQueTierI
import Derived.Test.YtnejomfaojpicaaQueHeadS
import Derived.Test.YtnejomfaojpicaaQueFirstS
import Derived.Test.YtnejomfaojpicaaQueKeys
import Derived.Test.YtnejomfaojpicaaQueHeadI
import Derived.Test.YtnejomfaojpicaaQueTimesI
import Derived.Test.YtnejomfaojpicaaQueFirstI
import Derived.Test.YtnejomfaojpicaaQueGood
namespace Go.Proofs.Ytnejomfaojpicaa.QueLaw
open Go.RowKit ListKit HoldKit GrowKit MapKit QueMath QueMiscS QueTierS QueOutS QuePullS QueWorst QueOfferS QueDelI QueOfferI QuePullI QueTierI QueHeadS QueFirstS QueKeys QueGood
set_option maxRecDepth 8000
set_option linter.unusedVariables false
set_option linter.unusedSimpArgs false

/-- A drawn queue and a request that may come into it. -/
structure Fit (L : List ReqKit.Req) (x1 x2 x3 x5 : Int) : Prop where
  good : QueGood.Good L
  len : L.length ≤ 6
  small : ∀ s ∈ L, s.x0 ≤ 30 ∧ s.x4 ≤ 160
  ok : ReqOks.reqOk ⟨500, x1, x2, x3, 300, x5⟩ = true
section
variable {L : List ReqKit.Req} {x1 x2 x3 x5 : Int}
theorem Fit.ok40 (h : Fit L x1 x2 x3 x5) : QueOk 40 L := ok_of (by omega) (by omega) (by have := h.len; omega) h.good
theorem Fit.good2 (h : Fit L x1 x2 x3 x5) : QueGood.Good (L ++ [⟨500, x1, x2, x3, 300, x5⟩]) := h.good.push _ h.ok (fun a ha => by have := (h.small a ha).1; show a.x0 ≠ 500; omega) (fun a ha => by have := (h.small a ha).2; show a.x4 ≤ 300; omega)
theorem Fit.len2 (h : Fit L x1 x2 x3 x5) : (L ++ [(⟨500, x1, x2, x3, 300, x5⟩ : ReqKit.Req)]).length = L.length + 1 := by simp
theorem Fit.ok2 (h : Fit L x1 x2 x3 x5) : QueOk 40 (L ++ [⟨500, x1, x2, x3, 300, x5⟩]) := ok_of (by omega) (by omega) (by have := h.len; have := h.len2; omega) h.good2
theorem Fit.hid2 (h : Fit L x1 x2 x3 x5) : Hid (true = true ↔ QueOk 40 (L ++ [⟨500, x1, x2, x3, 300, x5⟩])) := ⟨fun _ => h.ok2, fun _ => rfl⟩
theorem Fit.no500 (h : Fit L x1 x2 x3 x5) : AtId L 500 (-1) := Or.inl ⟨rfl, fun j hj => by have := (h.small _ (List.getElem_mem hj)).1; omega⟩
theorem Fit.at500 (h : Fit L x1 x2 x3 x5) : AtId (L ++ [⟨500, x1, x2, x3, 300, x5⟩]) 500 (L.length : Int) := Or.inr ⟨L.length, rfl, by rw [h.len2]; omega, by rw [List.getElem_append_right (Nat.le_refl _)]; simp, fun j hj => by
  rw [List.getElem_append_left hj]
  have := (h.small _ (List.getElem_mem hj)).1
  omega⟩
theorem Fit.goes (h : Fit L x1 x2 x3 x5) : goes true (-1) L ⟨500, x1, x2, x3, 300, x5⟩ = true := by
  have h1 := ok_push h.ok40 ⟨500, x1, x2, x3, 300, x5⟩ (t := -1) h.no500 _ rfl
  exact h1.2 ((good_ok _).2 h.good2)
theorem less_last (s : ReqKit.Req) : less (L ++ [s]) L.length = L := by
  unfold less
  rw [List.take_left, List.drop_eq_nil_of_le (by simp), List.append_nil]
end
/-- How many requests the tiers have together. -/
theorem tiers_sum : ∀ (M : List ReqKit.Req), (∀ s ∈ M, 0 ≤ s.x1 ∧ s.x1 < 4) → (tierOf M 0 true).length + (tierOf M 1 true).length + (tierOf M 2 true).length + (tierOf M 3 true).length = M.length
  | [], _ => rfl
  | s :: M, h => by
    have ih := tiers_sum M (fun a ha => h a (List.mem_cons_of_mem _ ha))
    have hs := h s (by simp)
    have e : ∀ t, (tierOf (s :: M) t true).length = (if s.x1 = t then 1 else 0) + (tierOf M t true).length := fun t => by
      unfold tierOf
      rw [List.filter_cons]
      by_cases e : s.x1 = t
      · rw [if_pos (by simp [ofTier, e]), if_pos e, List.length_cons]; omega
      · rw [if_neg (by simp [ofTier, e]), if_neg e]; omega
    rw [e, e, e, e, List.length_cons, ← ih]
    rcases (by omega : s.x1 = 0 ∨ s.x1 = 1 ∨ s.x1 = 2 ∨ s.x1 = 3) with e | e | e | e <;> rw [e] <;> simp <;> omega
/-- A head is the first of its tier. -/
theorem head_first {M : List ReqKit.Req} {h : ReqKit.Req} (hm : h ∈ headsTo M true 4) : ∃ l, tierOf M h.x1 true = h :: l := by
  unfold headsTo at hm
  obtain ⟨l, hl, hh⟩ := List.mem_flatten.1 hm
  obtain ⟨t, _, rfl⟩ := List.mem_map.1 hl
  have h2 : h ∈ tierOf M (t : Int) true := List.mem_of_mem_take hh
  have h3 : h.x1 = (t : Int) := by
    unfold tierOf at h2
    have := (List.mem_filter.1 h2).2
    simpa [ofTier] using this
  rw [h3]
  cases e : tierOf M (t : Int) true with
  | nil => rw [e] at hh; simp at hh
  | cons a l =>
    rw [e] at hh
    have h4 : h = a := by simpa using hh
    exact ⟨l, by rw [h4]⟩
theorem free_all (s : ReqKit.Req) : isFree [] 1 s = true := by simp [isFree, timesOf]
theorem first_heads (M : List ReqKit.Req) : firstOf M true [] 1 = (headsTo M true 4).head? := by
  unfold firstOf headsTo
  rw [List.head?_flatten, List.findSome?_map]
  congr 1
  funext t
  show _ = ((tierOf M (t : Int) true).take 1).head?
  cases tierOf M (t : Int) true with
  | nil => rfl
  | cons a l => simp [List.find?, free_all]
theorem heads_some {M : List ReqKit.Req} {s : ReqKit.Req} (hs : s ∈ M) (h0 : 0 ≤ s.x1) (h4 : s.x1 < 4) : 0 < (headsTo M true 4).length := by
  obtain ⟨t, ht⟩ : ∃ t : Nat, (t : Int) = s.x1 := ⟨s.x1.toNat, by omega⟩
  have h1 : s ∈ tierOf M (t : Int) true := List.mem_filter.2 ⟨hs, by simp [ofTier, ht]⟩
  cases e : tierOf M (t : Int) true with
  | nil => rw [e] at h1; simp at h1
  | cons a l =>
    have h2 : a ∈ headsTo M true 4 := List.mem_flatten.2 ⟨[a], List.mem_map.2 ⟨t, List.mem_range.2 (by omega), by rw [e]; rfl⟩, by simp⟩
    exact List.length_pos_iff.2 (fun e2 => by rw [e2] at h2; simp at h2)
theorem holds_own {W : World} {lo : Nat} {a : Option Addr} {M : List ReqKit.Req} (h : Holds W lo [⟨a, 27, 6, M.map ReqKit.cells⟩]) : Own 27 6 ReqKit.cells W a M := h.get (by simp)
section
variable {L : List ReqKit.Req} {x1 x2 x3 x5 : Int}
theorem que_offer (h : Fit L x1 x2 x3 x5) (a : Option Addr) (c : Nat) (W : World) (ho : Own 27 6 ReqKit.cells W a L) (hc : L.length ≤ c) :
    Calls Try.prog 5 #[.agg #[.int .i64 40, .slice a L.length c], .agg #[.int .i64 500, .int .i64 x1, .int .i64 x2, .int .i64 x3, .int .i64 300, .int .i64 x5]] W fun e w' => ∃ aM cM, e = .returned (.tuple #[.agg #[.int .i64 40, .slice aM (L.length + 1) cM], .agg #[.int .i64 0, .int .i64 0, .int .i64 0, .int .i64 0, .int .i64 0, .int .i64 0], .bool true]) ∧ L.length + 1 ≤ cM ∧ Own 27 6 ReqKit.cells w' aM (L ++ [⟨500, x1, x2, x3, 300, x5⟩]) ∧ Below W.heap.size W w' := by
  have h9 := impl_offer 40 a c L 500 x1 x2 x3 300 x5 (-1) true W ho (by have := h.len; omega) hc (show true = true ↔ QueOk 40 L from ⟨fun _ => h.ok40, fun _ => rfl⟩) h.no500
  rw [h.goes] at h9
  refine h9.mono ?_
  rintro e w' ⟨a2, c2, he, h2, h3, h4⟩
  have e1 : offL 40 L ⟨500, x1, x2, x3, 300, x5⟩ true = L ++ [⟨500, x1, x2, x3, 300, x5⟩] := by unfold offL; rw [if_pos rfl, if_pos (by have := h.len; have := h.len2; omega)]
  have e2 : offR 40 L ⟨500, x1, x2, x3, 300, x5⟩ true = ReqKit.zero := by unfold offR; rw [if_pos rfl, if_pos (by have := h.len; have := h.len2; omega)]
  rw [e1, h.len2] at he h2
  rw [e2] at he
  rw [e1] at h3
  exact ⟨a2, c2, he, h2, holds_own h3, h4⟩
theorem que_pull1 (h : Fit L x1 x2 x3 x5) (a : Option Addr) (c : Nat) (W : World) (ho : Own 27 6 ReqKit.cells W a (L ++ [⟨500, x1, x2, x3, 300, x5⟩])) (hc : L.length + 1 ≤ c) :
    Calls Try.prog 6 #[.agg #[.int .i64 40, .slice a (L.length + 1) c], .int .i64 500] W fun e w' => ∃ aY cY, e = .returned (.tuple #[.agg #[.int .i64 40, .slice aY L.length cY], .agg #[.int .i64 500, .int .i64 x1, .int .i64 x2, .int .i64 x3, .int .i64 300, .int .i64 x5], .bool true]) ∧ L.length ≤ cY ∧ Own 27 6 ReqKit.cells w' aY L ∧ Below W.heap.size W w' := by
  have h9 := impl_pull 40 a c (L ++ [(⟨500, x1, x2, x3, 300, x5⟩ : ReqKit.Req)]) 500 (L.length : Int) true W ho (by have := h.len; have := h.len2; omega) (by have := h.len2; omega) h.hid2 h.at500
  rw [h.len2] at h9
  refine h9.mono ?_
  rintro e w' ⟨a2, c2, he, h2, h3, h4⟩
  have e1 : pullL (L ++ [⟨500, x1, x2, x3, 300, x5⟩]) (L.length : Int) true = L := by unfold pullL; rw [if_pos rfl, if_neg (by omega), less_out _ _ (by have := h.len2; omega), less_last]
  have e2 : pullR (L ++ [⟨500, x1, x2, x3, 300, x5⟩]) (L.length : Int) true = ⟨500, x1, x2, x3, 300, x5⟩ := by unfold pullR; rw [if_pos rfl, if_neg (by omega)]; simp
  have e3 : (true && decide (0 ≤ (L.length : Int))) = true := by simp
  rw [e1, e2, e3] at he
  rw [e1] at h2 h3
  exact ⟨a2, c2, he, h2, holds_own h3, h4⟩
theorem que_pull2 (h : Fit L x1 x2 x3 x5) (a : Option Addr) (c : Nat) (W : World) (ho : Own 27 6 ReqKit.cells W a L) (hc : L.length ≤ c) :
    Calls Try.prog 6 #[.agg #[.int .i64 40, .slice a L.length c], .int .i64 500] W fun e w' => ∃ aY cY, e = .returned (.tuple #[.agg #[.int .i64 40, .slice aY L.length cY], .agg #[.int .i64 0, .int .i64 0, .int .i64 0, .int .i64 0, .int .i64 0, .int .i64 0], .bool false]) ∧ Below W.heap.size W w' := by
  have h9 := impl_pull 40 a c L 500 (-1) true W ho (by have := h.len; omega) hc (show true = true ↔ QueOk 40 L from ⟨fun _ => h.ok40, fun _ => rfl⟩) h.no500
  refine h9.mono ?_
  rintro e w' ⟨a2, c2, he, h2, h3, h4⟩
  have e1 : pullL L (-1) true = L := by unfold pullL; rw [if_pos rfl, if_pos (by omega)]
  have e2 : pullR L (-1) true = ReqKit.zero := by unfold pullR; rw [if_pos rfl, if_pos (by omega)]
  rw [e1, e2] at he
  exact ⟨a2, c2, he, h4⟩
theorem que_tier (h : Fit L x1 x2 x3 x5) (a : Option Addr) (c : Nat) (t : Int) (ht0 : 0 ≤ t) (ht4 : t < 4) (W : World) (ho : Own 27 6 ReqKit.cells W a (L ++ [⟨500, x1, x2, x3, 300, x5⟩])) (hc : L.length + 1 ≤ c) :
    Calls Try.prog 7 #[.agg #[.int .i64 40, .slice a (L.length + 1) c], .int .i64 t] W fun e w' => ∃ a2 c2, e = .returned (.slice a2 (tierOf (L ++ [⟨500, x1, x2, x3, 300, x5⟩]) t true).length c2) ∧ (tierOf (L ++ [⟨500, x1, x2, x3, 300, x5⟩]) t true).length ≤ c2 ∧ Own 27 6 ReqKit.cells w' a2 (tierOf (L ++ [⟨500, x1, x2, x3, 300, x5⟩]) t true) ∧ Below W.heap.size W w' := by
  have h9 := impl_oftier 40 a c (L ++ [(⟨500, x1, x2, x3, 300, x5⟩ : ReqKit.Req)]) t true W ho (by have := h.len; have := h.len2; omega) (by have := h.len2; omega) (wf_of (by omega) (by omega)) h.hid2
  rw [h.len2] at h9
  refine h9.mono ?_
  rintro e w' ⟨a2, c2, he, h2, h3, h4⟩
  exact ⟨a2, c2, he, h2, holds_own h3, h4⟩
theorem que_heads (h : Fit L x1 x2 x3 x5) (a : Option Addr) (c : Nat) (W : World) (ho : Own 27 6 ReqKit.cells W a (L ++ [⟨500, x1, x2, x3, 300, x5⟩])) (hc : L.length + 1 ≤ c) :
    Calls Try.prog 8 #[.agg #[.int .i64 40, .slice a (L.length + 1) c]] W fun e w' => ∃ a2 c2, e = .returned (.slice a2 (headsTo (L ++ [⟨500, x1, x2, x3, 300, x5⟩]) true 4).length c2) ∧ (headsTo (L ++ [⟨500, x1, x2, x3, 300, x5⟩]) true 4).length ≤ c2 ∧ Own 27 6 ReqKit.cells w' a2 (headsTo (L ++ [⟨500, x1, x2, x3, 300, x5⟩]) true 4) ∧ Below W.heap.size W w' := by
  have h9 := QueHeadI.impl_heads 40 a c (L ++ [(⟨500, x1, x2, x3, 300, x5⟩ : ReqKit.Req)]) true W ho (by have := h.len; have := h.len2; omega) (by have := h.len2; omega) h.hid2
  rw [h.len2] at h9
  refine h9.mono ?_
  rintro e w' ⟨a2, c2, he, h2, h3, h4⟩
  exact ⟨a2, c2, he, h2, holds_own h3, h4⟩
theorem que_first (h : Fit L x1 x2 x3 x5) (a : Option Addr) (c : Nat) (W : World) (ho : Own 27 6 ReqKit.cells W a (L ++ [⟨500, x1, x2, x3, 300, x5⟩])) (hc : L.length + 1 ≤ c) (f0 f1 f2 f3 f4 f5 : Int) (hf : (headsTo (L ++ [⟨500, x1, x2, x3, 300, x5⟩]) true 4).head? = some ⟨f0, f1, f2, f3, f4, f5⟩) :
    Calls Try.prog 9 #[.agg #[.int .i64 40, .slice a (L.length + 1) c], .slice none 0 0, .int .i64 1] W fun e w' => e = .returned (.tuple #[.agg #[.int .i64 f0, .int .i64 f1, .int .i64 f2, .int .i64 f3, .int .i64 f4, .int .i64 f5], .bool true]) ∧ Below W.heap.size W w' := by
  have h9 := QueFirstI.impl_first 40 a c (L ++ [(⟨500, x1, x2, x3, 300, x5⟩ : ReqKit.Req)]) none 0 [] 1 true W ho (by have := h.len; have := h.len2; omega) (by have := h.len2; omega) (Or.inl rfl) (by simp) (by simp) (fun k hk => by simp at hk) h.hid2
  rw [h.len2, first_heads, hf] at h9
  exact h9
end
end Go.Proofs.Ytnejomfaojpicaa.QueLaw
