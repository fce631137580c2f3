/- A machine that is right by the program's rules is right by the model's, and the other way round; no condition. -/
import Derived.Test.YtnabnghjejncpaaGreatRows
import Derived.WalkKit
import Derived.Test.YtnabnghjejncpaaGreatAdmOkP
import Derived.Test.YtnabnghjejncpaaGreatAdmOwnP
import Derived.Test.YtnabnghjejncpaaGreatAdmFitI
namespace Go.Proofs.YtnabnghjejncpaaGreat.AdmEqP
open Go.RowKit AdmKit AdmPartP AdmKnownP AdmOwnP AdmOkP AdmFitI AdmCliP
open QueMiscS (timesOf)
open AdmWaitI (flies)
set_option linter.unusedVariables false

theorem times_cnt (t : Int) : ∀ S : List SlotKit.Slot, timesOf (clientsOf S) t = S.countP (LedCount.isBy t)
  | [] => rfl
  | s :: r => by
    have ih := times_cnt t r
    rw [List.countP_cons, ← ih]
    unfold timesOf clientsOf LedCount.isBy
    cases h : s.x1 with
    | false => simp [h]
    | true =>
      by_cases e : s.x3 = t
      · simp [h, e]
      · simp [h, e]
theorem mem_clients {S : List SlotKit.Slot} {t : Int} : t ∈ clientsOf S ↔ ∃ (i : Nat) (h : i < S.length), S[i].x1 = true ∧ S[i].x3 = t := by
  unfold clientsOf
  rw [List.mem_map]
  constructor
  · rintro ⟨s, hs, rfl⟩
    rw [List.mem_filter] at hs
    obtain ⟨i, hi, rfl⟩ := List.getElem_of_mem hs.1
    exact ⟨i, hi, hs.2, rfl⟩
  · rintro ⟨i, hi, h1, rfl⟩
    exact ⟨S[i], List.mem_filter.2 ⟨List.getElem_mem hi, h1⟩, rfl⟩
def implOk (x0 x1 x2 x3 x4 x5 x6 x7 x8 x9 x10 x11 x12 x13 x14 x15 x16 x17 x18 x19 x20 x21 x22 x23 x26 x29 x30 x31 x32 : Int) (L24 : List SampleKit.Sample) (L25 : List SlotKit.Slot) (L27 : List ReqKit.Req) (L28 : List CodelKit.Codel) (L33 : List Int) : Prop := cfgGood x0 x1 x2 x3 x4 x5 x6 x7 x8 x9 x10 x11 x12 x13 ∧ (0 ≤ x14 ∧ x14 ≤ 1000000000) ∧ ownOk x0 x1 x2 x3 x4 x5 x6 x7 x8 x9 x10 x11 x12 x13 x14 x15 x16 x17 x18 x19 x20 x21 x22 x23 x26 x29 x30 x31 x32 L24 L25 L27 L28 L33 ∧ fitOk x6 x7 x14 x32 L33 L27 L25
theorem same (x0 x1 x2 x3 x4 x5 x6 x7 x8 x9 x10 x11 x12 x13 x14 x15 x16 x17 x18 x19 x20 x21 x22 x23 x26 x29 x30 x31 x32 : Int) (L24 : List SampleKit.Sample) (L25 : List SlotKit.Slot) (L27 : List ReqKit.Req) (L28 : List CodelKit.Codel) (L33 : List Int) : implOk x0 x1 x2 x3 x4 x5 x6 x7 x8 x9 x10 x11 x12 x13 x14 x15 x16 x17 x18 x19 x20 x21 x22 x23 x26 x29 x30 x31 x32 L24 L25 L27 L28 L33 ↔ admOk x0 x1 x2 x3 x4 x5 x6 x7 x8 x9 x10 x11 x12 x13 x14 x15 x16 x17 x18 x19 x20 x21 x22 x23 x26 x29 x30 x31 x32 L24 L25 L27 L28 L33 := by
  constructor
  · rintro ⟨hc, ht, ⟨o1, o2, o3, o4, o5, o6, o7, o8, o9, o10, o11⟩, f1, f2, f3, f4⟩
    refine ⟨⟨⟨hc, ht, o1, o2, o3, o4, o5, o9⟩, o10, o6, o7, o8, f4⟩, o11, fun i h => ⟨(f1 i h).1, (f1 i h).2.1, (f1 i h).2.2.2⟩, fun i h hu => ?_⟩
    refine ⟨(f2 i h hu).1, fun j hj e => (f1 j hj).2.2.1 ⟨i, h, hu, e.symm⟩, (f2 i h hu).2, ?_⟩
    rw [LedCount.cnt_all, ← times_cnt]
    exact f3 _ (mem_clients.2 ⟨i, h, hu, rfl⟩)
  · rintro ⟨⟨⟨hc, ht, o1, o2, o3, o4, o5, o9⟩, o10, o6, o7, o8, f4⟩, o11, g1, g2⟩
    refine ⟨hc, ht, ⟨o1, o2, o3, o4, o5, o6, o7, o8, o9, o10, o11⟩, fun i h => ⟨(g1 i h).1, (g1 i h).2.1, ?_, (g1 i h).2.2⟩, fun i h hu => ⟨(g2 i h hu).1, (g2 i h hu).2.2.1⟩, fun t htm => ?_, f4⟩
    · rintro ⟨j, hj, hu, e⟩
      exact (g2 j hj hu).2.1 i h e.symm
    · obtain ⟨i, h, hu, rfl⟩ := mem_clients.1 htm
      rw [times_cnt, ← LedCount.cnt_all]
      exact (g2 i h hu).2.2.2
end Go.Proofs.YtnabnghjejncpaaGreat.AdmEqP
