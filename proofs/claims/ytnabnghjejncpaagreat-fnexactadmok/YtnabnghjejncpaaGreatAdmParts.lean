/- What the 'new' of a machine's parts answer, the model's and the program's alike; nothing that was there turns; no condition. -/
import Derived.Test.YtnabnghjejncpaaGreatRows
import Derived.WalkKit
import Derived.Test.YtnabnghjejncpaaGreatListKit
import Derived.Test.YtnabnghjejncpaaGreatHoldKit
import Derived.Test.YtnabnghjejncpaaGreatReqKit
import Derived.Test.YtnabnghjejncpaaGreatLimAll
import Derived.Test.YtnabnghjejncpaaGreatQueAll
import Derived.Test.YtnabnghjejncpaaGreatBucketAll
import Derived.Test.YtnabnghjejncpaaGreatCodAll
namespace Go.Proofs.YtnabnghjejncpaaGreat.AdmParts
open Go.RowKit ListKit HoldKit BucketMath
open LimSpec (limOk)
set_option linter.unusedVariables false

/-- A limit's. -/
theorem lim_part (k mn mx sp sl st : Int) : ∃ (q0 q1 q2 q3 q4 q5 q6 q7 q8 : Int) (B : Bool), (B = true ↔ limOk k mn mx sp sl st 0 0 sp []) ∧ (B = true → q0 = k ∧ q1 = mn ∧ q2 = mx ∧ q3 = sp ∧ q4 = sl ∧ q5 = st ∧ q6 = 0 ∧ q7 = 0 ∧ q8 = sp) ∧
    (∀ W, Calls Tryz.prog 75 #[.agg #[.int .i64 k, .int .i64 mn, .int .i64 mx, .int .i64 sp, .int .i64 sl], .int .i64 st] W fun e w' => e = .returned (.tuple #[.agg #[.int .i64 q0, .int .i64 q1, .int .i64 q2, .int .i64 q3, .int .i64 q4, .int .i64 q5, .int .i64 q6, .int .i64 q7, .int .i64 q8, .slice none 0 0], .bool B]) ∧ Below W.heap.size W w') ∧
    (∀ W, Calls Tryz.prog 54 #[.agg #[.int .i64 k, .int .i64 mn, .int .i64 mx, .int .i64 sp, .int .i64 sl], .int .i64 st] W fun e w' => e = .returned (.tuple #[.agg #[.int .i64 q0, .int .i64 q1, .int .i64 q2, .int .i64 q3, .int .i64 q4, .int .i64 q5, .int .i64 q6, .int .i64 q7, .int .i64 q8, .slice none 0 0], .bool B]) ∧ Below W.heap.size W w') := by
  by_cases hk : limOk k mn mx sp sl st 0 0 sp []
  · have hs : 1 ≤ sp ∧ sp ≤ 100000 := ⟨hk.1.2.2.2.2.1, hk.1.2.2.2.2.2.1⟩
    refine ⟨k, mn, mx, sp, sl, st, 0, 0, sp, true, ⟨fun _ => hk, fun _ => rfl⟩, fun _ => ⟨rfl, rfl, rfl, rfl, rfl, rfl, rfl, rfl, rfl⟩, fun W => (LimNews.spec_new_yes k mn mx sp sl st W hk).mono ?_, fun W => (LimNews.impl_new_yes k mn mx sp sl st W hk hs).mono ?_⟩
    all_goals
      rintro e w' ⟨v, rfl, h, hb⟩
      rcases h with h | h
      · exact ⟨by rw [h.2], hb⟩
      · cases h.1
  · have hz : ∀ W, Calls Tryz.prog 54 #[.agg #[.int .i64 k, .int .i64 mn, .int .i64 mx, .int .i64 sp, .int .i64 sl], .int .i64 st] W (LimNews.NewAns W k mn mx sp sl st false) := fun W => by
      by_cases hs : 1 ≤ sp ∧ sp ≤ 100000
      · exact LimNews.impl_new_no k mn mx sp sl st W hk hs
      · exact LimNews.impl_new_span k mn mx sp sl st W (fun h => hs ⟨h.1.2.2.2.2.1, h.1.2.2.2.2.2.1⟩) hs
    refine ⟨0, 0, 0, 0, 0, 0, 0, 0, 0, false, ⟨fun h => Bool.noConfusion h, fun h => (hk h).elim⟩, fun h => Bool.noConfusion h, fun W => (LimNews.spec_new_no k mn mx sp sl st W hk).mono ?_, fun W => (hz W).mono ?_⟩
    all_goals
      rintro e w' ⟨v, rfl, h, hb⟩
      rcases h with h | h
      · cases h.1
      · exact ⟨by rw [h.2], hb⟩
/-- A queue's. -/
theorem queue_part (n : Int) : ∃ (y : Int) (B : Bool), (B = true ↔ 0 ≤ n ∧ n ≤ 50) ∧ (B = true → y = n) ∧
    (∀ W, Calls Tryz.prog 76 #[.int .i64 n] W fun e w' => ∃ (a2 : Option Addr) (c2 : Nat), e = .returned (.tuple #[.agg #[.int .i64 y, .slice a2 0 c2], .bool B]) ∧ Below W.heap.size W w') ∧
    (∀ W, Calls Tryz.prog 55 #[.int .i64 n] W fun e w' => ∃ (a2 : Option Addr) (c2 : Nat), e = .returned (.tuple #[.agg #[.int .i64 y, .slice a2 0 c2], .bool B]) ∧ Below W.heap.size W w') := by
  refine ⟨QueMiscS.newRoom n, QueMiscS.roomOk n, by simp [QueMiscS.roomOk], fun h => by unfold QueMiscS.newRoom; rw [h]; rfl, fun W => (QueMiscS.spec_queuenew n W).mono ?_, fun W => (QueNewI.impl_queuenew n W).mono ?_⟩
  all_goals
    rintro e w' ⟨a2, c2, rfl, _, _, hb⟩
    exact ⟨a2, c2, rfl, hb⟩
/-- That of a queue that may be slow. -/
theorem codel_part (t v : Int) : ∃ (d0 d1 d2 : Int) (d3 : Bool) (d4 d5 : Int) (B : Bool), (B = true ↔ 0 ≤ t ∧ t ≤ 100000 ∧ 1 ≤ v ∧ v ≤ 100000) ∧ (B = true → d0 = t ∧ d1 = v ∧ d2 = 0 ∧ d3 = false ∧ d4 = 0 ∧ d5 = 0) ∧
    (∀ W, Calls Tryz.prog 77 #[.int .i64 t, .int .i64 v] W fun e w' => e = .returned (.tuple #[.agg #[.int .i64 d0, .int .i64 d1, .int .i64 d2, .bool d3, .int .i64 d4, .int .i64 d5], .bool B]) ∧ Below W.heap.size W w') ∧
    (∀ W, Calls Tryz.prog 56 #[.int .i64 t, .int .i64 v] W fun e w' => e = .returned (.tuple #[.agg #[.int .i64 d0, .int .i64 d1, .int .i64 d2, .bool d3, .int .i64 d4, .int .i64 d5], .bool B]) ∧ Below W.heap.size W w') := by
  obtain ⟨⟨d0, d1, d2, d3, d4, d5⟩, hq⟩ : ∃ q, (if CodSeeS.newOk t v = true then (⟨t, v, 0, false, 0, 0⟩ : CodKit.Cod) else CodKit.zero) = q := ⟨_, rfl⟩
  have hS := fun w => CodSeeS.spec_codelnew t v w
  have hI := fun w => CodSeeI.impl_codelnew t v w
  rw [hq] at hS hI
  refine ⟨d0, d1, d2, d3, d4, d5, CodSeeS.newOk t v, by simp [CodSeeS.newOk, CodKit.codOk], fun h => ?_, hS, hI⟩
  rw [if_pos h] at hq
  injection hq with e0 e1 e2 e3 e4 e5
  exact ⟨e0.symm, e1.symm, e2.symm, e3.symm, e4.symm, e5.symm⟩
/-- A bucket's. -/
theorem bucket_part (b r : Int) : ∃ (u0 u1 u2 : Int) (B : Bool), (B = true ↔ bOk b r (1000 * b) 0) ∧ (B = true → u0 = b ∧ u1 = r ∧ u2 = 1000 * b) ∧
    (∀ W, Calls Tryz.prog 78 #[.int .i64 b, .int .i64 r] W fun e w' => e = .returned (.tuple #[.agg #[.int .i64 u0, .int .i64 u1, .int .i64 u2, .int .i64 0], .bool B]) ∧ Below W.heap.size W w') ∧
    (∀ W, Calls Tryz.prog 57 #[.int .i64 b, .int .i64 r] W fun e w' => e = .returned (.tuple #[.agg #[.int .i64 u0, .int .i64 u1, .int .i64 u2, .int .i64 0], .bool B]) ∧ Below W.heap.size W w') := by
  obtain ⟨B, hB⟩ : ∃ B : Bool, (B = true ↔ bOk b r (1000 * b) 0) := by
    by_cases h : bOk b r (1000 * b) 0
    · exact ⟨true, fun _ => h, fun _ => rfl⟩
    · exact ⟨false, fun h => Bool.noConfusion h, fun k => (h k).elim⟩
  exact ⟨if B then b else 0, if B then r else 0, if B then 1000 * b else 0, B, hB, fun h => by rw [h]; exact ⟨rfl, rfl, rfl⟩, fun W => BucketMore.spec_bnew b r B W hB, fun W => BucketImpl.impl_bnew b r B W hB⟩
end Go.Proofs.YtnabnghjejncpaaGreat.AdmParts
