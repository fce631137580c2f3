/- The model's and the program's SeeAll answer the same, at all arguments; nothing that was there turns. -/
import Derived.Test.YtflngiakbhjnaaaRows
import Derived.WalkKit
import Derived.Test.YtflngiakbhjnaaaListKit
import Derived.Test.YtflngiakbhjnaaaHoldKit
import Derived.Test.YtflngiakbhjnaaaIntKit
import Derived.Test.YtflngiakbhjnaaaCodKit
import Derived.Test.YtflngiakbhjnaaaCodMath
import Derived.Test.YtflngiakbhjnaaaCodAllS
import Derived.Test.YtflngiakbhjnaaaCodAllI
namespace Go.Proofs.Ytflngiakbhjnaaa.CodBothAll
open Go.RowKit ListKit HoldKit CodKit
open CodMath CodAllS CodAllI
theorem both_seeall (x0 x1 x2 : Int) (x3 : Bool) (x4 x5 : Int) (now : Int) (ws : List Int) (h : ws.length ≤ 1048576) : ∃ (q0 q1 q2 : Int) (q3 : Bool) (q4 q5 : Int) (r : Int),
    (∀ a c w, Own 3 1 IntKit.cells w a ws → ws.length ≤ c → Calls Try.prog 18 #[.agg #[.int .i64 x0, .int .i64 x1, .int .i64 x2, .bool x3, .int .i64 x4, .int .i64 x5], .int .i64 now, .slice a ws.length c] w fun e w' => e = .returned (.tuple #[.agg #[.int .i64 q0, .int .i64 q1, .int .i64 q2, .bool q3, .int .i64 q4, .int .i64 q5], .int .i64 r]) ∧ Below w.heap.size w w') ∧
    (∀ a c w, Own 3 1 IntKit.cells w a ws → ws.length ≤ c → Calls Try.prog 20 #[.agg #[.int .i64 x0, .int .i64 x1, .int .i64 x2, .bool x3, .int .i64 x4, .int .i64 x5], .int .i64 now, .slice a ws.length c] w fun e w' => e = .returned (.tuple #[.agg #[.int .i64 q0, .int .i64 q1, .int .i64 q2, .bool q3, .int .i64 q4, .int .i64 q5], .int .i64 r]) ∧ Below w.heap.size w w') := by
  obtain ⟨B, hB⟩ : ∃ B : Bool, (B = true ↔ AllOk ⟨x0, x1, x2, x3, x4, x5⟩ now ws) := by
    by_cases h : AllOk ⟨x0, x1, x2, x3, x4, x5⟩ now ws
    · exact ⟨true, fun _ => h, fun _ => rfl⟩
    · exact ⟨false, fun h => Bool.noConfusion h, fun k => (h k).elim⟩
  obtain ⟨⟨q0, q1, q2, q3, q4, q5⟩, hq⟩ : ∃ q, (if B = true then (looks now ⟨x0, x1, x2, x3, x4, x5⟩ ws).1 else zero) = q := ⟨_, rfl⟩
  refine ⟨q0, q1, q2, q3, q4, q5, (if B = true then ((looks now ⟨x0, x1, x2, x3, x4, x5⟩ ws).2 : Int) else 0), fun a c w ho hc => ?_, fun a c w ho hc => ?_⟩
  · refine (spec_seeall x0 x1 x2 x3 x4 x5 now a c ws w ho h hc B hB).mono fun e w' hh => ?_
    obtain ⟨z0, z1, z2, z3, z4, z5, he, hz, hb⟩ := hh
    rw [hq] at hz
    injection hz with e0 e1 e2 e3 e4 e5
    subst e0 e1 e2 e3 e4 e5
    exact ⟨he, hb⟩
  · refine (impl_seeall x0 x1 x2 x3 x4 x5 now a c ws w ho h hc B hB).mono fun e w' hh => ?_
    obtain ⟨z0, z1, z2, z3, z4, z5, he, hz, hb⟩ := hh
    rw [hq] at hz
    injection hz with e0 e1 e2 e3 e4 e5
    subst e0 e1 e2 e3 e4 e5
    exact ⟨he, hb⟩
end Go.Proofs.Ytflngiakbhjnaaa.CodBothAll
