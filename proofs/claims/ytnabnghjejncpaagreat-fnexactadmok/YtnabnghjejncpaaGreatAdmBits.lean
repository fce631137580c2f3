/- Two configurations of a limit held against each other; a window's samples as pairs; no condition but those written in each. -/
import Derived.Laws.StructEq
import Derived.Test.YtnabnghjejncpaaGreatRows
import Derived.WalkKit
import Derived.WalkSmall
import Derived.Test.YtnabnghjejncpaaGreatListKit
import Derived.Test.YtnabnghjejncpaaGreatSampleKit
import Derived.Test.YtnabnghjejncpaaGreatLimAll
namespace Go.Proofs.YtnabnghjejncpaaGreat.AdmBits
open Go.RowKit ListKit
set_option linter.unusedVariables false
set_option linter.unusedSimpArgs false

set_option maxHeartbeats 1000000 in
theorem neq_cfg (a0 a1 a2 a3 a4 b0 b1 b2 b3 b4 : Int) (D : Bool) (hD : D = true ↔ ¬ (a0 = b0 ∧ a1 = b1 ∧ a2 = b2 ∧ a3 = b3 ∧ a4 = b4)) (w : World) :
    (binOp .neq 45 (.agg #[.int .i64 a0, .int .i64 a1, .int .i64 a2, .int .i64 a3, .int .i64 a4]) (.agg #[.int .i64 b0, .int .i64 b1, .int .i64 b2, .int .i64 b3, .int .i64 b4])).run Tryz.prog w = .ok (.bool D) w := by
  have iu3 := Tryz.underlying3
  have ia3 := Tryz.isAgg3
  have iz3 := Tryz.sizeOf3
  have hS : Tryz.prog.underlying 45 = some (.struct (Tryz.prog.fieldsOf 45)) := by kernel_rfl
  have hp : Tryz.prog.stoodInHeld 45 = false := by kernel_rfl
  rw [run_neq_struct, show (10000 : Nat) = 9999 + 1 from rfl, run_equalIn_agg w 9999 45 _ _ hS hp]
  simp only [Program.fieldsOf, Tryz.underlying45]
  by_cases h0 : a0 = b0
  · subst h0
    by_cases h1 : a1 = b1
    · subst h1
      by_cases h2 : a2 = b2
      · subst h2
        by_cases h3 : a3 = b3
        · subst h3
          by_cases h4 : a4 = b4
          · subst h4
            obtain rfl : D = false := by
              cases D with
              | false => rfl
              | true => exact (hD.1 rfl ⟨rfl, rfl, rfl, rfl, rfl⟩).elim
            clear hD
            go_simp
          · obtain rfl : D = true := hD.2 (fun h => h4 h.2.2.2.2)
            clear hD
            have e4 : (a4 == b4) = false := by simpa using h4
            go_simp
        · obtain rfl : D = true := hD.2 (fun h => h3 h.2.2.2.1)
          clear hD
          have e3 : (a3 == b3) = false := by simpa using h3
          go_simp
      · obtain rfl : D = true := hD.2 (fun h => h2 h.2.2.1)
        clear hD
        have e2 : (a2 == b2) = false := by simpa using h2
        go_simp
    · obtain rfl : D = true := hD.2 (fun h => h1 h.2.1)
      clear hD
      have e1 : (a1 == b1) = false := by simpa using h1
      go_simp
  · obtain rfl : D = true := hD.2 (fun h => h0 h.1)
    clear hD
    have e0 : (a0 == b0) = false := by simpa using h0
    go_simp
/-- A window's samples as pairs. -/
def prs (L : List SampleKit.Sample) : List (Int × Int) := L.map fun s => (s.x0, s.x1)
theorem prs_len (L : List SampleKit.Sample) : (prs L).length = L.length := List.length_map _
theorem wok_of_own {w : World} {a : Option Addr} {L : List SampleKit.Sample} (h : Own 155 2 SampleKit.cells w a L) : PairWalks.WOk w a (prs L) := by
  rcases h with h | ⟨g, o, ha, cur, hg, hs, hc⟩
  · exact Or.inl (by rw [h]; rfl)
  · refine Or.inr ⟨g, o, ha, cur, hg, by rw [prs_len]; exact hs, fun i hi => ?_⟩
    have hi2 : i < L.length := by rw [prs_len] at hi; exact hi
    have h0 := hc i hi2 0 (by omega)
    have h1 := hc i hi2 1 (by omega)
    simp only [prs, List.getElem_map]
    exact ⟨by simpa [SampleKit.cells] using h0, by simpa [SampleKit.cells] using h1⟩
end Go.Proofs.YtnabnghjejncpaaGreat.AdmBits
