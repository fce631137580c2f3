/- The model's and the program's CfgOk answer the same, at all arguments; nothing that was there turns. -/
import Derived.Test.YtnabnghjejncpaaRows
import Derived.WalkKit
import Derived.Test.YtnabnghjejncpaaListKit
import Derived.Test.YtnabnghjejncpaaHoldKit
import Derived.Test.YtnabnghjejncpaaAdmKit
import Derived.Test.YtnabnghjejncpaaAdmCfgS
import Derived.Test.YtnabnghjejncpaaAdmCfgI
namespace Go.Proofs.Ytnabnghjejncpaa.AdmBothCfg
open Go.RowKit ListKit HoldKit
set_option linter.unusedVariables false
set_option maxRecDepth 8000
set_option maxHeartbeats 2000000 in
theorem both_cfgok (pa0 : Int) (pa1 : Int) (pa2 : Int) (pa3 : Int) (pa4 : Int) (pa5 : Int) (pa6 : Int) (pa7 : Int) (pa8 : Int) (pa9 : Int) (pa10 : Int) (pa11 : Int) (pa12 : Int) (pa13 : Int)   : ∃ (qa : Bool),
    (∀ w, Calls Try.prog 8 #[.agg #[.int .i64 pa0, .int .i64 pa1, .int .i64 pa2, .int .i64 pa3, .int .i64 pa4, .int .i64 pa5, .int .i64 pa6, .int .i64 pa7, .int .i64 pa8, .int .i64 pa9, .int .i64 pa10, .int .i64 pa11, .int .i64 pa12, .int .i64 pa13]] w fun e w' => e = .returned (.bool qa) ∧ Below w.heap.size w w') ∧
    (∀ w, Calls Try.prog 10 #[.agg #[.int .i64 pa0, .int .i64 pa1, .int .i64 pa2, .int .i64 pa3, .int .i64 pa4, .int .i64 pa5, .int .i64 pa6, .int .i64 pa7, .int .i64 pa8, .int .i64 pa9, .int .i64 pa10, .int .i64 pa11, .int .i64 pa12, .int .i64 pa13]] w fun e w' => e = .returned (.bool qa) ∧ Below w.heap.size w w') := by
  obtain ⟨B, hB⟩ : ∃ B : Bool, (B = true ↔ AdmKit.cfgGood pa0 pa1 pa2 pa3 pa4 pa5 pa6 pa7 pa8 pa9 pa10 pa11 pa12 pa13) := by
    by_cases h : AdmKit.cfgGood pa0 pa1 pa2 pa3 pa4 pa5 pa6 pa7 pa8 pa9 pa10 pa11 pa12 pa13
    · exact ⟨true, fun _ => h, fun _ => rfl⟩
    · exact ⟨false, fun h => Bool.noConfusion h, fun k => (h k).elim⟩
  exact ⟨B, fun w => AdmCfgS.spec_cfgok pa0 pa1 pa2 pa3 pa4 pa5 pa6 pa7 pa8 pa9 pa10 pa11 pa12 pa13 B w hB, fun w => AdmCfgI.impl_cfgok pa0 pa1 pa2 pa3 pa4 pa5 pa6 pa7 pa8 pa9 pa10 pa11 pa12 pa13 B w hB⟩
end Go.Proofs.Ytnabnghjejncpaa.AdmBothCfg
