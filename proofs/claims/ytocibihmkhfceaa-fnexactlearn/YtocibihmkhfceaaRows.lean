/-
  No cell of these rows narrows 'for every input' (looked for: loops, veiled, ifaces, maps, wideKeys, modest, calm, conditions, laid).
  DERIVED. THE GIVEN ROWS OF THIS SEAT. 7 by the template 'for every input the law returns true; each argument reads behind the call as it read before'; 0 by the template 'total and deterministic' (their statements: YtocibihmkhfceaaTotals.lean).
  GIVEN WITH THE SEED: the statements are not yours to turn. If you find one false, say at which input.
  Laid BY PROGRAM, IN A SANDBOX (cutbox-rows.mjs): the forced cells as the released guide's own fill.sh prints them over the translation 8fa1b4c1bab6e26c… (all of the seat's roots in one cut). By AI agents, Wed Nov 11 2026. No macro, syntax, notation, axiom, sorry.
-/
import Derived.Test.YtocibihmkhfceaaChecked
import GoSem.Claim
import GoSem.ClaimJoined
import GoSem.ClaimMapViews
import Derived.JoinedTies
import Derived.KernelRfl
namespace Go.Proofs.Ytocibihmkhfceaa
/- THE CELL 'sum', in the pinned program and in every row, IS THE sha256 OF THE DUMP (.gsa) THAT YtocibihmkhfceaaProg.lean LOADS. Nothing in Lean hashes anything: it is a label: what it is worth is what the hold of that sum in a sandbox is worth. -/
noncomputable def Try.pinned : Pinned := { name := "ytocibihmkhfceaa", sum := "8fa1b4c1bab6e26ce2f7ac5385746affe1ebcb93cd58acb0efa99e51eabf64b8", checked := Try.checked }
namespace Rows
def none {H : Type} : Left H := { results := [], args := [] }

/-- 'laws.FnExactLimCfgOk': WHATEVER THE INPUT: true; the input reads as it did. -/
def fnExactLimCfgOkSpec : ChangeSpec := { name := "fnExactLimCfgOk", fn := fun _ => fun
  | [d] => { results := [.lit (.bool true)], args := [d] }
  | _ => none }
def fnExactLimCfgOkRow : OpenClaim := { program := "ytocibihmkhfceaa", sum := "8fa1b4c1bab6e26ce2f7ac5385746affe1ebcb93cd58acb0efa99e51eabf64b8", func := "loop.example/g00685/laws.FnExactLimCfgOk", spec := "fnExactLimCfgOk", apart := false }
def FnExactLimCfgOkSaid : Prop := fnExactLimCfgOkRow.holds Try.pinned (OpenSpec.ofChange fnExactLimCfgOkSpec)

/-- ITS FALSE NEIGHBOUR: 'it returns false'. Refute it at one input. -/
def fnExactLimCfgOkWrong : ChangeSpec := { name := "fnExactLimCfgOk", fn := fun _ => fun
  | [d] => { results := [.lit (.bool false)], args := [d] }
  | _ => none }
def FnExactLimCfgOkWrongFalsely : Prop := fnExactLimCfgOkRow.holds Try.pinned (OpenSpec.ofChange fnExactLimCfgOkWrong)

/-- 'laws.FnExactLimOk': WHATEVER THE INPUT: true; the input reads as it did. -/
def fnExactLimOkSpec : ChangeSpec := { name := "fnExactLimOk", fn := fun _ => fun
  | [d] => { results := [.lit (.bool true)], args := [d] }
  | _ => none }
def fnExactLimOkRow : OpenClaim := { program := "ytocibihmkhfceaa", sum := "8fa1b4c1bab6e26ce2f7ac5385746affe1ebcb93cd58acb0efa99e51eabf64b8", func := "loop.example/g00685/laws.FnExactLimOk", spec := "fnExactLimOk", apart := false }
def FnExactLimOkSaid : Prop := fnExactLimOkRow.holds Try.pinned (OpenSpec.ofChange fnExactLimOkSpec)

/-- ITS FALSE NEIGHBOUR: 'it returns false'. Refute it at one input. -/
def fnExactLimOkWrong : ChangeSpec := { name := "fnExactLimOk", fn := fun _ => fun
  | [d] => { results := [.lit (.bool false)], args := [d] }
  | _ => none }
def FnExactLimOkWrongFalsely : Prop := fnExactLimOkRow.holds Try.pinned (OpenSpec.ofChange fnExactLimOkWrong)

/-- 'laws.FnExactLimNew': WHATEVER THE INPUT: true; the input reads as it did. -/
def fnExactLimNewSpec : ChangeSpec := { name := "fnExactLimNew", fn := fun _ => fun
  | [d1, d2] => { results := [.lit (.bool true)], args := [d1, d2] }
  | _ => none }
def fnExactLimNewRow : OpenClaim := { program := "ytocibihmkhfceaa", sum := "8fa1b4c1bab6e26ce2f7ac5385746affe1ebcb93cd58acb0efa99e51eabf64b8", func := "loop.example/g00685/laws.FnExactLimNew", spec := "fnExactLimNew", apart := false }
def FnExactLimNewSaid : Prop := fnExactLimNewRow.holds Try.pinned (OpenSpec.ofChange fnExactLimNewSpec)

/-- ITS FALSE NEIGHBOUR: 'it returns false'. Refute it at one input. -/
def fnExactLimNewWrong : ChangeSpec := { name := "fnExactLimNew", fn := fun _ => fun
  | [d1, d2] => { results := [.lit (.bool false)], args := [d1, d2] }
  | _ => none }
def FnExactLimNewWrongFalsely : Prop := fnExactLimNewRow.holds Try.pinned (OpenSpec.ofChange fnExactLimNewWrong)

/-- 'laws.FnExactBack': WHATEVER THE INPUT: true; the input reads as it did. -/
def fnExactBackSpec : ChangeSpec := { name := "fnExactBack", fn := fun _ => fun
  | [d] => { results := [.lit (.bool true)], args := [d] }
  | _ => none }
def fnExactBackRow : OpenClaim := { program := "ytocibihmkhfceaa", sum := "8fa1b4c1bab6e26ce2f7ac5385746affe1ebcb93cd58acb0efa99e51eabf64b8", func := "loop.example/g00685/laws.FnExactBack", spec := "fnExactBack", apart := false }
def FnExactBackSaid : Prop := fnExactBackRow.holds Try.pinned (OpenSpec.ofChange fnExactBackSpec)

/-- ITS FALSE NEIGHBOUR: 'it returns false'. Refute it at one input. -/
def fnExactBackWrong : ChangeSpec := { name := "fnExactBack", fn := fun _ => fun
  | [d] => { results := [.lit (.bool false)], args := [d] }
  | _ => none }
def FnExactBackWrongFalsely : Prop := fnExactBackRow.holds Try.pinned (OpenSpec.ofChange fnExactBackWrong)

/-- 'laws.FnExactSteps': WHATEVER THE INPUT: true; the input reads as it did. -/
def fnExactStepsSpec : ChangeSpec := { name := "fnExactSteps", fn := fun _ => fun
  | [d1, d2] => { results := [.lit (.bool true)], args := [d1, d2] }
  | _ => none }
def fnExactStepsRow : OpenClaim := { program := "ytocibihmkhfceaa", sum := "8fa1b4c1bab6e26ce2f7ac5385746affe1ebcb93cd58acb0efa99e51eabf64b8", func := "loop.example/g00685/laws.FnExactSteps", spec := "fnExactSteps", apart := false }
def FnExactStepsSaid : Prop := fnExactStepsRow.holds Try.pinned (OpenSpec.ofChange fnExactStepsSpec)

/-- ITS FALSE NEIGHBOUR: 'it returns false'. Refute it at one input. -/
def fnExactStepsWrong : ChangeSpec := { name := "fnExactSteps", fn := fun _ => fun
  | [d1, d2] => { results := [.lit (.bool false)], args := [d1, d2] }
  | _ => none }
def FnExactStepsWrongFalsely : Prop := fnExactStepsRow.holds Try.pinned (OpenSpec.ofChange fnExactStepsWrong)

/-- 'laws.FnExactSlope': WHATEVER THE INPUT: true; the input reads as it did. -/
def fnExactSlopeSpec : ChangeSpec := { name := "fnExactSlope", fn := fun _ => fun
  | [d1, d2, d3] => { results := [.lit (.bool true)], args := [d1, d2, d3] }
  | _ => none }
def fnExactSlopeRow : OpenClaim := { program := "ytocibihmkhfceaa", sum := "8fa1b4c1bab6e26ce2f7ac5385746affe1ebcb93cd58acb0efa99e51eabf64b8", func := "loop.example/g00685/laws.FnExactSlope", spec := "fnExactSlope", unfollowed := true, recurses := true, named := ["math/bits.divideError", "math/bits.overflowError"], apart := false }
def FnExactSlopeSaid : Prop := fnExactSlopeRow.holds Try.pinned (OpenSpec.ofChange fnExactSlopeSpec)

/-- ITS FALSE NEIGHBOUR: 'it returns false'. Refute it at one input. -/
def fnExactSlopeWrong : ChangeSpec := { name := "fnExactSlope", fn := fun _ => fun
  | [d1, d2, d3] => { results := [.lit (.bool false)], args := [d1, d2, d3] }
  | _ => none }
def FnExactSlopeWrongFalsely : Prop := fnExactSlopeRow.holds Try.pinned (OpenSpec.ofChange fnExactSlopeWrong)

/-- 'laws.FnExactLearn': WHATEVER THE INPUT: true; the input reads as it did. -/
def fnExactLearnSpec : ChangeSpec := { name := "fnExactLearn", fn := fun _ => fun
  | [d1, d2, d3, d4] => { results := [.lit (.bool true)], args := [d1, d2, d3, d4] }
  | _ => none }
def fnExactLearnRow : OpenClaim := { program := "ytocibihmkhfceaa", sum := "8fa1b4c1bab6e26ce2f7ac5385746affe1ebcb93cd58acb0efa99e51eabf64b8", func := "loop.example/g00685/laws.FnExactLearn", spec := "fnExactLearn", unfollowed := true, recurses := true, apart := false }
def FnExactLearnSaid : Prop := fnExactLearnRow.holds Try.pinned (OpenSpec.ofChange fnExactLearnSpec)

/-- ITS FALSE NEIGHBOUR: 'it returns false'. Refute it at one input. -/
def fnExactLearnWrong : ChangeSpec := { name := "fnExactLearn", fn := fun _ => fun
  | [d1, d2, d3, d4] => { results := [.lit (.bool false)], args := [d1, d2, d3, d4] }
  | _ => none }
def FnExactLearnWrongFalsely : Prop := fnExactLearnRow.holds Try.pinned (OpenSpec.ofChange fnExactLearnWrong)

/- THE SECOND FORM. 'bulk': how many values and letters a reading holds, each counted each time it is reached (what is shared counts as often as it is met; a slice's spare places count too). A statement '..UptoSaid' is the law's where the arguments, and the package variables that the reading takes, are together of bulk at most 1048576: NARROWER than '..Said'. Prove '..Said' where nothing that the law and all that it calls make is longer than what came in: it says more and counts as full. Else prove '..UptoSaid'. A law counts once. -/
mutual
def uptoBulk {H : Type} : DataW H → Nat
  | .lit (.string bytes) => bytes.length + 1
  | .lit _ => 1
  | .nil => 1
  | .ptr d => uptoBulk d + 1
  | .slice elems spare => uptoBulkAll elems + uptoBulkAll spare + 1
  | .agg parts => uptoBulkAll parts + 1
  | .iface _ d => uptoBulk d + 1
  | .map entries => uptoBulkEntries entries + 1
  | .held _ => 1
def uptoBulkAll {H : Type} : List (DataW H) → Nat
  | [] => 0
  | d :: r => uptoBulk d + uptoBulkAll r
def uptoBulkEntries {H : Type} : List (Lit × DataW H) → Nat
  | [] => 0
  | x :: r => uptoBulkEntry x + uptoBulkEntries r
def uptoBulkEntry {H : Type} : Lit × DataW H → Nat
  | (.string bytes, d) => bytes.length + uptoBulk d + 1
  | (_, d) => uptoBulk d + 1
 end
def uptoSmall : (H : Type) → List (DataW H) → Bool := fun _ ds => decide (uptoBulkAll ds ≤ 1048576)
def OpenSpec.upto (s : _root_.Go.ChangeSpec) : _root_.Go.OpenSpec := { _root_.Go.OpenSpec.ofChange s with cond := some uptoSmall }

/-- 'laws.FnExactLimCfgOk', WHERE WHAT IT READS IS OF BULK AT MOST 1048576: true; the input reads as it did. -/
def fnExactLimCfgOkUptoRow : OpenClaim := { program := "ytocibihmkhfceaa", sum := "8fa1b4c1bab6e26ce2f7ac5385746affe1ebcb93cd58acb0efa99e51eabf64b8", func := "loop.example/g00685/laws.FnExactLimCfgOk", spec := "fnExactLimCfgOk", apart := false, narrowed := true }
def FnExactLimCfgOkUptoSaid : Prop := fnExactLimCfgOkUptoRow.holds Try.pinned (OpenSpec.upto fnExactLimCfgOkSpec)

/-- 'laws.FnExactLimOk', WHERE WHAT IT READS IS OF BULK AT MOST 1048576: true; the input reads as it did. -/
def fnExactLimOkUptoRow : OpenClaim := { program := "ytocibihmkhfceaa", sum := "8fa1b4c1bab6e26ce2f7ac5385746affe1ebcb93cd58acb0efa99e51eabf64b8", func := "loop.example/g00685/laws.FnExactLimOk", spec := "fnExactLimOk", apart := false, narrowed := true }
def FnExactLimOkUptoSaid : Prop := fnExactLimOkUptoRow.holds Try.pinned (OpenSpec.upto fnExactLimOkSpec)

/-- 'laws.FnExactLimNew', WHERE WHAT IT READS IS OF BULK AT MOST 1048576: true; the input reads as it did. -/
def fnExactLimNewUptoRow : OpenClaim := { program := "ytocibihmkhfceaa", sum := "8fa1b4c1bab6e26ce2f7ac5385746affe1ebcb93cd58acb0efa99e51eabf64b8", func := "loop.example/g00685/laws.FnExactLimNew", spec := "fnExactLimNew", apart := false, narrowed := true }
def FnExactLimNewUptoSaid : Prop := fnExactLimNewUptoRow.holds Try.pinned (OpenSpec.upto fnExactLimNewSpec)

/-- 'laws.FnExactBack', WHERE WHAT IT READS IS OF BULK AT MOST 1048576: true; the input reads as it did. -/
def fnExactBackUptoRow : OpenClaim := { program := "ytocibihmkhfceaa", sum := "8fa1b4c1bab6e26ce2f7ac5385746affe1ebcb93cd58acb0efa99e51eabf64b8", func := "loop.example/g00685/laws.FnExactBack", spec := "fnExactBack", apart := false, narrowed := true }
def FnExactBackUptoSaid : Prop := fnExactBackUptoRow.holds Try.pinned (OpenSpec.upto fnExactBackSpec)

/-- 'laws.FnExactSteps', WHERE WHAT IT READS IS OF BULK AT MOST 1048576: true; the input reads as it did. -/
def fnExactStepsUptoRow : OpenClaim := { program := "ytocibihmkhfceaa", sum := "8fa1b4c1bab6e26ce2f7ac5385746affe1ebcb93cd58acb0efa99e51eabf64b8", func := "loop.example/g00685/laws.FnExactSteps", spec := "fnExactSteps", apart := false, narrowed := true }
def FnExactStepsUptoSaid : Prop := fnExactStepsUptoRow.holds Try.pinned (OpenSpec.upto fnExactStepsSpec)

/-- 'laws.FnExactSlope', WHERE WHAT IT READS IS OF BULK AT MOST 1048576: true; the input reads as it did. -/
def fnExactSlopeUptoRow : OpenClaim := { program := "ytocibihmkhfceaa", sum := "8fa1b4c1bab6e26ce2f7ac5385746affe1ebcb93cd58acb0efa99e51eabf64b8", func := "loop.example/g00685/laws.FnExactSlope", spec := "fnExactSlope", unfollowed := true, recurses := true, named := ["math/bits.divideError", "math/bits.overflowError"], apart := false, narrowed := true }
def FnExactSlopeUptoSaid : Prop := fnExactSlopeUptoRow.holds Try.pinned (OpenSpec.upto fnExactSlopeSpec)

/-- 'laws.FnExactLearn', WHERE WHAT IT READS IS OF BULK AT MOST 1048576: true; the input reads as it did. -/
def fnExactLearnUptoRow : OpenClaim := { program := "ytocibihmkhfceaa", sum := "8fa1b4c1bab6e26ce2f7ac5385746affe1ebcb93cd58acb0efa99e51eabf64b8", func := "loop.example/g00685/laws.FnExactLearn", spec := "fnExactLearn", unfollowed := true, recurses := true, apart := false, narrowed := true }
def FnExactLearnUptoSaid : Prop := fnExactLearnUptoRow.holds Try.pinned (OpenSpec.upto fnExactLearnSpec)

end Rows
end Go.Proofs.Ytocibihmkhfceaa
