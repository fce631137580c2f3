/- The parts of a machine, each by itself; no condition. -/
import Derived.Test.YtnabnghjejncpaaGreatRows
import Derived.WalkKit
import Derived.Test.YtnabnghjejncpaaGreatAdmKit
import Derived.Test.YtnabnghjejncpaaGreatAdmBits
import Derived.Test.YtnabnghjejncpaaGreatCodAll
import Derived.Test.YtnabnghjejncpaaGreatCodelKit
import Derived.Test.YtnabnghjejncpaaGreatLedOk
import Derived.Test.YtnabnghjejncpaaGreatQueAll
namespace Go.Proofs.YtnabnghjejncpaaGreat.AdmPartP
open Go.RowKit AdmKit AdmBits BucketMath
open LimSpec (limOk)
set_option linter.unusedVariables false

/-- A queue that may be slow, as it stands in a list. -/
def codOf (s : CodelKit.Codel) : CodKit.Cod := ⟨s.x0, s.x1, s.x2, s.x3, s.x4, s.x5⟩
def slowOk (t v : Int) (s : CodelKit.Codel) : Prop := CodKit.codOk (codOf s) = true ∧ s.x0 = t ∧ s.x1 = v
def headOk (x0 x1 x2 x3 x4 x5 x6 x7 x8 x9 x10 x11 x12 x13 x14 x15 x16 x17 x18 x19 x20 x21 x22 x23 x26 x29 x30 x31 x32 : Int) (L24 : List SampleKit.Sample) (L25 : List SlotKit.Slot) (L27 : List ReqKit.Req) (L28 : List CodelKit.Codel) : Prop := cfgGood x0 x1 x2 x3 x4 x5 x6 x7 x8 x9 x10 x11 x12 x13 ∧ (0 ≤ x14 ∧ x14 ≤ 1000000000) ∧ limOk x15 x16 x17 x18 x19 x20 x21 x22 x23 (prs L24) ∧ (x15 = x0 ∧ x16 = x1 ∧ x17 = x2 ∧ x18 = x3 ∧ x19 = x4) ∧ LedOk.ledOk L25 ∧ QueMath.QueOk x26 L27 ∧ x26 = x8 ∧ (L28.length : Int) = x7
def tailOk (x12 x13 x14 x29 x30 x31 x32 : Int) : Prop := bOk x29 x30 x31 x32 ∧ x29 = x12 ∧ x30 = x13 ∧ x32 ≤ x14
def partsOk (x0 x1 x2 x3 x4 x5 x6 x7 x8 x9 x10 x11 x12 x13 x14 x15 x16 x17 x18 x19 x20 x21 x22 x23 x26 x29 x30 x31 x32 : Int) (L24 : List SampleKit.Sample) (L25 : List SlotKit.Slot) (L27 : List ReqKit.Req) (L28 : List CodelKit.Codel) : Prop := headOk x0 x1 x2 x3 x4 x5 x6 x7 x8 x9 x10 x11 x12 x13 x14 x15 x16 x17 x18 x19 x20 x21 x22 x23 x26 x29 x30 x31 x32 L24 L25 L27 L28 ∧ (∀ (i : Nat) (h : i < L28.length), slowOk x10 x11 L28[i]) ∧ tailOk x12 x13 x14 x29 x30 x31 x32
end Go.Proofs.YtnabnghjejncpaaGreat.AdmPartP
