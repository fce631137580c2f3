/- The parts of a machine, each by itself, without what its configuration and its clock are; no condition. -/
import Derived.Test.YtnabnghjejncpaaGreatRows
import Derived.WalkKit
import Derived.Test.YtnabnghjejncpaaGreatAdmPartP
import Derived.Test.YtnabnghjejncpaaGreatAdmKnownP
namespace Go.Proofs.YtnabnghjejncpaaGreat.AdmOwnP
open Go.RowKit AdmBits AdmPartP AdmKnownP BucketMath
open LimSpec (limOk)
set_option linter.unusedVariables false

def ownOk (x0 x1 x2 x3 x4 x5 x6 x7 x8 x9 x10 x11 x12 x13 x14 x15 x16 x17 x18 x19 x20 x21 x22 x23 x26 x29 x30 x31 x32 : Int) (L24 : List SampleKit.Sample) (L25 : List SlotKit.Slot) (L27 : List ReqKit.Req) (L28 : List CodelKit.Codel) (L33 : List Int) : Prop := limOk x15 x16 x17 x18 x19 x20 x21 x22 x23 (prs L24) ∧ (x15 = x0 ∧ x16 = x1 ∧ x17 = x2 ∧ x18 = x3 ∧ x19 = x4) ∧ LedOk.ledOk L25 ∧ QueMath.QueOk x26 L27 ∧ x26 = x8 ∧ bOk x29 x30 x31 x32 ∧ x29 = x12 ∧ x30 = x13 ∧ (L28.length : Int) = x7 ∧ (∀ (i : Nat) (h : i < L28.length), slowOk x10 x11 L28[i]) ∧ knownOk L33
end Go.Proofs.YtnabnghjejncpaaGreat.AdmOwnP
