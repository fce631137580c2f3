/- A machine is right; no condition. -/
import Derived.Test.YtnabnghjejncpaaGreatRows
import Derived.WalkKit
import Derived.Test.YtnabnghjejncpaaGreatAdmPartP
import Derived.Test.YtnabnghjejncpaaGreatAdmKnownP
import Derived.Test.YtnabnghjejncpaaGreatLedCount
namespace Go.Proofs.YtnabnghjejncpaaGreat.AdmOkP
open Go.RowKit AdmPartP AdmKnownP
set_option linter.unusedVariables false

/-- A request that waits: its tier, its number, its time. -/
def waitOk (tiers now : Int) (K : List Int) (r : ReqKit.Req) : Prop := r.x1 < tiers ∧ r.x0 ∈ K ∧ r.x4 ≤ now
/-- A slot that flies: its request is known and doesn't wait, its time, its client. -/
def flyOk (most now : Int) (K : List Int) (Q : List ReqKit.Req) (S : List SlotKit.Slot) (s : SlotKit.Slot) : Prop := s.x1 = true → (s.x2 ∈ K ∧ (∀ (j : Nat) (h : j < Q.length), Q[j].x0 ≠ s.x2) ∧ s.x4 ≤ now ∧ (LedCount.cnt (LedCount.isBy s.x3) S S.length : Int) ≤ most)
def admOk (x0 x1 x2 x3 x4 x5 x6 x7 x8 x9 x10 x11 x12 x13 x14 x15 x16 x17 x18 x19 x20 x21 x22 x23 x26 x29 x30 x31 x32 : Int) (L24 : List SampleKit.Sample) (L25 : List SlotKit.Slot) (L27 : List ReqKit.Req) (L28 : List CodelKit.Codel) (L33 : List Int) : Prop := partsOk x0 x1 x2 x3 x4 x5 x6 x7 x8 x9 x10 x11 x12 x13 x14 x15 x16 x17 x18 x19 x20 x21 x22 x23 x26 x29 x30 x31 x32 L24 L25 L27 L28 ∧ knownOk L33 ∧ (∀ (i : Nat) (h : i < L27.length), waitOk x7 x14 L33 L27[i]) ∧ (∀ (i : Nat) (h : i < L25.length), flyOk x6 x14 L33 L27 L25 L25[i])
end Go.Proofs.YtnabnghjejncpaaGreat.AdmOkP
