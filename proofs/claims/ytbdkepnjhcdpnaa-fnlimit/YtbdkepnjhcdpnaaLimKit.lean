/- What the laws' helpers on limits do: a limit is copied whole, found equal to its like, marked and found marked; nothing else turns; no condition but those written in each. -/
import Derived.Test.YtbdkepnjhcdpnaaRows
import Derived.WalkKit
import Derived.WalkSmall
import Derived.BigQuiet
import Derived.Test.YtbdkepnjhcdpnaaPairWalks
import Derived.Test.YtbdkepnjhcdpnaaMarkKit
namespace Go.Proofs.Ytbdkepnjhcdpnaa.LimKit
open Go.RowKit PairWalks MarkKit

theorem bcell {W w1 : World} (hb : Below W.heap.size W w1) : (∀ b o, b < W.heap.size → w1.cell? ⟨b, o, none⟩ = W.cell? ⟨b, o, none⟩) ∧ (∀ b o, b < W.heap.size → w1.frozen? ⟨b, o, none⟩ = W.frozen? ⟨b, o, none⟩) :=
  ⟨fun b o h => hb.cell (p := ⟨b, o, none⟩) h, fun b o h => hb.frozen (p := ⟨b, o, none⟩) h⟩

theorem _root_.Go.Proofs.Ytbdkepnjhcdpnaa.PairWalks.PRow.set {w : World} {g o : Nat} {L : List (Int × Int)} {p : Addr} (h : PRow w g o L) (hne : g ≠ p.block) (v : Value) : PRow (w.setCell p v) g o L := h.same (Below.heap_setCell _ _ _ _ hne)

end Go.Proofs.Ytbdkepnjhcdpnaa.LimKit
