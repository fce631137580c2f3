/- What the model's WindowOk answers at every window of at most 2 to the 20 samples: whether it is right, and nothing else turns. -/
import Derived.Test.YtnjjpfdhadmndaaRows
import Derived.Test.YtnjjpfdhadmndaaPairWalks
import Derived.WalkKit
import Derived.WalkSmall
import Derived.BigQuiet
namespace Go.Proofs.Ytnjjpfdhadmndaa.WinOk
open Go.RowKit PairWalks

theorem below_drewN {B : Nat} {w w1 : World} (h : Below B w w1) (n : Nat) : Below B w (w1.drewN n) := ⟨h.os, h.tape, h.output, h.size, h.block⟩

/-- A time and a latency. -/
def inB (p : Int × Int) : Prop := 0 ≤ p.1 ∧ p.1 ≤ 1000000000 ∧ 0 ≤ p.2 ∧ p.2 ≤ 1000000

/-- Sample i is in bounds, and behind its neighbour in both. -/
def okAt (L : List (Int × Int)) (i : Nat) (h : i < L.length) : Prop := inB L[i] ∧ (0 < i → (L[i - 1]'(by omega)).1 < L[i].1 ∧ (L[i - 1]'(by omega)).2 < L[i].2)

/-- A window is right. -/
def winOk (span : Int) (L : List (Int × Int)) : Prop := 1 ≤ span ∧ span ≤ 100000 ∧ L.length ≤ 200 ∧ ∀ (i : Nat) (h : i < L.length), okAt L i h

def winOkD (span : Int) (L : List (Int × Int)) : Decidable (winOk span L) := by
  unfold winOk okAt inB
  exact inferInstance

end Go.Proofs.Ytnjjpfdhadmndaa.WinOk
