/- What the laws' helpers on lists of Int do: copied into new memory, found equal to its like, marked and found marked, and measured; nothing else turns; no condition but those written in each. -/
import Derived.Test.YtflngiakbhjnaaaRows
import Derived.WalkKit
import Derived.WalkSmall
import Derived.Test.YtflngiakbhjnaaaListKit
import Derived.Test.YtflngiakbhjnaaaHoldKit
import Derived.Test.YtflngiakbhjnaaaIntKit
import Derived.Test.YtflngiakbhjnaaaIntRows
namespace Go.Proofs.Ytflngiakbhjnaaa.LawIntS
open Go.RowKit ListKit HoldKit
set_option linter.unusedVariables false

theorem to_ints (a : Option Addr) (c : Nat) (L : List Int) (w : World) (h : IntRows.Arg w a L) (l : L.length ≤ 1048577) :
    Calls Try.prog 19 #[.slice a L.length c] w fun e w' => ∃ g, e = .returned (.slice (some ⟨g, 0, none⟩) L.length L.length) ∧ Holds w' w.heap.size [⟨some ⟨g, 0, none⟩, 3, 1, (L).map IntKit.cells⟩] ∧ Below w.heap.size w w' :=
  (IntRows.to_rows a c L w h l).mono fun e w' ⟨g, he, hg, hr, hb⟩ => ⟨g, he, Holds.row hr hg, hb⟩
theorem eq_ints (a : Option Addr) (c : Nat) (L : List Int) (b : Option Addr) (d : Nat) (w : World) (h : Own 3 1 IntKit.cells w a L) (k : Own 3 1 IntKit.cells w b L) (l : L.length ≤ 1048577) :
    Calls Try.prog 21 #[.slice a L.length c, .slice b L.length d] w fun e w' => e = .returned (.bool true) ∧ Below w.heap.size w w' := IntRows.eq_any a b c d L w h k l
end Go.Proofs.Ytflngiakbhjnaaa.LawIntS
