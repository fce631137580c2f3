/- What the laws' helpers on lists of Int do: copied into new memory, found equal to its like, marked and found marked, and measured; nothing else turns; no condition but those written in each. -/
import Derived.Test.YtnabnghjejncpaaRows
import Derived.WalkKit
import Derived.WalkSmall
import Derived.Test.YtnabnghjejncpaaListKit
import Derived.Test.YtnabnghjejncpaaHoldKit
import Derived.Test.YtnabnghjejncpaaIntKit
import Derived.Test.YtnabnghjejncpaaIntRows
namespace Go.Proofs.Ytnabnghjejncpaa.LawIntS
open Go.RowKit ListKit HoldKit
set_option linter.unusedVariables false

theorem to_ints (a : Option Addr) (c : Nat) (L : List Int) (w : World) (h : IntRows.Arg w a L) (l : L.length ≤ 1048577) :
    Calls Try.prog 68 #[.slice a L.length c] w fun e w' => ∃ g, e = .returned (.slice (some ⟨g, 0, none⟩) L.length L.length) ∧ Holds w' w.heap.size [⟨some ⟨g, 0, none⟩, 3, 1, (L).map IntKit.cells⟩] ∧ Below w.heap.size w w' :=
  (IntRows.to_rows a c L w h l).mono fun e w' ⟨g, he, hg, hr, hb⟩ => ⟨g, he, Holds.row hr hg, hb⟩
theorem eq_ints (a : Option Addr) (c : Nat) (L : List Int) (b : Option Addr) (d : Nat) (w : World) (h : Own 3 1 IntKit.cells w a L) (k : Own 3 1 IntKit.cells w b L) (l : L.length ≤ 1048577) :
    Calls Try.prog 20 #[.slice a L.length c, .slice b L.length d] w fun e w' => e = .returned (.bool true) ∧ Below w.heap.size w w' := IntRows.eq_any a b c d L w h k l
theorem mark_ints (a : Option Addr) (c : Nat) (L : List Int) (k lo : Nat) (kI : Int) (w : World) (h : Holds w lo [⟨a, 3, 1, (L).map IntKit.cells⟩]) (l : L.length ≤ 1048577) (hk : k ≤ 100000000) (hkI : kI = (k : Int)) :
    Calls Try.prog 23 #[.slice a L.length c, .int .i64 kI] w fun e w' => e = .returned (.int .i64 (kI + 1 * (L.length : Int))) ∧ Holds w' lo [⟨a, 3, 1, (IntRows.marks k L.length).map IntKit.cells⟩] ∧ Turn [⟨a, 3, 1, (L).map IntKit.cells⟩] w w' := by
  subst hkI
  exact (IntRows.mark_any a c k L w (h.get (by simp)) l (by omega)).mono fun e w' ⟨he, ho, hg⟩ => ⟨he, Holds.mark (l1 := []) (l2 := []) (i := ⟨a, 3, 1, (L).map IntKit.cells⟩) (i' := ⟨a, 3, 1, (IntRows.marks k L.length).map IntKit.cells⟩) h (own_cells ho) (blk_len (by rw [List.length_map, List.length_map, IntRows.marks_length])) (Turn.one hg), Turn.one hg⟩
theorem held_ints (a : Option Addr) (c : Nat) (L : List Int) (k lo : Nat) (kI : Int) (w : World) (h : Holds w lo [⟨a, 3, 1, (IntRows.marks k L.length).map IntKit.cells⟩]) (l : L.length ≤ 1048577) (hk : k ≤ 100000000) (hkI : kI = (k : Int)) :
    Calls Try.prog 24 #[.slice a L.length c, .int .i64 kI] w fun e w' => e = .returned (.int .i64 (kI + 1 * (L.length : Int))) ∧ Below w.heap.size w w' := by
  subst hkI
  exact (IntRows.held_any a c k L.length w (h.get (by simp)) l (by omega)).mono fun e w' ⟨he, hw⟩ => ⟨he, by rw [hw]; exact Below.refl _ _⟩
theorem sz_ints (a : Option Addr) (c len : Nat) (k : Int) (w : World) (hn : (len : Int) ≤ 9223372036854775807) (h0 : 0 ≤ k) (h1 : k ≤ 1048576) :
    Calls Try.prog 62 #[.slice a len c, .int .i64 k] w fun e w' => e = .returned (.int .i64 (if (len : Int) ≤ k then k - ((len : Int)) else -1)) ∧ Below w.heap.size w w' :=
  (IntRows.sz_rows a c len k w hn h0 h1).mono fun e w' ⟨he, hw⟩ => ⟨he, by rw [hw]; exact Below.refl _ _⟩
end Go.Proofs.Ytnabnghjejncpaa.LawIntS
