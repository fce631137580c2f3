/- What the laws' helpers on lists of Req do: copied into new memory, found equal to its like, marked and found marked, and measured; nothing else turns; no condition but those written in each. -/
import Derived.Test.YtiodnkehfeigoaaRows
import Derived.WalkKit
import Derived.WalkSmall
import Derived.Test.YtiodnkehfeigoaaListKit
import Derived.Test.YtiodnkehfeigoaaHoldKit
import Derived.Test.YtiodnkehfeigoaaReqKit
import Derived.Test.YtiodnkehfeigoaaReqRows
namespace Go.Proofs.Ytiodnkehfeigoaa.LawReqS
open Go.RowKit ListKit HoldKit
set_option linter.unusedVariables false

theorem to_reqs (a : Option Addr) (c : Nat) (L : List ReqKit.Req) (w : World) (h : ReqRows.Arg w a L) (l : L.length ≤ 1048577) :
    Calls Try.prog 42 #[.slice a L.length c] w fun e w' => ∃ g, e = .returned (.slice (some ⟨g, 0, none⟩) L.length L.length) ∧ Holds w' w.heap.size [⟨some ⟨g, 0, none⟩, 39, 6, (L).map ReqKit.cells⟩] ∧ Below w.heap.size w w' :=
  (ReqRows.to_rows a c L w h l).mono fun e w' ⟨g, he, hg, hr, hb⟩ => ⟨g, he, Holds.row hr hg, hb⟩
theorem eq_reqs (a : Option Addr) (c : Nat) (L : List ReqKit.Req) (b : Option Addr) (d : Nat) (w : World) (h : Own 39 6 ReqKit.cells w a L) (k : Own 39 6 ReqKit.cells w b L) (l : L.length ≤ 1048577) :
    Calls Try.prog 28 #[.slice a L.length c, .slice b L.length d] w fun e w' => e = .returned (.bool true) ∧ Below w.heap.size w w' := ReqRows.eq_any a b c d L w h k l
theorem mark_reqs (a : Option Addr) (c : Nat) (L : List ReqKit.Req) (k lo : Nat) (kI : Int) (w : World) (h : Holds w lo [⟨a, 39, 6, (L).map ReqKit.cells⟩]) (l : L.length ≤ 1048577) (hk : k ≤ 100000000) (hkI : kI = (k : Int)) :
    Calls Try.prog 29 #[.slice a L.length c, .int .i64 kI] w fun e w' => e = .returned (.int .i64 (kI + 6 * (L.length : Int))) ∧ Holds w' lo [⟨a, 39, 6, (ReqRows.marks k L.length).map ReqKit.cells⟩] ∧ Turn [⟨a, 39, 6, (L).map ReqKit.cells⟩] w w' := by
  subst hkI
  exact (ReqRows.mark_any a c k L w (h.get (by simp)) l (by omega)).mono fun e w' ⟨he, ho, hg⟩ => ⟨he, Holds.mark (l1 := []) (l2 := []) (i := ⟨a, 39, 6, (L).map ReqKit.cells⟩) (i' := ⟨a, 39, 6, (ReqRows.marks k L.length).map ReqKit.cells⟩) h (own_cells ho) (blk_len (by rw [List.length_map, List.length_map, ReqRows.marks_length])) (Turn.one hg), Turn.one hg⟩
theorem held_reqs (a : Option Addr) (c : Nat) (L : List ReqKit.Req) (k lo : Nat) (kI : Int) (w : World) (h : Holds w lo [⟨a, 39, 6, (ReqRows.marks k L.length).map ReqKit.cells⟩]) (l : L.length ≤ 1048577) (hk : k ≤ 100000000) (hkI : kI = (k : Int)) :
    Calls Try.prog 30 #[.slice a L.length c, .int .i64 kI] w fun e w' => e = .returned (.int .i64 (kI + 6 * (L.length : Int))) ∧ Below w.heap.size w w' := by
  subst hkI
  exact (ReqRows.held_any a c k L.length w (h.get (by simp)) l (by omega)).mono fun e w' ⟨he, hw⟩ => ⟨he, by rw [hw]; exact Below.refl _ _⟩
theorem sz_reqs (a : Option Addr) (c len : Nat) (k : Int) (w : World) (hn : (len : Int) ≤ 9223372036854775807) (h0 : 0 ≤ k) (h1 : k ≤ 1048576) :
    Calls Try.prog 39 #[.slice a len c, .int .i64 k] w fun e w' => e = .returned (.int .i64 (if (len : Int) ≤ k then k - ((len : Int)) else -1)) ∧ Below w.heap.size w w' :=
  (ReqRows.sz_rows a c len k w hn h0 h1).mono fun e w' ⟨he, hw⟩ => ⟨he, by rw [hw]; exact Below.refl _ _⟩
end Go.Proofs.Ytiodnkehfeigoaa.LawReqS
