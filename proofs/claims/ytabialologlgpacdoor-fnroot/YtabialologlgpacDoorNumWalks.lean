/- What the program's NumText answers at every number: its decimal digits; under the library's own table of powers of ten. -/
import Derived.Test.YtabialologlgpacDoorRows
import Derived.WalkKit
import Derived.Deep.RegionWith
import Derived.Lib.ItoaNum
import Derived.Lib.ItoaMem
import Derived.Lib.SmallJoins
import Derived.Test.YtabialologlgpacDoorShelf
namespace Go.Proofs.YtabialologlgpacDoor.NumWalks
open Go.RowKit

theorem below_grow (w : World) (k : Nat) (os : Array Obj) : Below w.heap.size w (Sort.grow (w.drewN k) os) :=
  ⟨rfl, rfl, rfl, by simp [Sort.grow], fun i hi => by
    show ((w.drewN k).heap ++ os)[i]? = _
    rw [Array.getElem?_append_left (by show i < w.heap.size; omega)]
    rfl⟩

/-- The program's NumText at a number: its decimal digits. -/
theorem impl_num (n : Nat) (w : World) (hn : n ≤ 1000000000000) (htab : Lib.TabIs Tryd.prog w "internal/strconv.uint64pow10" .u64 Lib.pow10Tab) :
    Calls Tryd.prog 8 #[.int .i64 n] w fun e w' => e = .returned (.string ⟨(Lib.decDigits n).toArray⟩) ∧ Below w.heap.size w w' := by
  have hd : decide ((n : Int) ≤ 1000000000000) = true := by simp; omega
  have HT : Hid (Lib.TabIs Tryd.prog w "internal/strconv.uint64pow10" .u64 Lib.pow10Tab) := htab
  clear htab
  go_enter Tryd.func8, Tryd.ntmps8
  go_wp2_with (first | (go_at_call 14; go_in) | (go_at_call 18; refine (Tryd.strconv_Itoa n (by omega) (by omega) _ HT.out).mono ?_; rintro e w' ⟨rfl, k, os, rfl⟩; rw [Lib.itoa_nonneg]))
  go_ret
  exact ⟨rfl, below_grow w k os⟩
end Go.Proofs.YtabialologlgpacDoor.NumWalks
