/- What the program's Knows answers; nothing that was there turns; no condition but those written in each. -/
import Derived.Test.YtnabnghjejncpaaRows
import Derived.WalkKit
import Derived.WalkSmall
import Derived.BigQuiet
import Derived.Deep.RegionWith
import Derived.Deep.DeepCutAuto
import Derived.Test.YtnabnghjejncpaaListKit
import Derived.Test.YtnabnghjejncpaaHoldKit
import Derived.Test.YtnabnghjejncpaaIntKit
import Derived.Test.YtnabnghjejncpaaShelfA
namespace Go.Proofs.Ytnabnghjejncpaa.AdmSmallI
open Go.RowKit ListKit HoldKit
set_option maxRecDepth 8000
set_option linter.unusedVariables false
set_option linter.unusedSimpArgs false

/-- The library's question at a list of whole numbers. -/
theorem lib_contains (a : Option Addr) (c : Nat) (l : List Int) (x : Int) (B : Bool) (w : World) (h : Own 3 1 IntKit.cells w a l) (hl : l.length ≤ 1048577) (hB : B = true ↔ x ∈ l) :
    Calls Try.prog 69 #[.slice a l.length c, .int .i64 x] w fun e w' => e = .returned (.bool B) ∧ w' = w := by
  have e : l.contains x = B := by
    rw [Bool.eq_iff_iff, hB, List.contains_iff_mem]
  rcases h with h | ⟨g, o, rfl, hr⟩
  · subst h
    have h9 := Try.slices_Contains_int_empty a c x w
    rw [show (false : Bool) = B from e] at h9
    exact h9
  · have h9 := Try.slices_Contains_int g o l.length c l x w (Nat.le_refl _) (by omega) (fun j hj => by
      have := hr.cell j hj 0 (by omega)
      rw [List.getD_eq_getElem?_getD, List.getElem?_eq_getElem hj]
      simpa [IntKit.cells] using this)
    rw [List.take_length, e] at h9
    exact h9
set_option maxHeartbeats 2000000 in
theorem impl_knows (vs : List Value) (a : Option Addr) (c : Nat) (l : List Int) (x : Int) (B : Bool) (w : World) (h33 : vs[33]? = some (.slice a l.length c)) (h : Own 3 1 IntKit.cells w a l) (hl : l.length ≤ 1048577) (hB : Hid (B = true ↔ x ∈ l)) :
    Calls Try.prog 28 #[.agg vs.toArray, .int .i64 x] w fun e w' => e = .returned (.bool B) ∧ Below w.heap.size w w' := by
  have c33 : (w.alloc (.cells vs.toArray 48)).cell? ⟨w.heap.size, 33, none⟩ = some (.slice a l.length c) := by rw [(boxB.new w vs.toArray 48).cell 33]; simpa using h33
  have H := lib_contains a c l x B (w.alloc (.cells vs.toArray 48)) (h.below (n1 _ _)) hl hB.out
  have HB : Hid (Below w.heap.size w (w.alloc (.cells vs.toArray 48))) := n1 _ _
  clear h h33 hB hl
  go_enter Try.func28, Try.ntmps28
  go_wp2_with (go_at_call 69; refine H.mono ?_; rintro e w1 ⟨rfl, rfl⟩)
  go_ret
  exact ⟨rfl, HB.out⟩
end Go.Proofs.Ytnabnghjejncpaa.AdmSmallI
