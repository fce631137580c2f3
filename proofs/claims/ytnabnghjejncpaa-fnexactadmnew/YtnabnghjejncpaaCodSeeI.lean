/- What the program's CodelNew and See answer, at all arguments; nothing that was there turns. -/
import Derived.Test.YtnabnghjejncpaaRows
import Derived.WalkKit
import Derived.WalkSmall
import Derived.BigQuiet
import Derived.Deep.RegionWith
import Derived.Deep.DeepCutAuto
import Derived.Test.YtnabnghjejncpaaListKit
import Derived.Test.YtnabnghjejncpaaHoldKit
import Derived.Test.YtnabnghjejncpaaCodKit
import Derived.Test.YtnabnghjejncpaaCodOkI
import Derived.Test.YtnabnghjejncpaaCodMath
import Derived.Test.YtnabnghjejncpaaCodSeeS
import Derived.Test.YtnabnghjejncpaaCodOnly
import Derived.WalkMore
import Derived.ScopeJumps
import Derived.Defers
import Derived.Test.YtnabnghjejncpaaCodOks
import Derived.Test.YtnabnghjejncpaaProg
import Derived.Test.YtnabnghjejncpaaNearKit
import Derived.StillTail
namespace Go.Proofs.Ytnabnghjejncpaa.CodSeeI
open Go.RowKit ListKit HoldKit CodKit CodOkI CodMath CodOnly
open CodSeeS (newOk)
set_option maxRecDepth 8000
set_option linter.unusedVariables false
set_option linter.unusedSimpArgs false

set_option maxHeartbeats 1000000 in
theorem impl_codelnew (t v : Int) (w : World) : Calls Try.prog 39 #[.int .i64 t, .int .i64 v] w fun e w' => e = .returned (.tuple #[agg (if newOk t v = true then ⟨t, v, 0, false, 0, 0⟩ else zero), .bool (newOk t v)]) ∧ Below w.heap.size w w' := by
  have hC := fun (W : World) => impl_codelok t v 0 false 0 0 W
  obtain ⟨B, hB⟩ : ∃ B, newOk t v = B := ⟨_, rfl⟩
  have hB2 : codOk ⟨t, v, 0, false, 0, 0⟩ = B := hB
  rw [hB]
  rw [hB2] at hC
  clear hB hB2
  cases B
  · go_enter Try.func39, Try.ntmps39
    go_wp2_with (go_at_call 81; refine (hC _).mono ?_; rintro e' w1 ⟨rfl, hb⟩; have H1 : Hid (Bel w w1 ∧ boxB w1 w.heap.size #[.int .i64 0, .int .i64 0, .int .i64 0, .bool false, .int .i64 0, .int .i64 0] 87 ∧ boxB w1 (w.heap.size + 1) #[.int .i64 t, .int .i64 v, .int .i64 0, .bool false, .int .i64 0, .int .i64 0] 87) := ⟨Bel.below (n2 w _ _) hb, ((boxB.new w #[.int .i64 0, .int .i64 0, .int .i64 0, .bool false, .int .i64 0, .int .i64 0] 87).below (n1 _ _)).below hb, (new2 w _ _ _).below hb⟩; have c0 := H1.out.2.1.cell 0; have z0 := fzB H1.out.2.1 0; have d0 := H1.out.2.2.cell 0; have c1 := H1.out.2.1.cell 1; have z1 := fzB H1.out.2.1 1; have d1 := H1.out.2.2.cell 1; have c2 := H1.out.2.1.cell 2; have z2 := fzB H1.out.2.1 2; have d2 := H1.out.2.2.cell 2; have c3 := H1.out.2.1.cell 3; have z3 := fzB H1.out.2.1 3; have d3 := H1.out.2.2.cell 3; have c4 := H1.out.2.1.cell 4; have z4 := fzB H1.out.2.1 4; have d4 := H1.out.2.2.cell 4; have c5 := H1.out.2.1.cell 5; have z5 := fzB H1.out.2.1 5; have d5 := H1.out.2.2.cell 5; clear hb hC)
    exact bodyPost_ret (v := .tuple #[.agg #[.int .i64 0, .int .i64 0, .int .i64 0, .bool false, .int .i64 0, .int .i64 0], .bool false]) (by simp [results, Try.results39, go_sem, c0, z0, c1, z1, c2, z2, c3, z3, c4, z4, c5, z5]) rfl ⟨rfl, (Below.setCell (Below.setCell (Below.setCell (Below.setCell (Below.setCell (Below.setCell H1.out.1.out (by exact Nat.le_refl _) _) (by exact Nat.le_refl _) _) (by exact Nat.le_refl _) _) (by exact Nat.le_refl _) _) (by exact Nat.le_refl _) _) (by exact Nat.le_refl _) _)⟩
  · go_enter Try.func39, Try.ntmps39
    go_wp2_with (go_at_call 81; refine (hC _).mono ?_; rintro e' w1 ⟨rfl, hb⟩; have H1 : Hid (Bel w w1 ∧ boxB w1 w.heap.size #[.int .i64 0, .int .i64 0, .int .i64 0, .bool false, .int .i64 0, .int .i64 0] 87 ∧ boxB w1 (w.heap.size + 1) #[.int .i64 t, .int .i64 v, .int .i64 0, .bool false, .int .i64 0, .int .i64 0] 87) := ⟨Bel.below (n2 w _ _) hb, ((boxB.new w #[.int .i64 0, .int .i64 0, .int .i64 0, .bool false, .int .i64 0, .int .i64 0] 87).below (n1 _ _)).below hb, (new2 w _ _ _).below hb⟩; have c0 := H1.out.2.1.cell 0; have z0 := fzB H1.out.2.1 0; have d0 := H1.out.2.2.cell 0; have c1 := H1.out.2.1.cell 1; have z1 := fzB H1.out.2.1 1; have d1 := H1.out.2.2.cell 1; have c2 := H1.out.2.1.cell 2; have z2 := fzB H1.out.2.1 2; have d2 := H1.out.2.2.cell 2; have c3 := H1.out.2.1.cell 3; have z3 := fzB H1.out.2.1 3; have d3 := H1.out.2.2.cell 3; have c4 := H1.out.2.1.cell 4; have z4 := fzB H1.out.2.1 4; have d4 := H1.out.2.2.cell 4; have c5 := H1.out.2.1.cell 5; have z5 := fzB H1.out.2.1 5; have d5 := H1.out.2.2.cell 5; clear hb hC)
    exact bodyPost_ret (v := .tuple #[.agg #[.int .i64 t, .int .i64 v, .int .i64 0, .bool false, .int .i64 0, .int .i64 0], .bool true]) (by simp [results, Try.results39, go_sem, c0, z0, c1, z1, c2, z2, c3, z3, c4, z4, c5, z5]) rfl ⟨rfl, (Below.setCell (Below.setCell (Below.setCell (Below.setCell (Below.setCell (Below.setCell H1.out.1.out (by exact Nat.le_refl _) _) (by exact Nat.le_refl _) _) (by exact Nat.le_refl _) _) (by exact Nat.le_refl _) _) (by exact Nat.le_refl _) _) (by exact Nat.le_refl _) _)⟩
end Go.Proofs.Ytnabnghjejncpaa.CodSeeI
