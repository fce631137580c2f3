/- What the model's CodelNew and See answer, at all arguments; nothing that was there turns. -/
import Derived.Test.YtdgkmiknnelddaaRows
import Derived.WalkKit
import Derived.WalkSmall
import Derived.BigQuiet
import Derived.Deep.RegionWith
import Derived.Deep.DeepCutAuto
import Derived.Test.YtdgkmiknnelddaaListKit
import Derived.Test.YtdgkmiknnelddaaHoldKit
import Derived.Test.YtdgkmiknnelddaaCodKit
import Derived.Test.YtdgkmiknnelddaaCodOks
import Derived.Test.YtdgkmiknnelddaaCodPaceS
namespace Go.Proofs.Ytdgkmiknnelddaa.CodSeeS
open Go.RowKit ListKit HoldKit CodKit CodOks CodPaceS
set_option maxRecDepth 8000
set_option linter.unusedVariables false
set_option linter.unusedSimpArgs false

/-- A new one is right. -/
def newOk (t v : Int) : Bool := codOk ⟨t, v, 0, false, 0, 0⟩
set_option maxHeartbeats 1000000 in
theorem spec_codelnew (t v : Int) (w : World) : Calls Try.prog 21 #[.int .i64 t, .int .i64 v] w fun e w' => e = .returned (.tuple #[agg (if newOk t v = true then ⟨t, v, 0, false, 0, 0⟩ else zero), .bool (newOk t v)]) ∧ Below w.heap.size w w' := by
  have hC := fun (W : World) => spec_codelok t v 0 false 0 0 W
  obtain ⟨B, hB⟩ : ∃ B, newOk t v = B := ⟨_, rfl⟩
  have hB2 : codOk ⟨t, v, 0, false, 0, 0⟩ = B := hB
  rw [hB]
  rw [hB2] at hC
  clear hB hB2
  cases B
  · go_enter Try.func21, Try.ntmps21
    go_wp2_with (go_at_call 31; refine (hC _).mono ?_; rintro e' w1 ⟨rfl, hb⟩; have H1 : Hid (Bel w w1 ∧ boxB w1 w.heap.size #[.int .i64 0, .int .i64 0, .int .i64 0, .bool false, .int .i64 0, .int .i64 0] 24 ∧ boxB w1 (w.heap.size + 1) #[.int .i64 t, .int .i64 v, .int .i64 0, .bool false, .int .i64 0, .int .i64 0] 24) := ⟨Bel.below (n2 w _ _) hb, ((boxB.new w #[.int .i64 0, .int .i64 0, .int .i64 0, .bool false, .int .i64 0, .int .i64 0] 24).below (n1 _ _)).below hb, (new2 w _ _ _).below hb⟩; have c0 := H1.out.2.1.cell 0; have z0 := fzB H1.out.2.1 0; have d0 := H1.out.2.2.cell 0; have c1 := H1.out.2.1.cell 1; have z1 := fzB H1.out.2.1 1; have d1 := H1.out.2.2.cell 1; have c2 := H1.out.2.1.cell 2; have z2 := fzB H1.out.2.1 2; have d2 := H1.out.2.2.cell 2; have c3 := H1.out.2.1.cell 3; have z3 := fzB H1.out.2.1 3; have d3 := H1.out.2.2.cell 3; have c4 := H1.out.2.1.cell 4; have z4 := fzB H1.out.2.1 4; have d4 := H1.out.2.2.cell 4; have c5 := H1.out.2.1.cell 5; have z5 := fzB H1.out.2.1 5; have d5 := H1.out.2.2.cell 5; clear hb hC)
    exact bodyPost_ret (v := .tuple #[.agg #[.int .i64 0, .int .i64 0, .int .i64 0, .bool false, .int .i64 0, .int .i64 0], .bool false]) (by simp [results, Try.results21, go_sem, c0, z0, c1, z1, c2, z2, c3, z3, c4, z4, c5, z5]) rfl ⟨rfl, (Below.setCell (Below.setCell (Below.setCell (Below.setCell (Below.setCell (Below.setCell H1.out.1.out (by exact Nat.le_refl _) _) (by exact Nat.le_refl _) _) (by exact Nat.le_refl _) _) (by exact Nat.le_refl _) _) (by exact Nat.le_refl _) _) (by exact Nat.le_refl _) _)⟩
  · go_enter Try.func21, Try.ntmps21
    go_wp2_with (go_at_call 31; refine (hC _).mono ?_; rintro e' w1 ⟨rfl, hb⟩; have H1 : Hid (Bel w w1 ∧ boxB w1 w.heap.size #[.int .i64 0, .int .i64 0, .int .i64 0, .bool false, .int .i64 0, .int .i64 0] 24 ∧ boxB w1 (w.heap.size + 1) #[.int .i64 t, .int .i64 v, .int .i64 0, .bool false, .int .i64 0, .int .i64 0] 24) := ⟨Bel.below (n2 w _ _) hb, ((boxB.new w #[.int .i64 0, .int .i64 0, .int .i64 0, .bool false, .int .i64 0, .int .i64 0] 24).below (n1 _ _)).below hb, (new2 w _ _ _).below hb⟩; have c0 := H1.out.2.1.cell 0; have z0 := fzB H1.out.2.1 0; have d0 := H1.out.2.2.cell 0; have c1 := H1.out.2.1.cell 1; have z1 := fzB H1.out.2.1 1; have d1 := H1.out.2.2.cell 1; have c2 := H1.out.2.1.cell 2; have z2 := fzB H1.out.2.1 2; have d2 := H1.out.2.2.cell 2; have c3 := H1.out.2.1.cell 3; have z3 := fzB H1.out.2.1 3; have d3 := H1.out.2.2.cell 3; have c4 := H1.out.2.1.cell 4; have z4 := fzB H1.out.2.1 4; have d4 := H1.out.2.2.cell 4; have c5 := H1.out.2.1.cell 5; have z5 := fzB H1.out.2.1 5; have d5 := H1.out.2.2.cell 5; clear hb hC)
    exact bodyPost_ret (v := .tuple #[.agg #[.int .i64 t, .int .i64 v, .int .i64 0, .bool false, .int .i64 0, .int .i64 0], .bool true]) (by simp [results, Try.results21, go_sem, c0, z0, c1, z1, c2, z2, c3, z3, c4, z4, c5, z5]) rfl ⟨rfl, (Below.setCell (Below.setCell (Below.setCell (Below.setCell (Below.setCell (Below.setCell H1.out.1.out (by exact Nat.le_refl _) _) (by exact Nat.le_refl _) _) (by exact Nat.le_refl _) _) (by exact Nat.le_refl _) _) (by exact Nat.le_refl _) _) (by exact Nat.le_refl _) _)⟩
set_option maxHeartbeats 4000000 in
theorem see_bad (x0 x1 x2 : Int) (x3 : Bool) (x4 x5 now wt : Int) (hok : codOk ⟨x0, x1, x2, x3, x4, x5⟩ = false) (w : World) : Calls Try.prog 22 #[.agg #[.int .i64 x0, .int .i64 x1, .int .i64 x2, .bool x3, .int .i64 x4, .int .i64 x5], .int .i64 now, .int .i64 wt] w fun e w' => e = .returned (.tuple #[.agg #[.int .i64 0, .int .i64 0, .int .i64 0, .bool false, .int .i64 0, .int .i64 0], .bool false]) ∧ Below w.heap.size w w' := by
  have hC := fun (W : World) => spec_codelok x0 x1 x2 x3 x4 x5 W
  rw [hok] at hC
  clear hok
  go_enter Try.func22, Try.ntmps22
  go_wp2_with (first | (go_at_call 31; refine (hC _).mono ?_; rintro e' w1 ⟨rfl, hb⟩; have H1 : Hid (Bel w w1 ∧ boxB w1 w.heap.size #[.int .i64 x0, .int .i64 x1, .int .i64 x2, .bool x3, .int .i64 x4, .int .i64 x5] 24 ∧ boxB w1 (w.heap.size + 1) #[.int .i64 0, .int .i64 0, .int .i64 0, .bool false, .int .i64 0, .int .i64 0] 24) := ⟨Bel.below (n2 w _ _) hb, ((boxB.new w #[.int .i64 x0, .int .i64 x1, .int .i64 x2, .bool x3, .int .i64 x4, .int .i64 x5] 24).below (n1 _ _)).below hb, (new2 w _ _ _).below hb⟩; have c0 := H1.out.2.2.cell 0; have z0 := fzB H1.out.2.2 0; have d0 := H1.out.2.1.cell 0; have f0 := fzB H1.out.2.1 0; have c1 := H1.out.2.2.cell 1; have z1 := fzB H1.out.2.2 1; have d1 := H1.out.2.1.cell 1; have f1 := fzB H1.out.2.1 1; have c2 := H1.out.2.2.cell 2; have z2 := fzB H1.out.2.2 2; have d2 := H1.out.2.1.cell 2; have f2 := fzB H1.out.2.1 2; have c3 := H1.out.2.2.cell 3; have z3 := fzB H1.out.2.2 3; have d3 := H1.out.2.1.cell 3; have f3 := fzB H1.out.2.1 3; have c4 := H1.out.2.2.cell 4; have z4 := fzB H1.out.2.2 4; have d4 := H1.out.2.1.cell 4; have f4 := fzB H1.out.2.1 4; have c5 := H1.out.2.2.cell 5; have z5 := fzB H1.out.2.2 5; have d5 := H1.out.2.1.cell 5; have f5 := fzB H1.out.2.1 5; clear hb hC) | (go_at_call 32; go_in))
  exact bodyPost_ret (v := .tuple #[.agg #[.int .i64 0, .int .i64 0, .int .i64 0, .bool false, .int .i64 0, .int .i64 0], .bool false]) (by simp [results, Try.results22, go_sem, c0, z0, d0, f0, c1, z1, d1, f1, c2, z2, d2, f2, c3, z3, d3, f3, c4, z4, d4, f4, c5, z5, d5, f5]) rfl ⟨rfl, (Below.setCell (Below.setCell (Below.setCell (Below.setCell (Below.setCell (Below.setCell H1.out.1.out (by first | exact Nat.le_refl _ | exact Nat.le_succ _) _) (by first | exact Nat.le_refl _ | exact Nat.le_succ _) _) (by first | exact Nat.le_refl _ | exact Nat.le_succ _) _) (by first | exact Nat.le_refl _ | exact Nat.le_succ _) _) (by first | exact Nat.le_refl _ | exact Nat.le_succ _) _) (by first | exact Nat.le_refl _ | exact Nat.le_succ _) _)⟩

set_option maxHeartbeats 4000000 in
theorem see_now0 (x0 x1 x2 : Int) (x3 : Bool) (x4 x5 now wt : Int) (hok : codOk ⟨x0, x1, x2, x3, x4, x5⟩ = true) (h : now < 0) (w : World) : Calls Try.prog 22 #[.agg #[.int .i64 x0, .int .i64 x1, .int .i64 x2, .bool x3, .int .i64 x4, .int .i64 x5], .int .i64 now, .int .i64 wt] w fun e w' => e = .returned (.tuple #[.agg #[.int .i64 0, .int .i64 0, .int .i64 0, .bool false, .int .i64 0, .int .i64 0], .bool false]) ∧ Below w.heap.size w w' := by
  have hC := fun (W : World) => spec_codelok x0 x1 x2 x3 x4 x5 W
  rw [hok] at hC
  clear hok
  have p1 : decide (0 ≤ now) = false := by first | exact decide_eq_false (by omega) | (simp; omega)
  go_enter Try.func22, Try.ntmps22
  go_wp2_with (first | (go_at_call 31; refine (hC _).mono ?_; rintro e' w1 ⟨rfl, hb⟩; have H1 : Hid (Bel w w1 ∧ boxB w1 w.heap.size #[.int .i64 x0, .int .i64 x1, .int .i64 x2, .bool x3, .int .i64 x4, .int .i64 x5] 24 ∧ boxB w1 (w.heap.size + 1) #[.int .i64 0, .int .i64 0, .int .i64 0, .bool false, .int .i64 0, .int .i64 0] 24) := ⟨Bel.below (n2 w _ _) hb, ((boxB.new w #[.int .i64 x0, .int .i64 x1, .int .i64 x2, .bool x3, .int .i64 x4, .int .i64 x5] 24).below (n1 _ _)).below hb, (new2 w _ _ _).below hb⟩; have c0 := H1.out.2.2.cell 0; have z0 := fzB H1.out.2.2 0; have d0 := H1.out.2.1.cell 0; have f0 := fzB H1.out.2.1 0; have c1 := H1.out.2.2.cell 1; have z1 := fzB H1.out.2.2 1; have d1 := H1.out.2.1.cell 1; have f1 := fzB H1.out.2.1 1; have c2 := H1.out.2.2.cell 2; have z2 := fzB H1.out.2.2 2; have d2 := H1.out.2.1.cell 2; have f2 := fzB H1.out.2.1 2; have c3 := H1.out.2.2.cell 3; have z3 := fzB H1.out.2.2 3; have d3 := H1.out.2.1.cell 3; have f3 := fzB H1.out.2.1 3; have c4 := H1.out.2.2.cell 4; have z4 := fzB H1.out.2.2 4; have d4 := H1.out.2.1.cell 4; have f4 := fzB H1.out.2.1 4; have c5 := H1.out.2.2.cell 5; have z5 := fzB H1.out.2.2 5; have d5 := H1.out.2.1.cell 5; have f5 := fzB H1.out.2.1 5; clear hb hC) | (go_at_call 32; go_in))
  exact bodyPost_ret (v := .tuple #[.agg #[.int .i64 0, .int .i64 0, .int .i64 0, .bool false, .int .i64 0, .int .i64 0], .bool false]) (by simp [results, Try.results22, go_sem, c0, z0, d0, f0, c1, z1, d1, f1, c2, z2, d2, f2, c3, z3, d3, f3, c4, z4, d4, f4, c5, z5, d5, f5]) rfl ⟨rfl, (Below.setCell (Below.setCell (Below.setCell (Below.setCell (Below.setCell (Below.setCell H1.out.1.out (by first | exact Nat.le_refl _ | exact Nat.le_succ _) _) (by first | exact Nat.le_refl _ | exact Nat.le_succ _) _) (by first | exact Nat.le_refl _ | exact Nat.le_succ _) _) (by first | exact Nat.le_refl _ | exact Nat.le_succ _) _) (by first | exact Nat.le_refl _ | exact Nat.le_succ _) _) (by first | exact Nat.le_refl _ | exact Nat.le_succ _) _)⟩

set_option maxHeartbeats 4000000 in
theorem see_now1 (x0 x1 x2 : Int) (x3 : Bool) (x4 x5 now wt : Int) (hok : codOk ⟨x0, x1, x2, x3, x4, x5⟩ = true) (h : 1000000000 < now) (w : World) : Calls Try.prog 22 #[.agg #[.int .i64 x0, .int .i64 x1, .int .i64 x2, .bool x3, .int .i64 x4, .int .i64 x5], .int .i64 now, .int .i64 wt] w fun e w' => e = .returned (.tuple #[.agg #[.int .i64 0, .int .i64 0, .int .i64 0, .bool false, .int .i64 0, .int .i64 0], .bool false]) ∧ Below w.heap.size w w' := by
  have hC := fun (W : World) => spec_codelok x0 x1 x2 x3 x4 x5 W
  rw [hok] at hC
  clear hok
  have p1 : decide (0 ≤ now) = true := by first | exact decide_eq_true (by omega) | (simp; omega)
  have p2 : decide (now ≤ 1000000000) = false := by first | exact decide_eq_false (by omega) | (simp; omega)
  go_enter Try.func22, Try.ntmps22
  go_wp2_with (first | (go_at_call 31; refine (hC _).mono ?_; rintro e' w1 ⟨rfl, hb⟩; have H1 : Hid (Bel w w1 ∧ boxB w1 w.heap.size #[.int .i64 x0, .int .i64 x1, .int .i64 x2, .bool x3, .int .i64 x4, .int .i64 x5] 24 ∧ boxB w1 (w.heap.size + 1) #[.int .i64 0, .int .i64 0, .int .i64 0, .bool false, .int .i64 0, .int .i64 0] 24) := ⟨Bel.below (n2 w _ _) hb, ((boxB.new w #[.int .i64 x0, .int .i64 x1, .int .i64 x2, .bool x3, .int .i64 x4, .int .i64 x5] 24).below (n1 _ _)).below hb, (new2 w _ _ _).below hb⟩; have c0 := H1.out.2.2.cell 0; have z0 := fzB H1.out.2.2 0; have d0 := H1.out.2.1.cell 0; have f0 := fzB H1.out.2.1 0; have c1 := H1.out.2.2.cell 1; have z1 := fzB H1.out.2.2 1; have d1 := H1.out.2.1.cell 1; have f1 := fzB H1.out.2.1 1; have c2 := H1.out.2.2.cell 2; have z2 := fzB H1.out.2.2 2; have d2 := H1.out.2.1.cell 2; have f2 := fzB H1.out.2.1 2; have c3 := H1.out.2.2.cell 3; have z3 := fzB H1.out.2.2 3; have d3 := H1.out.2.1.cell 3; have f3 := fzB H1.out.2.1 3; have c4 := H1.out.2.2.cell 4; have z4 := fzB H1.out.2.2 4; have d4 := H1.out.2.1.cell 4; have f4 := fzB H1.out.2.1 4; have c5 := H1.out.2.2.cell 5; have z5 := fzB H1.out.2.2 5; have d5 := H1.out.2.1.cell 5; have f5 := fzB H1.out.2.1 5; clear hb hC) | (go_at_call 32; go_in))
  exact bodyPost_ret (v := .tuple #[.agg #[.int .i64 0, .int .i64 0, .int .i64 0, .bool false, .int .i64 0, .int .i64 0], .bool false]) (by simp [results, Try.results22, go_sem, c0, z0, d0, f0, c1, z1, d1, f1, c2, z2, d2, f2, c3, z3, d3, f3, c4, z4, d4, f4, c5, z5, d5, f5]) rfl ⟨rfl, (Below.setCell (Below.setCell (Below.setCell (Below.setCell (Below.setCell (Below.setCell H1.out.1.out (by first | exact Nat.le_refl _ | exact Nat.le_succ _) _) (by first | exact Nat.le_refl _ | exact Nat.le_succ _) _) (by first | exact Nat.le_refl _ | exact Nat.le_succ _) _) (by first | exact Nat.le_refl _ | exact Nat.le_succ _) _) (by first | exact Nat.le_refl _ | exact Nat.le_succ _) _) (by first | exact Nat.le_refl _ | exact Nat.le_succ _) _)⟩

set_option maxHeartbeats 4000000 in
theorem see_wt0 (x0 x1 x2 : Int) (x3 : Bool) (x4 x5 now wt : Int) (hok : codOk ⟨x0, x1, x2, x3, x4, x5⟩ = true) (hn : 0 ≤ now ∧ now ≤ 1000000000) (h : wt < -1) (w : World) : Calls Try.prog 22 #[.agg #[.int .i64 x0, .int .i64 x1, .int .i64 x2, .bool x3, .int .i64 x4, .int .i64 x5], .int .i64 now, .int .i64 wt] w fun e w' => e = .returned (.tuple #[.agg #[.int .i64 0, .int .i64 0, .int .i64 0, .bool false, .int .i64 0, .int .i64 0], .bool false]) ∧ Below w.heap.size w w' := by
  have hC := fun (W : World) => spec_codelok x0 x1 x2 x3 x4 x5 W
  rw [hok] at hC
  clear hok
  have p1 : decide (0 ≤ now) = true := by first | exact decide_eq_true (by omega) | (simp; omega)
  have p2 : decide (now ≤ 1000000000) = true := by first | exact decide_eq_true (by omega) | (simp; omega)
  have p3 : decide (wt < -1) = true := by first | exact decide_eq_true (by omega) | (simp; omega)
  go_enter Try.func22, Try.ntmps22
  go_wp2_with (first | (go_at_call 31; refine (hC _).mono ?_; rintro e' w1 ⟨rfl, hb⟩; have H1 : Hid (Bel w w1 ∧ boxB w1 w.heap.size #[.int .i64 x0, .int .i64 x1, .int .i64 x2, .bool x3, .int .i64 x4, .int .i64 x5] 24 ∧ boxB w1 (w.heap.size + 1) #[.int .i64 0, .int .i64 0, .int .i64 0, .bool false, .int .i64 0, .int .i64 0] 24) := ⟨Bel.below (n2 w _ _) hb, ((boxB.new w #[.int .i64 x0, .int .i64 x1, .int .i64 x2, .bool x3, .int .i64 x4, .int .i64 x5] 24).below (n1 _ _)).below hb, (new2 w _ _ _).below hb⟩; have c0 := H1.out.2.2.cell 0; have z0 := fzB H1.out.2.2 0; have d0 := H1.out.2.1.cell 0; have f0 := fzB H1.out.2.1 0; have c1 := H1.out.2.2.cell 1; have z1 := fzB H1.out.2.2 1; have d1 := H1.out.2.1.cell 1; have f1 := fzB H1.out.2.1 1; have c2 := H1.out.2.2.cell 2; have z2 := fzB H1.out.2.2 2; have d2 := H1.out.2.1.cell 2; have f2 := fzB H1.out.2.1 2; have c3 := H1.out.2.2.cell 3; have z3 := fzB H1.out.2.2 3; have d3 := H1.out.2.1.cell 3; have f3 := fzB H1.out.2.1 3; have c4 := H1.out.2.2.cell 4; have z4 := fzB H1.out.2.2 4; have d4 := H1.out.2.1.cell 4; have f4 := fzB H1.out.2.1 4; have c5 := H1.out.2.2.cell 5; have z5 := fzB H1.out.2.2 5; have d5 := H1.out.2.1.cell 5; have f5 := fzB H1.out.2.1 5; clear hb hC) | (go_at_call 32; go_in))
  exact bodyPost_ret (v := .tuple #[.agg #[.int .i64 0, .int .i64 0, .int .i64 0, .bool false, .int .i64 0, .int .i64 0], .bool false]) (by simp [results, Try.results22, go_sem, c0, z0, d0, f0, c1, z1, d1, f1, c2, z2, d2, f2, c3, z3, d3, f3, c4, z4, d4, f4, c5, z5, d5, f5]) rfl ⟨rfl, (Below.setCell (Below.setCell (Below.setCell (Below.setCell (Below.setCell (Below.setCell H1.out.1.out (by first | exact Nat.le_refl _ | exact Nat.le_succ _) _) (by first | exact Nat.le_refl _ | exact Nat.le_succ _) _) (by first | exact Nat.le_refl _ | exact Nat.le_succ _) _) (by first | exact Nat.le_refl _ | exact Nat.le_succ _) _) (by first | exact Nat.le_refl _ | exact Nat.le_succ _) _) (by first | exact Nat.le_refl _ | exact Nat.le_succ _) _)⟩

set_option maxHeartbeats 4000000 in
theorem see_wt1 (x0 x1 x2 : Int) (x3 : Bool) (x4 x5 now wt : Int) (hok : codOk ⟨x0, x1, x2, x3, x4, x5⟩ = true) (hn : 0 ≤ now ∧ now ≤ 1000000000) (h : 1000000000 < wt) (w : World) : Calls Try.prog 22 #[.agg #[.int .i64 x0, .int .i64 x1, .int .i64 x2, .bool x3, .int .i64 x4, .int .i64 x5], .int .i64 now, .int .i64 wt] w fun e w' => e = .returned (.tuple #[.agg #[.int .i64 0, .int .i64 0, .int .i64 0, .bool false, .int .i64 0, .int .i64 0], .bool false]) ∧ Below w.heap.size w w' := by
  have hC := fun (W : World) => spec_codelok x0 x1 x2 x3 x4 x5 W
  rw [hok] at hC
  clear hok
  have p1 : decide (0 ≤ now) = true := by first | exact decide_eq_true (by omega) | (simp; omega)
  have p2 : decide (now ≤ 1000000000) = true := by first | exact decide_eq_true (by omega) | (simp; omega)
  have p3 : decide (wt < -1) = false := by first | exact decide_eq_false (by omega) | (simp; omega)
  have p4 : decide (1000000000 < wt) = true := by first | exact decide_eq_true (by omega) | (simp; omega)
  go_enter Try.func22, Try.ntmps22
  go_wp2_with (first | (go_at_call 31; refine (hC _).mono ?_; rintro e' w1 ⟨rfl, hb⟩; have H1 : Hid (Bel w w1 ∧ boxB w1 w.heap.size #[.int .i64 x0, .int .i64 x1, .int .i64 x2, .bool x3, .int .i64 x4, .int .i64 x5] 24 ∧ boxB w1 (w.heap.size + 1) #[.int .i64 0, .int .i64 0, .int .i64 0, .bool false, .int .i64 0, .int .i64 0] 24) := ⟨Bel.below (n2 w _ _) hb, ((boxB.new w #[.int .i64 x0, .int .i64 x1, .int .i64 x2, .bool x3, .int .i64 x4, .int .i64 x5] 24).below (n1 _ _)).below hb, (new2 w _ _ _).below hb⟩; have c0 := H1.out.2.2.cell 0; have z0 := fzB H1.out.2.2 0; have d0 := H1.out.2.1.cell 0; have f0 := fzB H1.out.2.1 0; have c1 := H1.out.2.2.cell 1; have z1 := fzB H1.out.2.2 1; have d1 := H1.out.2.1.cell 1; have f1 := fzB H1.out.2.1 1; have c2 := H1.out.2.2.cell 2; have z2 := fzB H1.out.2.2 2; have d2 := H1.out.2.1.cell 2; have f2 := fzB H1.out.2.1 2; have c3 := H1.out.2.2.cell 3; have z3 := fzB H1.out.2.2 3; have d3 := H1.out.2.1.cell 3; have f3 := fzB H1.out.2.1 3; have c4 := H1.out.2.2.cell 4; have z4 := fzB H1.out.2.2 4; have d4 := H1.out.2.1.cell 4; have f4 := fzB H1.out.2.1 4; have c5 := H1.out.2.2.cell 5; have z5 := fzB H1.out.2.2 5; have d5 := H1.out.2.1.cell 5; have f5 := fzB H1.out.2.1 5; clear hb hC) | (go_at_call 32; go_in))
  exact bodyPost_ret (v := .tuple #[.agg #[.int .i64 0, .int .i64 0, .int .i64 0, .bool false, .int .i64 0, .int .i64 0], .bool false]) (by simp [results, Try.results22, go_sem, c0, z0, d0, f0, c1, z1, d1, f1, c2, z2, d2, f2, c3, z3, d3, f3, c4, z4, d4, f4, c5, z5, d5, f5]) rfl ⟨rfl, (Below.setCell (Below.setCell (Below.setCell (Below.setCell (Below.setCell (Below.setCell H1.out.1.out (by first | exact Nat.le_refl _ | exact Nat.le_succ _) _) (by first | exact Nat.le_refl _ | exact Nat.le_succ _) _) (by first | exact Nat.le_refl _ | exact Nat.le_succ _) _) (by first | exact Nat.le_refl _ | exact Nat.le_succ _) _) (by first | exact Nat.le_refl _ | exact Nat.le_succ _) _) (by first | exact Nat.le_refl _ | exact Nat.le_succ _) _)⟩

set_option maxHeartbeats 4000000 in
theorem see_empty (x0 x1 x2 : Int) (x3 : Bool) (x4 x5 now wt : Int) (hok : codOk ⟨x0, x1, x2, x3, x4, x5⟩ = true) (hn : 0 ≤ now ∧ now ≤ 1000000000) (hw : -1 ≤ wt ∧ wt ≤ 1000000000) (h : wt < 0) (w : World) : Calls Try.prog 22 #[.agg #[.int .i64 x0, .int .i64 x1, .int .i64 x2, .bool x3, .int .i64 x4, .int .i64 x5], .int .i64 now, .int .i64 wt] w fun e w' => e = .returned (.tuple #[.agg #[.int .i64 x0, .int .i64 x1, .int .i64 0, .bool false, .int .i64 0, .int .i64 0], .bool false]) ∧ Below w.heap.size w w' := by
  have hC := fun (W : World) => spec_codelok x0 x1 x2 x3 x4 x5 W
  rw [hok] at hC
  clear hok
  have p1 : decide (0 ≤ now) = true := by first | exact decide_eq_true (by omega) | (simp; omega)
  have p2 : decide (now ≤ 1000000000) = true := by first | exact decide_eq_true (by omega) | (simp; omega)
  have p3 : decide (wt < -1) = false := by first | exact decide_eq_false (by omega) | (simp; omega)
  have p4 : decide (1000000000 < wt) = false := by first | exact decide_eq_false (by omega) | (simp; omega)
  have p5 : decide (wt < 0) = true := by first | exact decide_eq_true (by omega) | (simp; omega)
  go_enter Try.func22, Try.ntmps22
  go_wp2_with (first | (go_at_call 31; refine (hC _).mono ?_; rintro e' w1 ⟨rfl, hb⟩; have H1 : Hid (Bel w w1 ∧ boxB w1 w.heap.size #[.int .i64 x0, .int .i64 x1, .int .i64 x2, .bool x3, .int .i64 x4, .int .i64 x5] 24 ∧ boxB w1 (w.heap.size + 1) #[.int .i64 0, .int .i64 0, .int .i64 0, .bool false, .int .i64 0, .int .i64 0] 24) := ⟨Bel.below (n2 w _ _) hb, ((boxB.new w #[.int .i64 x0, .int .i64 x1, .int .i64 x2, .bool x3, .int .i64 x4, .int .i64 x5] 24).below (n1 _ _)).below hb, (new2 w _ _ _).below hb⟩; have c0 := H1.out.2.2.cell 0; have z0 := fzB H1.out.2.2 0; have d0 := H1.out.2.1.cell 0; have f0 := fzB H1.out.2.1 0; have c1 := H1.out.2.2.cell 1; have z1 := fzB H1.out.2.2 1; have d1 := H1.out.2.1.cell 1; have f1 := fzB H1.out.2.1 1; have c2 := H1.out.2.2.cell 2; have z2 := fzB H1.out.2.2 2; have d2 := H1.out.2.1.cell 2; have f2 := fzB H1.out.2.1 2; have c3 := H1.out.2.2.cell 3; have z3 := fzB H1.out.2.2 3; have d3 := H1.out.2.1.cell 3; have f3 := fzB H1.out.2.1 3; have c4 := H1.out.2.2.cell 4; have z4 := fzB H1.out.2.2 4; have d4 := H1.out.2.1.cell 4; have f4 := fzB H1.out.2.1 4; have c5 := H1.out.2.2.cell 5; have z5 := fzB H1.out.2.2 5; have d5 := H1.out.2.1.cell 5; have f5 := fzB H1.out.2.1 5; clear hb hC) | (go_at_call 32; go_in))
  exact bodyPost_ret (v := .tuple #[.agg #[.int .i64 x0, .int .i64 x1, .int .i64 0, .bool false, .int .i64 0, .int .i64 0], .bool false]) (by simp [results, Try.results22, go_sem, c0, z0, d0, f0, c1, z1, d1, f1, c2, z2, d2, f2, c3, z3, d3, f3, c4, z4, d4, f4, c5, z5, d5, f5]) rfl ⟨rfl, (Below.setCell (Below.setCell (Below.setCell (Below.setCell (Below.setCell (Below.setCell H1.out.1.out (by first | exact Nat.le_refl _ | exact Nat.le_succ _) _) (by first | exact Nat.le_refl _ | exact Nat.le_succ _) _) (by first | exact Nat.le_refl _ | exact Nat.le_succ _) _) (by first | exact Nat.le_refl _ | exact Nat.le_succ _) _) (by first | exact Nat.le_refl _ | exact Nat.le_succ _) _) (by first | exact Nat.le_refl _ | exact Nat.le_succ _) _)⟩

set_option maxHeartbeats 4000000 in
theorem see_quick (x0 x1 x2 : Int) (x3 : Bool) (x4 x5 now wt : Int) (hok : codOk ⟨x0, x1, x2, x3, x4, x5⟩ = true) (hn : 0 ≤ now ∧ now ≤ 1000000000) (hw : -1 ≤ wt ∧ wt ≤ 1000000000) (h0 : ¬ wt < 0) (h : wt < x0) (w : World) : Calls Try.prog 22 #[.agg #[.int .i64 x0, .int .i64 x1, .int .i64 x2, .bool x3, .int .i64 x4, .int .i64 x5], .int .i64 now, .int .i64 wt] w fun e w' => e = .returned (.tuple #[.agg #[.int .i64 x0, .int .i64 x1, .int .i64 0, .bool false, .int .i64 0, .int .i64 0], .bool false]) ∧ Below w.heap.size w w' := by
  have hC := fun (W : World) => spec_codelok x0 x1 x2 x3 x4 x5 W
  rw [hok] at hC
  clear hok
  have p1 : decide (0 ≤ now) = true := by first | exact decide_eq_true (by omega) | (simp; omega)
  have p2 : decide (now ≤ 1000000000) = true := by first | exact decide_eq_true (by omega) | (simp; omega)
  have p3 : decide (wt < -1) = false := by first | exact decide_eq_false (by omega) | (simp; omega)
  have p4 : decide (1000000000 < wt) = false := by first | exact decide_eq_false (by omega) | (simp; omega)
  have p5 : decide (wt < 0) = false := by first | exact decide_eq_false (by omega) | (simp; omega)
  have p6 : decide (wt < x0) = true := by first | exact decide_eq_true (by omega) | (simp; omega)
  go_enter Try.func22, Try.ntmps22
  go_wp2_with (first | (go_at_call 31; refine (hC _).mono ?_; rintro e' w1 ⟨rfl, hb⟩; have H1 : Hid (Bel w w1 ∧ boxB w1 w.heap.size #[.int .i64 x0, .int .i64 x1, .int .i64 x2, .bool x3, .int .i64 x4, .int .i64 x5] 24 ∧ boxB w1 (w.heap.size + 1) #[.int .i64 0, .int .i64 0, .int .i64 0, .bool false, .int .i64 0, .int .i64 0] 24) := ⟨Bel.below (n2 w _ _) hb, ((boxB.new w #[.int .i64 x0, .int .i64 x1, .int .i64 x2, .bool x3, .int .i64 x4, .int .i64 x5] 24).below (n1 _ _)).below hb, (new2 w _ _ _).below hb⟩; have c0 := H1.out.2.2.cell 0; have z0 := fzB H1.out.2.2 0; have d0 := H1.out.2.1.cell 0; have f0 := fzB H1.out.2.1 0; have c1 := H1.out.2.2.cell 1; have z1 := fzB H1.out.2.2 1; have d1 := H1.out.2.1.cell 1; have f1 := fzB H1.out.2.1 1; have c2 := H1.out.2.2.cell 2; have z2 := fzB H1.out.2.2 2; have d2 := H1.out.2.1.cell 2; have f2 := fzB H1.out.2.1 2; have c3 := H1.out.2.2.cell 3; have z3 := fzB H1.out.2.2 3; have d3 := H1.out.2.1.cell 3; have f3 := fzB H1.out.2.1 3; have c4 := H1.out.2.2.cell 4; have z4 := fzB H1.out.2.2 4; have d4 := H1.out.2.1.cell 4; have f4 := fzB H1.out.2.1 4; have c5 := H1.out.2.2.cell 5; have z5 := fzB H1.out.2.2 5; have d5 := H1.out.2.1.cell 5; have f5 := fzB H1.out.2.1 5; clear hb hC) | (go_at_call 32; go_in))
  exact bodyPost_ret (v := .tuple #[.agg #[.int .i64 x0, .int .i64 x1, .int .i64 0, .bool false, .int .i64 0, .int .i64 0], .bool false]) (by simp [results, Try.results22, go_sem, c0, z0, d0, f0, c1, z1, d1, f1, c2, z2, d2, f2, c3, z3, d3, f3, c4, z4, d4, f4, c5, z5, d5, f5]) rfl ⟨rfl, (Below.setCell (Below.setCell (Below.setCell (Below.setCell (Below.setCell (Below.setCell H1.out.1.out (by first | exact Nat.le_refl _ | exact Nat.le_succ _) _) (by first | exact Nat.le_refl _ | exact Nat.le_succ _) _) (by first | exact Nat.le_refl _ | exact Nat.le_succ _) _) (by first | exact Nat.le_refl _ | exact Nat.le_succ _) _) (by first | exact Nat.le_refl _ | exact Nat.le_succ _) _) (by first | exact Nat.le_refl _ | exact Nat.le_succ _) _)⟩

set_option maxHeartbeats 4000000 in
theorem see_begin (x0 x1 x4 x5 now wt : Int) (hok : codOk ⟨x0, x1, 0, false, x4, x5⟩ = true) (hn : 0 ≤ now ∧ now ≤ 1000000000) (hw : -1 ≤ wt ∧ wt ≤ 1000000000) (h0 : ¬ wt < 0) (h1 : ¬ wt < x0) (hx : 0 ≤ x1 ∧ x1 ≤ 1000000000) (w : World) : Calls Try.prog 22 #[.agg #[.int .i64 x0, .int .i64 x1, .int .i64 0, .bool false, .int .i64 x4, .int .i64 x5], .int .i64 now, .int .i64 wt] w fun e w' => e = .returned (.tuple #[.agg #[.int .i64 x0, .int .i64 x1, .int .i64 (atime now x1), .bool false, .int .i64 x4, .int .i64 x5], .bool false]) ∧ Below w.heap.size w w' := by
  have hC := fun (W : World) => spec_codelok x0 x1 0 false x4 x5 W
  rw [hok] at hC
  clear hok
  have p1 : decide (0 ≤ now) = true := by first | exact decide_eq_true (by omega) | (simp; omega)
  have p2 : decide (now ≤ 1000000000) = true := by first | exact decide_eq_true (by omega) | (simp; omega)
  have p3 : decide (wt < -1) = false := by first | exact decide_eq_false (by omega) | (simp; omega)
  have p4 : decide (1000000000 < wt) = false := by first | exact decide_eq_false (by omega) | (simp; omega)
  have p5 : decide (wt < 0) = false := by first | exact decide_eq_false (by omega) | (simp; omega)
  have p6 : decide (wt < x0) = false := by first | exact decide_eq_false (by omega) | (simp; omega)
  have HA := fun (W : World) => spec_addtime now x1 W (by omega) (by omega)
  obtain ⟨y, hy⟩ : ∃ y, atime now x1 = y := ⟨_, rfl⟩
  rw [hy] at HA
  rw [hy]
  clear hy
  go_enter Try.func22, Try.ntmps22
  go_wp2_with (first | (go_at_call 31; refine (hC _).mono ?_; rintro e' w1 ⟨rfl, hb⟩; have H1 : Hid (Bel w w1 ∧ boxB w1 w.heap.size #[.int .i64 x0, .int .i64 x1, .int .i64 0, .bool false, .int .i64 x4, .int .i64 x5] 24 ∧ boxB w1 (w.heap.size + 1) #[.int .i64 0, .int .i64 0, .int .i64 0, .bool false, .int .i64 0, .int .i64 0] 24) := ⟨Bel.below (n2 w _ _) hb, ((boxB.new w #[.int .i64 x0, .int .i64 x1, .int .i64 0, .bool false, .int .i64 x4, .int .i64 x5] 24).below (n1 _ _)).below hb, (new2 w _ _ _).below hb⟩; have c0 := H1.out.2.2.cell 0; have z0 := fzB H1.out.2.2 0; have d0 := H1.out.2.1.cell 0; have f0 := fzB H1.out.2.1 0; have c1 := H1.out.2.2.cell 1; have z1 := fzB H1.out.2.2 1; have d1 := H1.out.2.1.cell 1; have f1 := fzB H1.out.2.1 1; have c2 := H1.out.2.2.cell 2; have z2 := fzB H1.out.2.2 2; have d2 := H1.out.2.1.cell 2; have f2 := fzB H1.out.2.1 2; have c3 := H1.out.2.2.cell 3; have z3 := fzB H1.out.2.2 3; have d3 := H1.out.2.1.cell 3; have f3 := fzB H1.out.2.1 3; have c4 := H1.out.2.2.cell 4; have z4 := fzB H1.out.2.2 4; have d4 := H1.out.2.1.cell 4; have f4 := fzB H1.out.2.1 4; have c5 := H1.out.2.2.cell 5; have z5 := fzB H1.out.2.2 5; have d5 := H1.out.2.1.cell 5; have f5 := fzB H1.out.2.1 5; clear hb hC) | (go_at_call 32; go_in) | (go_at_call 33; refine (HA _).mono ?_; rintro e' w2 ⟨rfl, rfl⟩))
  exact bodyPost_ret (v := .tuple #[.agg #[.int .i64 x0, .int .i64 x1, .int .i64 y, .bool false, .int .i64 x4, .int .i64 x5], .bool false]) (by simp [results, Try.results22, go_sem, c0, z0, d0, f0, c1, z1, d1, f1, c2, z2, d2, f2, c3, z3, d3, f3, c4, z4, d4, f4, c5, z5, d5, f5]) rfl ⟨rfl, (Below.setCell (Below.setCell (Below.setCell (Below.setCell (Below.setCell (Below.setCell (Below.setCell H1.out.1.out (by first | exact Nat.le_refl _ | exact Nat.le_succ _) _) (by first | exact Nat.le_refl _ | exact Nat.le_succ _) _) (by first | exact Nat.le_refl _ | exact Nat.le_succ _) _) (by first | exact Nat.le_refl _ | exact Nat.le_succ _) _) (by first | exact Nat.le_refl _ | exact Nat.le_succ _) _) (by first | exact Nat.le_refl _ | exact Nat.le_succ _) _) (by first | exact Nat.le_refl _ | exact Nat.le_succ _) _)⟩

set_option maxHeartbeats 4000000 in
theorem see_first (x0 x1 x2 x4 x5 now wt : Int) (hok : codOk ⟨x0, x1, x2, false, x4, x5⟩ = true) (hn : 0 ≤ now ∧ now ≤ 1000000000) (hw : -1 ≤ wt ∧ wt ≤ 1000000000) (h0 : ¬ wt < 0) (h1 : ¬ wt < x0) (hx : 0 ≤ x1 ∧ x1 ≤ 1000000000) (hf : ¬ x2 = 0) (hl : x2 ≤ now) (w : World) : Calls Try.prog 22 #[.agg #[.int .i64 x0, .int .i64 x1, .int .i64 x2, .bool false, .int .i64 x4, .int .i64 x5], .int .i64 now, .int .i64 wt] w fun e w' => e = .returned (.tuple #[.agg #[.int .i64 x0, .int .i64 x1, .int .i64 x2, .bool true, .int .i64 (atime now x1), .int .i64 1], .bool true]) ∧ Below w.heap.size w w' := by
  have hC := fun (W : World) => spec_codelok x0 x1 x2 false x4 x5 W
  rw [hok] at hC
  clear hok
  have p1 : decide (0 ≤ now) = true := by first | exact decide_eq_true (by omega) | (simp; omega)
  have p2 : decide (now ≤ 1000000000) = true := by first | exact decide_eq_true (by omega) | (simp; omega)
  have p3 : decide (wt < -1) = false := by first | exact decide_eq_false (by omega) | (simp; omega)
  have p4 : decide (1000000000 < wt) = false := by first | exact decide_eq_false (by omega) | (simp; omega)
  have p5 : decide (wt < 0) = false := by first | exact decide_eq_false (by omega) | (simp; omega)
  have p6 : decide (wt < x0) = false := by first | exact decide_eq_false (by omega) | (simp; omega)
  have q1 : (x2 == 0) = false := by simpa using hf
  have p7 : decide (x2 ≤ now) = true := by first | exact decide_eq_true (by omega) | (simp; omega)
  have HA := fun (W : World) => spec_addtime now x1 W (by omega) (by omega)
  obtain ⟨y, hy⟩ : ∃ y, atime now x1 = y := ⟨_, rfl⟩
  rw [hy] at HA
  rw [hy]
  clear hy
  go_enter Try.func22, Try.ntmps22
  go_wp2_with (first | (go_at_call 31; refine (hC _).mono ?_; rintro e' w1 ⟨rfl, hb⟩; have H1 : Hid (Bel w w1 ∧ boxB w1 w.heap.size #[.int .i64 x0, .int .i64 x1, .int .i64 x2, .bool false, .int .i64 x4, .int .i64 x5] 24 ∧ boxB w1 (w.heap.size + 1) #[.int .i64 0, .int .i64 0, .int .i64 0, .bool false, .int .i64 0, .int .i64 0] 24) := ⟨Bel.below (n2 w _ _) hb, ((boxB.new w #[.int .i64 x0, .int .i64 x1, .int .i64 x2, .bool false, .int .i64 x4, .int .i64 x5] 24).below (n1 _ _)).below hb, (new2 w _ _ _).below hb⟩; have c0 := H1.out.2.2.cell 0; have z0 := fzB H1.out.2.2 0; have d0 := H1.out.2.1.cell 0; have f0 := fzB H1.out.2.1 0; have c1 := H1.out.2.2.cell 1; have z1 := fzB H1.out.2.2 1; have d1 := H1.out.2.1.cell 1; have f1 := fzB H1.out.2.1 1; have c2 := H1.out.2.2.cell 2; have z2 := fzB H1.out.2.2 2; have d2 := H1.out.2.1.cell 2; have f2 := fzB H1.out.2.1 2; have c3 := H1.out.2.2.cell 3; have z3 := fzB H1.out.2.2 3; have d3 := H1.out.2.1.cell 3; have f3 := fzB H1.out.2.1 3; have c4 := H1.out.2.2.cell 4; have z4 := fzB H1.out.2.2 4; have d4 := H1.out.2.1.cell 4; have f4 := fzB H1.out.2.1 4; have c5 := H1.out.2.2.cell 5; have z5 := fzB H1.out.2.2 5; have d5 := H1.out.2.1.cell 5; have f5 := fzB H1.out.2.1 5; clear hb hC) | (go_at_call 32; go_in) | (go_at_call 33; refine (HA _).mono ?_; rintro e' w2 ⟨rfl, rfl⟩))
  exact bodyPost_ret (v := .tuple #[.agg #[.int .i64 x0, .int .i64 x1, .int .i64 x2, .bool true, .int .i64 y, .int .i64 1], .bool true]) (by simp [results, Try.results22, go_sem, c0, z0, d0, f0, c1, z1, d1, f1, c2, z2, d2, f2, c3, z3, d3, f3, c4, z4, d4, f4, c5, z5, d5, f5]) rfl ⟨rfl, (Below.setCell (Below.setCell (Below.setCell (Below.setCell (Below.setCell (Below.setCell (Below.setCell (Below.setCell (Below.setCell H1.out.1.out (by first | exact Nat.le_refl _ | exact Nat.le_succ _) _) (by first | exact Nat.le_refl _ | exact Nat.le_succ _) _) (by first | exact Nat.le_refl _ | exact Nat.le_succ _) _) (by first | exact Nat.le_refl _ | exact Nat.le_succ _) _) (by first | exact Nat.le_refl _ | exact Nat.le_succ _) _) (by first | exact Nat.le_refl _ | exact Nat.le_succ _) _) (by first | exact Nat.le_refl _ | exact Nat.le_succ _) _) (by first | exact Nat.le_refl _ | exact Nat.le_succ _) _) (by first | exact Nat.le_refl _ | exact Nat.le_succ _) _)⟩

set_option maxHeartbeats 4000000 in
theorem see_wait (x0 x1 x2 x4 x5 now wt : Int) (hok : codOk ⟨x0, x1, x2, false, x4, x5⟩ = true) (hn : 0 ≤ now ∧ now ≤ 1000000000) (hw : -1 ≤ wt ∧ wt ≤ 1000000000) (h0 : ¬ wt < 0) (h1 : ¬ wt < x0) (hf : ¬ x2 = 0) (hl : ¬ x2 ≤ now) (w : World) : Calls Try.prog 22 #[.agg #[.int .i64 x0, .int .i64 x1, .int .i64 x2, .bool false, .int .i64 x4, .int .i64 x5], .int .i64 now, .int .i64 wt] w fun e w' => e = .returned (.tuple #[.agg #[.int .i64 x0, .int .i64 x1, .int .i64 x2, .bool false, .int .i64 x4, .int .i64 x5], .bool false]) ∧ Below w.heap.size w w' := by
  have hC := fun (W : World) => spec_codelok x0 x1 x2 false x4 x5 W
  rw [hok] at hC
  clear hok
  have p1 : decide (0 ≤ now) = true := by first | exact decide_eq_true (by omega) | (simp; omega)
  have p2 : decide (now ≤ 1000000000) = true := by first | exact decide_eq_true (by omega) | (simp; omega)
  have p3 : decide (wt < -1) = false := by first | exact decide_eq_false (by omega) | (simp; omega)
  have p4 : decide (1000000000 < wt) = false := by first | exact decide_eq_false (by omega) | (simp; omega)
  have p5 : decide (wt < 0) = false := by first | exact decide_eq_false (by omega) | (simp; omega)
  have p6 : decide (wt < x0) = false := by first | exact decide_eq_false (by omega) | (simp; omega)
  have q1 : (x2 == 0) = false := by simpa using hf
  have p7 : decide (x2 ≤ now) = false := by first | exact decide_eq_false (by omega) | (simp; omega)
  go_enter Try.func22, Try.ntmps22
  go_wp2_with (first | (go_at_call 31; refine (hC _).mono ?_; rintro e' w1 ⟨rfl, hb⟩; have H1 : Hid (Bel w w1 ∧ boxB w1 w.heap.size #[.int .i64 x0, .int .i64 x1, .int .i64 x2, .bool false, .int .i64 x4, .int .i64 x5] 24 ∧ boxB w1 (w.heap.size + 1) #[.int .i64 0, .int .i64 0, .int .i64 0, .bool false, .int .i64 0, .int .i64 0] 24) := ⟨Bel.below (n2 w _ _) hb, ((boxB.new w #[.int .i64 x0, .int .i64 x1, .int .i64 x2, .bool false, .int .i64 x4, .int .i64 x5] 24).below (n1 _ _)).below hb, (new2 w _ _ _).below hb⟩; have c0 := H1.out.2.2.cell 0; have z0 := fzB H1.out.2.2 0; have d0 := H1.out.2.1.cell 0; have f0 := fzB H1.out.2.1 0; have c1 := H1.out.2.2.cell 1; have z1 := fzB H1.out.2.2 1; have d1 := H1.out.2.1.cell 1; have f1 := fzB H1.out.2.1 1; have c2 := H1.out.2.2.cell 2; have z2 := fzB H1.out.2.2 2; have d2 := H1.out.2.1.cell 2; have f2 := fzB H1.out.2.1 2; have c3 := H1.out.2.2.cell 3; have z3 := fzB H1.out.2.2 3; have d3 := H1.out.2.1.cell 3; have f3 := fzB H1.out.2.1 3; have c4 := H1.out.2.2.cell 4; have z4 := fzB H1.out.2.2 4; have d4 := H1.out.2.1.cell 4; have f4 := fzB H1.out.2.1 4; have c5 := H1.out.2.2.cell 5; have z5 := fzB H1.out.2.2 5; have d5 := H1.out.2.1.cell 5; have f5 := fzB H1.out.2.1 5; clear hb hC) | (go_at_call 32; go_in))
  exact bodyPost_ret (v := .tuple #[.agg #[.int .i64 x0, .int .i64 x1, .int .i64 x2, .bool false, .int .i64 x4, .int .i64 x5], .bool false]) (by simp [results, Try.results22, go_sem, c0, z0, d0, f0, c1, z1, d1, f1, c2, z2, d2, f2, c3, z3, d3, f3, c4, z4, d4, f4, c5, z5, d5, f5]) rfl ⟨rfl, (Below.setCell (Below.setCell (Below.setCell (Below.setCell (Below.setCell (Below.setCell H1.out.1.out (by first | exact Nat.le_refl _ | exact Nat.le_succ _) _) (by first | exact Nat.le_refl _ | exact Nat.le_succ _) _) (by first | exact Nat.le_refl _ | exact Nat.le_succ _) _) (by first | exact Nat.le_refl _ | exact Nat.le_succ _) _) (by first | exact Nat.le_refl _ | exact Nat.le_succ _) _) (by first | exact Nat.le_refl _ | exact Nat.le_succ _) _)⟩

set_option maxHeartbeats 4000000 in
theorem see_still (x0 x1 x2 x4 x5 now wt : Int) (hok : codOk ⟨x0, x1, x2, true, x4, x5⟩ = true) (hn : 0 ≤ now ∧ now ≤ 1000000000) (hw : -1 ≤ wt ∧ wt ≤ 1000000000) (h0 : ¬ wt < 0) (h1 : ¬ wt < x0) (hl : ¬ x4 ≤ now) (w : World) : Calls Try.prog 22 #[.agg #[.int .i64 x0, .int .i64 x1, .int .i64 x2, .bool true, .int .i64 x4, .int .i64 x5], .int .i64 now, .int .i64 wt] w fun e w' => e = .returned (.tuple #[.agg #[.int .i64 x0, .int .i64 x1, .int .i64 x2, .bool true, .int .i64 x4, .int .i64 x5], .bool false]) ∧ Below w.heap.size w w' := by
  have hC := fun (W : World) => spec_codelok x0 x1 x2 true x4 x5 W
  rw [hok] at hC
  clear hok
  have p1 : decide (0 ≤ now) = true := by first | exact decide_eq_true (by omega) | (simp; omega)
  have p2 : decide (now ≤ 1000000000) = true := by first | exact decide_eq_true (by omega) | (simp; omega)
  have p3 : decide (wt < -1) = false := by first | exact decide_eq_false (by omega) | (simp; omega)
  have p4 : decide (1000000000 < wt) = false := by first | exact decide_eq_false (by omega) | (simp; omega)
  have p5 : decide (wt < 0) = false := by first | exact decide_eq_false (by omega) | (simp; omega)
  have p6 : decide (wt < x0) = false := by first | exact decide_eq_false (by omega) | (simp; omega)
  have p7 : decide (x4 ≤ now) = false := by first | exact decide_eq_false (by omega) | (simp; omega)
  go_enter Try.func22, Try.ntmps22
  go_wp2_with (first | (go_at_call 31; refine (hC _).mono ?_; rintro e' w1 ⟨rfl, hb⟩; have H1 : Hid (Bel w w1 ∧ boxB w1 w.heap.size #[.int .i64 x0, .int .i64 x1, .int .i64 x2, .bool true, .int .i64 x4, .int .i64 x5] 24 ∧ boxB w1 (w.heap.size + 1) #[.int .i64 0, .int .i64 0, .int .i64 0, .bool false, .int .i64 0, .int .i64 0] 24) := ⟨Bel.below (n2 w _ _) hb, ((boxB.new w #[.int .i64 x0, .int .i64 x1, .int .i64 x2, .bool true, .int .i64 x4, .int .i64 x5] 24).below (n1 _ _)).below hb, (new2 w _ _ _).below hb⟩; have c0 := H1.out.2.2.cell 0; have z0 := fzB H1.out.2.2 0; have d0 := H1.out.2.1.cell 0; have f0 := fzB H1.out.2.1 0; have c1 := H1.out.2.2.cell 1; have z1 := fzB H1.out.2.2 1; have d1 := H1.out.2.1.cell 1; have f1 := fzB H1.out.2.1 1; have c2 := H1.out.2.2.cell 2; have z2 := fzB H1.out.2.2 2; have d2 := H1.out.2.1.cell 2; have f2 := fzB H1.out.2.1 2; have c3 := H1.out.2.2.cell 3; have z3 := fzB H1.out.2.2 3; have d3 := H1.out.2.1.cell 3; have f3 := fzB H1.out.2.1 3; have c4 := H1.out.2.2.cell 4; have z4 := fzB H1.out.2.2 4; have d4 := H1.out.2.1.cell 4; have f4 := fzB H1.out.2.1 4; have c5 := H1.out.2.2.cell 5; have z5 := fzB H1.out.2.2 5; have d5 := H1.out.2.1.cell 5; have f5 := fzB H1.out.2.1 5; clear hb hC) | (go_at_call 32; go_in))
  exact bodyPost_ret (v := .tuple #[.agg #[.int .i64 x0, .int .i64 x1, .int .i64 x2, .bool true, .int .i64 x4, .int .i64 x5], .bool false]) (by simp [results, Try.results22, go_sem, c0, z0, d0, f0, c1, z1, d1, f1, c2, z2, d2, f2, c3, z3, d3, f3, c4, z4, d4, f4, c5, z5, d5, f5]) rfl ⟨rfl, (Below.setCell (Below.setCell (Below.setCell (Below.setCell (Below.setCell (Below.setCell H1.out.1.out (by first | exact Nat.le_refl _ | exact Nat.le_succ _) _) (by first | exact Nat.le_refl _ | exact Nat.le_succ _) _) (by first | exact Nat.le_refl _ | exact Nat.le_succ _) _) (by first | exact Nat.le_refl _ | exact Nat.le_succ _) _) (by first | exact Nat.le_refl _ | exact Nat.le_succ _) _) (by first | exact Nat.le_refl _ | exact Nat.le_succ _) _)⟩

set_option maxHeartbeats 4000000 in
theorem see_drop (x0 x1 x2 x4 x5 now wt : Int) (hok : codOk ⟨x0, x1, x2, true, x4, x5⟩ = true) (hn : 0 ≤ now ∧ now ≤ 1000000000) (hw : -1 ≤ wt ∧ wt ≤ 1000000000) (h0 : ¬ wt < 0) (h1 : ¬ wt < x0) (hr : 0 ≤ x4 ∧ x4 ≤ 1000000000 ∧ 0 ≤ x5 ∧ x5 ≤ 100000 ∧ 1 ≤ x1 ∧ x1 ≤ 100000) (hl : x4 ≤ now) (hu : ¬ 100000 < x5 + 1) (w : World) : Calls Try.prog 22 #[.agg #[.int .i64 x0, .int .i64 x1, .int .i64 x2, .bool true, .int .i64 x4, .int .i64 x5], .int .i64 now, .int .i64 wt] w fun e w' => e = .returned (.tuple #[.agg #[.int .i64 x0, .int .i64 x1, .int .i64 x2, .bool true, .int .i64 (atime x4 (pace x1 (x5 + 1))), .int .i64 (x5 + 1)], .bool true]) ∧ Below w.heap.size w w' := by
  have hC := fun (W : World) => spec_codelok x0 x1 x2 true x4 x5 W
  rw [hok] at hC
  clear hok
  have p1 : decide (0 ≤ now) = true := by first | exact decide_eq_true (by omega) | (simp; omega)
  have p2 : decide (now ≤ 1000000000) = true := by first | exact decide_eq_true (by omega) | (simp; omega)
  have p3 : decide (wt < -1) = false := by first | exact decide_eq_false (by omega) | (simp; omega)
  have p4 : decide (1000000000 < wt) = false := by first | exact decide_eq_false (by omega) | (simp; omega)
  have p5 : decide (wt < 0) = false := by first | exact decide_eq_false (by omega) | (simp; omega)
  have p6 : decide (wt < x0) = false := by first | exact decide_eq_false (by omega) | (simp; omega)
  have p7 : decide (x4 ≤ now) = true := by first | exact decide_eq_true (by omega) | (simp; omega)
  have wu : IntKind.i64.wrap (x5 + 1) = x5 + 1 := by rw [IntKind.wrap_i64]; omega
  have k1 : ¬ x5 + 1 < 1 := by omega
  have hp := pace_in (e := x1) (c := (x5 + 1)) (by omega)
  have HP := fun (W : World) => spec_pace x1 (x5 + 1) W
  obtain ⟨q, hq⟩ : ∃ q, pace x1 (x5 + 1) = q := ⟨_, rfl⟩
  rw [hq] at HP hp
  have HA := fun (W : World) => spec_addtime x4 q W (by omega) (by omega)
  obtain ⟨y, hy⟩ : ∃ y, atime x4 q = y := ⟨_, rfl⟩
  rw [hy] at HA
  rw [hq, hy]
  clear hq hy hp
  go_enter Try.func22, Try.ntmps22
  go_upto_region 15 with (first | (go_at_call 31; refine (hC _).mono ?_; rintro e' w1 ⟨rfl, hb⟩; have H1 : Hid (Bel w w1 ∧ boxB w1 w.heap.size #[.int .i64 x0, .int .i64 x1, .int .i64 x2, .bool true, .int .i64 x4, .int .i64 x5] 24 ∧ boxB w1 (w.heap.size + 1) #[.int .i64 0, .int .i64 0, .int .i64 0, .bool false, .int .i64 0, .int .i64 0] 24) := ⟨Bel.below (n2 w _ _) hb, ((boxB.new w #[.int .i64 x0, .int .i64 x1, .int .i64 x2, .bool true, .int .i64 x4, .int .i64 x5] 24).below (n1 _ _)).below hb, (new2 w _ _ _).below hb⟩; have d0 := H1.out.2.1.cell 0; have f0 := fzB H1.out.2.1 0; have d1 := H1.out.2.1.cell 1; have f1 := fzB H1.out.2.1 1; have d2 := H1.out.2.1.cell 2; have f2 := fzB H1.out.2.1 2; have d3 := H1.out.2.1.cell 3; have f3 := fzB H1.out.2.1 3; have d4 := H1.out.2.1.cell 4; have f4 := fzB H1.out.2.1 4; have d5 := H1.out.2.1.cell 5; have f5 := fzB H1.out.2.1 5; clear hb hC) | (go_at_call 32; go_in) | (go_at_call 34; go_in))
  have H2 : Hid (Bel w (w1.setCell ⟨w.heap.size, 5, none⟩ (.int .i64 (x5 + 1))) ∧ boxB (w1.setCell ⟨w.heap.size, 5, none⟩ (.int .i64 (x5 + 1))) w.heap.size #[.int .i64 x0, .int .i64 x1, .int .i64 x2, .bool true, .int .i64 x4, .int .i64 (x5 + 1)] 24 ∧ boxB (w1.setCell ⟨w.heap.size, 5, none⟩ (.int .i64 (x5 + 1))) (w.heap.size + 1) #[.int .i64 0, .int .i64 0, .int .i64 0, .bool false, .int .i64 0, .int .i64 0] 24) := ⟨Below.setCell H1.out.1.out (by exact Nat.le_refl _) _, H1.out.2.1.set 5 _, H1.out.2.2.else (by show w.heap.size + 1 ≠ w.heap.size; omega) _⟩
  clear d0 f0 d1 f1 d2 f2 d3 f3 d4 f4 d5 f5 H1
  generalize w1.setCell ⟨w.heap.size, 5, none⟩ (.int .i64 (x5 + 1)) = w2 at *
  have HD : Hid (boxB w2.drew w.heap.size #[.int .i64 x0, .int .i64 x1, .int .i64 x2, .bool true, .int .i64 x4, .int .i64 (x5 + 1)] 24 ∧ boxB w2.drew (w.heap.size + 1) #[.int .i64 0, .int .i64 0, .int .i64 0, .bool false, .int .i64 0, .int .i64 0] 24) := ⟨H2.out.2.1, H2.out.2.2⟩
  have c0 := HD.out.2.cell 0
  have z0 := fzB HD.out.2 0
  have d0 := HD.out.1.cell 0
  have f0 := fzB HD.out.1 0
  have c1 := HD.out.2.cell 1
  have z1 := fzB HD.out.2 1
  have d1 := HD.out.1.cell 1
  have f1 := fzB HD.out.1 1
  have c2 := HD.out.2.cell 2
  have z2 := fzB HD.out.2 2
  have d2 := HD.out.1.cell 2
  have f2 := fzB HD.out.1 2
  have c3 := HD.out.2.cell 3
  have z3 := fzB HD.out.2 3
  have d3 := HD.out.1.cell 3
  have f3 := fzB HD.out.1 3
  have c4 := HD.out.2.cell 4
  have z4 := fzB HD.out.2 4
  have d4 := HD.out.1.cell 4
  have f4 := fzB HD.out.1 4
  have c5 := HD.out.2.cell 5
  have z5 := fzB HD.out.2 5
  have d5 := HD.out.1.cell 5
  have f5 := fzB HD.out.1 5
  go_region_with (first | (go_at_call 35; refine (HP _).mono ?_; rintro e' w3 ⟨rfl, rfl⟩) | (go_at_call 33; refine (HA _).mono ?_; rintro e' w3 ⟨rfl, rfl⟩))
  all_goals
    have H3 : Hid (Bel w (w2.setCell ⟨w.heap.size, 4, none⟩ (.int .i64 y)).drew ∧ boxB (w2.setCell ⟨w.heap.size, 4, none⟩ (.int .i64 y)).drew w.heap.size #[.int .i64 x0, .int .i64 x1, .int .i64 x2, .bool true, .int .i64 y, .int .i64 (x5 + 1)] 24 ∧ boxB (w2.setCell ⟨w.heap.size, 4, none⟩ (.int .i64 y)).drew (w.heap.size + 1) #[.int .i64 0, .int .i64 0, .int .i64 0, .bool false, .int .i64 0, .int .i64 0] 24) := ⟨Below.drew (Below.setCell H2.out.1.out (by exact Nat.le_refl _) _), H2.out.2.1.set 4 _, H2.out.2.2.else (by show w.heap.size + 1 ≠ w.heap.size; omega) _⟩
    clear c0 z0 d0 f0 c1 z1 d1 f1 c2 z2 d2 f2 c3 z3 d3 f3 c4 z4 d4 f4 c5 z5 d5 f5 H2 HD
    generalize (w2.setCell ⟨w.heap.size, 4, none⟩ (.int .i64 y)).drew = w4 at *
    have c0 := H3.out.2.2.cell 0
    have z0 := fzB H3.out.2.2 0
    have d0 := H3.out.2.1.cell 0
    have f0 := fzB H3.out.2.1 0
    have c1 := H3.out.2.2.cell 1
    have z1 := fzB H3.out.2.2 1
    have d1 := H3.out.2.1.cell 1
    have f1 := fzB H3.out.2.1 1
    have c2 := H3.out.2.2.cell 2
    have z2 := fzB H3.out.2.2 2
    have d2 := H3.out.2.1.cell 2
    have f2 := fzB H3.out.2.1 2
    have c3 := H3.out.2.2.cell 3
    have z3 := fzB H3.out.2.2 3
    have d3 := H3.out.2.1.cell 3
    have f3 := fzB H3.out.2.1 3
    have c4 := H3.out.2.2.cell 4
    have z4 := fzB H3.out.2.2 4
    have d4 := H3.out.2.1.cell 4
    have f4 := fzB H3.out.2.1 4
    have c5 := H3.out.2.2.cell 5
    have z5 := fzB H3.out.2.2 5
    have d5 := H3.out.2.1.cell 5
    have f5 := fzB H3.out.2.1 5
    go_wp2
    exact bodyPost_ret (v := .tuple #[.agg #[.int .i64 x0, .int .i64 x1, .int .i64 x2, .bool true, .int .i64 y, .int .i64 (x5 + 1)], .bool true]) (by simp [results, Try.results22, go_sem, c0, z0, d0, f0, c1, z1, d1, f1, c2, z2, d2, f2, c3, z3, d3, f3, c4, z4, d4, f4, c5, z5, d5, f5]) rfl ⟨rfl, (Below.setCell (Below.setCell (Below.setCell (Below.setCell (Below.setCell (Below.setCell H3.out.1.out (by first | exact Nat.le_refl _ | exact Nat.le_succ _) _) (by first | exact Nat.le_refl _ | exact Nat.le_succ _) _) (by first | exact Nat.le_refl _ | exact Nat.le_succ _) _) (by first | exact Nat.le_refl _ | exact Nat.le_succ _) _) (by first | exact Nat.le_refl _ | exact Nat.le_succ _) _) (by first | exact Nat.le_refl _ | exact Nat.le_succ _) _)⟩

set_option maxHeartbeats 4000000 in
theorem see_drop_end (x0 x1 x2 x4 x5 now wt : Int) (hok : codOk ⟨x0, x1, x2, true, x4, x5⟩ = true) (hn : 0 ≤ now ∧ now ≤ 1000000000) (hw : -1 ≤ wt ∧ wt ≤ 1000000000) (h0 : ¬ wt < 0) (h1 : ¬ wt < x0) (hr : 0 ≤ x4 ∧ x4 ≤ 1000000000 ∧ 0 ≤ x5 ∧ x5 ≤ 100000 ∧ 1 ≤ x1 ∧ x1 ≤ 100000) (hl : x4 ≤ now) (hu : 100000 < x5 + 1) (w : World) : Calls Try.prog 22 #[.agg #[.int .i64 x0, .int .i64 x1, .int .i64 x2, .bool true, .int .i64 x4, .int .i64 x5], .int .i64 now, .int .i64 wt] w fun e w' => e = .returned (.tuple #[.agg #[.int .i64 x0, .int .i64 x1, .int .i64 x2, .bool true, .int .i64 (atime x4 (pace x1 100000)), .int .i64 100000], .bool true]) ∧ Below w.heap.size w w' := by
  have hC := fun (W : World) => spec_codelok x0 x1 x2 true x4 x5 W
  rw [hok] at hC
  clear hok
  have p1 : decide (0 ≤ now) = true := by first | exact decide_eq_true (by omega) | (simp; omega)
  have p2 : decide (now ≤ 1000000000) = true := by first | exact decide_eq_true (by omega) | (simp; omega)
  have p3 : decide (wt < -1) = false := by first | exact decide_eq_false (by omega) | (simp; omega)
  have p4 : decide (1000000000 < wt) = false := by first | exact decide_eq_false (by omega) | (simp; omega)
  have p5 : decide (wt < 0) = false := by first | exact decide_eq_false (by omega) | (simp; omega)
  have p6 : decide (wt < x0) = false := by first | exact decide_eq_false (by omega) | (simp; omega)
  have p7 : decide (x4 ≤ now) = true := by first | exact decide_eq_true (by omega) | (simp; omega)
  have wu : IntKind.i64.wrap (x5 + 1) = x5 + 1 := by rw [IntKind.wrap_i64]; omega
  have k1 : ¬ x5 + 1 < 1 := by omega
  have hp := pace_in (e := x1) (c := 100000) (by omega)
  have HP := fun (W : World) => spec_pace x1 100000 W
  obtain ⟨q, hq⟩ : ∃ q, pace x1 100000 = q := ⟨_, rfl⟩
  rw [hq] at HP hp
  have HA := fun (W : World) => spec_addtime x4 q W (by omega) (by omega)
  obtain ⟨y, hy⟩ : ∃ y, atime x4 q = y := ⟨_, rfl⟩
  rw [hy] at HA
  rw [hq, hy]
  clear hq hy hp
  go_enter Try.func22, Try.ntmps22
  go_upto_region 15 with (first | (go_at_call 31; refine (hC _).mono ?_; rintro e' w1 ⟨rfl, hb⟩; have H1 : Hid (Bel w w1 ∧ boxB w1 w.heap.size #[.int .i64 x0, .int .i64 x1, .int .i64 x2, .bool true, .int .i64 x4, .int .i64 x5] 24 ∧ boxB w1 (w.heap.size + 1) #[.int .i64 0, .int .i64 0, .int .i64 0, .bool false, .int .i64 0, .int .i64 0] 24) := ⟨Bel.below (n2 w _ _) hb, ((boxB.new w #[.int .i64 x0, .int .i64 x1, .int .i64 x2, .bool true, .int .i64 x4, .int .i64 x5] 24).below (n1 _ _)).below hb, (new2 w _ _ _).below hb⟩; have d0 := H1.out.2.1.cell 0; have f0 := fzB H1.out.2.1 0; have d1 := H1.out.2.1.cell 1; have f1 := fzB H1.out.2.1 1; have d2 := H1.out.2.1.cell 2; have f2 := fzB H1.out.2.1 2; have d3 := H1.out.2.1.cell 3; have f3 := fzB H1.out.2.1 3; have d4 := H1.out.2.1.cell 4; have f4 := fzB H1.out.2.1 4; have d5 := H1.out.2.1.cell 5; have f5 := fzB H1.out.2.1 5; clear hb hC) | (go_at_call 32; go_in) | (go_at_call 34; go_in))
  have H2 : Hid (Bel w (w1.setCell ⟨w.heap.size, 5, none⟩ (.int .i64 100000)) ∧ boxB (w1.setCell ⟨w.heap.size, 5, none⟩ (.int .i64 100000)) w.heap.size #[.int .i64 x0, .int .i64 x1, .int .i64 x2, .bool true, .int .i64 x4, .int .i64 100000] 24 ∧ boxB (w1.setCell ⟨w.heap.size, 5, none⟩ (.int .i64 100000)) (w.heap.size + 1) #[.int .i64 0, .int .i64 0, .int .i64 0, .bool false, .int .i64 0, .int .i64 0] 24) := ⟨Below.setCell H1.out.1.out (by exact Nat.le_refl _) _, H1.out.2.1.set 5 _, H1.out.2.2.else (by show w.heap.size + 1 ≠ w.heap.size; omega) _⟩
  clear d0 f0 d1 f1 d2 f2 d3 f3 d4 f4 d5 f5 H1
  generalize w1.setCell ⟨w.heap.size, 5, none⟩ (.int .i64 100000) = w2 at *
  have HD : Hid (boxB w2.drew w.heap.size #[.int .i64 x0, .int .i64 x1, .int .i64 x2, .bool true, .int .i64 x4, .int .i64 100000] 24 ∧ boxB w2.drew (w.heap.size + 1) #[.int .i64 0, .int .i64 0, .int .i64 0, .bool false, .int .i64 0, .int .i64 0] 24) := ⟨H2.out.2.1, H2.out.2.2⟩
  have c0 := HD.out.2.cell 0
  have z0 := fzB HD.out.2 0
  have d0 := HD.out.1.cell 0
  have f0 := fzB HD.out.1 0
  have c1 := HD.out.2.cell 1
  have z1 := fzB HD.out.2 1
  have d1 := HD.out.1.cell 1
  have f1 := fzB HD.out.1 1
  have c2 := HD.out.2.cell 2
  have z2 := fzB HD.out.2 2
  have d2 := HD.out.1.cell 2
  have f2 := fzB HD.out.1 2
  have c3 := HD.out.2.cell 3
  have z3 := fzB HD.out.2 3
  have d3 := HD.out.1.cell 3
  have f3 := fzB HD.out.1 3
  have c4 := HD.out.2.cell 4
  have z4 := fzB HD.out.2 4
  have d4 := HD.out.1.cell 4
  have f4 := fzB HD.out.1 4
  have c5 := HD.out.2.cell 5
  have z5 := fzB HD.out.2 5
  have d5 := HD.out.1.cell 5
  have f5 := fzB HD.out.1 5
  go_region_with (first | (go_at_call 35; refine (HP _).mono ?_; rintro e' w3 ⟨rfl, rfl⟩) | (go_at_call 33; refine (HA _).mono ?_; rintro e' w3 ⟨rfl, rfl⟩))
  all_goals
    have H3 : Hid (Bel w (w2.setCell ⟨w.heap.size, 4, none⟩ (.int .i64 y)).drew ∧ boxB (w2.setCell ⟨w.heap.size, 4, none⟩ (.int .i64 y)).drew w.heap.size #[.int .i64 x0, .int .i64 x1, .int .i64 x2, .bool true, .int .i64 y, .int .i64 100000] 24 ∧ boxB (w2.setCell ⟨w.heap.size, 4, none⟩ (.int .i64 y)).drew (w.heap.size + 1) #[.int .i64 0, .int .i64 0, .int .i64 0, .bool false, .int .i64 0, .int .i64 0] 24) := ⟨Below.drew (Below.setCell H2.out.1.out (by exact Nat.le_refl _) _), H2.out.2.1.set 4 _, H2.out.2.2.else (by show w.heap.size + 1 ≠ w.heap.size; omega) _⟩
    clear c0 z0 d0 f0 c1 z1 d1 f1 c2 z2 d2 f2 c3 z3 d3 f3 c4 z4 d4 f4 c5 z5 d5 f5 H2 HD
    generalize (w2.setCell ⟨w.heap.size, 4, none⟩ (.int .i64 y)).drew = w4 at *
    have c0 := H3.out.2.2.cell 0
    have z0 := fzB H3.out.2.2 0
    have d0 := H3.out.2.1.cell 0
    have f0 := fzB H3.out.2.1 0
    have c1 := H3.out.2.2.cell 1
    have z1 := fzB H3.out.2.2 1
    have d1 := H3.out.2.1.cell 1
    have f1 := fzB H3.out.2.1 1
    have c2 := H3.out.2.2.cell 2
    have z2 := fzB H3.out.2.2 2
    have d2 := H3.out.2.1.cell 2
    have f2 := fzB H3.out.2.1 2
    have c3 := H3.out.2.2.cell 3
    have z3 := fzB H3.out.2.2 3
    have d3 := H3.out.2.1.cell 3
    have f3 := fzB H3.out.2.1 3
    have c4 := H3.out.2.2.cell 4
    have z4 := fzB H3.out.2.2 4
    have d4 := H3.out.2.1.cell 4
    have f4 := fzB H3.out.2.1 4
    have c5 := H3.out.2.2.cell 5
    have z5 := fzB H3.out.2.2 5
    have d5 := H3.out.2.1.cell 5
    have f5 := fzB H3.out.2.1 5
    go_wp2
    exact bodyPost_ret (v := .tuple #[.agg #[.int .i64 x0, .int .i64 x1, .int .i64 x2, .bool true, .int .i64 y, .int .i64 100000], .bool true]) (by simp [results, Try.results22, go_sem, c0, z0, d0, f0, c1, z1, d1, f1, c2, z2, d2, f2, c3, z3, d3, f3, c4, z4, d4, f4, c5, z5, d5, f5]) rfl ⟨rfl, (Below.setCell (Below.setCell (Below.setCell (Below.setCell (Below.setCell (Below.setCell H3.out.1.out (by first | exact Nat.le_refl _ | exact Nat.le_succ _) _) (by first | exact Nat.le_refl _ | exact Nat.le_succ _) _) (by first | exact Nat.le_refl _ | exact Nat.le_succ _) _) (by first | exact Nat.le_refl _ | exact Nat.le_succ _) _) (by first | exact Nat.le_refl _ | exact Nat.le_succ _) _) (by first | exact Nat.le_refl _ | exact Nat.le_succ _) _)⟩

theorem spec_see (x0 x1 x2 : Int) (x3 : Bool) (x4 x5 now wt : Int) (w : World) : Calls Try.prog 22 #[.agg #[.int .i64 x0, .int .i64 x1, .int .i64 x2, .bool x3, .int .i64 x4, .int .i64 x5], .int .i64 now, .int .i64 wt] w fun e w' => e = .returned (.tuple #[agg (if seeOk ⟨x0, x1, x2, x3, x4, x5⟩ now wt = true then (see ⟨x0, x1, x2, x3, x4, x5⟩ now wt).1 else zero), .bool (seeOk ⟨x0, x1, x2, x3, x4, x5⟩ now wt && (see ⟨x0, x1, x2, x3, x4, x5⟩ now wt).2)]) ∧ Below w.heap.size w w' := by
  by_cases hok : codOk ⟨x0, x1, x2, x3, x4, x5⟩ = true
  · have hr := hok
    unfold codOk at hr
    rw [Bool.and_eq_true] at hr
    have hr1 := of_decide_eq_true hr.1
    dsimp only at hr1
    by_cases hin : 0 ≤ now ∧ now ≤ 1000000000 ∧ -1 ≤ wt ∧ wt ≤ 1000000000
    · have e : seeOk ⟨x0, x1, x2, x3, x4, x5⟩ now wt = true := by unfold seeOk; rw [hok]; simpa using hin
      rw [e, if_pos rfl, Bool.true_and]
      have hn : 0 ≤ now ∧ now ≤ 1000000000 := ⟨hin.1, hin.2.1⟩
      have hw := hin.2.2
      unfold see
      dsimp only
      by_cases h0 : wt < 0
      · rw [if_pos (Or.inl h0)]
        exact see_empty x0 x1 x2 x3 x4 x5 now wt hok hn hw h0 w
      · by_cases h1 : wt < x0
        · rw [if_pos (Or.inr h1)]
          exact see_quick x0 x1 x2 x3 x4 x5 now wt hok hn hw h0 h1 w
        · rw [if_neg (fun h => h.elim h0 h1)]
          cases x3
          · rw [if_pos rfl]
            by_cases hf : x2 = 0
            · rw [if_pos hf]
              subst hf
              exact see_begin x0 x1 x4 x5 now wt hok hn hw h0 h1 (by omega) w
            · rw [if_neg hf]
              by_cases hl : x2 ≤ now
              · rw [if_pos hl]
                exact see_first x0 x1 x2 x4 x5 now wt hok hn hw h0 h1 (by omega) hf hl w
              · rw [if_neg hl]
                exact see_wait x0 x1 x2 x4 x5 now wt hok hn hw h0 h1 hf hl w
          · rw [if_neg (by simp)]
            by_cases hl : x4 ≤ now
            · rw [if_pos hl]
              by_cases hu : 100000 < x5 + 1
              · have e2 : up1 x5 = 100000 := by unfold up1; rw [if_neg (by omega)]
                rw [e2]
                exact see_drop_end x0 x1 x2 x4 x5 now wt hok hn hw h0 h1 (by omega) hl hu w
              · have e2 : up1 x5 = x5 + 1 := by unfold up1; rw [if_pos (by omega)]
                rw [e2]
                exact see_drop x0 x1 x2 x4 x5 now wt hok hn hw h0 h1 (by omega) hl hu w
            · rw [if_neg hl]
              exact see_still x0 x1 x2 x4 x5 now wt hok hn hw h0 h1 hl w
    · have e : seeOk ⟨x0, x1, x2, x3, x4, x5⟩ now wt = false := by unfold seeOk; rw [hok]; simpa using hin
      rw [e, if_neg (by simp), Bool.false_and]
      by_cases a : now < 0
      · exact see_now0 x0 x1 x2 x3 x4 x5 now wt hok a w
      · by_cases b : 1000000000 < now
        · exact see_now1 x0 x1 x2 x3 x4 x5 now wt hok b w
        · by_cases c : wt < -1
          · exact see_wt0 x0 x1 x2 x3 x4 x5 now wt hok (by omega) c w
          · exact see_wt1 x0 x1 x2 x3 x4 x5 now wt hok (by omega) (by omega) w
  · have hok2 : codOk ⟨x0, x1, x2, x3, x4, x5⟩ = false := by simpa using hok
    have e : seeOk ⟨x0, x1, x2, x3, x4, x5⟩ now wt = false := by unfold seeOk; rw [hok2]; rfl
    rw [e, if_neg (by simp), Bool.false_and]
    exact see_bad x0 x1 x2 x3 x4 x5 now wt hok2 w
end Go.Proofs.Ytdgkmiknnelddaa.CodSeeS
