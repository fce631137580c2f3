/- What the program's CodelNew and See answer, at all arguments; nothing that was there turns. -/
import Derived.Test.YtdgkmiknnelddaaRows
import Derived.WalkKit
import Derived.WalkSmall
import Derived.BigQuiet
import Derived.Deep.RegionWith
import Derived.Deep.DeepCutAuto
import Derived.Test.YtdgkmiknnelddaaListKit
import Derived.Test.YtdgkmiknnelddaaHoldKit
import Derived.Test.YtdgkmiknnelddaaCodKit
import Derived.Test.YtdgkmiknnelddaaCodOkI
import Derived.Test.YtdgkmiknnelddaaCodMath
import Derived.Test.YtdgkmiknnelddaaCodSeeS
import Derived.Test.YtdgkmiknnelddaaCodOnly
import Derived.Test.YtdgkmiknnelddaaCodLookI
namespace Go.Proofs.Ytdgkmiknnelddaa.CodSeeI
open Go.RowKit ListKit HoldKit CodKit CodOkI CodMath CodOnly CodLookI
open CodSeeS (newOk)
set_option maxRecDepth 8000
set_option linter.unusedVariables false
set_option linter.unusedSimpArgs false

set_option maxHeartbeats 4000000 in
theorem see_bad (x0 x1 x2 : Int) (x3 : Bool) (x4 x5 now wt : Int) (hok : codOk ⟨x0, x1, x2, x3, x4, x5⟩ = false) (w : World) : Calls Try.prog 6 #[.agg #[.int .i64 x0, .int .i64 x1, .int .i64 x2, .bool x3, .int .i64 x4, .int .i64 x5], .int .i64 now, .int .i64 wt] w fun e w' => e = .returned (.tuple #[.agg #[.int .i64 0, .int .i64 0, .int .i64 0, .bool false, .int .i64 0, .int .i64 0], .bool false]) ∧ Below w.heap.size w w' := by
  have hC := fun (W : World) => impl_codelok x0 x1 x2 x3 x4 x5 W
  rw [hok] at hC
  clear hok
  go_enter Try.func6, Try.ntmps6
  go_wp2_with (first | (go_at_call 7; refine (hC _).mono ?_; rintro e' w1 ⟨rfl, hb⟩; have H1 : Hid (Bel w w1 ∧ boxB w1 w.heap.size #[.int .i64 x0, .int .i64 x1, .int .i64 x2, .bool x3, .int .i64 x4, .int .i64 x5] 24 ∧ boxB w1 (w.heap.size + 1) #[.int .i64 0, .int .i64 0, .int .i64 0, .bool false, .int .i64 0, .int .i64 0] 24) := ⟨Bel.below (n2 w _ _) hb, ((boxB.new w #[.int .i64 x0, .int .i64 x1, .int .i64 x2, .bool x3, .int .i64 x4, .int .i64 x5] 24).below (n1 _ _)).below hb, (new2 w _ _ _).below hb⟩; have c0 := H1.out.2.2.cell 0; have z0f := fzB H1.out.2.2 0; have d0 := H1.out.2.1.cell 0; have f0 := fzB H1.out.2.1 0; have c1 := H1.out.2.2.cell 1; have z1f := fzB H1.out.2.2 1; have d1 := H1.out.2.1.cell 1; have f1 := fzB H1.out.2.1 1; have c2 := H1.out.2.2.cell 2; have z2f := fzB H1.out.2.2 2; have d2 := H1.out.2.1.cell 2; have f2 := fzB H1.out.2.1 2; have c3 := H1.out.2.2.cell 3; have z3f := fzB H1.out.2.2 3; have d3 := H1.out.2.1.cell 3; have f3 := fzB H1.out.2.1 3; have c4 := H1.out.2.2.cell 4; have z4f := fzB H1.out.2.2 4; have d4 := H1.out.2.1.cell 4; have f4 := fzB H1.out.2.1 4; have c5 := H1.out.2.2.cell 5; have z5f := fzB H1.out.2.2 5; have d5 := H1.out.2.1.cell 5; have f5 := fzB H1.out.2.1 5; clear hb hC) | (go_at_call 13; go_in) | (go_at_call 14; go_in))
  exact bodyPost_ret (v := .tuple #[.agg #[.int .i64 0, .int .i64 0, .int .i64 0, .bool false, .int .i64 0, .int .i64 0], .bool false]) (by simp [results, Try.results6, go_sem, c0, z0f, d0, f0, c1, z1f, d1, f1, c2, z2f, d2, f2, c3, z3f, d3, f3, c4, z4f, d4, f4, c5, z5f, d5, f5]) rfl ⟨rfl, (Below.setCell (Below.setCell (Below.setCell (Below.setCell (Below.setCell (Below.setCell H1.out.1.out (by first | exact Nat.le_refl _ | exact Nat.le_succ _) _) (by first | exact Nat.le_refl _ | exact Nat.le_succ _) _) (by first | exact Nat.le_refl _ | exact Nat.le_succ _) _) (by first | exact Nat.le_refl _ | exact Nat.le_succ _) _) (by first | exact Nat.le_refl _ | exact Nat.le_succ _) _) (by first | exact Nat.le_refl _ | exact Nat.le_succ _) _)⟩

set_option maxHeartbeats 4000000 in
theorem see_now0 (x0 x1 x2 : Int) (x3 : Bool) (x4 x5 now wt : Int) (hok : codOk ⟨x0, x1, x2, x3, x4, x5⟩ = true) (h : now < 0) (w : World) : Calls Try.prog 6 #[.agg #[.int .i64 x0, .int .i64 x1, .int .i64 x2, .bool x3, .int .i64 x4, .int .i64 x5], .int .i64 now, .int .i64 wt] w fun e w' => e = .returned (.tuple #[.agg #[.int .i64 0, .int .i64 0, .int .i64 0, .bool false, .int .i64 0, .int .i64 0], .bool false]) ∧ Below w.heap.size w w' := by
  have hC := fun (W : World) => impl_codelok x0 x1 x2 x3 x4 x5 W
  rw [hok] at hC
  have p1 : decide (0 ≤ now) = false := by first | exact decide_eq_false (by omega) | (simp; omega)
  clear hok
  go_enter Try.func6, Try.ntmps6
  go_wp2_with (first | (go_at_call 7; refine (hC _).mono ?_; rintro e' w1 ⟨rfl, hb⟩; have H1 : Hid (Bel w w1 ∧ boxB w1 w.heap.size #[.int .i64 x0, .int .i64 x1, .int .i64 x2, .bool x3, .int .i64 x4, .int .i64 x5] 24 ∧ boxB w1 (w.heap.size + 1) #[.int .i64 0, .int .i64 0, .int .i64 0, .bool false, .int .i64 0, .int .i64 0] 24) := ⟨Bel.below (n2 w _ _) hb, ((boxB.new w #[.int .i64 x0, .int .i64 x1, .int .i64 x2, .bool x3, .int .i64 x4, .int .i64 x5] 24).below (n1 _ _)).below hb, (new2 w _ _ _).below hb⟩; have c0 := H1.out.2.2.cell 0; have z0f := fzB H1.out.2.2 0; have d0 := H1.out.2.1.cell 0; have f0 := fzB H1.out.2.1 0; have c1 := H1.out.2.2.cell 1; have z1f := fzB H1.out.2.2 1; have d1 := H1.out.2.1.cell 1; have f1 := fzB H1.out.2.1 1; have c2 := H1.out.2.2.cell 2; have z2f := fzB H1.out.2.2 2; have d2 := H1.out.2.1.cell 2; have f2 := fzB H1.out.2.1 2; have c3 := H1.out.2.2.cell 3; have z3f := fzB H1.out.2.2 3; have d3 := H1.out.2.1.cell 3; have f3 := fzB H1.out.2.1 3; have c4 := H1.out.2.2.cell 4; have z4f := fzB H1.out.2.2 4; have d4 := H1.out.2.1.cell 4; have f4 := fzB H1.out.2.1 4; have c5 := H1.out.2.2.cell 5; have z5f := fzB H1.out.2.2 5; have d5 := H1.out.2.1.cell 5; have f5 := fzB H1.out.2.1 5; clear hb hC) | (go_at_call 13; go_in) | (go_at_call 14; go_in))
  exact bodyPost_ret (v := .tuple #[.agg #[.int .i64 0, .int .i64 0, .int .i64 0, .bool false, .int .i64 0, .int .i64 0], .bool false]) (by simp [results, Try.results6, go_sem, c0, z0f, d0, f0, c1, z1f, d1, f1, c2, z2f, d2, f2, c3, z3f, d3, f3, c4, z4f, d4, f4, c5, z5f, d5, f5]) rfl ⟨rfl, (Below.setCell (Below.setCell (Below.setCell (Below.setCell (Below.setCell (Below.setCell H1.out.1.out (by first | exact Nat.le_refl _ | exact Nat.le_succ _) _) (by first | exact Nat.le_refl _ | exact Nat.le_succ _) _) (by first | exact Nat.le_refl _ | exact Nat.le_succ _) _) (by first | exact Nat.le_refl _ | exact Nat.le_succ _) _) (by first | exact Nat.le_refl _ | exact Nat.le_succ _) _) (by first | exact Nat.le_refl _ | exact Nat.le_succ _) _)⟩

set_option maxHeartbeats 4000000 in
theorem see_now1 (x0 x1 x2 : Int) (x3 : Bool) (x4 x5 now wt : Int) (hok : codOk ⟨x0, x1, x2, x3, x4, x5⟩ = true) (h : 1000000000 < now) (w : World) : Calls Try.prog 6 #[.agg #[.int .i64 x0, .int .i64 x1, .int .i64 x2, .bool x3, .int .i64 x4, .int .i64 x5], .int .i64 now, .int .i64 wt] w fun e w' => e = .returned (.tuple #[.agg #[.int .i64 0, .int .i64 0, .int .i64 0, .bool false, .int .i64 0, .int .i64 0], .bool false]) ∧ Below w.heap.size w w' := by
  have hC := fun (W : World) => impl_codelok x0 x1 x2 x3 x4 x5 W
  rw [hok] at hC
  have p1 : decide (0 ≤ now) = true := by first | exact decide_eq_true (by omega) | (simp; omega)
  have p2 : decide (now ≤ 1000000000) = false := by first | exact decide_eq_false (by omega) | (simp; omega)
  clear hok
  go_enter Try.func6, Try.ntmps6
  go_wp2_with (first | (go_at_call 7; refine (hC _).mono ?_; rintro e' w1 ⟨rfl, hb⟩; have H1 : Hid (Bel w w1 ∧ boxB w1 w.heap.size #[.int .i64 x0, .int .i64 x1, .int .i64 x2, .bool x3, .int .i64 x4, .int .i64 x5] 24 ∧ boxB w1 (w.heap.size + 1) #[.int .i64 0, .int .i64 0, .int .i64 0, .bool false, .int .i64 0, .int .i64 0] 24) := ⟨Bel.below (n2 w _ _) hb, ((boxB.new w #[.int .i64 x0, .int .i64 x1, .int .i64 x2, .bool x3, .int .i64 x4, .int .i64 x5] 24).below (n1 _ _)).below hb, (new2 w _ _ _).below hb⟩; have c0 := H1.out.2.2.cell 0; have z0f := fzB H1.out.2.2 0; have d0 := H1.out.2.1.cell 0; have f0 := fzB H1.out.2.1 0; have c1 := H1.out.2.2.cell 1; have z1f := fzB H1.out.2.2 1; have d1 := H1.out.2.1.cell 1; have f1 := fzB H1.out.2.1 1; have c2 := H1.out.2.2.cell 2; have z2f := fzB H1.out.2.2 2; have d2 := H1.out.2.1.cell 2; have f2 := fzB H1.out.2.1 2; have c3 := H1.out.2.2.cell 3; have z3f := fzB H1.out.2.2 3; have d3 := H1.out.2.1.cell 3; have f3 := fzB H1.out.2.1 3; have c4 := H1.out.2.2.cell 4; have z4f := fzB H1.out.2.2 4; have d4 := H1.out.2.1.cell 4; have f4 := fzB H1.out.2.1 4; have c5 := H1.out.2.2.cell 5; have z5f := fzB H1.out.2.2 5; have d5 := H1.out.2.1.cell 5; have f5 := fzB H1.out.2.1 5; clear hb hC) | (go_at_call 13; go_in) | (go_at_call 14; go_in))
  exact bodyPost_ret (v := .tuple #[.agg #[.int .i64 0, .int .i64 0, .int .i64 0, .bool false, .int .i64 0, .int .i64 0], .bool false]) (by simp [results, Try.results6, go_sem, c0, z0f, d0, f0, c1, z1f, d1, f1, c2, z2f, d2, f2, c3, z3f, d3, f3, c4, z4f, d4, f4, c5, z5f, d5, f5]) rfl ⟨rfl, (Below.setCell (Below.setCell (Below.setCell (Below.setCell (Below.setCell (Below.setCell H1.out.1.out (by first | exact Nat.le_refl _ | exact Nat.le_succ _) _) (by first | exact Nat.le_refl _ | exact Nat.le_succ _) _) (by first | exact Nat.le_refl _ | exact Nat.le_succ _) _) (by first | exact Nat.le_refl _ | exact Nat.le_succ _) _) (by first | exact Nat.le_refl _ | exact Nat.le_succ _) _) (by first | exact Nat.le_refl _ | exact Nat.le_succ _) _)⟩

set_option maxHeartbeats 4000000 in
theorem see_wt0 (x0 x1 x2 : Int) (x3 : Bool) (x4 x5 now wt : Int) (hok : codOk ⟨x0, x1, x2, x3, x4, x5⟩ = true) (hn : 0 ≤ now ∧ now ≤ 1000000000) (h : wt < -1) (w : World) : Calls Try.prog 6 #[.agg #[.int .i64 x0, .int .i64 x1, .int .i64 x2, .bool x3, .int .i64 x4, .int .i64 x5], .int .i64 now, .int .i64 wt] w fun e w' => e = .returned (.tuple #[.agg #[.int .i64 0, .int .i64 0, .int .i64 0, .bool false, .int .i64 0, .int .i64 0], .bool false]) ∧ Below w.heap.size w w' := by
  have hC := fun (W : World) => impl_codelok x0 x1 x2 x3 x4 x5 W
  rw [hok] at hC
  have p1 : decide (0 ≤ now) = true := by first | exact decide_eq_true (by omega) | (simp; omega)
  have p2 : decide (now ≤ 1000000000) = true := by first | exact decide_eq_true (by omega) | (simp; omega)
  have p3 : (wt == -1) = false := by simp; omega
  have p4 : decide (0 ≤ wt) = false := by first | exact decide_eq_false (by omega) | (simp; omega)
  clear hok
  go_enter Try.func6, Try.ntmps6
  go_wp2_with (first | (go_at_call 7; refine (hC _).mono ?_; rintro e' w1 ⟨rfl, hb⟩; have H1 : Hid (Bel w w1 ∧ boxB w1 w.heap.size #[.int .i64 x0, .int .i64 x1, .int .i64 x2, .bool x3, .int .i64 x4, .int .i64 x5] 24 ∧ boxB w1 (w.heap.size + 1) #[.int .i64 0, .int .i64 0, .int .i64 0, .bool false, .int .i64 0, .int .i64 0] 24) := ⟨Bel.below (n2 w _ _) hb, ((boxB.new w #[.int .i64 x0, .int .i64 x1, .int .i64 x2, .bool x3, .int .i64 x4, .int .i64 x5] 24).below (n1 _ _)).below hb, (new2 w _ _ _).below hb⟩; have c0 := H1.out.2.2.cell 0; have z0f := fzB H1.out.2.2 0; have d0 := H1.out.2.1.cell 0; have f0 := fzB H1.out.2.1 0; have c1 := H1.out.2.2.cell 1; have z1f := fzB H1.out.2.2 1; have d1 := H1.out.2.1.cell 1; have f1 := fzB H1.out.2.1 1; have c2 := H1.out.2.2.cell 2; have z2f := fzB H1.out.2.2 2; have d2 := H1.out.2.1.cell 2; have f2 := fzB H1.out.2.1 2; have c3 := H1.out.2.2.cell 3; have z3f := fzB H1.out.2.2 3; have d3 := H1.out.2.1.cell 3; have f3 := fzB H1.out.2.1 3; have c4 := H1.out.2.2.cell 4; have z4f := fzB H1.out.2.2 4; have d4 := H1.out.2.1.cell 4; have f4 := fzB H1.out.2.1 4; have c5 := H1.out.2.2.cell 5; have z5f := fzB H1.out.2.2 5; have d5 := H1.out.2.1.cell 5; have f5 := fzB H1.out.2.1 5; clear hb hC) | (go_at_call 13; go_in) | (go_at_call 14; go_in))
  exact bodyPost_ret (v := .tuple #[.agg #[.int .i64 0, .int .i64 0, .int .i64 0, .bool false, .int .i64 0, .int .i64 0], .bool false]) (by simp [results, Try.results6, go_sem, c0, z0f, d0, f0, c1, z1f, d1, f1, c2, z2f, d2, f2, c3, z3f, d3, f3, c4, z4f, d4, f4, c5, z5f, d5, f5]) rfl ⟨rfl, (Below.setCell (Below.setCell (Below.setCell (Below.setCell (Below.setCell (Below.setCell H1.out.1.out (by first | exact Nat.le_refl _ | exact Nat.le_succ _) _) (by first | exact Nat.le_refl _ | exact Nat.le_succ _) _) (by first | exact Nat.le_refl _ | exact Nat.le_succ _) _) (by first | exact Nat.le_refl _ | exact Nat.le_succ _) _) (by first | exact Nat.le_refl _ | exact Nat.le_succ _) _) (by first | exact Nat.le_refl _ | exact Nat.le_succ _) _)⟩

set_option maxHeartbeats 4000000 in
theorem see_wt1 (x0 x1 x2 : Int) (x3 : Bool) (x4 x5 now wt : Int) (hok : codOk ⟨x0, x1, x2, x3, x4, x5⟩ = true) (hn : 0 ≤ now ∧ now ≤ 1000000000) (h : 1000000000 < wt) (w : World) : Calls Try.prog 6 #[.agg #[.int .i64 x0, .int .i64 x1, .int .i64 x2, .bool x3, .int .i64 x4, .int .i64 x5], .int .i64 now, .int .i64 wt] w fun e w' => e = .returned (.tuple #[.agg #[.int .i64 0, .int .i64 0, .int .i64 0, .bool false, .int .i64 0, .int .i64 0], .bool false]) ∧ Below w.heap.size w w' := by
  have hC := fun (W : World) => impl_codelok x0 x1 x2 x3 x4 x5 W
  rw [hok] at hC
  have p1 : decide (0 ≤ now) = true := by first | exact decide_eq_true (by omega) | (simp; omega)
  have p2 : decide (now ≤ 1000000000) = true := by first | exact decide_eq_true (by omega) | (simp; omega)
  have p3 : (wt == -1) = false := by simp; omega
  have p4 : decide (0 ≤ wt) = true := by first | exact decide_eq_true (by omega) | (simp; omega)
  have p5 : decide (wt ≤ 1000000000) = false := by first | exact decide_eq_false (by omega) | (simp; omega)
  clear hok
  go_enter Try.func6, Try.ntmps6
  go_wp2_with (first | (go_at_call 7; refine (hC _).mono ?_; rintro e' w1 ⟨rfl, hb⟩; have H1 : Hid (Bel w w1 ∧ boxB w1 w.heap.size #[.int .i64 x0, .int .i64 x1, .int .i64 x2, .bool x3, .int .i64 x4, .int .i64 x5] 24 ∧ boxB w1 (w.heap.size + 1) #[.int .i64 0, .int .i64 0, .int .i64 0, .bool false, .int .i64 0, .int .i64 0] 24) := ⟨Bel.below (n2 w _ _) hb, ((boxB.new w #[.int .i64 x0, .int .i64 x1, .int .i64 x2, .bool x3, .int .i64 x4, .int .i64 x5] 24).below (n1 _ _)).below hb, (new2 w _ _ _).below hb⟩; have c0 := H1.out.2.2.cell 0; have z0f := fzB H1.out.2.2 0; have d0 := H1.out.2.1.cell 0; have f0 := fzB H1.out.2.1 0; have c1 := H1.out.2.2.cell 1; have z1f := fzB H1.out.2.2 1; have d1 := H1.out.2.1.cell 1; have f1 := fzB H1.out.2.1 1; have c2 := H1.out.2.2.cell 2; have z2f := fzB H1.out.2.2 2; have d2 := H1.out.2.1.cell 2; have f2 := fzB H1.out.2.1 2; have c3 := H1.out.2.2.cell 3; have z3f := fzB H1.out.2.2 3; have d3 := H1.out.2.1.cell 3; have f3 := fzB H1.out.2.1 3; have c4 := H1.out.2.2.cell 4; have z4f := fzB H1.out.2.2 4; have d4 := H1.out.2.1.cell 4; have f4 := fzB H1.out.2.1 4; have c5 := H1.out.2.2.cell 5; have z5f := fzB H1.out.2.2 5; have d5 := H1.out.2.1.cell 5; have f5 := fzB H1.out.2.1 5; clear hb hC) | (go_at_call 13; go_in) | (go_at_call 14; go_in))
  exact bodyPost_ret (v := .tuple #[.agg #[.int .i64 0, .int .i64 0, .int .i64 0, .bool false, .int .i64 0, .int .i64 0], .bool false]) (by simp [results, Try.results6, go_sem, c0, z0f, d0, f0, c1, z1f, d1, f1, c2, z2f, d2, f2, c3, z3f, d3, f3, c4, z4f, d4, f4, c5, z5f, d5, f5]) rfl ⟨rfl, (Below.setCell (Below.setCell (Below.setCell (Below.setCell (Below.setCell (Below.setCell H1.out.1.out (by first | exact Nat.le_refl _ | exact Nat.le_succ _) _) (by first | exact Nat.le_refl _ | exact Nat.le_succ _) _) (by first | exact Nat.le_refl _ | exact Nat.le_succ _) _) (by first | exact Nat.le_refl _ | exact Nat.le_succ _) _) (by first | exact Nat.le_refl _ | exact Nat.le_succ _) _) (by first | exact Nat.le_refl _ | exact Nat.le_succ _) _)⟩

set_option maxHeartbeats 4000000 in
theorem see_empty (x0 x1 x2 : Int) (x3 : Bool) (x4 x5 now wt : Int) (z0 z1 z2 : Int) (z3 : Bool) (z4 z5 : Int) (D : Bool) (hz : see ⟨x0, x1, x2, x3, x4, x5⟩ now wt = (⟨z0, z1, z2, z3, z4, z5⟩, D)) (hok : codOk ⟨x0, x1, x2, x3, x4, x5⟩ = true) (hn : 0 ≤ now ∧ now ≤ 1000000000) (h : wt = -1) (w : World) : Calls Try.prog 6 #[.agg #[.int .i64 x0, .int .i64 x1, .int .i64 x2, .bool x3, .int .i64 x4, .int .i64 x5], .int .i64 now, .int .i64 wt] w fun e w' => e = .returned (.tuple #[.agg #[.int .i64 z0, .int .i64 z1, .int .i64 z2, .bool z3, .int .i64 z4, .int .i64 z5], .bool D]) ∧ Below w.heap.size w w' := by
  have hC := fun (W : World) => impl_codelok x0 x1 x2 x3 x4 x5 W
  rw [hok] at hC
  have HL := fun (W : World) (hb : codBox W w.heap.size ⟨x0, x1, x2, x3, x4, x5⟩) => impl_look w.heap.size ⟨x0, x1, x2, x3, x4, x5⟩ now wt W hb hok hn
  rw [hz] at HL
  unfold codBox at HL
  dsimp only at HL
  have p1 : decide (0 ≤ now) = true := by first | exact decide_eq_true (by omega) | (simp; omega)
  have p2 : decide (now ≤ 1000000000) = true := by first | exact decide_eq_true (by omega) | (simp; omega)
  have p3 : (wt == -1) = true := by simp; omega
  clear h
  clear hok
  go_enter Try.func6, Try.ntmps6
  go_wp2_with (first | (go_at_call 7; refine (hC _).mono ?_; rintro e' w1 ⟨rfl, hb⟩; have H1 : Hid (Bel w w1 ∧ boxB w1 w.heap.size #[.int .i64 x0, .int .i64 x1, .int .i64 x2, .bool x3, .int .i64 x4, .int .i64 x5] 24 ∧ boxB w1 (w.heap.size + 1) #[.int .i64 0, .int .i64 0, .int .i64 0, .bool false, .int .i64 0, .int .i64 0] 24) := ⟨Bel.below (n2 w _ _) hb, ((boxB.new w #[.int .i64 x0, .int .i64 x1, .int .i64 x2, .bool x3, .int .i64 x4, .int .i64 x5] 24).below (n1 _ _)).below hb, (new2 w _ _ _).below hb⟩; have c0 := H1.out.2.2.cell 0; have z0f := fzB H1.out.2.2 0; have d0 := H1.out.2.1.cell 0; have f0 := fzB H1.out.2.1 0; have c1 := H1.out.2.2.cell 1; have z1f := fzB H1.out.2.2 1; have d1 := H1.out.2.1.cell 1; have f1 := fzB H1.out.2.1 1; have c2 := H1.out.2.2.cell 2; have z2f := fzB H1.out.2.2 2; have d2 := H1.out.2.1.cell 2; have f2 := fzB H1.out.2.1 2; have c3 := H1.out.2.2.cell 3; have z3f := fzB H1.out.2.2 3; have d3 := H1.out.2.1.cell 3; have f3 := fzB H1.out.2.1 3; have c4 := H1.out.2.2.cell 4; have z4f := fzB H1.out.2.2 4; have d4 := H1.out.2.1.cell 4; have f4 := fzB H1.out.2.1 4; have c5 := H1.out.2.2.cell 5; have z5f := fzB H1.out.2.2 5; have d5 := H1.out.2.1.cell 5; have f5 := fzB H1.out.2.1 5; clear hb hC) | (go_at_call 13; go_in) | (go_at_call 14; go_in) | (go_at_call 15; refine (HL _ H1.out.2.1).mono ?_; rintro e' w5 ⟨rfl, k5, o5⟩; have H5 : Hid (Bel w w5 ∧ boxB w5 w.heap.size #[.int .i64 z0, .int .i64 z1, .int .i64 z2, .bool z3, .int .i64 z4, .int .i64 z5] 24 ∧ boxB w5 (w.heap.size + 1) #[.int .i64 0, .int .i64 0, .int .i64 0, .bool false, .int .i64 0, .int .i64 0] 24) := ⟨o5.bel H1.out.1 (Nat.le_refl _), k5, box_only H1.out.2.2 o5 (by omega)⟩; clear k5 o5 H1 c0 z0f d0 f0 c1 z1f d1 f1 c2 z2f d2 f2 c3 z3f d3 f3 c4 z4f d4 f4 c5 z5f d5 f5; have c0 := H5.out.2.2.cell 0; have z0f := fzB H5.out.2.2 0; have d0 := H5.out.2.1.cell 0; have f0 := fzB H5.out.2.1 0; have c1 := H5.out.2.2.cell 1; have z1f := fzB H5.out.2.2 1; have d1 := H5.out.2.1.cell 1; have f1 := fzB H5.out.2.1 1; have c2 := H5.out.2.2.cell 2; have z2f := fzB H5.out.2.2 2; have d2 := H5.out.2.1.cell 2; have f2 := fzB H5.out.2.1 2; have c3 := H5.out.2.2.cell 3; have z3f := fzB H5.out.2.2 3; have d3 := H5.out.2.1.cell 3; have f3 := fzB H5.out.2.1 3; have c4 := H5.out.2.2.cell 4; have z4f := fzB H5.out.2.2 4; have d4 := H5.out.2.1.cell 4; have f4 := fzB H5.out.2.1 4; have c5 := H5.out.2.2.cell 5; have z5f := fzB H5.out.2.2 5; have d5 := H5.out.2.1.cell 5; have f5 := fzB H5.out.2.1 5))
  exact bodyPost_ret (v := .tuple #[.agg #[.int .i64 z0, .int .i64 z1, .int .i64 z2, .bool z3, .int .i64 z4, .int .i64 z5], .bool D]) (by simp [results, Try.results6, go_sem, c0, z0f, d0, f0, c1, z1f, d1, f1, c2, z2f, d2, f2, c3, z3f, d3, f3, c4, z4f, d4, f4, c5, z5f, d5, f5]) rfl ⟨rfl, (Below.setCell (Below.setCell (Below.setCell (Below.setCell (Below.setCell (Below.setCell H5.out.1.out (by first | exact Nat.le_refl _ | exact Nat.le_succ _) _) (by first | exact Nat.le_refl _ | exact Nat.le_succ _) _) (by first | exact Nat.le_refl _ | exact Nat.le_succ _) _) (by first | exact Nat.le_refl _ | exact Nat.le_succ _) _) (by first | exact Nat.le_refl _ | exact Nat.le_succ _) _) (by first | exact Nat.le_refl _ | exact Nat.le_succ _) _)⟩

set_option maxHeartbeats 4000000 in
theorem see_some (x0 x1 x2 : Int) (x3 : Bool) (x4 x5 now wt : Int) (z0 z1 z2 : Int) (z3 : Bool) (z4 z5 : Int) (D : Bool) (hz : see ⟨x0, x1, x2, x3, x4, x5⟩ now wt = (⟨z0, z1, z2, z3, z4, z5⟩, D)) (hok : codOk ⟨x0, x1, x2, x3, x4, x5⟩ = true) (hn : 0 ≤ now ∧ now ≤ 1000000000) (h : 0 ≤ wt ∧ wt ≤ 1000000000) (w : World) : Calls Try.prog 6 #[.agg #[.int .i64 x0, .int .i64 x1, .int .i64 x2, .bool x3, .int .i64 x4, .int .i64 x5], .int .i64 now, .int .i64 wt] w fun e w' => e = .returned (.tuple #[.agg #[.int .i64 z0, .int .i64 z1, .int .i64 z2, .bool z3, .int .i64 z4, .int .i64 z5], .bool D]) ∧ Below w.heap.size w w' := by
  have hC := fun (W : World) => impl_codelok x0 x1 x2 x3 x4 x5 W
  rw [hok] at hC
  have HL := fun (W : World) (hb : codBox W w.heap.size ⟨x0, x1, x2, x3, x4, x5⟩) => impl_look w.heap.size ⟨x0, x1, x2, x3, x4, x5⟩ now wt W hb hok hn
  rw [hz] at HL
  unfold codBox at HL
  dsimp only at HL
  have p1 : decide (0 ≤ now) = true := by first | exact decide_eq_true (by omega) | (simp; omega)
  have p2 : decide (now ≤ 1000000000) = true := by first | exact decide_eq_true (by omega) | (simp; omega)
  have p3 : (wt == -1) = false := by simp; omega
  have p4 : decide (0 ≤ wt) = true := by first | exact decide_eq_true (by omega) | (simp; omega)
  have p5 : decide (wt ≤ 1000000000) = true := by first | exact decide_eq_true (by omega) | (simp; omega)
  clear hok
  go_enter Try.func6, Try.ntmps6
  go_wp2_with (first | (go_at_call 7; refine (hC _).mono ?_; rintro e' w1 ⟨rfl, hb⟩; have H1 : Hid (Bel w w1 ∧ boxB w1 w.heap.size #[.int .i64 x0, .int .i64 x1, .int .i64 x2, .bool x3, .int .i64 x4, .int .i64 x5] 24 ∧ boxB w1 (w.heap.size + 1) #[.int .i64 0, .int .i64 0, .int .i64 0, .bool false, .int .i64 0, .int .i64 0] 24) := ⟨Bel.below (n2 w _ _) hb, ((boxB.new w #[.int .i64 x0, .int .i64 x1, .int .i64 x2, .bool x3, .int .i64 x4, .int .i64 x5] 24).below (n1 _ _)).below hb, (new2 w _ _ _).below hb⟩; have c0 := H1.out.2.2.cell 0; have z0f := fzB H1.out.2.2 0; have d0 := H1.out.2.1.cell 0; have f0 := fzB H1.out.2.1 0; have c1 := H1.out.2.2.cell 1; have z1f := fzB H1.out.2.2 1; have d1 := H1.out.2.1.cell 1; have f1 := fzB H1.out.2.1 1; have c2 := H1.out.2.2.cell 2; have z2f := fzB H1.out.2.2 2; have d2 := H1.out.2.1.cell 2; have f2 := fzB H1.out.2.1 2; have c3 := H1.out.2.2.cell 3; have z3f := fzB H1.out.2.2 3; have d3 := H1.out.2.1.cell 3; have f3 := fzB H1.out.2.1 3; have c4 := H1.out.2.2.cell 4; have z4f := fzB H1.out.2.2 4; have d4 := H1.out.2.1.cell 4; have f4 := fzB H1.out.2.1 4; have c5 := H1.out.2.2.cell 5; have z5f := fzB H1.out.2.2 5; have d5 := H1.out.2.1.cell 5; have f5 := fzB H1.out.2.1 5; clear hb hC) | (go_at_call 13; go_in) | (go_at_call 14; go_in) | (go_at_call 15; refine (HL _ H1.out.2.1).mono ?_; rintro e' w5 ⟨rfl, k5, o5⟩; have H5 : Hid (Bel w w5 ∧ boxB w5 w.heap.size #[.int .i64 z0, .int .i64 z1, .int .i64 z2, .bool z3, .int .i64 z4, .int .i64 z5] 24 ∧ boxB w5 (w.heap.size + 1) #[.int .i64 0, .int .i64 0, .int .i64 0, .bool false, .int .i64 0, .int .i64 0] 24) := ⟨o5.bel H1.out.1 (Nat.le_refl _), k5, box_only H1.out.2.2 o5 (by omega)⟩; clear k5 o5 H1 c0 z0f d0 f0 c1 z1f d1 f1 c2 z2f d2 f2 c3 z3f d3 f3 c4 z4f d4 f4 c5 z5f d5 f5; have c0 := H5.out.2.2.cell 0; have z0f := fzB H5.out.2.2 0; have d0 := H5.out.2.1.cell 0; have f0 := fzB H5.out.2.1 0; have c1 := H5.out.2.2.cell 1; have z1f := fzB H5.out.2.2 1; have d1 := H5.out.2.1.cell 1; have f1 := fzB H5.out.2.1 1; have c2 := H5.out.2.2.cell 2; have z2f := fzB H5.out.2.2 2; have d2 := H5.out.2.1.cell 2; have f2 := fzB H5.out.2.1 2; have c3 := H5.out.2.2.cell 3; have z3f := fzB H5.out.2.2 3; have d3 := H5.out.2.1.cell 3; have f3 := fzB H5.out.2.1 3; have c4 := H5.out.2.2.cell 4; have z4f := fzB H5.out.2.2 4; have d4 := H5.out.2.1.cell 4; have f4 := fzB H5.out.2.1 4; have c5 := H5.out.2.2.cell 5; have z5f := fzB H5.out.2.2 5; have d5 := H5.out.2.1.cell 5; have f5 := fzB H5.out.2.1 5))
  exact bodyPost_ret (v := .tuple #[.agg #[.int .i64 z0, .int .i64 z1, .int .i64 z2, .bool z3, .int .i64 z4, .int .i64 z5], .bool D]) (by simp [results, Try.results6, go_sem, c0, z0f, d0, f0, c1, z1f, d1, f1, c2, z2f, d2, f2, c3, z3f, d3, f3, c4, z4f, d4, f4, c5, z5f, d5, f5]) rfl ⟨rfl, (Below.setCell (Below.setCell (Below.setCell (Below.setCell (Below.setCell (Below.setCell H5.out.1.out (by first | exact Nat.le_refl _ | exact Nat.le_succ _) _) (by first | exact Nat.le_refl _ | exact Nat.le_succ _) _) (by first | exact Nat.le_refl _ | exact Nat.le_succ _) _) (by first | exact Nat.le_refl _ | exact Nat.le_succ _) _) (by first | exact Nat.le_refl _ | exact Nat.le_succ _) _) (by first | exact Nat.le_refl _ | exact Nat.le_succ _) _)⟩

theorem impl_see (x0 x1 x2 : Int) (x3 : Bool) (x4 x5 now wt : Int) (w : World) : Calls Try.prog 6 #[.agg #[.int .i64 x0, .int .i64 x1, .int .i64 x2, .bool x3, .int .i64 x4, .int .i64 x5], .int .i64 now, .int .i64 wt] w fun e w' => e = .returned (.tuple #[agg (if seeOk ⟨x0, x1, x2, x3, x4, x5⟩ now wt = true then (see ⟨x0, x1, x2, x3, x4, x5⟩ now wt).1 else zero), .bool (seeOk ⟨x0, x1, x2, x3, x4, x5⟩ now wt && (see ⟨x0, x1, x2, x3, x4, x5⟩ now wt).2)]) ∧ Below w.heap.size w w' := by
  by_cases hok : codOk ⟨x0, x1, x2, x3, x4, x5⟩ = true
  · by_cases hin : 0 ≤ now ∧ now ≤ 1000000000 ∧ -1 ≤ wt ∧ wt ≤ 1000000000
    · have e : seeOk ⟨x0, x1, x2, x3, x4, x5⟩ now wt = true := by unfold seeOk; rw [hok]; simpa using hin
      rw [e, if_pos rfl, Bool.true_and]
      obtain ⟨⟨⟨z0, z1, z2, z3, z4, z5⟩, D⟩, hz⟩ : ∃ z, see ⟨x0, x1, x2, x3, x4, x5⟩ now wt = z := ⟨_, rfl⟩
      rw [hz]
      by_cases h0 : wt = -1
      · exact see_empty x0 x1 x2 x3 x4 x5 now wt z0 z1 z2 z3 z4 z5 D hz hok ⟨hin.1, hin.2.1⟩ h0 w
      · exact see_some x0 x1 x2 x3 x4 x5 now wt z0 z1 z2 z3 z4 z5 D hz hok ⟨hin.1, hin.2.1⟩ (by omega) w
    · have e : seeOk ⟨x0, x1, x2, x3, x4, x5⟩ now wt = false := by unfold seeOk; rw [hok]; simpa using hin
      rw [e, if_neg (by simp), Bool.false_and]
      by_cases a : now < 0
      · exact see_now0 x0 x1 x2 x3 x4 x5 now wt hok a w
      · by_cases b : 1000000000 < now
        · exact see_now1 x0 x1 x2 x3 x4 x5 now wt hok b w
        · by_cases c : wt < -1
          · exact see_wt0 x0 x1 x2 x3 x4 x5 now wt hok (by omega) c w
          · exact see_wt1 x0 x1 x2 x3 x4 x5 now wt hok (by omega) (by omega) w
  · have hok2 : codOk ⟨x0, x1, x2, x3, x4, x5⟩ = false := by simpa using hok
    have e : seeOk ⟨x0, x1, x2, x3, x4, x5⟩ now wt = false := by unfold seeOk; rw [hok2]; rfl
    rw [e, if_neg (by simp), Bool.false_and]
    exact see_bad x0 x1 x2 x3 x4 x5 now wt hok2 w
end Go.Proofs.Ytdgkmiknnelddaa.CodSeeI
