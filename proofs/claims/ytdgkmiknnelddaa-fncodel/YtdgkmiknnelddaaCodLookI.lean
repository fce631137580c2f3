/- What a look of the program's makes of a queue that may be slow, behind a pointer, and what it answers; nothing else turns; no condition but those written in each. -/
import Derived.Test.YtdgkmiknnelddaaRows
import Derived.WalkKit
import Derived.WalkSmall
import Derived.WalkMore
import Derived.ScopeJumps
import Derived.Defers
import Derived.BigQuiet
import Derived.Deep.RegionWith
import Derived.Deep.DeepCutAuto
import Derived.Test.YtdgkmiknnelddaaListKit
import Derived.Test.YtdgkmiknnelddaaHoldKit
import Derived.Test.YtdgkmiknnelddaaCodKit
import Derived.Test.YtdgkmiknnelddaaCodPaceS
import Derived.Test.YtdgkmiknnelddaaCodMath
import Derived.Test.YtdgkmiknnelddaaCodPaceI
import Derived.Test.YtdgkmiknnelddaaCodOnly
import Derived.Test.YtdgkmiknnelddaaCodMoveI
namespace Go.Proofs.Ytdgkmiknnelddaa.CodLookI
open Go.RowKit ListKit HoldKit CodKit CodPaceS CodMath CodPaceI CodOnly CodMoveI
set_option maxRecDepth 8000
set_option linter.unusedVariables false
set_option linter.unusedSimpArgs false

/-- A scope out of which the run jumps ahead to one label: what stands behind the label is walked from where it jumped. -/
theorem wp_scope_ahead {P : Program} {Q : Exit → Act → World → Prop} {a : Act} {w : World} {c rest : Code} (l : Nat) (hf : findLabel c l = some rest)
    (h : c.wp P (Exit.jump l (fun a' w' => rest.wp P (Exit.noGoto Q) a' w') Q) a w) : (Code.scope c).wp P Q a w :=
  wp_scope_jumps l (fun a' w' => rest.wp P (Exit.noGoto Q) a' w') (fun _ _ => 0) hf h fun _ _ hJ => Code.wp_mono (fun e _ _ q => by cases e <;> first | exact q | exact q.elim) hJ

theorem look_back (N M D : Nat) (x0 x1 x2 : Int) (x3 : Bool) (x4 x5 : Int) (y0 y1 y2 : Int) (y3 : Bool) (y4 y5 : Int) (w : World) (hs : boxB w M #[.int .i64 x0, .int .i64 x1, .int .i64 x2, .bool x3, .int .i64 x4, .int .i64 x5] 24) (hd : boxB w D #[.pointer (some ⟨N, 0, none⟩)] 47) (hN : boxB w N #[.int .i64 y0, .int .i64 y1, .int .i64 y2, .bool y3, .int .i64 y4, .int .i64 y5] 24) (u : FrameMode) :
    CallsD Try.prog 24 #[.pointer (some ⟨M, 0, none⟩), .pointer (some ⟨D, 0, none⟩)] u w fun e u' w' => u' = u ∧ (e = .returned (.tuple #[]) ∧ boxB w' N #[.int .i64 x0, .int .i64 x1, .int .i64 x2, .bool x3, .int .i64 x4, .int .i64 x5] 24 ∧ Only N w w') := by
  have c0 := hs.cell 0
  have f0 := fzB hs 0
  have c1 := hs.cell 1
  have f1 := fzB hs 1
  have c2 := hs.cell 2
  have f2 := fzB hs 2
  have c3 := hs.cell 3
  have f3 := fzB hs 3
  have c4 := hs.cell 4
  have f4 := fzB hs 4
  have c5 := hs.cell 5
  have f5 := fzB hs 5
  have d0 := hN.cell 0
  have g0 := fzB hN 0
  have d1 := hN.cell 1
  have g1 := fzB hN 1
  have d2 := hN.cell 2
  have g2 := fzB hN 2
  have d3 := hN.cell 3
  have g3 := fzB hN 3
  have d4 := hN.cell 4
  have g4 := fzB hN 4
  have d5 := hN.cell 5
  have g5 := fzB hN 5
  have e0 := hd.cell 0
  have HN : Hid (boxB w N #[.int .i64 y0, .int .i64 y1, .int .i64 y2, .bool y3, .int .i64 y4, .int .i64 y5] 24) := hN
  clear hs hd hN
  go_enter_d Try.func24, Try.ntmps24
  go_wp2
  exact bodyPost_end (v := .tuple #[]) (by simp [results, Try.results24]) rfl ⟨rfl, (((((HN.out.set 0 _).set 1 _).set 2 _).set 3 _).set 4 _).set 5 _, ((((((Only.refl N w).set 0 _).set 1 _).set 2 _).set 3 _).set 4 _).set 5 _⟩

set_option maxHeartbeats 4000000 in
theorem look_quick (N : Nat) (x0 x1 x2 : Int) (x3 : Bool) (x4 x5 now wt : Int) (w : World) (hb : boxB w N #[.int .i64 x0, .int .i64 x1, .int .i64 x2, .bool x3, .int .i64 x4, .int .i64 x5] 24) (h : wt < x0) :
    Calls Try.prog 15 #[.pointer (some ⟨N, 0, none⟩), .int .i64 now, .int .i64 wt] w fun e w' => e = .returned (.bool false) ∧ boxB w' N #[.int .i64 x0, .int .i64 x1, .int .i64 0, .bool false, .int .i64 0, .int .i64 0] 24 ∧ Only N w w' := by
  have hmf : ∀ (fn : Fn) (first cap : Array Value) (w : World), (Instr.makeFunc fn first cap).run Try.prog w = .ok (.func fn first cap) w := fun _ _ _ _ => rfl
  have p1 : decide (wt < x0) = true := by first | exact decide_eq_true (by omega) | (simp; omega)
  have HB : Hid (boxB w N #[.int .i64 x0, .int .i64 x1, .int .i64 x2, .bool x3, .int .i64 x4, .int .i64 x5] 24) := hb
  have hlt := hb.lt
  have ha := hb.below (n1 w (.cells #[.pointer (some ⟨N, 0, none⟩)] 47))
  have c0 := ha.cell 0
  have f0 := fzB ha 0
  have c1 := ha.cell 1
  have f1 := fzB ha 1
  have c2 := ha.cell 2
  have f2 := fzB ha 2
  have c3 := ha.cell 3
  have f3 := fzB ha 3
  have c4 := ha.cell 4
  have f4 := fzB ha 4
  have c5 := ha.cell 5
  have f5 := fzB ha 5
  clear hb ha
  go_enter_defers Try.func15, Try.ntmps15
  go_wp2
  refine wp_scope_ahead 0 rfl ?_
  go_upto_region 3 with fail
  have H1 : Hid (boxB ((w.alloc (.cells #[.pointer (some ⟨N, 0, none⟩)] 47)).alloc (.cells #[.int .i64 x0, .int .i64 x1, .int .i64 x2, .bool x3, .int .i64 x4, .int .i64 x5] 24)) (w.heap.size + 1) #[.int .i64 x0, .int .i64 x1, .int .i64 x2, .bool x3, .int .i64 x4, .int .i64 x5] 24 ∧ boxB ((w.alloc (.cells #[.pointer (some ⟨N, 0, none⟩)] 47)).alloc (.cells #[.int .i64 x0, .int .i64 x1, .int .i64 x2, .bool x3, .int .i64 x4, .int .i64 x5] 24)) w.heap.size #[.pointer (some ⟨N, 0, none⟩)] 47 ∧ boxB ((w.alloc (.cells #[.pointer (some ⟨N, 0, none⟩)] 47)).alloc (.cells #[.int .i64 x0, .int .i64 x1, .int .i64 x2, .bool x3, .int .i64 x4, .int .i64 x5] 24)) N #[.int .i64 x0, .int .i64 x1, .int .i64 x2, .bool x3, .int .i64 x4, .int .i64 x5] 24 ∧ Only N w ((w.alloc (.cells #[.pointer (some ⟨N, 0, none⟩)] 47)).alloc (.cells #[.int .i64 x0, .int .i64 x1, .int .i64 x2, .bool x3, .int .i64 x4, .int .i64 x5] 24))) := ⟨new2 w _ _ _, (boxB.new w _ _).below (n1 _ _), HB.out.below (n2 w _ _), Only.of_below (n2 w _ _)⟩
  clear c0 f0 c1 f1 c2 f2 c3 f3 c4 f4 c5 f5 HB
  generalize ((w.alloc (.cells #[.pointer (some ⟨N, 0, none⟩)] 47)).alloc (.cells #[.int .i64 x0, .int .i64 x1, .int .i64 x2, .bool x3, .int .i64 x4, .int .i64 x5] 24)) = w1 at *
  have c0 := H1.out.1.cell 0
  have f0 := fzB H1.out.1 0
  have c1 := H1.out.1.cell 1
  have f1 := fzB H1.out.1 1
  have c2 := H1.out.1.cell 2
  have f2 := fzB H1.out.1 2
  have c3 := H1.out.1.cell 3
  have f3 := fzB H1.out.1 3
  have c4 := H1.out.1.cell 4
  have f4 := fzB H1.out.1 4
  have c5 := H1.out.1.cell 5
  have f5 := fzB H1.out.1 5
  go_wp2
  go_step3
  refine ⟨rfl, ?_⟩
  go_wp2
  try rw [Exit.noGoto_ret]
  have H5 : Hid (boxB ((((((w1.setCell ⟨w.heap.size + 1, 0, none⟩ (.int .i64 x0)).setCell ⟨w.heap.size + 1, 1, none⟩ (.int .i64 x1)).setCell ⟨w.heap.size + 1, 2, none⟩ (.int .i64 0)).setCell ⟨w.heap.size + 1, 3, none⟩ (.bool false)).setCell ⟨w.heap.size + 1, 4, none⟩ (.int .i64 0)).setCell ⟨w.heap.size + 1, 5, none⟩ (.int .i64 0)) (w.heap.size + 1) #[.int .i64 x0, .int .i64 x1, .int .i64 0, .bool false, .int .i64 0, .int .i64 0] 24 ∧ boxB ((((((w1.setCell ⟨w.heap.size + 1, 0, none⟩ (.int .i64 x0)).setCell ⟨w.heap.size + 1, 1, none⟩ (.int .i64 x1)).setCell ⟨w.heap.size + 1, 2, none⟩ (.int .i64 0)).setCell ⟨w.heap.size + 1, 3, none⟩ (.bool false)).setCell ⟨w.heap.size + 1, 4, none⟩ (.int .i64 0)).setCell ⟨w.heap.size + 1, 5, none⟩ (.int .i64 0)) w.heap.size #[.pointer (some ⟨N, 0, none⟩)] 47 ∧ boxB ((((((w1.setCell ⟨w.heap.size + 1, 0, none⟩ (.int .i64 x0)).setCell ⟨w.heap.size + 1, 1, none⟩ (.int .i64 x1)).setCell ⟨w.heap.size + 1, 2, none⟩ (.int .i64 0)).setCell ⟨w.heap.size + 1, 3, none⟩ (.bool false)).setCell ⟨w.heap.size + 1, 4, none⟩ (.int .i64 0)).setCell ⟨w.heap.size + 1, 5, none⟩ (.int .i64 0)) N #[.int .i64 x0, .int .i64 x1, .int .i64 x2, .bool x3, .int .i64 x4, .int .i64 x5] 24 ∧ Only N w ((((((w1.setCell ⟨w.heap.size + 1, 0, none⟩ (.int .i64 x0)).setCell ⟨w.heap.size + 1, 1, none⟩ (.int .i64 x1)).setCell ⟨w.heap.size + 1, 2, none⟩ (.int .i64 0)).setCell ⟨w.heap.size + 1, 3, none⟩ (.bool false)).setCell ⟨w.heap.size + 1, 4, none⟩ (.int .i64 0)).setCell ⟨w.heap.size + 1, 5, none⟩ (.int .i64 0))) := ⟨((((((H1.out.1.set 0 _).set 1 _).set 2 _).set 3 _).set 4 _).set 5 _), ((((((H1.out.2.1.else (by show w.heap.size ≠ w.heap.size + 1; omega) _).else (by show w.heap.size ≠ w.heap.size + 1; omega) _).else (by show w.heap.size ≠ w.heap.size + 1; omega) _).else (by show w.heap.size ≠ w.heap.size + 1; omega) _).else (by show w.heap.size ≠ w.heap.size + 1; omega) _).else (by show w.heap.size ≠ w.heap.size + 1; omega) _), ((((((H1.out.2.2.1.else (by show N ≠ w.heap.size + 1; omega) _).else (by show N ≠ w.heap.size + 1; omega) _).else (by show N ≠ w.heap.size + 1; omega) _).else (by show N ≠ w.heap.size + 1; omega) _).else (by show N ≠ w.heap.size + 1; omega) _).else (by show N ≠ w.heap.size + 1; omega) _), ((((((H1.out.2.2.2.set_new (by show w.heap.size ≤ w.heap.size + 1; omega) _).set_new (by show w.heap.size ≤ w.heap.size + 1; omega) _).set_new (by show w.heap.size ≤ w.heap.size + 1; omega) _).set_new (by show w.heap.size ≤ w.heap.size + 1; omega) _).set_new (by show w.heap.size ≤ w.heap.size + 1; omega) _).set_new (by show w.heap.size ≤ w.heap.size + 1; omega) _)⟩
  refine leaves_cons (f := 24) (args := #[.pointer (some ⟨w.heap.size + 1, 0, none⟩), .pointer (some ⟨w.heap.size, 0, none⟩)]) (by simp) (by simp [go_sem]) ?_
  refine (look_back N (w.heap.size + 1) w.heap.size x0 x1 0 false 0 0 x0 x1 x2 x3 x4 x5 _ H5.out.1 H5.out.2.1 H5.out.2.2.1 _).mono ?_
  rintro e' u' w9 ⟨rfl, rfl, k1, k2⟩
  exact ⟨_, results_tmp rfl _ _ _, rfl, k1, H5.out.2.2.2.trans k2⟩

set_option maxHeartbeats 4000000 in
theorem look_begin (N : Nat) (x0 x1 : Int) (x3 : Bool) (x4 x5 now wt : Int) (w : World) (hb : boxB w N #[.int .i64 x0, .int .i64 x1, .int .i64 0, .bool x3, .int .i64 x4, .int .i64 x5] 24) (h1 : ¬ wt < x0) (hr : 1 ≤ x1 ∧ x1 ≤ 100000 ∧ 0 ≤ x4 ∧ x4 ≤ 1000000000 ∧ 0 ≤ x5 ∧ x5 ≤ 100000) (hn : 0 ≤ now ∧ now ≤ 1000000000) :
    Calls Try.prog 15 #[.pointer (some ⟨N, 0, none⟩), .int .i64 now, .int .i64 wt] w fun e w' => e = .returned (.bool false) ∧ boxB w' N #[.int .i64 x0, .int .i64 x1, .int .i64 (atime now x1), .bool x3, .int .i64 x4, .int .i64 x5] 24 ∧ Only N w w' := by
  have hmf : ∀ (fn : Fn) (first cap : Array Value) (w : World), (Instr.makeFunc fn first cap).run Try.prog w = .ok (.func fn first cap) w := fun _ _ _ _ => rfl
  have p1 : decide (wt < x0) = false := by first | exact decide_eq_false (by omega) | (simp; omega)
  have HA := fun (W : World) => impl_addtime now x1 W (by omega) (by omega)
  obtain ⟨y, hy⟩ : ∃ y, atime now x1 = y := ⟨_, rfl⟩
  rw [hy] at HA
  rw [hy]
  clear hy
  have HB : Hid (boxB w N #[.int .i64 x0, .int .i64 x1, .int .i64 0, .bool x3, .int .i64 x4, .int .i64 x5] 24) := hb
  have hlt := hb.lt
  have ha := hb.below (n1 w (.cells #[.pointer (some ⟨N, 0, none⟩)] 47))
  have c0 := ha.cell 0
  have f0 := fzB ha 0
  have c1 := ha.cell 1
  have f1 := fzB ha 1
  have c2 := ha.cell 2
  have f2 := fzB ha 2
  have c3 := ha.cell 3
  have f3 := fzB ha 3
  have c4 := ha.cell 4
  have f4 := fzB ha 4
  have c5 := ha.cell 5
  have f5 := fzB ha 5
  clear hb ha
  go_enter_defers Try.func15, Try.ntmps15
  go_wp2
  refine wp_scope_ahead 0 rfl ?_
  go_upto_region 3 with fail
  have H1 : Hid (boxB ((w.alloc (.cells #[.pointer (some ⟨N, 0, none⟩)] 47)).alloc (.cells #[.int .i64 x0, .int .i64 x1, .int .i64 0, .bool x3, .int .i64 x4, .int .i64 x5] 24)) (w.heap.size + 1) #[.int .i64 x0, .int .i64 x1, .int .i64 0, .bool x3, .int .i64 x4, .int .i64 x5] 24 ∧ boxB ((w.alloc (.cells #[.pointer (some ⟨N, 0, none⟩)] 47)).alloc (.cells #[.int .i64 x0, .int .i64 x1, .int .i64 0, .bool x3, .int .i64 x4, .int .i64 x5] 24)) w.heap.size #[.pointer (some ⟨N, 0, none⟩)] 47 ∧ boxB ((w.alloc (.cells #[.pointer (some ⟨N, 0, none⟩)] 47)).alloc (.cells #[.int .i64 x0, .int .i64 x1, .int .i64 0, .bool x3, .int .i64 x4, .int .i64 x5] 24)) N #[.int .i64 x0, .int .i64 x1, .int .i64 0, .bool x3, .int .i64 x4, .int .i64 x5] 24 ∧ Only N w ((w.alloc (.cells #[.pointer (some ⟨N, 0, none⟩)] 47)).alloc (.cells #[.int .i64 x0, .int .i64 x1, .int .i64 0, .bool x3, .int .i64 x4, .int .i64 x5] 24))) := ⟨new2 w _ _ _, (boxB.new w _ _).below (n1 _ _), HB.out.below (n2 w _ _), Only.of_below (n2 w _ _)⟩
  clear c0 f0 c1 f1 c2 f2 c3 f3 c4 f4 c5 f5 HB
  generalize ((w.alloc (.cells #[.pointer (some ⟨N, 0, none⟩)] 47)).alloc (.cells #[.int .i64 x0, .int .i64 x1, .int .i64 0, .bool x3, .int .i64 x4, .int .i64 x5] 24)) = w1 at *
  have c0 := H1.out.1.cell 0
  have f0 := fzB H1.out.1 0
  have c1 := H1.out.1.cell 1
  have f1 := fzB H1.out.1 1
  have c2 := H1.out.1.cell 2
  have f2 := fzB H1.out.1 2
  have c3 := H1.out.1.cell 3
  have f3 := fzB H1.out.1 3
  have c4 := H1.out.1.cell 4
  have f4 := fzB H1.out.1 4
  have c5 := H1.out.1.cell 5
  have f5 := fzB H1.out.1 5
  go_wp2_with (go_at_call 25; refine (HA _).mono ?_; rintro e' w2 ⟨rfl, rfl⟩)
  go_step3
  refine ⟨rfl, ?_⟩
  go_wp2
  try rw [Exit.noGoto_ret]
  have H5 : Hid (boxB (w2.setCell ⟨w.heap.size + 1, 2, none⟩ (.int .i64 y)) (w.heap.size + 1) #[.int .i64 x0, .int .i64 x1, .int .i64 y, .bool x3, .int .i64 x4, .int .i64 x5] 24 ∧ boxB (w2.setCell ⟨w.heap.size + 1, 2, none⟩ (.int .i64 y)) w.heap.size #[.pointer (some ⟨N, 0, none⟩)] 47 ∧ boxB (w2.setCell ⟨w.heap.size + 1, 2, none⟩ (.int .i64 y)) N #[.int .i64 x0, .int .i64 x1, .int .i64 0, .bool x3, .int .i64 x4, .int .i64 x5] 24 ∧ Only N w (w2.setCell ⟨w.heap.size + 1, 2, none⟩ (.int .i64 y))) := ⟨(H1.out.1.set 2 _), (H1.out.2.1.else (by show w.heap.size ≠ w.heap.size + 1; omega) _), (H1.out.2.2.1.else (by show N ≠ w.heap.size + 1; omega) _), (H1.out.2.2.2.set_new (by show w.heap.size ≤ w.heap.size + 1; omega) _)⟩
  refine leaves_cons (f := 24) (args := #[.pointer (some ⟨w.heap.size + 1, 0, none⟩), .pointer (some ⟨w.heap.size, 0, none⟩)]) (by simp) (by simp [go_sem]) ?_
  refine (look_back N (w.heap.size + 1) w.heap.size x0 x1 y x3 x4 x5 x0 x1 0 x3 x4 x5 _ H5.out.1 H5.out.2.1 H5.out.2.2.1 _).mono ?_
  rintro e' u' w9 ⟨rfl, rfl, k1, k2⟩
  exact ⟨_, results_tmp rfl _ _ _, rfl, k1, H5.out.2.2.2.trans k2⟩

set_option maxHeartbeats 4000000 in
theorem look_wait (N : Nat) (x0 x1 x2 x4 x5 now wt : Int) (w : World) (hb : boxB w N #[.int .i64 x0, .int .i64 x1, .int .i64 x2, .bool false, .int .i64 x4, .int .i64 x5] 24) (h1 : ¬ wt < x0) (hf : ¬ x2 = 0) (hl : ¬ x2 ≤ now) :
    Calls Try.prog 15 #[.pointer (some ⟨N, 0, none⟩), .int .i64 now, .int .i64 wt] w fun e w' => e = .returned (.bool false) ∧ boxB w' N #[.int .i64 x0, .int .i64 x1, .int .i64 x2, .bool false, .int .i64 x4, .int .i64 x5] 24 ∧ Only N w w' := by
  have hmf : ∀ (fn : Fn) (first cap : Array Value) (w : World), (Instr.makeFunc fn first cap).run Try.prog w = .ok (.func fn first cap) w := fun _ _ _ _ => rfl
  have p1 : decide (wt < x0) = false := by first | exact decide_eq_false (by omega) | (simp; omega)
  have q1 : (x2 == 0) = false := by simpa using hf
  have p7 : decide (x2 ≤ now) = false := by first | exact decide_eq_false (by omega) | (simp; omega)
  have HB : Hid (boxB w N #[.int .i64 x0, .int .i64 x1, .int .i64 x2, .bool false, .int .i64 x4, .int .i64 x5] 24) := hb
  have hlt := hb.lt
  have ha := hb.below (n1 w (.cells #[.pointer (some ⟨N, 0, none⟩)] 47))
  have c0 := ha.cell 0
  have f0 := fzB ha 0
  have c1 := ha.cell 1
  have f1 := fzB ha 1
  have c2 := ha.cell 2
  have f2 := fzB ha 2
  have c3 := ha.cell 3
  have f3 := fzB ha 3
  have c4 := ha.cell 4
  have f4 := fzB ha 4
  have c5 := ha.cell 5
  have f5 := fzB ha 5
  clear hb ha
  go_enter_defers Try.func15, Try.ntmps15
  go_wp2
  refine wp_scope_ahead 0 rfl ?_
  go_upto_region 3 with fail
  have H1 : Hid (boxB ((w.alloc (.cells #[.pointer (some ⟨N, 0, none⟩)] 47)).alloc (.cells #[.int .i64 x0, .int .i64 x1, .int .i64 x2, .bool false, .int .i64 x4, .int .i64 x5] 24)) (w.heap.size + 1) #[.int .i64 x0, .int .i64 x1, .int .i64 x2, .bool false, .int .i64 x4, .int .i64 x5] 24 ∧ boxB ((w.alloc (.cells #[.pointer (some ⟨N, 0, none⟩)] 47)).alloc (.cells #[.int .i64 x0, .int .i64 x1, .int .i64 x2, .bool false, .int .i64 x4, .int .i64 x5] 24)) w.heap.size #[.pointer (some ⟨N, 0, none⟩)] 47 ∧ boxB ((w.alloc (.cells #[.pointer (some ⟨N, 0, none⟩)] 47)).alloc (.cells #[.int .i64 x0, .int .i64 x1, .int .i64 x2, .bool false, .int .i64 x4, .int .i64 x5] 24)) N #[.int .i64 x0, .int .i64 x1, .int .i64 x2, .bool false, .int .i64 x4, .int .i64 x5] 24 ∧ Only N w ((w.alloc (.cells #[.pointer (some ⟨N, 0, none⟩)] 47)).alloc (.cells #[.int .i64 x0, .int .i64 x1, .int .i64 x2, .bool false, .int .i64 x4, .int .i64 x5] 24))) := ⟨new2 w _ _ _, (boxB.new w _ _).below (n1 _ _), HB.out.below (n2 w _ _), Only.of_below (n2 w _ _)⟩
  clear c0 f0 c1 f1 c2 f2 c3 f3 c4 f4 c5 f5 HB
  generalize ((w.alloc (.cells #[.pointer (some ⟨N, 0, none⟩)] 47)).alloc (.cells #[.int .i64 x0, .int .i64 x1, .int .i64 x2, .bool false, .int .i64 x4, .int .i64 x5] 24)) = w1 at *
  have c0 := H1.out.1.cell 0
  have f0 := fzB H1.out.1 0
  have c1 := H1.out.1.cell 1
  have f1 := fzB H1.out.1 1
  have c2 := H1.out.1.cell 2
  have f2 := fzB H1.out.1 2
  have c3 := H1.out.1.cell 3
  have f3 := fzB H1.out.1 3
  have c4 := H1.out.1.cell 4
  have f4 := fzB H1.out.1 4
  have c5 := H1.out.1.cell 5
  have f5 := fzB H1.out.1 5
  go_wp2
  try (go_step3; go_wp2)
  try rw [Exit.noGoto_ret]
  refine leaves_cons (f := 24) (args := #[.pointer (some ⟨w.heap.size + 1, 0, none⟩), .pointer (some ⟨w.heap.size, 0, none⟩)]) (by simp) (by simp [go_sem]) ?_
  refine (look_back N (w.heap.size + 1) w.heap.size x0 x1 x2 false x4 x5 x0 x1 x2 false x4 x5 _ H1.out.1 H1.out.2.1 H1.out.2.2.1 _).mono ?_
  rintro e' u' w9 ⟨rfl, rfl, k1, k2⟩
  exact ⟨_, results_tmp rfl _ _ _, rfl, k1, H1.out.2.2.2.trans k2⟩

set_option maxHeartbeats 4000000 in
theorem look_still (N : Nat) (x0 x1 x2 x4 x5 now wt : Int) (w : World) (hb : boxB w N #[.int .i64 x0, .int .i64 x1, .int .i64 x2, .bool true, .int .i64 x4, .int .i64 x5] 24) (h1 : ¬ wt < x0) (hf : ¬ x2 = 0) (hl : ¬ x4 ≤ now) :
    Calls Try.prog 15 #[.pointer (some ⟨N, 0, none⟩), .int .i64 now, .int .i64 wt] w fun e w' => e = .returned (.bool false) ∧ boxB w' N #[.int .i64 x0, .int .i64 x1, .int .i64 x2, .bool true, .int .i64 x4, .int .i64 x5] 24 ∧ Only N w w' := by
  have hmf : ∀ (fn : Fn) (first cap : Array Value) (w : World), (Instr.makeFunc fn first cap).run Try.prog w = .ok (.func fn first cap) w := fun _ _ _ _ => rfl
  have p1 : decide (wt < x0) = false := by first | exact decide_eq_false (by omega) | (simp; omega)
  have q1 : (x2 == 0) = false := by simpa using hf
  have p7 : decide (x4 ≤ now) = false := by first | exact decide_eq_false (by omega) | (simp; omega)
  have HB : Hid (boxB w N #[.int .i64 x0, .int .i64 x1, .int .i64 x2, .bool true, .int .i64 x4, .int .i64 x5] 24) := hb
  have hlt := hb.lt
  have ha := hb.below (n1 w (.cells #[.pointer (some ⟨N, 0, none⟩)] 47))
  have c0 := ha.cell 0
  have f0 := fzB ha 0
  have c1 := ha.cell 1
  have f1 := fzB ha 1
  have c2 := ha.cell 2
  have f2 := fzB ha 2
  have c3 := ha.cell 3
  have f3 := fzB ha 3
  have c4 := ha.cell 4
  have f4 := fzB ha 4
  have c5 := ha.cell 5
  have f5 := fzB ha 5
  clear hb ha
  go_enter_defers Try.func15, Try.ntmps15
  go_wp2
  refine wp_scope_ahead 0 rfl ?_
  go_upto_region 3 with fail
  have H1 : Hid (boxB ((w.alloc (.cells #[.pointer (some ⟨N, 0, none⟩)] 47)).alloc (.cells #[.int .i64 x0, .int .i64 x1, .int .i64 x2, .bool true, .int .i64 x4, .int .i64 x5] 24)) (w.heap.size + 1) #[.int .i64 x0, .int .i64 x1, .int .i64 x2, .bool true, .int .i64 x4, .int .i64 x5] 24 ∧ boxB ((w.alloc (.cells #[.pointer (some ⟨N, 0, none⟩)] 47)).alloc (.cells #[.int .i64 x0, .int .i64 x1, .int .i64 x2, .bool true, .int .i64 x4, .int .i64 x5] 24)) w.heap.size #[.pointer (some ⟨N, 0, none⟩)] 47 ∧ boxB ((w.alloc (.cells #[.pointer (some ⟨N, 0, none⟩)] 47)).alloc (.cells #[.int .i64 x0, .int .i64 x1, .int .i64 x2, .bool true, .int .i64 x4, .int .i64 x5] 24)) N #[.int .i64 x0, .int .i64 x1, .int .i64 x2, .bool true, .int .i64 x4, .int .i64 x5] 24 ∧ Only N w ((w.alloc (.cells #[.pointer (some ⟨N, 0, none⟩)] 47)).alloc (.cells #[.int .i64 x0, .int .i64 x1, .int .i64 x2, .bool true, .int .i64 x4, .int .i64 x5] 24))) := ⟨new2 w _ _ _, (boxB.new w _ _).below (n1 _ _), HB.out.below (n2 w _ _), Only.of_below (n2 w _ _)⟩
  clear c0 f0 c1 f1 c2 f2 c3 f3 c4 f4 c5 f5 HB
  generalize ((w.alloc (.cells #[.pointer (some ⟨N, 0, none⟩)] 47)).alloc (.cells #[.int .i64 x0, .int .i64 x1, .int .i64 x2, .bool true, .int .i64 x4, .int .i64 x5] 24)) = w1 at *
  have c0 := H1.out.1.cell 0
  have f0 := fzB H1.out.1 0
  have c1 := H1.out.1.cell 1
  have f1 := fzB H1.out.1 1
  have c2 := H1.out.1.cell 2
  have f2 := fzB H1.out.1 2
  have c3 := H1.out.1.cell 3
  have f3 := fzB H1.out.1 3
  have c4 := H1.out.1.cell 4
  have f4 := fzB H1.out.1 4
  have c5 := H1.out.1.cell 5
  have f5 := fzB H1.out.1 5
  go_wp2
  go_step3
  refine ⟨rfl, ?_⟩
  go_wp2
  try rw [Exit.noGoto_ret]
  refine leaves_cons (f := 24) (args := #[.pointer (some ⟨w.heap.size + 1, 0, none⟩), .pointer (some ⟨w.heap.size, 0, none⟩)]) (by simp) (by simp [go_sem]) ?_
  refine (look_back N (w.heap.size + 1) w.heap.size x0 x1 x2 true x4 x5 x0 x1 x2 true x4 x5 _ H1.out.1 H1.out.2.1 H1.out.2.2.1 _).mono ?_
  rintro e' u' w9 ⟨rfl, rfl, k1, k2⟩
  exact ⟨_, results_tmp rfl _ _ _, rfl, k1, H1.out.2.2.2.trans k2⟩

set_option maxHeartbeats 4000000 in
theorem look_first (N : Nat) (x0 x1 x2 x4 x5 now wt : Int) (w : World) (hb : boxB w N #[.int .i64 x0, .int .i64 x1, .int .i64 x2, .bool false, .int .i64 x4, .int .i64 x5] 24) (h1 : ¬ wt < x0) (hr : 1 ≤ x1 ∧ x1 ≤ 100000 ∧ 0 ≤ x4 ∧ x4 ≤ 1000000000 ∧ 0 ≤ x5 ∧ x5 ≤ 100000) (hn : 0 ≤ now ∧ now ≤ 1000000000) (hf : ¬ x2 = 0) (hl : x2 ≤ now) :
    Calls Try.prog 15 #[.pointer (some ⟨N, 0, none⟩), .int .i64 now, .int .i64 wt] w fun e w' => e = .returned (.bool true) ∧ boxB w' N #[.int .i64 x0, .int .i64 x1, .int .i64 x2, .bool true, .int .i64 (atime now x1), .int .i64 1] 24 ∧ Only N w w' := by
  have hmf : ∀ (fn : Fn) (first cap : Array Value) (w : World), (Instr.makeFunc fn first cap).run Try.prog w = .ok (.func fn first cap) w := fun _ _ _ _ => rfl
  have p1 : decide (wt < x0) = false := by first | exact decide_eq_false (by omega) | (simp; omega)
  have q1 : (x2 == 0) = false := by simpa using hf
  have p7 : decide (x2 ≤ now) = true := by first | exact decide_eq_true (by omega) | (simp; omega)
  have hr1 : 1 ≤ x1 ∧ x1 ≤ 100000 := by omega
  have HBG := fun (W : World) h => impl_begin (w.heap.size + 1) x0 x1 x2 false x4 x5 now W h hr1 hn
  have HB : Hid (boxB w N #[.int .i64 x0, .int .i64 x1, .int .i64 x2, .bool false, .int .i64 x4, .int .i64 x5] 24) := hb
  have hlt := hb.lt
  have ha := hb.below (n1 w (.cells #[.pointer (some ⟨N, 0, none⟩)] 47))
  have c0 := ha.cell 0
  have f0 := fzB ha 0
  have c1 := ha.cell 1
  have f1 := fzB ha 1
  have c2 := ha.cell 2
  have f2 := fzB ha 2
  have c3 := ha.cell 3
  have f3 := fzB ha 3
  have c4 := ha.cell 4
  have f4 := fzB ha 4
  have c5 := ha.cell 5
  have f5 := fzB ha 5
  clear hb ha
  go_enter_defers Try.func15, Try.ntmps15
  go_wp2
  refine wp_scope_ahead 0 rfl ?_
  go_upto_region 3 with fail
  have H1 : Hid (boxB ((w.alloc (.cells #[.pointer (some ⟨N, 0, none⟩)] 47)).alloc (.cells #[.int .i64 x0, .int .i64 x1, .int .i64 x2, .bool false, .int .i64 x4, .int .i64 x5] 24)) (w.heap.size + 1) #[.int .i64 x0, .int .i64 x1, .int .i64 x2, .bool false, .int .i64 x4, .int .i64 x5] 24 ∧ boxB ((w.alloc (.cells #[.pointer (some ⟨N, 0, none⟩)] 47)).alloc (.cells #[.int .i64 x0, .int .i64 x1, .int .i64 x2, .bool false, .int .i64 x4, .int .i64 x5] 24)) w.heap.size #[.pointer (some ⟨N, 0, none⟩)] 47 ∧ boxB ((w.alloc (.cells #[.pointer (some ⟨N, 0, none⟩)] 47)).alloc (.cells #[.int .i64 x0, .int .i64 x1, .int .i64 x2, .bool false, .int .i64 x4, .int .i64 x5] 24)) N #[.int .i64 x0, .int .i64 x1, .int .i64 x2, .bool false, .int .i64 x4, .int .i64 x5] 24 ∧ Only N w ((w.alloc (.cells #[.pointer (some ⟨N, 0, none⟩)] 47)).alloc (.cells #[.int .i64 x0, .int .i64 x1, .int .i64 x2, .bool false, .int .i64 x4, .int .i64 x5] 24))) := ⟨new2 w _ _ _, (boxB.new w _ _).below (n1 _ _), HB.out.below (n2 w _ _), Only.of_below (n2 w _ _)⟩
  clear c0 f0 c1 f1 c2 f2 c3 f3 c4 f4 c5 f5 HB
  generalize ((w.alloc (.cells #[.pointer (some ⟨N, 0, none⟩)] 47)).alloc (.cells #[.int .i64 x0, .int .i64 x1, .int .i64 x2, .bool false, .int .i64 x4, .int .i64 x5] 24)) = w1 at *
  have c0 := H1.out.1.cell 0
  have f0 := fzB H1.out.1 0
  have c1 := H1.out.1.cell 1
  have f1 := fzB H1.out.1 1
  have c2 := H1.out.1.cell 2
  have f2 := fzB H1.out.1 2
  have c3 := H1.out.1.cell 3
  have f3 := fzB H1.out.1 3
  have c4 := H1.out.1.cell 4
  have f4 := fzB H1.out.1 4
  have c5 := H1.out.1.cell 5
  have f5 := fzB H1.out.1 5
  go_wp2_with (go_at_call 27; refine (HBG _ H1.out.1).mono ?_; rintro e' w5 ⟨rfl, k5, o5⟩; have H5 : Hid (boxB w5 (w.heap.size + 1) #[.int .i64 x0, .int .i64 x1, .int .i64 x2, .bool true, .int .i64 (atime now x1), .int .i64 1] 24 ∧ boxB w5 w.heap.size #[.pointer (some ⟨N, 0, none⟩)] 47 ∧ boxB w5 N #[.int .i64 x0, .int .i64 x1, .int .i64 x2, .bool false, .int .i64 x4, .int .i64 x5] 24 ∧ Only N w w5) := ⟨k5, box_only H1.out.2.1 o5 (by omega), box_only H1.out.2.2.1 o5 (by omega), H1.out.2.2.2.wide o5 (by omega)⟩; clear k5 o5 c0 f0 c1 f1 c2 f2 c3 f3 c4 f4 c5 f5)
  try (go_step3; go_wp2)
  try rw [Exit.noGoto_ret]
  refine leaves_cons (f := 24) (args := #[.pointer (some ⟨w.heap.size + 1, 0, none⟩), .pointer (some ⟨w.heap.size, 0, none⟩)]) (by simp) (by simp [go_sem]) ?_
  refine (look_back N (w.heap.size + 1) w.heap.size x0 x1 x2 true (atime now x1) 1 x0 x1 x2 false x4 x5 _ H5.out.1 H5.out.2.1 H5.out.2.2.1 _).mono ?_
  rintro e' u' w9 ⟨rfl, rfl, k1, k2⟩
  exact ⟨_, results_tmp rfl _ _ _, rfl, k1, H5.out.2.2.2.trans k2⟩

set_option maxHeartbeats 4000000 in
theorem look_drop (N : Nat) (x0 x1 x2 x4 x5 now wt : Int) (w : World) (hb : boxB w N #[.int .i64 x0, .int .i64 x1, .int .i64 x2, .bool true, .int .i64 x4, .int .i64 x5] 24) (h1 : ¬ wt < x0) (hr : 1 ≤ x1 ∧ x1 ≤ 100000 ∧ 0 ≤ x4 ∧ x4 ≤ 1000000000 ∧ 0 ≤ x5 ∧ x5 ≤ 100000) (hf : ¬ x2 = 0) (hl : x4 ≤ now) :
    Calls Try.prog 15 #[.pointer (some ⟨N, 0, none⟩), .int .i64 now, .int .i64 wt] w fun e w' => e = .returned (.bool true) ∧ boxB w' N #[.int .i64 x0, .int .i64 x1, .int .i64 x2, .bool true, .int .i64 (atime x4 (pace x1 (up1 x5))), .int .i64 (up1 x5)] 24 ∧ Only N w w' := by
  have hmf : ∀ (fn : Fn) (first cap : Array Value) (w : World), (Instr.makeFunc fn first cap).run Try.prog w = .ok (.func fn first cap) w := fun _ _ _ _ => rfl
  have p1 : decide (wt < x0) = false := by first | exact decide_eq_false (by omega) | (simp; omega)
  have q1 : (x2 == 0) = false := by simpa using hf
  have p7 : decide (x4 ≤ now) = true := by first | exact decide_eq_true (by omega) | (simp; omega)
  have HGO := fun (W : World) h => impl_goon (w.heap.size + 1) x0 x1 x2 true x4 x5 W h hr
  have HB : Hid (boxB w N #[.int .i64 x0, .int .i64 x1, .int .i64 x2, .bool true, .int .i64 x4, .int .i64 x5] 24) := hb
  have hlt := hb.lt
  have ha := hb.below (n1 w (.cells #[.pointer (some ⟨N, 0, none⟩)] 47))
  have c0 := ha.cell 0
  have f0 := fzB ha 0
  have c1 := ha.cell 1
  have f1 := fzB ha 1
  have c2 := ha.cell 2
  have f2 := fzB ha 2
  have c3 := ha.cell 3
  have f3 := fzB ha 3
  have c4 := ha.cell 4
  have f4 := fzB ha 4
  have c5 := ha.cell 5
  have f5 := fzB ha 5
  clear hb ha
  go_enter_defers Try.func15, Try.ntmps15
  go_wp2
  refine wp_scope_ahead 0 rfl ?_
  go_upto_region 3 with fail
  have H1 : Hid (boxB ((w.alloc (.cells #[.pointer (some ⟨N, 0, none⟩)] 47)).alloc (.cells #[.int .i64 x0, .int .i64 x1, .int .i64 x2, .bool true, .int .i64 x4, .int .i64 x5] 24)) (w.heap.size + 1) #[.int .i64 x0, .int .i64 x1, .int .i64 x2, .bool true, .int .i64 x4, .int .i64 x5] 24 ∧ boxB ((w.alloc (.cells #[.pointer (some ⟨N, 0, none⟩)] 47)).alloc (.cells #[.int .i64 x0, .int .i64 x1, .int .i64 x2, .bool true, .int .i64 x4, .int .i64 x5] 24)) w.heap.size #[.pointer (some ⟨N, 0, none⟩)] 47 ∧ boxB ((w.alloc (.cells #[.pointer (some ⟨N, 0, none⟩)] 47)).alloc (.cells #[.int .i64 x0, .int .i64 x1, .int .i64 x2, .bool true, .int .i64 x4, .int .i64 x5] 24)) N #[.int .i64 x0, .int .i64 x1, .int .i64 x2, .bool true, .int .i64 x4, .int .i64 x5] 24 ∧ Only N w ((w.alloc (.cells #[.pointer (some ⟨N, 0, none⟩)] 47)).alloc (.cells #[.int .i64 x0, .int .i64 x1, .int .i64 x2, .bool true, .int .i64 x4, .int .i64 x5] 24))) := ⟨new2 w _ _ _, (boxB.new w _ _).below (n1 _ _), HB.out.below (n2 w _ _), Only.of_below (n2 w _ _)⟩
  clear c0 f0 c1 f1 c2 f2 c3 f3 c4 f4 c5 f5 HB
  generalize ((w.alloc (.cells #[.pointer (some ⟨N, 0, none⟩)] 47)).alloc (.cells #[.int .i64 x0, .int .i64 x1, .int .i64 x2, .bool true, .int .i64 x4, .int .i64 x5] 24)) = w1 at *
  have c0 := H1.out.1.cell 0
  have f0 := fzB H1.out.1 0
  have c1 := H1.out.1.cell 1
  have f1 := fzB H1.out.1 1
  have c2 := H1.out.1.cell 2
  have f2 := fzB H1.out.1 2
  have c3 := H1.out.1.cell 3
  have f3 := fzB H1.out.1 3
  have c4 := H1.out.1.cell 4
  have f4 := fzB H1.out.1 4
  have c5 := H1.out.1.cell 5
  have f5 := fzB H1.out.1 5
  go_wp2_with (go_at_call 26; refine (HGO _ H1.out.1).mono ?_; rintro e' w5 ⟨rfl, k5, o5⟩; have H5 : Hid (boxB w5 (w.heap.size + 1) #[.int .i64 x0, .int .i64 x1, .int .i64 x2, .bool true, .int .i64 (atime x4 (pace x1 (up1 x5))), .int .i64 (up1 x5)] 24 ∧ boxB w5 w.heap.size #[.pointer (some ⟨N, 0, none⟩)] 47 ∧ boxB w5 N #[.int .i64 x0, .int .i64 x1, .int .i64 x2, .bool true, .int .i64 x4, .int .i64 x5] 24 ∧ Only N w w5) := ⟨k5, box_only H1.out.2.1 o5 (by omega), box_only H1.out.2.2.1 o5 (by omega), H1.out.2.2.2.wide o5 (by omega)⟩; clear k5 o5 c0 f0 c1 f1 c2 f2 c3 f3 c4 f4 c5 f5)
  go_step3
  refine ⟨rfl, ?_⟩
  go_wp2
  try rw [Exit.noGoto_ret]
  refine leaves_cons (f := 24) (args := #[.pointer (some ⟨w.heap.size + 1, 0, none⟩), .pointer (some ⟨w.heap.size, 0, none⟩)]) (by simp) (by simp [go_sem]) ?_
  refine (look_back N (w.heap.size + 1) w.heap.size x0 x1 x2 true (atime x4 (pace x1 (up1 x5))) (up1 x5) x0 x1 x2 true x4 x5 _ H5.out.1 H5.out.2.1 H5.out.2.2.1 _).mono ?_
  rintro e' u' w9 ⟨rfl, rfl, k1, k2⟩
  exact ⟨_, results_tmp rfl _ _ _, rfl, k1, H5.out.2.2.2.trans k2⟩

/-- A box that holds this one. -/
def codBox (w : World) (N : Nat) (s : Cod) : Prop := boxB w N #[.int .i64 s.x0, .int .i64 s.x1, .int .i64 s.x2, .bool s.x3, .int .i64 s.x4, .int .i64 s.x5] 24
theorem impl_look (N : Nat) (s : Cod) (now wt : Int) (w : World) (hb : codBox w N s) (hok : codOk s = true) (hn : 0 ≤ now ∧ now ≤ 1000000000) :
    Calls Try.prog 15 #[.pointer (some ⟨N, 0, none⟩), .int .i64 now, .int .i64 wt] w fun e w' => e = .returned (.bool (see s now wt).2) ∧ codBox w' N (see s now wt).1 ∧ Only N w w' := by
  have hp := ok_parts hok
  have hd := ok_drop hok
  obtain ⟨x0, x1, x2, x3, x4, x5⟩ := s
  dsimp only at hp hd
  unfold codBox at *
  unfold see
  dsimp only at hb ⊢
  by_cases h1 : wt < x0
  · rw [if_pos (Or.inr h1)]
    exact look_quick N x0 x1 x2 x3 x4 x5 now wt w hb h1
  · rw [if_neg (by omega)]
    cases x3
    · rw [if_pos rfl]
      by_cases hf : x2 = 0
      · rw [if_pos hf]
        subst hf
        exact look_begin N x0 x1 false x4 x5 now wt w hb h1 (by omega) hn
      · rw [if_neg hf]
        by_cases hl : x2 ≤ now
        · rw [if_pos hl]
          exact look_first N x0 x1 x2 x4 x5 now wt w hb h1 (by omega) hn hf hl
        · rw [if_neg hl]
          exact look_wait N x0 x1 x2 x4 x5 now wt w hb h1 hf hl
    · rw [if_neg (by simp)]
      have h9 := (hd rfl).2
      by_cases hl : x4 ≤ now
      · rw [if_pos hl]
        exact look_drop N x0 x1 x2 x4 x5 now wt w hb h1 (by omega) (by omega) hl
      · rw [if_neg hl]
        exact look_still N x0 x1 x2 x4 x5 now wt w hb h1 (by omega) hl

end Go.Proofs.Ytdgkmiknnelddaa.CodLookI
