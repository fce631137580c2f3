/- What the program's begin and goOn make of a queue that may be slow, behind a pointer; nothing else turns; no condition but those written in each. -/
import Derived.Test.YtdgkmiknnelddaaRows
import Derived.WalkKit
import Derived.WalkSmall
import Derived.BigQuiet
import Derived.Deep.RegionWith
import Derived.Deep.DeepCutAuto
import Derived.Test.YtdgkmiknnelddaaListKit
import Derived.Test.YtdgkmiknnelddaaHoldKit
import Derived.Test.YtdgkmiknnelddaaNearKit
import Derived.Test.YtdgkmiknnelddaaNearTail
import Derived.Test.YtdgkmiknnelddaaCodKit
import Derived.Test.YtdgkmiknnelddaaCodPaceS
import Derived.Test.YtdgkmiknnelddaaCodPaceI
import Derived.Test.YtdgkmiknnelddaaCodOnly
namespace Go.Proofs.Ytdgkmiknnelddaa.CodMoveI
open Go.RowKit ListKit HoldKit NearKit NearTail CodKit CodPaceS CodPaceI CodOnly
set_option maxRecDepth 8000
set_option linter.unusedVariables false
set_option linter.unusedSimpArgs false

set_option maxHeartbeats 1000000 in
theorem impl_begin (N : Nat) (x0 x1 x2 : Int) (x3 : Bool) (x4 x5 now : Int) (w : World) (hb : boxB w N #[.int .i64 x0, .int .i64 x1, .int .i64 x2, .bool x3, .int .i64 x4, .int .i64 x5] 24) (hx : 1 ≤ x1 ∧ x1 ≤ 100000) (hn : 0 ≤ now ∧ now ≤ 1000000000) :
    Calls Try.prog 27 #[.pointer (some ⟨N, 0, none⟩), .int .i64 now] w fun e w' => e = .returned (.tuple #[]) ∧ boxB w' N #[.int .i64 x0, .int .i64 x1, .int .i64 x2, .bool true, .int .i64 (atime now x1), .int .i64 1] 24 ∧ Only N w w' := by
  have HA := fun (W : World) => impl_addtime now x1 W (by omega) (by omega)
  obtain ⟨y, hy⟩ : ∃ y, atime now x1 = y := ⟨_, rfl⟩
  rw [hy] at HA ⊢
  clear hy hx hn
  have c0 := hb.cell 0
  have f0 := fzB hb 0
  have c1 := hb.cell 1
  have f1 := fzB hb 1
  have c2 := hb.cell 2
  have f2 := fzB hb 2
  have c3 := hb.cell 3
  have f3 := fzB hb 3
  have c4 := hb.cell 4
  have f4 := fzB hb 4
  have c5 := hb.cell 5
  have f5 := fzB hb 5
  have HB : Hid (boxB w N #[.int .i64 x0, .int .i64 x1, .int .i64 x2, .bool x3, .int .i64 x4, .int .i64 x5] 24) := hb
  clear hb
  go_enter Try.func27, Try.ntmps27
  go_wp2_with (go_at_call 25; refine (HA _).mono ?_; rintro e' w' ⟨rfl, rfl⟩)
  exact bodyPost_end (v := .tuple #[]) (by simp [results, Try.results27]) rfl ⟨rfl, ((HB.out.set 3 _).set 5 _).set 4 _, (((Only.refl N w).set 3 _).set 5 _).set 4 _⟩

set_option maxHeartbeats 2000000 in
theorem goon_up (N : Nat) (x0 x1 x2 : Int) (x3 : Bool) (x4 x5 : Int) (w : World) (hb : boxB w N #[.int .i64 x0, .int .i64 x1, .int .i64 x2, .bool x3, .int .i64 x4, .int .i64 x5] 24) (hr : 1 ≤ x1 ∧ x1 ≤ 100000 ∧ 0 ≤ x4 ∧ x4 ≤ 1000000000 ∧ 0 ≤ x5 ∧ x5 ≤ 100000) (hu : x5 + 1 < 100000) :
    Calls Try.prog 26 #[.pointer (some ⟨N, 0, none⟩)] w fun e w' => e = .returned (.tuple #[]) ∧ boxB w' N #[.int .i64 x0, .int .i64 x1, .int .i64 x2, .bool x3, .int .i64 (atime x4 (pace x1 (x5 + 1))), .int .i64 (x5 + 1)] 24 ∧ Only N w w' := by
  have wu : IntKind.i64.wrap (x5 + 1) = x5 + 1 := by rw [IntKind.wrap_i64]; omega
  have hm : min (x5 + 1) (100000 : Int) = (x5 + 1) := by omega
  have hp := pace_in (e := x1) (c := (x5 + 1)) (by omega)
  have HP := fun (W : World) => impl_pace x1 (x5 + 1) W
  obtain ⟨q, hq⟩ : ∃ q, pace x1 (x5 + 1) = q := ⟨_, rfl⟩
  rw [hq] at HP hp
  have HA := fun (W : World) => impl_addtime x4 q W (by omega) (by omega)
  obtain ⟨y, hy⟩ : ∃ y, atime x4 q = y := ⟨_, rfl⟩
  rw [hy] at HA
  rw [hq, hy]
  clear hq hy hp hr
  have c0 := hb.cell 0
  have f0 := fzB hb 0
  have c1 := hb.cell 1
  have f1 := fzB hb 1
  have c2 := hb.cell 2
  have f2 := fzB hb 2
  have c3 := hb.cell 3
  have f3 := fzB hb 3
  have c4 := hb.cell 4
  have f4 := fzB hb 4
  have c5 := hb.cell 5
  have f5 := fzB hb 5
  have HB : Hid (boxB w N #[.int .i64 x0, .int .i64 x1, .int .i64 x2, .bool x3, .int .i64 x4, .int .i64 x5] 24) := hb
  clear hb
  go_enter Try.func26, Try.ntmps26
  go_upto_region 1 with fail
  have H2 : Hid (boxB (w.setCell ⟨N, 5, none⟩ (.int .i64 ((x5 + 1)))) N #[.int .i64 x0, .int .i64 x1, .int .i64 x2, .bool x3, .int .i64 x4, .int .i64 (x5 + 1)] 24 ∧ Only N w (w.setCell ⟨N, 5, none⟩ (.int .i64 ((x5 + 1))))) := ⟨HB.out.set 5 _, (Only.refl N w).set 5 _⟩
  clear c0 f0 c1 f1 c2 f2 c3 f3 c4 f4 c5 f5 HB
  generalize w.setCell ⟨N, 5, none⟩ (.int .i64 ((x5 + 1))) = w2 at *
  have c0 := H2.out.1.cell 0
  have f0 := fzB H2.out.1 0
  have c1 := H2.out.1.cell 1
  have f1 := fzB H2.out.1 1
  have c2 := H2.out.1.cell 2
  have f2 := fzB H2.out.1 2
  have c3 := H2.out.1.cell 3
  have f3 := fzB H2.out.1 3
  have c4 := H2.out.1.cell 4
  have f4 := fzB H2.out.1 4
  have c5 := H2.out.1.cell 5
  have f5 := fzB H2.out.1 5
  have near := Near.is w2
  have X0 := Near.cell c0
  have X1 := Near.cell c1
  have X2 := Near.cell c2
  have X3 := Near.cell c3
  have X4 := Near.cell c4
  have X5 := Near.cell c5
  clear c0 f0 c1 f1 c2 f2 c3 f3 c4 f4 c5 f5
  refine wp_region_near_tail 17 (by kernel_rfl) (by kernel_rfl) (by kernel_rfl) ?_
  simp only [List.take_succ_cons, List.take_zero, List.drop_succ_cons, List.drop_zero]
  repeat (go_big_quiet_step (first | (go_at_call 8; exact near_call (HP _)) | (go_at_call 25; exact near_same (HA _))))
  refine wpQuiet_nil ?_
  intro wx hwx
  obtain ⟨yy, hyy⟩ := hwx
  subst hyy
  have H3 : Hid (boxB yy.w N #[.int .i64 x0, .int .i64 x1, .int .i64 x2, .bool x3, .int .i64 x4, .int .i64 (x5 + 1)] 24 ∧ Only N w yy.w) := ⟨H2.out.1.below yy.near, H2.out.2.trans (Only.of_below yy.near)⟩
  obtain ⟨wd, hwd⟩ : ∃ wd, yy.w = wd := ⟨_, rfl⟩
  rw [hwd] at H3 ⊢
  clear hwd yy near X0 X1 X2 X3 X4 X5 H2
  have c0 := H3.out.1.cell 0
  have f0 := fzB H3.out.1 0
  have c1 := H3.out.1.cell 1
  have f1 := fzB H3.out.1 1
  have c2 := H3.out.1.cell 2
  have f2 := fzB H3.out.1 2
  have c3 := H3.out.1.cell 3
  have f3 := fzB H3.out.1 3
  have c4 := H3.out.1.cell 4
  have f4 := fzB H3.out.1 4
  have c5 := H3.out.1.cell 5
  have f5 := fzB H3.out.1 5
  go_wp2
  exact bodyPost_end (v := .tuple #[]) (by simp [results, Try.results26]) rfl ⟨rfl, H3.out.1.set 4 _, H3.out.2.set 4 _⟩

set_option maxHeartbeats 2000000 in
theorem goon_top (N : Nat) (x0 x1 x2 : Int) (x3 : Bool) (x4 x5 : Int) (w : World) (hb : boxB w N #[.int .i64 x0, .int .i64 x1, .int .i64 x2, .bool x3, .int .i64 x4, .int .i64 x5] 24) (hr : 1 ≤ x1 ∧ x1 ≤ 100000 ∧ 0 ≤ x4 ∧ x4 ≤ 1000000000 ∧ 0 ≤ x5 ∧ x5 ≤ 100000) (hu : 100000 < x5 + 1) :
    Calls Try.prog 26 #[.pointer (some ⟨N, 0, none⟩)] w fun e w' => e = .returned (.tuple #[]) ∧ boxB w' N #[.int .i64 x0, .int .i64 x1, .int .i64 x2, .bool x3, .int .i64 (atime x4 (pace x1 100000)), .int .i64 100000] 24 ∧ Only N w w' := by
  have wu : IntKind.i64.wrap (x5 + 1) = x5 + 1 := by rw [IntKind.wrap_i64]; omega
  have hm : min (x5 + 1) (100000 : Int) = 100000 := by omega
  have hp := pace_in (e := x1) (c := 100000) (by omega)
  have HP := fun (W : World) => impl_pace x1 100000 W
  obtain ⟨q, hq⟩ : ∃ q, pace x1 100000 = q := ⟨_, rfl⟩
  rw [hq] at HP hp
  have HA := fun (W : World) => impl_addtime x4 q W (by omega) (by omega)
  obtain ⟨y, hy⟩ : ∃ y, atime x4 q = y := ⟨_, rfl⟩
  rw [hy] at HA
  rw [hq, hy]
  clear hq hy hp hr
  have c0 := hb.cell 0
  have f0 := fzB hb 0
  have c1 := hb.cell 1
  have f1 := fzB hb 1
  have c2 := hb.cell 2
  have f2 := fzB hb 2
  have c3 := hb.cell 3
  have f3 := fzB hb 3
  have c4 := hb.cell 4
  have f4 := fzB hb 4
  have c5 := hb.cell 5
  have f5 := fzB hb 5
  have HB : Hid (boxB w N #[.int .i64 x0, .int .i64 x1, .int .i64 x2, .bool x3, .int .i64 x4, .int .i64 x5] 24) := hb
  clear hb
  go_enter Try.func26, Try.ntmps26
  go_upto_region 1 with fail
  have H2 : Hid (boxB (w.setCell ⟨N, 5, none⟩ (.int .i64 (100000))) N #[.int .i64 x0, .int .i64 x1, .int .i64 x2, .bool x3, .int .i64 x4, .int .i64 100000] 24 ∧ Only N w (w.setCell ⟨N, 5, none⟩ (.int .i64 (100000)))) := ⟨HB.out.set 5 _, (Only.refl N w).set 5 _⟩
  clear c0 f0 c1 f1 c2 f2 c3 f3 c4 f4 c5 f5 HB
  generalize w.setCell ⟨N, 5, none⟩ (.int .i64 (100000)) = w2 at *
  have c0 := H2.out.1.cell 0
  have f0 := fzB H2.out.1 0
  have c1 := H2.out.1.cell 1
  have f1 := fzB H2.out.1 1
  have c2 := H2.out.1.cell 2
  have f2 := fzB H2.out.1 2
  have c3 := H2.out.1.cell 3
  have f3 := fzB H2.out.1 3
  have c4 := H2.out.1.cell 4
  have f4 := fzB H2.out.1 4
  have c5 := H2.out.1.cell 5
  have f5 := fzB H2.out.1 5
  have near := Near.is w2
  have X0 := Near.cell c0
  have X1 := Near.cell c1
  have X2 := Near.cell c2
  have X3 := Near.cell c3
  have X4 := Near.cell c4
  have X5 := Near.cell c5
  clear c0 f0 c1 f1 c2 f2 c3 f3 c4 f4 c5 f5
  refine wp_region_near_tail 17 (by kernel_rfl) (by kernel_rfl) (by kernel_rfl) ?_
  simp only [List.take_succ_cons, List.take_zero, List.drop_succ_cons, List.drop_zero]
  repeat (go_big_quiet_step (first | (go_at_call 8; exact near_call (HP _)) | (go_at_call 25; exact near_same (HA _))))
  refine wpQuiet_nil ?_
  intro wx hwx
  obtain ⟨yy, hyy⟩ := hwx
  subst hyy
  have H3 : Hid (boxB yy.w N #[.int .i64 x0, .int .i64 x1, .int .i64 x2, .bool x3, .int .i64 x4, .int .i64 100000] 24 ∧ Only N w yy.w) := ⟨H2.out.1.below yy.near, H2.out.2.trans (Only.of_below yy.near)⟩
  obtain ⟨wd, hwd⟩ : ∃ wd, yy.w = wd := ⟨_, rfl⟩
  rw [hwd] at H3 ⊢
  clear hwd yy near X0 X1 X2 X3 X4 X5 H2
  have c0 := H3.out.1.cell 0
  have f0 := fzB H3.out.1 0
  have c1 := H3.out.1.cell 1
  have f1 := fzB H3.out.1 1
  have c2 := H3.out.1.cell 2
  have f2 := fzB H3.out.1 2
  have c3 := H3.out.1.cell 3
  have f3 := fzB H3.out.1 3
  have c4 := H3.out.1.cell 4
  have f4 := fzB H3.out.1 4
  have c5 := H3.out.1.cell 5
  have f5 := fzB H3.out.1 5
  go_wp2
  exact bodyPost_end (v := .tuple #[]) (by simp [results, Try.results26]) rfl ⟨rfl, H3.out.1.set 4 _, H3.out.2.set 4 _⟩

set_option maxHeartbeats 2000000 in
theorem goon_eq (N : Nat) (x0 x1 x2 : Int) (x3 : Bool) (x4 x5 : Int) (w : World) (hb : boxB w N #[.int .i64 x0, .int .i64 x1, .int .i64 x2, .bool x3, .int .i64 x4, .int .i64 x5] 24) (hr : 1 ≤ x1 ∧ x1 ≤ 100000 ∧ 0 ≤ x4 ∧ x4 ≤ 1000000000 ∧ 0 ≤ x5 ∧ x5 ≤ 100000) (hu : x5 + 1 = 100000) :
    Calls Try.prog 26 #[.pointer (some ⟨N, 0, none⟩)] w fun e w' => e = .returned (.tuple #[]) ∧ boxB w' N #[.int .i64 x0, .int .i64 x1, .int .i64 x2, .bool x3, .int .i64 (atime x4 (pace x1 100000)), .int .i64 100000] 24 ∧ Only N w w' := by
  have wu : IntKind.i64.wrap (x5 + 1) = 100000 := by rw [IntKind.wrap_i64]; omega
  have hm : min (100000) (100000 : Int) = 100000 := by omega
  have hp := pace_in (e := x1) (c := 100000) (by omega)
  have HP := fun (W : World) => impl_pace x1 100000 W
  obtain ⟨q, hq⟩ : ∃ q, pace x1 100000 = q := ⟨_, rfl⟩
  rw [hq] at HP hp
  have HA := fun (W : World) => impl_addtime x4 q W (by omega) (by omega)
  obtain ⟨y, hy⟩ : ∃ y, atime x4 q = y := ⟨_, rfl⟩
  rw [hy] at HA
  rw [hq, hy]
  clear hq hy hp hr
  have c0 := hb.cell 0
  have f0 := fzB hb 0
  have c1 := hb.cell 1
  have f1 := fzB hb 1
  have c2 := hb.cell 2
  have f2 := fzB hb 2
  have c3 := hb.cell 3
  have f3 := fzB hb 3
  have c4 := hb.cell 4
  have f4 := fzB hb 4
  have c5 := hb.cell 5
  have f5 := fzB hb 5
  have HB : Hid (boxB w N #[.int .i64 x0, .int .i64 x1, .int .i64 x2, .bool x3, .int .i64 x4, .int .i64 x5] 24) := hb
  clear hb
  go_enter Try.func26, Try.ntmps26
  go_upto_region 1 with fail
  have H2 : Hid (boxB (w.setCell ⟨N, 5, none⟩ (.int .i64 (100000))) N #[.int .i64 x0, .int .i64 x1, .int .i64 x2, .bool x3, .int .i64 x4, .int .i64 100000] 24 ∧ Only N w (w.setCell ⟨N, 5, none⟩ (.int .i64 (100000)))) := ⟨HB.out.set 5 _, (Only.refl N w).set 5 _⟩
  clear c0 f0 c1 f1 c2 f2 c3 f3 c4 f4 c5 f5 HB
  generalize w.setCell ⟨N, 5, none⟩ (.int .i64 (100000)) = w2 at *
  have c0 := H2.out.1.cell 0
  have f0 := fzB H2.out.1 0
  have c1 := H2.out.1.cell 1
  have f1 := fzB H2.out.1 1
  have c2 := H2.out.1.cell 2
  have f2 := fzB H2.out.1 2
  have c3 := H2.out.1.cell 3
  have f3 := fzB H2.out.1 3
  have c4 := H2.out.1.cell 4
  have f4 := fzB H2.out.1 4
  have c5 := H2.out.1.cell 5
  have f5 := fzB H2.out.1 5
  have near := Near.is w2
  have X0 := Near.cell c0
  have X1 := Near.cell c1
  have X2 := Near.cell c2
  have X3 := Near.cell c3
  have X4 := Near.cell c4
  have X5 := Near.cell c5
  clear c0 f0 c1 f1 c2 f2 c3 f3 c4 f4 c5 f5
  refine wp_region_near_tail 17 (by kernel_rfl) (by kernel_rfl) (by kernel_rfl) ?_
  simp only [List.take_succ_cons, List.take_zero, List.drop_succ_cons, List.drop_zero]
  repeat (go_big_quiet_step (first | (go_at_call 8; exact near_call (HP _)) | (go_at_call 25; exact near_same (HA _))))
  refine wpQuiet_nil ?_
  intro wx hwx
  obtain ⟨yy, hyy⟩ := hwx
  subst hyy
  have H3 : Hid (boxB yy.w N #[.int .i64 x0, .int .i64 x1, .int .i64 x2, .bool x3, .int .i64 x4, .int .i64 100000] 24 ∧ Only N w yy.w) := ⟨H2.out.1.below yy.near, H2.out.2.trans (Only.of_below yy.near)⟩
  obtain ⟨wd, hwd⟩ : ∃ wd, yy.w = wd := ⟨_, rfl⟩
  rw [hwd] at H3 ⊢
  clear hwd yy near X0 X1 X2 X3 X4 X5 H2
  have c0 := H3.out.1.cell 0
  have f0 := fzB H3.out.1 0
  have c1 := H3.out.1.cell 1
  have f1 := fzB H3.out.1 1
  have c2 := H3.out.1.cell 2
  have f2 := fzB H3.out.1 2
  have c3 := H3.out.1.cell 3
  have f3 := fzB H3.out.1 3
  have c4 := H3.out.1.cell 4
  have f4 := fzB H3.out.1 4
  have c5 := H3.out.1.cell 5
  have f5 := fzB H3.out.1 5
  go_wp2
  exact bodyPost_end (v := .tuple #[]) (by simp [results, Try.results26]) rfl ⟨rfl, H3.out.1.set 4 _, H3.out.2.set 4 _⟩

theorem impl_goon (N : Nat) (x0 x1 x2 : Int) (x3 : Bool) (x4 x5 : Int) (w : World) (hb : boxB w N #[.int .i64 x0, .int .i64 x1, .int .i64 x2, .bool x3, .int .i64 x4, .int .i64 x5] 24) (hr : 1 ≤ x1 ∧ x1 ≤ 100000 ∧ 0 ≤ x4 ∧ x4 ≤ 1000000000 ∧ 0 ≤ x5 ∧ x5 ≤ 100000) :
    Calls Try.prog 26 #[.pointer (some ⟨N, 0, none⟩)] w fun e w' => e = .returned (.tuple #[]) ∧ boxB w' N #[.int .i64 x0, .int .i64 x1, .int .i64 x2, .bool x3, .int .i64 (atime x4 (pace x1 (up1 x5))), .int .i64 (up1 x5)] 24 ∧ Only N w w' := by
  by_cases hu : x5 + 1 < 100000
  · have e : up1 x5 = x5 + 1 := by unfold up1; rw [if_pos (by omega)]
    rw [e]
    exact goon_up N x0 x1 x2 x3 x4 x5 w hb hr hu
  · have e : up1 x5 = 100000 := by unfold up1; split <;> omega
    rw [e]
    by_cases ht : 100000 < x5 + 1
    · exact goon_top N x0 x1 x2 x3 x4 x5 w hb hr ht
    · exact goon_eq N x0 x1 x2 x3 x4 x5 w hb hr (by omega)
end Go.Proofs.Ytdgkmiknnelddaa.CodMoveI
