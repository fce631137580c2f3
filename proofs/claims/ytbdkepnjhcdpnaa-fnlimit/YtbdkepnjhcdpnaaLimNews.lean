/- What the model's LimNew and the program's answer, at every configuration and start; nothing else turns. -/
import Derived.Test.YtbdkepnjhcdpnaaRows
import Derived.WalkKit
import Derived.WalkSmall
import Derived.BigQuiet
import Derived.Deep.RegionWith
import Derived.Test.YtbdkepnjhcdpnaaPairWalks
import Derived.Test.YtbdkepnjhcdpnaaWinOk
import Derived.Test.YtbdkepnjhcdpnaaNewWalks
import Derived.Test.YtbdkepnjhcdpnaaLimKit
import Derived.Test.YtbdkepnjhcdpnaaLimSpec
import Derived.Test.YtbdkepnjhcdpnaaLimBack
import Derived.Test.YtbdkepnjhcdpnaaLimImpl
import Derived.Test.YtbdkepnjhcdpnaaLimImplBack
import Derived.Test.YtbdkepnjhcdpnaaLimImplSteps
namespace Go.Proofs.Ytbdkepnjhcdpnaa.LimNews
open Go.RowKit PairWalks WinOk LimKit
open LimSpec (limOk cfgOk flag spec_limok)
open LimImpl (impl_limok)
open LimImplSteps (hid_three past_three size3 below3)
set_option maxRecDepth 8000
set_option linter.unusedVariables false
set_option linter.unusedSimpArgs false

/-- What LimNew answers. -/
def NewAns (w : World) (k mn mx sp sl st : Int) (B : Bool) (e : Ending) (w' : World) : Prop := ∃ v : Value, e = .returned (.tuple #[v, .bool B]) ∧ ((B = true ∧ v = .agg #[.int .i64 k, .int .i64 mn, .int .i64 mx, .int .i64 sp, .int .i64 sl, .int .i64 st, .int .i64 0, .int .i64 0, .int .i64 sp, .slice none 0 0]) ∨ (B = false ∧ v = .agg #[.int .i64 0, .int .i64 0, .int .i64 0, .int .i64 0, .int .i64 0, .int .i64 0, .int .i64 0, .int .i64 0, .int .i64 0, .slice none 0 0])) ∧ Below w.heap.size w w'

set_option maxHeartbeats 2000000 in
theorem spec_new_yes (k mn mx sp sl st : Int) (w : World) (hk : limOk k mn mx sp sl st 0 0 sp []) :
    Calls Try.prog 24 #[.agg #[.int .i64 k, .int .i64 mn, .int .i64 mx, .int .i64 sp, .int .i64 sl], .int .i64 st] w (NewAns w k mn mx sp sl st true) := by
  have HO := fun W => spec_limok k mn mx sp sl st 0 0 sp none 0 [] true W (Or.inl rfl) (by simp) ⟨fun _ => hk, fun _ => rfl⟩
  simp only [List.length_nil] at HO
  clear hk
  go_enter Try.func24, Try.ntmps24
  go_wp2_with (go_at_call 32; refine (HO _).mono ?_; rintro e w1 ⟨rfl, hb1⟩; have B1 : Hid (Below w.heap.size w w1) := past_three hb1; have P1 := hid_three hb1; have hz1 := size3 hb1; have d0 := cell_blk P1.out.1 0; have e0 := fz_blk P1.out.1 0; have d1 := cell_blk P1.out.1 1; have e1 := fz_blk P1.out.1 1; have d2 := cell_blk P1.out.1 2; have e2 := fz_blk P1.out.1 2; have d3 := cell_blk P1.out.1 3; have e3 := fz_blk P1.out.1 3; have d4 := cell_blk P1.out.1 4; have e4 := fz_blk P1.out.1 4; have d5 := cell_blk P1.out.1 5; have e5 := fz_blk P1.out.1 5; have d6 := cell_blk P1.out.1 6; have e6 := fz_blk P1.out.1 6; have d7 := cell_blk P1.out.1 7; have e7 := fz_blk P1.out.1 7; have d8 := cell_blk P1.out.1 8; have e8 := fz_blk P1.out.1 8; have d9 := cell_blk P1.out.1 9; have e9 := fz_blk P1.out.1 9; have c0 := cell_blk P1.out.2 0; have c1 := cell_blk P1.out.2 1; have c2 := cell_blk P1.out.2 2; have c3 := cell_blk P1.out.2 3; have c4 := cell_blk P1.out.2 4; have c5 := cell_blk P1.out.2 5; have c6 := cell_blk P1.out.2 6; have c7 := cell_blk P1.out.2 7; have c8 := cell_blk P1.out.2 8; have c9 := cell_blk P1.out.2 9; clear hb1 P1)
  refine bodyPost_ret (v := .tuple #[.agg #[.int .i64 k, .int .i64 mn, .int .i64 mx, .int .i64 sp, .int .i64 sl, .int .i64 st, .int .i64 0, .int .i64 0, .int .i64 sp, .slice none 0 0], .bool true]) (by simp [results, Try.results24, go_sem, d0, d1, d2, d3, d4, d5, d6, d7, d8, d9]) rfl ⟨_, rfl, Or.inl ⟨rfl, rfl⟩, ?_⟩
  exact ((((((((((B1.out).setCell (Nat.le_add_right _ 1) _).setCell (Nat.le_add_right _ 1) _).setCell (Nat.le_add_right _ 1) _).setCell (Nat.le_add_right _ 1) _).setCell (Nat.le_add_right _ 1) _).setCell (Nat.le_add_right _ 1) _).setCell (Nat.le_add_right _ 1) _).setCell (Nat.le_add_right _ 1) _).setCell (Nat.le_add_right _ 1) _).setCell (Nat.le_add_right _ 1) _

set_option maxHeartbeats 2000000 in
theorem spec_new_no (k mn mx sp sl st : Int) (w : World) (hk : ¬ limOk k mn mx sp sl st 0 0 sp []) :
    Calls Try.prog 24 #[.agg #[.int .i64 k, .int .i64 mn, .int .i64 mx, .int .i64 sp, .int .i64 sl], .int .i64 st] w (NewAns w k mn mx sp sl st false) := by
  have HO := fun W => spec_limok k mn mx sp sl st 0 0 sp none 0 [] false W (Or.inl rfl) (by simp) ⟨fun e => (by cases e), fun e => absurd e hk⟩
  simp only [List.length_nil] at HO
  clear hk
  go_enter Try.func24, Try.ntmps24
  go_wp2_with (go_at_call 32; refine (HO _).mono ?_; rintro e w1 ⟨rfl, hb1⟩; have B1 : Hid (Below w.heap.size w w1) := past_three hb1; have P1 := hid_three hb1; have hz1 := size3 hb1; have d0 := cell_blk P1.out.1 0; have e0 := fz_blk P1.out.1 0; have d1 := cell_blk P1.out.1 1; have e1 := fz_blk P1.out.1 1; have d2 := cell_blk P1.out.1 2; have e2 := fz_blk P1.out.1 2; have d3 := cell_blk P1.out.1 3; have e3 := fz_blk P1.out.1 3; have d4 := cell_blk P1.out.1 4; have e4 := fz_blk P1.out.1 4; have d5 := cell_blk P1.out.1 5; have e5 := fz_blk P1.out.1 5; have d6 := cell_blk P1.out.1 6; have e6 := fz_blk P1.out.1 6; have d7 := cell_blk P1.out.1 7; have e7 := fz_blk P1.out.1 7; have d8 := cell_blk P1.out.1 8; have e8 := fz_blk P1.out.1 8; have d9 := cell_blk P1.out.1 9; have e9 := fz_blk P1.out.1 9; have c0 := cell_blk P1.out.2 0; have c1 := cell_blk P1.out.2 1; have c2 := cell_blk P1.out.2 2; have c3 := cell_blk P1.out.2 3; have c4 := cell_blk P1.out.2 4; have c5 := cell_blk P1.out.2 5; have c6 := cell_blk P1.out.2 6; have c7 := cell_blk P1.out.2 7; have c8 := cell_blk P1.out.2 8; have c9 := cell_blk P1.out.2 9; clear hb1 P1)
  refine bodyPost_ret (v := .tuple #[.agg #[.int .i64 0, .int .i64 0, .int .i64 0, .int .i64 0, .int .i64 0, .int .i64 0, .int .i64 0, .int .i64 0, .int .i64 0, .slice none 0 0], .bool false]) (by simp [results, Try.results24, go_sem, d0, d1, d2, d3, d4, d5, d6, d7, d8, d9]) rfl ⟨_, rfl, Or.inr ⟨rfl, rfl⟩, ?_⟩
  exact ((((((((((B1.out).setCell (Nat.le_add_right _ 1) _).setCell (Nat.le_add_right _ 1) _).setCell (Nat.le_add_right _ 1) _).setCell (Nat.le_add_right _ 1) _).setCell (Nat.le_add_right _ 1) _).setCell (Nat.le_add_right _ 1) _).setCell (Nat.le_add_right _ 1) _).setCell (Nat.le_add_right _ 1) _).setCell (Nat.le_add_right _ 1) _).setCell (Nat.le_add_right _ 1) _

theorem hid_new {w w1 w2 : World} {A B C D : Obj} (hB : Below w.heap.size w w1) (hP : w1.heap[w.heap.size]? = some A ∧ w1.heap[w.heap.size + 1]? = some B) (hb : Below ((w1.alloc C).alloc D).heap.size ((w1.alloc C).alloc D) w2) (hy : w.heap.size + 1 < w1.heap.size) : Hid (w2.heap[w.heap.size + 1]? = some B ∧ w2.heap[w1.heap.size + 1]? = some D ∧ Below w.heap.size w w2 ∧ w.heap.size + 1 < w2.heap.size ∧ w1.heap.size + 1 < w2.heap.size) := by
  have hs := hb.size
  simp at hs
  refine ⟨?_, ?_, (hB.trans ((((Below.refl w1.heap.size w1).alloc (Nat.le_refl _) C).alloc (by simp) D).mono (by omega))).trans (hb.mono (by simp; omega)), by omega, by omega⟩
  · rw [hb.block _ (by simp; omega), Below.heap_alloc _ _ _ (by simp; omega), Below.heap_alloc _ _ _ (by omega)]; exact hP.2
  · rw [hb.block _ (by simp)]
    have := heap_alloc_new (w1.alloc C) D
    simpa using this

set_option maxHeartbeats 2000000 in
theorem impl_new_yes (k mn mx sp sl st : Int) (w : World) (hk : limOk k mn mx sp sl st 0 0 sp []) (hs : 1 ≤ sp ∧ sp ≤ 100000) :
    Calls Try.prog 8 #[.agg #[.int .i64 k, .int .i64 mn, .int .i64 mx, .int .i64 sp, .int .i64 sl], .int .i64 st] w (NewAns w k mn mx sp sl st true) := by
  have HN := fun W => NewWalks.impl_new sp sp true W (Or.inl ⟨rfl, rfl, hs.1, hs.2⟩)
  have HO := fun W => impl_limok k mn mx sp sl st 0 0 sp none 0 [] true W (Or.inl rfl) (by simp) ⟨fun _ => hk, fun _ => rfl⟩
  simp only [List.length_nil] at HO
  clear hk hs
  go_enter Try.func8, Try.ntmps8
  go_wp2_with (first | (go_at_call 19; refine (HN _).mono ?_; rintro e w1 ⟨rfl, hb1⟩; have hy1 := LimBack.bsize hb1; have B1 : Hid (Below w.heap.size w w1) := LimBack.past_two hb1; have P1 := LimImplBack.hid_two hb1; have c0 := cell_blk P1.out.1 0; have c1 := cell_blk P1.out.1 1; have c2 := cell_blk P1.out.1 2; have c3 := cell_blk P1.out.1 3; have c4 := cell_blk P1.out.1 4; have hx1 : w.heap.size < w1.heap.size := Nat.lt_of_succ_lt hy1; clear hb1) | (go_at_call 7; refine (HO _).mono ?_; clear c0 c1 c2 c3 c4; rintro e w2 ⟨rfl, hb2⟩; have Q2 := hid_new B1.out P1.out hb2 hy1; have d0 := cell_blk Q2.out.1 0; have e0 := fz_blk Q2.out.1 0; have d1 := cell_blk Q2.out.1 1; have e1 := fz_blk Q2.out.1 1; have d2 := cell_blk Q2.out.1 2; have e2 := fz_blk Q2.out.1 2; have d3 := cell_blk Q2.out.1 3; have e3 := fz_blk Q2.out.1 3; have d4 := cell_blk Q2.out.1 4; have e4 := fz_blk Q2.out.1 4; have d5 := cell_blk Q2.out.1 5; have e5 := fz_blk Q2.out.1 5; have d6 := cell_blk Q2.out.1 6; have e6 := fz_blk Q2.out.1 6; have d7 := cell_blk Q2.out.1 7; have e7 := fz_blk Q2.out.1 7; have d8 := cell_blk Q2.out.1 8; have e8 := fz_blk Q2.out.1 8; have d9 := cell_blk Q2.out.1 9; have e9 := fz_blk Q2.out.1 9; have c0 := cell_blk Q2.out.2.1 0; have c1 := cell_blk Q2.out.2.1 1; have c2 := cell_blk Q2.out.2.1 2; have c3 := cell_blk Q2.out.2.1 3; have c4 := cell_blk Q2.out.2.1 4; have c5 := cell_blk Q2.out.2.1 5; have c6 := cell_blk Q2.out.2.1 6; have c7 := cell_blk Q2.out.2.1 7; have c8 := cell_blk Q2.out.2.1 8; have c9 := cell_blk Q2.out.2.1 9; have hy2 := Q2.out.2.2.2.1; have hz2 := Q2.out.2.2.2.2; clear hb2))
  refine bodyPost_ret (v := .tuple #[.agg #[.int .i64 k, .int .i64 mn, .int .i64 mx, .int .i64 sp, .int .i64 sl, .int .i64 st, .int .i64 0, .int .i64 0, .int .i64 sp, .slice none 0 0], .bool true]) (by simp [results, Try.results8, go_sem, d0, d1, d2, d3, d4, d5, d6, d7, d8, d9]) rfl ⟨_, rfl, Or.inl ⟨rfl, rfl⟩, ?_⟩
  exact ((((((((((Q2.out.2.2.1).setCell (Nat.le_add_right _ 1) _).setCell (Nat.le_add_right _ 1) _).setCell (Nat.le_add_right _ 1) _).setCell (Nat.le_add_right _ 1) _).setCell (Nat.le_add_right _ 1) _).setCell (Nat.le_add_right _ 1) _).setCell (Nat.le_add_right _ 1) _).setCell (Nat.le_add_right _ 1) _).setCell (Nat.le_add_right _ 1) _).setCell (Nat.le_add_right _ 1) _

set_option maxHeartbeats 2000000 in
theorem impl_new_no (k mn mx sp sl st : Int) (w : World) (hk : ¬ limOk k mn mx sp sl st 0 0 sp []) (hs : 1 ≤ sp ∧ sp ≤ 100000) :
    Calls Try.prog 8 #[.agg #[.int .i64 k, .int .i64 mn, .int .i64 mx, .int .i64 sp, .int .i64 sl], .int .i64 st] w (NewAns w k mn mx sp sl st false) := by
  have HN := fun W => NewWalks.impl_new sp sp true W (Or.inl ⟨rfl, rfl, hs.1, hs.2⟩)
  have HO := fun W => impl_limok k mn mx sp sl st 0 0 sp none 0 [] false W (Or.inl rfl) (by simp) ⟨fun e => (by cases e), fun e => absurd e hk⟩
  simp only [List.length_nil] at HO
  clear hk hs
  go_enter Try.func8, Try.ntmps8
  go_wp2_with (first | (go_at_call 19; refine (HN _).mono ?_; rintro e w1 ⟨rfl, hb1⟩; have hy1 := LimBack.bsize hb1; have B1 : Hid (Below w.heap.size w w1) := LimBack.past_two hb1; have P1 := LimImplBack.hid_two hb1; have c0 := cell_blk P1.out.1 0; have c1 := cell_blk P1.out.1 1; have c2 := cell_blk P1.out.1 2; have c3 := cell_blk P1.out.1 3; have c4 := cell_blk P1.out.1 4; have hx1 : w.heap.size < w1.heap.size := Nat.lt_of_succ_lt hy1; clear hb1) | (go_at_call 7; refine (HO _).mono ?_; clear c0 c1 c2 c3 c4; rintro e w2 ⟨rfl, hb2⟩; have Q2 := hid_new B1.out P1.out hb2 hy1; have d0 := cell_blk Q2.out.1 0; have e0 := fz_blk Q2.out.1 0; have d1 := cell_blk Q2.out.1 1; have e1 := fz_blk Q2.out.1 1; have d2 := cell_blk Q2.out.1 2; have e2 := fz_blk Q2.out.1 2; have d3 := cell_blk Q2.out.1 3; have e3 := fz_blk Q2.out.1 3; have d4 := cell_blk Q2.out.1 4; have e4 := fz_blk Q2.out.1 4; have d5 := cell_blk Q2.out.1 5; have e5 := fz_blk Q2.out.1 5; have d6 := cell_blk Q2.out.1 6; have e6 := fz_blk Q2.out.1 6; have d7 := cell_blk Q2.out.1 7; have e7 := fz_blk Q2.out.1 7; have d8 := cell_blk Q2.out.1 8; have e8 := fz_blk Q2.out.1 8; have d9 := cell_blk Q2.out.1 9; have e9 := fz_blk Q2.out.1 9; have c0 := cell_blk Q2.out.2.1 0; have c1 := cell_blk Q2.out.2.1 1; have c2 := cell_blk Q2.out.2.1 2; have c3 := cell_blk Q2.out.2.1 3; have c4 := cell_blk Q2.out.2.1 4; have c5 := cell_blk Q2.out.2.1 5; have c6 := cell_blk Q2.out.2.1 6; have c7 := cell_blk Q2.out.2.1 7; have c8 := cell_blk Q2.out.2.1 8; have c9 := cell_blk Q2.out.2.1 9; have hy2 := Q2.out.2.2.2.1; have hz2 := Q2.out.2.2.2.2; clear hb2))
  refine bodyPost_ret (v := .tuple #[.agg #[.int .i64 0, .int .i64 0, .int .i64 0, .int .i64 0, .int .i64 0, .int .i64 0, .int .i64 0, .int .i64 0, .int .i64 0, .slice none 0 0], .bool false]) (by simp [results, Try.results8, go_sem, d0, d1, d2, d3, d4, d5, d6, d7, d8, d9]) rfl ⟨_, rfl, Or.inr ⟨rfl, rfl⟩, ?_⟩
  exact ((((((((((Q2.out.2.2.1).setCell (Nat.le_add_right _ 1) _).setCell (Nat.le_add_right _ 1) _).setCell (Nat.le_add_right _ 1) _).setCell (Nat.le_add_right _ 1) _).setCell (Nat.le_add_right _ 1) _).setCell (Nat.le_add_right _ 1) _).setCell (Nat.le_add_right _ 1) _).setCell (Nat.le_add_right _ 1) _).setCell (Nat.le_add_right _ 1) _).setCell (Nat.le_add_right _ 1) _

set_option maxHeartbeats 2000000 in
theorem impl_new_span (k mn mx sp sl st : Int) (w : World) (hk : ¬ limOk k mn mx sp sl st 0 0 0 []) (hs : ¬ (1 ≤ sp ∧ sp ≤ 100000)) :
    Calls Try.prog 8 #[.agg #[.int .i64 k, .int .i64 mn, .int .i64 mx, .int .i64 sp, .int .i64 sl], .int .i64 st] w (NewAns w k mn mx sp sl st false) := by
  have HN := fun W => NewWalks.impl_new sp 0 false W (Or.inr ⟨rfl, rfl, by omega⟩)
  have HO := fun W => impl_limok k mn mx sp sl st 0 0 0 none 0 [] false W (Or.inl rfl) (by simp) ⟨fun e => (by cases e), fun e => absurd e hk⟩
  simp only [List.length_nil] at HO
  clear hk hs
  go_enter Try.func8, Try.ntmps8
  go_wp2_with (first | (go_at_call 19; refine (HN _).mono ?_; rintro e w1 ⟨rfl, hb1⟩; have hy1 := LimBack.bsize hb1; have B1 : Hid (Below w.heap.size w w1) := LimBack.past_two hb1; have P1 := LimImplBack.hid_two hb1; have c0 := cell_blk P1.out.1 0; have c1 := cell_blk P1.out.1 1; have c2 := cell_blk P1.out.1 2; have c3 := cell_blk P1.out.1 3; have c4 := cell_blk P1.out.1 4; have hx1 : w.heap.size < w1.heap.size := Nat.lt_of_succ_lt hy1; clear hb1) | (go_at_call 7; refine (HO _).mono ?_; clear c0 c1 c2 c3 c4; rintro e w2 ⟨rfl, hb2⟩; have Q2 := hid_new B1.out P1.out hb2 hy1; have d0 := cell_blk Q2.out.1 0; have e0 := fz_blk Q2.out.1 0; have d1 := cell_blk Q2.out.1 1; have e1 := fz_blk Q2.out.1 1; have d2 := cell_blk Q2.out.1 2; have e2 := fz_blk Q2.out.1 2; have d3 := cell_blk Q2.out.1 3; have e3 := fz_blk Q2.out.1 3; have d4 := cell_blk Q2.out.1 4; have e4 := fz_blk Q2.out.1 4; have d5 := cell_blk Q2.out.1 5; have e5 := fz_blk Q2.out.1 5; have d6 := cell_blk Q2.out.1 6; have e6 := fz_blk Q2.out.1 6; have d7 := cell_blk Q2.out.1 7; have e7 := fz_blk Q2.out.1 7; have d8 := cell_blk Q2.out.1 8; have e8 := fz_blk Q2.out.1 8; have d9 := cell_blk Q2.out.1 9; have e9 := fz_blk Q2.out.1 9; have c0 := cell_blk Q2.out.2.1 0; have c1 := cell_blk Q2.out.2.1 1; have c2 := cell_blk Q2.out.2.1 2; have c3 := cell_blk Q2.out.2.1 3; have c4 := cell_blk Q2.out.2.1 4; have c5 := cell_blk Q2.out.2.1 5; have c6 := cell_blk Q2.out.2.1 6; have c7 := cell_blk Q2.out.2.1 7; have c8 := cell_blk Q2.out.2.1 8; have c9 := cell_blk Q2.out.2.1 9; have hy2 := Q2.out.2.2.2.1; have hz2 := Q2.out.2.2.2.2; clear hb2))
  refine bodyPost_ret (v := .tuple #[.agg #[.int .i64 0, .int .i64 0, .int .i64 0, .int .i64 0, .int .i64 0, .int .i64 0, .int .i64 0, .int .i64 0, .int .i64 0, .slice none 0 0], .bool false]) (by simp [results, Try.results8, go_sem, d0, d1, d2, d3, d4, d5, d6, d7, d8, d9]) rfl ⟨_, rfl, Or.inr ⟨rfl, rfl⟩, ?_⟩
  exact ((((((((((Q2.out.2.2.1).setCell (Nat.le_add_right _ 1) _).setCell (Nat.le_add_right _ 1) _).setCell (Nat.le_add_right _ 1) _).setCell (Nat.le_add_right _ 1) _).setCell (Nat.le_add_right _ 1) _).setCell (Nat.le_add_right _ 1) _).setCell (Nat.le_add_right _ 1) _).setCell (Nat.le_add_right _ 1) _).setCell (Nat.le_add_right _ 1) _).setCell (Nat.le_add_right _ 1) _

theorem both_new (k mn mx sp sl st : Int) : ∃ (k2 mn2 mx2 sp2 sl2 li2 gd2 av2 ws2 : Int) (B : Bool), (∀ W, Calls Try.prog 24 #[.agg #[.int .i64 k, .int .i64 mn, .int .i64 mx, .int .i64 sp, .int .i64 sl], .int .i64 st] W fun e w' => e = .returned (.tuple #[.agg #[.int .i64 k2, .int .i64 mn2, .int .i64 mx2, .int .i64 sp2, .int .i64 sl2, .int .i64 li2, .int .i64 gd2, .int .i64 av2, .int .i64 ws2, .slice none 0 0], .bool B]) ∧ Below W.heap.size W w') ∧ (∀ W, Calls Try.prog 8 #[.agg #[.int .i64 k, .int .i64 mn, .int .i64 mx, .int .i64 sp, .int .i64 sl], .int .i64 st] W fun e w' => e = .returned (.tuple #[.agg #[.int .i64 k2, .int .i64 mn2, .int .i64 mx2, .int .i64 sp2, .int .i64 sl2, .int .i64 li2, .int .i64 gd2, .int .i64 av2, .int .i64 ws2, .slice none 0 0], .bool B]) ∧ Below W.heap.size W w') := by
  by_cases hk : limOk k mn mx sp sl st 0 0 sp []
  · have hs : 1 ≤ sp ∧ sp ≤ 100000 := ⟨hk.1.2.2.2.2.1, hk.1.2.2.2.2.2.1⟩
    have fin : ∀ (W : World) e w', NewAns W k mn mx sp sl st true e w' → e = .returned (.tuple #[.agg #[.int .i64 k, .int .i64 mn, .int .i64 mx, .int .i64 sp, .int .i64 sl, .int .i64 st, .int .i64 0, .int .i64 0, .int .i64 sp, .slice none 0 0], .bool true]) ∧ Below W.heap.size W w' := by
      rintro W e w' ⟨v, rfl, h, hb⟩
      rcases h with h | h
      · exact ⟨by rw [h.2], hb⟩
      · cases h.1
    exact ⟨k, mn, mx, sp, sl, st, 0, 0, sp, true, fun W => (spec_new_yes k mn mx sp sl st W hk).mono (fin W), fun W => (impl_new_yes k mn mx sp sl st W hk hs).mono (fin W)⟩
  · have hz : ∀ W, Calls Try.prog 8 #[.agg #[.int .i64 k, .int .i64 mn, .int .i64 mx, .int .i64 sp, .int .i64 sl], .int .i64 st] W (NewAns W k mn mx sp sl st false) := fun W => by
      by_cases hs : 1 ≤ sp ∧ sp ≤ 100000
      · exact impl_new_no k mn mx sp sl st W hk hs
      · exact impl_new_span k mn mx sp sl st W (fun h => hs ⟨h.1.2.2.2.2.1, h.1.2.2.2.2.2.1⟩) hs
    have fin : ∀ (W : World) e w', NewAns W k mn mx sp sl st false e w' → e = .returned (.tuple #[.agg #[.int .i64 0, .int .i64 0, .int .i64 0, .int .i64 0, .int .i64 0, .int .i64 0, .int .i64 0, .int .i64 0, .int .i64 0, .slice none 0 0], .bool false]) ∧ Below W.heap.size W w' := by
      rintro W e w' ⟨v, rfl, h, hb⟩
      rcases h with h | h
      · cases h.1
      · exact ⟨by rw [h.2], hb⟩
    exact ⟨0, 0, 0, 0, 0, 0, 0, 0, 0, false, fun W => (spec_new_no k mn mx sp sl st W hk).mono (fin W), fun W => (hz W).mono (fin W)⟩
end Go.Proofs.Ytbdkepnjhcdpnaa.LimNews
