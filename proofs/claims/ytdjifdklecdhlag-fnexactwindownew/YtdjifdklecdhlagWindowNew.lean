/- At every span the program's WindowNew answers as the model's WindowNew, and what it answered stays its own (the law FnExactWindowNew returns true); no condition. -/
import Derived.Test.YtdjifdklecdhlagRows
import Derived.WalkKit
import Derived.WalkSmall
import Derived.BigQuiet
import Derived.ProofKit
import Derived.OpenShut
import Derived.Test.YtdjifdklecdhlagPairWalks
import Derived.Test.YtdjifdklecdhlagWinArg
import Derived.Test.YtdjifdklecdhlagNewWalks
namespace Go.Proofs.Ytdjifdklecdhlag.fnExactWindowNew
open Go.ChangeShapes Go.WideShapes Go.ChangeAt Go.RowKit PairWalks WinArg NewWalks
set_option linter.unusedVariables false

set_option maxHeartbeats 1000000 in
theorem walk (W : World) (span : Int) (w0 : (Lit.int .i64 span).wf = true) :
    Calls Try.prog 4 #[.int .i64 span] W fun e w' => e = .returned (.bool true) ∧ Below W.heap.size W w' := by
  obtain ⟨s, B, HC⟩ : ∃ (s : Int) (B : Bool), Hid ((B = true ∧ s = span ∧ 1 ≤ span ∧ span ≤ 100000) ∨ (B = false ∧ s = 0 ∧ (span < 1 ∨ 100000 < span))) := by
    by_cases h : 1 ≤ span ∧ span ≤ 100000
    · exact ⟨span, true, Or.inl ⟨rfl, rfl, h.1, h.2⟩⟩
    · exact ⟨0, false, Or.inr ⟨rfl, rfl, by omega⟩⟩
  have hBB : (B != B) = false := by simp
  clear w0
  go_enter Try.func4, Try.ntmps4
  go_wp2_with fail
  refine (spec_new span s B _ HC).mono ?_
  rintro e w1 ⟨rfl, b1⟩
  have H1 : Hid (boxAt (w1.alloc (.cells #[.int .i64 s, .slice none 0 0] 29)) w1.heap.size (.int .i64 s) (.slice none 0 0) ∧ Below W.heap.size W (w1.alloc (.cells #[.int .i64 s, .slice none 0 0] 29))) := ⟨boxAt.new _ _ _ _, b1.alloc b1.size _⟩
  clear b1
  go_wp2_with fail
  refine (impl_new span s B _ HC).mono ?_
  rintro e w2 ⟨rfl, b2⟩
  have H2 : Hid (boxAt (w2.alloc (.cells #[.int .i64 s, .slice none 0 0] 29)) w1.heap.size (.int .i64 s) (.slice none 0 0) ∧ boxAt (w2.alloc (.cells #[.int .i64 s, .slice none 0 0] 29)) w2.heap.size (.int .i64 s) (.slice none 0 0) ∧ Below W.heap.size W (w2.alloc (.cells #[.int .i64 s, .slice none 0 0] 29))) := ⟨(H1.out.1.below b2).below ((Below.refl _ _).alloc (Nat.le_refl _) _), boxAt.new _ _ _ _, (H1.out.2.trans (b2.mono H1.out.2.size)).alloc (H1.out.2.trans (b2.mono H1.out.2.size)).size _⟩
  have c0 := H2.out.1.1
  have c1 := H2.out.1.2
  clear b2 H1
  go_wp2_with fail
  refine (eq_window s none none 0 0 [] _ (Or.inl rfl) (Or.inl rfl) (by simp)).mono ?_
  rintro e w3 ⟨rfl, b3⟩
  have H3 : Hid (boxAt w3 w1.heap.size (.int .i64 s) (.slice none 0 0) ∧ boxAt w3 w2.heap.size (.int .i64 s) (.slice none 0 0) ∧ Below W.heap.size W w3) := ⟨H2.out.1.below b3, H2.out.2.1.below b3, H2.out.2.2.trans (b3.mono H2.out.2.2.size)⟩
  clear b3 H2 c0 c1
  have c0 := H3.out.1.1
  have c1 := H3.out.1.2
  have d0 := H3.out.2.1.1
  have d1 := H3.out.2.1.2
  go_wp2_with fail
  refine (mark_window s none 0 [] _ (Or.inl rfl) (by simp)).mono ?_
  rintro e w4 ⟨rfl, _, g4⟩
  have H4 : Hid (boxAt w4 w1.heap.size (.int .i64 s) (.slice none 0 0) ∧ boxAt w4 w2.heap.size (.int .i64 s) (.slice none 0 0) ∧ Below W.heap.size W w4) := ⟨H3.out.1.grown g4 (by simp [blk]), H3.out.2.1.grown g4 (by simp [blk]), H3.out.2.2.grown g4 H3.out.2.2.size (fun k hk => by simp [blk] at hk)⟩
  clear g4 H3 c0 c1 d0 d1
  have c0 := H4.out.1.1
  have c1 := H4.out.1.2
  have d0 := H4.out.2.1.1
  have d1 := H4.out.2.1.2
  go_wp2_with fail
  refine (held_window s none 0 0 _ (Or.inl rfl) (by simp)).mono ?_
  rintro e w5 ⟨rfl, b5⟩
  have H5 : Hid (boxAt w5 w1.heap.size (.int .i64 s) (.slice none 0 0) ∧ boxAt w5 w2.heap.size (.int .i64 s) (.slice none 0 0) ∧ Below W.heap.size W w5) := ⟨H4.out.1.below b5, H4.out.2.1.below b5, H4.out.2.2.trans (b5.mono H4.out.2.2.size)⟩
  clear b5 H4 c0 c1 d0 d1
  go_wp2_with fail
  refine (impl_new span s B _ HC).mono ?_
  rintro e w6 ⟨rfl, b6⟩
  have H6 : Hid (boxAt (w6.alloc (.cells #[.int .i64 s, .slice none 0 0] 29)) w1.heap.size (.int .i64 s) (.slice none 0 0) ∧ boxAt (w6.alloc (.cells #[.int .i64 s, .slice none 0 0] 29)) w2.heap.size (.int .i64 s) (.slice none 0 0) ∧ Below W.heap.size W (w6.alloc (.cells #[.int .i64 s, .slice none 0 0] 29))) := ⟨(H5.out.1.below b6).below ((Below.refl _ _).alloc (Nat.le_refl _) _), (H5.out.2.1.below b6).below ((Below.refl _ _).alloc (Nat.le_refl _) _), (H5.out.2.2.trans (b6.mono H5.out.2.2.size)).alloc (H5.out.2.2.trans (b6.mono H5.out.2.2.size)).size _⟩
  clear b6 H5
  have c0 := H6.out.1.1
  have c1 := H6.out.1.2
  go_wp2_with fail
  refine (eq_window s none none 0 0 [] _ (Or.inl rfl) (Or.inl rfl) (by simp)).mono ?_
  rintro e w7 ⟨rfl, b7⟩
  have H7 : Hid (boxAt w7 w2.heap.size (.int .i64 s) (.slice none 0 0) ∧ Below W.heap.size W w7) := ⟨H6.out.2.1.below b7, H6.out.2.2.trans (b7.mono H6.out.2.2.size)⟩
  clear b7 H6 c0 c1
  have d0 := H7.out.1.1
  have d1 := H7.out.1.2
  go_wp2_with fail
  refine (held_window s none 0 0 _ (Or.inl rfl) (by simp)).mono ?_
  rintro e w8 ⟨rfl, b8⟩
  have H8 : Hid (Below W.heap.size W w8) := H7.out.2.trans (b8.mono H7.out.2.size)
  clear b8 H7 d0 d1
  go_wp2
  go_ret
  exact ⟨rfl, H8.out⟩

theorem own : ownKnob Try.prog.godebug = none := by kernel_rfl
theorem laidOut : laidOutB Try.prog = true := by kernel_rfl

set_option maxRecDepth 100000 in
theorem lifted (os : Os) (started : os.Started) (H : Type) (enc : TypeId × Value → H) :
    ReturnsInHanded {} Try.checked os 4 .any (Rows.fnExactWindowNewSpec.pre6 enc Try.prog Try.f4 Rows.fnExactWindowNewRow.domain false) (Rows.fnExactWindowNewSpec.post enc Try.prog Try.f4 false true false false) := by
  refine returnsInHanded_of_change (C := Try.checked) own started (by kernel_rfl) Try.func4
    (ChangeSpec.witness6 (enc := enc) (C := Try.checked) false ⟨#[], #[.int .i64 0], []⟩ 8 (by kernel_rfl) (by kernel_rfl) (by kernel_rfl) (by kernel_rfl)) ?_
  intro W base args ds gs before hval0 hW hcnd _
  have hval : ∀ (j : Nat) t v, Try.f4.params[j]? = some t → args[j]? = some v → Value.okWide Try.prog W .any base t v := hval0
  have hW' := hW
  obtain ⟨p, q, hA0, hV, rfl, hfz, hnd⟩ := hW
  have hA : DataW.TrodAll enc Try.prog W 0 (fun _ => true) true Try.f4.params.toList args.toList ds p := hA0
  rw [Try.params4] at hA hval
  obtain ⟨v0, vs0, d0, ds0, p0, q0, hargs, rfl, rfl, h0, r0⟩ := trodAll_cons hA
  obtain ⟨rfl, rfl, rfl⟩ := trodAll_nil r0
  obtain rfl : args = #[v0] := by cases args; simp_all
  obtain ⟨rfl, rfl⟩ := trodVars_none hV
  obtain ⟨a0, rfl, rfl, rfl, w0⟩ := open_int Try.underlying3 (hval 0 3 v0 rfl rfl) h0
  clear hA0 hval0
  simp only [List.append_nil] at hW'
  refine (walk W a0 w0).mono fun e W' ⟨he, hb⟩ => ?_
  subst he
  exact ⟨_, rfl, _, _, _, [], [], [], hW', trodAll_cons_mk (shut_bool Try.underlying4 _) trodAll_mk0, (trodAll_cons_mk (shut_int Try.underlying3 w0) trodAll_mk0), rfl, hb.frame _, fun h => by cases h⟩

theorem over : Rows.fnExactWindowNewRow.holds Try.pinned (OpenSpec.ofChange Rows.fnExactWindowNewSpec) :=
  OpenClaim.holds_of_wide 4 Try.f4 rfl rfl rfl rfl rfl rfl rfl ⟨rfl, rfl, rfl, rfl, rfl⟩ rfl rfl rfl rfl rfl (by kernel_rfl) Try.func4 (by kernel_rfl)
    (of_decide_eq_true (by kernel_rfl)) (by unfold Func.isWrapper; first | (rw [if_pos (by decide +kernel)]; kernel_rfl) | (rw [if_neg (by decide +kernel)]; exact ⟨rfl, rfl⟩))
    (fun os started H enc _ => lifted os started H enc)

theorem proved : Rows.FnExactWindowNewSaid :=
  over
end Go.Proofs.Ytdjifdklecdhlag.fnExactWindowNew
