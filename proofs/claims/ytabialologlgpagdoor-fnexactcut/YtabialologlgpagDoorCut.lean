/- At every text and every byte the program's Cut answers as the model's Cut, its answer owns its memory, and marks laid into it stay behind another call (the law FnExactCut returns true); the arguments are left as they were; the two tables of the library that are listed are tied to the program's text. -/
import Derived.Test.YtabialologlgpagDoorRows
import Derived.Test.YtabialologlgpagDoorTie
import Derived.Test.YtabialologlgpagDoorCards
import Derived.Test.YtabialologlgpagDoorCutWalks
import Derived.WalkKit
import Derived.ProofKit
import Derived.OpenShut
import Derived.Lay
import Derived.HandedShaped
import Derived.SevenTiedAt
import Derived.Stop.Joined
namespace Go.Proofs.YtabialologlgpagDoor.fnExactCut
open Go.ChangeShapes Go.WideShapes Go.ChangeAt Go.RowKit
open Go.ChangeMaps (open_string shut_string)
open CutMath MarkWalks CutWalks
set_option linter.unusedVariables false

theorem byte_of {a : Int} (h : (Lit.int .u8 a).wf = true) : ∃ c : UInt8, (c.toNat : Int) = a := by
  have hmin : IntKind.u8.min = 0 := rfl
  have hmax : IntKind.u8.max = 255 := rfl
  simp only [Lit.wf, Bool.and_eq_true, decide_eq_true_eq] at h
  refine ⟨UInt8.ofNat a.toNat, ?_⟩
  rw [UInt8.toNat_ofNat']
  omega

theorem mark_one (g c : Nat) (L : List (List UInt8)) (w : World) (h : Row w g L) (hl : L.length ≤ 1048577) :
    Calls Tryd.prog 14 #[.slice (some ⟨g, 0, none⟩) L.length c, .int .i64 1] w fun e w' => e = .returned (.int .i64 (1 + (L.length : Int))) ∧ Row w' g (marks 1 L.length) ∧ w.grownBy w' (some g) :=
  mark_strs g c 1 L w h hl (by omega) (by omega)

theorem held_one (g c n : Nat) (w : World) (h : Row w g (marks 1 n)) (hl : n ≤ 1048577) :
    Calls Tryd.prog 15 #[.slice (some ⟨g, 0, none⟩) n c, .int .i64 1] w fun e w' => e = .returned (.int .i64 (1 + (n : Int))) ∧ Below w.heap.size w w' :=
  held_strs g c 1 n w h hl (by omega) (by omega)

theorem cell_later {w w' : World} {a : Addr} {v : Value} (hb : Below w.heap.size w w') (h : w.cell? a = some v) : w'.cell? a = some v :=
  (hb.cell (World.block_lt_of_cell? w a h)).trans h

set_option maxHeartbeats 1000000 in
theorem walk (s : ByteArray) (hs0 : s.size ≤ 140737488355328) (a1 : Int) (w1 : (Lit.int .u8 a1).wf = true) (w : World) (hL : laidMet Tryd.prog Rows.fnExactCutRow.laid w) (hsh : w.ShapedOpen Tryd.prog) :
    Calls Tryd.prog 5 #[.string s, .int .u8 a1] w fun e w' => e = .returned (.bool true) ∧ Below w.heap.size w w' := by
  obtain ⟨c, rfl⟩ := byte_of w1
  obtain ⟨m, hm⟩ := Tryd.laysM146.s1_3 w hsh
  have HM : Hid (w.cell? ⟨3, 0, none⟩ = some (.int .i64 m)) := hm
  clear hL hsh w1 hm
  by_cases hbig : 1048576 < s.size
  · go_enter Tryd.func5, Tryd.ntmps5
    go_wp2
    go_ret
    exact ⟨rfl, Below.refl _ _⟩
  · obtain ⟨L, hL⟩ : ∃ L, cutFrom c [] s.data.toList = L := ⟨_, rfl⟩
    have hlen := (cutFrom_length c s.data.toList []).2
    rw [hL, size_toList] at hlen
    obtain ⟨n, hn⟩ : ∃ n, L.length = n := ⟨_, rfl⟩
    have KN : Hid (L.length = n) := hn
    have KL : Hid (cutFrom c [] s.data.toList = L) := hL
    rw [hn] at hlen
    clear hL hn
    go_enter Tryd.func5, Tryd.ntmps5
    go_wp2_with fail
    refine (spec_cut s c _ (by omega)).mono ?_
    rintro e w1 ⟨g0, c0, rfl, hg0, hr0, hb0⟩
    rw [KL.out] at hr0 ⊢
    rw [KN.out]
    have G0 : Hid (g0 < w1.heap.size) := hr0.lt
    have R0 : Hid (Row w1 g0 L) := hr0
    have B1 : Hid (Below w.heap.size w w1) := hb0
    clear hg0 hr0 hb0
    go_wp2_with fail
    refine (impl_cut s c m _ (by omega) (cell_later B1.out HM.out)).mono ?_
    rintro e w2 ⟨g1, c1, rfl, hg1, hr1, hb1⟩
    rw [KL.out] at hr1 ⊢
    rw [KN.out]
    have NE : Hid (g0 ≠ g1) := by have := G0.out; show g0 ≠ g1; omega
    have GE : Hid (w.heap.size ≤ g1) := Nat.le_trans B1.out.size hg1
    have R0b : Hid (Row w2 g0 L) := R0.out.below hb1
    have R1 : Hid (Row w2 g1 L) := hr1
    have B2 : Hid (Below w.heap.size w w2) := B1.out.trans (hb1.mono B1.out.size)
    clear hg1 hr1 hb1 G0 R0
    go_wp2_with fail
    have E1 := eq_strs g1 g0 c1 c0 L w2 R1.out R0b.out (by rw [KN.out]; omega)
    rw [KN.out] at E1
    refine E1.mono ?_
    clear E1
    rintro e w3 ⟨rfl, hb⟩
    have R0c : Hid (Row w3 g0 L) := R0b.out.below hb
    have R1c : Hid (Row w3 g1 L) := R1.out.below hb
    have B3 : Hid (Below w.heap.size w w3) := B2.out.trans (hb.mono B2.out.size)
    clear hb R0b R1
    go_wp2_with fail
    have M1 := mark_one g1 c1 L w3 R1c.out (by rw [KN.out]; omega)
    rw [KN.out] at M1
    refine M1.mono ?_
    clear M1
    rintro e w4 ⟨rfl, hrow, hgrow⟩
    have R0d : Hid (Row w4 g0 L) := R0c.out.grown hgrow NE.out
    have R1d : Hid (Row w4 g1 (marks 1 n)) := hrow
    have B4 : Hid (Below w.heap.size w w4) := B3.out.grown hgrow B3.out.size (fun k hk => by obtain rfl := Option.some.inj hk; exact GE.out)
    clear hrow hgrow R0c R1c
    have t1 : ¬ 1 + (n : Int) < 0 := by omega
    have t2 : (1 + (n : Int) != 1 + (n : Int)) = false := by simp
    go_wp2_with fail
    refine (held_one g1 c1 n w4 R1d.out (by omega)).mono ?_
    rintro e w5 ⟨rfl, hb⟩
    have R0e : Hid (Row w5 g0 L) := R0d.out.below hb
    have R1e : Hid (Row w5 g1 (marks 1 n)) := R1d.out.below hb
    have B5 : Hid (Below w.heap.size w w5) := B4.out.trans (hb.mono B4.out.size)
    clear hb R0d R1d
    go_wp2_with fail
    refine (impl_cut s c m _ (by omega) (cell_later B5.out HM.out)).mono ?_
    rintro e w6 ⟨g2, c2, rfl, hg2, hr2, hb2⟩
    rw [KL.out] at hr2 ⊢
    rw [KN.out]
    have R0f : Hid (Row w6 g0 L) := R0e.out.below hb2
    have R1f : Hid (Row w6 g1 (marks 1 n)) := R1e.out.below hb2
    have R2 : Hid (Row w6 g2 L) := hr2
    have B6 : Hid (Below w.heap.size w w6) := B5.out.trans (hb2.mono B5.out.size)
    clear hg2 hr2 hb2 R0e R1e
    go_wp2_with fail
    have E2 := eq_strs g2 g0 c2 c0 L w6 R2.out R0f.out (by rw [KN.out]; omega)
    rw [KN.out] at E2
    refine E2.mono ?_
    clear E2
    rintro e w7 ⟨rfl, hb⟩
    have R1g : Hid (Row w7 g1 (marks 1 n)) := R1f.out.below hb
    have B7 : Hid (Below w.heap.size w w7) := B6.out.trans (hb.mono B6.out.size)
    clear hb R0f R1f R2
    go_wp2_with fail
    refine (held_one g1 c1 n w7 R1g.out (by omega)).mono ?_
    rintro e w8 ⟨rfl, hb⟩
    have B8 : Hid (Below w.heap.size w w8) := B7.out.trans (hb.mono B7.out.size)
    clear hb
    go_wp2
    go_ret
    exact ⟨rfl, B8.out⟩

theorem own : ownKnob Tryd.prog.godebug = none := by kernel_rfl

/-- The plain wrap with a condition on the world, the world's shape kept. -/
theorem wrap_and_shaped {H : Type} {enc : TypeId × Value → H} {a : Assume} {C : Checked} {os : Os} {f : FuncId} {fn : Func} {s : ChangeSpec} {conds : List PathCond} {apart fresh handsOn again : Bool} {X : World → Array Value → Prop}
    (hX : ∀ (w w' : World) (args : Array Value), w.heap = w'.heap → X w args → X w' args)
    (own : ownKnob C.prog.godebug = none) (started : os.Started) (noInit : C.prog.inits.idxOf? f = none) (hfn : C.prog.funcs[f]? = some fn)
    (witness : ∃ (w : World) (tape : Tape) (i : Input), w.os = os ∧ (w.forCall tape i).Shaped C.prog ∧ i.vars = [] ∧ Input.okWide C.prog (w.forCall tape i) .any w.heap.size f i ∧
      ((s.pre enc C.prog fn conds apart (w.forCall tape i).memory i.args ∧ X (w.forCall tape i).memory i.args) ∧ sizedMet enc C.prog fn (OpenSpec.ofChange s) apart (w.forCall tape i).memory i.args) ∧ a.holds C.prog (lone (Frame.enter C.prog f i.args .normal) [] (w.forCall tape i)))
    (contract : ∀ (W : World) (base : Nat) (args : Array Value) (ds gs : List (DataW H)) (before : List MemPlace),
      (∀ (j : Nat) t v, fn.params[j]? = some t → args[j]? = some v → Value.okWide C.prog W .any base t v) →
      DataW.Whole enc C.prog fn.params.toList s.vars apart W args.toList ds gs before →
      (DataW.weightsEach C.prog (fn.params.toList ++ s.plain.varTypes C.prog) (ds ++ gs)).all (· ≤ reachBytes) = true → X W args → W.ShapedOpen C.prog →
      Calls C.prog f args W fun e W' => ∃ v, e = .returned v ∧ s.post enc C.prog fn apart fresh handsOn again W args v W') :
    ReturnsInHanded a C os f .any (fun w args => (s.pre enc C.prog fn conds apart w args ∧ X w args) ∧ sizedMet enc C.prog fn (OpenSpec.ofChange s) apart w args) (s.post enc C.prog fn apart fresh handsOn again) := by
  refine returnsInHanded_of_calls own started noInit witness ?_
  intro w tape i _ hsh _ hok hpre hholds
  obtain ⟨_, _, _, fn', hfn', _, _, _, _, hval⟩ := hok
  have e : fn' = fn := Option.some.inj (hfn'.symm.trans hfn)
  subst e
  obtain ⟨⟨⟨ds, gs, before, hw, hc⟩, hx⟩, hz⟩ := hpre
  have hw' := DataW.Whole.of_heap (w' := w.forCall tape i) (by rfl) hw
  refine (contract (w.forCall tape i) w.heap.size i.args ds gs before hval hw' (hz.weights hw) (hX _ _ _ (by rfl) hx) hsh).mono fun e W' ⟨v, he, hp⟩ => ?_
  subst he
  exact ChangeSpec.post_blind hp

set_option maxRecDepth 100000 in
theorem lifted (os : Os) (started : os.Started) (H : Type) (enc : TypeId × Value → H) :
    ReturnsInHanded {} Tryd.checked os 5 .any (fun w args => (Rows.fnExactCutSpec.pre enc Tryd.prog Tryd.f5 Rows.fnExactCutRow.domain false w args ∧ laidMetH Tryd.prog Rows.fnExactCutRow.laid w) ∧ sizedMet enc Tryd.prog Tryd.f5 (OpenSpec.ofChange Rows.fnExactCutSpec) false w args)
      (Rows.fnExactCutSpec.post enc Tryd.prog Tryd.f5 false true false false) := by
  refine wrap_and_shaped (C := Tryd.checked) (X := fun w _ => laidMetH Tryd.prog Rows.fnExactCutRow.laid w) (fun _ _ _ hh h => h.of_heap hh) own started (by kernel_rfl) Tryd.func5
    (ChangeSpec.witness_shaped (enc := enc) (C := Tryd.checked) (os := os) (X := fun w _ => laidMetH Tryd.prog Rows.fnExactCutRow.laid w) false (World.laidAll Tryd.prog os Rows.fnExactCutRow.laid) #[.string ⟨#[]⟩, .int .u8 0] 8 (World.laidAll_os _ _ _)
      (World.shaped_of_ZipB (by kernel_rfl) (by kernel_rfl)) (by kernel_rfl) (by kernel_rfl) (by kernel_rfl)
      (by rw [MakeChecks.laidMetH_plain _ _ _ (by kernel_rfl)]; exact laidMet_laidAll _ (by kernel_rfl) (by kernel_rfl))) ?_
  intro W base args ds gs before hval0 hW hsz0 hL hsh
  rw [MakeChecks.laidMetH_plain _ _ _ (by kernel_rfl)] at hL
  have hsz : (DataW.weightsEach Tryd.prog (Tryd.f5.params.toList ++ Rows.fnExactCutSpec.plain.varTypes Tryd.prog) (ds ++ gs)).all (· ≤ reachBytes) = true := hsz0
  clear hsz0
  have hval : ∀ (j : Nat) t v, Tryd.f5.params[j]? = some t → args[j]? = some v → Value.okWide Tryd.prog W .any base t v := hval0
  have hW' := hW
  obtain ⟨p, q, hA0, hV, rfl, hfz, hnd⟩ := hW
  have hA : DataW.TrodAll enc Tryd.prog W 0 (fun _ => true) true Tryd.f5.params.toList args.toList ds p := hA0
  rw [Tryd.params5] at hA hval hsz
  obtain ⟨v0, vs0, d0, ds0, p0, q0, hargs, rfl, rfl, h0, r0⟩ := trodAll_cons hA
  obtain ⟨v1, vs1, d1, ds1, p1, q1, rfl, rfl, rfl, h1, r1⟩ := trodAll_cons r0
  obtain ⟨rfl, rfl, rfl⟩ := trodAll_nil r1
  obtain rfl : args = #[v0, v1] := by cases args; simp_all
  obtain ⟨rfl, rfl⟩ := trodVars_none hV
  obtain ⟨s0, rfl, rfl, rfl, w0⟩ := open_string Tryd.underlying9 (hval 0 9 v0 rfl rfl) h0
  have hs0 : s0.size ≤ 140737488355328 := by
    have h1 := sized_string hsz (j := 0) (t := 9) rfl rfl
    have h2 := reachBytes_lt
    have e1 : s0.size = s0.data.size := rfl
    have e2 : s0.data.toList.length = s0.data.size := Array.length_toList
    have e3 : (2 : Nat) ^ 47 = 140737488355328 := by decide
    omega
  obtain ⟨a1, rfl, rfl, rfl, w1⟩ := open_int Tryd.underlying5 (hval 1 5 v1 rfl rfl) h1
  clear hA0 hval0
  simp only [List.append_nil] at hW'
  refine (walk s0 hs0 a1 w1 W hL hsh).mono fun e W' ⟨he, hb⟩ => ?_
  subst he
  refine ⟨_, rfl, _, _, _, [], [], [], hW', ?_, ?_, rfl, hb.frame _, fun h => by cases h⟩
  · exact trodAll_cons_mk (shut_bool Tryd.underlying4 _) trodAll_mk0
  · exact (trodAll_cons_mk (shut_string Tryd.underlying9 w0) (trodAll_cons_mk (shut_int Tryd.underlying5 w1) trodAll_mk0))

theorem over : Rows.fnExactCutRow.holds Tryd.pinned (OpenSpec.ofChange Rows.fnExactCutSpec) :=
  OpenClaim.holds_of_wide 5 Tryd.f5 rfl rfl rfl rfl rfl rfl rfl ⟨rfl, rfl, rfl, rfl, rfl⟩ rfl rfl rfl rfl rfl (by kernel_rfl) Tryd.func5 (by kernel_rfl)
    (of_decide_eq_true (by kernel_rfl)) (by unfold Func.isWrapper; first | (rw [if_pos (by decide +kernel)]; kernel_rfl) | (rw [if_neg (by decide +kernel)]; exact ⟨rfl, rfl⟩))
    (fun os started H enc _ => lifted os started H enc)

theorem proved : Rows.FnExactCutCardSaid :=
  Claim7.holds_tied_plain_at .later [] [.data, .pinned] true (true, "cbb50e7f5dae422565ae6e0fca5ed65bdb37d9a86b72dcaba271a2c5803e925e") true over (fun _ h => by cases h) (by kernel_rfl) (fun _ h => by cases h) fnExactCut_row_tie rfl ⟨rfl, rfl⟩ (by kernel_rfl) rfl
    (fun f fn hf hfn => by
      obtain rfl : f = 5 := Option.some.inj ((show Tryd.prog.funcNamed "loop.example/g00685/laws.FnExactCut" = some 5 by kernel_rfl).symm.trans hf) |>.symm
      obtain rfl : fn = Tryd.f5 := (Option.some.inj (Tryd.func5.symm.trans hfn)).symm
      exact ⟨by kernel_rfl, fun j t ht => by
        rw [Tryd.params5] at ht
        have hm : t ∈ [9, 5] := by simpa using Array.mem_of_getElem? ht
        have hall : ([9, 5].all fun u => !Tryd.prog.wantsStandIn u) = true := by kernel_rfl
        exact (show Tryd.prog.wantsStandIn t = false by simpa using List.all_eq_true.1 hall t hm)⟩)
    (by kernel_rfl)

end Go.Proofs.YtabialologlgpagDoor.fnExactCut
