/- At every list of bytes: the root that the program answers at the number drawn from it is the greatest whose square is at most that number, the shares are exact, its digits are read back, and sums have an end (the law FnRoot returns true); the list is left as it was; the tables and errors of the library that are listed are tied to the program's text. -/
import Derived.Test.YtabialologlgpacDoorRows
import Derived.Test.YtabialologlgpacDoorTie
import Derived.Test.YtabialologlgpacDoorCards
import Derived.Test.YtabialologlgpacDoorDrawWalks
import Derived.Test.YtabialologlgpacDoorRootWalks
import Derived.Test.YtabialologlgpacDoorShareWalks
import Derived.Test.YtabialologlgpacDoorTextWalks
import Derived.WalkKit
import Derived.ProofKit
import Derived.OpenShut
import Derived.ShutString
import Derived.ChangeOld
import Derived.Below
import Derived.Lay
import Derived.HandedShaped
import Derived.SevenTiedAt
import Derived.Stop.Joined
import Derived.Stop.LaidErr
import Derived.Lib.LaidTab
import Derived.Lib.SmallJoins
namespace Go.Proofs.YtabialologlgpacDoor.fnRoot
open Go.ChangeShapes Go.WideShapes Go.ChangeAt Go.RowKit
open Go.ChangeMaps (open_string shut_string)
open RootMath ShareMath DrawWalks
set_option linter.unusedVariables false

theorem laidOut : laidOutB Tryd.prog = true := by kernel_rfl

/-- What the walk is told of a list of integers that came in: nil, or a row of cells. -/
def IsRow (k : IntKind) (w : World) (a : Option Addr) (len cap : Nat) (zs : List Int) : Prop :=
  (a = none ∧ len = 0 ∧ cap = 0 ∧ zs = []) ∨
  ∃ x, a = some x ∧ len ≤ cap ∧ cap ≤ maxLen ∧ zs.length = cap ∧ (∀ i, i < zs.length → w.cell? (x.add i) = some (.int k (zs.getD i 0))) ∧ ∀ n ∈ zs, (Lit.int k n).wf = true

theorem add_at (b off j : Nat) : (⟨b, off, none⟩ : Addr).add j = ⟨b, off + j, none⟩ := by
  unfold Addr.add
  by_cases h : j = 0
  · subst h; simp
  · simp [h]

theorem code_of {w : World} {a : Option Addr} {len cap : Nat} {zs : List Int} (h : IsRow .u8 w a len cap zs) : CodeOk w w.heap.size a len := by
  rcases h with ⟨_, h, _, _⟩ | ⟨x, rfl, hl, _, hz, hcell, hwz⟩
  · exact Or.inl h
  · by_cases h0 : len = 0
    · exact Or.inl h0
    · obtain ⟨b, off, spot⟩ := x
      have hc := hcell 0 (by omega)
      have hspot : spot = none := by simpa [Addr.add] using World.cell?_spot hc
      subst hspot
      have hb : b < w.heap.size := by
        have := World.block_lt_of_cell? w _ hc
        simpa [Addr.add] using this
      refine Or.inr ⟨b, off, rfl, by omega, fun j hj => ?_⟩
      have hcj := hcell j (by omega)
      have hw := hwz (zs.getD j 0) (by rw [List.getD_eq_getElem?_getD, List.getElem?_eq_getElem (by omega)]; exact List.getElem_mem _)
      have hmin : IntKind.u8.min = 0 := rfl
      have hmax : IntKind.u8.max = 255 := rfl
      simp only [Lit.wf, Bool.and_eq_true, decide_eq_true_eq] at hw
      rw [add_at] at hcj
      exact ⟨zs.getD j 0, by omega, by omega, hcj⟩

theorem tab_of_laid {W : World} (h : laidMet Tryd.prog Rows.fnRootRow.laid W) : Lib.TabIs Tryd.prog W "internal/strconv.uint64pow10" .u64 Lib.pow10Tab := by
  have h2 : laidMet Tryd.prog (("internal/strconv.uint64pow10", Lib.tabData .u64 Lib.pow10Tab) :: [("strconv.ErrRange", Rows.laid_strconv_ErrRange), ("strconv.ErrSyntax", Rows.laid_strconv_ErrSyntax)]) W := laidMet.tail (laidMet.tail h)
  exact Lib.tabIs_of_head (t := 77) (n := 20) (e := 38) TextWalks.gPow (by kernel_rfl) (by kernel_rfl) (by kernel_rfl) (by kernel_rfl) (by kernel_rfl) h2

theorem code_below {w w' : World} {a : Option Addr} {n : Nat} (h : CodeOk w w.heap.size a n) (hb : Below w.heap.size w w') : CodeOk w' w'.heap.size a n := by
  rcases h with h | ⟨b, p, ha, hne, hB⟩
  · exact Or.inl h
  · by_cases hz : n = 0
    · exact Or.inl hz
    · obtain ⟨x, _, _, hc⟩ := hB 0 (by omega)
      have hlt : b < w.heap.size := World.block_lt_of_cell? w _ hc
      have := hb.size
      exact Or.inr ⟨b, p, ha, by omega, hB.same (hb.block b hlt)⟩

/-- The share of the law is exact and below the end. -/
theorem share_exact {N A B : Nat} (hN : N ≤ 3000003000) (hA : A < 3000000) : share N A B = N * A / B := by
  have h1 : N * A ≤ 3000003000 * 3000000 := Nat.mul_le_mul hN (by omega)
  have h2 := Nat.div_le_self (N * A) B
  unfold share
  rw [if_pos (by omega)]

theorem share_back {N B : Nat} (hN0 : 0 < N) (hB : B ≤ 4000) : share N B N = B := by
  unfold share
  rw [Nat.mul_div_cancel_left B hN0, if_pos (by omega)]

theorem root_facts {N : Nat} {r : Int} (h : isRoot (N : Int) r) (hN : N ≤ 3000003000) : 0 ≤ r ∧ r ≤ 60000 ∧ 0 ≤ r * r ∧ r * r ≤ N ∧ (N : Int) < (r + 1) * (r + 1) ∧ (r + 1) * (r + 1) ≤ 10000000000 := by
  obtain ⟨h0, _, h2, h3⟩ := h
  have h4 : r ≤ 60000 := by
    rcases Int.lt_or_le 60000 r with h | h
    · have := sq_le (a := 60001) (b := r) (by omega) (by omega); omega
    · exact h
  have h5 := sq_le (a := r + 1) (b := 60001) (by omega) (by omega)
  exact ⟨h0, h4, Int.mul_nonneg h0 h0, h2, h3, by omega⟩

theorem sum_end (x : Int) (w : World) (h0 : 0 ≤ x) (h1 : x ≤ 1000000000000) : Calls Tryd.prog 9 #[.int .i64 9223372036854775807, .int .i64 x] w fun e w' => e = .returned (.int .i64 9223372036854775807) ∧ w' = w := by
  by_cases hz : x = 0
  · subst hz
    go_enter Tryd.func9, Tryd.ntmps9
    go_wp2
    go_ret
    exact ⟨rfl, rfl⟩
  · have c1 : 0 < x := by omega
    have c2 : 9223372036854775807 - x < 9223372036854775807 := by omega
    clear hz
    go_enter Tryd.func9, Tryd.ntmps9
    go_wp2
    go_ret
    exact ⟨rfl, rfl⟩

theorem sum_zero (x : Int) (w : World) (h0 : 0 < x) (h1 : x ≤ 1000000000000) : Calls Tryd.prog 9 #[.int .i64 x, .int .i64 (-x)] w fun e w' => e = .returned (.int .i64 0) ∧ w' = w := by
  obtain ⟨y, hy⟩ : ∃ y, -x = y := ⟨_, rfl⟩
  rw [hy]
  have c1 : ¬ 0 < y := by omega
  have c2 : y < 0 := by omega
  have c3 : ¬ x < -9223372036854775808 - y := by omega
  have c4 : x + y = 0 := by omega
  have c5 : -1000000000000 ≤ y := by omega
  clear hy
  go_enter Tryd.func9, Tryd.ntmps9
  go_wp2
  go_ret
  exact ⟨rfl, rfl⟩

set_option maxHeartbeats 2000000 in
theorem walk_in (a : Option Addr) (len cap : Nat) (w : World) (hlen : (len : Int) ≤ 1048576) (hok : CodeOk w w.heap.size a len) (htab : Lib.TabIs Tryd.prog w "internal/strconv.uint64pow10" .u64 Lib.pow10Tab) :
    Calls Tryd.prog 3 #[.slice a len cap] w fun e w' => e = .returned (.bool true) ∧ Below w.heap.size w w' := by
  have HO : Hid (CodeOk w w.heap.size a len) := hok
  have HT : Hid (Lib.TabIs Tryd.prog w "internal/strconv.uint64pow10" .u64 Lib.pow10Tab) := htab
  clear hok htab
  go_enter Tryd.func3, Tryd.ntmps3
  go_wp2_with fail
  refine (make_num len 3000000 a cap _ hlen (by omega) (by omega) HO.out).mono ?_
  rintro e w1 ⟨y1, rfl, y1a, y1b, hb1⟩
  have B1 : Hid (Below w.heap.size w w1) := hb1
  clear hb1
  obtain ⟨A, rfl⟩ := Int.eq_ofNat_of_zero_le y1a
  go_wp2_with fail
  refine (make_num len 4000 a cap _ hlen (by omega) (by omega) (code_below HO.out B1.out)).mono ?_
  rintro e w2 ⟨y2, rfl, y2a, y2b, hb2⟩
  have B2 : Hid (Below w.heap.size w w2) := B1.out.trans (hb2.mono B1.out.size)
  clear hb2
  obtain ⟨B, hB⟩ : ∃ B : Nat, 1 + y2 = (B : Int) := ⟨(1 + y2).toNat, by omega⟩
  have hB0 : 0 < B := by omega
  have hB1 : B ≤ 4000 := by omega
  obtain ⟨N, hN⟩ : ∃ N : Nat, (A : Int) * 1000 + (B : Int) = (N : Int) := ⟨A * 1000 + B, by omega⟩
  have hN0 : 0 < N := by omega
  have hN1 : N ≤ 3000003000 := by omega
  go_wp2_with fail
  refine (RootWalks.impl_root N _ (by omega) (by omega)).mono ?_
  rintro e w3 ⟨r, rfl, hr, hb3⟩
  have B3 : Hid (Below w.heap.size w w3) := B2.out.trans (hb3.mono B2.out.size)
  obtain ⟨r0, r1, r2, r3, r4, r5⟩ := root_facts hr hN1
  clear hb3 hr
  obtain ⟨P1, hP1⟩ : ∃ P1, r * r = P1 := ⟨_, rfl⟩
  obtain ⟨P2, hP2⟩ : ∃ P2, (r + 1) * (r + 1) = P2 := ⟨_, rfl⟩
  rw [hP1] at r2 r3
  rw [hP2] at r4 r5
  go_wp2_with fail
  refine (ShareWalks.impl_share N A B _ (by omega) (by omega) (by omega) hB0).mono ?_
  rintro e w4 ⟨rfl, hb4⟩
  have B4 : Hid (Below w.heap.size w w4) := B3.out.trans (hb4.mono B3.out.size)
  clear hb4
  rw [share_exact hN1 (by omega)]
  obtain ⟨S, hS⟩ : ∃ S, N * A / B = S := ⟨_, rfl⟩
  obtain ⟨P3, hP3⟩ : ∃ P3 : Nat, N * A = P3 := ⟨_, rfl⟩
  have hP3b : P3 ≤ 9000009000000000 := by rw [← hP3]; exact Nat.le_trans (Nat.mul_le_mul hN1 (show A ≤ 3000000 by omega)) (by omega)
  have hP3i : (N : Int) * (A : Int) = (P3 : Int) := by rw [← hP3]; simp
  have hSi : (P3 : Int) / (B : Int) = (S : Int) := by rw [← hS, hP3, Int.natCast_ediv]
  have hSb : S ≤ 9000009000000000 := by rw [← hS, hP3]; exact Nat.le_trans (Nat.div_le_self _ _) hP3b
  rw [hS]
  clear hS hP3
  go_wp2_with fail
  refine (NumWalks.impl_num N _ (by omega) (Joins.tab_stays TextWalks.gPow HT.out B4.out (Nat.le_refl _))).mono ?_
  rintro e w5 ⟨rfl, hb5⟩
  have B5 : Hid (Below w.heap.size w w5) := B4.out.trans (hb5.mono B4.out.size)
  clear hb5
  go_wp2_with fail
  refine (TextWalks.impl_back N _ (by omega) (Joins.tab_stays TextWalks.gPow HT.out B5.out (Nat.le_refl _))).mono ?_
  rintro e w6 ⟨rfl, hb6⟩
  have B6 : Hid (Below w.heap.size w w6) := B5.out.trans (hb6.mono B5.out.size)
  clear hb6
  go_wp2_with fail
  refine (ShareWalks.impl_share N B N _ (by omega) (by omega) (by omega) hN0).mono ?_
  rintro e w7 ⟨rfl, hb7⟩
  have B7 : Hid (Below w.heap.size w w7) := B6.out.trans (hb7.mono B6.out.size)
  clear hb7
  rw [share_back hN0 hB1]
  go_wp2_with fail
  refine (sum_end (A : Int) _ (by omega) (by omega)).mono ?_
  rintro e w8 ⟨rfl, rfl⟩
  go_wp2_with fail
  refine (sum_zero (N : Int) _ (by omega) (by omega)).mono ?_
  rintro e w9 ⟨rfl, rfl⟩
  go_wp2
  go_ret
  exact ⟨rfl, B7.out⟩

theorem walk (a : Option Addr) (len cap : Nat) (zs : List Int) (w : World) (hrow : IsRow .u8 w a len cap zs) (hL : laidMet Tryd.prog Rows.fnRootRow.laid w) (hsh : w.ShapedOpen Tryd.prog) :
    Calls Tryd.prog 3 #[.slice a len cap] w fun e w' => e = .returned (.bool true) ∧ Below w.heap.size w w' := by
  have hcap : (len : Int) ≤ 9223372036854775807 := by
    rcases hrow with ⟨_, h, _, _⟩ | ⟨x, _, hl, hm, _⟩
    · omega
    · unfold maxLen at hm; omega
  have hok := code_of hrow
  have htab := tab_of_laid hL
  by_cases hbig : 1048576 < (len : Int)
  · clear hrow hL hsh hok htab
    go_enter Tryd.func3, Tryd.ntmps3
    go_wp2
    go_ret
    exact ⟨rfl, Below.refl _ _⟩
  · exact walk_in a len cap w (by omega) hok htab


theorem own : ownKnob Tryd.prog.godebug = none := by kernel_rfl

/-- The plain wrap with a condition on the world, the world's shape kept. -/
theorem wrap_and_shaped {H : Type} {enc : TypeId × Value → H} {a : Assume} {C : Checked} {os : Os} {f : FuncId} {fn : Func} {s : ChangeSpec} {conds : List PathCond} {apart fresh handsOn again : Bool} {X : World → Array Value → Prop}
    (hX : ∀ (w w' : World) (args : Array Value), w.heap = w'.heap → X w args → X w' args)
    (own : ownKnob C.prog.godebug = none) (started : os.Started) (noInit : C.prog.inits.idxOf? f = none) (hfn : C.prog.funcs[f]? = some fn)
    (witness : ∃ (w : World) (tape : Tape) (i : Input), w.os = os ∧ (w.forCall tape i).Shaped C.prog ∧ i.vars = [] ∧ Input.okWide C.prog (w.forCall tape i) .any w.heap.size f i ∧
      ((s.pre enc C.prog fn conds apart (w.forCall tape i).memory i.args ∧ X (w.forCall tape i).memory i.args) ∧ sizedMet enc C.prog fn (OpenSpec.ofChange s) apart (w.forCall tape i).memory i.args) ∧ a.holds C.prog (lone (Frame.enter C.prog f i.args .normal) [] (w.forCall tape i)))
    (contract : ∀ (W : World) (base : Nat) (args : Array Value) (ds gs : List (DataW H)) (before : List MemPlace),
      (∀ (j : Nat) t v, fn.params[j]? = some t → args[j]? = some v → Value.okWide C.prog W .any base t v) →
      DataW.Whole enc C.prog fn.params.toList s.vars apart W args.toList ds gs before →
      (DataW.weightsEach C.prog (fn.params.toList ++ s.plain.varTypes C.prog) (ds ++ gs)).all (· ≤ reachBytes) = true → X W args → W.ShapedOpen C.prog →
      Calls C.prog f args W fun e W' => ∃ v, e = .returned v ∧ s.post enc C.prog fn apart fresh handsOn again W args v W') :
    ReturnsInHanded a C os f .any (fun w args => (s.pre enc C.prog fn conds apart w args ∧ X w args) ∧ sizedMet enc C.prog fn (OpenSpec.ofChange s) apart w args) (s.post enc C.prog fn apart fresh handsOn again) := by
  refine returnsInHanded_of_calls own started noInit witness ?_
  intro w tape i _ hsh _ hok hpre hholds
  obtain ⟨_, _, _, fn', hfn', _, _, _, _, hval⟩ := hok
  have e : fn' = fn := Option.some.inj (hfn'.symm.trans hfn)
  subst e
  obtain ⟨⟨⟨ds, gs, before, hw, hc⟩, hx⟩, hz⟩ := hpre
  have hw' := DataW.Whole.of_heap (w' := w.forCall tape i) (by rfl) hw
  refine (contract (w.forCall tape i) w.heap.size i.args ds gs before hval hw' (hz.weights hw) (hX _ _ _ (by rfl) hx) hsh).mono fun e W' ⟨v, he, hp⟩ => ?_
  subst he
  exact ChangeSpec.post_blind hp

set_option maxRecDepth 100000 in
theorem lifted (os : Os) (started : os.Started) (H : Type) (enc : TypeId × Value → H) :
    ReturnsInHanded {} Tryd.checked os 3 .any (fun w args => (Rows.fnRootSpec.pre enc Tryd.prog Tryd.f3 Rows.fnRootRow.domain false w args ∧ laidMetH Tryd.prog Rows.fnRootRow.laid w) ∧ sizedMet enc Tryd.prog Tryd.f3 (OpenSpec.ofChange Rows.fnRootSpec) false w args)
      (Rows.fnRootSpec.post enc Tryd.prog Tryd.f3 false true false false) := by
  refine wrap_and_shaped (C := Tryd.checked) (X := fun w _ => laidMetH Tryd.prog Rows.fnRootRow.laid w) (fun _ _ _ hh h => h.of_heap hh) own started (by kernel_rfl) Tryd.func3
    (ChangeSpec.witness_shaped (enc := enc) (C := Tryd.checked) (os := os) (X := fun w _ => laidMetH Tryd.prog Rows.fnRootRow.laid w) false (World.laidAll Tryd.prog os Rows.fnRootRow.laid) #[.slice none 0 0] 8 (World.laidAll_os _ _ _)
      (World.shaped_of_ZipB (by kernel_rfl) (by kernel_rfl)) (by kernel_rfl) (by kernel_rfl) (by kernel_rfl)
      (by rw [MakeChecks.laidMetH_plain _ _ _ (by kernel_rfl)]; exact laidMet_laidAll _ (by kernel_rfl) (by kernel_rfl))) ?_
  intro W base args ds gs before hval0 hW hsz0 hL hsh
  rw [MakeChecks.laidMetH_plain _ _ _ (by kernel_rfl)] at hL
  have hsz : (DataW.weightsEach Tryd.prog (Tryd.f3.params.toList ++ Rows.fnRootSpec.plain.varTypes Tryd.prog) (ds ++ gs)).all (· ≤ reachBytes) = true := hsz0
  clear hsz0
  have hval : ∀ (j : Nat) t v, Tryd.f3.params[j]? = some t → args[j]? = some v → Value.okWide Tryd.prog W .any base t v := hval0
  have hW' := hW
  obtain ⟨p, q, hA0, hV, rfl, hfz, hnd⟩ := hW
  have hA : DataW.TrodAll enc Tryd.prog W 0 (fun _ => true) true Tryd.f3.params.toList args.toList ds p := hA0
  rw [Tryd.params3] at hA hval hsz
  obtain ⟨v0, vs0, d0, ds0, p0, q0, hargs, rfl, rfl, h0, r0⟩ := trodAll_cons hA
  obtain ⟨rfl, rfl, rfl⟩ := trodAll_nil r0
  obtain rfl : args = #[v0] := by cases args; simp_all
  obtain ⟨rfl, rfl⟩ := trodVars_none hV
  obtain ⟨a0, len0, cap0, rfl⟩ := okWide_slice Tryd.underlying22 (hval 0 22 v0 rfl rfl)
  have k0 := h0
  have lt0 : ∀ x ∈ p0, x.block < W.heap.size := by obtain ⟨m, hm⟩ := k0; exact DataW.trod_lt m _ _ _ hm
  obtain ⟨z0, w0⟩ : ∃ zs, IsRow .u8 W a0 len0 cap0 zs := by
    obtain ⟨fuel, hf⟩ := h0
    rcases open_ints Tryd.underlying22 Tryd.underlying5 (by kernel_rfl) hf with ⟨hcs, _⟩ | ⟨x, l, c, zs, hcs, _, hl, hm, hz, _, hcell, hwz⟩
    · simp [Value.cells] at hcs
      obtain ⟨rfl, rfl, rfl⟩ := hcs
      exact ⟨[], .inl ⟨rfl, rfl, rfl, rfl⟩⟩
    · simp [Value.cells] at hcs
      obtain ⟨rfl, rfl, rfl⟩ := hcs
      exact ⟨zs, .inr ⟨_, rfl, hl, hm, by simpa using hz, hcell, hwz⟩⟩
  clear hA0 hval0
  refine (walk a0 len0 cap0 z0 W w0 hL hsh).mono fun e W' ⟨he, hb⟩ => ?_
  subst he
  exact ⟨_, rfl, _, _, _, [], _, [], hW', trodAll_cons_mk (shut_bool Tryd.underlying4 _) trodAll_mk0, (trodAll_cons_mk (Below.trod laidOut (by kernel_rfl) (of_decide_eq_true (by kernel_rfl)) k0 hb lt0) trodAll_mk0), rfl, hb.frame _, fun h => by cases h⟩

theorem over : Rows.fnRootRow.holds Tryd.pinned (OpenSpec.ofChange Rows.fnRootSpec) :=
  OpenClaim.holds_of_wide 3 Tryd.f3 rfl rfl rfl rfl rfl rfl rfl ⟨rfl, rfl, rfl, rfl, rfl⟩ rfl rfl rfl rfl rfl (by kernel_rfl) Tryd.func3 (by kernel_rfl)
    (of_decide_eq_true (by kernel_rfl)) (by unfold Func.isWrapper; first | (rw [if_pos (by decide +kernel)]; kernel_rfl) | (rw [if_neg (by decide +kernel)]; exact ⟨rfl, rfl⟩))
    (fun os started H enc _ => lifted os started H enc)

theorem proved : Rows.FnRootCardSaid :=
  Claim7.holds_tied_plain_at .later [] [.data, .data, .data, .sentinel, .sentinel] true (true, "44a1b032a7f22b379bb9cae8990e7263bb3328fa5462f0a714d9c339be568134") true over (fun _ h => by cases h) (by kernel_rfl) (fun _ h => by cases h) fnRoot_row_tie rfl ⟨rfl, rfl⟩ (by kernel_rfl) rfl
    (fun f fn hf hfn => by
      obtain rfl : f = 3 := Option.some.inj ((show Tryd.prog.funcNamed "loop.example/g00685/laws.FnRoot" = some 3 by kernel_rfl).symm.trans hf) |>.symm
      obtain rfl : fn = Tryd.f3 := (Option.some.inj (Tryd.func3.symm.trans hfn)).symm
      exact ⟨by kernel_rfl, fun j t ht => by
        rw [Tryd.params3] at ht
        have hm : t ∈ [22] := by simpa using Array.mem_of_getElem? ht
        have hall : ([22].all fun u => !Tryd.prog.wantsStandIn u) = true := by kernel_rfl
        exact (show Tryd.prog.wantsStandIn t = false by simpa using List.all_eq_true.1 hall t hm)⟩)
    (by kernel_rfl)

end Go.Proofs.YtabialologlgpacDoor.fnRoot
