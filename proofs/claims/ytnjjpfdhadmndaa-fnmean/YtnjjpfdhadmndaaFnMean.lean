/- At every list of bytes: a mean moves towards a sample, and not beyond it (the law FnMean returns true), and the list is left as it was; no condition. -/
import Derived.Test.YtnjjpfdhadmndaaRows
import Derived.WalkKit
import Derived.WalkSmall
import Derived.BigQuiet
import Derived.ProofKit
import Derived.OpenShut
import Derived.ChangeSlices
import Derived.Deep.RegionWith
import Derived.Test.YtnjjpfdhadmndaaDrawWalks
import Derived.Test.YtnjjpfdhadmndaaCodeArg
import Derived.Test.YtnjjpfdhadmndaaMeanWalks
namespace Go.Proofs.Ytnjjpfdhadmndaa.fnMean
open Go.ChangeShapes Go.WideShapes Go.ChangeAt Go.RowKit DrawWalks CodeArg MeanWalks
set_option linter.unusedVariables false

theorem up {d p : Int} (hd : 0 ≤ d) (hp : 0 ≤ p) (hq : p ≤ 65536) : 0 ≤ (d * p).tdiv 65536 ∧ (d * p).tdiv 65536 ≤ d := by
  have h1 : 0 ≤ d * p := Int.mul_nonneg hd hp
  have h2 : d * p ≤ d * 65536 := Int.mul_le_mul_of_nonneg_left hq hd
  rw [Int.tdiv_eq_ediv_of_nonneg h1]
  omega

theorem down {d p : Int} (hd : d ≤ 0) (hp : 0 ≤ p) (hq : p ≤ 65536) : d ≤ (d * p).tdiv 65536 ∧ (d * p).tdiv 65536 ≤ 0 := by
  have h := up (d := -d) (p := p) (by omega) hp hq
  rw [Int.neg_mul, Int.neg_tdiv] at h
  omega

theorem moved_none (a lat : Int) : moved a lat 0 = a := by simp [moved]
theorem moved_all (a lat : Int) : moved a lat 65536 = lat * 65536 := by
  unfold moved
  rw [Int.mul_tdiv_cancel _ (by decide)]
  omega

set_option maxHeartbeats 1000000 in
theorem walk_in (a : Option Addr) (len cap : Nat) (w : World) (hlen : (len : Int) ≤ 1048576) (hok : CodeOk w w.heap.size a len) :
    Calls Try.prog 4 #[.slice a len cap] w fun e w' => e = .returned (.bool true) ∧ Below w.heap.size w w' := by
  have HO : Hid (CodeOk w w.heap.size a len) := hok
  clear hok
  go_enter Try.func4, Try.ntmps4
  go_wp2_with fail
  refine (make_num len 60000 a cap _ hlen (by omega) (by omega) HO.out).mono ?_
  rintro e w1 ⟨y1, rfl, y1a, y1b, b1⟩
  have B1 : Hid (Below w.heap.size w w1) := b1
  clear b1
  go_wp2_with fail
  refine (make_num len 900 a cap _ hlen (by omega) (by omega) (code_below HO.out B1.out)).mono ?_
  rintro e w2 ⟨y2, rfl, y2a, y2b, b2⟩
  have B2 : Hid (Below w.heap.size w w2) := B1.out.trans (b2.mono B1.out.size)
  clear b2
  go_wp2_with fail
  refine (make_num len 65537 a cap _ hlen (by omega) (by omega) (code_below HO.out B2.out)).mono ?_
  rintro e w3 ⟨y3, rfl, y3a, y3b, b3⟩
  have B3 : Hid (Below w.heap.size w w3) := B2.out.trans (b3.mono B2.out.size)
  clear b3
  have M1 := impl_mean (y1 * 900) y2 y3 w3
  have M2 := impl_mean (y1 * 900) y2 0 w3
  have M3 := impl_mean (y1 * 900) y2 65536 w3
  rw [show meanOf (y1 * 900) y2 y3 = moved (y1 * 900) y2 y3 from if_pos ⟨by omega, by omega, by omega, by omega, by omega, by omega⟩] at M1
  rw [show meanOf (y1 * 900) y2 0 = y1 * 900 from (if_pos ⟨by omega, by omega, by omega, by omega, by omega, by omega⟩).trans (moved_none _ _)] at M2
  rw [show meanOf (y1 * 900) y2 65536 = y2 * 65536 from (if_pos ⟨by omega, by omega, by omega, by omega, by omega, by omega⟩).trans (moved_all _ _)] at M3
  obtain ⟨m, hm⟩ : ∃ m, moved (y1 * 900) y2 y3 = m := ⟨_, rfl⟩
  rw [hm] at M1
  by_cases hd : y1 * 900 ≤ y2 * 65536
  · have hu := up (d := y2 * 65536 - y1 * 900) (p := y3) (by omega) (by omega) (by omega)
    have m1 : y1 * 900 ≤ m := by rw [← hm]; unfold moved; omega
    have m2 : m ≤ y2 * 65536 := by rw [← hm]; unfold moved; omega
    have d1 : ¬ y2 * 65536 < y1 * 900 := by omega
    clear hu hm
    go_wp2_with (first | (go_at_call_of 12 (Value.int IntKind.i64 y3); refine M1.mono ?_; rintro e w9 ⟨rfl, hw9⟩; rw [hw9]; clear hw9 w9) | (go_at_call_of 12 (Value.int IntKind.i64 65536); refine M3.mono ?_; rintro e w9 ⟨rfl, hw9⟩; rw [hw9]; clear hw9 w9) | (go_at_call 12; refine M2.mono ?_; rintro e w9 ⟨rfl, hw9⟩; rw [hw9]; clear hw9 w9))
    go_ret
    exact ⟨rfl, B3.out⟩
  · have hu := down (d := y2 * 65536 - y1 * 900) (p := y3) (by omega) (by omega) (by omega)
    have m1 : y2 * 65536 ≤ m := by rw [← hm]; unfold moved; omega
    have m2 : m ≤ y1 * 900 := by rw [← hm]; unfold moved; omega
    have d1 : y2 * 65536 < y1 * 900 := by omega
    clear hu hm
    go_wp2_with (first | (go_at_call_of 12 (Value.int IntKind.i64 y3); refine M1.mono ?_; rintro e w9 ⟨rfl, hw9⟩; rw [hw9]; clear hw9 w9) | (go_at_call_of 12 (Value.int IntKind.i64 65536); refine M3.mono ?_; rintro e w9 ⟨rfl, hw9⟩; rw [hw9]; clear hw9 w9) | (go_at_call 12; refine M2.mono ?_; rintro e w9 ⟨rfl, hw9⟩; rw [hw9]; clear hw9 w9))
    go_ret
    exact ⟨rfl, B3.out⟩

theorem walk (w : World) (a : Option Addr) (len cap : Nat) (zs : List Int) (hrow : IsRow .u8 w a len cap zs) :
    Calls Try.prog 4 #[.slice a len cap] w fun e w' => e = .returned (.bool true) ∧ Below w.heap.size w w' := by
  have hcap := row_len hrow
  have hok := code_of hrow
  by_cases hbig : 1048576 < (len : Int)
  · clear hrow hok
    go_enter Try.func4, Try.ntmps4
    go_wp2
    go_ret
    exact ⟨rfl, Below.refl _ _⟩
  · exact walk_in a len cap w (by omega) hok

theorem own : ownKnob Try.prog.godebug = none := by kernel_rfl
theorem laidOut : laidOutB Try.prog = true := by kernel_rfl

set_option maxRecDepth 100000 in
theorem lifted (os : Os) (started : os.Started) (H : Type) (enc : TypeId × Value → H) :
    ReturnsInHanded {} Try.checked os 4 .any (Rows.fnMeanSpec.pre6 enc Try.prog Try.f4 Rows.fnMeanRow.domain false) (Rows.fnMeanSpec.post enc Try.prog Try.f4 false true false false) := by
  refine returnsInHanded_of_change (C := Try.checked) own started (by kernel_rfl) Try.func4
    (ChangeSpec.witness6 (enc := enc) (C := Try.checked) false ⟨#[], #[.slice none 0 0], []⟩ 8 (by kernel_rfl) (by kernel_rfl) (by kernel_rfl) (by kernel_rfl)) ?_
  intro W base args ds gs before hval0 hW hcnd _
  have hval : ∀ (j : Nat) t v, Try.f4.params[j]? = some t → args[j]? = some v → Value.okWide Try.prog W .any base t v := hval0
  have hW' := hW
  obtain ⟨p, q, hA0, hV, rfl, hfz, hnd⟩ := hW
  have hA : DataW.TrodAll enc Try.prog W 0 (fun _ => true) true Try.f4.params.toList args.toList ds p := hA0
  rw [Try.params4] at hA hval
  obtain ⟨v0, vs0, d0, ds0, p0, q0, hargs, rfl, rfl, h0, r0⟩ := trodAll_cons hA
  obtain ⟨rfl, rfl, rfl⟩ := trodAll_nil r0
  obtain rfl : args = #[v0] := by cases args; simp_all
  obtain ⟨rfl, rfl⟩ := trodVars_none hV
  obtain ⟨a0, len0, cap0, rfl⟩ := okWide_slice Try.underlying22 (hval 0 22 v0 rfl rfl)
  have k0 := h0
  have lt0 : ∀ x ∈ p0, x.block < W.heap.size := by obtain ⟨m, hm⟩ := k0; exact DataW.trod_lt m _ _ _ hm
  obtain ⟨z0, w0⟩ : ∃ zs, IsRow .u8 W a0 len0 cap0 zs := by
    obtain ⟨fuel, hf⟩ := h0
    rcases open_ints Try.underlying22 Try.underlying5 (by kernel_rfl) hf with ⟨hcs, _⟩ | ⟨x, l, c, zs, hcs, _, hl, hm, hz, _, hcell, hwz⟩
    · simp [Value.cells] at hcs
      obtain ⟨rfl, rfl, rfl⟩ := hcs
      exact ⟨[], .inl ⟨rfl, rfl, rfl, rfl⟩⟩
    · simp [Value.cells] at hcs
      obtain ⟨rfl, rfl, rfl⟩ := hcs
      exact ⟨zs, .inr ⟨_, rfl, hl, hm, by simpa using hz, hcell, hwz⟩⟩
  clear hA0 hval0
  refine (walk W a0 len0 cap0 z0 w0).mono fun e W' ⟨he, hb⟩ => ?_
  subst he
  exact ⟨_, rfl, _, _, _, [], _, [], hW', trodAll_cons_mk (shut_bool Try.underlying4 _) trodAll_mk0, (trodAll_cons_mk (Below.trod laidOut (by kernel_rfl) (of_decide_eq_true (by kernel_rfl)) k0 hb lt0) trodAll_mk0), rfl, hb.frame _, fun h => by cases h⟩

theorem over : Rows.fnMeanRow.holds Try.pinned (OpenSpec.ofChange Rows.fnMeanSpec) :=
  OpenClaim.holds_of_wide 4 Try.f4 rfl rfl rfl rfl rfl rfl rfl ⟨rfl, rfl, rfl, rfl, rfl⟩ rfl rfl rfl rfl rfl (by kernel_rfl) Try.func4 (by kernel_rfl)
    (of_decide_eq_true (by kernel_rfl)) (by unfold Func.isWrapper; first | (rw [if_pos (by decide +kernel)]; kernel_rfl) | (rw [if_neg (by decide +kernel)]; exact ⟨rfl, rfl⟩))
    (fun os started H enc _ => lifted os started H enc)

theorem proved : Rows.FnMeanSaid :=
  over
end Go.Proofs.Ytnjjpfdhadmndaa.fnMean
