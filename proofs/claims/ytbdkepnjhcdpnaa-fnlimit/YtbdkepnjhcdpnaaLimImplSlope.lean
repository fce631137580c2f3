/- What the program's rule of the slope and its Slope answer, at every limit, time and latency; nothing else turns. -/
import Derived.Deep.DeepCutAuto
import Derived.Test.YtbdkepnjhcdpnaaRows
import Derived.WalkKit
import Derived.WalkSmall
import Derived.BigQuiet
import Derived.Deep.RegionWith
import Derived.Test.YtbdkepnjhcdpnaaPairWalks
import Derived.Test.YtbdkepnjhcdpnaaWinOk
import Derived.Test.YtbdkepnjhcdpnaaTrimWalks
import Derived.Test.YtbdkepnjhcdpnaaPushWalks
import Derived.Test.YtbdkepnjhcdpnaaImplTrim
import Derived.Test.YtbdkepnjhcdpnaaImplPush
import Derived.Test.YtbdkepnjhcdpnaaMeanWalks
import Derived.Test.YtbdkepnjhcdpnaaRootMath
import Derived.Test.YtbdkepnjhcdpnaaRootWalks
import Derived.Test.YtbdkepnjhcdpnaaLimKit
import Derived.Test.YtbdkepnjhcdpnaaLimSpec
import Derived.Test.YtbdkepnjhcdpnaaLimCopy
import Derived.Test.YtbdkepnjhcdpnaaLimBack
import Derived.Test.YtbdkepnjhcdpnaaLimSteps
import Derived.Test.YtbdkepnjhcdpnaaLimImpl
import Derived.Test.YtbdkepnjhcdpnaaLimImplBack
import Derived.Test.YtbdkepnjhcdpnaaLimImplSteps
import Derived.Test.YtbdkepnjhcdpnaaLimMath
import Derived.Test.YtbdkepnjhcdpnaaNearKit
namespace Go.Proofs.Ytbdkepnjhcdpnaa.LimImplSlope
open Go.RowKit PairWalks WinOk PushWalks LimKit LimCopy LimBack LimMath RootMath NearKit
open LimSpec (limOk cfgOk flag)
open LimSteps (isLat)
open LimImplBack (hid_two)
open LimImplSteps (can_learn hid_three past_three size3 below3 three_le)
open MeanWalks (meanOf impl_mean)
set_option maxRecDepth 8000
set_option linter.unusedVariables false
set_option linter.unusedSimpArgs false

theorem impl_rootI (n r : Int) (w : World) (h1 : 1 ≤ n) (h2 : n ≤ 1000) (hr : isRoot n r) : Calls Try.prog 9 #[.int .i64 n] w fun e w' => e = .returned (.int .i64 r) ∧ Below w.heap.size w w' :=
  (RootWalks.impl_root n w (by omega) (by omega)).mono fun e w' ⟨s, he, hs, hw⟩ => ⟨by rw [he, isRoot_unique hs hr], hw⟩

theorem impl_clamp (n lo hi : Int) (w : World) : Calls Try.prog 73 #[.int .i64 n, .int .i64 lo, .int .i64 hi] w fun e w' => e = .returned (.int .i64 (clampI n lo hi)) ∧ w' = w := by
  unfold clampI
  by_cases h1 : n < lo
  · rw [if_pos h1]
    go_enter Try.func73, Try.ntmps73
    go_wp2
    go_ret
    exact ⟨rfl, rfl⟩
  · rw [if_neg h1]
    by_cases h2 : hi < n
    · rw [if_pos h2]
      go_enter Try.func73, Try.ntmps73
      go_wp2
      go_ret
      exact ⟨rfl, rfl⟩
    · rw [if_neg h2]
      go_enter Try.func73, Try.ntmps73
      go_wp2
      go_ret
      exact ⟨rfl, rfl⟩

theorem next_avg (av lat : Int) (w : World) (h2 : 0 ≤ lat) (h3 : lat ≤ 1000000) : Calls Try.prog 69 #[.int .i64 av, .int .i64 lat] w fun e w' => e = .returned (.int .i64 (newAvg av lat)) ∧ w' = w := by
  unfold newAvg
  by_cases h0 : av = 0
  · rw [if_pos h0]
    have z0 : (av == 0) = true := by simpa using h0
    clear h0
    go_enter Try.func69, Try.ntmps69
    go_wp2
    go_ret
    exact ⟨rfl, rfl⟩
  · rw [if_neg h0]
    have z0 : (av == 0) = false := by simpa using h0
    have HM := fun W => impl_mean av lat 8192 W
    obtain ⟨M, hM⟩ : ∃ M, meanOf av lat 8192 = M := ⟨_, rfl⟩
    rw [hM] at HM ⊢
    clear h0 hM
    go_enter Try.func69, Try.ntmps69
    go_wp2_with (go_at_call 80; refine (HM _).mono ?_; rintro e w9 ⟨rfl, hw9⟩; rw [hw9]; clear hw9 w9)
    go_ret
    exact ⟨rfl, rfl⟩

theorem gradient (least av : Int) (w : World) (h0 : -1 ≤ least) (h1 : least ≤ 1000000) (h2 : 0 ≤ av) (h3 : av ≤ 65536000000) : Calls Try.prog 71 #[.int .i64 least, .int .i64 av] w fun e w' => e = .returned (.int .i64 (grad least av)) ∧ Below w.heap.size w w' := by
  unfold grad
  have HG := fun W => impl_shareI (least + 1) 65536 (av / 65536 + 1) W (by omega) (by omega) (by omega) (by omega) (by omega) (by omega)
  obtain ⟨G0, hG0⟩ : ∃ G0, shareI (least + 1) 65536 (av / 65536 + 1) = G0 := ⟨_, rfl⟩
  rw [hG0] at HG ⊢
  have HC := fun W => impl_clamp G0 32768 65536 W
  obtain ⟨G, hG⟩ : ∃ G, clampI G0 32768 65536 = G := ⟨_, rfl⟩
  rw [hG] at HC ⊢
  clear hG0 hG
  go_enter Try.func71, Try.ntmps71
  go_wp2_with (first | (go_at_call 70; refine (HG _).mono ?_; rintro e w1 ⟨rfl, hb1⟩; have B1 : Hid (Below w.heap.size w w1) := hb1; clear hb1) | (go_at_call 73; refine (HC _).mono ?_; rintro e w9 ⟨rfl, hw9⟩; rw [hw9]; clear hw9 w9))
  go_ret
  exact ⟨rfl, B1.out⟩

set_option maxHeartbeats 8000000 in
theorem sample_slope (k mn mx sp sl li gd av ws : Int) (a : Option Addr) (c : Nat) (L : List (Int × Int)) (now lat r : Int) (w : World) (ha : WOk w a L) (hl : (L.length : Int) ≤ 1048577) (hk : limOk k mn mx sp sl li gd av ws L) (ht : isT now) (hs : isLat lat) (hr : isRoot li r) :
    Calls Try.prog 67 #[.agg #[], .agg #[.int .i64 k, .int .i64 mn, .int .i64 mx, .int .i64 sp, .int .i64 sl, .int .i64 li, .int .i64 gd, .int .i64 av, .int .i64 ws, .slice a L.length c], .int .i64 now, .int .i64 lat] w (LAns w k mn mx sp sl (slopeLim li mn mx (grad (ImplTrim.leastOf ws (pushed ws now lat L) now) (newAvg av lat)) r) gd (newAvg av lat) ws (pushed ws now lat L)) := by
  have HA : Hid (WOk w a L) := ha
  have pok : pushOk ws now lat L := ⟨hk.2.2.2.2.2.2.2.1, ht, hs⟩
  have hps : pushSpan ws now lat L = ws := (pushed_good pok).2
  have hpl : (pushed ws now lat L).length ≤ 1048577 := by have := pushed_len ws now lat L; omega
  have l0 : 1 ≤ li := by have h1 := hk.1.2.1; have h2 := hk.2.1; omega
  have l1 : li ≤ 1000 := by have h1 := hk.1.2.2.2.1; have h2 := hk.2.2.1; omega
  have a0 : 0 ≤ av := hk.2.2.2.2.2.1
  have a1 : av ≤ 65536000000 := hk.2.2.2.2.2.2.1
  have t0 : 0 ≤ lat := hs.1
  have t1 : lat ≤ 1000000 := hs.2
  have HV := fun W => next_avg av lat W t0 t1
  obtain ⟨A2, hA2⟩ : ∃ A2, newAvg av lat = A2 := ⟨_, rfl⟩
  have hAb := newAvg_bounds a0 a1 t0 t1
  rw [hA2] at hAb HV ⊢
  have HP := fun W h => ImplPush.impl_push ws now lat a c L W h (by omega)
  rw [hps] at HP
  have HL := fun W {a2 : Option Addr} {c2 : Nat} h => ImplTrim.impl_least ws now a2 c2 (pushed ws now lat L) W h (by omega)
  obtain ⟨P, hP⟩ : ∃ P, pushed ws now lat L = P := ⟨_, rfl⟩
  rw [hP] at HP HL hpl ⊢
  have hE := least_bounds ws P now
  obtain ⟨E, hEE⟩ : ∃ E, ImplTrim.leastOf ws P now = E := ⟨_, rfl⟩
  rw [hEE] at HL hE ⊢
  have HG := fun W => gradient E A2 W hE.1 hE.2 hAb.1 hAb.2
  have gb := grad_bounds E A2
  unfold slopeLim
  obtain ⟨G, hG⟩ : ∃ G, grad E A2 = G := ⟨_, rfl⟩
  rw [hG] at HG gb ⊢
  have HSH := fun W => impl_shareI li G 65536 W (by omega) (by omega) (by omega) (by omega) (by omega) (by omega)
  have sb := shareI_unit li G (by omega) (by omega) (by omega)
  obtain ⟨S, hS⟩ : ∃ S, shareI li G 65536 = S := ⟨_, rfl⟩
  rw [hS] at HSH sb ⊢
  have rb := root_small hr l1
  have HR := fun W => impl_rootI li r W l0 l1 hr
  have HC2 := fun W => impl_clamp ((7 * li + (S + r)) / 8) mn mx W
  obtain ⟨R, hR⟩ : ∃ R, clampI ((7 * li + (S + r)) / 8) mn mx = R := ⟨_, rfl⟩
  rw [hR] at HC2 ⊢
  clear ha hk ht hs hr hps pok hA2 hP hEE hG hS hR t0 t1 a0 a1
  go_enter Try.func67, Try.ntmps67
  go_upto_region 3 with (first | (go_at_call 68; refine (HP _ (HA.out.below (below3 _ _ _ _))).mono ?_; rintro e w2 ⟨a3, c3', rfl, r2, g2, hb2⟩; have hz2 := size3 hb2; have hy2 : w.heap.size + 1 < w2.heap.size := Nat.lt_of_succ_lt hz2; have hx2 : w.heap.size < w2.heap.size := Nat.lt_of_succ_lt hy2; have B2 : Hid (Below w.heap.size w w2) := past_three hb2; have R2 : Hid (WOk w2 a3 P ∧ ∀ b, blk a3 = some b → w.heap.size + 1 + 1 < b) := ⟨r2, fun b h => three_le (g2 b h)⟩; have P2 := hid_three hb2; have c0 := cell_blk P2.out.1 0; have f0 := fz_blk P2.out.1 0; have c1 := cell_blk P2.out.1 1; have f1 := fz_blk P2.out.1 1; have c2 := cell_blk P2.out.1 2; have f2 := fz_blk P2.out.1 2; have c3 := cell_blk P2.out.1 3; have f3 := fz_blk P2.out.1 3; have c4 := cell_blk P2.out.1 4; have f4 := fz_blk P2.out.1 4; have c5 := cell_blk P2.out.1 5; have f5 := fz_blk P2.out.1 5; have c6 := cell_blk P2.out.1 6; have f6 := fz_blk P2.out.1 6; have c7 := cell_blk P2.out.1 7; have f7 := fz_blk P2.out.1 7; have c8 := cell_blk P2.out.1 8; have f8 := fz_blk P2.out.1 8; have c9 := cell_blk P2.out.1 9; have f9 := fz_blk P2.out.1 9; clear hb2 r2 g2) | (go_at_call 69; refine (HV _).mono ?_; rintro e w9 ⟨rfl, hw9⟩; rw [hw9]; clear hw9 w9))
  have M8 : Hid ((((w2.setCell ⟨w.heap.size + 1, 8, none⟩ (.int .i64 ws)).setCell ⟨w.heap.size + 1, 9, none⟩ (.slice a3 P.length c3')).setCell ⟨w.heap.size + 1, 7, none⟩ (.int .i64 A2)).heap[w.heap.size + 1]? = some (.cells #[.int .i64 k, .int .i64 mn, .int .i64 mx, .int .i64 sp, .int .i64 sl, .int .i64 li, .int .i64 gd, .int .i64 A2, .int .i64 ws, .slice a3 P.length c3'] 29 (0, 0)) ∧ (((w2.setCell ⟨w.heap.size + 1, 8, none⟩ (.int .i64 ws)).setCell ⟨w.heap.size + 1, 9, none⟩ (.slice a3 P.length c3')).setCell ⟨w.heap.size + 1, 7, none⟩ (.int .i64 A2)).heap[w.heap.size + 1 + 1]? = some (.cells #[.int .i64 0, .int .i64 0, .int .i64 0, .int .i64 0, .int .i64 0, .int .i64 0, .int .i64 0, .int .i64 0, .int .i64 0, .slice none 0 0] 29 (0, 0)) ∧ Below w.heap.size w (((w2.setCell ⟨w.heap.size + 1, 8, none⟩ (.int .i64 ws)).setCell ⟨w.heap.size + 1, 9, none⟩ (.slice a3 P.length c3')).setCell ⟨w.heap.size + 1, 7, none⟩ (.int .i64 A2)) ∧ WOk (((w2.setCell ⟨w.heap.size + 1, 8, none⟩ (.int .i64 ws)).setCell ⟨w.heap.size + 1, 9, none⟩ (.slice a3 P.length c3')).setCell ⟨w.heap.size + 1, 7, none⟩ (.int .i64 A2)) a3 P ∧ w.heap.size + 1 + 1 < (((w2.setCell ⟨w.heap.size + 1, 8, none⟩ (.int .i64 ws)).setCell ⟨w.heap.size + 1, 9, none⟩ (.slice a3 P.length c3')).setCell ⟨w.heap.size + 1, 7, none⟩ (.int .i64 A2)).heap.size) := by
    refine ⟨heap_setCell_at (heap_setCell_at (heap_setCell_at (P2.out.1) _ _) _ _) _ _, ?_, (((B2.out).setCell (Nat.le_add_right _ 1) _).setCell (Nat.le_add_right _ 1) _).setCell (Nat.le_add_right _ 1) _, (((R2.out.1).setw (fun b h => by show b ≠ w.heap.size + 1; have := R2.out.2 b h; omega) _).setw (fun b h => by show b ≠ w.heap.size + 1; have := R2.out.2 b h; omega) _).setw (fun b h => by show b ≠ w.heap.size + 1; have := R2.out.2 b h; omega) _, by simpa using hz2⟩
    rw [Below.heap_setCell _ _ _ _ (by show w.heap.size + 1 + 1 ≠ w.heap.size + 1; omega), Below.heap_setCell _ _ _ _ (by show w.heap.size + 1 + 1 ≠ w.heap.size + 1; omega), Below.heap_setCell _ _ _ _ (by show w.heap.size + 1 + 1 ≠ w.heap.size + 1; omega)]
    exact P2.out.2
  clear c0 f0 c1 f1 c2 f2 c3 f3 c4 f4 c5 f5 c6 f6 c7 f7 c8 f8 c9 f9 P2 hz2 hy2 hx2
  generalize (((w2.setCell ⟨w.heap.size + 1, 8, none⟩ (.int .i64 ws)).setCell ⟨w.heap.size + 1, 9, none⟩ (.slice a3 P.length c3')).setCell ⟨w.heap.size + 1, 7, none⟩ (.int .i64 A2)) = W8 at *
  have x5 : W8.cell? ⟨w.heap.size + 1, 5, none⟩ = some (.int .i64 li) := cell_blk M8.out.1 5
  have x7 : W8.cell? ⟨w.heap.size + 1, 7, none⟩ = some (.int .i64 A2) := cell_blk M8.out.1 7
  have x8 : W8.cell? ⟨w.heap.size + 1, 8, none⟩ = some (.int .i64 ws) := cell_blk M8.out.1 8
  have x9 : W8.cell? ⟨w.heap.size + 1, 9, none⟩ = some (.slice a3 P.length c3') := cell_blk M8.out.1 9
  have near := Near.is W8
  have X5 := Near.cell x5
  have X7 := Near.cell x7
  have X8 := Near.cell x8
  have X9 := Near.cell x9
  clear x5 x7 x8 x9
  refine wp_region_near (by kernel_rfl) (by kernel_rfl) ?_
  repeat (go_big_quiet_step ((first | (go_at_call 72; exact near_call (HL _ (M8.out.2.2.2.1.below (Near.near _)))) | (go_at_call 71; exact near_call (HG _)) | (go_at_call 70; exact near_call (HSH _)) | (go_at_call 9; exact near_call (HR _)))))
  refine wpQuiet_nil ?_
  intro wx hwx
  obtain ⟨y, hy⟩ := hwx
  subst hy
  have MD : Hid (y.w.heap[w.heap.size + 1]? = some (.cells #[.int .i64 k, .int .i64 mn, .int .i64 mx, .int .i64 sp, .int .i64 sl, .int .i64 li, .int .i64 gd, .int .i64 A2, .int .i64 ws, .slice a3 P.length c3'] 29 (0, 0)) ∧ y.w.heap[w.heap.size + 1 + 1]? = some (.cells #[.int .i64 0, .int .i64 0, .int .i64 0, .int .i64 0, .int .i64 0, .int .i64 0, .int .i64 0, .int .i64 0, .int .i64 0, .slice none 0 0] 29 (0, 0)) ∧ Below w.heap.size w y.w ∧ WOk y.w a3 P ∧ w.heap.size + 1 + 1 < y.w.heap.size) := by
    obtain ⟨m1, m2, m3, m4, m5⟩ := M8.out
    exact ⟨(y.near.block _ (by omega)).trans m1, (y.near.block _ (by omega)).trans m2, m3.trans (y.near.mono (by omega)), m4.below y.near, Nat.lt_of_lt_of_le m5 y.near.size⟩
  obtain ⟨wd, hwd⟩ : ∃ wd, y.w = wd := ⟨_, rfl⟩
  rw [hwd] at MD ⊢
  clear hwd y near X5 X7 X8 X9 M8
  have x0 : wd.cell? ⟨w.heap.size + 1, 0, none⟩ = some (.int .i64 k) := cell_blk MD.out.1 0
  have y0 := fz_blk MD.out.1 0
  have x1 : wd.cell? ⟨w.heap.size + 1, 1, none⟩ = some (.int .i64 mn) := cell_blk MD.out.1 1
  have y1 := fz_blk MD.out.1 1
  have x2 : wd.cell? ⟨w.heap.size + 1, 2, none⟩ = some (.int .i64 mx) := cell_blk MD.out.1 2
  have y2 := fz_blk MD.out.1 2
  have x3 : wd.cell? ⟨w.heap.size + 1, 3, none⟩ = some (.int .i64 sp) := cell_blk MD.out.1 3
  have y3 := fz_blk MD.out.1 3
  have x4 : wd.cell? ⟨w.heap.size + 1, 4, none⟩ = some (.int .i64 sl) := cell_blk MD.out.1 4
  have y4 := fz_blk MD.out.1 4
  have x5 : wd.cell? ⟨w.heap.size + 1, 5, none⟩ = some (.int .i64 li) := cell_blk MD.out.1 5
  have y5 := fz_blk MD.out.1 5
  have x6 : wd.cell? ⟨w.heap.size + 1, 6, none⟩ = some (.int .i64 gd) := cell_blk MD.out.1 6
  have y6 := fz_blk MD.out.1 6
  have x7 : wd.cell? ⟨w.heap.size + 1, 7, none⟩ = some (.int .i64 A2) := cell_blk MD.out.1 7
  have y7 := fz_blk MD.out.1 7
  have x8 : wd.cell? ⟨w.heap.size + 1, 8, none⟩ = some (.int .i64 ws) := cell_blk MD.out.1 8
  have y8 := fz_blk MD.out.1 8
  have x9 : wd.cell? ⟨w.heap.size + 1, 9, none⟩ = some (.slice a3 P.length c3') := cell_blk MD.out.1 9
  have y9 := fz_blk MD.out.1 9
  have d0 := cell_blk MD.out.2.1 0
  have e0 := fz_blk MD.out.2.1 0
  have d1 := cell_blk MD.out.2.1 1
  have e1 := fz_blk MD.out.2.1 1
  have d2 := cell_blk MD.out.2.1 2
  have e2 := fz_blk MD.out.2.1 2
  have d3 := cell_blk MD.out.2.1 3
  have e3 := fz_blk MD.out.2.1 3
  have d4 := cell_blk MD.out.2.1 4
  have e4 := fz_blk MD.out.2.1 4
  have d5 := cell_blk MD.out.2.1 5
  have e5 := fz_blk MD.out.2.1 5
  have d6 := cell_blk MD.out.2.1 6
  have e6 := fz_blk MD.out.2.1 6
  have d7 := cell_blk MD.out.2.1 7
  have e7 := fz_blk MD.out.2.1 7
  have d8 := cell_blk MD.out.2.1 8
  have e8 := fz_blk MD.out.2.1 8
  have d9 := cell_blk MD.out.2.1 9
  have e9 := fz_blk MD.out.2.1 9
  have hn2 : w.heap.size + 1 + 1 < wd.heap.size := MD.out.2.2.2.2
  have hn1 : w.heap.size + 1 < wd.heap.size := by omega
  go_wp2_with (go_at_call 73; refine (HC2 _).mono ?_; rintro e w9 ⟨rfl, hw9⟩; rw [hw9]; clear hw9 w9)
  refine bodyPost_ret (v := .agg #[.int .i64 k, .int .i64 mn, .int .i64 mx, .int .i64 sp, .int .i64 sl, .int .i64 R, .int .i64 gd, .int .i64 A2, .int .i64 ws, .slice a3 P.length c3']) (by simp [results, Try.results67, go_sem, d0, d1, d2, d3, d4, d5, d6, d7, d8, d9]) rfl ⟨a3, c3', rfl, ?_, fun b h => by have := R2.out.2 b h; omega, ?_⟩
  · exact (((((((((((MD.out.2.2.2.1).setw (fun b h => by show b ≠ w.heap.size + 1; have := R2.out.2 b h; omega) _).setw (fun b h => by show b ≠ w.heap.size + 1 + 1; have := R2.out.2 b h; omega) _).setw (fun b h => by show b ≠ w.heap.size + 1 + 1; have := R2.out.2 b h; omega) _).setw (fun b h => by show b ≠ w.heap.size + 1 + 1; have := R2.out.2 b h; omega) _).setw (fun b h => by show b ≠ w.heap.size + 1 + 1; have := R2.out.2 b h; omega) _).setw (fun b h => by show b ≠ w.heap.size + 1 + 1; have := R2.out.2 b h; omega) _).setw (fun b h => by show b ≠ w.heap.size + 1 + 1; have := R2.out.2 b h; omega) _).setw (fun b h => by show b ≠ w.heap.size + 1 + 1; have := R2.out.2 b h; omega) _).setw (fun b h => by show b ≠ w.heap.size + 1 + 1; have := R2.out.2 b h; omega) _).setw (fun b h => by show b ≠ w.heap.size + 1 + 1; have := R2.out.2 b h; omega) _).setw (fun b h => by show b ≠ w.heap.size + 1 + 1; have := R2.out.2 b h; omega) _
  · exact (((((((((((MD.out.2.2.1).setCell (Nat.le_add_right _ 1) _).setCell (Nat.le_add_right _ 2) _).setCell (Nat.le_add_right _ 2) _).setCell (Nat.le_add_right _ 2) _).setCell (Nat.le_add_right _ 2) _).setCell (Nat.le_add_right _ 2) _).setCell (Nat.le_add_right _ 2) _).setCell (Nat.le_add_right _ 2) _).setCell (Nat.le_add_right _ 2) _).setCell (Nat.le_add_right _ 2) _).setCell (Nat.le_add_right _ 2) _

end Go.Proofs.Ytbdkepnjhcdpnaa.LimImplSlope
