/- What the model's Slope answers, at every limit, time and latency; nothing else turns. -/
import Derived.Deep.DeepCutAuto
import Derived.Deep.DrawnRows
import Derived.Test.YtbdkepnjhcdpnaaRows
import Derived.WalkKit
import Derived.WalkSmall
import Derived.BigQuiet
import Derived.Deep.RegionWith
import Derived.Test.YtbdkepnjhcdpnaaPairWalks
import Derived.Test.YtbdkepnjhcdpnaaWinOk
import Derived.Test.YtbdkepnjhcdpnaaTrimWalks
import Derived.Test.YtbdkepnjhcdpnaaPushWalks
import Derived.Test.YtbdkepnjhcdpnaaLeastWalks
import Derived.Test.YtbdkepnjhcdpnaaMeanWalks
import Derived.Test.YtbdkepnjhcdpnaaRootMath
import Derived.Test.YtbdkepnjhcdpnaaRootWalks
import Derived.Test.YtbdkepnjhcdpnaaLimKit
import Derived.Test.YtbdkepnjhcdpnaaLimSpec
import Derived.Test.YtbdkepnjhcdpnaaLimCopy
import Derived.Test.YtbdkepnjhcdpnaaLimBack
import Derived.Test.YtbdkepnjhcdpnaaLimSteps
import Derived.Test.YtbdkepnjhcdpnaaLimImplBack
import Derived.Test.YtbdkepnjhcdpnaaLimMath
import Derived.Test.YtbdkepnjhcdpnaaNearKit
namespace Go.Proofs.Ytbdkepnjhcdpnaa.LimSlope
open Go.RowKit PairWalks WinOk PushWalks LimKit LimCopy LimBack LimMath RootMath
open LimSpec (limOk cfgOk flag size1 past_box spec_limok)
open LimSteps (isLat)
open LimImplBack (hid_two)
open MeanWalks (meanOf spec_mean)
open NearKit
set_option maxRecDepth 8000
set_option linter.unusedVariables false
set_option linter.unusedSimpArgs false

attribute [local go_sem ↓] Go.wp_at_zero Go.wp_at_succ

theorem spec_timeB (n : Int) (w : World) (B : Bool) (hB : Hid (B = true ↔ isT n)) : Calls Try.prog 33 #[.int .i64 n] w fun e w' => e = .returned (.bool B) ∧ w' = w := by
  by_cases h : 0 ≤ n ∧ n ≤ 1000000000
  · obtain rfl : B = true := hB.out.2 h
    exact TrimWalks.spec_time n w (by omega) (by omega)
  · have : B = false := by
      cases B with
      | false => rfl
      | true => exact absurd (hB.out.1 rfl) h
    subst this
    exact LeastWalks.spec_time_no n w (by omega)
theorem spec_latB (n : Int) (w : World) (B : Bool) (hB : Hid (B = true ↔ isLat n)) : Calls Try.prog 34 #[.int .i64 n] w fun e w' => e = .returned (.bool B) ∧ w' = w := by
  by_cases h : 0 ≤ n ∧ n ≤ 1000000
  · obtain rfl : B = true := hB.out.2 h
    exact MeanWalks.slat_yes n w (by omega) (by omega)
  · have : B = false := by
      cases B with
      | false => rfl
      | true => exact absurd (hB.out.1 rfl) h
    subst this
    exact MeanWalks.slat_no n w (by omega)
theorem spec_rootI (n r : Int) (w : World) (h1 : 1 ≤ n) (h2 : n ≤ 1000) (hr : isRoot n r) : Calls Try.prog 48 #[.int .i64 n] w fun e w' => e = .returned (.int .i64 r) ∧ w' = w :=
  (RootWalks.spec_root n w (by omega) (by omega)).mono fun e w' ⟨s, he, hs, hw⟩ => ⟨by rw [he, isRoot_unique hs hr], hw⟩

set_option maxHeartbeats 2000000 in
theorem slope_no (k mn mx sp sl li gd av ws : Int) (a : Option Addr) (c : Nat) (L : List (Int × Int)) (now lat : Int) (w : World) (ha : WOk w a L) (hl : (L.length : Int) ≤ 1048577) (hn : ¬ (limOk k mn mx sp sl li gd av ws L ∧ isT now ∧ isLat lat)) :
    Calls Try.prog 37 #[.agg #[.int .i64 k, .int .i64 mn, .int .i64 mx, .int .i64 sp, .int .i64 sl, .int .i64 li, .int .i64 gd, .int .i64 av, .int .i64 ws, .slice a L.length c], .int .i64 now, .int .i64 lat] w (LAns w 0 0 0 0 0 0 0 0 0 []) := by
  have HA : Hid (WOk w a L) := ha
  obtain ⟨O, HO1⟩ := flag (limOk k mn mx sp sl li gd av ws L)
  obtain ⟨T, HT1⟩ := flag (isT now)
  obtain ⟨S, HS1⟩ := flag (isLat lat)
  have HO := fun W h => spec_limok k mn mx sp sl li gd av ws a c L O W h hl HO1
  have HT := fun W => spec_timeB now W T HT1
  have HS := fun W => spec_latB lat W S HS1
  have HN : Hid (¬ (limOk k mn mx sp sl li gd av ws L ∧ isT now ∧ isLat lat)) := hn
  clear ha hn
  cases O with
  | false =>
    go_enter Try.func37, Try.ntmps37
    go_wp2_with (first | (go_at_call 32; refine (HO _ (HA.out.below (((Below.refl _ _).alloc (Nat.le_refl _) _).alloc (by simp) _))).mono ?_; rintro e w1 ⟨rfl, hb1⟩; have hy1 := bsize hb1; have hx1 : w.heap.size < w1.heap.size := Nat.lt_of_succ_lt hy1; have B1 : Hid (Below w.heap.size w w1) := past_two hb1; have P1 := hid_two hb1; have c0 := cell_blk P1.out.1 0; have c1 := cell_blk P1.out.1 1; have c2 := cell_blk P1.out.1 2; have c3 := cell_blk P1.out.1 3; have c4 := cell_blk P1.out.1 4; have c5 := cell_blk P1.out.1 5; have c6 := cell_blk P1.out.1 6; have c7 := cell_blk P1.out.1 7; have c8 := cell_blk P1.out.1 8; have c9 := cell_blk P1.out.1 9; have d0 := cell_blk P1.out.2 0; have e0 := fz_blk P1.out.2 0; have d1 := cell_blk P1.out.2 1; have e1 := fz_blk P1.out.2 1; have d2 := cell_blk P1.out.2 2; have e2 := fz_blk P1.out.2 2; have d3 := cell_blk P1.out.2 3; have e3 := fz_blk P1.out.2 3; have d4 := cell_blk P1.out.2 4; have e4 := fz_blk P1.out.2 4; have d5 := cell_blk P1.out.2 5; have e5 := fz_blk P1.out.2 5; have d6 := cell_blk P1.out.2 6; have e6 := fz_blk P1.out.2 6; have d7 := cell_blk P1.out.2 7; have e7 := fz_blk P1.out.2 7; have d8 := cell_blk P1.out.2 8; have e8 := fz_blk P1.out.2 8; have d9 := cell_blk P1.out.2 9; have e9 := fz_blk P1.out.2 9; clear hb1) | (go_at_call 33; refine (HT _).mono ?_; rintro e w9 ⟨rfl, hw9⟩; rw [hw9]; clear hw9 w9) | (go_at_call 34; refine (HS _).mono ?_; rintro e w9 ⟨rfl, hw9⟩; rw [hw9]; clear hw9 w9))
    refine bodyPost_ret (v := .agg #[.int .i64 0, .int .i64 0, .int .i64 0, .int .i64 0, .int .i64 0, .int .i64 0, .int .i64 0, .int .i64 0, .int .i64 0, .slice none 0 0]) (by simp [results, Try.results37, go_sem, d0, d1, d2, d3, d4, d5, d6, d7, d8, d9]) rfl ⟨none, 0, rfl, Or.inl rfl, fun b h => by simp [blk] at h, ?_⟩
    exact ((((((((((B1.out).setCell (Nat.le_add_right _ 1) _).setCell (Nat.le_add_right _ 1) _).setCell (Nat.le_add_right _ 1) _).setCell (Nat.le_add_right _ 1) _).setCell (Nat.le_add_right _ 1) _).setCell (Nat.le_add_right _ 1) _).setCell (Nat.le_add_right _ 1) _).setCell (Nat.le_add_right _ 1) _).setCell (Nat.le_add_right _ 1) _).setCell (Nat.le_add_right _ 1) _
  | true =>
    cases T with
    | false =>
      go_enter Try.func37, Try.ntmps37
      go_wp2_with (first | (go_at_call 32; refine (HO _ (HA.out.below (((Below.refl _ _).alloc (Nat.le_refl _) _).alloc (by simp) _))).mono ?_; rintro e w1 ⟨rfl, hb1⟩; have hy1 := bsize hb1; have hx1 : w.heap.size < w1.heap.size := Nat.lt_of_succ_lt hy1; have B1 : Hid (Below w.heap.size w w1) := past_two hb1; have P1 := hid_two hb1; have c0 := cell_blk P1.out.1 0; have c1 := cell_blk P1.out.1 1; have c2 := cell_blk P1.out.1 2; have c3 := cell_blk P1.out.1 3; have c4 := cell_blk P1.out.1 4; have c5 := cell_blk P1.out.1 5; have c6 := cell_blk P1.out.1 6; have c7 := cell_blk P1.out.1 7; have c8 := cell_blk P1.out.1 8; have c9 := cell_blk P1.out.1 9; have d0 := cell_blk P1.out.2 0; have e0 := fz_blk P1.out.2 0; have d1 := cell_blk P1.out.2 1; have e1 := fz_blk P1.out.2 1; have d2 := cell_blk P1.out.2 2; have e2 := fz_blk P1.out.2 2; have d3 := cell_blk P1.out.2 3; have e3 := fz_blk P1.out.2 3; have d4 := cell_blk P1.out.2 4; have e4 := fz_blk P1.out.2 4; have d5 := cell_blk P1.out.2 5; have e5 := fz_blk P1.out.2 5; have d6 := cell_blk P1.out.2 6; have e6 := fz_blk P1.out.2 6; have d7 := cell_blk P1.out.2 7; have e7 := fz_blk P1.out.2 7; have d8 := cell_blk P1.out.2 8; have e8 := fz_blk P1.out.2 8; have d9 := cell_blk P1.out.2 9; have e9 := fz_blk P1.out.2 9; clear hb1) | (go_at_call 33; refine (HT _).mono ?_; rintro e w9 ⟨rfl, hw9⟩; rw [hw9]; clear hw9 w9) | (go_at_call 34; refine (HS _).mono ?_; rintro e w9 ⟨rfl, hw9⟩; rw [hw9]; clear hw9 w9))
      refine bodyPost_ret (v := .agg #[.int .i64 0, .int .i64 0, .int .i64 0, .int .i64 0, .int .i64 0, .int .i64 0, .int .i64 0, .int .i64 0, .int .i64 0, .slice none 0 0]) (by simp [results, Try.results37, go_sem, d0, d1, d2, d3, d4, d5, d6, d7, d8, d9]) rfl ⟨none, 0, rfl, Or.inl rfl, fun b h => by simp [blk] at h, ?_⟩
      exact ((((((((((B1.out).setCell (Nat.le_add_right _ 1) _).setCell (Nat.le_add_right _ 1) _).setCell (Nat.le_add_right _ 1) _).setCell (Nat.le_add_right _ 1) _).setCell (Nat.le_add_right _ 1) _).setCell (Nat.le_add_right _ 1) _).setCell (Nat.le_add_right _ 1) _).setCell (Nat.le_add_right _ 1) _).setCell (Nat.le_add_right _ 1) _).setCell (Nat.le_add_right _ 1) _
    | true =>
      cases S with
      | false =>
        go_enter Try.func37, Try.ntmps37
        go_wp2_with (first | (go_at_call 32; refine (HO _ (HA.out.below (((Below.refl _ _).alloc (Nat.le_refl _) _).alloc (by simp) _))).mono ?_; rintro e w1 ⟨rfl, hb1⟩; have hy1 := bsize hb1; have hx1 : w.heap.size < w1.heap.size := Nat.lt_of_succ_lt hy1; have B1 : Hid (Below w.heap.size w w1) := past_two hb1; have P1 := hid_two hb1; have c0 := cell_blk P1.out.1 0; have c1 := cell_blk P1.out.1 1; have c2 := cell_blk P1.out.1 2; have c3 := cell_blk P1.out.1 3; have c4 := cell_blk P1.out.1 4; have c5 := cell_blk P1.out.1 5; have c6 := cell_blk P1.out.1 6; have c7 := cell_blk P1.out.1 7; have c8 := cell_blk P1.out.1 8; have c9 := cell_blk P1.out.1 9; have d0 := cell_blk P1.out.2 0; have e0 := fz_blk P1.out.2 0; have d1 := cell_blk P1.out.2 1; have e1 := fz_blk P1.out.2 1; have d2 := cell_blk P1.out.2 2; have e2 := fz_blk P1.out.2 2; have d3 := cell_blk P1.out.2 3; have e3 := fz_blk P1.out.2 3; have d4 := cell_blk P1.out.2 4; have e4 := fz_blk P1.out.2 4; have d5 := cell_blk P1.out.2 5; have e5 := fz_blk P1.out.2 5; have d6 := cell_blk P1.out.2 6; have e6 := fz_blk P1.out.2 6; have d7 := cell_blk P1.out.2 7; have e7 := fz_blk P1.out.2 7; have d8 := cell_blk P1.out.2 8; have e8 := fz_blk P1.out.2 8; have d9 := cell_blk P1.out.2 9; have e9 := fz_blk P1.out.2 9; clear hb1) | (go_at_call 33; refine (HT _).mono ?_; rintro e w9 ⟨rfl, hw9⟩; rw [hw9]; clear hw9 w9) | (go_at_call 34; refine (HS _).mono ?_; rintro e w9 ⟨rfl, hw9⟩; rw [hw9]; clear hw9 w9))
        refine bodyPost_ret (v := .agg #[.int .i64 0, .int .i64 0, .int .i64 0, .int .i64 0, .int .i64 0, .int .i64 0, .int .i64 0, .int .i64 0, .int .i64 0, .slice none 0 0]) (by simp [results, Try.results37, go_sem, d0, d1, d2, d3, d4, d5, d6, d7, d8, d9]) rfl ⟨none, 0, rfl, Or.inl rfl, fun b h => by simp [blk] at h, ?_⟩
        exact ((((((((((B1.out).setCell (Nat.le_add_right _ 1) _).setCell (Nat.le_add_right _ 1) _).setCell (Nat.le_add_right _ 1) _).setCell (Nat.le_add_right _ 1) _).setCell (Nat.le_add_right _ 1) _).setCell (Nat.le_add_right _ 1) _).setCell (Nat.le_add_right _ 1) _).setCell (Nat.le_add_right _ 1) _).setCell (Nat.le_add_right _ 1) _).setCell (Nat.le_add_right _ 1) _
      | true => exact absurd ⟨HO1.out.1 rfl, HT1.out.1 rfl, HS1.out.1 rfl⟩ HN.out

/-- What stands at a world in the midst: the box of the limit, the answer's box, the copy's box at n, and nothing else has turned. -/
def Mid (w W : World) (n : Nat) (A B C : Obj) : Prop := W.heap[w.heap.size]? = some A ∧ W.heap[w.heap.size + 1]? = some B ∧ W.heap[n]? = some C ∧ Below w.heap.size w W ∧ w.heap.size + 1 < n ∧ n < W.heap.size

theorem hid_copy {w w1 w2 : World} {A B o : Obj} (hB : Below w.heap.size w w1) (hP : w1.heap[w.heap.size]? = some A ∧ w1.heap[w.heap.size + 1]? = some B) (hb : Below w1.heap.size w1 w2) (hy : w.heap.size + 1 < w1.heap.size) : Hid (Mid w (w2.alloc o) w2.heap.size A B o) := by
  have hs := hb.size
  have b2 : Below w.heap.size w w2 := hB.trans (hb.mono (by omega))
  refine ⟨?_, ?_, heap_alloc_new _ _, b2.alloc b2.size _, by omega, by simp⟩
  · rw [Below.heap_alloc _ _ _ (by omega), hb.block _ (by omega)]; exact hP.1
  · rw [Below.heap_alloc _ _ _ (by omega), hb.block _ (by omega)]; exact hP.2

theorem Mid.next {w W W' : World} {n : Nat} {A B C : Obj} (h : Mid w W n A B C) (hb : Below W.heap.size W W') : Mid w W' n A B C := by
  obtain ⟨h1, h2, h3, h4, h5, h6⟩ := h
  have hs := hb.size
  exact ⟨(hb.block _ (by omega)).trans h1, (hb.block _ (by omega)).trans h2, (hb.block _ (by omega)).trans h3, h4.trans (hb.mono (by omega)), h5, by omega⟩

theorem Mid.hnext {w W W' : World} {n : Nat} {A B C : Obj} (h : Mid w W n A B C) (hb : Below W.heap.size W W') : Hid (Mid w W' n A B C) := h.next hb

theorem hid_push {w W w3 : World} {n : Nat} {A B C : Obj} {a3 : Option Addr} {P : List (Int × Int)} (h : Mid w W n A B C) (hb : Below W.heap.size W w3) (r3 : WOk w3 a3 P) (g3 : ∀ b, blk a3 = some b → W.heap.size ≤ b) : Hid (w3.heap[w.heap.size]? = some A ∧ w3.heap[w.heap.size + 1]? = some B ∧ w3.heap[n]? = some C ∧ Below w.heap.size w w3 ∧ w.heap.size + 1 < n ∧ n < w3.heap.size ∧ WOk w3 a3 P ∧ ∀ b, blk a3 = some b → n < b) := by
  have hm := h.next hb
  obtain ⟨h1, h2, h3, h4, h5, h6⟩ := hm
  exact ⟨h1, h2, h3, h4, h5, h6, r3, fun b e => by have := g3 b e; have := h.2.2.2.2.2; omega⟩

theorem below_undrew {B : Nat} {W w' : World} (h : Below B W.drew w') : Below B W w' := (Below.refl B W).drew.trans h


set_option maxHeartbeats 8000000 in
theorem slope_zero (k mn mx sp sl li gd av ws : Int) (a : Option Addr) (c : Nat) (L : List (Int × Int)) (now lat r : Int) (w : World) (ha : WOk w a L) (hl : (L.length : Int) ≤ 1048577) (hk : limOk k mn mx sp sl li gd av ws L) (ht : isT now) (hs : isLat lat) (hr : isRoot li r) (h0 : av = 0) :
    Calls Try.prog 37 #[.agg #[.int .i64 k, .int .i64 mn, .int .i64 mx, .int .i64 sp, .int .i64 sl, .int .i64 li, .int .i64 gd, .int .i64 av, .int .i64 ws, .slice a L.length c], .int .i64 now, .int .i64 lat] w (LAns w k mn mx sp sl (slopeLim li mn mx (grad (ImplTrim.leastOf ws (pushed ws now lat L) now) (newAvg av lat)) r) gd (newAvg av lat) ws (pushed ws now lat L)) := by
  have HA : Hid (WOk w a L) := ha
  have pok : pushOk ws now lat L := ⟨hk.2.2.2.2.2.2.2.1, ht, hs⟩
  have hps : pushSpan ws now lat L = ws := (pushed_good pok).2
  have hpl : (pushed ws now lat L).length ≤ 1048577 := by have := pushed_len ws now lat L; omega
  have l0 : 1 ≤ li := by have h1 := hk.1.2.1; have h2 := hk.2.1; omega
  have l1 : li ≤ 1000 := by have h1 := hk.1.2.2.2.1; have h2 := hk.2.2.1; omega
  have a0 : 0 ≤ av := hk.2.2.2.2.2.1
  have a1 : av ≤ 65536000000 := hk.2.2.2.2.2.2.1
  have t0 : 0 ≤ lat := hs.1
  have t1 : lat ≤ 1000000 := hs.2
  obtain ⟨A2, hA2⟩ : ∃ A2, newAvg av lat = A2 := ⟨_, rfl⟩
  have hAb := newAvg_bounds a0 a1 t0 t1
  rw [hA2] at hAb ⊢
  have HO := fun W h => spec_limok k mn mx sp sl li gd av ws a c L true W h hl ⟨fun _ => hk, fun _ => rfl⟩
  have HT := fun W => spec_timeB now W true ⟨fun _ => ht, fun _ => rfl⟩
  have HS := fun W => spec_latB lat W true ⟨fun _ => hs, fun _ => rfl⟩
  have HC := fun W h => spec_copy k mn mx sp sl li gd av ws a c L W h (by omega)
  have HP := fun W h => spec_push ws now lat a c L W h (by omega)
  rw [hps] at HP
  have HL := fun W {a2 : Option Addr} {c2 : Nat} h => LeastWalks.spec_least ws now a2 c2 (pushed ws now lat L) W h (by omega)
  obtain ⟨P, hP⟩ : ∃ P, pushed ws now lat L = P := ⟨_, rfl⟩
  rw [hP] at HP HL hpl ⊢
  have hE := least_bounds ws P now
  obtain ⟨E, hEE⟩ : ∃ E, ImplTrim.leastOf ws P now = E := ⟨_, rfl⟩
  rw [hEE] at HL hE ⊢
  have HG := fun W => spec_shareI (E + 1) 65536 (A2 / 65536 + 1) W (by omega) (by omega) (by omega) (by omega) (by omega) (by omega)
  unfold slopeLim grad
  obtain ⟨G0, hG0⟩ : ∃ G0, shareI (E + 1) 65536 (A2 / 65536 + 1) = G0 := ⟨_, rfl⟩
  rw [hG0] at HG ⊢
  have HCL := fun W => spec_clamp G0 32768 65536 W
  have gb := clampI_bounds G0 (show (32768 : Int) ≤ 65536 by omega)
  obtain ⟨G, hG⟩ : ∃ G, clampI G0 32768 65536 = G := ⟨_, rfl⟩
  rw [hG] at HCL gb ⊢
  have HSH := fun W => spec_shareI li G 65536 W (by omega) (by omega) (by omega) (by omega) (by omega) (by omega)
  have sb := shareI_unit li G (by omega) (by omega) (by omega)
  obtain ⟨S, hS⟩ : ∃ S, shareI li G 65536 = S := ⟨_, rfl⟩
  rw [hS] at HSH sb ⊢
  have rb := root_small hr l1
  have HR := fun W => spec_rootI li r W l0 l1 hr
  have HC2 := fun W => spec_clamp ((7 * li + (S + r)) / 8) mn mx W
  obtain ⟨R, hR⟩ : ∃ R, clampI ((7 * li + (S + r)) / 8) mn mx = R := ⟨_, rfl⟩
  rw [hR] at HC2 ⊢
  have eA : A2 = lat * 65536 := by rw [← hA2]; unfold newAvg; rw [if_pos h0]
  have EA : Hid (A2 = lat * 65536) := eA
  have z0 : (av == 0) = true := by simpa using h0
  have wl : IntKind.i64.wrap (lat * 65536) = A2 := by rw [eA]; exact IntWalk.i64_in _ (by omega)
  clear eA EA

  clear ha hk ht hs hr hps pok hA2 hP hEE hG0 hG hS hR h0 t0 t1 a0 a1
  go_enter Try.func37, Try.ntmps37
  go_upto_region 8 with (first | (go_at_call 32; refine (HO _ (HA.out.below (((Below.refl _ _).alloc (Nat.le_refl _) _).alloc (by simp) _))).mono ?_; rintro e w1 ⟨rfl, hb1⟩; have hy1 := bsize hb1; have hx1 : w.heap.size < w1.heap.size := Nat.lt_of_succ_lt hy1; have B1 : Hid (Below w.heap.size w w1) := past_two hb1; have P1 := hid_two hb1; have c0 := cell_blk P1.out.1 0; have c1 := cell_blk P1.out.1 1; have c2 := cell_blk P1.out.1 2; have c3 := cell_blk P1.out.1 3; have c4 := cell_blk P1.out.1 4; have c5 := cell_blk P1.out.1 5; have c6 := cell_blk P1.out.1 6; have c7 := cell_blk P1.out.1 7; have c8 := cell_blk P1.out.1 8; have c9 := cell_blk P1.out.1 9; have d0 := cell_blk P1.out.2 0; have e0 := fz_blk P1.out.2 0; have d1 := cell_blk P1.out.2 1; have e1 := fz_blk P1.out.2 1; have d2 := cell_blk P1.out.2 2; have e2 := fz_blk P1.out.2 2; have d3 := cell_blk P1.out.2 3; have e3 := fz_blk P1.out.2 3; have d4 := cell_blk P1.out.2 4; have e4 := fz_blk P1.out.2 4; have d5 := cell_blk P1.out.2 5; have e5 := fz_blk P1.out.2 5; have d6 := cell_blk P1.out.2 6; have e6 := fz_blk P1.out.2 6; have d7 := cell_blk P1.out.2 7; have e7 := fz_blk P1.out.2 7; have d8 := cell_blk P1.out.2 8; have e8 := fz_blk P1.out.2 8; have d9 := cell_blk P1.out.2 9; have e9 := fz_blk P1.out.2 9; clear hb1) | (go_at_call 33; refine (HT _).mono ?_; rintro e w9 ⟨rfl, hw9⟩; rw [hw9]; clear hw9 w9) | (go_at_call 34; refine (HS _).mono ?_; rintro e w9 ⟨rfl, hw9⟩; rw [hw9]; clear hw9 w9) | (go_at_call 42; refine (HC _ (HA.out.below B1.out)).mono ?_; clear c0 c1 c2 c3 c4 c5 c6 c7 c8 c9 d0 e0 d1 e1 d2 e2 d3 e3 d4 e4 d5 e5 d6 e6 d7 e7 d8 e8 d9 e9; rintro e w2 ⟨a2, c2', rfl, r2, g2, hb2⟩; have Q2 := hid_copy B1.out P1.out hb2 hy1 (o := .cells #[.int .i64 k, .int .i64 mn, .int .i64 mx, .int .i64 sp, .int .i64 sl, .int .i64 li, .int .i64 gd, .int .i64 av, .int .i64 ws, .slice a2 L.length c2'] 29); have c0 := cell_blk Q2.out.1 0; have c1 := cell_blk Q2.out.1 1; have c2 := cell_blk Q2.out.1 2; have c3 := cell_blk Q2.out.1 3; have c4 := cell_blk Q2.out.1 4; have c5 := cell_blk Q2.out.1 5; have c6 := cell_blk Q2.out.1 6; have c7 := cell_blk Q2.out.1 7; have c8 := cell_blk Q2.out.1 8; have c9 := cell_blk Q2.out.1 9; have x0 := cell_blk Q2.out.2.2.1 0; have y0 := fz_blk Q2.out.2.2.1 0; have x1 := cell_blk Q2.out.2.2.1 1; have y1 := fz_blk Q2.out.2.2.1 1; have x2 := cell_blk Q2.out.2.2.1 2; have y2 := fz_blk Q2.out.2.2.1 2; have x3 := cell_blk Q2.out.2.2.1 3; have y3 := fz_blk Q2.out.2.2.1 3; have x4 := cell_blk Q2.out.2.2.1 4; have y4 := fz_blk Q2.out.2.2.1 4; have x5 := cell_blk Q2.out.2.2.1 5; have y5 := fz_blk Q2.out.2.2.1 5; have x6 := cell_blk Q2.out.2.2.1 6; have y6 := fz_blk Q2.out.2.2.1 6; have x7 := cell_blk Q2.out.2.2.1 7; have y7 := fz_blk Q2.out.2.2.1 7; have x8 := cell_blk Q2.out.2.2.1 8; have y8 := fz_blk Q2.out.2.2.1 8; have x9 := cell_blk Q2.out.2.2.1 9; have y9 := fz_blk Q2.out.2.2.1 9; clear hb2 r2 g2 P1) | (go_at_call 44; refine (HP _ (HA.out.below Q2.out.2.2.2.1)).mono ?_; clear c0 x0 y0 c1 x1 y1 c2 x2 y2 c3 x3 y3 c4 x4 y4 c5 x5 y5 c6 x6 y6 c7 x7 y7 c8 x8 y8 c9 x9 y9; rintro e w3 ⟨a3, c3', rfl, r3, g3, hb3⟩; have Q3 := hid_push Q2.out hb3 r3 g3; have c0 := cell_blk Q3.out.1 0; have c1 := cell_blk Q3.out.1 1; have c2 := cell_blk Q3.out.1 2; have c3 := cell_blk Q3.out.1 3; have c4 := cell_blk Q3.out.1 4; have c5 := cell_blk Q3.out.1 5; have c6 := cell_blk Q3.out.1 6; have c7 := cell_blk Q3.out.1 7; have c8 := cell_blk Q3.out.1 8; have c9 := cell_blk Q3.out.1 9; have x0 := cell_blk Q3.out.2.2.1 0; have y0 := fz_blk Q3.out.2.2.1 0; have x1 := cell_blk Q3.out.2.2.1 1; have y1 := fz_blk Q3.out.2.2.1 1; have x2 := cell_blk Q3.out.2.2.1 2; have y2 := fz_blk Q3.out.2.2.1 2; have x3 := cell_blk Q3.out.2.2.1 3; have y3 := fz_blk Q3.out.2.2.1 3; have x4 := cell_blk Q3.out.2.2.1 4; have y4 := fz_blk Q3.out.2.2.1 4; have x5 := cell_blk Q3.out.2.2.1 5; have y5 := fz_blk Q3.out.2.2.1 5; have x6 := cell_blk Q3.out.2.2.1 6; have y6 := fz_blk Q3.out.2.2.1 6; have x7 := cell_blk Q3.out.2.2.1 7; have y7 := fz_blk Q3.out.2.2.1 7; have x8 := cell_blk Q3.out.2.2.1 8; have y8 := fz_blk Q3.out.2.2.1 8; have x9 := cell_blk Q3.out.2.2.1 9; have y9 := fz_blk Q3.out.2.2.1 9; clear hb3 r3 g3 Q2) | (go_at_call 45; refine (HM _).mono ?_; rintro e w9 ⟨rfl, hw9⟩; rw [hw9]; clear hw9 w9))
  have M8 : Hid (Mid w (((w3.setCell ⟨w2.heap.size, 8, none⟩ (.int .i64 ws)).setCell ⟨w2.heap.size, 9, none⟩ (.slice a3 P.length c3')).setCell ⟨w2.heap.size, 7, none⟩ (.int .i64 A2)) w2.heap.size (.cells #[.int .i64 k, .int .i64 mn, .int .i64 mx, .int .i64 sp, .int .i64 sl, .int .i64 li, .int .i64 gd, .int .i64 av, .int .i64 ws, .slice a L.length c] 29 (0, 0)) (.cells #[.int .i64 0, .int .i64 0, .int .i64 0, .int .i64 0, .int .i64 0, .int .i64 0, .int .i64 0, .int .i64 0, .int .i64 0, .slice none 0 0] 29 (0, 0)) (.cells #[.int .i64 k, .int .i64 mn, .int .i64 mx, .int .i64 sp, .int .i64 sl, .int .i64 li, .int .i64 gd, .int .i64 A2, .int .i64 ws, .slice a3 P.length c3'] 29 (0, 0))) := by
    refine ⟨?_, ?_, heap_setCell_at (heap_setCell_at (heap_setCell_at (Q3.out.2.2.1) _ _) _ _) _ _, (((Q3.out.2.2.2.1).setCell (by show w.heap.size ≤ w2.heap.size; have := Q3.out.2.2.2.2.1; omega) _).setCell (by show w.heap.size ≤ w2.heap.size; have := Q3.out.2.2.2.2.1; omega) _).setCell (by show w.heap.size ≤ w2.heap.size; have := Q3.out.2.2.2.2.1; omega) _, Q3.out.2.2.2.2.1, by have := Q3.out.2.2.2.2.2.1; simpa using this⟩
    · rw [Below.heap_setCell _ _ _ _ (by show w.heap.size ≠ w2.heap.size; have := Q3.out.2.2.2.2.1; omega), Below.heap_setCell _ _ _ _ (by show w.heap.size ≠ w2.heap.size; have := Q3.out.2.2.2.2.1; omega), Below.heap_setCell _ _ _ _ (by show w.heap.size ≠ w2.heap.size; have := Q3.out.2.2.2.2.1; omega)]
      exact Q3.out.1
    · rw [Below.heap_setCell _ _ _ _ (by show w.heap.size + 1 ≠ w2.heap.size; have := Q3.out.2.2.2.2.1; omega), Below.heap_setCell _ _ _ _ (by show w.heap.size + 1 ≠ w2.heap.size; have := Q3.out.2.2.2.2.1; omega), Below.heap_setCell _ _ _ _ (by show w.heap.size + 1 ≠ w2.heap.size; have := Q3.out.2.2.2.2.1; omega)]
      exact Q3.out.2.1
  have R8 : Hid (WOk (((w3.setCell ⟨w2.heap.size, 8, none⟩ (.int .i64 ws)).setCell ⟨w2.heap.size, 9, none⟩ (.slice a3 P.length c3')).setCell ⟨w2.heap.size, 7, none⟩ (.int .i64 A2)) a3 P ∧ ∀ b, blk a3 = some b → w2.heap.size < b) := ⟨(((Q3.out.2.2.2.2.2.2.1).setw (fun b h => by show b ≠ w2.heap.size; have := Q3.out.2.2.2.2.2.2.2 b h; omega) _).setw (fun b h => by show b ≠ w2.heap.size; have := Q3.out.2.2.2.2.2.2.2 b h; omega) _).setw (fun b h => by show b ≠ w2.heap.size; have := Q3.out.2.2.2.2.2.2.2 b h; omega) _, Q3.out.2.2.2.2.2.2.2⟩
  clear c0 x0 y0 c1 x1 y1 c2 x2 y2 c3 x3 y3 c4 x4 y4 c5 x5 y5 c6 x6 y6 c7 x7 y7 c8 x8 y8 c9 x9 y9 Q3
  generalize (((w3.setCell ⟨w2.heap.size, 8, none⟩ (.int .i64 ws)).setCell ⟨w2.heap.size, 9, none⟩ (.slice a3 P.length c3')).setCell ⟨w2.heap.size, 7, none⟩ (.int .i64 A2)) = W8 at *
  have c1 : W8.cell? ⟨w.heap.size, 1, none⟩ = some (.int .i64 mn) := cell_blk M8.out.1 1
  have c2 : W8.cell? ⟨w.heap.size, 2, none⟩ = some (.int .i64 mx) := cell_blk M8.out.1 2
  have c5 : W8.cell? ⟨w.heap.size, 5, none⟩ = some (.int .i64 li) := cell_blk M8.out.1 5
  have x0 : W8.cell? ⟨w2.heap.size, 0, none⟩ = some (.int .i64 k) := cell_blk M8.out.2.2.1 0
  have y0 := fz_blk M8.out.2.2.1 0
  have x1 : W8.cell? ⟨w2.heap.size, 1, none⟩ = some (.int .i64 mn) := cell_blk M8.out.2.2.1 1
  have y1 := fz_blk M8.out.2.2.1 1
  have x2 : W8.cell? ⟨w2.heap.size, 2, none⟩ = some (.int .i64 mx) := cell_blk M8.out.2.2.1 2
  have y2 := fz_blk M8.out.2.2.1 2
  have x3 : W8.cell? ⟨w2.heap.size, 3, none⟩ = some (.int .i64 sp) := cell_blk M8.out.2.2.1 3
  have y3 := fz_blk M8.out.2.2.1 3
  have x4 : W8.cell? ⟨w2.heap.size, 4, none⟩ = some (.int .i64 sl) := cell_blk M8.out.2.2.1 4
  have y4 := fz_blk M8.out.2.2.1 4
  have x5 : W8.cell? ⟨w2.heap.size, 5, none⟩ = some (.int .i64 li) := cell_blk M8.out.2.2.1 5
  have y5 := fz_blk M8.out.2.2.1 5
  have x6 : W8.cell? ⟨w2.heap.size, 6, none⟩ = some (.int .i64 gd) := cell_blk M8.out.2.2.1 6
  have y6 := fz_blk M8.out.2.2.1 6
  have x7 : W8.cell? ⟨w2.heap.size, 7, none⟩ = some (.int .i64 A2) := cell_blk M8.out.2.2.1 7
  have y7 := fz_blk M8.out.2.2.1 7
  have x8 : W8.cell? ⟨w2.heap.size, 8, none⟩ = some (.int .i64 ws) := cell_blk M8.out.2.2.1 8
  have y8 := fz_blk M8.out.2.2.1 8
  have x9 : W8.cell? ⟨w2.heap.size, 9, none⟩ = some (.slice a3 P.length c3') := cell_blk M8.out.2.2.1 9
  have y9 := fz_blk M8.out.2.2.1 9
  have near := Near.is W8
  have X7 := Near.cell x7
  have X8 := Near.cell x8
  have X9 := Near.cell x9
  clear x0 y0 x1 y1 x2 y2 x3 y3 x4 y4 x5 y5 x6 y6 x7 y7 x8 y8 x9 y9 c1 c2 c5
  refine wp_region_near (by kernel_rfl) (by kernel_rfl) ?_
  repeat (go_big_quiet_step ((first | (go_at_call 47; exact near_call (HL _ (R8.out.1.below (Near.near _)))) | (go_at_call 46; exact near_same (HG _)))))
  refine wpQuiet_nil ?_
  intro wx hwx
  obtain ⟨y, hy⟩ := hwx
  subst hy
  have M9 : Hid (Mid w y.w w2.heap.size (.cells #[.int .i64 k, .int .i64 mn, .int .i64 mx, .int .i64 sp, .int .i64 sl, .int .i64 li, .int .i64 gd, .int .i64 av, .int .i64 ws, .slice a L.length c] 29 (0, 0)) (.cells #[.int .i64 0, .int .i64 0, .int .i64 0, .int .i64 0, .int .i64 0, .int .i64 0, .int .i64 0, .int .i64 0, .int .i64 0, .slice none 0 0] 29 (0, 0)) (.cells #[.int .i64 k, .int .i64 mn, .int .i64 mx, .int .i64 sp, .int .i64 sl, .int .i64 li, .int .i64 gd, .int .i64 A2, .int .i64 ws, .slice a3 P.length c3'] 29 (0, 0))) := M8.out.next y.near
  have R9 : Hid (WOk y.w a3 P) := R8.out.1.below y.near
  obtain ⟨wc, hwc⟩ : ∃ wc, y.w = wc := ⟨_, rfl⟩
  rw [hwc] at M9 R9 ⊢
  clear hwc y near X7 X8 X9 M8
  have c1 : wc.cell? ⟨w.heap.size, 1, none⟩ = some (.int .i64 mn) := cell_blk M9.out.1 1
  have c2 : wc.cell? ⟨w.heap.size, 2, none⟩ = some (.int .i64 mx) := cell_blk M9.out.1 2
  have c5 : wc.cell? ⟨w.heap.size, 5, none⟩ = some (.int .i64 li) := cell_blk M9.out.1 5
  go_upto_region 10 with (go_at_call 43; refine (HCL _).mono ?_; rintro e w9 ⟨rfl, hw9⟩; rw [hw9]; clear hw9 w9)
  have near := Near.is wc
  have X5 := Near.cell c5
  clear c1 c2 c5
  refine wp_region_near (by kernel_rfl) (by kernel_rfl) ?_
  repeat (go_big_quiet_step ((first | (go_at_call 46; exact near_same (HSH _)) | (go_at_call 48; exact near_same (HR _)))))
  refine wpQuiet_nil ?_
  intro wx hwx
  obtain ⟨y, hy⟩ := hwx
  subst hy
  have MD : Hid (Mid w y.w w2.heap.size (.cells #[.int .i64 k, .int .i64 mn, .int .i64 mx, .int .i64 sp, .int .i64 sl, .int .i64 li, .int .i64 gd, .int .i64 av, .int .i64 ws, .slice a L.length c] 29 (0, 0)) (.cells #[.int .i64 0, .int .i64 0, .int .i64 0, .int .i64 0, .int .i64 0, .int .i64 0, .int .i64 0, .int .i64 0, .int .i64 0, .slice none 0 0] 29 (0, 0)) (.cells #[.int .i64 k, .int .i64 mn, .int .i64 mx, .int .i64 sp, .int .i64 sl, .int .i64 li, .int .i64 gd, .int .i64 A2, .int .i64 ws, .slice a3 P.length c3'] 29 (0, 0))) := M9.out.next y.near
  have RD : Hid (WOk y.w a3 P) := R9.out.below y.near
  obtain ⟨wd, hwd⟩ : ∃ wd, y.w = wd := ⟨_, rfl⟩
  rw [hwd] at MD RD ⊢
  clear hwd y near X5 M9
  have c1 : wd.cell? ⟨w.heap.size, 1, none⟩ = some (.int .i64 mn) := cell_blk MD.out.1 1
  have c2 : wd.cell? ⟨w.heap.size, 2, none⟩ = some (.int .i64 mx) := cell_blk MD.out.1 2
  have c5 : wd.cell? ⟨w.heap.size, 5, none⟩ = some (.int .i64 li) := cell_blk MD.out.1 5
  have x0 : wd.cell? ⟨w2.heap.size, 0, none⟩ = some (.int .i64 k) := cell_blk MD.out.2.2.1 0
  have y0 := fz_blk MD.out.2.2.1 0
  have x1 : wd.cell? ⟨w2.heap.size, 1, none⟩ = some (.int .i64 mn) := cell_blk MD.out.2.2.1 1
  have y1 := fz_blk MD.out.2.2.1 1
  have x2 : wd.cell? ⟨w2.heap.size, 2, none⟩ = some (.int .i64 mx) := cell_blk MD.out.2.2.1 2
  have y2 := fz_blk MD.out.2.2.1 2
  have x3 : wd.cell? ⟨w2.heap.size, 3, none⟩ = some (.int .i64 sp) := cell_blk MD.out.2.2.1 3
  have y3 := fz_blk MD.out.2.2.1 3
  have x4 : wd.cell? ⟨w2.heap.size, 4, none⟩ = some (.int .i64 sl) := cell_blk MD.out.2.2.1 4
  have y4 := fz_blk MD.out.2.2.1 4
  have x5 : wd.cell? ⟨w2.heap.size, 5, none⟩ = some (.int .i64 li) := cell_blk MD.out.2.2.1 5
  have y5 := fz_blk MD.out.2.2.1 5
  have x6 : wd.cell? ⟨w2.heap.size, 6, none⟩ = some (.int .i64 gd) := cell_blk MD.out.2.2.1 6
  have y6 := fz_blk MD.out.2.2.1 6
  have x7 : wd.cell? ⟨w2.heap.size, 7, none⟩ = some (.int .i64 A2) := cell_blk MD.out.2.2.1 7
  have y7 := fz_blk MD.out.2.2.1 7
  have x8 : wd.cell? ⟨w2.heap.size, 8, none⟩ = some (.int .i64 ws) := cell_blk MD.out.2.2.1 8
  have y8 := fz_blk MD.out.2.2.1 8
  have x9 : wd.cell? ⟨w2.heap.size, 9, none⟩ = some (.slice a3 P.length c3') := cell_blk MD.out.2.2.1 9
  have y9 := fz_blk MD.out.2.2.1 9
  have d0 := cell_blk MD.out.2.1 0
  have e0 := fz_blk MD.out.2.1 0
  have d1 := cell_blk MD.out.2.1 1
  have e1 := fz_blk MD.out.2.1 1
  have d2 := cell_blk MD.out.2.1 2
  have e2 := fz_blk MD.out.2.1 2
  have d3 := cell_blk MD.out.2.1 3
  have e3 := fz_blk MD.out.2.1 3
  have d4 := cell_blk MD.out.2.1 4
  have e4 := fz_blk MD.out.2.1 4
  have d5 := cell_blk MD.out.2.1 5
  have e5 := fz_blk MD.out.2.1 5
  have d6 := cell_blk MD.out.2.1 6
  have e6 := fz_blk MD.out.2.1 6
  have d7 := cell_blk MD.out.2.1 7
  have e7 := fz_blk MD.out.2.1 7
  have d8 := cell_blk MD.out.2.1 8
  have e8 := fz_blk MD.out.2.1 8
  have d9 := cell_blk MD.out.2.1 9
  have e9 := fz_blk MD.out.2.1 9
  have hn := MD.out.2.2.2.2.1
  have hn1 : w.heap.size < w2.heap.size := by omega
  have hn2 : w2.heap.size < wd.heap.size := MD.out.2.2.2.2.2
  go_wp2_with (go_at_call 43; refine (HC2 _).mono ?_; rintro e w9 ⟨rfl, hw9⟩; rw [hw9]; clear hw9 w9)
  refine bodyPost_ret (v := .agg #[.int .i64 k, .int .i64 mn, .int .i64 mx, .int .i64 sp, .int .i64 sl, .int .i64 R, .int .i64 gd, .int .i64 A2, .int .i64 ws, .slice a3 P.length c3']) (by simp [results, Try.results37, go_sem, d0, d1, d2, d3, d4, d5, d6, d7, d8, d9]) rfl ⟨a3, c3', rfl, ?_, fun b h => by have := R8.out.2 b h; have := MD.out.2.2.2.2.1; omega, ?_⟩
  · exact (((((((((((RD.out).setw (fun b h => by show b ≠ w2.heap.size; have := R8.out.2 b h; omega) _).setw (fun b h => by show b ≠ w.heap.size + 1; have := R8.out.2 b h; have := MD.out.2.2.2.2.1; omega) _).setw (fun b h => by show b ≠ w.heap.size + 1; have := R8.out.2 b h; have := MD.out.2.2.2.2.1; omega) _).setw (fun b h => by show b ≠ w.heap.size + 1; have := R8.out.2 b h; have := MD.out.2.2.2.2.1; omega) _).setw (fun b h => by show b ≠ w.heap.size + 1; have := R8.out.2 b h; have := MD.out.2.2.2.2.1; omega) _).setw (fun b h => by show b ≠ w.heap.size + 1; have := R8.out.2 b h; have := MD.out.2.2.2.2.1; omega) _).setw (fun b h => by show b ≠ w.heap.size + 1; have := R8.out.2 b h; have := MD.out.2.2.2.2.1; omega) _).setw (fun b h => by show b ≠ w.heap.size + 1; have := R8.out.2 b h; have := MD.out.2.2.2.2.1; omega) _).setw (fun b h => by show b ≠ w.heap.size + 1; have := R8.out.2 b h; have := MD.out.2.2.2.2.1; omega) _).setw (fun b h => by show b ≠ w.heap.size + 1; have := R8.out.2 b h; have := MD.out.2.2.2.2.1; omega) _).setw (fun b h => by show b ≠ w.heap.size + 1; have := R8.out.2 b h; have := MD.out.2.2.2.2.1; omega) _
  · exact (((((((((((MD.out.2.2.2.1).setCell (by show w.heap.size ≤ w2.heap.size; have := MD.out.2.2.2.2.1; omega) _).setCell (Nat.le_add_right _ 1) _).setCell (Nat.le_add_right _ 1) _).setCell (Nat.le_add_right _ 1) _).setCell (Nat.le_add_right _ 1) _).setCell (Nat.le_add_right _ 1) _).setCell (Nat.le_add_right _ 1) _).setCell (Nat.le_add_right _ 1) _).setCell (Nat.le_add_right _ 1) _).setCell (Nat.le_add_right _ 1) _).setCell (Nat.le_add_right _ 1) _

set_option maxHeartbeats 8000000 in
theorem slope_some (k mn mx sp sl li gd av ws : Int) (a : Option Addr) (c : Nat) (L : List (Int × Int)) (now lat r : Int) (w : World) (ha : WOk w a L) (hl : (L.length : Int) ≤ 1048577) (hk : limOk k mn mx sp sl li gd av ws L) (ht : isT now) (hs : isLat lat) (hr : isRoot li r) (h0 : ¬ av = 0) :
    Calls Try.prog 37 #[.agg #[.int .i64 k, .int .i64 mn, .int .i64 mx, .int .i64 sp, .int .i64 sl, .int .i64 li, .int .i64 gd, .int .i64 av, .int .i64 ws, .slice a L.length c], .int .i64 now, .int .i64 lat] w (LAns w k mn mx sp sl (slopeLim li mn mx (grad (ImplTrim.leastOf ws (pushed ws now lat L) now) (newAvg av lat)) r) gd (newAvg av lat) ws (pushed ws now lat L)) := by
  have HA : Hid (WOk w a L) := ha
  have pok : pushOk ws now lat L := ⟨hk.2.2.2.2.2.2.2.1, ht, hs⟩
  have hps : pushSpan ws now lat L = ws := (pushed_good pok).2
  have hpl : (pushed ws now lat L).length ≤ 1048577 := by have := pushed_len ws now lat L; omega
  have l0 : 1 ≤ li := by have h1 := hk.1.2.1; have h2 := hk.2.1; omega
  have l1 : li ≤ 1000 := by have h1 := hk.1.2.2.2.1; have h2 := hk.2.2.1; omega
  have a0 : 0 ≤ av := hk.2.2.2.2.2.1
  have a1 : av ≤ 65536000000 := hk.2.2.2.2.2.2.1
  have t0 : 0 ≤ lat := hs.1
  have t1 : lat ≤ 1000000 := hs.2
  obtain ⟨A2, hA2⟩ : ∃ A2, newAvg av lat = A2 := ⟨_, rfl⟩
  have hAb := newAvg_bounds a0 a1 t0 t1
  rw [hA2] at hAb ⊢
  have HO := fun W h => spec_limok k mn mx sp sl li gd av ws a c L true W h hl ⟨fun _ => hk, fun _ => rfl⟩
  have HT := fun W => spec_timeB now W true ⟨fun _ => ht, fun _ => rfl⟩
  have HS := fun W => spec_latB lat W true ⟨fun _ => hs, fun _ => rfl⟩
  have HC := fun W h => spec_copy k mn mx sp sl li gd av ws a c L W h (by omega)
  have HP := fun W h => spec_push ws now lat a c L W h (by omega)
  rw [hps] at HP
  have HL := fun W {a2 : Option Addr} {c2 : Nat} h => LeastWalks.spec_least ws now a2 c2 (pushed ws now lat L) W h (by omega)
  obtain ⟨P, hP⟩ : ∃ P, pushed ws now lat L = P := ⟨_, rfl⟩
  rw [hP] at HP HL hpl ⊢
  have hE := least_bounds ws P now
  obtain ⟨E, hEE⟩ : ∃ E, ImplTrim.leastOf ws P now = E := ⟨_, rfl⟩
  rw [hEE] at HL hE ⊢
  have HG := fun W => spec_shareI (E + 1) 65536 (A2 / 65536 + 1) W (by omega) (by omega) (by omega) (by omega) (by omega) (by omega)
  unfold slopeLim grad
  obtain ⟨G0, hG0⟩ : ∃ G0, shareI (E + 1) 65536 (A2 / 65536 + 1) = G0 := ⟨_, rfl⟩
  rw [hG0] at HG ⊢
  have HCL := fun W => spec_clamp G0 32768 65536 W
  have gb := clampI_bounds G0 (show (32768 : Int) ≤ 65536 by omega)
  obtain ⟨G, hG⟩ : ∃ G, clampI G0 32768 65536 = G := ⟨_, rfl⟩
  rw [hG] at HCL gb ⊢
  have HSH := fun W => spec_shareI li G 65536 W (by omega) (by omega) (by omega) (by omega) (by omega) (by omega)
  have sb := shareI_unit li G (by omega) (by omega) (by omega)
  obtain ⟨S, hS⟩ : ∃ S, shareI li G 65536 = S := ⟨_, rfl⟩
  rw [hS] at HSH sb ⊢
  have rb := root_small hr l1
  have HR := fun W => spec_rootI li r W l0 l1 hr
  have HC2 := fun W => spec_clamp ((7 * li + (S + r)) / 8) mn mx W
  obtain ⟨R, hR⟩ : ∃ R, clampI ((7 * li + (S + r)) / 8) mn mx = R := ⟨_, rfl⟩
  rw [hR] at HC2 ⊢
  have z0 : (av == 0) = false := by simpa using h0
  have HM := fun W => spec_mean av lat 8192 W
  have eM : meanOf av lat 8192 = A2 := by rw [← hA2]; unfold newAvg; rw [if_neg h0]
  rw [eM] at HM
  clear eM
  clear ha hk ht hs hr hps pok hA2 hP hEE hG0 hG hS hR h0 t0 t1 a0 a1
  go_enter Try.func37, Try.ntmps37
  go_upto_region 8 with (first | (go_at_call 32; refine (HO _ (HA.out.below (((Below.refl _ _).alloc (Nat.le_refl _) _).alloc (by simp) _))).mono ?_; rintro e w1 ⟨rfl, hb1⟩; have hy1 := bsize hb1; have hx1 : w.heap.size < w1.heap.size := Nat.lt_of_succ_lt hy1; have B1 : Hid (Below w.heap.size w w1) := past_two hb1; have P1 := hid_two hb1; have c0 := cell_blk P1.out.1 0; have c1 := cell_blk P1.out.1 1; have c2 := cell_blk P1.out.1 2; have c3 := cell_blk P1.out.1 3; have c4 := cell_blk P1.out.1 4; have c5 := cell_blk P1.out.1 5; have c6 := cell_blk P1.out.1 6; have c7 := cell_blk P1.out.1 7; have c8 := cell_blk P1.out.1 8; have c9 := cell_blk P1.out.1 9; have d0 := cell_blk P1.out.2 0; have e0 := fz_blk P1.out.2 0; have d1 := cell_blk P1.out.2 1; have e1 := fz_blk P1.out.2 1; have d2 := cell_blk P1.out.2 2; have e2 := fz_blk P1.out.2 2; have d3 := cell_blk P1.out.2 3; have e3 := fz_blk P1.out.2 3; have d4 := cell_blk P1.out.2 4; have e4 := fz_blk P1.out.2 4; have d5 := cell_blk P1.out.2 5; have e5 := fz_blk P1.out.2 5; have d6 := cell_blk P1.out.2 6; have e6 := fz_blk P1.out.2 6; have d7 := cell_blk P1.out.2 7; have e7 := fz_blk P1.out.2 7; have d8 := cell_blk P1.out.2 8; have e8 := fz_blk P1.out.2 8; have d9 := cell_blk P1.out.2 9; have e9 := fz_blk P1.out.2 9; clear hb1) | (go_at_call 33; refine (HT _).mono ?_; rintro e w9 ⟨rfl, hw9⟩; rw [hw9]; clear hw9 w9) | (go_at_call 34; refine (HS _).mono ?_; rintro e w9 ⟨rfl, hw9⟩; rw [hw9]; clear hw9 w9) | (go_at_call 42; refine (HC _ (HA.out.below B1.out)).mono ?_; clear c0 c1 c2 c3 c4 c5 c6 c7 c8 c9 d0 e0 d1 e1 d2 e2 d3 e3 d4 e4 d5 e5 d6 e6 d7 e7 d8 e8 d9 e9; rintro e w2 ⟨a2, c2', rfl, r2, g2, hb2⟩; have Q2 := hid_copy B1.out P1.out hb2 hy1 (o := .cells #[.int .i64 k, .int .i64 mn, .int .i64 mx, .int .i64 sp, .int .i64 sl, .int .i64 li, .int .i64 gd, .int .i64 av, .int .i64 ws, .slice a2 L.length c2'] 29); have c0 := cell_blk Q2.out.1 0; have c1 := cell_blk Q2.out.1 1; have c2 := cell_blk Q2.out.1 2; have c3 := cell_blk Q2.out.1 3; have c4 := cell_blk Q2.out.1 4; have c5 := cell_blk Q2.out.1 5; have c6 := cell_blk Q2.out.1 6; have c7 := cell_blk Q2.out.1 7; have c8 := cell_blk Q2.out.1 8; have c9 := cell_blk Q2.out.1 9; have x0 := cell_blk Q2.out.2.2.1 0; have y0 := fz_blk Q2.out.2.2.1 0; have x1 := cell_blk Q2.out.2.2.1 1; have y1 := fz_blk Q2.out.2.2.1 1; have x2 := cell_blk Q2.out.2.2.1 2; have y2 := fz_blk Q2.out.2.2.1 2; have x3 := cell_blk Q2.out.2.2.1 3; have y3 := fz_blk Q2.out.2.2.1 3; have x4 := cell_blk Q2.out.2.2.1 4; have y4 := fz_blk Q2.out.2.2.1 4; have x5 := cell_blk Q2.out.2.2.1 5; have y5 := fz_blk Q2.out.2.2.1 5; have x6 := cell_blk Q2.out.2.2.1 6; have y6 := fz_blk Q2.out.2.2.1 6; have x7 := cell_blk Q2.out.2.2.1 7; have y7 := fz_blk Q2.out.2.2.1 7; have x8 := cell_blk Q2.out.2.2.1 8; have y8 := fz_blk Q2.out.2.2.1 8; have x9 := cell_blk Q2.out.2.2.1 9; have y9 := fz_blk Q2.out.2.2.1 9; clear hb2 r2 g2 P1) | (go_at_call 44; refine (HP _ (HA.out.below Q2.out.2.2.2.1)).mono ?_; clear c0 x0 y0 c1 x1 y1 c2 x2 y2 c3 x3 y3 c4 x4 y4 c5 x5 y5 c6 x6 y6 c7 x7 y7 c8 x8 y8 c9 x9 y9; rintro e w3 ⟨a3, c3', rfl, r3, g3, hb3⟩; have Q3 := hid_push Q2.out hb3 r3 g3; have c0 := cell_blk Q3.out.1 0; have c1 := cell_blk Q3.out.1 1; have c2 := cell_blk Q3.out.1 2; have c3 := cell_blk Q3.out.1 3; have c4 := cell_blk Q3.out.1 4; have c5 := cell_blk Q3.out.1 5; have c6 := cell_blk Q3.out.1 6; have c7 := cell_blk Q3.out.1 7; have c8 := cell_blk Q3.out.1 8; have c9 := cell_blk Q3.out.1 9; have x0 := cell_blk Q3.out.2.2.1 0; have y0 := fz_blk Q3.out.2.2.1 0; have x1 := cell_blk Q3.out.2.2.1 1; have y1 := fz_blk Q3.out.2.2.1 1; have x2 := cell_blk Q3.out.2.2.1 2; have y2 := fz_blk Q3.out.2.2.1 2; have x3 := cell_blk Q3.out.2.2.1 3; have y3 := fz_blk Q3.out.2.2.1 3; have x4 := cell_blk Q3.out.2.2.1 4; have y4 := fz_blk Q3.out.2.2.1 4; have x5 := cell_blk Q3.out.2.2.1 5; have y5 := fz_blk Q3.out.2.2.1 5; have x6 := cell_blk Q3.out.2.2.1 6; have y6 := fz_blk Q3.out.2.2.1 6; have x7 := cell_blk Q3.out.2.2.1 7; have y7 := fz_blk Q3.out.2.2.1 7; have x8 := cell_blk Q3.out.2.2.1 8; have y8 := fz_blk Q3.out.2.2.1 8; have x9 := cell_blk Q3.out.2.2.1 9; have y9 := fz_blk Q3.out.2.2.1 9; clear hb3 r3 g3 Q2) | (go_at_call 45; refine (HM _).mono ?_; rintro e w9 ⟨rfl, hw9⟩; rw [hw9]; clear hw9 w9))
  have M8 : Hid (Mid w (((w3.setCell ⟨w2.heap.size, 8, none⟩ (.int .i64 ws)).setCell ⟨w2.heap.size, 9, none⟩ (.slice a3 P.length c3')).setCell ⟨w2.heap.size, 7, none⟩ (.int .i64 A2)) w2.heap.size (.cells #[.int .i64 k, .int .i64 mn, .int .i64 mx, .int .i64 sp, .int .i64 sl, .int .i64 li, .int .i64 gd, .int .i64 av, .int .i64 ws, .slice a L.length c] 29 (0, 0)) (.cells #[.int .i64 0, .int .i64 0, .int .i64 0, .int .i64 0, .int .i64 0, .int .i64 0, .int .i64 0, .int .i64 0, .int .i64 0, .slice none 0 0] 29 (0, 0)) (.cells #[.int .i64 k, .int .i64 mn, .int .i64 mx, .int .i64 sp, .int .i64 sl, .int .i64 li, .int .i64 gd, .int .i64 A2, .int .i64 ws, .slice a3 P.length c3'] 29 (0, 0))) := by
    refine ⟨?_, ?_, heap_setCell_at (heap_setCell_at (heap_setCell_at (Q3.out.2.2.1) _ _) _ _) _ _, (((Q3.out.2.2.2.1).setCell (by show w.heap.size ≤ w2.heap.size; have := Q3.out.2.2.2.2.1; omega) _).setCell (by show w.heap.size ≤ w2.heap.size; have := Q3.out.2.2.2.2.1; omega) _).setCell (by show w.heap.size ≤ w2.heap.size; have := Q3.out.2.2.2.2.1; omega) _, Q3.out.2.2.2.2.1, by have := Q3.out.2.2.2.2.2.1; simpa using this⟩
    · rw [Below.heap_setCell _ _ _ _ (by show w.heap.size ≠ w2.heap.size; have := Q3.out.2.2.2.2.1; omega), Below.heap_setCell _ _ _ _ (by show w.heap.size ≠ w2.heap.size; have := Q3.out.2.2.2.2.1; omega), Below.heap_setCell _ _ _ _ (by show w.heap.size ≠ w2.heap.size; have := Q3.out.2.2.2.2.1; omega)]
      exact Q3.out.1
    · rw [Below.heap_setCell _ _ _ _ (by show w.heap.size + 1 ≠ w2.heap.size; have := Q3.out.2.2.2.2.1; omega), Below.heap_setCell _ _ _ _ (by show w.heap.size + 1 ≠ w2.heap.size; have := Q3.out.2.2.2.2.1; omega), Below.heap_setCell _ _ _ _ (by show w.heap.size + 1 ≠ w2.heap.size; have := Q3.out.2.2.2.2.1; omega)]
      exact Q3.out.2.1
  have R8 : Hid (WOk (((w3.setCell ⟨w2.heap.size, 8, none⟩ (.int .i64 ws)).setCell ⟨w2.heap.size, 9, none⟩ (.slice a3 P.length c3')).setCell ⟨w2.heap.size, 7, none⟩ (.int .i64 A2)) a3 P ∧ ∀ b, blk a3 = some b → w2.heap.size < b) := ⟨(((Q3.out.2.2.2.2.2.2.1).setw (fun b h => by show b ≠ w2.heap.size; have := Q3.out.2.2.2.2.2.2.2 b h; omega) _).setw (fun b h => by show b ≠ w2.heap.size; have := Q3.out.2.2.2.2.2.2.2 b h; omega) _).setw (fun b h => by show b ≠ w2.heap.size; have := Q3.out.2.2.2.2.2.2.2 b h; omega) _, Q3.out.2.2.2.2.2.2.2⟩
  clear c0 x0 y0 c1 x1 y1 c2 x2 y2 c3 x3 y3 c4 x4 y4 c5 x5 y5 c6 x6 y6 c7 x7 y7 c8 x8 y8 c9 x9 y9 Q3
  generalize (((w3.setCell ⟨w2.heap.size, 8, none⟩ (.int .i64 ws)).setCell ⟨w2.heap.size, 9, none⟩ (.slice a3 P.length c3')).setCell ⟨w2.heap.size, 7, none⟩ (.int .i64 A2)) = W8 at *
  have c1 : W8.cell? ⟨w.heap.size, 1, none⟩ = some (.int .i64 mn) := cell_blk M8.out.1 1
  have c2 : W8.cell? ⟨w.heap.size, 2, none⟩ = some (.int .i64 mx) := cell_blk M8.out.1 2
  have c5 : W8.cell? ⟨w.heap.size, 5, none⟩ = some (.int .i64 li) := cell_blk M8.out.1 5
  have x0 : W8.cell? ⟨w2.heap.size, 0, none⟩ = some (.int .i64 k) := cell_blk M8.out.2.2.1 0
  have y0 := fz_blk M8.out.2.2.1 0
  have x1 : W8.cell? ⟨w2.heap.size, 1, none⟩ = some (.int .i64 mn) := cell_blk M8.out.2.2.1 1
  have y1 := fz_blk M8.out.2.2.1 1
  have x2 : W8.cell? ⟨w2.heap.size, 2, none⟩ = some (.int .i64 mx) := cell_blk M8.out.2.2.1 2
  have y2 := fz_blk M8.out.2.2.1 2
  have x3 : W8.cell? ⟨w2.heap.size, 3, none⟩ = some (.int .i64 sp) := cell_blk M8.out.2.2.1 3
  have y3 := fz_blk M8.out.2.2.1 3
  have x4 : W8.cell? ⟨w2.heap.size, 4, none⟩ = some (.int .i64 sl) := cell_blk M8.out.2.2.1 4
  have y4 := fz_blk M8.out.2.2.1 4
  have x5 : W8.cell? ⟨w2.heap.size, 5, none⟩ = some (.int .i64 li) := cell_blk M8.out.2.2.1 5
  have y5 := fz_blk M8.out.2.2.1 5
  have x6 : W8.cell? ⟨w2.heap.size, 6, none⟩ = some (.int .i64 gd) := cell_blk M8.out.2.2.1 6
  have y6 := fz_blk M8.out.2.2.1 6
  have x7 : W8.cell? ⟨w2.heap.size, 7, none⟩ = some (.int .i64 A2) := cell_blk M8.out.2.2.1 7
  have y7 := fz_blk M8.out.2.2.1 7
  have x8 : W8.cell? ⟨w2.heap.size, 8, none⟩ = some (.int .i64 ws) := cell_blk M8.out.2.2.1 8
  have y8 := fz_blk M8.out.2.2.1 8
  have x9 : W8.cell? ⟨w2.heap.size, 9, none⟩ = some (.slice a3 P.length c3') := cell_blk M8.out.2.2.1 9
  have y9 := fz_blk M8.out.2.2.1 9
  have near := Near.is W8
  have X7 := Near.cell x7
  have X8 := Near.cell x8
  have X9 := Near.cell x9
  clear x0 y0 x1 y1 x2 y2 x3 y3 x4 y4 x5 y5 x6 y6 x7 y7 x8 y8 x9 y9 c1 c2 c5
  refine wp_region_near (by kernel_rfl) (by kernel_rfl) ?_
  repeat (go_big_quiet_step ((first | (go_at_call 47; exact near_call (HL _ (R8.out.1.below (Near.near _)))) | (go_at_call 46; exact near_same (HG _)))))
  refine wpQuiet_nil ?_
  intro wx hwx
  obtain ⟨y, hy⟩ := hwx
  subst hy
  have M9 : Hid (Mid w y.w w2.heap.size (.cells #[.int .i64 k, .int .i64 mn, .int .i64 mx, .int .i64 sp, .int .i64 sl, .int .i64 li, .int .i64 gd, .int .i64 av, .int .i64 ws, .slice a L.length c] 29 (0, 0)) (.cells #[.int .i64 0, .int .i64 0, .int .i64 0, .int .i64 0, .int .i64 0, .int .i64 0, .int .i64 0, .int .i64 0, .int .i64 0, .slice none 0 0] 29 (0, 0)) (.cells #[.int .i64 k, .int .i64 mn, .int .i64 mx, .int .i64 sp, .int .i64 sl, .int .i64 li, .int .i64 gd, .int .i64 A2, .int .i64 ws, .slice a3 P.length c3'] 29 (0, 0))) := M8.out.next y.near
  have R9 : Hid (WOk y.w a3 P) := R8.out.1.below y.near
  obtain ⟨wc, hwc⟩ : ∃ wc, y.w = wc := ⟨_, rfl⟩
  rw [hwc] at M9 R9 ⊢
  clear hwc y near X7 X8 X9 M8
  have c1 : wc.cell? ⟨w.heap.size, 1, none⟩ = some (.int .i64 mn) := cell_blk M9.out.1 1
  have c2 : wc.cell? ⟨w.heap.size, 2, none⟩ = some (.int .i64 mx) := cell_blk M9.out.1 2
  have c5 : wc.cell? ⟨w.heap.size, 5, none⟩ = some (.int .i64 li) := cell_blk M9.out.1 5
  go_upto_region 10 with (go_at_call 43; refine (HCL _).mono ?_; rintro e w9 ⟨rfl, hw9⟩; rw [hw9]; clear hw9 w9)
  have near := Near.is wc
  have X5 := Near.cell c5
  clear c1 c2 c5
  refine wp_region_near (by kernel_rfl) (by kernel_rfl) ?_
  repeat (go_big_quiet_step ((first | (go_at_call 46; exact near_same (HSH _)) | (go_at_call 48; exact near_same (HR _)))))
  refine wpQuiet_nil ?_
  intro wx hwx
  obtain ⟨y, hy⟩ := hwx
  subst hy
  have MD : Hid (Mid w y.w w2.heap.size (.cells #[.int .i64 k, .int .i64 mn, .int .i64 mx, .int .i64 sp, .int .i64 sl, .int .i64 li, .int .i64 gd, .int .i64 av, .int .i64 ws, .slice a L.length c] 29 (0, 0)) (.cells #[.int .i64 0, .int .i64 0, .int .i64 0, .int .i64 0, .int .i64 0, .int .i64 0, .int .i64 0, .int .i64 0, .int .i64 0, .slice none 0 0] 29 (0, 0)) (.cells #[.int .i64 k, .int .i64 mn, .int .i64 mx, .int .i64 sp, .int .i64 sl, .int .i64 li, .int .i64 gd, .int .i64 A2, .int .i64 ws, .slice a3 P.length c3'] 29 (0, 0))) := M9.out.next y.near
  have RD : Hid (WOk y.w a3 P) := R9.out.below y.near
  obtain ⟨wd, hwd⟩ : ∃ wd, y.w = wd := ⟨_, rfl⟩
  rw [hwd] at MD RD ⊢
  clear hwd y near X5 M9
  have c1 : wd.cell? ⟨w.heap.size, 1, none⟩ = some (.int .i64 mn) := cell_blk MD.out.1 1
  have c2 : wd.cell? ⟨w.heap.size, 2, none⟩ = some (.int .i64 mx) := cell_blk MD.out.1 2
  have c5 : wd.cell? ⟨w.heap.size, 5, none⟩ = some (.int .i64 li) := cell_blk MD.out.1 5
  have x0 : wd.cell? ⟨w2.heap.size, 0, none⟩ = some (.int .i64 k) := cell_blk MD.out.2.2.1 0
  have y0 := fz_blk MD.out.2.2.1 0
  have x1 : wd.cell? ⟨w2.heap.size, 1, none⟩ = some (.int .i64 mn) := cell_blk MD.out.2.2.1 1
  have y1 := fz_blk MD.out.2.2.1 1
  have x2 : wd.cell? ⟨w2.heap.size, 2, none⟩ = some (.int .i64 mx) := cell_blk MD.out.2.2.1 2
  have y2 := fz_blk MD.out.2.2.1 2
  have x3 : wd.cell? ⟨w2.heap.size, 3, none⟩ = some (.int .i64 sp) := cell_blk MD.out.2.2.1 3
  have y3 := fz_blk MD.out.2.2.1 3
  have x4 : wd.cell? ⟨w2.heap.size, 4, none⟩ = some (.int .i64 sl) := cell_blk MD.out.2.2.1 4
  have y4 := fz_blk MD.out.2.2.1 4
  have x5 : wd.cell? ⟨w2.heap.size, 5, none⟩ = some (.int .i64 li) := cell_blk MD.out.2.2.1 5
  have y5 := fz_blk MD.out.2.2.1 5
  have x6 : wd.cell? ⟨w2.heap.size, 6, none⟩ = some (.int .i64 gd) := cell_blk MD.out.2.2.1 6
  have y6 := fz_blk MD.out.2.2.1 6
  have x7 : wd.cell? ⟨w2.heap.size, 7, none⟩ = some (.int .i64 A2) := cell_blk MD.out.2.2.1 7
  have y7 := fz_blk MD.out.2.2.1 7
  have x8 : wd.cell? ⟨w2.heap.size, 8, none⟩ = some (.int .i64 ws) := cell_blk MD.out.2.2.1 8
  have y8 := fz_blk MD.out.2.2.1 8
  have x9 : wd.cell? ⟨w2.heap.size, 9, none⟩ = some (.slice a3 P.length c3') := cell_blk MD.out.2.2.1 9
  have y9 := fz_blk MD.out.2.2.1 9
  have d0 := cell_blk MD.out.2.1 0
  have e0 := fz_blk MD.out.2.1 0
  have d1 := cell_blk MD.out.2.1 1
  have e1 := fz_blk MD.out.2.1 1
  have d2 := cell_blk MD.out.2.1 2
  have e2 := fz_blk MD.out.2.1 2
  have d3 := cell_blk MD.out.2.1 3
  have e3 := fz_blk MD.out.2.1 3
  have d4 := cell_blk MD.out.2.1 4
  have e4 := fz_blk MD.out.2.1 4
  have d5 := cell_blk MD.out.2.1 5
  have e5 := fz_blk MD.out.2.1 5
  have d6 := cell_blk MD.out.2.1 6
  have e6 := fz_blk MD.out.2.1 6
  have d7 := cell_blk MD.out.2.1 7
  have e7 := fz_blk MD.out.2.1 7
  have d8 := cell_blk MD.out.2.1 8
  have e8 := fz_blk MD.out.2.1 8
  have d9 := cell_blk MD.out.2.1 9
  have e9 := fz_blk MD.out.2.1 9
  have hn := MD.out.2.2.2.2.1
  have hn1 : w.heap.size < w2.heap.size := by omega
  have hn2 : w2.heap.size < wd.heap.size := MD.out.2.2.2.2.2
  go_wp2_with (go_at_call 43; refine (HC2 _).mono ?_; rintro e w9 ⟨rfl, hw9⟩; rw [hw9]; clear hw9 w9)
  refine bodyPost_ret (v := .agg #[.int .i64 k, .int .i64 mn, .int .i64 mx, .int .i64 sp, .int .i64 sl, .int .i64 R, .int .i64 gd, .int .i64 A2, .int .i64 ws, .slice a3 P.length c3']) (by simp [results, Try.results37, go_sem, d0, d1, d2, d3, d4, d5, d6, d7, d8, d9]) rfl ⟨a3, c3', rfl, ?_, fun b h => by have := R8.out.2 b h; have := MD.out.2.2.2.2.1; omega, ?_⟩
  · exact (((((((((((RD.out).setw (fun b h => by show b ≠ w2.heap.size; have := R8.out.2 b h; omega) _).setw (fun b h => by show b ≠ w.heap.size + 1; have := R8.out.2 b h; have := MD.out.2.2.2.2.1; omega) _).setw (fun b h => by show b ≠ w.heap.size + 1; have := R8.out.2 b h; have := MD.out.2.2.2.2.1; omega) _).setw (fun b h => by show b ≠ w.heap.size + 1; have := R8.out.2 b h; have := MD.out.2.2.2.2.1; omega) _).setw (fun b h => by show b ≠ w.heap.size + 1; have := R8.out.2 b h; have := MD.out.2.2.2.2.1; omega) _).setw (fun b h => by show b ≠ w.heap.size + 1; have := R8.out.2 b h; have := MD.out.2.2.2.2.1; omega) _).setw (fun b h => by show b ≠ w.heap.size + 1; have := R8.out.2 b h; have := MD.out.2.2.2.2.1; omega) _).setw (fun b h => by show b ≠ w.heap.size + 1; have := R8.out.2 b h; have := MD.out.2.2.2.2.1; omega) _).setw (fun b h => by show b ≠ w.heap.size + 1; have := R8.out.2 b h; have := MD.out.2.2.2.2.1; omega) _).setw (fun b h => by show b ≠ w.heap.size + 1; have := R8.out.2 b h; have := MD.out.2.2.2.2.1; omega) _).setw (fun b h => by show b ≠ w.heap.size + 1; have := R8.out.2 b h; have := MD.out.2.2.2.2.1; omega) _
  · exact (((((((((((MD.out.2.2.2.1).setCell (by show w.heap.size ≤ w2.heap.size; have := MD.out.2.2.2.2.1; omega) _).setCell (Nat.le_add_right _ 1) _).setCell (Nat.le_add_right _ 1) _).setCell (Nat.le_add_right _ 1) _).setCell (Nat.le_add_right _ 1) _).setCell (Nat.le_add_right _ 1) _).setCell (Nat.le_add_right _ 1) _).setCell (Nat.le_add_right _ 1) _).setCell (Nat.le_add_right _ 1) _).setCell (Nat.le_add_right _ 1) _).setCell (Nat.le_add_right _ 1) _

theorem slope_yes (k mn mx sp sl li gd av ws : Int) (a : Option Addr) (c : Nat) (L : List (Int × Int)) (now lat r : Int) (w : World) (ha : WOk w a L) (hl : (L.length : Int) ≤ 1048577) (hk : limOk k mn mx sp sl li gd av ws L) (ht : isT now) (hs : isLat lat) (hr : isRoot li r) :
    Calls Try.prog 37 #[.agg #[.int .i64 k, .int .i64 mn, .int .i64 mx, .int .i64 sp, .int .i64 sl, .int .i64 li, .int .i64 gd, .int .i64 av, .int .i64 ws, .slice a L.length c], .int .i64 now, .int .i64 lat] w (LAns w k mn mx sp sl (slopeLim li mn mx (grad (ImplTrim.leastOf ws (pushed ws now lat L) now) (newAvg av lat)) r) gd (newAvg av lat) ws (pushed ws now lat L)) := by
  by_cases h0 : av = 0
  · exact slope_zero k mn mx sp sl li gd av ws a c L now lat r w ha hl hk ht hs hr h0
  · exact slope_some k mn mx sp sl li gd av ws a c L now lat r w ha hl hk ht hs hr h0
end Go.Proofs.Ytbdkepnjhcdpnaa.LimSlope
