/- What the program's BucketNew, Fill, Take and When answer at every bucket and time; nothing else turns. -/
import Derived.Test.YtpfnmmoojmddpadRows
import Derived.WalkKit
import Derived.WalkSmall
import Derived.BigQuiet
import Derived.Test.YtpfnmmoojmddpadBucketMath
import Derived.Test.YtpfnmmoojmddpadBucketBase
import Derived.Test.YtpfnmmoojmddpadBucketImplOk
import Derived.Test.YtpfnmmoojmddpadBucketImplFill
namespace Go.Proofs.Ytpfnmmoojmddpad.BucketImpl
open Go.RowKit BucketMath BucketBase

set_option maxHeartbeats 1000000 in
theorem impl_fill_no (b r h t now : Int) (w : World) (hn : ¬ (bOk b r h t ∧ isT now)) :
    Calls Try.prog 16 #[.agg #[.int .i64 b, .int .i64 r, .int .i64 h, .int .i64 t], .int .i64 now] w fun e w' => e = .returned (.agg #[.int .i64 0, .int .i64 0, .int .i64 0, .int .i64 0]) ∧ Below w.heap.size w w' := by
  obtain ⟨B, HB⟩ := flag (bOk b r h t)
  have HO := fun W => impl_bok b r h t B W HB
  have HW : Hid (Below w.heap.size w ((w.alloc (.cells #[.int .i64 b, .int .i64 r, .int .i64 h, .int .i64 t] 39)).alloc (.cells #[.int .i64 0, .int .i64 0, .int .i64 0, .int .i64 0] 39))) := ((Below.refl _ _).alloc (Nat.le_refl _) _).alloc (by simp) _
  cases B with
  | false =>
    clear hn
    go_enter Try.func16, Try.ntmps16
    go_wp2_with (first | (go_at_call 17; refine (HO _).mono ?_; rintro e w1 ⟨rfl, hb⟩; obtain ⟨e0, e1, sz⟩ := two4 hb; have z0 := cell_blk e1 0; have z1 := cell_blk e1 1; have z2 := cell_blk e1 2; have z3 := cell_blk e1 3; have f0 := fz_blk e1 0; have f1 := fz_blk e1 1; have f2 := fz_blk e1 2; have f3 := fz_blk e1 3))
    refine bodyPost_ret (v := .agg #[.int .i64 0, .int .i64 0, .int .i64 0, .int .i64 0]) (by simp [results, Try.results16, go_sem, z0, z1, z2, z3]) rfl ⟨rfl, ?_⟩
    have B1 := HW.out.trans (hb.mono (by simp; omega))
    exact ((((B1.setCell (le1 w) _).setCell (le1 w) _).setCell (le1 w) _).setCell (le1 w) _)
  | true =>
    have ht : now < 0 ∨ 1000000000 < now := by
      have h1 := HB.out.1 rfl
      have : ¬ isT now := fun hh => hn ⟨h1, hh⟩
      unfold isT at this
      omega
    have HT := fun W => time_no now W ht
    clear hn ht
    go_enter Try.func16, Try.ntmps16
    go_wp2_with (first | (go_at_call 17; refine (HO _).mono ?_; rintro e w1 ⟨rfl, hb⟩; obtain ⟨e0, e1, sz⟩ := two4 hb; have z0 := cell_blk e1 0; have z1 := cell_blk e1 1; have z2 := cell_blk e1 2; have z3 := cell_blk e1 3; have f0 := fz_blk e1 0; have f1 := fz_blk e1 1; have f2 := fz_blk e1 2; have f3 := fz_blk e1 3) | (go_at_call 22; refine (HT _).mono ?_; rintro e w9 ⟨rfl, hw9⟩; rw [hw9]; clear hw9 w9))
    refine bodyPost_ret (v := .agg #[.int .i64 0, .int .i64 0, .int .i64 0, .int .i64 0]) (by simp [results, Try.results16, go_sem, z0, z1, z2, z3]) rfl ⟨rfl, ?_⟩
    have B1 := HW.out.trans (hb.mono (by simp; omega))
    exact ((((B1.setCell (le1 w) _).setCell (le1 w) _).setCell (le1 w) _).setCell (le1 w) _)

set_option maxHeartbeats 1000000 in
theorem impl_fill_yes (b r h t now : Int) (w : World) (hk : bOk b r h t) (hn : isT now) :
    Calls Try.prog 16 #[.agg #[.int .i64 b, .int .i64 r, .int .i64 h, .int .i64 t], .int .i64 now] w fun e w' => e = .returned (.agg #[.int .i64 b, .int .i64 r, .int .i64 (fillH b r h t now), .int .i64 (fillT t now)]) ∧ Below w.heap.size w w' := by
  have HF := fun W hg => fill_at w.heap.size b r h t now W hg hk hn
  have hok := fill_ok hk hn
  obtain ⟨F, hF⟩ : ∃ F, fillH b r h t now = F := ⟨_, rfl⟩
  obtain ⟨T, hT⟩ : ∃ T, fillT t now = T := ⟨_, rfl⟩
  rw [hF, hT] at HF hok
  rw [hF, hT]
  have HO := fun W => impl_bok b r h t true W ⟨fun _ => hk, fun _ => rfl⟩
  have hmf : ∀ (fn : Fn) (first cap : Array Value) (w : World), (Instr.makeFunc fn first cap).run Try.prog w = .ok (.func fn first cap) w := fun _ _ _ _ => rfl
  have HW : Hid (Below w.heap.size w ((w.alloc (.cells #[.int .i64 b, .int .i64 r, .int .i64 h, .int .i64 t] 39)).alloc (.cells #[.int .i64 0, .int .i64 0, .int .i64 0, .int .i64 0] 39))) := ((Below.refl _ _).alloc (Nat.le_refl _) _).alloc (by simp) _
  unfold isT at hn
  have HT := fun W => time_yes now W (by omega) (by omega)
  unfold bOk at hok
  obtain ⟨⟨k0, k1, k2, k3, k4, k5, k6, k7⟩, k8⟩ := hok
  clear hk hn hF hT
  go_enter Try.func16, Try.ntmps16
  go_wp2_with (first | (go_at_call 17; refine (HO _).mono ?_; rintro e w1 ⟨rfl, hb⟩; obtain ⟨e0, e1, sz⟩ := two4 hb; have z0 := cell_blk e1 0; have z1 := cell_blk e1 1; have z2 := cell_blk e1 2; have z3 := cell_blk e1 3; have f0 := fz_blk e1 0; have f1 := fz_blk e1 1; have f2 := fz_blk e1 2; have f3 := fz_blk e1 3) | (go_at_call 22; refine (HT _).mono ?_; rintro e w9 ⟨rfl, hw9⟩; rw [hw9]; clear hw9 w9) | (go_at_call 31; refine (HF _ e0).mono ?_; rintro e w2 ⟨rfl, x0, xb, xs, xk⟩; have x1 := (xk (w.heap.size + 1) (by omega)).trans e1; clear z0 z1 z2 z3 f0 f1 f2 f3; have a0 := cell_blk x0 0; have a1 := cell_blk x0 1; have a2 := cell_blk x0 2; have a3 := cell_blk x0 3; have g0 := fz_blk x0 0; have g1 := fz_blk x0 1; have g2 := fz_blk x0 2; have g3 := fz_blk x0 3; have z0 := cell_blk x1 0; have z1 := cell_blk x1 1; have z2 := cell_blk x1 2; have z3 := cell_blk x1 3; have f0 := fz_blk x1 0; have f1 := fz_blk x1 1; have f2 := fz_blk x1 2; have f3 := fz_blk x1 3))
  refine bodyPost_ret (v := .agg #[.int .i64 b, .int .i64 r, .int .i64 F, .int .i64 T]) (by simp [results, Try.results16, go_sem, z0, z1, z2, z3]) rfl ⟨rfl, ?_⟩
  have B1 := (HW.out.trans (hb.mono (by simp; omega))).trans (xb.mono (Nat.le_refl _))
  exact ((((B1.setCell (le1 w) _).setCell (le1 w) _).setCell (le1 w) _).setCell (le1 w) _)

set_option maxHeartbeats 1000000 in
theorem impl_take_no (b r h t now : Int) (w : World) (hn : ¬ (bOk b r h t ∧ isT now)) :
    Calls Try.prog 18 #[.agg #[.int .i64 b, .int .i64 r, .int .i64 h, .int .i64 t], .int .i64 now] w fun e w' => e = .returned (.tuple #[.agg #[.int .i64 0, .int .i64 0, .int .i64 0, .int .i64 0], .bool false]) ∧ Below w.heap.size w w' := by
  obtain ⟨B, HB⟩ := flag (bOk b r h t)
  have HO := fun W => impl_bok b r h t B W HB
  have HW : Hid (Below w.heap.size w ((w.alloc (.cells #[.int .i64 b, .int .i64 r, .int .i64 h, .int .i64 t] 39)).alloc (.cells #[.int .i64 0, .int .i64 0, .int .i64 0, .int .i64 0] 39))) := ((Below.refl _ _).alloc (Nat.le_refl _) _).alloc (by simp) _
  cases B with
  | false =>
    clear hn
    go_enter Try.func18, Try.ntmps18
    go_wp2_with (first | (go_at_call 17; refine (HO _).mono ?_; rintro e w1 ⟨rfl, hb⟩; obtain ⟨e0, e1, sz⟩ := two4 hb; have z0 := cell_blk e1 0; have z1 := cell_blk e1 1; have z2 := cell_blk e1 2; have z3 := cell_blk e1 3; have f0 := fz_blk e1 0; have f1 := fz_blk e1 1; have f2 := fz_blk e1 2; have f3 := fz_blk e1 3))
    refine bodyPost_ret (v := .tuple #[.agg #[.int .i64 0, .int .i64 0, .int .i64 0, .int .i64 0], .bool false]) (by simp [results, Try.results18, go_sem, z0, z1, z2, z3]) rfl ⟨rfl, ?_⟩
    have B1 := HW.out.trans (hb.mono (by simp; omega))
    exact ((((B1.setCell (le1 w) _).setCell (le1 w) _).setCell (le1 w) _).setCell (le1 w) _)
  | true =>
    have ht : now < 0 ∨ 1000000000 < now := by
      have h1 := HB.out.1 rfl
      have : ¬ isT now := fun hh => hn ⟨h1, hh⟩
      unfold isT at this
      omega
    have HT := fun W => time_no now W ht
    clear hn ht
    go_enter Try.func18, Try.ntmps18
    go_wp2_with (first | (go_at_call 17; refine (HO _).mono ?_; rintro e w1 ⟨rfl, hb⟩; obtain ⟨e0, e1, sz⟩ := two4 hb; have z0 := cell_blk e1 0; have z1 := cell_blk e1 1; have z2 := cell_blk e1 2; have z3 := cell_blk e1 3; have f0 := fz_blk e1 0; have f1 := fz_blk e1 1; have f2 := fz_blk e1 2; have f3 := fz_blk e1 3) | (go_at_call 22; refine (HT _).mono ?_; rintro e w9 ⟨rfl, hw9⟩; rw [hw9]; clear hw9 w9))
    refine bodyPost_ret (v := .tuple #[.agg #[.int .i64 0, .int .i64 0, .int .i64 0, .int .i64 0], .bool false]) (by simp [results, Try.results18, go_sem, z0, z1, z2, z3]) rfl ⟨rfl, ?_⟩
    have B1 := HW.out.trans (hb.mono (by simp; omega))
    exact ((((B1.setCell (le1 w) _).setCell (le1 w) _).setCell (le1 w) _).setCell (le1 w) _)

set_option maxHeartbeats 1000000 in
theorem impl_take_yes (b r h t now F T : Int) (w : World) (hk : bOk b r h t) (hn : isT now) (hF : fillH b r h t now = F) (hT : fillT t now = T) :
    Calls Try.prog 18 #[.agg #[.int .i64 b, .int .i64 r, .int .i64 h, .int .i64 t], .int .i64 now] w fun e w' => e = .returned (if 1000 ≤ F then .tuple #[.agg #[.int .i64 b, .int .i64 r, .int .i64 (F - 1000), .int .i64 T], .bool true] else .tuple #[.agg #[.int .i64 b, .int .i64 r, .int .i64 F, .int .i64 T], .bool false]) ∧ Below w.heap.size w w' := by
  have HF := fun W hg => fill_at w.heap.size b r h t now W hg hk hn
  have hok := fill_ok hk hn
  rw [hF, hT] at HF hok
  have HO := fun W => impl_bok b r h t true W ⟨fun _ => hk, fun _ => rfl⟩
  have hmf : ∀ (fn : Fn) (first cap : Array Value) (w : World), (Instr.makeFunc fn first cap).run Try.prog w = .ok (.func fn first cap) w := fun _ _ _ _ => rfl
  have HW : Hid (Below w.heap.size w ((w.alloc (.cells #[.int .i64 b, .int .i64 r, .int .i64 h, .int .i64 t] 39)).alloc (.cells #[.int .i64 0, .int .i64 0, .int .i64 0, .int .i64 0] 39))) := ((Below.refl _ _).alloc (Nat.le_refl _) _).alloc (by simp) _
  unfold isT at hn
  have HT := fun W => time_yes now W (by omega) (by omega)
  unfold bOk at hok
  obtain ⟨⟨k0, k1, k2, k3, k4, k5, k6, k7⟩, k8⟩ := hok
  clear hk hn hF hT
  by_cases h1 : 1000 ≤ F
  · rw [if_pos h1]
    have HTK : decide (1000 ≤ F) = true := by simp; omega
    have e5 : IntKind.i64.wrap (F - 1000) = F - 1000 := by rw [IntKind.wrap_i64]; omega
    clear k0 k1 k2 k3 k4 k5 k6 k7 k8 h1
    go_enter Try.func18, Try.ntmps18
    go_wp2_with (first | (go_at_call 17; refine (HO _).mono ?_; rintro e w1 ⟨rfl, hb⟩; obtain ⟨e0, e1, sz⟩ := two4 hb; have z0 := cell_blk e1 0; have z1 := cell_blk e1 1; have z2 := cell_blk e1 2; have z3 := cell_blk e1 3; have f0 := fz_blk e1 0; have f1 := fz_blk e1 1; have f2 := fz_blk e1 2; have f3 := fz_blk e1 3) | (go_at_call 22; refine (HT _).mono ?_; rintro e w9 ⟨rfl, hw9⟩; rw [hw9]; clear hw9 w9) | (go_at_call 31; refine (HF _ e0).mono ?_; rintro e w2 ⟨rfl, x0, xb, xs, xk⟩; have x1 := (xk (w.heap.size + 1) (by omega)).trans e1; clear z0 z1 z2 z3 f0 f1 f2 f3; have a0 := cell_blk x0 0; have a1 := cell_blk x0 1; have a2 := cell_blk x0 2; have a3 := cell_blk x0 3; have g0 := fz_blk x0 0; have g1 := fz_blk x0 1; have g2 := fz_blk x0 2; have g3 := fz_blk x0 3; have z0 := cell_blk x1 0; have z1 := cell_blk x1 1; have z2 := cell_blk x1 2; have z3 := cell_blk x1 3; have f0 := fz_blk x1 0; have f1 := fz_blk x1 1; have f2 := fz_blk x1 2; have f3 := fz_blk x1 3) | (go_at_call 33; refine (has_token w.heap.size F true _ a2 HTK).mono ?_; rintro e w9 ⟨rfl, hw9⟩; rw [hw9]; clear hw9 w9))
    refine bodyPost_ret (v := .tuple #[.agg #[.int .i64 b, .int .i64 r, .int .i64 (F - 1000), .int .i64 T], .bool true]) (by simp [results, Try.results18, go_sem, z0, z1, z2, z3]) rfl ⟨rfl, ?_⟩
    have B1 := (HW.out.trans (hb.mono (by simp; omega))).trans (xb.mono (Nat.le_refl _))
    exact (((((B1.setCell (Nat.le_refl _) _).setCell (le1 w) _).setCell (le1 w) _).setCell (le1 w) _).setCell (le1 w) _)
  · rw [if_neg h1]
    have HTK : decide (1000 ≤ F) = false := by simp; omega
    clear k0 k1 k2 k3 k4 k5 k6 k7 k8 h1
    go_enter Try.func18, Try.ntmps18
    go_wp2_with (first | (go_at_call 17; refine (HO _).mono ?_; rintro e w1 ⟨rfl, hb⟩; obtain ⟨e0, e1, sz⟩ := two4 hb; have z0 := cell_blk e1 0; have z1 := cell_blk e1 1; have z2 := cell_blk e1 2; have z3 := cell_blk e1 3; have f0 := fz_blk e1 0; have f1 := fz_blk e1 1; have f2 := fz_blk e1 2; have f3 := fz_blk e1 3) | (go_at_call 22; refine (HT _).mono ?_; rintro e w9 ⟨rfl, hw9⟩; rw [hw9]; clear hw9 w9) | (go_at_call 31; refine (HF _ e0).mono ?_; rintro e w2 ⟨rfl, x0, xb, xs, xk⟩; have x1 := (xk (w.heap.size + 1) (by omega)).trans e1; clear z0 z1 z2 z3 f0 f1 f2 f3; have a0 := cell_blk x0 0; have a1 := cell_blk x0 1; have a2 := cell_blk x0 2; have a3 := cell_blk x0 3; have g0 := fz_blk x0 0; have g1 := fz_blk x0 1; have g2 := fz_blk x0 2; have g3 := fz_blk x0 3; have z0 := cell_blk x1 0; have z1 := cell_blk x1 1; have z2 := cell_blk x1 2; have z3 := cell_blk x1 3; have f0 := fz_blk x1 0; have f1 := fz_blk x1 1; have f2 := fz_blk x1 2; have f3 := fz_blk x1 3) | (go_at_call 33; refine (has_token w.heap.size F false _ a2 HTK).mono ?_; rintro e w9 ⟨rfl, hw9⟩; rw [hw9]; clear hw9 w9))
    refine bodyPost_ret (v := .tuple #[.agg #[.int .i64 b, .int .i64 r, .int .i64 F, .int .i64 T], .bool false]) (by simp [results, Try.results18, go_sem, z0, z1, z2, z3]) rfl ⟨rfl, ?_⟩
    have B1 := (HW.out.trans (hb.mono (by simp; omega))).trans (xb.mono (Nat.le_refl _))
    exact ((((B1.setCell (le1 w) _).setCell (le1 w) _).setCell (le1 w) _).setCell (le1 w) _)

set_option maxHeartbeats 1000000 in
theorem impl_when_no (b r h t now : Int) (w : World) (hn : ¬ (bOk b r h t ∧ isT now)) :
    Calls Try.prog 15 #[.agg #[.int .i64 b, .int .i64 r, .int .i64 h, .int .i64 t], .int .i64 now] w fun e w' => e = .returned (.int .i64 (-1)) ∧ Below w.heap.size w w' := by
  obtain ⟨B, HB⟩ := flag (bOk b r h t)
  have HO := fun W => impl_bok b r h t B W HB
  have HW : Hid (Below w.heap.size w (w.alloc (.cells #[.int .i64 b, .int .i64 r, .int .i64 h, .int .i64 t] 39))) := (Below.refl _ _).alloc (Nat.le_refl _) _
  cases B with
  | false =>
    clear hn
    go_enter Try.func15, Try.ntmps15
    go_wp2_with (first | (go_at_call 17; refine (HO _).mono ?_; rintro e w1 ⟨rfl, hb⟩; have e0 := kept (heap_alloc_new w (.cells #[.int .i64 b, .int .i64 r, .int .i64 h, .int .i64 t] 39)) hb; have sz := (Array.getElem?_eq_some_iff.1 e0).1))
    go_ret
    exact ⟨rfl, HW.out.trans (hb.mono (by simp))⟩
  | true =>
    have ht : now < 0 ∨ 1000000000 < now := by
      have h1 := HB.out.1 rfl
      have : ¬ isT now := fun hh => hn ⟨h1, hh⟩
      unfold isT at this
      omega
    have HT := fun W => time_no now W ht
    clear hn ht
    go_enter Try.func15, Try.ntmps15
    go_wp2_with (first | (go_at_call 17; refine (HO _).mono ?_; rintro e w1 ⟨rfl, hb⟩; have e0 := kept (heap_alloc_new w (.cells #[.int .i64 b, .int .i64 r, .int .i64 h, .int .i64 t] 39)) hb; have sz := (Array.getElem?_eq_some_iff.1 e0).1) | (go_at_call 22; refine (HT _).mono ?_; rintro e w9 ⟨rfl, hw9⟩; rw [hw9]; clear hw9 w9))
    go_ret
    exact ⟨rfl, HW.out.trans (hb.mono (by simp))⟩

set_option maxHeartbeats 1000000 in
theorem impl_when_yes (b r h t now : Int) (w : World) (hk : bOk b r h t) (hn : isT now) :
    Calls Try.prog 15 #[.agg #[.int .i64 b, .int .i64 r, .int .i64 h, .int .i64 t], .int .i64 now] w fun e w' => e = .returned (.int .i64 (whenOf b r h t now)) ∧ Below w.heap.size w w' := by
  have HF := fun W hg => fill_at w.heap.size b r h t now W hg hk hn
  have hok := fill_ok hk hn
  obtain ⟨F, hF⟩ : ∃ F, fillH b r h t now = F := ⟨_, rfl⟩
  obtain ⟨T, hT⟩ : ∃ T, fillT t now = T := ⟨_, rfl⟩
  rw [hF, hT] at HF hok
  unfold whenOf
  rw [hF, hT]
  have HO := fun W => impl_bok b r h t true W ⟨fun _ => hk, fun _ => rfl⟩
  have hmf : ∀ (fn : Fn) (first cap : Array Value) (w : World), (Instr.makeFunc fn first cap).run Try.prog w = .ok (.func fn first cap) w := fun _ _ _ _ => rfl
  have HW : Hid (Below w.heap.size w (w.alloc (.cells #[.int .i64 b, .int .i64 r, .int .i64 h, .int .i64 t] 39))) := (Below.refl _ _).alloc (Nat.le_refl _) _
  unfold isT at hn
  have HT := fun W => time_yes now W (by omega) (by omega)
  unfold bOk at hok
  obtain ⟨⟨k0, k1, k2, k3, k4, k5, k6, k7⟩, k8⟩ := hok
  clear hk hn hF hT
  by_cases c1 : 1000 ≤ F
  · rw [if_neg (by omega), if_pos c1]
    have HTK : decide (1000 ≤ F) = true := by simp; omega
    clear k0 k1 k2 k3 k4 k5 k6 k7 k8 c1
    go_enter Try.func15, Try.ntmps15
    go_wp2_with (first | (go_at_call 17; refine (HO _).mono ?_; rintro e w1 ⟨rfl, hb⟩; have e0 := kept (heap_alloc_new w (.cells #[.int .i64 b, .int .i64 r, .int .i64 h, .int .i64 t] 39)) hb; have sz := (Array.getElem?_eq_some_iff.1 e0).1) | (go_at_call 22; refine (HT _).mono ?_; rintro e w9 ⟨rfl, hw9⟩; rw [hw9]; clear hw9 w9) | (go_at_call 31; refine (HF _ e0).mono ?_; rintro e w2 ⟨rfl, x0, xb, xs, xk⟩; have a0 := cell_blk x0 0; have a1 := cell_blk x0 1; have a2 := cell_blk x0 2; have a3 := cell_blk x0 3) | (go_at_call 33; refine (has_token w.heap.size F true _ a2 HTK).mono ?_; rintro e w9 ⟨rfl, hw9⟩; rw [hw9]; clear hw9 w9))
    go_ret
    exact ⟨rfl, ((HW.out.trans (hb.mono (by simp))).trans xb)⟩
  have HTK : decide (1000 ≤ F) = false := by simp; omega
  by_cases c2 : b = 0 ∨ r = 0
  · have hz : (if b < 1 then (-1 : Int) else if 1000 ≤ F then T else if r = 0 then -1 else if 1000000000 < nextAt r F T then -1 else nextAt r F T) = -1 := by
      rw [if_neg c1]
      by_cases hb : b < 1
      · rw [if_pos hb]
      · rw [if_neg hb, if_pos (by omega)]
    rw [hz]
    have HWN := c2
    clear k0 k1 k2 k3 k4 k5 k6 k7 k8 c1 c2 hz
    go_enter Try.func15, Try.ntmps15
    go_wp2_with (first | (go_at_call 17; refine (HO _).mono ?_; rintro e w1 ⟨rfl, hb⟩; have e0 := kept (heap_alloc_new w (.cells #[.int .i64 b, .int .i64 r, .int .i64 h, .int .i64 t] 39)) hb; have sz := (Array.getElem?_eq_some_iff.1 e0).1) | (go_at_call 22; refine (HT _).mono ?_; rintro e w9 ⟨rfl, hw9⟩; rw [hw9]; clear hw9 w9) | (go_at_call 31; refine (HF _ e0).mono ?_; rintro e w2 ⟨rfl, x0, xb, xs, xk⟩; have a0 := cell_blk x0 0; have a1 := cell_blk x0 1; have a2 := cell_blk x0 2; have a3 := cell_blk x0 3) | (go_at_call 33; refine (has_token w.heap.size F false _ a2 HTK).mono ?_; rintro e w9 ⟨rfl, hw9⟩; rw [hw9]; clear hw9 w9) | (go_at_call 34; refine (wait_none w.heap.size b r _ a0 a1 HWN).mono ?_; rintro e w9 ⟨rfl, hw9⟩; rw [hw9]; clear hw9 w9))
    go_ret
    exact ⟨rfl, ((HW.out.trans (hb.mono (by simp))).trans xb)⟩
  have kb : ¬ b = 0 := by omega
  have kr : ¬ r = 0 := by omega
  rw [if_neg (by omega), if_neg c1, if_neg kr]
  have hx := next_le (r := r) (F := F) (by omega) k3 k4 (by omega)
  have u1 : IntKind.i64.wrap (1000 - F) = 1000 - F := by rw [IntKind.wrap_i64]; omega
  have u2 : IntKind.i64.wrap (1000 - F + r) = 1000 - F + r := by rw [IntKind.wrap_i64]; omega
  have u3 : IntKind.i64.wrap (1000 - F + r - 1) = 1000 - F + r - 1 := by rw [IntKind.wrap_i64]; omega
  have u4 : IntKind.i64.wrap ((1000 - F + r - 1).tdiv r) = (1000 - F + r - 1).tdiv r := by rw [IntKind.wrap_i64]; omega
  have u5 : IntKind.i64.wrap (T + (1000 - F + r - 1).tdiv r) = T + (1000 - F + r - 1).tdiv r := by rw [IntKind.wrap_i64]; omega
  by_cases c3 : 1000000000 < nextAt r F T
  · rw [if_pos c3]
    have d3 : decide (1000000000 < T + (1000 - F + r - 1).tdiv r) = true := by simpa [nextAt] using c3
    clear k0 k1 k2 k3 k4 k5 k6 k7 k8 c1 c2 c3 hx
    go_enter Try.func15, Try.ntmps15
    go_wp2_with (first | (go_at_call 17; refine (HO _).mono ?_; rintro e w1 ⟨rfl, hb⟩; have e0 := kept (heap_alloc_new w (.cells #[.int .i64 b, .int .i64 r, .int .i64 h, .int .i64 t] 39)) hb; have sz := (Array.getElem?_eq_some_iff.1 e0).1) | (go_at_call 22; refine (HT _).mono ?_; rintro e w9 ⟨rfl, hw9⟩; rw [hw9]; clear hw9 w9) | (go_at_call 31; refine (HF _ e0).mono ?_; rintro e w2 ⟨rfl, x0, xb, xs, xk⟩; have a0 := cell_blk x0 0; have a1 := cell_blk x0 1; have a2 := cell_blk x0 2; have a3 := cell_blk x0 3) | (go_at_call 33; refine (has_token w.heap.size F false _ a2 HTK).mono ?_; rintro e w9 ⟨rfl, hw9⟩; rw [hw9]; clear hw9 w9) | (go_at_call 34; refine (wait_some w.heap.size b r F ((1000 - F + r - 1).tdiv r) _ a0 a1 a2 kb kr u1 u2 u3 u4).mono ?_; rintro e w9 ⟨rfl, nw, hw9⟩; have y3 : (w2.drewN nw).cell? ⟨w.heap.size, 3, none⟩ = some (.int .i64 T) := a3; rw [hw9]; clear hw9 w9))
    go_ret
    exact ⟨rfl, below_drewN ((HW.out.trans (hb.mono (by simp))).trans xb) _⟩
  · rw [if_neg c3]
    have d3 : decide (1000000000 < T + (1000 - F + r - 1).tdiv r) = false := by simpa [nextAt] using c3
    clear k0 k1 k2 k3 k4 k5 k6 k7 k8 c1 c2 c3 hx
    go_enter Try.func15, Try.ntmps15
    go_wp2_with (first | (go_at_call 17; refine (HO _).mono ?_; rintro e w1 ⟨rfl, hb⟩; have e0 := kept (heap_alloc_new w (.cells #[.int .i64 b, .int .i64 r, .int .i64 h, .int .i64 t] 39)) hb; have sz := (Array.getElem?_eq_some_iff.1 e0).1) | (go_at_call 22; refine (HT _).mono ?_; rintro e w9 ⟨rfl, hw9⟩; rw [hw9]; clear hw9 w9) | (go_at_call 31; refine (HF _ e0).mono ?_; rintro e w2 ⟨rfl, x0, xb, xs, xk⟩; have a0 := cell_blk x0 0; have a1 := cell_blk x0 1; have a2 := cell_blk x0 2; have a3 := cell_blk x0 3) | (go_at_call 33; refine (has_token w.heap.size F false _ a2 HTK).mono ?_; rintro e w9 ⟨rfl, hw9⟩; rw [hw9]; clear hw9 w9) | (go_at_call 34; refine (wait_some w.heap.size b r F ((1000 - F + r - 1).tdiv r) _ a0 a1 a2 kb kr u1 u2 u3 u4).mono ?_; rintro e w9 ⟨rfl, nw, hw9⟩; have y3 : (w2.drewN nw).cell? ⟨w.heap.size, 3, none⟩ = some (.int .i64 T) := a3; rw [hw9]; clear hw9 w9))
    go_ret
    exact ⟨rfl, below_drewN ((HW.out.trans (hb.mono (by simp))).trans xb) _⟩
end Go.Proofs.Ytpfnmmoojmddpad.BucketImpl
