/- What the model's Take and When answer at every bucket and time; nothing else turns. -/
import Derived.Test.YtpfnmmoojmddpaiRows
import Derived.WalkKit
import Derived.WalkSmall
import Derived.BigQuiet
import Derived.Test.YtpfnmmoojmddpaiBucketMath
import Derived.Test.YtpfnmmoojmddpaiBucketWalks
import Derived.Test.YtpfnmmoojmddpaiBucketFill
namespace Go.Proofs.Ytpfnmmoojmddpai.BucketEnds
open Go.RowKit BucketMath BucketWalks BucketFill

theorem kept {w w' : World} {g : Nat} {o : Obj} (h : w.heap[g]? = some o) (hb : Below w.heap.size w w') : w'.heap[g]? = some o := (hb.block g (Array.getElem?_eq_some_iff.1 h).1).trans h
theorem kept1 {w : World} {g : Nat} {o q : Obj} (h : w.heap[g]? = some o) : (w.alloc q).heap[g]? = some o := (Below.heap_alloc _ _ _ (Array.getElem?_eq_some_iff.1 h).1).trans h

set_option maxHeartbeats 1000000 in
theorem spec_take_no (b r h t now : Int) (w : World) (hn : ¬ (bOk b r h t ∧ isT now)) :
    Calls Try.prog 10 #[.agg #[.int .i64 b, .int .i64 r, .int .i64 h, .int .i64 t], .int .i64 now] w fun e w' => e = .returned (.tuple #[.agg #[.int .i64 0, .int .i64 0, .int .i64 0, .int .i64 0], .bool false]) ∧ Below w.heap.size w w' := by
  obtain ⟨B, HB⟩ := flag (bOk b r h t)
  have HF := fun W => spec_fill_no b r h t now W hn
  have HO := fun W => spec_bok b r h t B W HB
  have HW : Hid (Below w.heap.size w ((w.alloc (.cells #[.int .i64 b, .int .i64 r, .int .i64 h, .int .i64 t] 24)).alloc (.cells #[.int .i64 0, .int .i64 0, .int .i64 0, .int .i64 0] 24))) := ((Below.refl _ _).alloc (Nat.le_refl _) _).alloc (by simp) _
  cases B with
  | false =>
    clear hn
    go_enter Try.func10, Try.ntmps10
    go_wp2_with (first | (go_at_call 6; refine (HF _).mono ?_; rintro e w1 ⟨rfl, hb1⟩; obtain ⟨e0, e1, sz⟩ := two4 hb1; have p0 := kept1 (q := .cells #[.int .i64 0, .int .i64 0, .int .i64 0, .int .i64 0] 24) e0; have p1 := kept1 (q := .cells #[.int .i64 0, .int .i64 0, .int .i64 0, .int .i64 0] 24) e1; have p2 := heap_alloc_new w1 (.cells #[.int .i64 0, .int .i64 0, .int .i64 0, .int .i64 0] 24); have pc0 := cell_blk p0 0; have pc1 := cell_blk p0 1; have pc2 := cell_blk p0 2; have pc3 := cell_blk p0 3) | (go_at_call 14; refine (HO _).mono ?_; rintro e w2 ⟨rfl, hb2⟩; have r0 := kept p0 hb2; have r1 := kept p1 hb2; have r2 := kept p2 hb2; have rz0 := cell_blk r1 0; have rz1 := cell_blk r1 1; have rz2 := cell_blk r1 2; have rz3 := cell_blk r1 3; have rzf0 := fz_blk r1 0; have rzf1 := fz_blk r1 1; have rzf2 := fz_blk r1 2; have rzf3 := fz_blk r1 3; have ro0 := cell_blk r2 0; have ro1 := cell_blk r2 1; have ro2 := cell_blk r2 2; have ro3 := cell_blk r2 3; have rof0 := fz_blk r2 0; have rof1 := fz_blk r2 1; have rof2 := fz_blk r2 2; have rof3 := fz_blk r2 3))
    refine bodyPost_ret (v := .tuple #[.agg #[.int .i64 0, .int .i64 0, .int .i64 0, .int .i64 0], .bool false]) (by simp [results, Try.results10, go_sem, rz0, rz1, rz2, rz3]) rfl ⟨rfl, ?_⟩
    have B1 := HW.out.trans (hb1.mono (by simp; omega))
    have B2 := (B1.alloc B1.size (.cells #[.int .i64 0, .int .i64 0, .int .i64 0, .int .i64 0] 24)).trans (hb2.mono (by simp; omega))
    exact ((((B2.setCell (le1 w) _).setCell (le1 w) _).setCell (le1 w) _).setCell (le1 w) _)
  | true =>
    have ht : now < 0 ∨ 1000000000 < now := by
      have h1 := HB.out.1 rfl
      have : ¬ isT now := fun hh => hn ⟨h1, hh⟩
      unfold isT at this
      omega
    have HT := fun W => time_no now W ht
    clear hn ht
    go_enter Try.func10, Try.ntmps10
    go_wp2_with (first | (go_at_call 6; refine (HF _).mono ?_; rintro e w1 ⟨rfl, hb1⟩; obtain ⟨e0, e1, sz⟩ := two4 hb1; have p0 := kept1 (q := .cells #[.int .i64 0, .int .i64 0, .int .i64 0, .int .i64 0] 24) e0; have p1 := kept1 (q := .cells #[.int .i64 0, .int .i64 0, .int .i64 0, .int .i64 0] 24) e1; have p2 := heap_alloc_new w1 (.cells #[.int .i64 0, .int .i64 0, .int .i64 0, .int .i64 0] 24); have pc0 := cell_blk p0 0; have pc1 := cell_blk p0 1; have pc2 := cell_blk p0 2; have pc3 := cell_blk p0 3) | (go_at_call 14; refine (HO _).mono ?_; rintro e w2 ⟨rfl, hb2⟩; have r0 := kept p0 hb2; have r1 := kept p1 hb2; have r2 := kept p2 hb2; have rz0 := cell_blk r1 0; have rz1 := cell_blk r1 1; have rz2 := cell_blk r1 2; have rz3 := cell_blk r1 3; have rzf0 := fz_blk r1 0; have rzf1 := fz_blk r1 1; have rzf2 := fz_blk r1 2; have rzf3 := fz_blk r1 3; have ro0 := cell_blk r2 0; have ro1 := cell_blk r2 1; have ro2 := cell_blk r2 2; have ro3 := cell_blk r2 3; have rof0 := fz_blk r2 0; have rof1 := fz_blk r2 1; have rof2 := fz_blk r2 2; have rof3 := fz_blk r2 3) | (go_at_call 15; refine (HT _).mono ?_; rintro e w9 ⟨rfl, hw9⟩; rw [hw9]; clear hw9 w9))
    refine bodyPost_ret (v := .tuple #[.agg #[.int .i64 0, .int .i64 0, .int .i64 0, .int .i64 0], .bool false]) (by simp [results, Try.results10, go_sem, rz0, rz1, rz2, rz3]) rfl ⟨rfl, ?_⟩
    have B1 := HW.out.trans (hb1.mono (by simp; omega))
    have B2 := (B1.alloc B1.size (.cells #[.int .i64 0, .int .i64 0, .int .i64 0, .int .i64 0] 24)).trans (hb2.mono (by simp; omega))
    exact ((((B2.setCell (le1 w) _).setCell (le1 w) _).setCell (le1 w) _).setCell (le1 w) _)

set_option maxHeartbeats 1000000 in
theorem spec_take_yes (b r h t now F T : Int) (w : World) (hk : bOk b r h t) (hn : isT now) (hF : fillH b r h t now = F) (hT : fillT t now = T) :
    Calls Try.prog 10 #[.agg #[.int .i64 b, .int .i64 r, .int .i64 h, .int .i64 t], .int .i64 now] w fun e w' => e = .returned (if 1000 ≤ F then .tuple #[.agg #[.int .i64 b, .int .i64 r, .int .i64 (F - 1000), .int .i64 T], .bool true] else .tuple #[.agg #[.int .i64 b, .int .i64 r, .int .i64 F, .int .i64 T], .bool false]) ∧ Below w.heap.size w w' := by
  have HF := fun W => spec_fill_yes b r h t now W hk hn
  have hok := (fill_ok hk hn).1
  rw [hF, hT] at HF hok
  have HO := fun W => spec_bok b r h t true W ⟨fun _ => hk, fun _ => rfl⟩
  have HW : Hid (Below w.heap.size w ((w.alloc (.cells #[.int .i64 b, .int .i64 r, .int .i64 h, .int .i64 t] 24)).alloc (.cells #[.int .i64 0, .int .i64 0, .int .i64 0, .int .i64 0] 24))) := ((Below.refl _ _).alloc (Nat.le_refl _) _).alloc (by simp) _
  unfold isT at hn
  have HT := fun W => time_yes now W (by omega) (by omega)
  unfold bOk at hok
  by_cases h1 : 1000 ≤ F
  · rw [if_pos h1]
    have n1 : ¬ F < 1000 := by omega
    have e5 : IntKind.i64.wrap (F - 1000) = F - 1000 := by rw [IntKind.wrap_i64]; omega
    clear hn hok hk hF hT h1
    go_enter Try.func10, Try.ntmps10
    go_wp2_with (first | (go_at_call 6; refine (HF _).mono ?_; rintro e w1 ⟨rfl, hb1⟩; obtain ⟨e0, e1, sz⟩ := two4 hb1; have p0 := kept1 (q := .cells #[.int .i64 b, .int .i64 r, .int .i64 F, .int .i64 T] 24) e0; have p1 := kept1 (q := .cells #[.int .i64 b, .int .i64 r, .int .i64 F, .int .i64 T] 24) e1; have p2 := heap_alloc_new w1 (.cells #[.int .i64 b, .int .i64 r, .int .i64 F, .int .i64 T] 24); have pc0 := cell_blk p0 0; have pc1 := cell_blk p0 1; have pc2 := cell_blk p0 2; have pc3 := cell_blk p0 3) | (go_at_call 14; refine (HO _).mono ?_; rintro e w2 ⟨rfl, hb2⟩; have r0 := kept p0 hb2; have r1 := kept p1 hb2; have r2 := kept p2 hb2; have rz0 := cell_blk r1 0; have rz1 := cell_blk r1 1; have rz2 := cell_blk r1 2; have rz3 := cell_blk r1 3; have rzf0 := fz_blk r1 0; have rzf1 := fz_blk r1 1; have rzf2 := fz_blk r1 2; have rzf3 := fz_blk r1 3; have ro0 := cell_blk r2 0; have ro1 := cell_blk r2 1; have ro2 := cell_blk r2 2; have ro3 := cell_blk r2 3; have rof0 := fz_blk r2 0; have rof1 := fz_blk r2 1; have rof2 := fz_blk r2 2; have rof3 := fz_blk r2 3) | (go_at_call 15; refine (HT _).mono ?_; rintro e w9 ⟨rfl, hw9⟩; rw [hw9]; clear hw9 w9))
    refine bodyPost_ret (v := .tuple #[.agg #[.int .i64 b, .int .i64 r, .int .i64 (F - 1000), .int .i64 T], .bool true]) (by simp [results, Try.results10, go_sem, rz0, rz1, rz2, rz3]) rfl ⟨rfl, ?_⟩
    have B1 := HW.out.trans (hb1.mono (by simp; omega))
    have B2 := (B1.alloc B1.size (.cells #[.int .i64 b, .int .i64 r, .int .i64 F, .int .i64 T] 24)).trans (hb2.mono (by simp; omega))
    exact (((((B2.setCell (by show w.heap.size ≤ w1.heap.size; omega) _).setCell (le1 w) _).setCell (le1 w) _).setCell (le1 w) _).setCell (le1 w) _)
  · rw [if_neg h1]
    have n1 : F < 1000 := by omega
    have d1 : decide (F < 1000) = true := by simp; omega
    clear hn hok hk hF hT h1
    go_enter Try.func10, Try.ntmps10
    go_wp2_with (first | (go_at_call 6; refine (HF _).mono ?_; rintro e w1 ⟨rfl, hb1⟩; obtain ⟨e0, e1, sz⟩ := two4 hb1; have p0 := kept1 (q := .cells #[.int .i64 b, .int .i64 r, .int .i64 F, .int .i64 T] 24) e0; have p1 := kept1 (q := .cells #[.int .i64 b, .int .i64 r, .int .i64 F, .int .i64 T] 24) e1; have p2 := heap_alloc_new w1 (.cells #[.int .i64 b, .int .i64 r, .int .i64 F, .int .i64 T] 24); have pc0 := cell_blk p0 0; have pc1 := cell_blk p0 1; have pc2 := cell_blk p0 2; have pc3 := cell_blk p0 3) | (go_at_call 14; refine (HO _).mono ?_; rintro e w2 ⟨rfl, hb2⟩; have r0 := kept p0 hb2; have r1 := kept p1 hb2; have r2 := kept p2 hb2; have rz0 := cell_blk r1 0; have rz1 := cell_blk r1 1; have rz2 := cell_blk r1 2; have rz3 := cell_blk r1 3; have rzf0 := fz_blk r1 0; have rzf1 := fz_blk r1 1; have rzf2 := fz_blk r1 2; have rzf3 := fz_blk r1 3; have ro0 := cell_blk r2 0; have ro1 := cell_blk r2 1; have ro2 := cell_blk r2 2; have ro3 := cell_blk r2 3; have rof0 := fz_blk r2 0; have rof1 := fz_blk r2 1; have rof2 := fz_blk r2 2; have rof3 := fz_blk r2 3) | (go_at_call 15; refine (HT _).mono ?_; rintro e w9 ⟨rfl, hw9⟩; rw [hw9]; clear hw9 w9))
    refine bodyPost_ret (v := .tuple #[.agg #[.int .i64 b, .int .i64 r, .int .i64 F, .int .i64 T], .bool false]) (by simp [results, Try.results10, go_sem, rz0, rz1, rz2, rz3]) rfl ⟨rfl, ?_⟩
    have B1 := HW.out.trans (hb1.mono (by simp; omega))
    have B2 := (B1.alloc B1.size (.cells #[.int .i64 b, .int .i64 r, .int .i64 F, .int .i64 T] 24)).trans (hb2.mono (by simp; omega))
    exact ((((B2.setCell (le1 w) _).setCell (le1 w) _).setCell (le1 w) _).setCell (le1 w) _)

set_option maxHeartbeats 1000000 in
theorem spec_when_no (b r h t now : Int) (w : World) (hn : ¬ (bOk b r h t ∧ isT now)) :
    Calls Try.prog 12 #[.agg #[.int .i64 b, .int .i64 r, .int .i64 h, .int .i64 t], .int .i64 now] w fun e w' => e = .returned (.int .i64 (-1)) ∧ Below w.heap.size w w' := by
  obtain ⟨B, HB⟩ := flag (bOk b r h t)
  have HO := fun W => spec_bok b r h t B W HB
  have HW : Hid (Below w.heap.size w (w.alloc (.cells #[.int .i64 b, .int .i64 r, .int .i64 h, .int .i64 t] 24))) := (Below.refl _ _).alloc (Nat.le_refl _) _
  cases B with
  | false =>
    clear hn
    go_enter Try.func12, Try.ntmps12
    go_wp2_with (go_at_call 14; refine (HO _).mono ?_; rintro e w1 ⟨rfl, hb1⟩; have e0 := kept (heap_alloc_new w (.cells #[.int .i64 b, .int .i64 r, .int .i64 h, .int .i64 t] 24)) hb1; have sz := (Array.getElem?_eq_some_iff.1 e0).1; have pc0 := cell_blk e0 0; have pc1 := cell_blk e0 1; have pc2 := cell_blk e0 2; have pc3 := cell_blk e0 3)
    go_ret
    exact ⟨rfl, HW.out.trans (hb1.mono (by simp))⟩
  | true =>
    have ht : now < 0 ∨ 1000000000 < now := by
      have h1 := HB.out.1 rfl
      have : ¬ isT now := fun hh => hn ⟨h1, hh⟩
      unfold isT at this
      omega
    have HT := fun W => time_no now W ht
    clear hn ht
    go_enter Try.func12, Try.ntmps12
    go_wp2_with (first | (go_at_call 14; refine (HO _).mono ?_; rintro e w1 ⟨rfl, hb1⟩; have e0 := kept (heap_alloc_new w (.cells #[.int .i64 b, .int .i64 r, .int .i64 h, .int .i64 t] 24)) hb1; have sz := (Array.getElem?_eq_some_iff.1 e0).1; have pc0 := cell_blk e0 0; have pc1 := cell_blk e0 1; have pc2 := cell_blk e0 2; have pc3 := cell_blk e0 3) | (go_at_call 15; refine (HT _).mono ?_; rintro e w9 ⟨rfl, hw9⟩; rw [hw9]; clear hw9 w9))
    go_ret
    exact ⟨rfl, HW.out.trans (hb1.mono (by simp))⟩

set_option maxHeartbeats 1000000 in
theorem spec_when_yes (b r h t now : Int) (w : World) (hk : bOk b r h t) (hn : isT now) :
    Calls Try.prog 12 #[.agg #[.int .i64 b, .int .i64 r, .int .i64 h, .int .i64 t], .int .i64 now] w fun e w' => e = .returned (.int .i64 (whenOf b r h t now)) ∧ Below w.heap.size w w' := by
  have HF := fun W => spec_fill_yes b r h t now W hk hn
  have hok := fill_ok hk hn
  unfold whenOf
  obtain ⟨F, hF⟩ : ∃ F, fillH b r h t now = F := ⟨_, rfl⟩
  obtain ⟨T, hT⟩ : ∃ T, fillT t now = T := ⟨_, rfl⟩
  rw [hF, hT] at HF hok ⊢
  have HO := fun W => spec_bok b r h t true W ⟨fun _ => hk, fun _ => rfl⟩
  have HW : Hid (Below w.heap.size w (w.alloc (.cells #[.int .i64 b, .int .i64 r, .int .i64 h, .int .i64 t] 24))) := (Below.refl _ _).alloc (Nat.le_refl _) _
  unfold isT at hn
  have HTM := fun W => time_yes now W (by omega) (by omega)
  unfold bOk at hok
  obtain ⟨⟨k0, k1, k2, k3, k4, k5, k6, k7⟩, k8⟩ := hok
  clear hk hn hF hT
  by_cases c0 : b < 1
  · rw [if_pos c0]
    go_enter Try.func12, Try.ntmps12
    go_wp2_with (first | (go_at_call 14; refine (HO _).mono ?_; rintro e w1 ⟨rfl, hb1⟩; have e0 := kept (heap_alloc_new w (.cells #[.int .i64 b, .int .i64 r, .int .i64 h, .int .i64 t] 24)) hb1; have sz := (Array.getElem?_eq_some_iff.1 e0).1; have pc0 := cell_blk e0 0; have pc1 := cell_blk e0 1; have pc2 := cell_blk e0 2; have pc3 := cell_blk e0 3) | (go_at_call 15; refine (HTM _).mono ?_; rintro e w9 ⟨rfl, hw9⟩; rw [hw9]; clear hw9 w9))
    go_ret
    exact ⟨rfl, HW.out.trans (hb1.mono (by simp))⟩
  · rw [if_neg c0]
    by_cases c1 : 1000 ≤ F
    · rw [if_pos c1]
      have n1 : ¬ T < now := by omega
      go_enter Try.func12, Try.ntmps12
      go_wp2_with (first | (go_at_call 14; refine (HO _).mono ?_; rintro e w1 ⟨rfl, hb1⟩; have e0 := kept (heap_alloc_new w (.cells #[.int .i64 b, .int .i64 r, .int .i64 h, .int .i64 t] 24)) hb1; have sz := (Array.getElem?_eq_some_iff.1 e0).1; have pc0 := cell_blk e0 0; have pc1 := cell_blk e0 1; have pc2 := cell_blk e0 2; have pc3 := cell_blk e0 3) | (go_at_call 15; refine (HTM _).mono ?_; rintro e w9 ⟨rfl, hw9⟩; rw [hw9]; clear hw9 w9) | (go_at_call 6; refine (HF _).mono ?_; rintro e w2 ⟨rfl, hb2⟩; have p2 := heap_alloc_new w2 (.cells #[.int .i64 b, .int .i64 r, .int .i64 F, .int .i64 T] 24); have sz2 := hb2.size; have q0 := cell_blk p2 0; have q1 := cell_blk p2 1; have q2 := cell_blk p2 2; have q3 := cell_blk p2 3))
      go_ret
      exact ⟨rfl, (((HW.out.trans (hb1.mono (by simp))).trans (hb2.mono (by omega))).alloc (by omega) _)⟩
    · rw [if_neg c1]
      by_cases c2 : r = 0
      · rw [if_pos c2]
        have d2 : (r == 0) = true := by simpa using c2
        clear c2
        go_enter Try.func12, Try.ntmps12
        go_wp2_with (first | (go_at_call 14; refine (HO _).mono ?_; rintro e w1 ⟨rfl, hb1⟩; have e0 := kept (heap_alloc_new w (.cells #[.int .i64 b, .int .i64 r, .int .i64 h, .int .i64 t] 24)) hb1; have sz := (Array.getElem?_eq_some_iff.1 e0).1; have pc0 := cell_blk e0 0; have pc1 := cell_blk e0 1; have pc2 := cell_blk e0 2; have pc3 := cell_blk e0 3) | (go_at_call 15; refine (HTM _).mono ?_; rintro e w9 ⟨rfl, hw9⟩; rw [hw9]; clear hw9 w9) | (go_at_call 6; refine (HF _).mono ?_; rintro e w2 ⟨rfl, hb2⟩; have p2 := heap_alloc_new w2 (.cells #[.int .i64 b, .int .i64 r, .int .i64 F, .int .i64 T] 24); have sz2 := hb2.size; have q0 := cell_blk p2 0; have q1 := cell_blk p2 1; have q2 := cell_blk p2 2; have q3 := cell_blk p2 3))
        go_ret
        exact ⟨rfl, (((HW.out.trans (hb1.mono (by simp))).trans (hb2.mono (by omega))).alloc (by omega) _)⟩
      · rw [if_neg c2]
        obtain ⟨res, hres⟩ : ∃ res, (if 1000000000 < nextAt r F T then -1 else nextAt r F T) = res := ⟨_, rfl⟩
        have HR : Hid ((if 1000000000 < nextAt r F T then -1 else nextAt r F T) = res) := hres
        rw [hres]
        clear hres
        have hx := next_le (r := r) (F := F) (by omega) k3 k4 (by omega)
        have d2 : (r == 0) = false := by simpa using c2
        have u1 : IntKind.i64.wrap (1000 - F) = 1000 - F := by rw [IntKind.wrap_i64]; omega
        have u2 : IntKind.i64.wrap (1000 - F + r) = 1000 - F + r := by rw [IntKind.wrap_i64]; omega
        have u3 : IntKind.i64.wrap (1000 - F + r - 1) = 1000 - F + r - 1 := by rw [IntKind.wrap_i64]; omega
        have u4 : IntKind.i64.wrap ((1000 - F + r - 1).tdiv r) = (1000 - F + r - 1).tdiv r := by rw [IntKind.wrap_i64]; omega
        have u5 : IntKind.i64.wrap (T + (1000 - F + r - 1).tdiv r) = T + (1000 - F + r - 1).tdiv r := by rw [IntKind.wrap_i64]; omega
        go_enter Try.func12, Try.ntmps12
        go_wp2_with (first | (go_at_call 14; refine (HO _).mono ?_; rintro e w1 ⟨rfl, hb1⟩; have e0 := kept (heap_alloc_new w (.cells #[.int .i64 b, .int .i64 r, .int .i64 h, .int .i64 t] 24)) hb1; have sz := (Array.getElem?_eq_some_iff.1 e0).1; have pc0 := cell_blk e0 0; have pc1 := cell_blk e0 1; have pc2 := cell_blk e0 2; have pc3 := cell_blk e0 3) | (go_at_call 15; refine (HTM _).mono ?_; rintro e w9 ⟨rfl, hw9⟩; rw [hw9]; clear hw9 w9) | (go_at_call 6; refine (HF _).mono ?_; rintro e w2 ⟨rfl, hb2⟩; have p2 := heap_alloc_new w2 (.cells #[.int .i64 b, .int .i64 r, .int .i64 F, .int .i64 T] 24); have sz2 := hb2.size; have q0 := cell_blk p2 0; have q1 := cell_blk p2 1; have q2 := cell_blk p2 2; have q3 := cell_blk p2 3))
        go_region
        by_cases c3 : 1000000000 < nextAt r F T
        · have E : Hid (res = -1) := HR.out.symm.trans (if_pos c3)
          have d3 : 1000000000 < T + (1000 - F + r - 1).tdiv r := c3
          clear c3
          go_wp2
          go_ret
          exact ⟨by rw [E.out]; rfl, (((HW.out.trans (hb1.mono (by simp))).trans (hb2.mono (by omega))).alloc (by omega) _).drew⟩
        · have E : Hid (res = T + (1000 - F + r - 1).tdiv r) := HR.out.symm.trans (if_neg c3)
          have d3 : ¬ 1000000000 < T + (1000 - F + r - 1).tdiv r := c3
          clear c3
          go_wp2
          go_ret
          exact ⟨by rw [E.out]; rfl, (((HW.out.trans (hb1.mono (by simp))).trans (hb2.mono (by omega))).alloc (by omega) _).drew⟩

end Go.Proofs.Ytpfnmmoojmddpai.BucketEnds
