/- What the program's Push answers at every window of at most 2 to the 20 samples: those that are less, and the new one behind them, in a list of the call's own, and nothing else turns. -/
import Derived.Test.YtbdkepnjhcdpnaaRows
import Derived.Test.YtbdkepnjhcdpnaaPairWalks
import Derived.Test.YtbdkepnjhcdpnaaWinOk
import Derived.Test.YtbdkepnjhcdpnaaTrimWalks
import Derived.Test.YtbdkepnjhcdpnaaPushWalks
import Derived.Test.YtbdkepnjhcdpnaaQueue
import Derived.Test.YtbdkepnjhcdpnaaQueueOf
import Derived.Test.YtbdkepnjhcdpnaaImplOk
import Derived.Test.YtbdkepnjhcdpnaaImplTrim
import Derived.WalkKit
import Derived.WalkSmall
import Derived.BigQuiet
import Derived.Deep.RegionWith
namespace Go.Proofs.Ytbdkepnjhcdpnaa.ImplPush
open Go.RowKit PairWalks WinOk TrimWalks PushWalks ImplOk ImplTrim
set_option maxRecDepth 8000
open Queue (QV QAt)
open QueueOf (young_of dropBack dropBack_pos dropBack_neg)

/-- The three boxes that Push lays first. -/
def Box3 (w W : World) (x0 x1 y0 z0 z1 : Value) : Prop :=
  W.cell? ⟨w.heap.size, 0, none⟩ = some x0 ∧ W.cell? ⟨w.heap.size, 1, none⟩ = some x1 ∧ W.cell? ⟨w.heap.size + 1, 0, none⟩ = some y0 ∧ W.cell? ⟨w.heap.size + 2, 0, none⟩ = some z0 ∧ W.cell? ⟨w.heap.size + 2, 1, none⟩ = some z1 ∧ W.frozen? ⟨w.heap.size + 2, 0, none⟩ = false ∧ W.frozen? ⟨w.heap.size + 2, 1, none⟩ = false

theorem box3 {w w1 : World} {x0 x1 y0 z0 z1 : Value} {s t u : TypeId} (hb : Below (((w.alloc (.cells #[x0, x1] s)).alloc (.cells #[y0] t)).alloc (.cells #[z0, z1] u)).heap.size (((w.alloc (.cells #[x0, x1] s)).alloc (.cells #[y0] t)).alloc (.cells #[z0, z1] u)) w1) :
    Box3 w w1 x0 x1 y0 z0 z1 ∧ w.heap.size + 3 ≤ w1.heap.size := by
  have hs := hb.size
  simp at hs
  have e0 : w1.heap[w.heap.size]? = some (.cells #[x0, x1] s (0, 0)) := by
    rw [hb.block _ (by simp; omega), Below.heap_alloc _ _ _ (by simp; omega), Below.heap_alloc _ _ _ (by simp)]
    exact heap_alloc_new w _
  have e1 : w1.heap[w.heap.size + 1]? = some (.cells #[y0] t (0, 0)) := by
    rw [hb.block _ (by simp), Below.heap_alloc _ _ _ (by simp)]
    have := heap_alloc_new (w.alloc (.cells #[x0, x1] s)) (.cells #[y0] t)
    simpa using this
  have e2 : w1.heap[w.heap.size + 2]? = some (.cells #[z0, z1] u (0, 0)) := by
    rw [hb.block _ (by simp)]
    have := heap_alloc_new ((w.alloc (.cells #[x0, x1] s)).alloc (.cells #[y0] t)) (.cells #[z0, z1] u)
    simpa using this
  refine ⟨⟨?_, ?_, ?_, ?_, ?_, ?_, ?_⟩, by omega⟩ <;> simp [World.cell?, World.frozen?, e0, e1, e2]

theorem Box3.below {w W W2 : World} {x0 x1 y0 z0 z1 : Value} {b : Nat} (h : Box3 w W x0 x1 y0 z0 z1) (hb : Below b W W2) (hn : w.heap.size + 3 ≤ b) : Box3 w W2 x0 x1 y0 z0 z1 := by
  obtain ⟨h0, h1, h2, h3, h4, h5, h6⟩ := h
  exact ⟨(hb.cell (p := ⟨w.heap.size, 0, none⟩) (by show w.heap.size < b; omega)).trans h0, (hb.cell (p := ⟨w.heap.size, 1, none⟩) (by show w.heap.size < b; omega)).trans h1, (hb.cell (p := ⟨w.heap.size + 1, 0, none⟩) (by show w.heap.size + 1 < b; omega)).trans h2, (hb.cell (p := ⟨w.heap.size + 2, 0, none⟩) (by show w.heap.size + 2 < b; omega)).trans h3, (hb.cell (p := ⟨w.heap.size + 2, 1, none⟩) (by show w.heap.size + 2 < b; omega)).trans h4, (hb.frozen (p := ⟨w.heap.size + 2, 0, none⟩) (by show w.heap.size + 2 < b; omega)).trans h5, (hb.frozen (p := ⟨w.heap.size + 2, 1, none⟩) (by show w.heap.size + 2 < b; omega)).trans h6⟩

theorem answer_of3 {w w3 : World} {base c3 : Nat} {a3 : Option Addr} {D : List (Int × Int)} {span : Int} (hv : QV w3 base a3 c3 D) (hbase : w.heap.size + 3 ≤ base) (hB : Below w.heap.size w w3) {x y : Value} :
    Answers w span D (.returned (.agg #[.int .i64 span, .slice a3 D.length c3])) ((w3.setCell ⟨w.heap.size + 2, 0, none⟩ x).setCell ⟨w.heap.size + 2, 1, none⟩ y).drew := by
  refine ⟨a3, c3, rfl, ?_, fun b hb => by have := (hv.lt b hb).1; omega, ((hB.setCell (by show w.heap.size ≤ w.heap.size + 2; omega) _).setCell (by show w.heap.size ≤ w.heap.size + 2; omega) _).drew⟩
  refine (hv.same (w' := ((w3.setCell ⟨w.heap.size + 2, 0, none⟩ x).setCell ⟨w.heap.size + 2, 1, none⟩ y).drew) fun g hg => ?_).row
  have := (hv.lt g hg).1
  have hne : g ≠ w.heap.size + 2 := by omega
  show ((w3.setCell ⟨w.heap.size + 2, 0, none⟩ x).setCell ⟨w.heap.size + 2, 1, none⟩ y).heap[g]? = _
  rw [Below.heap_setCell _ _ _ _ hne, Below.heap_setCell _ _ _ _ hne]

set_option maxHeartbeats 4000000 in
set_option maxRecDepth 8000 in
theorem impl_push (span now lat : Int) (a : Option Addr) (c : Nat) (L : List (Int × Int)) (w : World) (ha : WOk w a L) (hl : (L.length : Int) ≤ 1048577) :
    Calls Try.prog 68 #[.agg #[.int .i64 span, .slice a L.length c], .int .i64 now, .int .i64 lat] w (Answers w (pushSpan span now lat L) (pushed span now lat L)) := by
  obtain ⟨B, HB⟩ := flag (winOk span L)
  have hbw : Below w.heap.size w (((w.alloc (.cells #[.int .i64 span, .slice a L.length c] 27)).alloc (.cells #[.int .i64 lat] 3)).alloc (.cells #[.int .i64 0, .slice none 0 0] 27)) := (((Below.refl _ _).alloc (Nat.le_refl _) _).alloc (by simp) _).alloc (by simp; omega) _
  have HO := impl_ok span a c L B (((w.alloc (.cells #[.int .i64 span, .slice a L.length c] 27)).alloc (.cells #[.int .i64 lat] 3)).alloc (.cells #[.int .i64 0, .slice none 0 0] 27)) (ha.below hbw) hl HB
  have HA : Hid (WOk w a L) := ha
  have HBW : Hid (Below w.heap.size w (((w.alloc (.cells #[.int .i64 span, .slice a L.length c] 27)).alloc (.cells #[.int .i64 lat] 3)).alloc (.cells #[.int .i64 0, .slice none 0 0] 27))) := hbw
  have HY := fun W h ht hs => young_of span now a c L W h (by omega) ht hs
  clear ha hbw
  obtain ⟨n, hn⟩ : ∃ n, L.length = n := ⟨_, rfl⟩
  have HN : Hid (L.length = n) := hn
  rw [hn] at hl HO HBW HY ⊢
  clear hn
  cases B with
  | false =>
    obtain ⟨e1, e2⟩ := pushed_bad (span := span) (now := now) (lat := lat) (L := L) (fun h => by have := HB.out.2 h.1; simp at this)
    rw [e1, e2]
    clear HY
    go_enter Try.func68, Try.ntmps68
    go_wp2_with (first | (go_at_call 18; refine HO.mono ?_; rintro e w1 ⟨rfl, hb⟩; obtain ⟨⟨c0, c1, c2, c3, c4, f0, f1⟩, c5⟩ := box3 hb))
    refine bodyPost_ret (v := .agg #[.int .i64 0, .slice none 0 0]) (by simp [results, Try.results68, go_sem, c3, c4]) rfl ⟨none, 0, rfl, Or.inl rfl, fun b hb => by simp [blk] at hb, ?_⟩
    exact ((HBW.out.trans (hb.mono (by simp; omega))).setCell (by show w.heap.size ≤ w.heap.size + 2; omega) _).setCell (by show w.heap.size ≤ w.heap.size + 2; omega) _
  | true =>
    have bad : ∀ (h : now < 0 ∨ 1000000000 < now ∨ lat < 0 ∨ 1000000 < lat), ¬ pushOk span now lat L := fun h hp => by
      have h1 := hp.2
      omega
    by_cases t0 : now < 0 ∨ 1000000000 < now
    · obtain ⟨e1, e2⟩ := pushed_bad (bad (by omega))
      rw [e1, e2]
      clear HY bad
      go_enter Try.func68, Try.ntmps68
      go_wp2_with (first | (go_at_call 18; refine HO.mono ?_; rintro e w1 ⟨rfl, hb⟩; obtain ⟨⟨c0, c1, c2, c3, c4, f0, f1⟩, c5⟩ := box3 hb) | (go_at_call 27; refine (time_no now _ (by omega)).mono ?_; rintro e w9 ⟨rfl, hw9⟩; rw [hw9]; clear hw9 w9))
      refine bodyPost_ret (v := .agg #[.int .i64 0, .slice none 0 0]) (by simp [results, Try.results68, go_sem, c3, c4]) rfl ⟨none, 0, rfl, Or.inl rfl, fun b hb => by simp [blk] at hb, ?_⟩
      exact ((HBW.out.trans (hb.mono (by simp; omega))).setCell (by show w.heap.size ≤ w.heap.size + 2; omega) _).setCell (by show w.heap.size ≤ w.heap.size + 2; omega) _
    · by_cases t1 : lat < 0 ∨ 1000000 < lat
      · obtain ⟨e1, e2⟩ := pushed_bad (bad (by omega))
        rw [e1, e2]
        clear HY bad
        go_enter Try.func68, Try.ntmps68
        go_wp2_with (first | (go_at_call 18; refine HO.mono ?_; rintro e w1 ⟨rfl, hb⟩; obtain ⟨⟨c0, c1, c2, c3, c4, f0, f1⟩, c5⟩ := box3 hb) | (go_at_call 27; refine (time_yes now _ (by omega) (by omega)).mono ?_; rintro e w9 ⟨rfl, hw9⟩; rw [hw9]; clear hw9 w9) | (go_at_call 28; refine (lat_no lat _ (by omega)).mono ?_; rintro e w9 ⟨rfl, hw9⟩; rw [hw9]; clear hw9 w9))
        refine bodyPost_ret (v := .agg #[.int .i64 0, .slice none 0 0]) (by simp [results, Try.results68, go_sem, c3, c4]) rfl ⟨none, 0, rfl, Or.inl rfl, fun b hb => by simp [blk] at hb, ?_⟩
        exact ((HBW.out.trans (hb.mono (by simp; omega))).setCell (by show w.heap.size ≤ w.heap.size + 2; omega) _).setCell (by show w.heap.size ≤ w.heap.size + 2; omega) _
      · have hW := HB.out.1 rfl
        obtain ⟨e1, e2⟩ := pushed_good (span := span) (now := now) (lat := lat) (L := L) ⟨hW, by omega, by omega⟩
        have hyd := young_drop (now := now) hW
        have hs : 1 ≤ span ∧ span ≤ 100000 := ⟨hW.1, hW.2.1⟩
        have ht : 0 ≤ now ∧ now ≤ 1000000000 := by omega
        have hlt : 0 ≤ lat ∧ lat ≤ 1000000 := by omega
        have hlen : (young span now L).length ≤ 200 := Nat.le_trans (List.length_filter_le _ _) hW.2.2.1
        have hless : dropBack lat (young span now L) = less lat (young span now L) := dropBack_less ((young_rises hW).imp fun h => h.2)
        have hlen2 : (less lat (young span now L)).length ≤ 200 := Nat.le_trans (List.length_filter_le _ _) hlen
        rw [e2, e1]
        rw [hyd] at HY
        clear bad t0 t1 e1 e2 hyd hW hlen
        obtain ⟨Y, hY⟩ : ∃ Y, young span now L = Y := ⟨_, rfl⟩
        rw [hY] at HY hless hlen2 ⊢
        clear hY
        obtain ⟨D, hD⟩ : ∃ D, less lat Y = D := ⟨_, rfl⟩
        rw [hD] at hless hlen2 ⊢
        clear hD
        have HLESS : Hid (dropBack lat Y = D) := hless
        have HLEN : Hid (D.length ≤ 200) := hlen2
        clear hlen2
        have HYH : Hid (∀ W, WOk W a L → Calls Try.prog 74 #[.agg #[.int .i64 span, .slice a n c], .int .i64 now] W fun e w' => ∃ p, e = .returned (.pointer (some ⟨p, 0, none⟩)) ∧ QAt w' W.heap.size p Y ∧ Below W.heap.size W w') := fun W h => HY W h ht hs
        clear HY hless
        go_enter Try.func68, Try.ntmps68
        go_wp2_with (first | (go_at_call 18; refine HO.mono ?_; rintro e w1 ⟨rfl, hb⟩; obtain ⟨hbx, c5⟩ := box3 hb; have HBX : Hid (Box3 w w1 (.int .i64 span) (.slice a n c) (.int .i64 lat) (.int .i64 0) (.slice none 0 0)) := hbx; obtain ⟨c0, c1, c2, c3, c4, f0, f1⟩ := hbx; have HA1 : Hid (WOk w1 a L ∧ Below w.heap.size w w1) := ⟨HA.out.below (HBW.out.trans (hb.mono (by simp; omega))), HBW.out.trans (hb.mono (by simp; omega))⟩; clear hb) | (go_at_call 27; refine (time_yes now _ (by omega) (by omega)).mono ?_; rintro e w9 ⟨rfl, hw9⟩; rw [hw9]; clear hw9 w9) | (go_at_call 28; refine (lat_yes lat _ (by omega) (by omega)).mono ?_; rintro e w9 ⟨rfl, hw9⟩; rw [hw9]; clear hw9 w9) | (go_at_call 74; refine (HYH.out _ HA1.out.1).mono ?_; rintro e w3 ⟨p, rfl, hq, hb3⟩; have b3 := (HBX.out.below hb3 c5).2.2.1; have HDW := QueueOf.drop_last_while w1.heap.size p (w.heap.size + 1) lat Y w3 hq hb3.size (by omega) b3) | (go_at_call 75; refine HDW.mono ?_; rintro e w4 ⟨rfl, hq4, hb4⟩; rw [HLESS.out] at hq4; have HQ4 : Hid (QAt w4 w1.heap.size p D ∧ Below w1.heap.size w1 w4) := ⟨hq4, hb3.trans (hb4.mono (Nat.le_refl _))⟩; clear hq4 hb4 HDW b3 hq hb3))
        refine (Queue.last_any _ p D _ HQ4.out.1).mono ?_
        rintro e w5 ⟨x, y, Bk, rfl, hh, hb5⟩
        have hs4 := HQ4.out.2.size
        have HQ5 : Hid (QAt (w5.alloc (.cells #[.int .i64 x, .int .i64 y] 64)) w1.heap.size p D ∧ Below w1.heap.size w1 (w5.alloc (.cells #[.int .i64 x, .int .i64 y] 64))) := ⟨(HQ4.out.1.below hb5).below ((Below.refl _ _).alloc (Nat.le_refl _) _), (HQ4.out.2.trans (hb5.mono hs4)).alloc (by have := hb5.size; omega) _⟩
        have hs5 : w1.heap.size ≤ (w5.alloc (.cells #[.int .i64 x, .int .i64 y] 64)).heap.size := HQ5.out.2.size
        have d5 := (HBX.out.below HQ5.out.2 c5).2.2.1
        clear hb5
        rcases hh with ⟨hD, rfl⟩ | ⟨E', hD, rfl⟩
        · have HP : Hid (put now lat D = D ++ [(now, lat)]) := by
            show put now lat D = _
            rw [hD]
            rfl
          have h200 : ¬ (200 : Int) < (D.length : Int) + 1 := by rw [hD]; simp
          clear hD
          have HC : Hid (cutOne (put now lat D) = D ++ [(now, lat)]) := by
            show cutOne (put now lat D) = _
            rw [HP.out]
            unfold cutOne
            rw [if_neg (by simp; omega)]
          go_wp2_with (go_at_call 78; refine (Queue.add_last w1.heap.size p now lat D _ HQ5.out.1 hs5 (by have := HLEN.out; omega)).mono ?_; rintro e w6 ⟨rfl, hq6, hb6⟩; have HQ6 : Hid (QAt w6 w1.heap.size p (D ++ [(now, lat)]) ∧ Below w1.heap.size w1 w6) := ⟨hq6, HQ5.out.2.trans hb6⟩; obtain ⟨_, a6, k6, hp6, hv6⟩ := hq6; have q6 := cell_blk hp6 0; have HV6 : Hid (QV w6 w1.heap.size a6 k6 (D ++ [(now, lat)])) := hv6; obtain ⟨g0, _, _, g3, g4, g5, g6⟩ := HBX.out.below HQ6.out.2 c5; clear hp6 hv6 hb6)
          go_region
          go_wp2
          refine bodyPost_ret (v := .agg #[.int .i64 span, .slice a6 (D.length + 1) k6]) (by simp [results, Try.results68, go_sem, g3, g4]) rfl ?_
          rw [HC.out]
          have hfin := fun x y => answer_of3 (w := w) (span := span) (x := x) (y := y) HV6.out c5 (HA1.out.2.trans (HQ6.out.2.mono (by omega)))
          rw [show (D ++ [(now, lat)]).length = D.length + 1 from by simp] at hfin
          exact hfin _ _
        · by_cases hx : x < now
          · have dx : decide (x < now) = true := by simpa using hx
            have HP : Hid (put now lat D = D ++ [(now, lat)]) := by
              show put now lat D = _
              unfold put
              rw [if_neg (by rw [hD]; simp [lastLate]; omega)]
            clear hD
            by_cases h200 : (200 : Int) < (D.length : Int) + 1
            · obtain ⟨u, v, T, hT⟩ : ∃ u v T, D ++ [(now, lat)] = (u, v) :: T := by
                cases D with
                | nil => exact ⟨now, lat, [], rfl⟩
                | cons q E => exact ⟨q.1, q.2, E ++ [(now, lat)], rfl⟩
              have HT : Hid (D ++ [(now, lat)] = (u, v) :: T) := hT
              have HC : Hid (cutOne (put now lat D) = T) := by
                show cutOne (put now lat D) = _
                rw [HP.out]
                unfold cutOne
                rw [if_pos (by simp; omega), hT]
                rfl
              clear hT
              go_wp2_with (first | (go_at_call 78; refine (Queue.add_last w1.heap.size p now lat D _ HQ5.out.1 hs5 (by have := HLEN.out; omega)).mono ?_; rintro e w6 ⟨rfl, hq6, hb6⟩; have HQ6 : Hid (QAt w6 w1.heap.size p (D ++ [(now, lat)]) ∧ Below w1.heap.size w1 w6) := ⟨hq6, HQ5.out.2.trans hb6⟩; obtain ⟨_, a6, k6, hp6, hv6⟩ := hq6; have q6 := cell_blk hp6 0; have HV6 : Hid (QV w6 w1.heap.size a6 k6 (D ++ [(now, lat)])) := hv6; obtain ⟨g0, _, _, g3, g4, g5, g6⟩ := HBX.out.below HQ6.out.2 c5; clear hp6 hv6 hb6) | (go_at_call 79; refine (Queue.drop_first w1.heap.size p u v T _ (by rw [← HT.out]; exact HQ6.out.1)).mono ?_; rintro e w7 ⟨rfl, hq7, hg7⟩; have hb7 : Below w1.heap.size w1 w7 := HQ6.out.2.grown hg7 (HQ6.out.2.size) (fun k hk => by injection hk with hk; rw [← hk]; exact hq7.lt.1); have HB7 : Hid (Below w1.heap.size w1 w7) := hb7; obtain ⟨_, a7, k7, hp7, hv7⟩ := hq7; have q7 := cell_blk hp7 0; have HV7 : Hid (QV w7 w1.heap.size a7 k7 T) := hv7; obtain ⟨r0, _, _, r3, r4, r5, r6⟩ := HBX.out.below hb7 c5; clear hp7 hv7 hg7 hb7))
              go_region
              go_wp2
              refine bodyPost_ret (v := .agg #[.int .i64 span, .slice a7 T.length k7]) (by simp [results, Try.results68, go_sem, r3, r4]) rfl ?_
              rw [HC.out]
              exact answer_of3 (w := w) (span := span) HV7.out c5 (HA1.out.2.trans (HB7.out.mono (by omega)))
            · have HC : Hid (cutOne (put now lat D) = D ++ [(now, lat)]) := by
                show cutOne (put now lat D) = _
                rw [HP.out]
                unfold cutOne
                rw [if_neg (by simp; omega)]
              go_wp2_with (go_at_call 78; refine (Queue.add_last w1.heap.size p now lat D _ HQ5.out.1 hs5 (by have := HLEN.out; omega)).mono ?_; rintro e w6 ⟨rfl, hq6, hb6⟩; have HQ6 : Hid (QAt w6 w1.heap.size p (D ++ [(now, lat)]) ∧ Below w1.heap.size w1 w6) := ⟨hq6, HQ5.out.2.trans hb6⟩; obtain ⟨_, a6, k6, hp6, hv6⟩ := hq6; have q6 := cell_blk hp6 0; have HV6 : Hid (QV w6 w1.heap.size a6 k6 (D ++ [(now, lat)])) := hv6; obtain ⟨g0, _, _, g3, g4, g5, g6⟩ := HBX.out.below HQ6.out.2 c5; clear hp6 hv6 hb6)
              go_region
              go_wp2
              refine bodyPost_ret (v := .agg #[.int .i64 span, .slice a6 (D.length + 1) k6]) (by simp [results, Try.results68, go_sem, g3, g4]) rfl ?_
              rw [HC.out]
              have hfin := fun x y => answer_of3 (w := w) (span := span) (x := x) (y := y) HV6.out c5 (HA1.out.2.trans (HQ6.out.2.mono (by omega)))
              rw [show (D ++ [(now, lat)]).length = D.length + 1 from by simp] at hfin
              exact hfin _ _
          · have dx : decide (x < now) = false := by simpa using hx
            have HP : Hid (put now lat D = D) := by
              show put now lat D = _
              unfold put
              rw [if_pos (by rw [hD]; simp [lastLate]; omega)]
            have h200 : ¬ (200 : Int) < (D.length : Int) := by have := HLEN.out; omega
            clear hD
            have HC : Hid (cutOne (put now lat D) = D) := by
              show cutOne (put now lat D) = _
              rw [HP.out]
              unfold cutOne
              rw [if_neg (by omega)]
            obtain ⟨⟨_, a6, k6, hp6, hv6⟩, hb6⟩ := HQ5.out
            have q6 := cell_blk hp6 0
            have HV6 : Hid (QV (w5.alloc (.cells #[.int .i64 x, .int .i64 y] 64)) w1.heap.size a6 k6 D) := hv6
            obtain ⟨g0, _, _, g3, g4, g5, g6⟩ := HBX.out.below HQ5.out.2 c5
            clear hp6 hv6 hb6
            go_wp2
            go_region
            go_wp2
            refine bodyPost_ret (v := .agg #[.int .i64 span, .slice a6 D.length k6]) (by simp [results, Try.results68, go_sem, g3, g4]) rfl ?_
            rw [HC.out]
            exact answer_of3 (w := w) (span := span) HV6.out c5 (HA1.out.2.trans (HQ5.out.2.mono (by omega)))
end Go.Proofs.Ytbdkepnjhcdpnaa.ImplPush
