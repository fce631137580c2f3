/- What the program's WindowOk answers at every window of at most 2 to the 20 samples: whether it is right, and nothing else turns. -/
import Derived.Test.YtbdkepnjhcdpnaaRows
import Derived.Test.YtbdkepnjhcdpnaaPairWalks
import Derived.Test.YtbdkepnjhcdpnaaWinOk
import Derived.WalkKit
import Derived.WalkSmall
import Derived.BigQuiet
namespace Go.Proofs.Ytbdkepnjhcdpnaa.ImplOk
open Go.RowKit PairWalks WinOk

theorem impl_span (n : Int) (w : World) (h0 : ¬ n < 1) (h1 : ¬ 100000 < n) : Calls Try.prog 29 #[.int .i64 n] w fun e w' => e = .returned (.bool true) ∧ w' = w := by
  have d1 : decide (n ≤ 100000) = true := by simp; omega
  go_enter Try.func29, Try.ntmps29
  go_wp2
  go_ret
  exact ⟨rfl, rfl⟩

theorem impl_span_no (n : Int) (w : World) (h : n < 1 ∨ 100000 < n) : Calls Try.prog 29 #[.int .i64 n] w fun e w' => e = .returned (.bool false) ∧ w' = w := by
  by_cases h0 : n < 1
  · go_enter Try.func29, Try.ntmps29
    go_wp2
    go_ret
    exact ⟨rfl, rfl⟩
  · have d1 : decide (n ≤ 100000) = false := by simp; omega
    go_enter Try.func29, Try.ntmps29
    go_wp2
    go_ret
    exact ⟨rfl, rfl⟩

theorem impl_time (n : Int) (w : World) (B : Bool) (hB : Hid (B = true ↔ 0 ≤ n ∧ n ≤ 1000000000)) : Calls Try.prog 27 #[.int .i64 n] w fun e w' => e = .returned (.bool B) ∧ w' = w := by
  by_cases h0 : n < 0
  · obtain rfl : B = false := by
      cases B with
      | false => rfl
      | true => have := hB.out.1 rfl; omega
    go_enter Try.func27, Try.ntmps27
    go_wp2
    go_ret
    exact ⟨rfl, rfl⟩
  · by_cases h1 : 1000000000 < n
    · obtain rfl : B = false := by
        cases B with
        | false => rfl
        | true => have := hB.out.1 rfl; omega
      have d1 : decide (n ≤ 1000000000) = false := by simp; omega
      go_enter Try.func27, Try.ntmps27
      go_wp2
      go_ret
      exact ⟨rfl, rfl⟩
    · obtain rfl : B = true := hB.out.2 (by omega)
      have d1 : decide (n ≤ 1000000000) = true := by simp; omega
      go_enter Try.func27, Try.ntmps27
      go_wp2
      go_ret
      exact ⟨rfl, rfl⟩

theorem impl_lat (n : Int) (w : World) (B : Bool) (hB : Hid (B = true ↔ 0 ≤ n ∧ n ≤ 1000000)) : Calls Try.prog 28 #[.int .i64 n] w fun e w' => e = .returned (.bool B) ∧ w' = w := by
  by_cases h0 : n < 0
  · obtain rfl : B = false := by
      cases B with
      | false => rfl
      | true => have := hB.out.1 rfl; omega
    go_enter Try.func28, Try.ntmps28
    go_wp2
    go_ret
    exact ⟨rfl, rfl⟩
  · by_cases h1 : 1000000 < n
    · obtain rfl : B = false := by
        cases B with
        | false => rfl
        | true => have := hB.out.1 rfl; omega
      have d1 : decide (n ≤ 1000000) = false := by simp; omega
      go_enter Try.func28, Try.ntmps28
      go_wp2
      go_ret
      exact ⟨rfl, rfl⟩
    · obtain rfl : B = true := hB.out.2 (by omega)
      have d1 : decide (n ≤ 1000000) = true := by simp; omega
      go_enter Try.func28, Try.ntmps28
      go_wp2
      go_ret
      exact ⟨rfl, rfl⟩

theorem time_yes (n : Int) (w : World) (h0 : ¬ n < 0) (h1 : ¬ 1000000000 < n) : Calls Try.prog 27 #[.int .i64 n] w fun e w' => e = .returned (.bool true) ∧ w' = w := impl_time n w true ⟨fun _ => by omega, fun _ => rfl⟩
theorem time_no (n : Int) (w : World) (h : n < 0 ∨ 1000000000 < n) : Calls Try.prog 27 #[.int .i64 n] w fun e w' => e = .returned (.bool false) ∧ w' = w := impl_time n w false ⟨fun e => by simp at e, fun e => by omega⟩
theorem lat_yes (n : Int) (w : World) (h0 : ¬ n < 0) (h1 : ¬ 1000000 < n) : Calls Try.prog 28 #[.int .i64 n] w fun e w' => e = .returned (.bool true) ∧ w' = w := impl_lat n w true ⟨fun _ => by omega, fun _ => rfl⟩
theorem lat_no (n : Int) (w : World) (h : n < 0 ∨ 1000000 < n) : Calls Try.prog 28 #[.int .i64 n] w fun e w' => e = .returned (.bool false) ∧ w' = w := impl_lat n w false ⟨fun e => by simp at e, fun e => by omega⟩

set_option maxHeartbeats 2000000 in
theorem impl_ok (span : Int) (a : Option Addr) (c : Nat) (L : List (Int × Int)) (B : Bool) (w : World) (ha : WOk w a L) (hl : (L.length : Int) ≤ 1048577) (HB : Hid (B = true ↔ winOk span L)) :
    Calls Try.prog 18 #[.agg #[.int .i64 span, .slice a L.length c]] w fun e w' => e = .returned (.bool B) ∧ Below w.heap.size w w' := by
  have HA : Hid (WOk w a L) := ha
  clear ha
  obtain ⟨n, hn⟩ : ∃ n, L.length = n := ⟨_, rfl⟩
  have HN : Hid (L.length = n) := hn
  rw [hn] at hl ⊢
  clear hn
  have bf : Hid (¬ winOk span L → B = false) := fun h => by cases B with
    | false => rfl
    | true => exact absurd (HB.out.1 rfl) h
  have bt : Hid (winOk span L → B = true) := fun h => HB.out.2 h
  by_cases s1 : span < 1
  · have hB : B = false := bf.out fun h => by have := h.1; omega
    subst hB
    have HS := impl_span_no span (w.alloc (.cells #[.int .i64 span, .slice a n c] 27)) (by omega)
    go_enter Try.func18, Try.ntmps18
    go_wp2_with (go_at_call 29; refine HS.mono ?_; rintro e w9 ⟨rfl, hw9⟩; rw [hw9]; clear hw9 w9)
    go_ret
    exact ⟨rfl, (Below.refl _ _).alloc (Nat.le_refl _) _⟩
  · by_cases s2 : 100000 < span
    · have hB : B = false := bf.out fun h => by have := h.2.1; omega
      subst hB
      have HS := impl_span_no span (w.alloc (.cells #[.int .i64 span, .slice a n c] 27)) (by omega)
      go_enter Try.func18, Try.ntmps18
      go_wp2_with (go_at_call 29; refine HS.mono ?_; rintro e w9 ⟨rfl, hw9⟩; rw [hw9]; clear hw9 w9)
      go_ret
      exact ⟨rfl, (Below.refl _ _).alloc (Nat.le_refl _) _⟩
    · by_cases s3 : (200 : Int) < (n : Int)
      · have hB : B = false := bf.out fun h => by have := h.2.2.1; rw [HN.out] at this; omega
        subst hB
        have HS := impl_span span (w.alloc (.cells #[.int .i64 span, .slice a n c] 27)) s1 s2
        go_enter Try.func18, Try.ntmps18
        go_wp2_with (go_at_call 29; refine HS.mono ?_; rintro e w9 ⟨rfl, hw9⟩; rw [hw9]; clear hw9 w9)
        go_ret
        exact ⟨rfl, (Below.refl _ _).alloc (Nat.le_refl _) _⟩
      · have HS := impl_span span (w.alloc (.cells #[.int .i64 span, .slice a n c] 27)) s1 s2
        go_enter Try.func18, Try.ntmps18
        go_wp2_with (go_at_call 29; refine HS.mono ?_; rintro e w9 ⟨rfl, hw9⟩; rw [hw9]; clear hw9 w9)
        clear HS
        go_loopw [18] (fun i wr => ∃ k : Nat, k ≤ n ∧ i = .int .i64 k ∧ Hid (∀ (j : Nat) (h : j < L.length), j < k → okAt L j h) ∧ Hid (Below (w.heap.size + 1) (w.alloc (.cells #[.int .i64 span, .slice a n c] 27)) wr)) (fun i _ => n - (intOf i).toNat)
        case atStart => exact ⟨0, by omega, rfl, fun j _ hj => by omega, Below.refl _ _⟩
        case round =>
          obtain ⟨k, hk, rfl, HK, HW⟩ := hrel
          by_cases hlt : k < n
          · have hlt2 : k < L.length := by rw [HN.out]; exact hlt
            rcases HA.out with hnil | ⟨g, o, rfl, hr⟩
            · rw [hnil] at hlt2; simp at hlt2
            · have hg := hr.lt
              have hr1 : PRow wr g o L := hr.same ((HW.out.block g (by omega)).trans (Below.heap_alloc w _ g hg))
              have q0 := hr1.c0 k hlt2
              have q1 := hr1.c1 k hlt2
              obtain ⟨x, hx⟩ : ∃ x, L[k].1 = x := ⟨_, rfl⟩
              obtain ⟨y, hy⟩ : ∃ y, L[k].2 = y := ⟨_, rfl⟩
              rw [hx] at q0
              rw [hy] at q1
              have hli : (k : Int) < (n : Int) := by omega
              have BB : Below w.heap.size w (wr.alloc (.cells #[.int .i64 x, .int .i64 y] 64)) := (((Below.refl _ _).alloc (Nat.le_refl _) _).trans (HW.out.mono (by omega))).alloc (by have := HW.out.size; simp at this; omega) _
              by_cases t0 : x < 0
              · skip
                have hB : B = false := bf.out fun h => by
                  have h2 := (h.2.2.2 k hlt2).1
                  unfold inB at h2
                  rw [hx, hy] at h2
                  omega
                subst hB
                go_wp2_with (go_at_call 27; refine (time_no x _ (by omega)).mono ?_; rintro e w9 ⟨rfl, hw9⟩; rw [hw9]; clear hw9 w9)
                go_ret
                exact ⟨rfl, BB⟩
              · by_cases t1 : 1000000000 < x
                · have d1 : decide (x ≤ 1000000000) = false := by simp; omega
                  have hB : B = false := bf.out fun h => by
                    have h2 := (h.2.2.2 k hlt2).1
                    unfold inB at h2
                    rw [hx, hy] at h2
                    omega
                  subst hB
                  go_wp2_with (go_at_call 27; refine (time_no x _ (by omega)).mono ?_; rintro e w9 ⟨rfl, hw9⟩; rw [hw9]; clear hw9 w9)
                  go_ret
                  exact ⟨rfl, BB⟩
                · have d1 : decide (x ≤ 1000000000) = true := by simp; omega
                  by_cases t2 : y < 0
                  · skip
                    have hB : B = false := bf.out fun h => by
                      have h2 := (h.2.2.2 k hlt2).1
                      unfold inB at h2
                      rw [hx, hy] at h2
                      omega
                    subst hB
                    go_wp2_with (first | (go_at_call 27; refine (time_yes x _ (by omega) (by omega)).mono ?_; rintro e w9 ⟨rfl, hw9⟩; rw [hw9]; clear hw9 w9) | (go_at_call 28; refine (lat_no y _ (by omega)).mono ?_; rintro e w9 ⟨rfl, hw9⟩; rw [hw9]; clear hw9 w9))
                    go_ret
                    exact ⟨rfl, BB⟩
                  · by_cases t3 : 1000000 < y
                    · have d2 : decide (y ≤ 1000000) = false := by simp; omega
                      have hB : B = false := bf.out fun h => by
                        have h2 := (h.2.2.2 k hlt2).1
                        unfold inB at h2
                        rw [hx, hy] at h2
                        omega
                      subst hB
                      go_wp2_with (first | (go_at_call 27; refine (time_yes x _ (by omega) (by omega)).mono ?_; rintro e w9 ⟨rfl, hw9⟩; rw [hw9]; clear hw9 w9) | (go_at_call 28; refine (lat_no y _ (by omega)).mono ?_; rintro e w9 ⟨rfl, hw9⟩; rw [hw9]; clear hw9 w9))
                      go_ret
                      exact ⟨rfl, BB⟩
                    · have d2 : decide (y ≤ 1000000) = true := by simp; omega
                      have HIN : Hid (inB L[k]) := by
                        show inB _
                        unfold inB
                        rw [hx, hy]
                        omega
                      have HB2 : Hid (Below (w.heap.size + 1) (w.alloc (.cells #[.int .i64 span, .slice (some ⟨g, o, none⟩) n c] 27)) (wr.alloc (.cells #[.int .i64 x, .int .i64 y] 64))) := HW.out.alloc (by have := HW.out.size; simp at this; omega) _
                      by_cases hk0 : k = 0
                      · have HK2 : Hid (∀ (j : Nat) (h : j < L.length), j < k + 1 → okAt L j h) := fun j h hj => by
                          obtain rfl : j = k := by omega
                          exact ⟨HIN.out, fun h0 => by omega⟩
                        have HZ : Hid (k = 0) := hk0
                        have d3 : decide ((k : Int) > 0) = false := by simp; omega
                        have d4 : decide ((0 : Int) < (k : Int)) = false := by simp; omega
                        have d5 : decide (0 < k) = false := by simp; omega
                        clear hk0
                        go_wp2_with (first | (go_at_call 27; refine (time_yes x _ (by omega) (by omega)).mono ?_; rintro e w9 ⟨rfl, hw9⟩; rw [hw9]; clear hw9 w9) | (go_at_call 28; refine (lat_yes y _ (by omega) (by omega)).mono ?_; rintro e w9 ⟨rfl, hw9⟩; rw [hw9]; clear hw9 w9))
                        go_quiet (fail)
                        go_wp2
                        go_roundw
                        case rel => exact ⟨k + 1, by omega, by go_num, HK2, below_drewN HB2.out _⟩
                        case measure => simp [intOf]; omega
                      · obtain ⟨j, hj⟩ : ∃ j, k = j + 1 := ⟨k - 1, by omega⟩
                        have hj2 : j < L.length := by omega
                        have hr2 : PRow (wr.alloc (.cells #[.int .i64 x, .int .i64 y] 64)) g o L := hr1.same (Below.heap_alloc wr _ g hr1.lt)
                        have p0 := hr2.c0 j hj2
                        have p1 := hr2.c1 j hj2
                        clear hr2
                        obtain ⟨x0, hx0⟩ : ∃ x0, L[j].1 = x0 := ⟨_, rfl⟩
                        obtain ⟨y0, hy0⟩ : ∃ y0, L[j].2 = y0 := ⟨_, rfl⟩
                        rw [hx0] at p0
                        rw [hy0] at p1
                        have box : (wr.alloc (.cells #[.int .i64 x, .int .i64 y] 64)).cell? ⟨w.heap.size, 1, none⟩ = some (.slice (some ⟨g, o, none⟩) n c) := by
                          rw [HB2.out.cell (by simp)]
                          simp
                        have e1 : (k : Int) - 1 = (j : Int) := by omega
                        have e2 : IntKind.i64.wrap (j : Int) = (j : Int) := by rw [IntKind.wrap_i64]; omega
                        have l1 : (j : Int) < (n : Int) := by omega
                        have l2 : (0 : Int) ≤ (j : Int) := by omega
                        have HJ : Hid (k = j + 1) := hj
                        have d3 : (0 : Int) < (k : Int) := by omega
                        have d5 : 0 < k := by omega
                        have d6 : decide (0 < k) = true := by simp; omega
                        clear hj hk0
                        have HX : Hid (winOk span L → x0 < x ∧ y0 < y) := fun h => by
                          have h2 := (h.2.2.2 k hlt2).2 (by omega)
                          have ek : k - 1 = j := by have := HJ.out; omega
                          simp only [ek] at h2
                          rw [hx, hy, hx0, hy0] at h2
                          exact h2
                        by_cases u0 : x ≤ x0
                        · have hB : B = false := bf.out fun h => by have := (HX.out h).1; omega
                          subst hB
                          go_wp2_with (first | (go_at_call 27; refine (time_yes x _ (by omega) (by omega)).mono ?_; rintro e w9 ⟨rfl, hw9⟩; rw [hw9]; clear hw9 w9) | (go_at_call 28; refine (lat_yes y _ (by omega) (by omega)).mono ?_; rintro e w9 ⟨rfl, hw9⟩; rw [hw9]; clear hw9 w9))
                          go_quiet (fail)
                          go_wp2
                          go_ret
                          exact ⟨rfl, below_drewN BB _⟩
                        · have f0 : decide (x ≤ x0) = false := by simp; omega
                          by_cases u1 : y ≤ y0
                          · have hB : B = false := bf.out fun h => by have := (HX.out h).2; omega
                            subst hB
                            go_wp2_with (first | (go_at_call 27; refine (time_yes x _ (by omega) (by omega)).mono ?_; rintro e w9 ⟨rfl, hw9⟩; rw [hw9]; clear hw9 w9) | (go_at_call 28; refine (lat_yes y _ (by omega) (by omega)).mono ?_; rintro e w9 ⟨rfl, hw9⟩; rw [hw9]; clear hw9 w9))
                            go_quiet (fail)
                            go_wp2
                            go_ret
                            exact ⟨rfl, below_drewN BB _⟩
                          · have f1 : decide (y ≤ y0) = false := by simp; omega
                            have HK2 : Hid (∀ (j : Nat) (h : j < L.length), j < k + 1 → okAt L j h) := fun i h hi => by
                              by_cases hik : i < k
                              · exact HK.out i h hik
                              · obtain rfl : i = k := by omega
                                refine ⟨HIN.out, fun _ => ?_⟩
                                have ek : i - 1 = j := by have := HJ.out; omega
                                simp only [ek]
                                rw [hx, hy, hx0, hy0]
                                omega
                            go_wp2_with (first | (go_at_call 27; refine (time_yes x _ (by omega) (by omega)).mono ?_; rintro e w9 ⟨rfl, hw9⟩; rw [hw9]; clear hw9 w9) | (go_at_call 28; refine (lat_yes y _ (by omega) (by omega)).mono ?_; rintro e w9 ⟨rfl, hw9⟩; rw [hw9]; clear hw9 w9))
                            go_quiet (fail)
                            go_wp2
                            go_roundw
                            case rel => exact ⟨k + 1, by omega, by go_num, HK2, below_drewN HB2.out _⟩
                            case measure => simp [intOf]; omega
          · obtain rfl : k = n := by omega
            have hB : B = true := bt.out ⟨by omega, by omega, by rw [HN.out]; omega, fun j h => HK.out j h (by rw [← HN.out]; exact h)⟩
            subst hB
            have BB : Below w.heap.size w wr := ((Below.refl _ _).alloc (Nat.le_refl _) _).trans (HW.out.mono (by omega))
            go_wp2
            go_ret
            exact ⟨rfl, BB⟩
end Go.Proofs.Ytbdkepnjhcdpnaa.ImplOk
