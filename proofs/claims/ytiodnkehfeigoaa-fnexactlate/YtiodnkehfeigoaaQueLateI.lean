/- What the program's Late answers, at every queue and two numbers: its late requests, in a list of its own; nothing else turns. -/
import Derived.Test.YtiodnkehfeigoaaRows
import Derived.WalkKit
import Derived.WalkSmall
import Derived.BigQuiet
import Derived.Deep.RegionWith
import Derived.Deep.DeepCutAuto
import Derived.Test.YtiodnkehfeigoaaListKit
import Derived.Test.YtiodnkehfeigoaaHoldKit
import Derived.Test.YtiodnkehfeigoaaGrowKit
import Derived.Test.YtiodnkehfeigoaaReqKit
import Derived.Test.YtiodnkehfeigoaaReqOks
import Derived.Test.YtiodnkehfeigoaaQueMath
import Derived.Test.YtiodnkehfeigoaaQueTierS
import Derived.Test.YtiodnkehfeigoaaQueLateS
import Derived.Test.YtiodnkehfeigoaaQueStandI
namespace Go.Proofs.Ytiodnkehfeigoaa.QueLateI
open Go.RowKit ListKit HoldKit GrowKit QueMath QueLateS
set_option maxRecDepth 8000
set_option linter.unusedVariables false
set_option linter.unusedSimpArgs false

theorem time_is (n : Int) (w : World) : Calls Try.prog 55 #[.int .i64 n] w fun e w' => e = .returned (.bool (isT n)) ∧ w' = w := by
  by_cases h1 : 0 ≤ n
  · have d1 : decide (0 ≤ n) = true := by simpa using h1
    by_cases h2 : n ≤ 1000000000
    · have d2 : decide (n ≤ 1000000000) = true := by simpa using h2
      have e0 : isT n = true := by simp [isT, h1, h2]
      have e : Hid (isT n = true) := e0
      clear h1 h2 e0
      go_enter Try.func55, Try.ntmps55
      go_wp2
      go_ret
      exact ⟨by rw [e.out]; rfl, rfl⟩
    · have d2 : decide (n ≤ 1000000000) = false := by simpa using h2
      have e0 : isT n = false := by simp [isT]; omega
      have e : Hid (isT n = false) := e0
      clear h1 h2 e0
      go_enter Try.func55, Try.ntmps55
      go_wp2
      go_ret
      exact ⟨by rw [e.out]; rfl, rfl⟩
  · have d1 : decide (0 ≤ n) = false := by simpa using h1
    have e0 : isT n = false := by simp [isT]; omega
    have e : Hid (isT n = false) := e0
    clear h1 e0
    go_enter Try.func55, Try.ntmps55
    go_wp2
    go_ret
    exact ⟨by rw [e.out]; rfl, rfl⟩
theorem late_is (x0 x1 x2 x3 x4 x5 now wait : Int) (w : World) (hp : 0 ≤ x3 ∧ x3 ≤ 1000000000 ∧ 0 ≤ x4 ∧ x4 ≤ 1000000000) (hw : 0 ≤ wait ∧ wait ≤ 1000000000) :
    Calls Try.prog 56 #[.agg #[.int .i64 x0, .int .i64 x1, .int .i64 x2, .int .i64 x3, .int .i64 x4, .int .i64 x5], .int .i64 now, .int .i64 wait] w fun e w' => e = .returned (.bool (isLate now wait ⟨x0, x1, x2, x3, x4, x5⟩)) ∧ Below w.heap.size w w' := by
  have HB : ∀ A : Obj, Hid (Below w.heap.size w (w.alloc A)) := fun A => n1 _ _
  have kw : IntKind.i64.wrap (x4 + wait) = x4 + wait := by rw [IntKind.wrap_i64]; omega
  by_cases e : x3 = 0
  · have d0 : (x3 != 0) = false := by simpa using e
    have e0 : isLate now wait ⟨x0, x1, x2, x3, x4, x5⟩ = decide (x4 + wait ≤ now) := by simp [isLate, e]
    have e9 : Hid (isLate now wait ⟨x0, x1, x2, x3, x4, x5⟩ = decide (x4 + wait ≤ now)) := e0
    clear e e0 hp hw
    go_enter Try.func56, Try.ntmps56
    go_wp2
    go_ret
    exact ⟨by rw [e9.out]; rfl, (HB _).out⟩
  · have d0 : (x3 != 0) = true := by simpa using e
    have e0 : isLate now wait ⟨x0, x1, x2, x3, x4, x5⟩ = decide (x3 ≤ now) := by
      have h3 : 0 < x3 := by omega
      simp [isLate, e, h3]
    have e9 : Hid (isLate now wait ⟨x0, x1, x2, x3, x4, x5⟩ = decide (x3 ≤ now)) := e0
    clear e e0 hp hw
    go_enter Try.func56, Try.ntmps56
    go_wp2
    go_ret
    exact ⟨by rw [e9.out]; rfl, (HB _).out⟩
set_option maxHeartbeats 8000000 in
theorem impl_late (x : Int) (a : Option Addr) (c : Nat) (L : List ReqKit.Req) (now wait : Int) (B : Bool) (w : World) (h : Own 39 6 ReqKit.cells w a L) (hl : L.length ≤ 1048577) (hc : L.length ≤ c) (bf : Hid (B = true ↔ QueOk x L)) :
    Calls Try.prog 34 #[.agg #[.int .i64 x, .slice a L.length c], .int .i64 now, .int .i64 wait] w fun e w' => ∃ a2 c2, e = .returned (.slice a2 (lateOf B L now wait).length c2) ∧ (lateOf B L now wait).length ≤ c2 ∧ Holds w' w.heap.size [⟨a2, 39, 6, (lateOf B L now wait).map ReqKit.cells⟩] ∧ Below w.heap.size w w' := by
  have HQ := fun W h => QueStandI.impl_queueok x a c L B W h hl hc bf
  have TN := fun W => time_is now W
  have TW := fun W => time_is wait W
  obtain ⟨tn, TNE⟩ : ∃ tn, isT now = tn := ⟨_, rfl⟩
  obtain ⟨tw, TWE⟩ : ∃ tw, isT wait = tw := ⟨_, rfl⟩
  rw [TNE] at TN
  rw [TWE] at TW
  cases B with
  | false =>
    have HN0 : lateOf false L now wait = [] := by
      unfold lateOf
      rw [if_neg (by simp [TNE, TWE])]
    rw [HN0]
    clear TNE TWE
    go_enter Try.func34, Try.ntmps34
    go_wp2_with fail
    refine (HQ _ (h.below (n1 w _))).mono ?_
    rintro e w1 ⟨rfl, b1⟩
    have B1 : Hid (Below w.heap.size w w1) := (n1 w _).trans (b1.mono (n1 w _).size)
    have G1 : Hid (Holds w1 w.heap.size [⟨none, 39, 6, ([] : List ReqKit.Req).map ReqKit.cells⟩]) := Holds.own (f := ReqKit.cells) (L := []) (Or.inl rfl) (fun b hb => by simp [blkL] at hb)
    clear b1 h HQ bf
    go_wp2
    go_ret
    exact ⟨none, 0, rfl, Nat.le_refl _, G1.out, B1.out⟩
  | true =>
    cases tn with
    | false =>
      have HN0 : lateOf true L now wait = [] := by
        unfold lateOf
        rw [if_neg (by simp [TNE, TWE])]
      rw [HN0]
      clear TNE TWE
      go_enter Try.func34, Try.ntmps34
      go_wp2_with fail
      refine (HQ _ (h.below (n1 w _))).mono ?_
      rintro e w1 ⟨rfl, b1⟩
      have B1 : Hid (Below w.heap.size w w1) := (n1 w _).trans (b1.mono (n1 w _).size)
      have G1 : Hid (Holds w1 w.heap.size [⟨none, 39, 6, ([] : List ReqKit.Req).map ReqKit.cells⟩]) := Holds.own (f := ReqKit.cells) (L := []) (Or.inl rfl) (fun b hb => by simp [blkL] at hb)
      clear b1 h HQ bf
      go_wp2_with fail
      refine (TN _).mono ?_
      rintro e w9 ⟨rfl, hw9⟩
      rw [hw9]
      clear hw9 w9
      go_wp2
      go_ret
      exact ⟨none, 0, rfl, Nat.le_refl _, G1.out, B1.out⟩
    | true =>
      cases tw with
      | false =>
        have HN0 : lateOf true L now wait = [] := by
          unfold lateOf
          rw [if_neg (by simp [TNE, TWE])]
        rw [HN0]
        clear TNE TWE
        go_enter Try.func34, Try.ntmps34
        go_wp2_with fail
        refine (HQ _ (h.below (n1 w _))).mono ?_
        rintro e w1 ⟨rfl, b1⟩
        have B1 : Hid (Below w.heap.size w w1) := (n1 w _).trans (b1.mono (n1 w _).size)
        have G1 : Hid (Holds w1 w.heap.size [⟨none, 39, 6, ([] : List ReqKit.Req).map ReqKit.cells⟩]) := Holds.own (f := ReqKit.cells) (L := []) (Or.inl rfl) (fun b hb => by simp [blkL] at hb)
        clear b1 h HQ bf
        go_wp2_with fail
        refine (TN _).mono ?_
        rintro e w9 ⟨rfl, hw9⟩
        rw [hw9]
        clear hw9 w9
        go_wp2_with fail
        refine (TW _).mono ?_
        rintro e w9 ⟨rfl, hw9⟩
        rw [hw9]
        clear hw9 w9
        go_wp2
        go_ret
        exact ⟨none, 0, rfl, Nat.le_refl _, G1.out, B1.out⟩
      | true =>
        have HF : lateOf true L now wait = L.filter (isLate now wait) := by
          unfold lateOf
          rw [if_pos (by simp [TNE, TWE])]
        rw [HF]
        have hwt : 0 ≤ wait ∧ wait ≤ 1000000000 := by simpa [isT] using TWE
        have HA : Hid (Own 39 6 ReqKit.cells w a L) := h
        obtain ⟨n, hn⟩ : ∃ n, L.length = n := ⟨_, rfl⟩
        have HN : Hid (L.length = n) := hn
        have HR0 : Hid (∀ (k : Nat) (h : k < L.length), ReqOks.reqOk L[k] = true) := fun k hk => ((bf.out.1 rfl).2.2.2 k hk).1
        have b0 : Hid (boxB (w.alloc (.cells #[.int .i64 x, .slice a n c] 29)) w.heap.size #[.int .i64 x, .slice a n c] 29 ∧ Below w.heap.size w (w.alloc (.cells #[.int .i64 x, .slice a n c] 29))) := ⟨boxB.new _ _ _, n1 _ _⟩
        rw [hn] at hl hc HQ ⊢
        clear hn h HF TNE TWE bf
        go_enter Try.func34, Try.ntmps34
        go_wp2_with fail
        refine (HQ _ (HA.out.below b0.out.2)).mono ?_
        rintro e w1 ⟨rfl, b1⟩
        have B1 : Hid (GrowKit.Cp 39 6 ReqKit.cells w1 (w.heap.size + 1) (.slice none 0 0) ([]) ∧ boxB w1 w.heap.size #[.int .i64 x, .slice a n c] 29 ∧ Below w.heap.size w w1) := ⟨Cp.nil _ _, b0.out.1.below b1, b0.out.2.trans (b1.mono b0.out.2.size)⟩
        have l1 := B1.out.2.1.cell 1
        clear b1 b0 HQ
        go_wp2_with fail
        refine (TN _).mono ?_
        rintro e w9 ⟨rfl, hw9⟩
        rw [hw9]
        clear hw9 w9
        go_wp2_with fail
        refine (TW _).mono ?_
        rintro e w9 ⟨rfl, hw9⟩
        rw [hw9]
        clear hw9 w9
        go_wp2
        go_loopw [7, 9, 26] (fun t7 t9 i wr => ∃ (k : Nat) (v : Value), k ≤ n ∧ t7 = v ∧ i = .int .i64 (k : Int) ∧ Hid (GrowKit.Cp 39 6 ReqKit.cells wr (w.heap.size + 1) v ((L.take k).filter (isLate now wait)) ∧ boxB wr w.heap.size #[.int .i64 x, .slice a n c] 29 ∧ Below w.heap.size w wr)) (fun _ _ i _ => n - (intOf i).toNat)
        case atStart => exact ⟨0, _, by omega, rfl, rfl, B1⟩
        case round =>
          obtain ⟨k, v, hk, rfl, rfl, HW⟩ := hrel
          clear B1 l1 TN TW
          by_cases hlt : k < n
          · have hlt2 : k < L.length := by rw [HN.out]; exact hlt
            rcases HA.out with hnil | ⟨g, o, rfl, hrw⟩
            · rw [hnil] at hlt2; simp at hlt2
            · have hr1 : Row 39 6 ReqKit.cells wr g o L := hrw.below HW.out.2.2
              obtain ⟨sx, hsx⟩ : ∃ s, L[k] = s := ⟨_, rfl⟩
              obtain ⟨x0, x1, x2, x3, x4, x5⟩ := sx
              have u9 := fun jj hjj => (hr1).cell k hlt2 jj hjj
              have p0 : wr.cell? ⟨g, o + k * 6, none⟩ = some (.int .i64 x0) := by have h9 := u9 0 (by omega); rw [hsx] at h9; exact h9
              have p1 : wr.cell? ⟨g, o + k * 6 + 1, none⟩ = some (.int .i64 x1) := by have h9 := u9 1 (by omega); rw [hsx] at h9; exact h9
              have p2 : wr.cell? ⟨g, o + k * 6 + 2, none⟩ = some (.int .i64 x2) := by have h9 := u9 2 (by omega); rw [hsx] at h9; exact h9
              have p3 : wr.cell? ⟨g, o + k * 6 + 3, none⟩ = some (.int .i64 x3) := by have h9 := u9 3 (by omega); rw [hsx] at h9; exact h9
              have p4 : wr.cell? ⟨g, o + k * 6 + 4, none⟩ = some (.int .i64 x4) := by have h9 := u9 4 (by omega); rw [hsx] at h9; exact h9
              have p5 : wr.cell? ⟨g, o + k * 6 + 5, none⟩ = some (.int .i64 x5) := by have h9 := u9 5 (by omega); rw [hsx] at h9; exact h9
              clear u9
              have hli : (k : Int) < (n : Int) := by omega
              have hkc : (k : Int) < (c : Int) := by omega
              have hq := HR0.out k hlt2
              have HST := QueTierS.filter_take (p := isLate now wait) L k hlt2
              rw [hsx] at HST hq
              have HLT := fun W => late_is x0 x1 x2 x3 x4 x5 now wait W (req_parts hq) hwt
              have HD := QueTierS.filter_len (p := isLate now wait) L k
              obtain ⟨D, hD⟩ : ∃ D, (L.take k).filter (isLate now wait) = D := ⟨_, rfl⟩
              rw [hD] at HST HD HW
              obtain ⟨lt, hlt9⟩ : ∃ lt, isLate now wait ⟨x0, x1, x2, x3, x4, x5⟩ = lt := ⟨_, rfl⟩
              rw [hlt9] at HST HLT
              have HS2 : Hid ((L.take (k + 1)).filter (isLate now wait) = D ++ (if lt = true then [⟨x0, x1, x2, x3, x4, x5⟩] else [])) := HST
              have hz1 : w.heap.size + 1 ≤ wr.heap.size := HW.out.2.1.lt
              clear hr1 hsx hrw HST hD hq hlt9
              have B6 : Hid (GrowKit.Cp 39 6 ReqKit.cells (wr.alloc (.cells #[.int .i64 x0, .int .i64 x1, .int .i64 x2, .int .i64 x3, .int .i64 x4, .int .i64 x5] 39)) (w.heap.size + 1) u7 (D) ∧ boxB (wr.alloc (.cells #[.int .i64 x0, .int .i64 x1, .int .i64 x2, .int .i64 x3, .int .i64 x4, .int .i64 x5] 39)) w.heap.size #[.int .i64 x, .slice (some ⟨g, o, none⟩) n c] 29 ∧ Below w.heap.size w (wr.alloc (.cells #[.int .i64 x0, .int .i64 x1, .int .i64 x2, .int .i64 x3, .int .i64 x4, .int .i64 x5] 39)) ∧ boxB (wr.alloc (.cells #[.int .i64 x0, .int .i64 x1, .int .i64 x2, .int .i64 x3, .int .i64 x4, .int .i64 x5] 39)) wr.heap.size #[.int .i64 x0, .int .i64 x1, .int .i64 x2, .int .i64 x3, .int .i64 x4, .int .i64 x5] 39) := ⟨HW.out.1.below (n1 _ _), HW.out.2.1.below (n1 _ _), HW.out.2.2.alloc HW.out.2.2.size _, boxB.new _ _ _⟩
              go_wp2_with fail
              refine (HLT _).mono ?_
              rintro e w7 ⟨rfl, b7⟩
              have B7 : Hid (GrowKit.Cp 39 6 ReqKit.cells w7 (w.heap.size + 1) u7 (D) ∧ boxB w7 w.heap.size #[.int .i64 x, .slice (some ⟨g, o, none⟩) n c] 29 ∧ Below w.heap.size w w7 ∧ boxB w7 wr.heap.size #[.int .i64 x0, .int .i64 x1, .int .i64 x2, .int .i64 x3, .int .i64 x4, .int .i64 x5] 39) := ⟨B6.out.1.below b7, B6.out.2.1.below b7, B6.out.2.2.1.trans (b7.mono B6.out.2.2.1.size), B6.out.2.2.2.below b7⟩
              have hz7 : w.heap.size + 1 ≤ w7.heap.size := B7.out.2.1.lt
              clear b7 B6 HW HLT p0 p1 p2 p3 p4 p5
              cases lt with
              | false =>
                have HE : Hid (GrowKit.Cp 39 6 ReqKit.cells w7 (w.heap.size + 1) u7 ((L.take (k + 1)).filter (isLate now wait)) ∧ boxB w7 w.heap.size #[.int .i64 x, .slice (some ⟨g, o, none⟩) n c] 29 ∧ Below w.heap.size w w7) := by
                  have e9 : (L.take (k + 1)).filter (isLate now wait) = D := by rw [HS2.out]; simp
                  exact ⟨by rw [e9]; exact B7.out.1, B7.out.2.1, B7.out.2.2.1⟩
                clear B7 HS2
                go_wp2
                go_roundw
                case rel => exact ⟨k + 1, _, by omega, rfl, by go_num, HE⟩
                case measure => simp [intOf]; omega
              | true =>
                have HS3 : Hid ((L.take (k + 1)).filter (isLate now wait) = D ++ [⟨x0, x1, x2, x3, x4, x5⟩]) := by
                  show _ = D ++ [_]
                  rw [HS2.out]
                  simp
                have q0 := B7.out.2.2.2.cell 0
                have q1 := B7.out.2.2.2.cell 1
                have q2 := B7.out.2.2.2.cell 2
                have q3 := B7.out.2.2.2.cell 3
                have q4 := B7.out.2.2.2.cell 4
                have q5 := B7.out.2.2.2.cell 5
                obtain ⟨i0, hi, hy0, hy1, hy2⟩ := info_parts QueTierS.info_req
                go_wp2_with (at_builtin; refine wpList_append_own _ rfl (.tmp 34) (.tmp 36) 27 rfl (w.heap.size + 1) 39 i0 (.agg #[.int .i64 0, .int .i64 0, .int .i64 0, .int .i64 0, .int .i64 0, .int .i64 0]) 6 48 Try.underlying27 hi hy0 hy1 hy2 rfl (by decide) _ D.length (flat ReqKit.cells D) rfl (B7.out.1.below (n1 _ _)) ⟨w7.heap.size, 0, none⟩ 1 1 (ReqKit.cells ⟨x0, x1, x2, x3, x4, x5⟩) rfl rfl (QueTierS.new_cells w7 ⟨x0, x1, x2, x3, x4, x5⟩ 39) (QueTierS.cells_one _) (by unfold maxLen; omega) (by omega) (by rw [sz1]; omega) ?_; intro v8 w8 hown hgr _; have HE : Hid (GrowKit.Cp 39 6 ReqKit.cells w8 (w.heap.size + 1) v8 ((L.take (k + 1)).filter (isLate now wait)) ∧ boxB w8 w.heap.size #[.int .i64 x, .slice (some ⟨g, o, none⟩) n c] 29 ∧ Below w.heap.size w w8) := ⟨by rw [HS3.out]; exact Cp.push hown, box_grown (B7.out.2.1.below (n1 _ _)) hgr (fun e => by have := B7.out.1.ge _ e; omega), Cp.turned (B7.out.1.below (n1 _ _)) hgr (Nat.le_succ _) (B7.out.2.2.1.alloc B7.out.2.2.1.size _)⟩; clear hown hgr)
                go_roundw
                case rel => exact ⟨k + 1, v8, by omega, rfl, by go_num, HE⟩
                case measure => simp [intOf]; omega
          · obtain rfl : k = n := by omega
            have hfull : Hid ((L.take k).filter (isLate now wait) = L.filter (isLate now wait)) := by
              show _ = L.filter _
              rw [← HN.out, List.take_length]
            have HE : Hid (∃ a2 c2, u7 = .slice a2 (L.filter (isLate now wait)).length c2 ∧ (L.filter (isLate now wait)).length ≤ c2 ∧ Holds wr (w.heap.size + 1) [⟨a2, 39, 6, (L.filter (isLate now wait)).map ReqKit.cells⟩]) := by
              have h9 := HW.out.1
              rw [hfull.out] at h9
              exact Cp.shape (t := 39) (m := 6) (f := ReqKit.cells) (fun _ => rfl) h9
            obtain ⟨a2, c2, hu, hc2, hh⟩ := HE.out
            subst hu
            have HH : Hid (Holds wr (w.heap.size + 1) [⟨a2, 39, 6, (L.filter (isLate now wait)).map ReqKit.cells⟩]) := hh
            clear hh HE
            go_wp2
            go_ret
            exact ⟨a2, c2, rfl, hc2, HH.out.low (Nat.le_succ _), HW.out.2.2⟩
end Go.Proofs.Ytiodnkehfeigoaa.QueLateI
