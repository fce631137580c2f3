/- What the model's Late answers, at every queue and two numbers: its late requests, in a list of its own; nothing else turns. -/
import Derived.Test.YtiodnkehfeigoaaRows
import Derived.WalkKit
import Derived.WalkSmall
import Derived.BigQuiet
import Derived.Deep.RegionWith
import Derived.Deep.DeepCutAuto
import Derived.Test.YtiodnkehfeigoaaListKit
import Derived.Test.YtiodnkehfeigoaaHoldKit
import Derived.Test.YtiodnkehfeigoaaGrowKit
import Derived.Test.YtiodnkehfeigoaaReqKit
import Derived.Test.YtiodnkehfeigoaaReqOks
import Derived.Test.YtiodnkehfeigoaaQueMath
import Derived.Test.YtiodnkehfeigoaaQueOkS
import Derived.Test.YtiodnkehfeigoaaQueTierS
namespace Go.Proofs.Ytiodnkehfeigoaa.QueLateS
open Go.RowKit ListKit HoldKit GrowKit QueMath
set_option maxRecDepth 8000
set_option linter.unusedVariables false
set_option linter.unusedSimpArgs false


/-- A request that is late. -/
def isLate (now wait : Int) (s : ReqKit.Req) : Bool := decide ((0 < s.x3 ∧ s.x3 ≤ now) ∨ (s.x3 = 0 ∧ s.x4 + wait ≤ now))
def isT (n : Int) : Bool := decide (0 ≤ n ∧ n ≤ 1000000000)
/-- What Late tells, where the queue's being right is B. -/
def lateOf (B : Bool) (L : List ReqKit.Req) (now wait : Int) : List ReqKit.Req := if (B && isT now && isT wait) = true then L.filter (isLate now wait) else []
theorem late_len (B : Bool) (now wait : Int) (L : List ReqKit.Req) : (lateOf B L now wait).length ≤ L.length := by
  unfold lateOf
  split
  · exact List.length_filter_le _ _
  · exact Nat.zero_le _
theorem req_parts {x0 x1 x2 x3 x4 x5 : Int} (h : ReqOks.reqOk ⟨x0, x1, x2, x3, x4, x5⟩ = true) : 0 ≤ x3 ∧ x3 ≤ 1000000000 ∧ 0 ≤ x4 ∧ x4 ≤ 1000000000 := by
  have h2 : 1 ≤ x0 ∧ x0 ≤ 1000000 ∧ 0 ≤ x1 ∧ x1 < 4 ∧ 0 ≤ x2 ∧ x2 ≤ 1000 ∧ 0 ≤ x3 ∧ x3 ≤ 1000000000 ∧ 0 ≤ x4 ∧ x4 ≤ 1000000000 ∧ 0 ≤ x5 ∧ x5 ≤ 20 := by simpa [ReqOks.reqOk] using h
  omega

theorem time_yes (n : Int) (w : World) (h1 : 0 ≤ n) (h2 : n ≤ 1000000000) : Calls Try.prog 54 #[.int .i64 n] w fun e w' => e = .returned (.bool true) ∧ w' = w := by
  have d1 : decide (0 ≤ n) = true := by simp; omega
  have d2 : decide (n ≤ 1000000000) = true := by simp; omega
  go_enter Try.func54, Try.ntmps54
  go_wp2
  go_ret
  exact ⟨rfl, rfl⟩
set_option maxHeartbeats 8000000 in
theorem spec_late (x : Int) (a : Option Addr) (c : Nat) (L : List ReqKit.Req) (now wait : Int) (B : Bool) (w : World) (h : Own 39 6 ReqKit.cells w a L) (hl : L.length ≤ 1048577) (hc : L.length ≤ c) (bf : Hid (B = true ↔ QueOk x L)) :
    Calls Try.prog 33 #[.agg #[.int .i64 x, .slice a L.length c], .int .i64 now, .int .i64 wait] w fun e w' => ∃ a2 c2, e = .returned (.slice a2 (lateOf B L now wait).length c2) ∧ (lateOf B L now wait).length ≤ c2 ∧ Holds w' w.heap.size [⟨a2, 39, 6, (lateOf B L now wait).map ReqKit.cells⟩] ∧ Below w.heap.size w w' := by
  have HQ := fun W h => QueOkS.spec_queueok x a c L B W h hl hc bf
  cases B with
  | false =>
    have HN0 : lateOf false L now wait = [] := by
      unfold lateOf
      rw [if_neg (by simp [isT]; try omega)]
    rw [HN0]
    go_enter Try.func33, Try.ntmps33
    go_wp2_with fail
    refine (HQ _ (h.below (n2 w _ _))).mono ?_
    rintro e w1 ⟨rfl, b1⟩
    have B1 : Hid (Below w.heap.size w w1) := (n2 w _ _).trans (b1.mono (n2 w _ _).size)
    have G1 : Hid (Holds w1 w.heap.size [⟨some ⟨w.heap.size + 1, 0, none⟩, 39, 6, ([] : List ReqKit.Req).map ReqKit.cells⟩]) := Holds.own (f := ReqKit.cells) (L := []) (Or.inl rfl) (fun b hb => by simp [blkL] at hb)
    clear b1 h HQ
    go_wp2
    go_ret
    exact ⟨some ⟨w.heap.size + 1, 0, none⟩, 0, rfl, Nat.le_refl _, G1.out, B1.out⟩
  | true =>
    by_cases tn : 0 ≤ now ∧ now ≤ 1000000000
    · have tn1 : decide (0 ≤ now) = true := by simp; omega
      have tn2 : decide (now ≤ 1000000000) = true := by simp; omega
      by_cases tw : 0 ≤ wait ∧ wait ≤ 1000000000
      · have tw1 : decide (0 ≤ wait) = true := by simp; omega
        have tw2 : decide (wait ≤ 1000000000) = true := by simp; omega
        have HF : lateOf true L now wait = L.filter (isLate now wait) := by
          unfold lateOf
          rw [if_pos (by simp [isT]; omega)]
        rw [HF]
        have HA : Hid (Own 39 6 ReqKit.cells w a L) := h
        obtain ⟨n, hn⟩ : ∃ n, L.length = n := ⟨_, rfl⟩
        have HN : Hid (L.length = n) := hn
        have HR0 : Hid (∀ (k : Nat) (h : k < L.length), ReqOks.reqOk L[k] = true) := fun k hk => ((bf.out.1 rfl).2.2.2 k hk).1
        have h9 := Cp.empty (t := 39) (m := 6) (f := ReqKit.cells) (w.alloc (.cells #[.int .i64 x, .slice a n c] 29)) (B := w.heap.size + 1) (by simp)
        rw [sz1] at h9
        have b0 : Hid (GrowKit.Cp 39 6 ReqKit.cells ((w.alloc (.cells #[.int .i64 x, .slice a n c] 29)).alloc (.cells #[] 39)) (w.heap.size + 1) (.slice (some ⟨w.heap.size + 1, 0, none⟩) 0 0) ([]) ∧ boxB ((w.alloc (.cells #[.int .i64 x, .slice a n c] 29)).alloc (.cells #[] 39)) w.heap.size #[.int .i64 x, .slice a n c] 29 ∧ Below w.heap.size w ((w.alloc (.cells #[.int .i64 x, .slice a n c] 29)).alloc (.cells #[] 39))) := ⟨h9, (boxB.new _ _ _).below (n1 _ _), n2 _ _ _⟩
        rw [hn] at hl hc HQ ⊢
        clear hn h h9 HF
        go_enter Try.func33, Try.ntmps33
        go_wp2_with fail
        refine (HQ _ (HA.out.below b0.out.2.2)).mono ?_
        rintro e w1 ⟨rfl, b1⟩
        have B1 : Hid (GrowKit.Cp 39 6 ReqKit.cells w1 (w.heap.size + 1) (.slice (some ⟨w.heap.size + 1, 0, none⟩) 0 0) ([]) ∧ boxB w1 w.heap.size #[.int .i64 x, .slice a n c] 29 ∧ Below w.heap.size w w1) := ⟨b0.out.1.below b1, b0.out.2.1.below b1, b0.out.2.2.trans (b1.mono b0.out.2.2.size)⟩
        have l1 := B1.out.2.1.cell 1
        clear b1 b0 HQ
        go_wp2_with (first | (go_at_call 54; refine (time_yes now _ tn.1 tn.2).mono ?_; rintro e w9 ⟨rfl, hw9⟩; rw [hw9]; clear hw9 w9) | (go_at_call 54; refine (time_yes wait _ tw.1 tw.2).mono ?_; rintro e w9 ⟨rfl, hw9⟩; rw [hw9]; clear hw9 w9))
        go_loopw [7, 9, 28] (fun t7 t9 i wr => ∃ (k : Nat) (v : Value), k ≤ n ∧ t7 = v ∧ i = .int .i64 (k : Int) ∧ Hid (GrowKit.Cp 39 6 ReqKit.cells wr (w.heap.size + 1) v ((L.take k).filter (isLate now wait)) ∧ boxB wr w.heap.size #[.int .i64 x, .slice a n c] 29 ∧ Below w.heap.size w wr)) (fun _ _ i _ => n - (intOf i).toNat)
        case atStart => exact ⟨0, _, by omega, rfl, rfl, B1⟩
        case round =>
          obtain ⟨k, v, hk, rfl, rfl, HW⟩ := hrel
          clear B1 l1
          by_cases hlt : k < n
          · have hlt2 : k < L.length := by rw [HN.out]; exact hlt
            rcases HA.out with hnil | ⟨g, o, rfl, hrw⟩
            · rw [hnil] at hlt2; simp at hlt2
            · have hr1 : Row 39 6 ReqKit.cells wr g o L := hrw.below HW.out.2.2
              obtain ⟨sx, hsx⟩ : ∃ s, L[k] = s := ⟨_, rfl⟩
              obtain ⟨x0, x1, x2, x3, x4, x5⟩ := sx
              have u9 := fun j hj => (hr1).cell k hlt2 j hj
              have p0 : wr.cell? ⟨g, o + k * 6, none⟩ = some (.int .i64 x0) := by have h9 := u9 0 (by omega); rw [hsx] at h9; exact h9
              have p1 : wr.cell? ⟨g, o + k * 6 + 1, none⟩ = some (.int .i64 x1) := by have h9 := u9 1 (by omega); rw [hsx] at h9; exact h9
              have p2 : wr.cell? ⟨g, o + k * 6 + 2, none⟩ = some (.int .i64 x2) := by have h9 := u9 2 (by omega); rw [hsx] at h9; exact h9
              have p3 : wr.cell? ⟨g, o + k * 6 + 3, none⟩ = some (.int .i64 x3) := by have h9 := u9 3 (by omega); rw [hsx] at h9; exact h9
              have p4 : wr.cell? ⟨g, o + k * 6 + 4, none⟩ = some (.int .i64 x4) := by have h9 := u9 4 (by omega); rw [hsx] at h9; exact h9
              have p5 : wr.cell? ⟨g, o + k * 6 + 5, none⟩ = some (.int .i64 x5) := by have h9 := u9 5 (by omega); rw [hsx] at h9; exact h9
              clear u9
              have hli : (k : Int) < (n : Int) := by omega
              have hkc : (k : Int) < (c : Int) := by omega
              have hq := HR0.out k hlt2
              have HST := QueTierS.filter_take (p := isLate now wait) L k hlt2
              rw [hsx] at HST hq
              obtain ⟨y3, y3b, y4, y4b⟩ := req_parts hq
              have HD := QueTierS.filter_len (p := isLate now wait) L k
              obtain ⟨D, hD⟩ : ∃ D, (L.take k).filter (isLate now wait) = D := ⟨_, rfl⟩
              rw [hD] at HST HD HW
              have HS2 : Hid ((L.take (k + 1)).filter (isLate now wait) = D ++ (if isLate now wait ⟨x0, x1, x2, x3, x4, x5⟩ = true then [⟨x0, x1, x2, x3, x4, x5⟩] else [])) := HST
              have hz1 : w.heap.size + 1 ≤ wr.heap.size := HW.out.2.1.lt
              have kw : IntKind.i64.wrap (x4 + wait) = x4 + wait := by rw [IntKind.wrap_i64]; omega
              clear hr1 hsx hrw HST hD hq
              by_cases e1 : 0 < x3
              · have d1 : decide (0 < x3) = true := by simpa using e1
                by_cases e2 : x3 ≤ now
                · have d2 : decide (x3 ≤ now) = true := by simpa using e2
                  have HS3 : Hid ((L.take (k + 1)).filter (isLate now wait) = D ++ [⟨x0, x1, x2, x3, x4, x5⟩]) := by
                    show _ = D ++ [_]
                    rw [HS2.out]
                    have h9 : isLate now wait ⟨x0, x1, x2, x3, x4, x5⟩ = true := by simp [isLate]; omega
                    rw [h9]
                    simp
                  have B7 : Hid (GrowKit.Cp 39 6 ReqKit.cells (wr.alloc (.cells #[.int .i64 x0, .int .i64 x1, .int .i64 x2, .int .i64 x3, .int .i64 x4, .int .i64 x5] 39)) (w.heap.size + 1) u7 (D) ∧ boxB (wr.alloc (.cells #[.int .i64 x0, .int .i64 x1, .int .i64 x2, .int .i64 x3, .int .i64 x4, .int .i64 x5] 39)) w.heap.size #[.int .i64 x, .slice (some ⟨g, o, none⟩) n c] 29 ∧ Below w.heap.size w (wr.alloc (.cells #[.int .i64 x0, .int .i64 x1, .int .i64 x2, .int .i64 x3, .int .i64 x4, .int .i64 x5] 39))) := ⟨HW.out.1.below (n1 _ _), HW.out.2.1.below (n1 _ _), HW.out.2.2.alloc HW.out.2.2.size _⟩
                  obtain ⟨i0, hi, hy0, hy1, hy2⟩ := info_parts QueTierS.info_req
                  go_wp2_with (at_builtin; refine wpList_append_own _ rfl (.tmp 54) (.tmp 56) 27 rfl (w.heap.size + 1) 39 i0 (.agg #[.int .i64 0, .int .i64 0, .int .i64 0, .int .i64 0, .int .i64 0, .int .i64 0]) 6 48 Try.underlying27 hi hy0 hy1 hy2 rfl (by decide) _ D.length (flat ReqKit.cells D) rfl (B7.out.1.below (n1 _ _)) ⟨(wr.alloc (.cells #[.int .i64 x0, .int .i64 x1, .int .i64 x2, .int .i64 x3, .int .i64 x4, .int .i64 x5] 39)).heap.size, 0, none⟩ 1 1 (ReqKit.cells ⟨x0, x1, x2, x3, x4, x5⟩) (by rw [sz1]; rfl) rfl (QueTierS.new_cells (wr.alloc (.cells #[.int .i64 x0, .int .i64 x1, .int .i64 x2, .int .i64 x3, .int .i64 x4, .int .i64 x5] 39)) ⟨x0, x1, x2, x3, x4, x5⟩ 39) (QueTierS.cells_one _) (by unfold maxLen; omega) (by omega) (by rw [sz1, sz1]; omega) ?_; intro v8 w8 hown hgr _; have HE : Hid (GrowKit.Cp 39 6 ReqKit.cells w8 (w.heap.size + 1) v8 ((L.take (k + 1)).filter (isLate now wait)) ∧ boxB w8 w.heap.size #[.int .i64 x, .slice (some ⟨g, o, none⟩) n c] 29 ∧ Below w.heap.size w w8) := ⟨by rw [HS3.out]; exact Cp.push hown, box_grown (B7.out.2.1.below (n1 _ _)) hgr (fun e => by have := B7.out.1.ge _ e; omega), Cp.turned (B7.out.1.below (n1 _ _)) hgr (Nat.le_succ _) (B7.out.2.2.alloc B7.out.2.2.size _)⟩; clear hown hgr)
                  go_roundw
                  case rel => exact ⟨k + 1, v8, by omega, rfl, by go_num, HE⟩
                  case measure => simp [intOf]; omega
                · have d2 : decide (x3 ≤ now) = false := by simpa using e2
                  have d3 : (x3 == 0) = false := by rw [beq_eq_false_iff_ne]; omega
                  have HS3 : Hid ((L.take (k + 1)).filter (isLate now wait) = D) := by
                    show _ = D
                    rw [HS2.out]
                    have h9 : isLate now wait ⟨x0, x1, x2, x3, x4, x5⟩ = false := by simp [isLate]; omega
                    rw [h9]
                    simp
                  have HE : Hid (GrowKit.Cp 39 6 ReqKit.cells (wr.alloc (.cells #[.int .i64 x0, .int .i64 x1, .int .i64 x2, .int .i64 x3, .int .i64 x4, .int .i64 x5] 39)) (w.heap.size + 1) u7 ((L.take (k + 1)).filter (isLate now wait)) ∧ boxB (wr.alloc (.cells #[.int .i64 x0, .int .i64 x1, .int .i64 x2, .int .i64 x3, .int .i64 x4, .int .i64 x5] 39)) w.heap.size #[.int .i64 x, .slice (some ⟨g, o, none⟩) n c] 29 ∧ Below w.heap.size w (wr.alloc (.cells #[.int .i64 x0, .int .i64 x1, .int .i64 x2, .int .i64 x3, .int .i64 x4, .int .i64 x5] 39))) := ⟨by rw [HS3.out]; exact HW.out.1.below (n1 _ _), HW.out.2.1.below (n1 _ _), HW.out.2.2.alloc HW.out.2.2.size _⟩
                  go_wp2
                  go_roundw
                  case rel => exact ⟨k + 1, _, by omega, rfl, by go_num, HE⟩
                  case measure => simp [intOf]; omega
              · have d1 : decide (0 < x3) = false := by simpa using e1
                have d3 : (x3 == 0) = true := by rw [beq_iff_eq]; omega
                by_cases e4 : x4 + wait ≤ now
                · have d4 : decide (x4 + wait ≤ now) = true := by simpa using e4
                  have HS3 : Hid ((L.take (k + 1)).filter (isLate now wait) = D ++ [⟨x0, x1, x2, x3, x4, x5⟩]) := by
                    show _ = D ++ [_]
                    rw [HS2.out]
                    have h9 : isLate now wait ⟨x0, x1, x2, x3, x4, x5⟩ = true := by simp [isLate]; omega
                    rw [h9]
                    simp
                  have B7 : Hid (GrowKit.Cp 39 6 ReqKit.cells (wr.alloc (.cells #[.int .i64 x0, .int .i64 x1, .int .i64 x2, .int .i64 x3, .int .i64 x4, .int .i64 x5] 39)) (w.heap.size + 1) u7 (D) ∧ boxB (wr.alloc (.cells #[.int .i64 x0, .int .i64 x1, .int .i64 x2, .int .i64 x3, .int .i64 x4, .int .i64 x5] 39)) w.heap.size #[.int .i64 x, .slice (some ⟨g, o, none⟩) n c] 29 ∧ Below w.heap.size w (wr.alloc (.cells #[.int .i64 x0, .int .i64 x1, .int .i64 x2, .int .i64 x3, .int .i64 x4, .int .i64 x5] 39))) := ⟨HW.out.1.below (n1 _ _), HW.out.2.1.below (n1 _ _), HW.out.2.2.alloc HW.out.2.2.size _⟩
                  obtain ⟨i0, hi, hy0, hy1, hy2⟩ := info_parts QueTierS.info_req
                  go_wp2_with (at_builtin; refine wpList_append_own _ rfl (.tmp 54) (.tmp 56) 27 rfl (w.heap.size + 1) 39 i0 (.agg #[.int .i64 0, .int .i64 0, .int .i64 0, .int .i64 0, .int .i64 0, .int .i64 0]) 6 48 Try.underlying27 hi hy0 hy1 hy2 rfl (by decide) _ D.length (flat ReqKit.cells D) rfl (B7.out.1.below (n1 _ _)) ⟨(wr.alloc (.cells #[.int .i64 x0, .int .i64 x1, .int .i64 x2, .int .i64 x3, .int .i64 x4, .int .i64 x5] 39)).heap.size, 0, none⟩ 1 1 (ReqKit.cells ⟨x0, x1, x2, x3, x4, x5⟩) (by rw [sz1]; rfl) rfl (QueTierS.new_cells (wr.alloc (.cells #[.int .i64 x0, .int .i64 x1, .int .i64 x2, .int .i64 x3, .int .i64 x4, .int .i64 x5] 39)) ⟨x0, x1, x2, x3, x4, x5⟩ 39) (QueTierS.cells_one _) (by unfold maxLen; omega) (by omega) (by rw [sz1, sz1]; omega) ?_; intro v8 w8 hown hgr _; have HE : Hid (GrowKit.Cp 39 6 ReqKit.cells w8 (w.heap.size + 1) v8 ((L.take (k + 1)).filter (isLate now wait)) ∧ boxB w8 w.heap.size #[.int .i64 x, .slice (some ⟨g, o, none⟩) n c] 29 ∧ Below w.heap.size w w8) := ⟨by rw [HS3.out]; exact Cp.push hown, box_grown (B7.out.2.1.below (n1 _ _)) hgr (fun e => by have := B7.out.1.ge _ e; omega), Cp.turned (B7.out.1.below (n1 _ _)) hgr (Nat.le_succ _) (B7.out.2.2.alloc B7.out.2.2.size _)⟩; clear hown hgr)
                  go_roundw
                  case rel => exact ⟨k + 1, v8, by omega, rfl, by go_num, HE⟩
                  case measure => simp [intOf]; omega
                · have d4 : decide (x4 + wait ≤ now) = false := by simpa using e4
                  have HS3 : Hid ((L.take (k + 1)).filter (isLate now wait) = D) := by
                    show _ = D
                    rw [HS2.out]
                    have h9 : isLate now wait ⟨x0, x1, x2, x3, x4, x5⟩ = false := by simp [isLate]; omega
                    rw [h9]
                    simp
                  have HE : Hid (GrowKit.Cp 39 6 ReqKit.cells (wr.alloc (.cells #[.int .i64 x0, .int .i64 x1, .int .i64 x2, .int .i64 x3, .int .i64 x4, .int .i64 x5] 39)) (w.heap.size + 1) u7 ((L.take (k + 1)).filter (isLate now wait)) ∧ boxB (wr.alloc (.cells #[.int .i64 x0, .int .i64 x1, .int .i64 x2, .int .i64 x3, .int .i64 x4, .int .i64 x5] 39)) w.heap.size #[.int .i64 x, .slice (some ⟨g, o, none⟩) n c] 29 ∧ Below w.heap.size w (wr.alloc (.cells #[.int .i64 x0, .int .i64 x1, .int .i64 x2, .int .i64 x3, .int .i64 x4, .int .i64 x5] 39))) := ⟨by rw [HS3.out]; exact HW.out.1.below (n1 _ _), HW.out.2.1.below (n1 _ _), HW.out.2.2.alloc HW.out.2.2.size _⟩
                  go_wp2
                  go_roundw
                  case rel => exact ⟨k + 1, _, by omega, rfl, by go_num, HE⟩
                  case measure => simp [intOf]; omega
          · obtain rfl : k = n := by omega
            have hfull : Hid ((L.take k).filter (isLate now wait) = L.filter (isLate now wait)) := by
              show _ = L.filter _
              rw [← HN.out, List.take_length]
            have HE : Hid (∃ a2 c2, u7 = .slice a2 (L.filter (isLate now wait)).length c2 ∧ (L.filter (isLate now wait)).length ≤ c2 ∧ Holds wr (w.heap.size + 1) [⟨a2, 39, 6, (L.filter (isLate now wait)).map ReqKit.cells⟩]) := by
              have h9 := HW.out.1
              rw [hfull.out] at h9
              exact Cp.shape (t := 39) (m := 6) (f := ReqKit.cells) (fun _ => rfl) h9
            obtain ⟨a2, c2, hu, hc2, hh⟩ := HE.out
            subst hu
            have HH : Hid (Holds wr (w.heap.size + 1) [⟨a2, 39, 6, (L.filter (isLate now wait)).map ReqKit.cells⟩]) := hh
            clear hh HE
            go_wp2
            go_ret
            exact ⟨a2, c2, rfl, hc2, HH.out.low (Nat.le_succ _), HW.out.2.2⟩
      · by_cases q1 : 0 ≤ wait
        · have tw1 : decide (0 ≤ wait) = true := by simpa using q1
          have tw2 : decide (wait ≤ 1000000000) = false := by simp; omega
          have HN0 : lateOf true L now wait = [] := by
            unfold lateOf
            rw [if_neg (by simp [isT]; try omega)]
          rw [HN0]
          go_enter Try.func33, Try.ntmps33
          go_wp2_with fail
          refine (HQ _ (h.below (n2 w _ _))).mono ?_
          rintro e w1 ⟨rfl, b1⟩
          have B1 : Hid (Below w.heap.size w w1) := (n2 w _ _).trans (b1.mono (n2 w _ _).size)
          have G1 : Hid (Holds w1 w.heap.size [⟨some ⟨w.heap.size + 1, 0, none⟩, 39, 6, ([] : List ReqKit.Req).map ReqKit.cells⟩]) := Holds.own (f := ReqKit.cells) (L := []) (Or.inl rfl) (fun b hb => by simp [blkL] at hb)
          clear b1 h HQ
          go_wp2_with (go_at_call 54; go_in)
          go_ret
          exact ⟨some ⟨w.heap.size + 1, 0, none⟩, 0, rfl, Nat.le_refl _, G1.out, B1.out⟩
        · have tw1 : decide (0 ≤ wait) = false := by simpa using q1
          have HN0 : lateOf true L now wait = [] := by
            unfold lateOf
            rw [if_neg (by simp [isT]; try omega)]
          rw [HN0]
          go_enter Try.func33, Try.ntmps33
          go_wp2_with fail
          refine (HQ _ (h.below (n2 w _ _))).mono ?_
          rintro e w1 ⟨rfl, b1⟩
          have B1 : Hid (Below w.heap.size w w1) := (n2 w _ _).trans (b1.mono (n2 w _ _).size)
          have G1 : Hid (Holds w1 w.heap.size [⟨some ⟨w.heap.size + 1, 0, none⟩, 39, 6, ([] : List ReqKit.Req).map ReqKit.cells⟩]) := Holds.own (f := ReqKit.cells) (L := []) (Or.inl rfl) (fun b hb => by simp [blkL] at hb)
          clear b1 h HQ
          go_wp2_with (go_at_call 54; go_in)
          go_ret
          exact ⟨some ⟨w.heap.size + 1, 0, none⟩, 0, rfl, Nat.le_refl _, G1.out, B1.out⟩
    · by_cases q1 : 0 ≤ now
      · have tn1 : decide (0 ≤ now) = true := by simpa using q1
        have tn2 : decide (now ≤ 1000000000) = false := by simp; omega
        have HN0 : lateOf true L now wait = [] := by
          unfold lateOf
          rw [if_neg (by simp [isT]; try omega)]
        rw [HN0]
        go_enter Try.func33, Try.ntmps33
        go_wp2_with fail
        refine (HQ _ (h.below (n2 w _ _))).mono ?_
        rintro e w1 ⟨rfl, b1⟩
        have B1 : Hid (Below w.heap.size w w1) := (n2 w _ _).trans (b1.mono (n2 w _ _).size)
        have G1 : Hid (Holds w1 w.heap.size [⟨some ⟨w.heap.size + 1, 0, none⟩, 39, 6, ([] : List ReqKit.Req).map ReqKit.cells⟩]) := Holds.own (f := ReqKit.cells) (L := []) (Or.inl rfl) (fun b hb => by simp [blkL] at hb)
        clear b1 h HQ
        go_wp2_with (go_at_call 54; go_in)
        go_ret
        exact ⟨some ⟨w.heap.size + 1, 0, none⟩, 0, rfl, Nat.le_refl _, G1.out, B1.out⟩
      · have tn1 : decide (0 ≤ now) = false := by simpa using q1
        have HN0 : lateOf true L now wait = [] := by
          unfold lateOf
          rw [if_neg (by simp [isT]; try omega)]
        rw [HN0]
        go_enter Try.func33, Try.ntmps33
        go_wp2_with fail
        refine (HQ _ (h.below (n2 w _ _))).mono ?_
        rintro e w1 ⟨rfl, b1⟩
        have B1 : Hid (Below w.heap.size w w1) := (n2 w _ _).trans (b1.mono (n2 w _ _).size)
        have G1 : Hid (Holds w1 w.heap.size [⟨some ⟨w.heap.size + 1, 0, none⟩, 39, 6, ([] : List ReqKit.Req).map ReqKit.cells⟩]) := Holds.own (f := ReqKit.cells) (L := []) (Or.inl rfl) (fun b hb => by simp [blkL] at hb)
        clear b1 h HQ
        go_wp2_with (go_at_call 54; go_in)
        go_ret
        exact ⟨some ⟨w.heap.size + 1, 0, none⟩, 0, rfl, Nat.le_refl _, G1.out, B1.out⟩
end Go.Proofs.Ytiodnkehfeigoaa.QueLateS
