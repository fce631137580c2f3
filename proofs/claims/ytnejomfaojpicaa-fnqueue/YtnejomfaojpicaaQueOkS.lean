/- What the model's QueueOk answers, at every queue; nothing else turns. -/
import Derived.Test.YtnejomfaojpicaaRows
import Derived.WalkKit
import Derived.WalkSmall
import Derived.BigQuiet
import Derived.Deep.RegionWith
import Derived.Deep.DeepCutAuto
import Derived.Test.YtnejomfaojpicaaListKit
import Derived.Test.YtnejomfaojpicaaHoldKit
import Derived.Test.YtnejomfaojpicaaReqKit
import Derived.Test.YtnejomfaojpicaaReqOks
import Derived.Test.YtnejomfaojpicaaQueMath
import Derived.Test.YtnejomfaojpicaaQueAt
import Derived.Test.YtnejomfaojpicaaNearKit
namespace Go.Proofs.Ytnejomfaojpicaa.QueOkS
open Go.RowKit ListKit HoldKit QueMath NearKit
set_option maxRecDepth 8000
set_option linter.unusedVariables false
set_option linter.unusedSimpArgs false

set_option maxHeartbeats 8000000 in
theorem spec_queueok (x : Int) (a : Option Addr) (c : Nat) (L : List ReqKit.Req) (B : Bool) (w : World) (h : Own 27 6 ReqKit.cells w a L) (hl : L.length ≤ 1048577) (hc : L.length ≤ c) (bf : Hid (B = true ↔ QueOk x L)) :
    Calls Try.prog 33 #[.agg #[.int .i64 x, .slice a L.length c]] w fun e w' => e = .returned (.bool B) ∧ Below w.heap.size w w' := by
  have HA : Hid (Own 27 6 ReqKit.cells w a L) := h
  clear h
  obtain ⟨n, hn⟩ : ∃ n, L.length = n := ⟨_, rfl⟩
  have HN : Hid (L.length = n) := hn
  have HL : Hid (L.length ≤ 1048577 ∧ L.length ≤ c) := ⟨hl, hc⟩
  have b0 : Hid (boxB (w.alloc (.cells #[.int .i64 x, .slice a n c] 25)) w.heap.size #[.int .i64 x, .slice a n c] 25 ∧ Below w.heap.size w (w.alloc (.cells #[.int .i64 x, .slice a n c] 25))) := ⟨boxB.new _ _ _, n1 _ _⟩
  rw [hn] at hl hc ⊢
  clear hn
  go_enter Try.func33, Try.ntmps33
  go_wp2
  go_loopw [3, 4, 8] (fun t3 t4 i wr => ∃ k : Nat, k ≤ n ∧ i = .int .i64 (k : Int) ∧ Hid (∀ (j : Nat) (h : j < L.length), j < k → okAt L j h) ∧ Hid (boxB wr w.heap.size #[.int .i64 x, .slice a n c] 25 ∧ Below w.heap.size w wr)) (fun _ _ i _ => n - (intOf i).toNat)
  case atStart => exact ⟨0, by omega, rfl, fun j _ hj => by omega, b0⟩
  case round =>
    obtain ⟨k, hk, rfl, HK, HW⟩ := hrel
    clear b0
    by_cases hlt : k < n
    · have hlt2 : k < L.length := by rw [HN.out]; exact hlt
      rcases HA.out with hnil | ⟨g, o, rfl, hrw⟩
      · rw [hnil] at hlt2; simp at hlt2
      · have hr1 : Row 27 6 ReqKit.cells wr g o L := hrw.below HW.out.2
        obtain ⟨sx, hsx⟩ : ∃ s, L[k] = s := ⟨_, rfl⟩
        obtain ⟨x0, x1, x2, x3, x4, x5⟩ := sx
        have u9 := fun j hj => (hr1).cell k hlt2 j hj
        have p0 : wr.cell? ⟨g, o + k * 6, none⟩ = some (.int .i64 x0) := by have h9 := u9 0 (by omega); rw [hsx] at h9; exact h9
        have p1 : wr.cell? ⟨g, o + k * 6 + 1, none⟩ = some (.int .i64 x1) := by have h9 := u9 1 (by omega); rw [hsx] at h9; exact h9
        have p2 : wr.cell? ⟨g, o + k * 6 + 2, none⟩ = some (.int .i64 x2) := by have h9 := u9 2 (by omega); rw [hsx] at h9; exact h9
        have p3 : wr.cell? ⟨g, o + k * 6 + 3, none⟩ = some (.int .i64 x3) := by have h9 := u9 3 (by omega); rw [hsx] at h9; exact h9
        have p4 : wr.cell? ⟨g, o + k * 6 + 4, none⟩ = some (.int .i64 x4) := by have h9 := u9 4 (by omega); rw [hsx] at h9; exact h9
        have p5 : wr.cell? ⟨g, o + k * 6 + 5, none⟩ = some (.int .i64 x5) := by have h9 := u9 5 (by omega); rw [hsx] at h9; exact h9
        clear u9
        have hli : (k : Int) < (n : Int) := by omega
        have hkc : (k : Int) < (c : Int) := by omega
        have HS : Hid (L[k] = ⟨x0, x1, x2, x3, x4, x5⟩) := hsx
        have HR : Hid (Row 27 6 ReqKit.cells wr g o L) := hr1
        have HRQ := fun W => ReqOks.spec_reqok x0 x1 x2 x3 x4 x5 W
        obtain ⟨v, hv⟩ : ∃ v, ReqOks.reqOk ⟨x0, x1, x2, x3, x4, x5⟩ = v := ⟨_, rfl⟩
        have HV : Hid (ReqOks.reqOk ⟨x0, x1, x2, x3, x4, x5⟩ = v) := hv
        rw [hv] at HRQ
        obtain ⟨r, hr⟩ := at_ex L x0
        have HT : Hid (AtId L x0 r) := hr
        have HAT := fun W h => QueAt.spec_at x (some ⟨g, o, none⟩) c L x0 r W h HL.out.1 HL.out.2 HT
        rw [HN.out] at HAT
        clear hr1 hsx hrw hv hr
        go_upto_region 4 with fail
        have B6 : Hid (boxB (wr.alloc (.cells #[.int .i64 x0, .int .i64 x1, .int .i64 x2, .int .i64 x3, .int .i64 x4, .int .i64 x5] 27)) w.heap.size #[.int .i64 x, .slice (some ⟨g, o, none⟩) n c] 25 ∧ Below w.heap.size w (wr.alloc (.cells #[.int .i64 x0, .int .i64 x1, .int .i64 x2, .int .i64 x3, .int .i64 x4, .int .i64 x5] 27)) ∧ boxB (wr.alloc (.cells #[.int .i64 x0, .int .i64 x1, .int .i64 x2, .int .i64 x3, .int .i64 x4, .int .i64 x5] 27)) wr.heap.size #[.int .i64 x0, .int .i64 x1, .int .i64 x2, .int .i64 x3, .int .i64 x4, .int .i64 x5] 27 ∧ Own 27 6 ReqKit.cells (wr.alloc (.cells #[.int .i64 x0, .int .i64 x1, .int .i64 x2, .int .i64 x3, .int .i64 x4, .int .i64 x5] 27)) (some ⟨g, o, none⟩) L) :=
          ⟨HW.out.1.below (n1 _ _), HW.out.2.alloc HW.out.2.size _, boxB.new _ _ _, Or.inr ⟨g, o, rfl, HR.out.below (n1 _ _)⟩⟩
        have HR6 : Hid (Row 27 6 ReqKit.cells (wr.alloc (.cells #[.int .i64 x0, .int .i64 x1, .int .i64 x2, .int .i64 x3, .int .i64 x4, .int .i64 x5] 27)) g o L) := HR.out.below (n1 _ _)
        clear p0 p1 p2 p3 p4 p5 HR
        generalize (wr.alloc (.cells #[.int .i64 x0, .int .i64 x1, .int .i64 x2, .int .i64 x3, .int .i64 x4, .int .i64 x5] 27)) = W6 at *
        have l0 := B6.out.1.cell 0
        have l1 := B6.out.1.cell 1
        have XL := Near.cell l0
        have XM := Near.cell l1
        have q0 := B6.out.2.2.1.cell 0
        have X0 := Near.cell q0
        have q1 := B6.out.2.2.1.cell 1
        have X1 := Near.cell q1
        have q2 := B6.out.2.2.1.cell 2
        have X2 := Near.cell q2
        have q3 := B6.out.2.2.1.cell 3
        have X3 := Near.cell q3
        have q4 := B6.out.2.2.1.cell 4
        have X4 := Near.cell q4
        have q5 := B6.out.2.2.1.cell 5
        have X5 := Near.cell q5
        clear q0 q1 q2 q3 q4 q5 l0 l1
        have near := Near.is W6
        cases v with
        | false =>
          obtain rfl : B = false := by
            cases B with
            | false => rfl
            | true =>
              have h2 := ((bf.out.1 rfl).2.2.2 k hlt2).1
              rw [HS.out, HV.out] at h2
              cases h2
          refine wp_region_near (by kernel_rfl) (by kernel_rfl) ?_
          repeat (go_big_quiet_step (first | (go_at_call 34; exact near_call (HRQ _)) | (go_at_call 35; exact near_call (HAT _ (B6.out.2.2.2.below (Near.near _))))))
          refine wpQuiet_nil ?_
          intro wx hwx
          obtain ⟨y, hy⟩ := hwx
          subst hy
          have BY : Hid (boxB y.w w.heap.size #[.int .i64 x, .slice (some ⟨g, o, none⟩) n c] 25 ∧ Below w.heap.size w y.w) := ⟨B6.out.1.below y.near, B6.out.2.1.trans (y.near.mono B6.out.2.1.size)⟩
          obtain ⟨wd, hwd⟩ : ∃ wd, y.w = wd := ⟨_, rfl⟩
          rw [hwd] at BY ⊢
          clear hwd y near X0 X1 X2 X3 X4 X5 XL XM
          go_wp2
          go_ret
          exact ⟨rfl, BY.out.2⟩
        | true =>
          by_cases er : r = (k : Int)
          · subst er
            have hne : ((k : Int) != (k : Int)) = false := by simp
            have hfst : Hid (∀ (j : Nat) (hj : j < k), (L[j]'(by omega)).x0 ≠ L[k].x0) := by
              have h9 : AtId L L[k].x0 (k : Int) := by rw [HS.out]; exact HT.out
              exact (at_same hlt2 h9).1 rfl
            by_cases hk0 : 0 < k
            · have hkd : decide (0 < (k : Int)) = true := by simp; omega
              obtain ⟨j, hj⟩ : ∃ j, k = j + 1 := ⟨k - 1, by omega⟩
              have hji : (k : Int) - 1 = (j : Int) := by omega
              have hjw : IntKind.i64.wrap (j : Int) = (j : Int) := by rw [IntKind.wrap_i64]; omega
              have hjn : (j : Int) < (n : Int) := by omega
              have hj2 : j < L.length := by omega
              obtain ⟨sy, hsy⟩ : ∃ s, L[j] = s := ⟨_, rfl⟩
              obtain ⟨y0, y1, y2, y3, y4, y5⟩ := sy
              have HY : Hid (L[j] = ⟨y0, y1, y2, y3, y4, y5⟩) := hsy
              have hz : W6.cell? ⟨g, o + j * 6 + 4, none⟩ = some (.int .i64 y4) := by
                have h9 := HR6.out.cell j hj2 4 (by omega)
                rw [hsy] at h9
                exact h9
              have XP := Near.cell hz
              clear hz hsy
              by_cases hcm : y4 ≤ x4
              · have hcd : decide (x4 < y4) = false := by simp; omega
                have HK2 : Hid (∀ (j : Nat) (h : j < L.length), j < k + 1 → okAt L j h) := fun i hi hik => by
                  by_cases e : i = k
                  · subst e
                    refine ⟨by rw [HS.out]; exact HV.out, hfst.out, fun _ => ?_⟩
                    have e2 : i - 1 = j := by omega
                    have h9 : (L[i - 1]'(by omega)).x4 = y4 := by simp only [e2, HY.out]
                    rw [h9, HS.out]
                    exact hcm
                  · exact HK.out i hi (by omega)
                clear hcm HK
                refine wp_region_near (by kernel_rfl) (by kernel_rfl) ?_
                repeat (go_big_quiet_step (first | (go_at_call 34; exact near_call (HRQ _)) | (go_at_call 35; exact near_call (HAT _ (B6.out.2.2.2.below (Near.near _))))))
                refine wpQuiet_nil ?_
                intro wx hwx
                obtain ⟨y, hy⟩ := hwx
                subst hy
                have BY : Hid (boxB y.w w.heap.size #[.int .i64 x, .slice (some ⟨g, o, none⟩) n c] 25 ∧ Below w.heap.size w y.w) := ⟨B6.out.1.below y.near, B6.out.2.1.trans (y.near.mono B6.out.2.1.size)⟩
                obtain ⟨wd, hwd⟩ : ∃ wd, y.w = wd := ⟨_, rfl⟩
                rw [hwd] at BY ⊢
                clear hwd y near X0 X1 X2 X3 X4 X5 XL XM XP
                go_wp2
                go_roundw
                case rel => exact ⟨k + 1, by omega, by go_num, HK2, BY⟩
                case measure => simp [intOf]; omega
              · have hcd : decide (x4 < y4) = true := by simp; omega
                obtain rfl : B = false := by
                  cases B with
                  | false => rfl
                  | true =>
                    have h2 := ((bf.out.1 rfl).2.2.2 k hlt2).2.2 hk0
                    have e2 : k - 1 = j := by omega
                    have h9 : (L[k - 1]'(by omega)).x4 = y4 := by simp only [e2, HY.out]
                    rw [h9, HS.out] at h2
                    exact absurd h2 hcm
                clear hcm
                refine wp_region_near (by kernel_rfl) (by kernel_rfl) ?_
                repeat (go_big_quiet_step (first | (go_at_call 34; exact near_call (HRQ _)) | (go_at_call 35; exact near_call (HAT _ (B6.out.2.2.2.below (Near.near _))))))
                refine wpQuiet_nil ?_
                intro wx hwx
                obtain ⟨y, hy⟩ := hwx
                subst hy
                have BY : Hid (boxB y.w w.heap.size #[.int .i64 x, .slice (some ⟨g, o, none⟩) n c] 25 ∧ Below w.heap.size w y.w) := ⟨B6.out.1.below y.near, B6.out.2.1.trans (y.near.mono B6.out.2.1.size)⟩
                obtain ⟨wd, hwd⟩ : ∃ wd, y.w = wd := ⟨_, rfl⟩
                rw [hwd] at BY ⊢
                clear hwd y near X0 X1 X2 X3 X4 X5 XL XM XP
                go_wp2
                go_ret
                exact ⟨rfl, BY.out.2⟩
            · have hkd : decide (0 < (k : Int)) = false := by simp; omega
              have HK2 : Hid (∀ (j : Nat) (h : j < L.length), j < k + 1 → okAt L j h) := fun i hi hik => by
                by_cases e : i = k
                · subst e
                  exact ⟨by rw [HS.out]; exact HV.out, hfst.out, fun h => absurd h hk0⟩
                · exact HK.out i hi (by omega)
              clear HK
              refine wp_region_near (by kernel_rfl) (by kernel_rfl) ?_
              repeat (go_big_quiet_step (first | (go_at_call 34; exact near_call (HRQ _)) | (go_at_call 35; exact near_call (HAT _ (B6.out.2.2.2.below (Near.near _))))))
              refine wpQuiet_nil ?_
              intro wx hwx
              obtain ⟨y, hy⟩ := hwx
              subst hy
              have BY : Hid (boxB y.w w.heap.size #[.int .i64 x, .slice (some ⟨g, o, none⟩) n c] 25 ∧ Below w.heap.size w y.w) := ⟨B6.out.1.below y.near, B6.out.2.1.trans (y.near.mono B6.out.2.1.size)⟩
              obtain ⟨wd, hwd⟩ : ∃ wd, y.w = wd := ⟨_, rfl⟩
              rw [hwd] at BY ⊢
              clear hwd y near X0 X1 X2 X3 X4 X5 XL XM
              go_wp2
              go_roundw
              case rel => exact ⟨k + 1, by omega, by go_num, HK2, BY⟩
              case measure => simp [intOf]; omega
          · have hne : (r != (k : Int)) = true := by simpa using er
            obtain rfl : B = false := by
              cases B with
              | false => rfl
              | true =>
                have h2 := ((bf.out.1 rfl).2.2.2 k hlt2).2.1
                have h9 : AtId L L[k].x0 r := by rw [HS.out]; exact HT.out
                exact absurd ((at_same hlt2 h9).2 h2) er
            clear er
            refine wp_region_near (by kernel_rfl) (by kernel_rfl) ?_
            repeat (go_big_quiet_step (first | (go_at_call 34; exact near_call (HRQ _)) | (go_at_call 35; exact near_call (HAT _ (B6.out.2.2.2.below (Near.near _))))))
            refine wpQuiet_nil ?_
            intro wx hwx
            obtain ⟨y, hy⟩ := hwx
            subst hy
            have BY : Hid (boxB y.w w.heap.size #[.int .i64 x, .slice (some ⟨g, o, none⟩) n c] 25 ∧ Below w.heap.size w y.w) := ⟨B6.out.1.below y.near, B6.out.2.1.trans (y.near.mono B6.out.2.1.size)⟩
            obtain ⟨wd, hwd⟩ : ∃ wd, y.w = wd := ⟨_, rfl⟩
            rw [hwd] at BY ⊢
            clear hwd y near X0 X1 X2 X3 X4 X5 XL XM
            go_wp2
            go_ret
            exact ⟨rfl, BY.out.2⟩
    · obtain rfl : k = n := by omega
      have HE : Hid (B = true ↔ 0 ≤ x ∧ x ≤ 50 ∧ (k : Int) ≤ x) := by
        show B = true ↔ _
        rw [bf.out]
        unfold QueOk
        have hn : (L.length : Int) = (k : Int) := by rw [HN.out]
        exact ⟨fun h => ⟨h.1, h.2.1, by rw [← hn]; exact h.2.2.1⟩, fun h => ⟨h.1, h.2.1, by rw [hn]; exact h.2.2, fun j hj => HK.out j hj (by rw [← HN.out]; exact hj)⟩⟩
      have l0 := HW.out.1.cell 0
      have l1 := HW.out.1.cell 1
      by_cases t1 : 0 ≤ x
      · have d1 : decide (0 ≤ x) = true := by simpa using t1
        by_cases t2 : x ≤ 50
        · have d2 : decide (x ≤ 50) = true := by simpa using t2
          by_cases t3 : (k : Int) ≤ x
          · have d3 : decide ((k : Int) ≤ x) = true := by simpa using t3
            obtain rfl : B = true := HE.out.2 ⟨t1, t2, t3⟩
            go_wp2
            go_ret
            exact ⟨rfl, HW.out.2⟩
          · have d3 : decide ((k : Int) ≤ x) = false := by simpa using t3
            obtain rfl : B = false := by
              cases B with
              | false => rfl
              | true => exact absurd (HE.out.1 rfl).2.2 t3
            go_wp2
            go_ret
            exact ⟨rfl, HW.out.2⟩
        · have d2 : decide (x ≤ 50) = false := by simpa using t2
          obtain rfl : B = false := by
            cases B with
            | false => rfl
            | true => exact absurd (HE.out.1 rfl).2.1 t2
          go_wp2
          go_ret
          exact ⟨rfl, HW.out.2⟩
      · have d1 : decide (0 ≤ x) = false := by simpa using t1
        obtain rfl : B = false := by
          cases B with
          | false => rfl
          | true => exact absurd (HE.out.1 rfl).1 t1
        go_wp2
        go_ret
        exact ⟨rfl, HW.out.2⟩
end Go.Proofs.Ytnejomfaojpicaa.QueOkS
