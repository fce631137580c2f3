/- What the program's canStand and QueueOk answer, at every queue; nothing else turns. -/
import Derived.Test.YtnejomfaojpicaaRows
import Derived.WalkKit
import Derived.WalkSmall
import Derived.BigQuiet
import Derived.Deep.RegionWith
import Derived.Deep.DeepCutAuto
import Derived.Test.YtnejomfaojpicaaListKit
import Derived.Test.YtnejomfaojpicaaHoldKit
import Derived.Test.YtnejomfaojpicaaReqKit
import Derived.Test.YtnejomfaojpicaaReqOks
import Derived.Test.YtnejomfaojpicaaQueMath
import Derived.Test.YtnejomfaojpicaaQueMiscS
import Derived.Test.YtnejomfaojpicaaQueFindI
import Derived.Test.YtnejomfaojpicaaNearKit
namespace Go.Proofs.Ytnejomfaojpicaa.QueStandI
open Go.RowKit ListKit HoldKit QueMath NearKit
set_option maxRecDepth 8000
set_option linter.unusedVariables false
set_option linter.unusedSimpArgs false

theorem row_take {α : Type} {t : TypeId} {m : Nat} {f : α → List Value} {w : World} {g o : Nat} {L : List α} (h : Row t m f w g o L) (k : Nat) : Row t m f w g o (L.take k) := by
  obtain ⟨cur, hg, hs, hc⟩ := h
  refine ⟨cur, hg, ?_, fun i hi j hj => ?_⟩
  · have h1 : (L.take k).length ≤ L.length := by rw [List.length_take]; omega
    have := Nat.mul_le_mul_right m h1
    omega
  · have h1 : i < L.length := by rw [List.length_take] at hi; omega
    rw [hc i h1 j hj, List.getElem_take]
set_option maxHeartbeats 8000000 in
theorem impl_stand (a : Option Addr) (c : Nat) (L : List ReqKit.Req) (B : Bool) (w : World) (h : Own 27 6 ReqKit.cells w a L) (hl : L.length ≤ 1048577) (hc : L.length ≤ c) (bf : Hid (B = true ↔ ∀ (k : Nat) (h : k < L.length), okAt L k h)) :
    Calls Try.prog 15 #[.slice a L.length c] w fun e w' => e = .returned (.bool B) ∧ Below w.heap.size w w' := by
  have HA : Hid (Own 27 6 ReqKit.cells w a L) := h
  clear h
  obtain ⟨n, hn⟩ : ∃ n, L.length = n := ⟨_, rfl⟩
  have HN : Hid (L.length = n) := hn
  rw [hn] at hl hc ⊢
  clear hn
  go_enter Try.func15, Try.ntmps15
  go_wp2
  go_loopw [3, 4, 7] (fun t3 t4 i wr => ∃ k : Nat, k ≤ n ∧ i = .int .i64 (k : Int) ∧ Hid (∀ (j : Nat) (h : j < L.length), j < k → okAt L j h) ∧ Hid (Below w.heap.size w wr)) (fun _ _ i _ => n - (intOf i).toNat)
  case atStart => exact ⟨0, by omega, rfl, fun j _ hj => by omega, Below.refl _ _⟩
  case round =>
    obtain ⟨k, hk, rfl, HK, HW⟩ := hrel
    by_cases hlt : k < n
    · have hlt2 : k < L.length := by rw [HN.out]; exact hlt
      rcases HA.out with hnil | ⟨g, o, rfl, hrw⟩
      · rw [hnil] at hlt2; simp at hlt2
      · have hr1 : Row 27 6 ReqKit.cells wr g o L := hrw.below HW.out
        obtain ⟨sx, hsx⟩ : ∃ s, L[k] = s := ⟨_, rfl⟩
        obtain ⟨x0, x1, x2, x3, x4, x5⟩ := sx
        have u9 := fun jj hjj => (hr1).cell k hlt2 jj hjj
        have p0 : wr.cell? ⟨g, o + k * 6, none⟩ = some (.int .i64 x0) := by have h9 := u9 0 (by omega); rw [hsx] at h9; exact h9
        have p1 : wr.cell? ⟨g, o + k * 6 + 1, none⟩ = some (.int .i64 x1) := by have h9 := u9 1 (by omega); rw [hsx] at h9; exact h9
        have p2 : wr.cell? ⟨g, o + k * 6 + 2, none⟩ = some (.int .i64 x2) := by have h9 := u9 2 (by omega); rw [hsx] at h9; exact h9
        have p3 : wr.cell? ⟨g, o + k * 6 + 3, none⟩ = some (.int .i64 x3) := by have h9 := u9 3 (by omega); rw [hsx] at h9; exact h9
        have p4 : wr.cell? ⟨g, o + k * 6 + 4, none⟩ = some (.int .i64 x4) := by have h9 := u9 4 (by omega); rw [hsx] at h9; exact h9
        have p5 : wr.cell? ⟨g, o + k * 6 + 5, none⟩ = some (.int .i64 x5) := by have h9 := u9 5 (by omega); rw [hsx] at h9; exact h9
        clear u9
        have hli : (k : Int) < (n : Int) := by omega
        have hkc : (k : Int) ≤ (c : Int) := by omega
        have hkc2 : (k : Int) < (c : Int) := by omega
        have hkc3 : k ≤ c := by omega
        have HS : Hid (L[k] = ⟨x0, x1, x2, x3, x4, x5⟩) := hsx
        have HR : Hid (Row 27 6 ReqKit.cells wr g o L) := hr1
        have HRQ := fun W => ReqOks.impl_reqok x0 x1 x2 x3 x4 x5 W
        obtain ⟨v, hv⟩ : ∃ v, ReqOks.reqOk ⟨x0, x1, x2, x3, x4, x5⟩ = v := ⟨_, rfl⟩
        have HV : Hid (ReqOks.reqOk ⟨x0, x1, x2, x3, x4, x5⟩ = v) := hv
        rw [hv] at HRQ
        obtain ⟨r, hr⟩ := at_ex (L.take k) x0
        have HT : Hid (AtId (L.take k) x0 r) := hr
        have htk : (L.take k).length = k := by rw [List.length_take]; omega
        have HAT := fun W h => QueFindI.impl_place (some ⟨g, o, none⟩) c (L.take k) x0 r W h (by omega) HT
        rw [htk] at HAT
        have HAT : ∀ W, Own 27 6 ReqKit.cells W (some ⟨g, o, none⟩) L → Calls Try.prog 18 #[.slice (some ⟨g, o, none⟩) k c, .int .i64 x0] W fun e w' => e = .returned (.int .i64 r) ∧ Below W.heap.size W w' := fun W h => HAT W (by
          rcases h with h | ⟨g2, o2, e2, h2⟩
          · rw [h] at hlt2; simp at hlt2
          · injection e2 with e2; injection e2 with e3 e4 e5; subst e3 e4; exact Or.inr ⟨g, o, rfl, row_take h2 k⟩)
        clear hr1 hsx hrw hv hr htk
        go_upto_region 4 with fail
        have B6 : Hid (Below w.heap.size w (wr.alloc (.cells #[.int .i64 x0, .int .i64 x1, .int .i64 x2, .int .i64 x3, .int .i64 x4, .int .i64 x5] 27)) ∧ Row 27 6 ReqKit.cells (wr.alloc (.cells #[.int .i64 x0, .int .i64 x1, .int .i64 x2, .int .i64 x3, .int .i64 x4, .int .i64 x5] 27)) g o L ∧ boxB (wr.alloc (.cells #[.int .i64 x0, .int .i64 x1, .int .i64 x2, .int .i64 x3, .int .i64 x4, .int .i64 x5] 27)) wr.heap.size #[.int .i64 x0, .int .i64 x1, .int .i64 x2, .int .i64 x3, .int .i64 x4, .int .i64 x5] 27) := ⟨HW.out.alloc HW.out.size _, HR.out.below (n1 _ _), boxB.new _ _ _⟩
        clear p0 p1 p2 p3 p4 p5 HR HW
        generalize (wr.alloc (.cells #[.int .i64 x0, .int .i64 x1, .int .i64 x2, .int .i64 x3, .int .i64 x4, .int .i64 x5] 27)) = W6 at *
        have q0 := B6.out.2.2.cell 0
        have X0 := Near.cell q0
        have q1 := B6.out.2.2.cell 1
        have X1 := Near.cell q1
        have q2 := B6.out.2.2.cell 2
        have X2 := Near.cell q2
        have q3 := B6.out.2.2.cell 3
        have X3 := Near.cell q3
        have q4 := B6.out.2.2.cell 4
        have X4 := Near.cell q4
        have q5 := B6.out.2.2.cell 5
        have X5 := Near.cell q5
        clear q0 q1 q2 q3 q4 q5
        have near := Near.is W6
        cases v with
        | false =>
          obtain rfl : B = false := by
            cases B with
            | false => rfl
            | true =>
              have h2 := (bf.out.1 rfl k hlt2).1
              rw [HS.out, HV.out] at h2
              cases h2
          refine wp_region_near (by kernel_rfl) (by kernel_rfl) ?_
          repeat (go_big_quiet_step (first | (go_at_call 26; exact near_call (HRQ _)) | (go_at_call 18; exact near_call (HAT _ (Or.inr ⟨g, o, rfl, B6.out.2.1.below (Near.near _)⟩)))))
          refine wpQuiet_nil ?_
          intro wx hwx
          obtain ⟨y, hy⟩ := hwx
          subst hy
          have BY : Hid (Below w.heap.size w y.w ∧ Row 27 6 ReqKit.cells y.w g o L ∧ boxB y.w wr.heap.size #[.int .i64 x0, .int .i64 x1, .int .i64 x2, .int .i64 x3, .int .i64 x4, .int .i64 x5] 27) := ⟨B6.out.1.trans (y.near.mono B6.out.1.size), B6.out.2.1.below y.near, B6.out.2.2.below y.near⟩
          obtain ⟨wd, hwd⟩ : ∃ wd, y.w = wd := ⟨_, rfl⟩
          rw [hwd] at BY ⊢
          clear hwd y near X0 X1 X2 X3 X4 X5
          go_wp2
          go_ret
          exact ⟨rfl, BY.out.1⟩
        | true =>
          by_cases er : 0 ≤ r
          · have erd : decide (0 ≤ r) = true := by simpa using er
            obtain rfl : B = false := by
              cases B with
              | false => rfl
              | true =>
                have h2 := (bf.out.1 rfl k hlt2).2.1
                rcases HT.out with ⟨h3, _⟩ | ⟨q, h3, hq, h4, _⟩
                · omega
                · have hqk : q < k := by rw [List.length_take] at hq; omega
                  rw [List.getElem_take] at h4
                  have h5 := h2 q hqk
                  rw [HS.out] at h5
                  exact absurd h4 h5
            clear er
            refine wp_region_near (by kernel_rfl) (by kernel_rfl) ?_
            repeat (go_big_quiet_step (first | (go_at_call 26; exact near_call (HRQ _)) | (go_at_call 18; exact near_call (HAT _ (Or.inr ⟨g, o, rfl, B6.out.2.1.below (Near.near _)⟩)))))
            refine wpQuiet_nil ?_
            intro wx hwx
            obtain ⟨y, hy⟩ := hwx
            subst hy
            have BY : Hid (Below w.heap.size w y.w ∧ Row 27 6 ReqKit.cells y.w g o L ∧ boxB y.w wr.heap.size #[.int .i64 x0, .int .i64 x1, .int .i64 x2, .int .i64 x3, .int .i64 x4, .int .i64 x5] 27) := ⟨B6.out.1.trans (y.near.mono B6.out.1.size), B6.out.2.1.below y.near, B6.out.2.2.below y.near⟩
            obtain ⟨wd, hwd⟩ : ∃ wd, y.w = wd := ⟨_, rfl⟩
            rw [hwd] at BY ⊢
            clear hwd y near X0 X1 X2 X3 X4 X5
            go_wp2
            go_ret
            exact ⟨rfl, BY.out.1⟩
          · have erd : decide (0 ≤ r) = false := by simpa using er
            have hfst : Hid (∀ (j : Nat) (hj : j < k), (L[j]'(by omega)).x0 ≠ L[k].x0) := fun j hj => by
              rcases HT.out with ⟨_, h3⟩ | ⟨q, h3, _⟩
              · have h4 := h3 j (by rw [List.length_take]; omega)
                rw [List.getElem_take] at h4
                rw [HS.out]
                exact h4
              · omega
            clear er
            refine wp_region_near (by kernel_rfl) (by kernel_rfl) ?_
            repeat (go_big_quiet_step (first | (go_at_call 26; exact near_call (HRQ _)) | (go_at_call 18; exact near_call (HAT _ (Or.inr ⟨g, o, rfl, B6.out.2.1.below (Near.near _)⟩)))))
            refine wpQuiet_nil ?_
            intro wx hwx
            obtain ⟨y, hy⟩ := hwx
            subst hy
            have BY : Hid (Below w.heap.size w y.w ∧ Row 27 6 ReqKit.cells y.w g o L ∧ boxB y.w wr.heap.size #[.int .i64 x0, .int .i64 x1, .int .i64 x2, .int .i64 x3, .int .i64 x4, .int .i64 x5] 27) := ⟨B6.out.1.trans (y.near.mono B6.out.1.size), B6.out.2.1.below y.near, B6.out.2.2.below y.near⟩
            obtain ⟨wd, hwd⟩ : ∃ wd, y.w = wd := ⟨_, rfl⟩
            rw [hwd] at BY ⊢
            clear hwd y near X0 X1 X2 X3 X4 X5 B6
            go_upto_region 6 with fail
            have q4 := BY.out.2.2.cell 4
            have X4 := Near.cell q4
            clear q4
            have near := Near.is wd
            by_cases hk0 : 0 < k
            · have hkd : decide (0 < (k : Int)) = true := by simp; omega
              obtain ⟨j, hj⟩ : ∃ j, k = j + 1 := ⟨k - 1, by omega⟩
              have hji : (k : Int) - 1 = (j : Int) := by omega
              have hjw : IntKind.i64.wrap (j : Int) = (j : Int) := by rw [IntKind.wrap_i64]; omega
              have hjn : (j : Int) < (n : Int) := by omega
              have hj2 : j < L.length := by omega
              obtain ⟨sy, hsy⟩ : ∃ s, L[j] = s := ⟨_, rfl⟩
              obtain ⟨y0, y1, y2, y3, y4, y5⟩ := sy
              have HY : Hid (L[j] = ⟨y0, y1, y2, y3, y4, y5⟩) := hsy
              have hz : wd.cell? ⟨g, o + j * 6 + 4, none⟩ = some (.int .i64 y4) := by
                have h9 := BY.out.2.1.cell j hj2 4 (by omega)
                rw [hsy] at h9
                exact h9
              have XP := Near.cell hz
              clear hz hsy
              by_cases hcm : y4 ≤ x4
              · have hcd : decide (x4 < y4) = false := by simp; omega
                have HK2 : Hid (∀ (j : Nat) (h : j < L.length), j < k + 1 → okAt L j h) := fun i hi hik => by
                  by_cases e : i = k
                  · subst e
                    refine ⟨by rw [HS.out]; exact HV.out, hfst.out, fun _ => ?_⟩
                    have e2 : i - 1 = j := by omega
                    have h9 : (L[i - 1]'(by omega)).x4 = y4 := by simp only [e2, HY.out]
                    rw [h9, HS.out]
                    exact hcm
                  · exact HK.out i hi (by omega)
                clear hcm HK hj
                refine wp_region_near (by kernel_rfl) (by kernel_rfl) ?_
                repeat (go_big_quiet_step (fail))
                refine wpQuiet_nil ?_
                intro wx hwx
                obtain ⟨y, hy⟩ := hwx
                subst hy
                have BZ : Hid (Below w.heap.size w y.w ∧ Row 27 6 ReqKit.cells y.w g o L ∧ boxB y.w wr.heap.size #[.int .i64 x0, .int .i64 x1, .int .i64 x2, .int .i64 x3, .int .i64 x4, .int .i64 x5] 27) := ⟨BY.out.1.trans (y.near.mono BY.out.1.size), BY.out.2.1.below y.near, BY.out.2.2.below y.near⟩
                obtain ⟨wd, hwd⟩ : ∃ wd, y.w = wd := ⟨_, rfl⟩
                rw [hwd] at BZ ⊢
                clear hwd y near X4 XP
                go_wp2
                go_roundw
                case rel => exact ⟨k + 1, by omega, by go_num, HK2, BZ.out.1⟩
                case measure => simp [intOf]; omega
              · have hcd : decide (x4 < y4) = true := by simp; omega
                obtain rfl : B = false := by
                  cases B with
                  | false => rfl
                  | true =>
                    have h2 := (bf.out.1 rfl k hlt2).2.2 hk0
                    have e2 : k - 1 = j := by omega
                    have h9 : (L[k - 1]'(by omega)).x4 = y4 := by simp only [e2, HY.out]
                    rw [h9, HS.out] at h2
                    exact absurd h2 hcm
                clear hcm hj
                refine wp_region_near (by kernel_rfl) (by kernel_rfl) ?_
                repeat (go_big_quiet_step (fail))
                refine wpQuiet_nil ?_
                intro wx hwx
                obtain ⟨y, hy⟩ := hwx
                subst hy
                have BZ : Hid (Below w.heap.size w y.w ∧ Row 27 6 ReqKit.cells y.w g o L ∧ boxB y.w wr.heap.size #[.int .i64 x0, .int .i64 x1, .int .i64 x2, .int .i64 x3, .int .i64 x4, .int .i64 x5] 27) := ⟨BY.out.1.trans (y.near.mono BY.out.1.size), BY.out.2.1.below y.near, BY.out.2.2.below y.near⟩
                obtain ⟨wd, hwd⟩ : ∃ wd, y.w = wd := ⟨_, rfl⟩
                rw [hwd] at BZ ⊢
                clear hwd y near X4 XP
                go_wp2
                go_ret
                exact ⟨rfl, BZ.out.1⟩
            · have hkd : decide (0 < (k : Int)) = false := by simp; omega
              have HK2 : Hid (∀ (j : Nat) (h : j < L.length), j < k + 1 → okAt L j h) := fun i hi hik => by
                by_cases e : i = k
                · subst e
                  exact ⟨by rw [HS.out]; exact HV.out, hfst.out, fun h => absurd h hk0⟩
                · exact HK.out i hi (by omega)
              clear HK
              refine wp_region_near (by kernel_rfl) (by kernel_rfl) ?_
              repeat (go_big_quiet_step (fail))
              refine wpQuiet_nil ?_
              intro wx hwx
              obtain ⟨y, hy⟩ := hwx
              subst hy
              have BZ : Hid (Below w.heap.size w y.w ∧ Row 27 6 ReqKit.cells y.w g o L ∧ boxB y.w wr.heap.size #[.int .i64 x0, .int .i64 x1, .int .i64 x2, .int .i64 x3, .int .i64 x4, .int .i64 x5] 27) := ⟨BY.out.1.trans (y.near.mono BY.out.1.size), BY.out.2.1.below y.near, BY.out.2.2.below y.near⟩
              obtain ⟨wd, hwd⟩ : ∃ wd, y.w = wd := ⟨_, rfl⟩
              rw [hwd] at BZ ⊢
              clear hwd y near X4
              go_wp2
              go_roundw
              case rel => exact ⟨k + 1, by omega, by go_num, HK2, BZ.out.1⟩
              case measure => simp [intOf]; omega
    · obtain rfl : k = n := by omega
      obtain rfl : B = true := bf.out.2 (fun j hj => HK.out j hj (by rw [← HN.out]; exact hj))
      go_wp2
      go_ret
      exact ⟨rfl, HW.out⟩
set_option maxHeartbeats 4000000 in
theorem impl_queueok (x : Int) (a : Option Addr) (c : Nat) (L : List ReqKit.Req) (B : Bool) (w : World) (h : Own 27 6 ReqKit.cells w a L) (hl : L.length ≤ 1048577) (hc : L.length ≤ c) (bf : Hid (B = true ↔ QueOk x L)) :
    Calls Try.prog 13 #[.agg #[.int .i64 x, .slice a L.length c]] w fun e w' => e = .returned (.bool B) ∧ Below w.heap.size w w' := by
  have HA : Hid (Own 27 6 ReqKit.cells w a L) := h
  obtain ⟨B2, hB2⟩ : ∃ B2 : Bool, B2 = true ↔ ∀ (k : Nat) (h : k < L.length), okAt L k h := ⟨@decide _ (Classical.propDecidable _), @decide_eq_true_iff _ (Classical.propDecidable _)⟩
  have HST := fun W h => impl_stand a c L B2 W h hl hc hB2
  have HRM := fun W => QueFindI.impl_room x W
  obtain ⟨rm, hrm⟩ : ∃ rm, QueMiscS.roomOk x = rm := ⟨_, rfl⟩
  rw [hrm] at HRM
  have HB : Hid (B = (rm && decide ((L.length : Int) ≤ x) && B2)) := by
    have e : ∀ A C : Bool, (A = true ↔ C = true) → A = C := fun A C h => by cases A <;> cases C <;> simp_all
    refine e _ _ ?_
    rw [bf.out]
    unfold QueOk
    rw [Bool.and_eq_true, Bool.and_eq_true, hB2, ← hrm]
    simp only [QueMiscS.roomOk, decide_eq_true_eq]
    constructor
    · rintro ⟨h1, h2, h3, h4⟩; exact ⟨⟨⟨h1, h2⟩, h3⟩, h4⟩
    · rintro ⟨⟨⟨h1, h2⟩, h3⟩, h4⟩; exact ⟨h1, h2, h3, h4⟩
  have b0 : Hid (Below w.heap.size w (w.alloc (.cells #[.int .i64 x, .slice a L.length c] 25)) ∧ boxB (w.alloc (.cells #[.int .i64 x, .slice a L.length c] 25)) w.heap.size #[.int .i64 x, .slice a L.length c] 25) := ⟨n1 _ _, boxB.new _ _ _⟩
  clear h hB2 bf hrm
  obtain ⟨n, hn⟩ : ∃ n, L.length = n := ⟨_, rfl⟩
  rw [hn] at hl hc b0 HST HB ⊢
  clear hn
  cases rm with
  | false =>
    obtain rfl : B = false := by rw [HB.out]; rfl
    go_enter Try.func13, Try.ntmps13
    go_wp2_with (go_at_call 25; refine (HRM _).mono ?_; rintro e w9 ⟨rfl, hw9⟩; rw [hw9]; clear hw9 w9)
    go_ret
    exact ⟨rfl, b0.out.1⟩
  | true =>
    by_cases t : (n : Int) ≤ x
    · have td : decide ((n : Int) ≤ x) = true := by simpa using t
      obtain rfl : B = B2 := by rw [HB.out, td]; simp
      clear t
      go_enter Try.func13, Try.ntmps13
      go_wp2_with (first | (go_at_call 25; refine (HRM _).mono ?_; rintro e w9 ⟨rfl, hw9⟩; rw [hw9]; clear hw9 w9) | (go_at_call 15; refine (HST _ (HA.out.below b0.out.1)).mono ?_; rintro e w1 ⟨rfl, b1⟩; have B1 : Hid (Below w.heap.size w w1) := b0.out.1.trans (b1.mono b0.out.1.size); clear b1))
      go_ret
      exact ⟨rfl, B1.out⟩
    · have td : decide ((n : Int) ≤ x) = false := by simpa using t
      obtain rfl : B = false := by rw [HB.out, td]; simp
      clear t
      go_enter Try.func13, Try.ntmps13
      go_wp2_with (go_at_call 25; refine (HRM _).mono ?_; rintro e w9 ⟨rfl, hw9⟩; rw [hw9]; clear hw9 w9)
      go_ret
      exact ⟨rfl, b0.out.1⟩
end Go.Proofs.Ytnejomfaojpicaa.QueStandI
