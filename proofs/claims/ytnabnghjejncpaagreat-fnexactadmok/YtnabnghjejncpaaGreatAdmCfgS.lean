/- What the model's CfgOk answers, at every configuration; nothing that was there turns. -/
import Derived.Test.YtnabnghjejncpaaGreatRows
import Derived.WalkKit
import Derived.WalkSmall
import Derived.BigQuiet
import Derived.Deep.RegionWith
import Derived.Deep.DeepCutAuto
import Derived.Test.YtnabnghjejncpaaGreatListKit
import Derived.Test.YtnabnghjejncpaaGreatHoldKit
import Derived.Test.YtnabnghjejncpaaGreatAdmKit
import Derived.Test.YtnabnghjejncpaaGreatAdmParts
namespace Go.Proofs.YtnabnghjejncpaaGreat.AdmCfgS
open Go.RowKit ListKit HoldKit AdmKit AdmParts BucketMath
open LimSpec (limOk)
set_option maxRecDepth 8000
set_option linter.unusedVariables false
set_option linter.unusedSimpArgs false

set_option maxHeartbeats 4000000 in
theorem spec_cfgok (x0 x1 x2 x3 x4 x5 x6 x7 x8 x9 x10 x11 x12 x13 : Int) (B : Bool) (w : World) (HB : Hid (B = true ↔ cfgGood x0 x1 x2 x3 x4 x5 x6 x7 x8 x9 x10 x11 x12 x13)) :
    Calls Tryz.prog 41 #[.agg #[.int .i64 x0, .int .i64 x1, .int .i64 x2, .int .i64 x3, .int .i64 x4, .int .i64 x5, .int .i64 x6, .int .i64 x7, .int .i64 x8, .int .i64 x9, .int .i64 x10, .int .i64 x11, .int .i64 x12, .int .i64 x13]] w fun e w' => e = .returned (.bool B) ∧ Below w.heap.size w w' := by
  obtain ⟨q0, q1, q2, q3, q4, q5, q6, q7, q8, b1, hb1, _, HL, HL2⟩ := lim_part x0 x1 x2 x3 x4 x5
  obtain ⟨y, b2, hb2, _, HQ, HQ2⟩ := queue_part x8
  obtain ⟨d0, d1, d2, d3, d4, d5, b3, hb3, _, HD, HD2⟩ := codel_part x10 x11
  obtain ⟨u0, u1, u2, b4, hb4, _, HK, HK2⟩ := bucket_part x12 x13
  have P1 : Hid (b1 = true ↔ limOk x0 x1 x2 x3 x4 x5 0 0 x3 []) := hb1
  have P2 : Hid (b2 = true ↔ 0 ≤ x8 ∧ x8 ≤ 50) := hb2
  have P3 : Hid (b3 = true ↔ 0 ≤ x10 ∧ x10 ≤ 100000 ∧ 1 ≤ x11 ∧ x11 ≤ 100000) := hb3
  have P4 : Hid (b4 = true ↔ bOk x12 x13 (1000 * x12) 0) := hb4
  clear hb1 hb2 hb3 hb4 HL2 HQ2 HD2 HK2
  have H0 : Hid (Bel w (w.alloc (.cells #[.int .i64 x0, .int .i64 x1, .int .i64 x2, .int .i64 x3, .int .i64 x4, .int .i64 x5, .int .i64 x6, .int .i64 x7, .int .i64 x8, .int .i64 x9, .int .i64 x10, .int .i64 x11, .int .i64 x12, .int .i64 x13] 47)) ∧ boxB (w.alloc (.cells #[.int .i64 x0, .int .i64 x1, .int .i64 x2, .int .i64 x3, .int .i64 x4, .int .i64 x5, .int .i64 x6, .int .i64 x7, .int .i64 x8, .int .i64 x9, .int .i64 x10, .int .i64 x11, .int .i64 x12, .int .i64 x13] 47)) w.heap.size #[.int .i64 x0, .int .i64 x1, .int .i64 x2, .int .i64 x3, .int .i64 x4, .int .i64 x5, .int .i64 x6, .int .i64 x7, .int .i64 x8, .int .i64 x9, .int .i64 x10, .int .i64 x11, .int .i64 x12, .int .i64 x13] 47) := ⟨n1 w _, boxB.new _ _ _⟩
  have c0 := H0.out.2.cell 0
  have c1 := H0.out.2.cell 1
  have c2 := H0.out.2.cell 2
  have c3 := H0.out.2.cell 3
  have c4 := H0.out.2.cell 4
  have c5 := H0.out.2.cell 5
  have c6 := H0.out.2.cell 6
  have c7 := H0.out.2.cell 7
  have c8 := H0.out.2.cell 8
  have c9 := H0.out.2.cell 9
  have c10 := H0.out.2.cell 10
  have c11 := H0.out.2.cell 11
  have c12 := H0.out.2.cell 12
  have c13 := H0.out.2.cell 13
  go_enter Tryz.func41, Tryz.ntmps41
  go_upto_region 2 with (go_at_call 75; refine (HL _).mono ?_; rintro e' w1 ⟨rfl, hb⟩; have K1 : Hid (Bel w w1 ∧ boxB w1 w.heap.size #[.int .i64 x0, .int .i64 x1, .int .i64 x2, .int .i64 x3, .int .i64 x4, .int .i64 x5, .int .i64 x6, .int .i64 x7, .int .i64 x8, .int .i64 x9, .int .i64 x10, .int .i64 x11, .int .i64 x12, .int .i64 x13] 47) := ⟨Bel.below H0.out.1 hb, H0.out.2.below hb⟩; clear hb HL H0 c0 c1 c2 c3 c4 c5 c6 c7 c8 c9 c10 c11 c12 c13)
  have H1 : Hid (Bel w (w1.alloc (.cells #[.int .i64 q0, .int .i64 q1, .int .i64 q2, .int .i64 q3, .int .i64 q4, .int .i64 q5, .int .i64 q6, .int .i64 q7, .int .i64 q8, .slice none 0 0] 52)) ∧ boxB (w1.alloc (.cells #[.int .i64 q0, .int .i64 q1, .int .i64 q2, .int .i64 q3, .int .i64 q4, .int .i64 q5, .int .i64 q6, .int .i64 q7, .int .i64 q8, .slice none 0 0] 52)) w.heap.size #[.int .i64 x0, .int .i64 x1, .int .i64 x2, .int .i64 x3, .int .i64 x4, .int .i64 x5, .int .i64 x6, .int .i64 x7, .int .i64 x8, .int .i64 x9, .int .i64 x10, .int .i64 x11, .int .i64 x12, .int .i64 x13] 47) := ⟨Bel.below K1.out.1 (n1 _ _), K1.out.2.below (n1 _ _)⟩
  generalize (w1.alloc (.cells #[.int .i64 q0, .int .i64 q1, .int .i64 q2, .int .i64 q3, .int .i64 q4, .int .i64 q5, .int .i64 q6, .int .i64 q7, .int .i64 q8, .slice none 0 0] 52)) = v1 at *
  clear K1
  have c0 := H1.out.2.cell 0
  have c1 := H1.out.2.cell 1
  have c2 := H1.out.2.cell 2
  have c3 := H1.out.2.cell 3
  have c4 := H1.out.2.cell 4
  have c5 := H1.out.2.cell 5
  have c6 := H1.out.2.cell 6
  have c7 := H1.out.2.cell 7
  have c8 := H1.out.2.cell 8
  have c9 := H1.out.2.cell 9
  have c10 := H1.out.2.cell 10
  have c11 := H1.out.2.cell 11
  have c12 := H1.out.2.cell 12
  have c13 := H1.out.2.cell 13
  go_upto_region 3 with (go_at_call 76; refine (HQ _).mono ?_; rintro e' w2 ⟨a2, c2s, rfl, hb⟩; have K2 : Hid (Bel w w2 ∧ boxB w2 w.heap.size #[.int .i64 x0, .int .i64 x1, .int .i64 x2, .int .i64 x3, .int .i64 x4, .int .i64 x5, .int .i64 x6, .int .i64 x7, .int .i64 x8, .int .i64 x9, .int .i64 x10, .int .i64 x11, .int .i64 x12, .int .i64 x13] 47) := ⟨Bel.below H1.out.1 hb, H1.out.2.below hb⟩; clear hb HQ H1 c0 c1 c2 c3 c4 c5 c6 c7 c8 c9 c10 c11 c12 c13)
  have H2 : Hid (Bel w (w2.alloc (.cells #[.int .i64 y, .slice a2 0 c2s] 58)) ∧ boxB (w2.alloc (.cells #[.int .i64 y, .slice a2 0 c2s] 58)) w.heap.size #[.int .i64 x0, .int .i64 x1, .int .i64 x2, .int .i64 x3, .int .i64 x4, .int .i64 x5, .int .i64 x6, .int .i64 x7, .int .i64 x8, .int .i64 x9, .int .i64 x10, .int .i64 x11, .int .i64 x12, .int .i64 x13] 47) := ⟨Bel.below K2.out.1 (n1 _ _), K2.out.2.below (n1 _ _)⟩
  generalize (w2.alloc (.cells #[.int .i64 y, .slice a2 0 c2s] 58)) = v2 at *
  clear K2
  have c0 := H2.out.2.cell 0
  have c1 := H2.out.2.cell 1
  have c2 := H2.out.2.cell 2
  have c3 := H2.out.2.cell 3
  have c4 := H2.out.2.cell 4
  have c5 := H2.out.2.cell 5
  have c6 := H2.out.2.cell 6
  have c7 := H2.out.2.cell 7
  have c8 := H2.out.2.cell 8
  have c9 := H2.out.2.cell 9
  have c10 := H2.out.2.cell 10
  have c11 := H2.out.2.cell 11
  have c12 := H2.out.2.cell 12
  have c13 := H2.out.2.cell 13
  go_upto_region 4 with (go_at_call 77; refine (HD _).mono ?_; rintro e' w3 ⟨rfl, hb⟩; have K3 : Hid (Bel w w3 ∧ boxB w3 w.heap.size #[.int .i64 x0, .int .i64 x1, .int .i64 x2, .int .i64 x3, .int .i64 x4, .int .i64 x5, .int .i64 x6, .int .i64 x7, .int .i64 x8, .int .i64 x9, .int .i64 x10, .int .i64 x11, .int .i64 x12, .int .i64 x13] 47) := ⟨Bel.below H2.out.1 hb, H2.out.2.below hb⟩; clear hb HD H2 c0 c1 c2 c3 c4 c5 c6 c7 c8 c9 c10 c11 c12 c13)
  have H3 : Hid (Bel w (w3.alloc (.cells #[.int .i64 d0, .int .i64 d1, .int .i64 d2, .bool d3, .int .i64 d4, .int .i64 d5] 106)) ∧ boxB (w3.alloc (.cells #[.int .i64 d0, .int .i64 d1, .int .i64 d2, .bool d3, .int .i64 d4, .int .i64 d5] 106)) w.heap.size #[.int .i64 x0, .int .i64 x1, .int .i64 x2, .int .i64 x3, .int .i64 x4, .int .i64 x5, .int .i64 x6, .int .i64 x7, .int .i64 x8, .int .i64 x9, .int .i64 x10, .int .i64 x11, .int .i64 x12, .int .i64 x13] 47) := ⟨Bel.below K3.out.1 (n1 _ _), K3.out.2.below (n1 _ _)⟩
  generalize (w3.alloc (.cells #[.int .i64 d0, .int .i64 d1, .int .i64 d2, .bool d3, .int .i64 d4, .int .i64 d5] 106)) = v3 at *
  clear K3
  have c0 := H3.out.2.cell 0
  have c1 := H3.out.2.cell 1
  have c2 := H3.out.2.cell 2
  have c3 := H3.out.2.cell 3
  have c4 := H3.out.2.cell 4
  have c5 := H3.out.2.cell 5
  have c6 := H3.out.2.cell 6
  have c7 := H3.out.2.cell 7
  have c8 := H3.out.2.cell 8
  have c9 := H3.out.2.cell 9
  have c10 := H3.out.2.cell 10
  have c11 := H3.out.2.cell 11
  have c12 := H3.out.2.cell 12
  have c13 := H3.out.2.cell 13
  go_upto_region 5 with (go_at_call 78; refine (HK _).mono ?_; rintro e' w4 ⟨rfl, hb⟩; have K4 : Hid (Bel w w4 ∧ boxB w4 w.heap.size #[.int .i64 x0, .int .i64 x1, .int .i64 x2, .int .i64 x3, .int .i64 x4, .int .i64 x5, .int .i64 x6, .int .i64 x7, .int .i64 x8, .int .i64 x9, .int .i64 x10, .int .i64 x11, .int .i64 x12, .int .i64 x13] 47) := ⟨Bel.below H3.out.1 hb, H3.out.2.below hb⟩; clear hb HK H3 c0 c1 c2 c3 c4 c5 c6 c7 c8 c9 c10 c11 c12 c13)
  have H4 : Hid (Bel w (w4.alloc (.cells #[.int .i64 u0, .int .i64 u1, .int .i64 u2, .int .i64 0] 60)) ∧ boxB (w4.alloc (.cells #[.int .i64 u0, .int .i64 u1, .int .i64 u2, .int .i64 0] 60)) w.heap.size #[.int .i64 x0, .int .i64 x1, .int .i64 x2, .int .i64 x3, .int .i64 x4, .int .i64 x5, .int .i64 x6, .int .i64 x7, .int .i64 x8, .int .i64 x9, .int .i64 x10, .int .i64 x11, .int .i64 x12, .int .i64 x13] 47) := ⟨Bel.below K4.out.1 (n1 _ _), K4.out.2.below (n1 _ _)⟩
  generalize (w4.alloc (.cells #[.int .i64 u0, .int .i64 u1, .int .i64 u2, .int .i64 0] 60)) = v4 at *
  clear K4
  have c0 := H4.out.2.cell 0
  have c1 := H4.out.2.cell 1
  have c2 := H4.out.2.cell 2
  have c3 := H4.out.2.cell 3
  have c4 := H4.out.2.cell 4
  have c5 := H4.out.2.cell 5
  have c6 := H4.out.2.cell 6
  have c7 := H4.out.2.cell 7
  have c8 := H4.out.2.cell 8
  have c9 := H4.out.2.cell 9
  have c10 := H4.out.2.cell 10
  have c11 := H4.out.2.cell 11
  have c12 := H4.out.2.cell 12
  have c13 := H4.out.2.cell 13
  cases b1 with
  | false =>
    obtain rfl : B = false := by
      cases B with
      | false => rfl
      | true =>
        have h := HB.out.1 rfl
        have := P1.out.2 h.1
        cases this
    go_wp2_with (go_at_call 42; go_in)
    go_ret
    exact ⟨rfl, H4.out.1.out⟩
  | true =>
    cases b2 with
    | false =>
      obtain rfl : B = false := by
        cases B with
        | false => rfl
        | true =>
          have h := HB.out.1 rfl
          have := P2.out.2 h.2.1
          cases this
      go_wp2_with (go_at_call 42; go_in)
      go_ret
      exact ⟨rfl, H4.out.1.out⟩
    | true =>
      cases b3 with
      | false =>
        obtain rfl : B = false := by
          cases B with
          | false => rfl
          | true =>
            have h := HB.out.1 rfl
            have := P3.out.2 h.2.2.1
            cases this
        go_wp2_with (go_at_call 42; go_in)
        go_ret
        exact ⟨rfl, H4.out.1.out⟩
      | true =>
        cases b4 with
        | false =>
          obtain rfl : B = false := by
            cases B with
            | false => rfl
            | true =>
              have h := HB.out.1 rfl
              have := P4.out.2 h.2.2.2.1
              cases this
          go_wp2_with (go_at_call 42; go_in)
          go_ret
          exact ⟨rfl, H4.out.1.out⟩
        | true =>
          by_cases t4 : 1 ≤ x6
          · have s4 : decide (1 ≤ x6) = true := by simpa using t4
            by_cases t5 : x6 ≤ 60
            · have s5 : decide (x6 ≤ 60) = true := by simpa using t5
              by_cases t6 : 1 ≤ x7
              · have s6 : decide (1 ≤ x7) = true := by simpa using t6
                by_cases t7 : x7 ≤ 4
                · have s7 : decide (x7 ≤ 4) = true := by simpa using t7
                  by_cases t8 : 0 ≤ x9
                  · have s8 : decide (0 ≤ x9) = true := by simpa using t8
                    by_cases t9 : x9 ≤ 1000000000
                    · have s9 : decide (x9 ≤ 1000000000) = true := by simpa using t9
                      obtain rfl : B = true := HB.out.2 ⟨P1.out.1 rfl, P2.out.1 rfl, P3.out.1 rfl, P4.out.1 rfl, by omega, by omega, by omega, by omega, by omega, by omega⟩
                      go_wp2_with (go_at_call 42; go_in)
                      go_ret
                      exact ⟨rfl, H4.out.1.out⟩
                    · have s9 : decide (x9 ≤ 1000000000) = false := by simpa using t9
                      obtain rfl : B = false := by
                        cases B with
                        | false => rfl
                        | true =>
                          have h := HB.out.1 rfl
                          unfold cfgGood at h
                          omega
                      go_wp2_with (go_at_call 42; go_in)
                      go_ret
                      exact ⟨rfl, H4.out.1.out⟩
                  · have s8 : decide (0 ≤ x9) = false := by simpa using t8
                    obtain rfl : B = false := by
                      cases B with
                      | false => rfl
                      | true =>
                        have h := HB.out.1 rfl
                        unfold cfgGood at h
                        omega
                    go_wp2_with (go_at_call 42; go_in)
                    go_ret
                    exact ⟨rfl, H4.out.1.out⟩
                · have s7 : decide (x7 ≤ 4) = false := by simpa using t7
                  obtain rfl : B = false := by
                    cases B with
                    | false => rfl
                    | true =>
                      have h := HB.out.1 rfl
                      unfold cfgGood at h
                      omega
                  go_wp2_with (go_at_call 42; go_in)
                  go_ret
                  exact ⟨rfl, H4.out.1.out⟩
              · have s6 : decide (1 ≤ x7) = false := by simpa using t6
                obtain rfl : B = false := by
                  cases B with
                  | false => rfl
                  | true =>
                    have h := HB.out.1 rfl
                    unfold cfgGood at h
                    omega
                go_wp2_with (go_at_call 42; go_in)
                go_ret
                exact ⟨rfl, H4.out.1.out⟩
            · have s5 : decide (x6 ≤ 60) = false := by simpa using t5
              obtain rfl : B = false := by
                cases B with
                | false => rfl
                | true =>
                  have h := HB.out.1 rfl
                  unfold cfgGood at h
                  omega
              go_wp2_with (go_at_call 42; go_in)
              go_ret
              exact ⟨rfl, H4.out.1.out⟩
          · have s4 : decide (1 ≤ x6) = false := by simpa using t4
            obtain rfl : B = false := by
              cases B with
              | false => rfl
              | true =>
                have h := HB.out.1 rfl
                unfold cfgGood at h
                omega
            go_wp2_with (go_at_call 42; go_in)
            go_ret
            exact ⟨rfl, H4.out.1.out⟩
end Go.Proofs.YtnabnghjejncpaaGreat.AdmCfgS
