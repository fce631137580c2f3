/- Whether the parts of a machine are right, each by itself, by the program; nothing that was there turns. -/
import Derived.Test.YtnabnghjejncpaaGreatRows
import Derived.WalkKit
import Derived.WalkSmall
import Derived.BigQuiet
import Derived.Deep.RegionWith
import Derived.Deep.DeepCutAuto
import Derived.Test.YtnabnghjejncpaaGreatListKit
import Derived.Test.YtnabnghjejncpaaGreatHoldKit
import Derived.Test.YtnabnghjejncpaaGreatBigBox
import Derived.Test.YtnabnghjejncpaaGreatAdmOwnP
import Derived.Test.YtnabnghjejncpaaGreatAdmOkS
import Derived.Test.YtnabnghjejncpaaGreatLimAll
import Derived.Test.YtnabnghjejncpaaGreatLedOk
import Derived.Test.YtnabnghjejncpaaGreatQueAll
import Derived.Test.YtnabnghjejncpaaGreatBucketAll
import Derived.Test.YtnabnghjejncpaaGreatAdmComI
import Derived.Test.YtnabnghjejncpaaGreatAdmSlowI
namespace Go.Proofs.YtnabnghjejncpaaGreat.AdmPartI
open Go.RowKit ListKit HoldKit AdmKit AdmBits AdmPartP AdmKnownP AdmOwnP BucketMath
open LimSpec (limOk)
open AdmPartS (flag)
open AdmOkS (Sm)
set_option maxRecDepth 8000
set_option linter.unusedVariables false
set_option linter.unusedSimpArgs false

set_option maxHeartbeats 16000000 in
theorem impl_parts (x0 x1 x2 x3 x4 x5 x6 x7 x8 x9 x10 x11 x12 x13 x14 x15 x16 x17 x18 x19 x20 x21 x22 x23 x26 x29 x30 x31 x32 : Int) (L24 : List SampleKit.Sample) (L25 : List SlotKit.Slot) (L27 : List ReqKit.Req) (L28 : List CodelKit.Codel) (L33 : List Int) (a24 : Option Addr) (c24 : Nat) (a25 : Option Addr) (c25 : Nat) (a27 : Option Addr) (c27 : Nat) (a28 : Option Addr) (c28 : Nat) (a33 : Option Addr) (c33 : Nat) (B : Bool) (w : World) (h24 : Own 155 2 SampleKit.cells w a24 L24) (h25 : Own 75 5 SlotKit.cells w a25 L25) (h27 : Own 72 6 ReqKit.cells w a27 L27) (h28 : Own 106 6 CodelKit.cells w a28 L28) (h33 : Own 3 1 IntKit.cells w a33 L33) (l24 : L24.length ≤ 1048576) (l25 : L25.length ≤ 1048576) (l27 : L27.length ≤ 1048576) (l28 : L28.length ≤ 1048576) (l33 : L33.length ≤ 1048576) (q25 : L25.length ≤ c25) (q27 : L27.length ≤ c27) (HB : Hid (B = true ↔ ownOk x0 x1 x2 x3 x4 x5 x6 x7 x8 x9 x10 x11 x12 x13 x14 x15 x16 x17 x18 x19 x20 x21 x22 x23 x26 x29 x30 x31 x32 L24 L25 L27 L28 L33)) :
    Calls Tryz.prog 28 #[.agg #[.int .i64 x0, .int .i64 x1, .int .i64 x2, .int .i64 x3, .int .i64 x4, .int .i64 x5, .int .i64 x6, .int .i64 x7, .int .i64 x8, .int .i64 x9, .int .i64 x10, .int .i64 x11, .int .i64 x12, .int .i64 x13, .int .i64 x14, .int .i64 x15, .int .i64 x16, .int .i64 x17, .int .i64 x18, .int .i64 x19, .int .i64 x20, .int .i64 x21, .int .i64 x22, .int .i64 x23, .slice a24 L24.length c24, .slice a25 L25.length c25, .int .i64 x26, .slice a27 L27.length c27, .slice a28 L28.length c28, .int .i64 x29, .int .i64 x30, .int .i64 x31, .int .i64 x32, .slice a33 L33.length c33]] w fun e w' => e = .returned (.bool B) ∧ Below w.heap.size w w' := by
  obtain ⟨b1, P1⟩ := flag (limOk x15 x16 x17 x18 x19 x20 x21 x22 x23 (prs L24))
  obtain ⟨b2, P2⟩ := flag (¬ (x15 = x0 ∧ x16 = x1 ∧ x17 = x2 ∧ x18 = x3 ∧ x19 = x4))
  obtain ⟨b3, P3⟩ := flag (LedOk.ledOk L25)
  obtain ⟨b4, P4⟩ := flag (QueMath.QueOk x26 L27)
  obtain ⟨b5, P5⟩ := flag (bOk x29 x30 x31 x32)
  obtain ⟨b6, P6⟩ := flag (∀ (i : Nat) (h : i < L28.length), slowOk x10 x11 L28[i])
  obtain ⟨b7, P7⟩ := flag (knownOk L33)
  have HL := fun W h => LimImpl.impl_limok x15 x16 x17 x18 x19 x20 x21 x22 x23 a24 c24 (prs L24) b1 W h (by rw [prs_len]; omega) P1
  rw [prs_len] at HL
  have HN := fun W => neq_cfg x15 x16 x17 x18 x19 x0 x1 x2 x3 x4 b2 P2.out W
  have HE := fun W h => LedOk.impl_ledok a25 c25 L25 b3 W h (by omega) q25 P3
  have HQ := fun W h => QueStandI.impl_queueok x26 a27 c27 L27 b4 W h (by omega) q27 P4
  have HU := fun W => BucketImpl.impl_bok x29 x30 x31 x32 b5 W P5
  have HS := fun W h hb => AdmSlowI.has_slow a28 c28 L28 x10 x11 [.int .i64 x0, .int .i64 x1, .int .i64 x2, .int .i64 x3, .int .i64 x4, .int .i64 x5, .int .i64 x6, .int .i64 x7, .int .i64 x8, .int .i64 x9, .int .i64 x10, .int .i64 x11, .int .i64 x12, .int .i64 x13, .int .i64 x14, .int .i64 x15, .int .i64 x16, .int .i64 x17, .int .i64 x18, .int .i64 x19, .int .i64 x20, .int .i64 x21, .int .i64 x22, .int .i64 x23, .slice a24 L24.length c24, .slice a25 L25.length c25, .int .i64 x26, .slice a27 L27.length c27, .slice a28 L28.length c28, .int .i64 x29, .int .i64 x30, .int .i64 x31, .int .i64 x32, .slice a33 L33.length c33] w.heap.size b6 W h (by omega) hb (Nat.le_of_ble_eq_true rfl) rfl rfl P6
  have HK := fun W h => AdmComI.impl_right a33 c33 L33 b7 W h (by omega) P7
  have H0 : Hid (Sm w (w.alloc (.cells #[.int .i64 x0, .int .i64 x1, .int .i64 x2, .int .i64 x3, .int .i64 x4, .int .i64 x5, .int .i64 x6, .int .i64 x7, .int .i64 x8, .int .i64 x9, .int .i64 x10, .int .i64 x11, .int .i64 x12, .int .i64 x13, .int .i64 x14, .int .i64 x15, .int .i64 x16, .int .i64 x17, .int .i64 x18, .int .i64 x19, .int .i64 x20, .int .i64 x21, .int .i64 x22, .int .i64 x23, .slice a24 L24.length c24, .slice a25 L25.length c25, .int .i64 x26, .slice a27 L27.length c27, .slice a28 L28.length c28, .int .i64 x29, .int .i64 x30, .int .i64 x31, .int .i64 x32, .slice a33 L33.length c33] 62)) x0 x1 x2 x3 x4 x5 x6 x7 x8 x9 x10 x11 x12 x13 x14 x15 x16 x17 x18 x19 x20 x21 x22 x23 x26 x29 x30 x31 x32 L24 L25 L27 L28 L33 a24 c24 a25 c25 a27 c27 a28 c28 a33 c33) := ⟨n1 w _, boxB.new w _ _, h24.below (n1 w _), h25.below (n1 w _), h27.below (n1 w _), h28.below (n1 w _), h33.below (n1 w _)⟩
  clear h24 h25 h27 h28 h33
  go_enter Tryz.func28, Tryz.ntmps28
  go_upto_region 1 with fail
  generalize w.alloc (.cells #[.int .i64 x0, .int .i64 x1, .int .i64 x2, .int .i64 x3, .int .i64 x4, .int .i64 x5, .int .i64 x6, .int .i64 x7, .int .i64 x8, .int .i64 x9, .int .i64 x10, .int .i64 x11, .int .i64 x12, .int .i64 x13, .int .i64 x14, .int .i64 x15, .int .i64 x16, .int .i64 x17, .int .i64 x18, .int .i64 x19, .int .i64 x20, .int .i64 x21, .int .i64 x22, .int .i64 x23, .slice a24 L24.length c24, .slice a25 L25.length c25, .int .i64 x26, .slice a27 L27.length c27, .slice a28 L28.length c28, .int .i64 x29, .int .i64 x30, .int .i64 x31, .int .i64 x32, .slice a33 L33.length c33] 62) = v0 at *
  have m15 := H0.out.2.1.cell 15
  have m16 := H0.out.2.1.cell 16
  have m17 := H0.out.2.1.cell 17
  have m18 := H0.out.2.1.cell 18
  have m19 := H0.out.2.1.cell 19
  have m20 := H0.out.2.1.cell 20
  have m21 := H0.out.2.1.cell 21
  have m22 := H0.out.2.1.cell 22
  have m23 := H0.out.2.1.cell 23
  have m24 := H0.out.2.1.cell 24
  have m25 := H0.out.2.1.cell 25
  have m0 := H0.out.2.1.cell 0
  have m1 := H0.out.2.1.cell 1
  have m2 := H0.out.2.1.cell 2
  have m3 := H0.out.2.1.cell 3
  have m4 := H0.out.2.1.cell 4
  cases b1 with
  | false =>
    obtain rfl : B = false := by
      cases B with
      | false => rfl
      | true =>
        have h := HB.out.1 rfl
        have := P1.out.2 h.1; cases this
    go_wp2_with (go_big_may; first | (go_at_call 58; refine (HL _ (wok_of_own H0.out.2.2.1)).mono ?_; rintro e' w1 ⟨rfl, hb⟩; have H9 : Hid (Sm w w1 x0 x1 x2 x3 x4 x5 x6 x7 x8 x9 x10 x11 x12 x13 x14 x15 x16 x17 x18 x19 x20 x21 x22 x23 x26 x29 x30 x31 x32 L24 L25 L27 L28 L33 a24 c24 a25 c25 a27 c27 a28 c28 a33 c33) := H0.out.below hb; clear hb  H0 m15 m16 m17 m18 m19 m20 m21 m22 m23 m24 m25 m0 m1 m2 m3 m4; have H0 := H9; clear H9; have m15 := H0.out.2.1.cell 15; have m16 := H0.out.2.1.cell 16; have m17 := H0.out.2.1.cell 17; have m18 := H0.out.2.1.cell 18; have m19 := H0.out.2.1.cell 19; have m20 := H0.out.2.1.cell 20; have m21 := H0.out.2.1.cell 21; have m22 := H0.out.2.1.cell 22; have m23 := H0.out.2.1.cell 23; have m24 := H0.out.2.1.cell 24; have m25 := H0.out.2.1.cell 25; have m0 := H0.out.2.1.cell 0; have m1 := H0.out.2.1.cell 1; have m2 := H0.out.2.1.cell 2; have m3 := H0.out.2.1.cell 3; have m4 := H0.out.2.1.cell 4) | (go_at_call 59; refine (HE _ H0.out.2.2.2.1).mono ?_; rintro e' w1 ⟨rfl, hb⟩; have H9 : Hid (Sm w w1 x0 x1 x2 x3 x4 x5 x6 x7 x8 x9 x10 x11 x12 x13 x14 x15 x16 x17 x18 x19 x20 x21 x22 x23 x26 x29 x30 x31 x32 L24 L25 L27 L28 L33 a24 c24 a25 c25 a27 c27 a28 c28 a33 c33) := H0.out.below hb; clear hb  H0 m15 m16 m17 m18 m19 m20 m21 m22 m23 m24 m25 m0 m1 m2 m3 m4; have H0 := H9; clear H9; have m15 := H0.out.2.1.cell 15; have m16 := H0.out.2.1.cell 16; have m17 := H0.out.2.1.cell 17; have m18 := H0.out.2.1.cell 18; have m19 := H0.out.2.1.cell 19; have m20 := H0.out.2.1.cell 20; have m21 := H0.out.2.1.cell 21; have m22 := H0.out.2.1.cell 22; have m23 := H0.out.2.1.cell 23; have m24 := H0.out.2.1.cell 24; have m25 := H0.out.2.1.cell 25; have m0 := H0.out.2.1.cell 0; have m1 := H0.out.2.1.cell 1; have m2 := H0.out.2.1.cell 2; have m3 := H0.out.2.1.cell 3; have m4 := H0.out.2.1.cell 4))
    go_ret
    exact ⟨rfl, H0.out.1.out⟩
  | true =>
    cases b2 with
    | true =>
      obtain rfl : B = false := by
        cases B with
        | false => rfl
        | true =>
          have h := HB.out.1 rfl
          exact (P2.out.1 rfl h.2.1).elim
      go_wp2_with (go_big_may; first | (go_at_call 58; refine (HL _ (wok_of_own H0.out.2.2.1)).mono ?_; rintro e' w1 ⟨rfl, hb⟩; have H9 : Hid (Sm w w1 x0 x1 x2 x3 x4 x5 x6 x7 x8 x9 x10 x11 x12 x13 x14 x15 x16 x17 x18 x19 x20 x21 x22 x23 x26 x29 x30 x31 x32 L24 L25 L27 L28 L33 a24 c24 a25 c25 a27 c27 a28 c28 a33 c33) := H0.out.below hb; clear hb  H0 m15 m16 m17 m18 m19 m20 m21 m22 m23 m24 m25 m0 m1 m2 m3 m4; have H0 := H9; clear H9; have m15 := H0.out.2.1.cell 15; have m16 := H0.out.2.1.cell 16; have m17 := H0.out.2.1.cell 17; have m18 := H0.out.2.1.cell 18; have m19 := H0.out.2.1.cell 19; have m20 := H0.out.2.1.cell 20; have m21 := H0.out.2.1.cell 21; have m22 := H0.out.2.1.cell 22; have m23 := H0.out.2.1.cell 23; have m24 := H0.out.2.1.cell 24; have m25 := H0.out.2.1.cell 25; have m0 := H0.out.2.1.cell 0; have m1 := H0.out.2.1.cell 1; have m2 := H0.out.2.1.cell 2; have m3 := H0.out.2.1.cell 3; have m4 := H0.out.2.1.cell 4) | (go_at_call 59; refine (HE _ H0.out.2.2.2.1).mono ?_; rintro e' w1 ⟨rfl, hb⟩; have H9 : Hid (Sm w w1 x0 x1 x2 x3 x4 x5 x6 x7 x8 x9 x10 x11 x12 x13 x14 x15 x16 x17 x18 x19 x20 x21 x22 x23 x26 x29 x30 x31 x32 L24 L25 L27 L28 L33 a24 c24 a25 c25 a27 c27 a28 c28 a33 c33) := H0.out.below hb; clear hb  H0 m15 m16 m17 m18 m19 m20 m21 m22 m23 m24 m25 m0 m1 m2 m3 m4; have H0 := H9; clear H9; have m15 := H0.out.2.1.cell 15; have m16 := H0.out.2.1.cell 16; have m17 := H0.out.2.1.cell 17; have m18 := H0.out.2.1.cell 18; have m19 := H0.out.2.1.cell 19; have m20 := H0.out.2.1.cell 20; have m21 := H0.out.2.1.cell 21; have m22 := H0.out.2.1.cell 22; have m23 := H0.out.2.1.cell 23; have m24 := H0.out.2.1.cell 24; have m25 := H0.out.2.1.cell 25; have m0 := H0.out.2.1.cell 0; have m1 := H0.out.2.1.cell 1; have m2 := H0.out.2.1.cell 2; have m3 := H0.out.2.1.cell 3; have m4 := H0.out.2.1.cell 4))
      go_ret
      exact ⟨rfl, H0.out.1.out⟩
    | false =>
      cases b3 with
      | false =>
        obtain rfl : B = false := by
          cases B with
          | false => rfl
          | true =>
            have h := HB.out.1 rfl
            have := P3.out.2 h.2.2.1; cases this
        go_wp2_with (go_big_may; first | (go_at_call 58; refine (HL _ (wok_of_own H0.out.2.2.1)).mono ?_; rintro e' w1 ⟨rfl, hb⟩; have H9 : Hid (Sm w w1 x0 x1 x2 x3 x4 x5 x6 x7 x8 x9 x10 x11 x12 x13 x14 x15 x16 x17 x18 x19 x20 x21 x22 x23 x26 x29 x30 x31 x32 L24 L25 L27 L28 L33 a24 c24 a25 c25 a27 c27 a28 c28 a33 c33) := H0.out.below hb; clear hb  H0 m15 m16 m17 m18 m19 m20 m21 m22 m23 m24 m25 m0 m1 m2 m3 m4; have H0 := H9; clear H9; have m15 := H0.out.2.1.cell 15; have m16 := H0.out.2.1.cell 16; have m17 := H0.out.2.1.cell 17; have m18 := H0.out.2.1.cell 18; have m19 := H0.out.2.1.cell 19; have m20 := H0.out.2.1.cell 20; have m21 := H0.out.2.1.cell 21; have m22 := H0.out.2.1.cell 22; have m23 := H0.out.2.1.cell 23; have m24 := H0.out.2.1.cell 24; have m25 := H0.out.2.1.cell 25; have m0 := H0.out.2.1.cell 0; have m1 := H0.out.2.1.cell 1; have m2 := H0.out.2.1.cell 2; have m3 := H0.out.2.1.cell 3; have m4 := H0.out.2.1.cell 4) | (go_at_call 59; refine (HE _ H0.out.2.2.2.1).mono ?_; rintro e' w1 ⟨rfl, hb⟩; have H9 : Hid (Sm w w1 x0 x1 x2 x3 x4 x5 x6 x7 x8 x9 x10 x11 x12 x13 x14 x15 x16 x17 x18 x19 x20 x21 x22 x23 x26 x29 x30 x31 x32 L24 L25 L27 L28 L33 a24 c24 a25 c25 a27 c27 a28 c28 a33 c33) := H0.out.below hb; clear hb  H0 m15 m16 m17 m18 m19 m20 m21 m22 m23 m24 m25 m0 m1 m2 m3 m4; have H0 := H9; clear H9; have m15 := H0.out.2.1.cell 15; have m16 := H0.out.2.1.cell 16; have m17 := H0.out.2.1.cell 17; have m18 := H0.out.2.1.cell 18; have m19 := H0.out.2.1.cell 19; have m20 := H0.out.2.1.cell 20; have m21 := H0.out.2.1.cell 21; have m22 := H0.out.2.1.cell 22; have m23 := H0.out.2.1.cell 23; have m24 := H0.out.2.1.cell 24; have m25 := H0.out.2.1.cell 25; have m0 := H0.out.2.1.cell 0; have m1 := H0.out.2.1.cell 1; have m2 := H0.out.2.1.cell 2; have m3 := H0.out.2.1.cell 3; have m4 := H0.out.2.1.cell 4))
        go_ret
        exact ⟨rfl, H0.out.1.out⟩
      | true =>
        go_upto_region 3 with (go_big_may; first | (go_at_call 58; refine (HL _ (wok_of_own H0.out.2.2.1)).mono ?_; rintro e' w1 ⟨rfl, hb⟩; have H9 : Hid (Sm w w1 x0 x1 x2 x3 x4 x5 x6 x7 x8 x9 x10 x11 x12 x13 x14 x15 x16 x17 x18 x19 x20 x21 x22 x23 x26 x29 x30 x31 x32 L24 L25 L27 L28 L33 a24 c24 a25 c25 a27 c27 a28 c28 a33 c33) := H0.out.below hb; clear hb  H0 m15 m16 m17 m18 m19 m20 m21 m22 m23 m24 m25 m0 m1 m2 m3 m4; have H0 := H9; clear H9; have m15 := H0.out.2.1.cell 15; have m16 := H0.out.2.1.cell 16; have m17 := H0.out.2.1.cell 17; have m18 := H0.out.2.1.cell 18; have m19 := H0.out.2.1.cell 19; have m20 := H0.out.2.1.cell 20; have m21 := H0.out.2.1.cell 21; have m22 := H0.out.2.1.cell 22; have m23 := H0.out.2.1.cell 23; have m24 := H0.out.2.1.cell 24; have m25 := H0.out.2.1.cell 25; have m0 := H0.out.2.1.cell 0; have m1 := H0.out.2.1.cell 1; have m2 := H0.out.2.1.cell 2; have m3 := H0.out.2.1.cell 3; have m4 := H0.out.2.1.cell 4) | (go_at_call 59; refine (HE _ H0.out.2.2.2.1).mono ?_; rintro e' w1 ⟨rfl, hb⟩; have H9 : Hid (Sm w w1 x0 x1 x2 x3 x4 x5 x6 x7 x8 x9 x10 x11 x12 x13 x14 x15 x16 x17 x18 x19 x20 x21 x22 x23 x26 x29 x30 x31 x32 L24 L25 L27 L28 L33 a24 c24 a25 c25 a27 c27 a28 c28 a33 c33) := H0.out.below hb; clear hb  H0 m15 m16 m17 m18 m19 m20 m21 m22 m23 m24 m25 m0 m1 m2 m3 m4; have H0 := H9; clear H9; have m15 := H0.out.2.1.cell 15; have m16 := H0.out.2.1.cell 16; have m17 := H0.out.2.1.cell 17; have m18 := H0.out.2.1.cell 18; have m19 := H0.out.2.1.cell 19; have m20 := H0.out.2.1.cell 20; have m21 := H0.out.2.1.cell 21; have m22 := H0.out.2.1.cell 22; have m23 := H0.out.2.1.cell 23; have m24 := H0.out.2.1.cell 24; have m25 := H0.out.2.1.cell 25; have m0 := H0.out.2.1.cell 0; have m1 := H0.out.2.1.cell 1; have m2 := H0.out.2.1.cell 2; have m3 := H0.out.2.1.cell 3; have m4 := H0.out.2.1.cell 4))
        clear m15 m16 m17 m18 m19 m20 m21 m22 m23 m24 m25 m0 m1 m2 m3 m4
        have m26 := H0.out.2.1.cell 26
        have m27 := H0.out.2.1.cell 27
        have m8 := H0.out.2.1.cell 8
        cases b4 with
        | false =>
          obtain rfl : B = false := by
            cases B with
            | false => rfl
            | true =>
              have h := HB.out.1 rfl
              have := P4.out.2 h.2.2.2.1; cases this
          go_wp2_with (go_big_may; first | (go_at_call 60; refine (HQ _ H0.out.2.2.2.2.1).mono ?_; rintro e' w1 ⟨rfl, hb⟩; have H9 : Hid (Sm w w1 x0 x1 x2 x3 x4 x5 x6 x7 x8 x9 x10 x11 x12 x13 x14 x15 x16 x17 x18 x19 x20 x21 x22 x23 x26 x29 x30 x31 x32 L24 L25 L27 L28 L33 a24 c24 a25 c25 a27 c27 a28 c28 a33 c33) := H0.out.below hb; clear hb  H0 m26 m27 m8; have H0 := H9; clear H9; have m26 := H0.out.2.1.cell 26; have m27 := H0.out.2.1.cell 27; have m8 := H0.out.2.1.cell 8))
          go_ret
          exact ⟨rfl, H0.out.1.out⟩
        | true =>
          by_cases t : x26 = x8
          · have s0 : (x26 == x8) = true := by simpa using t
            have r0 : (x26 != x8) = false := by rw [bne, s0]; rfl
            have T0 : Hid (x26 = x8) := t
            clear t
            go_upto_region 5 with (go_big_may; first | (go_at_call 60; refine (HQ _ H0.out.2.2.2.2.1).mono ?_; rintro e' w1 ⟨rfl, hb⟩; have H9 : Hid (Sm w w1 x0 x1 x2 x3 x4 x5 x6 x7 x8 x9 x10 x11 x12 x13 x14 x15 x16 x17 x18 x19 x20 x21 x22 x23 x26 x29 x30 x31 x32 L24 L25 L27 L28 L33 a24 c24 a25 c25 a27 c27 a28 c28 a33 c33) := H0.out.below hb; clear hb  H0 m26 m27 m8; have H0 := H9; clear H9; have m26 := H0.out.2.1.cell 26; have m27 := H0.out.2.1.cell 27; have m8 := H0.out.2.1.cell 8))
            clear m26 m27 m8
            have m29 := H0.out.2.1.cell 29
            have m30 := H0.out.2.1.cell 30
            have m31 := H0.out.2.1.cell 31
            have m32 := H0.out.2.1.cell 32
            have m12 := H0.out.2.1.cell 12
            have m13 := H0.out.2.1.cell 13
            cases b5 with
            | false =>
              obtain rfl : B = false := by
                cases B with
                | false => rfl
                | true =>
                  have h := HB.out.1 rfl
                  have := P5.out.2 h.2.2.2.2.2.1; cases this
              go_wp2_with (go_big_may; first | (go_at_call 61; refine (HU _).mono ?_; rintro e' w1 ⟨rfl, hb⟩; have H9 : Hid (Sm w w1 x0 x1 x2 x3 x4 x5 x6 x7 x8 x9 x10 x11 x12 x13 x14 x15 x16 x17 x18 x19 x20 x21 x22 x23 x26 x29 x30 x31 x32 L24 L25 L27 L28 L33 a24 c24 a25 c25 a27 c27 a28 c28 a33 c33) := H0.out.below hb; clear hb  H0 m29 m30 m31 m32 m12 m13; have H0 := H9; clear H9; have m29 := H0.out.2.1.cell 29; have m30 := H0.out.2.1.cell 30; have m31 := H0.out.2.1.cell 31; have m32 := H0.out.2.1.cell 32; have m12 := H0.out.2.1.cell 12; have m13 := H0.out.2.1.cell 13))
              go_ret
              exact ⟨rfl, H0.out.1.out⟩
            | true =>
              by_cases t : x29 = x12
              · have s1 : (x29 == x12) = true := by simpa using t
                have r1 : (x29 != x12) = false := by rw [bne, s1]; rfl
                have T1 : Hid (x29 = x12) := t
                clear t
                by_cases t : x30 = x13
                · have s2 : (x30 == x13) = true := by simpa using t
                  have r2 : (x30 != x13) = false := by rw [bne, s2]; rfl
                  have T2 : Hid (x30 = x13) := t
                  clear t
                  go_upto_region 7 with (go_big_may; first | (go_at_call 61; refine (HU _).mono ?_; rintro e' w1 ⟨rfl, hb⟩; have H9 : Hid (Sm w w1 x0 x1 x2 x3 x4 x5 x6 x7 x8 x9 x10 x11 x12 x13 x14 x15 x16 x17 x18 x19 x20 x21 x22 x23 x26 x29 x30 x31 x32 L24 L25 L27 L28 L33 a24 c24 a25 c25 a27 c27 a28 c28 a33 c33) := H0.out.below hb; clear hb  H0 m29 m30 m31 m32 m12 m13; have H0 := H9; clear H9; have m29 := H0.out.2.1.cell 29; have m30 := H0.out.2.1.cell 30; have m31 := H0.out.2.1.cell 31; have m32 := H0.out.2.1.cell 32; have m12 := H0.out.2.1.cell 12; have m13 := H0.out.2.1.cell 13))
                  clear m29 m30 m31 m32 m12 m13
                  have m28 := H0.out.2.1.cell 28
                  have m7 := H0.out.2.1.cell 7
                  have m33 := H0.out.2.1.cell 33
                  by_cases t : (L28.length : Int) = x7
                  · have s3 : ((L28.length : Int) == x7) = true := by simpa using t
                    have r3 : ((L28.length : Int) != x7) = false := by rw [bne, s3]; rfl
                    have T3 : Hid ((L28.length : Int) = x7) := t
                    clear t
                    cases b6 with
                    | false =>
                      obtain rfl : B = false := by
                        cases B with
                        | false => rfl
                        | true =>
                          have h := HB.out.1 rfl
                          have := P6.out.2 h.2.2.2.2.2.2.2.2.2.1; cases this
                      go_wp2_with (go_big_may; first | (go_at_call 64; refine (HS _ H0.out.2.2.2.2.2.1 H0.out.2.1).mono ?_; rintro e' w1 ⟨rfl, hb⟩; have H9 : Hid (Sm w w1 x0 x1 x2 x3 x4 x5 x6 x7 x8 x9 x10 x11 x12 x13 x14 x15 x16 x17 x18 x19 x20 x21 x22 x23 x26 x29 x30 x31 x32 L24 L25 L27 L28 L33 a24 c24 a25 c25 a27 c27 a28 c28 a33 c33) := H0.out.below hb; clear hb  H0 m28 m7 m33; have H0 := H9; clear H9; have m28 := H0.out.2.1.cell 28; have m7 := H0.out.2.1.cell 7; have m33 := H0.out.2.1.cell 33) | (go_at_call 65; refine (HK _ H0.out.2.2.2.2.2.2).mono ?_; rintro e' w1 ⟨rfl, hw⟩; subst w1))
                      go_ret
                      exact ⟨rfl, H0.out.1.out⟩
                    | true =>
                      cases b7 with
                      | false =>
                        obtain rfl : B = false := by
                          cases B with
                          | false => rfl
                          | true =>
                            have h := HB.out.1 rfl
                            have := P7.out.2 h.2.2.2.2.2.2.2.2.2.2; cases this
                        go_wp2_with (go_big_may; first | (go_at_call 64; refine (HS _ H0.out.2.2.2.2.2.1 H0.out.2.1).mono ?_; rintro e' w1 ⟨rfl, hb⟩; have H9 : Hid (Sm w w1 x0 x1 x2 x3 x4 x5 x6 x7 x8 x9 x10 x11 x12 x13 x14 x15 x16 x17 x18 x19 x20 x21 x22 x23 x26 x29 x30 x31 x32 L24 L25 L27 L28 L33 a24 c24 a25 c25 a27 c27 a28 c28 a33 c33) := H0.out.below hb; clear hb  H0 m28 m7 m33; have H0 := H9; clear H9; have m28 := H0.out.2.1.cell 28; have m7 := H0.out.2.1.cell 7; have m33 := H0.out.2.1.cell 33) | (go_at_call 65; refine (HK _ H0.out.2.2.2.2.2.2).mono ?_; rintro e' w1 ⟨rfl, hw⟩; subst w1))
                        go_ret
                        exact ⟨rfl, H0.out.1.out⟩
                      | true =>
                        obtain rfl : B = true := HB.out.2 ⟨P1.out.1 (by first | rfl | trivial), Classical.byContradiction fun h9 => Bool.noConfusion (P2.out.2 h9), P3.out.1 (by first | rfl | trivial), P4.out.1 (by first | rfl | trivial), T0.out, P5.out.1 (by first | rfl | trivial), T1.out, T2.out, T3.out, P6.out.1 (by first | rfl | trivial), P7.out.1 (by first | rfl | trivial)⟩
                        go_wp2_with (go_big_may; first | (go_at_call 64; refine (HS _ H0.out.2.2.2.2.2.1 H0.out.2.1).mono ?_; rintro e' w1 ⟨rfl, hb⟩; have H9 : Hid (Sm w w1 x0 x1 x2 x3 x4 x5 x6 x7 x8 x9 x10 x11 x12 x13 x14 x15 x16 x17 x18 x19 x20 x21 x22 x23 x26 x29 x30 x31 x32 L24 L25 L27 L28 L33 a24 c24 a25 c25 a27 c27 a28 c28 a33 c33) := H0.out.below hb; clear hb  H0 m28 m7 m33; have H0 := H9; clear H9; have m28 := H0.out.2.1.cell 28; have m7 := H0.out.2.1.cell 7; have m33 := H0.out.2.1.cell 33) | (go_at_call 65; refine (HK _ H0.out.2.2.2.2.2.2).mono ?_; rintro e' w1 ⟨rfl, hw⟩; subst w1))
                        go_ret
                        exact ⟨rfl, H0.out.1.out⟩
                  · have s3 : ((L28.length : Int) == x7) = false := by simpa using t
                    have r3 : ((L28.length : Int) != x7) = true := by rw [bne, s3]; rfl
                    obtain rfl : B = false := by
                      cases B with
                      | false => rfl
                      | true =>
                        have h := HB.out.1 rfl
                        exact (t h.2.2.2.2.2.2.2.2.1).elim
                    go_wp2_with (go_big_may; first | (go_at_call 64; refine (HS _ H0.out.2.2.2.2.2.1 H0.out.2.1).mono ?_; rintro e' w1 ⟨rfl, hb⟩; have H9 : Hid (Sm w w1 x0 x1 x2 x3 x4 x5 x6 x7 x8 x9 x10 x11 x12 x13 x14 x15 x16 x17 x18 x19 x20 x21 x22 x23 x26 x29 x30 x31 x32 L24 L25 L27 L28 L33 a24 c24 a25 c25 a27 c27 a28 c28 a33 c33) := H0.out.below hb; clear hb  H0 m28 m7 m33; have H0 := H9; clear H9; have m28 := H0.out.2.1.cell 28; have m7 := H0.out.2.1.cell 7; have m33 := H0.out.2.1.cell 33) | (go_at_call 65; refine (HK _ H0.out.2.2.2.2.2.2).mono ?_; rintro e' w1 ⟨rfl, hw⟩; subst w1))
                    go_ret
                    exact ⟨rfl, H0.out.1.out⟩
                · have s2 : (x30 == x13) = false := by simpa using t
                  have r2 : (x30 != x13) = true := by rw [bne, s2]; rfl
                  obtain rfl : B = false := by
                    cases B with
                    | false => rfl
                    | true =>
                      have h := HB.out.1 rfl
                      exact (t h.2.2.2.2.2.2.2.1).elim
                  go_wp2_with (go_big_may; first | (go_at_call 61; refine (HU _).mono ?_; rintro e' w1 ⟨rfl, hb⟩; have H9 : Hid (Sm w w1 x0 x1 x2 x3 x4 x5 x6 x7 x8 x9 x10 x11 x12 x13 x14 x15 x16 x17 x18 x19 x20 x21 x22 x23 x26 x29 x30 x31 x32 L24 L25 L27 L28 L33 a24 c24 a25 c25 a27 c27 a28 c28 a33 c33) := H0.out.below hb; clear hb  H0 m29 m30 m31 m32 m12 m13; have H0 := H9; clear H9; have m29 := H0.out.2.1.cell 29; have m30 := H0.out.2.1.cell 30; have m31 := H0.out.2.1.cell 31; have m32 := H0.out.2.1.cell 32; have m12 := H0.out.2.1.cell 12; have m13 := H0.out.2.1.cell 13))
                  go_ret
                  exact ⟨rfl, H0.out.1.out⟩
              · have s1 : (x29 == x12) = false := by simpa using t
                have r1 : (x29 != x12) = true := by rw [bne, s1]; rfl
                obtain rfl : B = false := by
                  cases B with
                  | false => rfl
                  | true =>
                    have h := HB.out.1 rfl
                    exact (t h.2.2.2.2.2.2.1).elim
                go_wp2_with (go_big_may; first | (go_at_call 61; refine (HU _).mono ?_; rintro e' w1 ⟨rfl, hb⟩; have H9 : Hid (Sm w w1 x0 x1 x2 x3 x4 x5 x6 x7 x8 x9 x10 x11 x12 x13 x14 x15 x16 x17 x18 x19 x20 x21 x22 x23 x26 x29 x30 x31 x32 L24 L25 L27 L28 L33 a24 c24 a25 c25 a27 c27 a28 c28 a33 c33) := H0.out.below hb; clear hb  H0 m29 m30 m31 m32 m12 m13; have H0 := H9; clear H9; have m29 := H0.out.2.1.cell 29; have m30 := H0.out.2.1.cell 30; have m31 := H0.out.2.1.cell 31; have m32 := H0.out.2.1.cell 32; have m12 := H0.out.2.1.cell 12; have m13 := H0.out.2.1.cell 13))
                go_ret
                exact ⟨rfl, H0.out.1.out⟩
          · have s0 : (x26 == x8) = false := by simpa using t
            have r0 : (x26 != x8) = true := by rw [bne, s0]; rfl
            obtain rfl : B = false := by
              cases B with
              | false => rfl
              | true =>
                have h := HB.out.1 rfl
                exact (t h.2.2.2.2.1).elim
            go_wp2_with (go_big_may; first | (go_at_call 60; refine (HQ _ H0.out.2.2.2.2.1).mono ?_; rintro e' w1 ⟨rfl, hb⟩; have H9 : Hid (Sm w w1 x0 x1 x2 x3 x4 x5 x6 x7 x8 x9 x10 x11 x12 x13 x14 x15 x16 x17 x18 x19 x20 x21 x22 x23 x26 x29 x30 x31 x32 L24 L25 L27 L28 L33 a24 c24 a25 c25 a27 c27 a28 c28 a33 c33) := H0.out.below hb; clear hb  H0 m26 m27 m8; have H0 := H9; clear H9; have m26 := H0.out.2.1.cell 26; have m27 := H0.out.2.1.cell 27; have m8 := H0.out.2.1.cell 8))
            go_ret
            exact ⟨rfl, H0.out.1.out⟩
end Go.Proofs.YtnabnghjejncpaaGreat.AdmPartI
