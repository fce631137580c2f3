/- Whether a machine is right, by the model; nothing that was there turns. -/
import Derived.Test.YtnabnghjejncpaaGreatRows
import Derived.WalkKit
import Derived.WalkSmall
import Derived.BigQuiet
import Derived.Deep.RegionWith
import Derived.Deep.DeepCutAuto
import Derived.Test.YtnabnghjejncpaaGreatListKit
import Derived.Test.YtnabnghjejncpaaGreatHoldKit
import Derived.Test.YtnabnghjejncpaaGreatNearKit
import Derived.Test.YtnabnghjejncpaaGreatBigBox
import Derived.Test.YtnabnghjejncpaaGreatAdmOkP
import Derived.Test.YtnabnghjejncpaaGreatAdmPartS
import Derived.Test.YtnabnghjejncpaaGreatAdmKnownS
import Derived.Test.YtnabnghjejncpaaGreatAdmSmallS
import Derived.Test.YtnabnghjejncpaaGreatQueAll
namespace Go.Proofs.YtnabnghjejncpaaGreat.AdmOkS
open Go.RowKit ListKit HoldKit NearKit AdmPartP AdmKnownP AdmOkP
open AdmPartS (flag)
set_option maxRecDepth 8000
set_option linter.unusedVariables false
set_option linter.unusedSimpArgs false

/-- What stands while a machine is asked. -/
def Sm (w W : World) (x0 x1 x2 x3 x4 x5 x6 x7 x8 x9 x10 x11 x12 x13 x14 x15 x16 x17 x18 x19 x20 x21 x22 x23 x26 x29 x30 x31 x32 : Int) (L24 : List SampleKit.Sample) (L25 : List SlotKit.Slot) (L27 : List ReqKit.Req) (L28 : List CodelKit.Codel) (L33 : List Int) (a24 : Option Addr) (c24 : Nat) (a25 : Option Addr) (c25 : Nat) (a27 : Option Addr) (c27 : Nat) (a28 : Option Addr) (c28 : Nat) (a33 : Option Addr) (c33 : Nat) : Prop := Bel w W ∧ boxB W w.heap.size #[.int .i64 x0, .int .i64 x1, .int .i64 x2, .int .i64 x3, .int .i64 x4, .int .i64 x5, .int .i64 x6, .int .i64 x7, .int .i64 x8, .int .i64 x9, .int .i64 x10, .int .i64 x11, .int .i64 x12, .int .i64 x13, .int .i64 x14, .int .i64 x15, .int .i64 x16, .int .i64 x17, .int .i64 x18, .int .i64 x19, .int .i64 x20, .int .i64 x21, .int .i64 x22, .int .i64 x23, .slice a24 L24.length c24, .slice a25 L25.length c25, .int .i64 x26, .slice a27 L27.length c27, .slice a28 L28.length c28, .int .i64 x29, .int .i64 x30, .int .i64 x31, .int .i64 x32, .slice a33 L33.length c33] 62 ∧ Own 155 2 SampleKit.cells W a24 L24 ∧ Own 75 5 SlotKit.cells W a25 L25 ∧ Own 72 6 ReqKit.cells W a27 L27 ∧ Own 106 6 CodelKit.cells W a28 L28 ∧ Own 3 1 IntKit.cells W a33 L33
theorem Sm.below {w W W2 : World} {x0 x1 x2 x3 x4 x5 x6 x7 x8 x9 x10 x11 x12 x13 x14 x15 x16 x17 x18 x19 x20 x21 x22 x23 x26 x29 x30 x31 x32 : Int} {L24 : List SampleKit.Sample} {L25 : List SlotKit.Slot} {L27 : List ReqKit.Req} {L28 : List CodelKit.Codel} {L33 : List Int} {a24 : Option Addr} {c24 : Nat} {a25 : Option Addr} {c25 : Nat} {a27 : Option Addr} {c27 : Nat} {a28 : Option Addr} {c28 : Nat} {a33 : Option Addr} {c33 : Nat} (h : Sm w W x0 x1 x2 x3 x4 x5 x6 x7 x8 x9 x10 x11 x12 x13 x14 x15 x16 x17 x18 x19 x20 x21 x22 x23 x26 x29 x30 x31 x32 L24 L25 L27 L28 L33 a24 c24 a25 c25 a27 c27 a28 c28 a33 c33) (hb : Below W.heap.size W W2) : Sm w W2 x0 x1 x2 x3 x4 x5 x6 x7 x8 x9 x10 x11 x12 x13 x14 x15 x16 x17 x18 x19 x20 x21 x22 x23 x26 x29 x30 x31 x32 L24 L25 L27 L28 L33 a24 c24 a25 c25 a27 c27 a28 c28 a33 c33 :=
  ⟨Bel.below h.1 hb, h.2.1.below hb, h.2.2.1.below hb, h.2.2.2.1.below hb, h.2.2.2.2.1.below hb, h.2.2.2.2.2.1.below hb, h.2.2.2.2.2.2.below hb⟩
set_option maxHeartbeats 16000000 in
theorem spec_admok (x0 x1 x2 x3 x4 x5 x6 x7 x8 x9 x10 x11 x12 x13 x14 x15 x16 x17 x18 x19 x20 x21 x22 x23 x26 x29 x30 x31 x32 : Int) (L24 : List SampleKit.Sample) (L25 : List SlotKit.Slot) (L27 : List ReqKit.Req) (L28 : List CodelKit.Codel) (L33 : List Int) (a24 : Option Addr) (c24 : Nat) (a25 : Option Addr) (c25 : Nat) (a27 : Option Addr) (c27 : Nat) (a28 : Option Addr) (c28 : Nat) (a33 : Option Addr) (c33 : Nat) (B : Bool) (w : World) (h24 : Own 155 2 SampleKit.cells w a24 L24) (h25 : Own 75 5 SlotKit.cells w a25 L25) (h27 : Own 72 6 ReqKit.cells w a27 L27) (h28 : Own 106 6 CodelKit.cells w a28 L28) (h33 : Own 3 1 IntKit.cells w a33 L33) (l24 : L24.length ≤ 1048576) (l25 : L25.length ≤ 1048576) (l27 : L27.length ≤ 1048576) (l28 : L28.length ≤ 1048576) (l33 : L33.length ≤ 1048576) (q25 : L25.length ≤ c25) (q27 : L27.length ≤ c27) (HB : Hid (B = true ↔ admOk x0 x1 x2 x3 x4 x5 x6 x7 x8 x9 x10 x11 x12 x13 x14 x15 x16 x17 x18 x19 x20 x21 x22 x23 x26 x29 x30 x31 x32 L24 L25 L27 L28 L33)) :
    Calls Tryz.prog 5 #[.agg #[.int .i64 x0, .int .i64 x1, .int .i64 x2, .int .i64 x3, .int .i64 x4, .int .i64 x5, .int .i64 x6, .int .i64 x7, .int .i64 x8, .int .i64 x9, .int .i64 x10, .int .i64 x11, .int .i64 x12, .int .i64 x13, .int .i64 x14, .int .i64 x15, .int .i64 x16, .int .i64 x17, .int .i64 x18, .int .i64 x19, .int .i64 x20, .int .i64 x21, .int .i64 x22, .int .i64 x23, .slice a24 L24.length c24, .slice a25 L25.length c25, .int .i64 x26, .slice a27 L27.length c27, .slice a28 L28.length c28, .int .i64 x29, .int .i64 x30, .int .i64 x31, .int .i64 x32, .slice a33 L33.length c33]] w fun e w' => e = .returned (.bool B) ∧ Below w.heap.size w w' := by
  obtain ⟨b1, P1⟩ := flag (partsOk x0 x1 x2 x3 x4 x5 x6 x7 x8 x9 x10 x11 x12 x13 x14 x15 x16 x17 x18 x19 x20 x21 x22 x23 x26 x29 x30 x31 x32 L24 L25 L27 L28)
  obtain ⟨b2, P2⟩ := flag (knownOk L33)
  have HP := fun W h24 h25 h27 h28 => AdmPartS.spec_parts x0 x1 x2 x3 x4 x5 x6 x7 x8 x9 x10 x11 x12 x13 x14 x15 x16 x17 x18 x19 x20 x21 x22 x23 x26 x29 x30 x31 x32 L24 L25 L27 L28 a24 c24 a25 c25 a27 c27 a28 c28 (.slice a33 L33.length c33) b1 W h24 h25 h27 h28 l24 l25 l27 l28 q25 q27 P1
  obtain ⟨vs, hvs⟩ : ∃ vs : List Value, vs = [.int .i64 x0, .int .i64 x1, .int .i64 x2, .int .i64 x3, .int .i64 x4, .int .i64 x5, .int .i64 x6, .int .i64 x7, .int .i64 x8, .int .i64 x9, .int .i64 x10, .int .i64 x11, .int .i64 x12, .int .i64 x13, .int .i64 x14, .int .i64 x15, .int .i64 x16, .int .i64 x17, .int .i64 x18, .int .i64 x19, .int .i64 x20, .int .i64 x21, .int .i64 x22, .int .i64 x23, .slice a24 L24.length c24, .slice a25 L25.length c25, .int .i64 x26, .slice a27 L27.length c27, .slice a28 L28.length c28, .int .i64 x29, .int .i64 x30, .int .i64 x31, .int .i64 x32, .slice a33 L33.length c33] := ⟨_, rfl⟩
  have e33 : vs[33]? = some (.slice a33 L33.length c33) := by rw [hvs]; rfl
  have HK := fun W h => AdmKnownS.spec_known vs a33 c33 L33 b2 W e33 h (by omega) P2
  have HW := fun x b W h hb => AdmSmallS.spec_knows vs a33 c33 L33 x b W e33 h (by omega) hb
  rw [hvs] at HK
  simp only [hvs] at HW
  clear e33 hvs vs
  have H0 : Hid (Sm w (w.alloc (.cells #[.int .i64 x0, .int .i64 x1, .int .i64 x2, .int .i64 x3, .int .i64 x4, .int .i64 x5, .int .i64 x6, .int .i64 x7, .int .i64 x8, .int .i64 x9, .int .i64 x10, .int .i64 x11, .int .i64 x12, .int .i64 x13, .int .i64 x14, .int .i64 x15, .int .i64 x16, .int .i64 x17, .int .i64 x18, .int .i64 x19, .int .i64 x20, .int .i64 x21, .int .i64 x22, .int .i64 x23, .slice a24 L24.length c24, .slice a25 L25.length c25, .int .i64 x26, .slice a27 L27.length c27, .slice a28 L28.length c28, .int .i64 x29, .int .i64 x30, .int .i64 x31, .int .i64 x32, .slice a33 L33.length c33] 62)) x0 x1 x2 x3 x4 x5 x6 x7 x8 x9 x10 x11 x12 x13 x14 x15 x16 x17 x18 x19 x20 x21 x22 x23 x26 x29 x30 x31 x32 L24 L25 L27 L28 L33 a24 c24 a25 c25 a27 c27 a28 c28 a33 c33) := ⟨n1 w _, boxB.new w _ _, h24.below (n1 w _), h25.below (n1 w _), h27.below (n1 w _), h28.below (n1 w _), h33.below (n1 w _)⟩
  have R0 : Hid ((w.alloc (.cells #[.int .i64 x0, .int .i64 x1, .int .i64 x2, .int .i64 x3, .int .i64 x4, .int .i64 x5, .int .i64 x6, .int .i64 x7, .int .i64 x8, .int .i64 x9, .int .i64 x10, .int .i64 x11, .int .i64 x12, .int .i64 x13, .int .i64 x14, .int .i64 x15, .int .i64 x16, .int .i64 x17, .int .i64 x18, .int .i64 x19, .int .i64 x20, .int .i64 x21, .int .i64 x22, .int .i64 x23, .slice a24 L24.length c24, .slice a25 L25.length c25, .int .i64 x26, .slice a27 L27.length c27, .slice a28 L28.length c28, .int .i64 x29, .int .i64 x30, .int .i64 x31, .int .i64 x32, .slice a33 L33.length c33] 62)).rangeAt w.heap.size 0 [.int .i64 x0, .int .i64 x1, .int .i64 x2, .int .i64 x3, .int .i64 x4, .int .i64 x5, .int .i64 x6, .int .i64 x7, .int .i64 x8, .int .i64 x9, .int .i64 x10, .int .i64 x11, .int .i64 x12, .int .i64 x13, .int .i64 x14, .int .i64 x15, .int .i64 x16, .int .i64 x17, .int .i64 x18, .int .i64 x19, .int .i64 x20, .int .i64 x21, .int .i64 x22, .int .i64 x23, .slice a24 L24.length c24, .slice a25 L25.length c25, .int .i64 x26, .slice a27 L27.length c27, .slice a28 L28.length c28, .int .i64 x29, .int .i64 x30, .int .i64 x31, .int .i64 x32, .slice a33 L33.length c33]) := BigBox.range_of_box H0.out.2.1 0 _ rfl
  have hi_ : Hid ((Tryz.prog.info? 62).map (·.size) = some 34) := by show _ = _; kernel_rfl
  clear h24 h25 h27 h28 h33
  go_enter Tryz.func5, Tryz.ntmps5
  go_upto_region 1 with fail
  generalize w.alloc (.cells #[.int .i64 x0, .int .i64 x1, .int .i64 x2, .int .i64 x3, .int .i64 x4, .int .i64 x5, .int .i64 x6, .int .i64 x7, .int .i64 x8, .int .i64 x9, .int .i64 x10, .int .i64 x11, .int .i64 x12, .int .i64 x13, .int .i64 x14, .int .i64 x15, .int .i64 x16, .int .i64 x17, .int .i64 x18, .int .i64 x19, .int .i64 x20, .int .i64 x21, .int .i64 x22, .int .i64 x23, .slice a24 L24.length c24, .slice a25 L25.length c25, .int .i64 x26, .slice a27 L27.length c27, .slice a28 L28.length c28, .int .i64 x29, .int .i64 x30, .int .i64 x31, .int .i64 x32, .slice a33 L33.length c33] 62) = v0 at *
  have R0 : Hid ((v0).rangeAt w.heap.size 0 [.int .i64 x0, .int .i64 x1, .int .i64 x2, .int .i64 x3, .int .i64 x4, .int .i64 x5, .int .i64 x6, .int .i64 x7, .int .i64 x8, .int .i64 x9, .int .i64 x10, .int .i64 x11, .int .i64 x12, .int .i64 x13, .int .i64 x14, .int .i64 x15, .int .i64 x16, .int .i64 x17, .int .i64 x18, .int .i64 x19, .int .i64 x20, .int .i64 x21, .int .i64 x22, .int .i64 x23, .slice a24 L24.length c24, .slice a25 L25.length c25, .int .i64 x26, .slice a27 L27.length c27, .slice a28 L28.length c28, .int .i64 x29, .int .i64 x30, .int .i64 x31, .int .i64 x32, .slice a33 L33.length c33]) := BigBox.range_of_box H0.out.2.1 0 _ rfl
  cases b1 with
  | false =>
    obtain rfl : B = false := by
      cases B with
      | false => rfl
      | true =>
        have h := HB.out.1 rfl
        have := P1.out.2 h.1; cases this
    go_wp2_with (go_big_may; first | (refine wpList_load_mid rfl 62 _ rfl w.heap.size 0 rfl [.int .i64 x0, .int .i64 x1, .int .i64 x2, .int .i64 x3, .int .i64 x4, .int .i64 x5, .int .i64 x6, .int .i64 x7, .int .i64 x8, .int .i64 x9, .int .i64 x10, .int .i64 x11, .int .i64 x12, .int .i64 x13, .int .i64 x14, .int .i64 x15, .int .i64 x16, .int .i64 x17, .int .i64 x18, .int .i64 x19, .int .i64 x20, .int .i64 x21, .int .i64 x22, .int .i64 x23, .slice a24 L24.length c24, .slice a25 L25.length c25, .int .i64 x26, .slice a27 L27.length c27, .slice a28 L28.length c28, .int .i64 x29, .int .i64 x30, .int .i64 x31, .int .i64 x32, .slice a33 L33.length c33] _ R0.out Tryz.underlying62 rfl hi_.out ?_) | (refine BigBox.wpList_load_want (by rfl) 62 _ rfl w.heap.size 0 rfl [.int .i64 x0, .int .i64 x1, .int .i64 x2, .int .i64 x3, .int .i64 x4, .int .i64 x5, .int .i64 x6, .int .i64 x7, .int .i64 x8, .int .i64 x9, .int .i64 x10, .int .i64 x11, .int .i64 x12, .int .i64 x13, .int .i64 x14, .int .i64 x15, .int .i64 x16, .int .i64 x17, .int .i64 x18, .int .i64 x19, .int .i64 x20, .int .i64 x21, .int .i64 x22, .int .i64 x23, .slice a24 L24.length c24, .slice a25 L25.length c25, .int .i64 x26, .slice a27 L27.length c27, .slice a28 L28.length c28, .int .i64 x29, .int .i64 x30, .int .i64 x31, .int .i64 x32, .slice a33 L33.length c33] _ R0.out Tryz.underlying62 rfl hi_.out ?_) | (go_at_call 14; refine (HP _ H0.out.2.2.1 H0.out.2.2.2.1 H0.out.2.2.2.2.1 H0.out.2.2.2.2.2.1).mono ?_; rintro e' w1 ⟨rfl, hb⟩; have H9 : Hid (Sm w w1 x0 x1 x2 x3 x4 x5 x6 x7 x8 x9 x10 x11 x12 x13 x14 x15 x16 x17 x18 x19 x20 x21 x22 x23 x26 x29 x30 x31 x32 L24 L25 L27 L28 L33 a24 c24 a25 c25 a27 c27 a28 c28 a33 c33) := H0.out.below hb; clear hb H0 R0; have H0 := H9; clear H9; have R0 : Hid ((w1).rangeAt w.heap.size 0 [.int .i64 x0, .int .i64 x1, .int .i64 x2, .int .i64 x3, .int .i64 x4, .int .i64 x5, .int .i64 x6, .int .i64 x7, .int .i64 x8, .int .i64 x9, .int .i64 x10, .int .i64 x11, .int .i64 x12, .int .i64 x13, .int .i64 x14, .int .i64 x15, .int .i64 x16, .int .i64 x17, .int .i64 x18, .int .i64 x19, .int .i64 x20, .int .i64 x21, .int .i64 x22, .int .i64 x23, .slice a24 L24.length c24, .slice a25 L25.length c25, .int .i64 x26, .slice a27 L27.length c27, .slice a28 L28.length c28, .int .i64 x29, .int .i64 x30, .int .i64 x31, .int .i64 x32, .slice a33 L33.length c33]) := BigBox.range_of_box H0.out.2.1 0 _ rfl) | (go_at_call 15; refine (HK _ H0.out.2.2.2.2.2.2).mono ?_; rintro e' w2 ⟨rfl, hb⟩; have H9 : Hid (Sm w w2 x0 x1 x2 x3 x4 x5 x6 x7 x8 x9 x10 x11 x12 x13 x14 x15 x16 x17 x18 x19 x20 x21 x22 x23 x26 x29 x30 x31 x32 L24 L25 L27 L28 L33 a24 c24 a25 c25 a27 c27 a28 c28 a33 c33) := H0.out.below hb; clear hb H0 R0; have H0 := H9; clear H9; have R0 : Hid ((w2).rangeAt w.heap.size 0 [.int .i64 x0, .int .i64 x1, .int .i64 x2, .int .i64 x3, .int .i64 x4, .int .i64 x5, .int .i64 x6, .int .i64 x7, .int .i64 x8, .int .i64 x9, .int .i64 x10, .int .i64 x11, .int .i64 x12, .int .i64 x13, .int .i64 x14, .int .i64 x15, .int .i64 x16, .int .i64 x17, .int .i64 x18, .int .i64 x19, .int .i64 x20, .int .i64 x21, .int .i64 x22, .int .i64 x23, .slice a24 L24.length c24, .slice a25 L25.length c25, .int .i64 x26, .slice a27 L27.length c27, .slice a28 L28.length c28, .int .i64 x29, .int .i64 x30, .int .i64 x31, .int .i64 x32, .slice a33 L33.length c33]) := BigBox.range_of_box H0.out.2.1 0 _ rfl))
    go_ret
    exact ⟨rfl, H0.out.1.out⟩
  | true =>
    cases b2 with
    | false =>
      obtain rfl : B = false := by
        cases B with
        | false => rfl
        | true =>
          have h := HB.out.1 rfl
          have := P2.out.2 h.2.1; cases this
      go_wp2_with (go_big_may; first | (refine wpList_load_mid rfl 62 _ rfl w.heap.size 0 rfl [.int .i64 x0, .int .i64 x1, .int .i64 x2, .int .i64 x3, .int .i64 x4, .int .i64 x5, .int .i64 x6, .int .i64 x7, .int .i64 x8, .int .i64 x9, .int .i64 x10, .int .i64 x11, .int .i64 x12, .int .i64 x13, .int .i64 x14, .int .i64 x15, .int .i64 x16, .int .i64 x17, .int .i64 x18, .int .i64 x19, .int .i64 x20, .int .i64 x21, .int .i64 x22, .int .i64 x23, .slice a24 L24.length c24, .slice a25 L25.length c25, .int .i64 x26, .slice a27 L27.length c27, .slice a28 L28.length c28, .int .i64 x29, .int .i64 x30, .int .i64 x31, .int .i64 x32, .slice a33 L33.length c33] _ R0.out Tryz.underlying62 rfl hi_.out ?_) | (refine BigBox.wpList_load_want (by rfl) 62 _ rfl w.heap.size 0 rfl [.int .i64 x0, .int .i64 x1, .int .i64 x2, .int .i64 x3, .int .i64 x4, .int .i64 x5, .int .i64 x6, .int .i64 x7, .int .i64 x8, .int .i64 x9, .int .i64 x10, .int .i64 x11, .int .i64 x12, .int .i64 x13, .int .i64 x14, .int .i64 x15, .int .i64 x16, .int .i64 x17, .int .i64 x18, .int .i64 x19, .int .i64 x20, .int .i64 x21, .int .i64 x22, .int .i64 x23, .slice a24 L24.length c24, .slice a25 L25.length c25, .int .i64 x26, .slice a27 L27.length c27, .slice a28 L28.length c28, .int .i64 x29, .int .i64 x30, .int .i64 x31, .int .i64 x32, .slice a33 L33.length c33] _ R0.out Tryz.underlying62 rfl hi_.out ?_) | (go_at_call 14; refine (HP _ H0.out.2.2.1 H0.out.2.2.2.1 H0.out.2.2.2.2.1 H0.out.2.2.2.2.2.1).mono ?_; rintro e' w1 ⟨rfl, hb⟩; have H9 : Hid (Sm w w1 x0 x1 x2 x3 x4 x5 x6 x7 x8 x9 x10 x11 x12 x13 x14 x15 x16 x17 x18 x19 x20 x21 x22 x23 x26 x29 x30 x31 x32 L24 L25 L27 L28 L33 a24 c24 a25 c25 a27 c27 a28 c28 a33 c33) := H0.out.below hb; clear hb H0 R0; have H0 := H9; clear H9; have R0 : Hid ((w1).rangeAt w.heap.size 0 [.int .i64 x0, .int .i64 x1, .int .i64 x2, .int .i64 x3, .int .i64 x4, .int .i64 x5, .int .i64 x6, .int .i64 x7, .int .i64 x8, .int .i64 x9, .int .i64 x10, .int .i64 x11, .int .i64 x12, .int .i64 x13, .int .i64 x14, .int .i64 x15, .int .i64 x16, .int .i64 x17, .int .i64 x18, .int .i64 x19, .int .i64 x20, .int .i64 x21, .int .i64 x22, .int .i64 x23, .slice a24 L24.length c24, .slice a25 L25.length c25, .int .i64 x26, .slice a27 L27.length c27, .slice a28 L28.length c28, .int .i64 x29, .int .i64 x30, .int .i64 x31, .int .i64 x32, .slice a33 L33.length c33]) := BigBox.range_of_box H0.out.2.1 0 _ rfl) | (go_at_call 15; refine (HK _ H0.out.2.2.2.2.2.2).mono ?_; rintro e' w2 ⟨rfl, hb⟩; have H9 : Hid (Sm w w2 x0 x1 x2 x3 x4 x5 x6 x7 x8 x9 x10 x11 x12 x13 x14 x15 x16 x17 x18 x19 x20 x21 x22 x23 x26 x29 x30 x31 x32 L24 L25 L27 L28 L33 a24 c24 a25 c25 a27 c27 a28 c28 a33 c33) := H0.out.below hb; clear hb H0 R0; have H0 := H9; clear H9; have R0 : Hid ((w2).rangeAt w.heap.size 0 [.int .i64 x0, .int .i64 x1, .int .i64 x2, .int .i64 x3, .int .i64 x4, .int .i64 x5, .int .i64 x6, .int .i64 x7, .int .i64 x8, .int .i64 x9, .int .i64 x10, .int .i64 x11, .int .i64 x12, .int .i64 x13, .int .i64 x14, .int .i64 x15, .int .i64 x16, .int .i64 x17, .int .i64 x18, .int .i64 x19, .int .i64 x20, .int .i64 x21, .int .i64 x22, .int .i64 x23, .slice a24 L24.length c24, .slice a25 L25.length c25, .int .i64 x26, .slice a27 L27.length c27, .slice a28 L28.length c28, .int .i64 x29, .int .i64 x30, .int .i64 x31, .int .i64 x32, .slice a33 L33.length c33]) := BigBox.range_of_box H0.out.2.1 0 _ rfl))
      go_ret
      exact ⟨rfl, H0.out.1.out⟩
    | true =>
      go_upto_region 3 with (go_big_may; first | (refine wpList_load_mid rfl 62 _ rfl w.heap.size 0 rfl [.int .i64 x0, .int .i64 x1, .int .i64 x2, .int .i64 x3, .int .i64 x4, .int .i64 x5, .int .i64 x6, .int .i64 x7, .int .i64 x8, .int .i64 x9, .int .i64 x10, .int .i64 x11, .int .i64 x12, .int .i64 x13, .int .i64 x14, .int .i64 x15, .int .i64 x16, .int .i64 x17, .int .i64 x18, .int .i64 x19, .int .i64 x20, .int .i64 x21, .int .i64 x22, .int .i64 x23, .slice a24 L24.length c24, .slice a25 L25.length c25, .int .i64 x26, .slice a27 L27.length c27, .slice a28 L28.length c28, .int .i64 x29, .int .i64 x30, .int .i64 x31, .int .i64 x32, .slice a33 L33.length c33] _ R0.out Tryz.underlying62 rfl hi_.out ?_) | (refine BigBox.wpList_load_want (by rfl) 62 _ rfl w.heap.size 0 rfl [.int .i64 x0, .int .i64 x1, .int .i64 x2, .int .i64 x3, .int .i64 x4, .int .i64 x5, .int .i64 x6, .int .i64 x7, .int .i64 x8, .int .i64 x9, .int .i64 x10, .int .i64 x11, .int .i64 x12, .int .i64 x13, .int .i64 x14, .int .i64 x15, .int .i64 x16, .int .i64 x17, .int .i64 x18, .int .i64 x19, .int .i64 x20, .int .i64 x21, .int .i64 x22, .int .i64 x23, .slice a24 L24.length c24, .slice a25 L25.length c25, .int .i64 x26, .slice a27 L27.length c27, .slice a28 L28.length c28, .int .i64 x29, .int .i64 x30, .int .i64 x31, .int .i64 x32, .slice a33 L33.length c33] _ R0.out Tryz.underlying62 rfl hi_.out ?_) | (go_at_call 14; refine (HP _ H0.out.2.2.1 H0.out.2.2.2.1 H0.out.2.2.2.2.1 H0.out.2.2.2.2.2.1).mono ?_; rintro e' w1 ⟨rfl, hb⟩; have H9 : Hid (Sm w w1 x0 x1 x2 x3 x4 x5 x6 x7 x8 x9 x10 x11 x12 x13 x14 x15 x16 x17 x18 x19 x20 x21 x22 x23 x26 x29 x30 x31 x32 L24 L25 L27 L28 L33 a24 c24 a25 c25 a27 c27 a28 c28 a33 c33) := H0.out.below hb; clear hb H0 R0; have H0 := H9; clear H9; have R0 : Hid ((w1).rangeAt w.heap.size 0 [.int .i64 x0, .int .i64 x1, .int .i64 x2, .int .i64 x3, .int .i64 x4, .int .i64 x5, .int .i64 x6, .int .i64 x7, .int .i64 x8, .int .i64 x9, .int .i64 x10, .int .i64 x11, .int .i64 x12, .int .i64 x13, .int .i64 x14, .int .i64 x15, .int .i64 x16, .int .i64 x17, .int .i64 x18, .int .i64 x19, .int .i64 x20, .int .i64 x21, .int .i64 x22, .int .i64 x23, .slice a24 L24.length c24, .slice a25 L25.length c25, .int .i64 x26, .slice a27 L27.length c27, .slice a28 L28.length c28, .int .i64 x29, .int .i64 x30, .int .i64 x31, .int .i64 x32, .slice a33 L33.length c33]) := BigBox.range_of_box H0.out.2.1 0 _ rfl) | (go_at_call 15; refine (HK _ H0.out.2.2.2.2.2.2).mono ?_; rintro e' w2 ⟨rfl, hb⟩; have H9 : Hid (Sm w w2 x0 x1 x2 x3 x4 x5 x6 x7 x8 x9 x10 x11 x12 x13 x14 x15 x16 x17 x18 x19 x20 x21 x22 x23 x26 x29 x30 x31 x32 L24 L25 L27 L28 L33 a24 c24 a25 c25 a27 c27 a28 c28 a33 c33) := H0.out.below hb; clear hb H0 R0; have H0 := H9; clear H9; have R0 : Hid ((w2).rangeAt w.heap.size 0 [.int .i64 x0, .int .i64 x1, .int .i64 x2, .int .i64 x3, .int .i64 x4, .int .i64 x5, .int .i64 x6, .int .i64 x7, .int .i64 x8, .int .i64 x9, .int .i64 x10, .int .i64 x11, .int .i64 x12, .int .i64 x13, .int .i64 x14, .int .i64 x15, .int .i64 x16, .int .i64 x17, .int .i64 x18, .int .i64 x19, .int .i64 x20, .int .i64 x21, .int .i64 x22, .int .i64 x23, .slice a24 L24.length c24, .slice a25 L25.length c25, .int .i64 x26, .slice a27 L27.length c27, .slice a28 L28.length c28, .int .i64 x29, .int .i64 x30, .int .i64 x31, .int .i64 x32, .slice a33 L33.length c33]) := BigBox.range_of_box H0.out.2.1 0 _ rfl))
      clear R0 HP HK
      have m27 := H0.out.2.1.cell 27
      go_upto_region 4 with fail
      clear m27
      go_loopw [4, 19] (fun t4 i wr => ∃ k : Nat, k ≤ L27.length ∧ i = .int .i64 (k : Int) ∧ Hid (∀ (j : Nat) (h : j < L27.length), j < k → waitOk x7 x14 L33 L27[j]) ∧ Hid (Sm w wr x0 x1 x2 x3 x4 x5 x6 x7 x8 x9 x10 x11 x12 x13 x14 x15 x16 x17 x18 x19 x20 x21 x22 x23 x26 x29 x30 x31 x32 L24 L25 L27 L28 L33 a24 c24 a25 c25 a27 c27 a28 c28 a33 c33)) (fun _ i _ => L27.length - (intOf i).toNat)
      case atStart => exact ⟨0, by omega, rfl, fun j _ hj => by omega, H0⟩
      case round =>
        clear H0
        obtain ⟨k, hk, rfl, HKK, HWR⟩ := hrel
        by_cases hlt : k < L27.length
        · rcases HWR.out.2.2.2.2.1 with hnil | ⟨g, o, rfl, hr⟩
          · rw [hnil] at hlt; simp at hlt
          · obtain ⟨sx, hsx⟩ : ∃ s, L27[k] = s := ⟨_, rfl⟩
            obtain ⟨y0, y1, y2, y3, y4, y5⟩ := sx
            have u9 := fun j hj => hr.cell k hlt j hj
            have p0 : wr.cell? ⟨g, o + k * 6, none⟩ = some (.int .i64 y0) := by have h9 := u9 0 (by omega); rw [hsx] at h9; exact h9
            have p1 : wr.cell? ⟨g, o + k * 6 + 1, none⟩ = some (.int .i64 y1) := by have h9 := u9 1 (by omega); rw [hsx] at h9; exact h9
            have p2 : wr.cell? ⟨g, o + k * 6 + 2, none⟩ = some (.int .i64 y2) := by have h9 := u9 2 (by omega); rw [hsx] at h9; exact h9
            have p3 : wr.cell? ⟨g, o + k * 6 + 3, none⟩ = some (.int .i64 y3) := by have h9 := u9 3 (by omega); rw [hsx] at h9; exact h9
            have p4 : wr.cell? ⟨g, o + k * 6 + 4, none⟩ = some (.int .i64 y4) := by have h9 := u9 4 (by omega); rw [hsx] at h9; exact h9
            have p5 : wr.cell? ⟨g, o + k * 6 + 5, none⟩ = some (.int .i64 y5) := by have h9 := u9 5 (by omega); rw [hsx] at h9; exact h9
            clear u9 hr
            have h0k : (0 : Int) ≤ (k : Int) := by omega
            have hkl : (k : Int) < (L27.length : Int) := by omega
            have wk : IntKind.i64.wrap ((k : Int) + 1) = ((k + 1 : Nat) : Int) := by rw [IntKind.wrap_i64]; omega
            have HX : Hid (L27[k] = ⟨y0, y1, y2, y3, y4, y5⟩) := hsx
            obtain ⟨b3, P3⟩ := flag (y0 ∈ L33)
            have HKN := fun W h => HW y0 b3 W h P3
            have H0 : Hid (Sm w (wr.alloc (.cells #[.int .i64 y0, .int .i64 y1, .int .i64 y2, .int .i64 y3, .int .i64 y4, .int .i64 y5] 72)) x0 x1 x2 x3 x4 x5 x6 x7 x8 x9 x10 x11 x12 x13 x14 x15 x16 x17 x18 x19 x20 x21 x22 x23 x26 x29 x30 x31 x32 L24 L25 L27 L28 L33 a24 c24 a25 c25 (some ⟨g, o, none⟩) c27 a28 c28 a33 c33 ∧ boxB (wr.alloc (.cells #[.int .i64 y0, .int .i64 y1, .int .i64 y2, .int .i64 y3, .int .i64 y4, .int .i64 y5] 72)) wr.heap.size #[.int .i64 y0, .int .i64 y1, .int .i64 y2, .int .i64 y3, .int .i64 y4, .int .i64 y5] 72) := ⟨HWR.out.below (n1 _ _), boxB.new _ _ _⟩
            clear hsx
            go_upto_region 6 with fail
            generalize wr.alloc (.cells #[.int .i64 y0, .int .i64 y1, .int .i64 y2, .int .i64 y3, .int .i64 y4, .int .i64 y5] 72) = v6 at *
            clear HWR p0 p1 p2 p3 p4 p5
            have R0 : Hid ((v6).rangeAt w.heap.size 0 [.int .i64 x0, .int .i64 x1, .int .i64 x2, .int .i64 x3, .int .i64 x4, .int .i64 x5, .int .i64 x6, .int .i64 x7, .int .i64 x8, .int .i64 x9, .int .i64 x10, .int .i64 x11, .int .i64 x12, .int .i64 x13, .int .i64 x14, .int .i64 x15, .int .i64 x16, .int .i64 x17, .int .i64 x18, .int .i64 x19, .int .i64 x20, .int .i64 x21, .int .i64 x22, .int .i64 x23, .slice a24 L24.length c24, .slice a25 L25.length c25, .int .i64 x26, .slice (some ⟨g, o, none⟩) L27.length c27, .slice a28 L28.length c28, .int .i64 x29, .int .i64 x30, .int .i64 x31, .int .i64 x32, .slice a33 L33.length c33]) := BigBox.range_of_box H0.out.1.2.1 0 _ rfl
            have m7 := H0.out.1.2.1.cell 7
            have m14 := H0.out.1.2.1.cell 14
            have z0 := H0.out.2.cell 0
            have z1 := H0.out.2.cell 1
            have z4 := H0.out.2.cell 4
            by_cases t1 : x7 ≤ y1
            · have s1 : decide (x7 ≤ y1) = true := by simpa using t1
              obtain rfl : B = false := by
                cases B with
                | false => rfl
                | true =>
                  have h := (HB.out.1 rfl).2.2.1 k hlt
                  rw [HX.out] at h
                  unfold waitOk at h
                  have := h.1; dsimp only at this; omega
              go_wp2_with (go_big_may; first | (refine BigBox.wpList_load_want (by rfl) 62 _ rfl w.heap.size 0 rfl [.int .i64 x0, .int .i64 x1, .int .i64 x2, .int .i64 x3, .int .i64 x4, .int .i64 x5, .int .i64 x6, .int .i64 x7, .int .i64 x8, .int .i64 x9, .int .i64 x10, .int .i64 x11, .int .i64 x12, .int .i64 x13, .int .i64 x14, .int .i64 x15, .int .i64 x16, .int .i64 x17, .int .i64 x18, .int .i64 x19, .int .i64 x20, .int .i64 x21, .int .i64 x22, .int .i64 x23, .slice a24 L24.length c24, .slice a25 L25.length c25, .int .i64 x26, .slice (some ⟨g, o, none⟩) L27.length c27, .slice a28 L28.length c28, .int .i64 x29, .int .i64 x30, .int .i64 x31, .int .i64 x32, .slice a33 L33.length c33] _ R0.out Tryz.underlying62 rfl hi_.out ?_) | (go_at_call 16; refine (HKN _ H0.out.1.2.2.2.2.2.2).mono ?_; rintro e' w3 ⟨rfl, hb⟩; have HT : Hid (Sm w w3 x0 x1 x2 x3 x4 x5 x6 x7 x8 x9 x10 x11 x12 x13 x14 x15 x16 x17 x18 x19 x20 x21 x22 x23 x26 x29 x30 x31 x32 L24 L25 L27 L28 L33 a24 c24 a25 c25 (some ⟨g, o, none⟩) c27 a28 c28 a33 c33) := H0.out.1.below hb; have Z4 := (H0.out.2.below hb).cell 4; have K14 := HT.out.2.1.cell 14; clear hb R0 m7 m14 z0 z1 z4 H0))
              go_ret
              exact ⟨rfl, H0.out.1.1.out⟩
            · have s1 : decide (x7 ≤ y1) = false := by simpa using t1
              cases b3 with
              | false =>
                obtain rfl : B = false := by
                  cases B with
                  | false => rfl
                  | true =>
                    have h := (HB.out.1 rfl).2.2.1 k hlt
                    rw [HX.out] at h
                    unfold waitOk at h
                    have := P3.out.2 h.2.1; cases this
                go_wp2_with (go_big_may; first | (refine BigBox.wpList_load_want (by rfl) 62 _ rfl w.heap.size 0 rfl [.int .i64 x0, .int .i64 x1, .int .i64 x2, .int .i64 x3, .int .i64 x4, .int .i64 x5, .int .i64 x6, .int .i64 x7, .int .i64 x8, .int .i64 x9, .int .i64 x10, .int .i64 x11, .int .i64 x12, .int .i64 x13, .int .i64 x14, .int .i64 x15, .int .i64 x16, .int .i64 x17, .int .i64 x18, .int .i64 x19, .int .i64 x20, .int .i64 x21, .int .i64 x22, .int .i64 x23, .slice a24 L24.length c24, .slice a25 L25.length c25, .int .i64 x26, .slice (some ⟨g, o, none⟩) L27.length c27, .slice a28 L28.length c28, .int .i64 x29, .int .i64 x30, .int .i64 x31, .int .i64 x32, .slice a33 L33.length c33] _ R0.out Tryz.underlying62 rfl hi_.out ?_) | (go_at_call 16; refine (HKN _ H0.out.1.2.2.2.2.2.2).mono ?_; rintro e' w3 ⟨rfl, hb⟩; have HT : Hid (Sm w w3 x0 x1 x2 x3 x4 x5 x6 x7 x8 x9 x10 x11 x12 x13 x14 x15 x16 x17 x18 x19 x20 x21 x22 x23 x26 x29 x30 x31 x32 L24 L25 L27 L28 L33 a24 c24 a25 c25 (some ⟨g, o, none⟩) c27 a28 c28 a33 c33) := H0.out.1.below hb; have Z4 := (H0.out.2.below hb).cell 4; have K14 := HT.out.2.1.cell 14; clear hb R0 m7 m14 z0 z1 z4 H0))
                go_ret
                exact ⟨rfl, HT.out.1.out⟩
              | true =>
                by_cases t2 : x14 < y4
                · have s2 : decide (x14 < y4) = true := by simpa using t2
                  obtain rfl : B = false := by
                    cases B with
                    | false => rfl
                    | true =>
                      have h := (HB.out.1 rfl).2.2.1 k hlt
                      rw [HX.out] at h
                      unfold waitOk at h
                      have := h.2.2; dsimp only at this; omega
                  go_wp2_with (go_big_may; first | (refine BigBox.wpList_load_want (by rfl) 62 _ rfl w.heap.size 0 rfl [.int .i64 x0, .int .i64 x1, .int .i64 x2, .int .i64 x3, .int .i64 x4, .int .i64 x5, .int .i64 x6, .int .i64 x7, .int .i64 x8, .int .i64 x9, .int .i64 x10, .int .i64 x11, .int .i64 x12, .int .i64 x13, .int .i64 x14, .int .i64 x15, .int .i64 x16, .int .i64 x17, .int .i64 x18, .int .i64 x19, .int .i64 x20, .int .i64 x21, .int .i64 x22, .int .i64 x23, .slice a24 L24.length c24, .slice a25 L25.length c25, .int .i64 x26, .slice (some ⟨g, o, none⟩) L27.length c27, .slice a28 L28.length c28, .int .i64 x29, .int .i64 x30, .int .i64 x31, .int .i64 x32, .slice a33 L33.length c33] _ R0.out Tryz.underlying62 rfl hi_.out ?_) | (go_at_call 16; refine (HKN _ H0.out.1.2.2.2.2.2.2).mono ?_; rintro e' w3 ⟨rfl, hb⟩; have HT : Hid (Sm w w3 x0 x1 x2 x3 x4 x5 x6 x7 x8 x9 x10 x11 x12 x13 x14 x15 x16 x17 x18 x19 x20 x21 x22 x23 x26 x29 x30 x31 x32 L24 L25 L27 L28 L33 a24 c24 a25 c25 (some ⟨g, o, none⟩) c27 a28 c28 a33 c33) := H0.out.1.below hb; have Z4 := (H0.out.2.below hb).cell 4; have K14 := HT.out.2.1.cell 14; clear hb R0 m7 m14 z0 z1 z4 H0))
                  go_ret
                  exact ⟨rfl, HT.out.1.out⟩
                · have s2 : decide (x14 < y4) = false := by simpa using t2
                  have HK2 : Hid (∀ (j : Nat) (h : j < L27.length), j < k + 1 → waitOk x7 x14 L33 L27[j]) := fun j h hj => by
                    by_cases e : j = k
                    · subst e; rw [HX.out]; exact ⟨by show y1 < x7; omega, P3.out.1 rfl, by show y4 ≤ x14; omega⟩
                    · exact HKK.out j h (by omega)
                  clear HKK
                  go_wp2_with (go_big_may; first | (refine BigBox.wpList_load_want (by rfl) 62 _ rfl w.heap.size 0 rfl [.int .i64 x0, .int .i64 x1, .int .i64 x2, .int .i64 x3, .int .i64 x4, .int .i64 x5, .int .i64 x6, .int .i64 x7, .int .i64 x8, .int .i64 x9, .int .i64 x10, .int .i64 x11, .int .i64 x12, .int .i64 x13, .int .i64 x14, .int .i64 x15, .int .i64 x16, .int .i64 x17, .int .i64 x18, .int .i64 x19, .int .i64 x20, .int .i64 x21, .int .i64 x22, .int .i64 x23, .slice a24 L24.length c24, .slice a25 L25.length c25, .int .i64 x26, .slice (some ⟨g, o, none⟩) L27.length c27, .slice a28 L28.length c28, .int .i64 x29, .int .i64 x30, .int .i64 x31, .int .i64 x32, .slice a33 L33.length c33] _ R0.out Tryz.underlying62 rfl hi_.out ?_) | (go_at_call 16; refine (HKN _ H0.out.1.2.2.2.2.2.2).mono ?_; rintro e' w3 ⟨rfl, hb⟩; have HT : Hid (Sm w w3 x0 x1 x2 x3 x4 x5 x6 x7 x8 x9 x10 x11 x12 x13 x14 x15 x16 x17 x18 x19 x20 x21 x22 x23 x26 x29 x30 x31 x32 L24 L25 L27 L28 L33 a24 c24 a25 c25 (some ⟨g, o, none⟩) c27 a28 c28 a33 c33) := H0.out.1.below hb; have Z4 := (H0.out.2.below hb).cell 4; have K14 := HT.out.2.1.cell 14; clear hb R0 m7 m14 z0 z1 z4 H0))
                  go_roundw
                  case rel => exact ⟨k + 1, by omega, by go_num, HK2, HT⟩
                  case measure => simp [intOf]; omega
        · have hkl : ¬ (k : Int) < (L27.length : Int) := by omega
          have HF : Hid (∀ (i : Nat) (h : i < L27.length), waitOk x7 x14 L33 L27[i]) := fun j h => HKK.out j h (by omega)
          have m25 := HWR.out.2.1.cell 25
          clear HKK
          go_upto_region 10 with fail
          clear m25
          go_loopw [6, 48] (fun t6 i wr => ∃ k : Nat, k ≤ L25.length ∧ i = .int .i64 (k : Int) ∧ Hid (∀ (j : Nat) (h : j < L25.length), j < k → flyOk x6 x14 L33 L27 L25 L25[j]) ∧ Hid (Sm w wr x0 x1 x2 x3 x4 x5 x6 x7 x8 x9 x10 x11 x12 x13 x14 x15 x16 x17 x18 x19 x20 x21 x22 x23 x26 x29 x30 x31 x32 L24 L25 L27 L28 L33 a24 c24 a25 c25 a27 c27 a28 c28 a33 c33)) (fun _ i _ => L25.length - (intOf i).toNat)
          case atStart => exact ⟨0, by omega, rfl, fun j _ hj => by omega, HWR⟩
          case round =>
            clear HWR hkl hlt hk
            obtain ⟨k, hk, rfl, HKK, HWR⟩ := hrel
            by_cases hlt : k < L25.length
            · rcases HWR.out.2.2.2.1 with hnil | ⟨g, o, rfl, hr⟩
              · rw [hnil] at hlt; simp at hlt
              · obtain ⟨sx, hsx⟩ : ∃ s, L25[k] = s := ⟨_, rfl⟩
                obtain ⟨y0, y1, y2, y3, y4⟩ := sx
                have u9 := fun j hj => hr.cell k hlt j hj
                have p0 : wr.cell? ⟨g, o + k * 5, none⟩ = some (.int .i64 y0) := by have h9 := u9 0 (by omega); rw [hsx] at h9; exact h9
                have p1 : wr.cell? ⟨g, o + k * 5 + 1, none⟩ = some (.bool y1) := by have h9 := u9 1 (by omega); rw [hsx] at h9; exact h9
                have p2 : wr.cell? ⟨g, o + k * 5 + 2, none⟩ = some (.int .i64 y2) := by have h9 := u9 2 (by omega); rw [hsx] at h9; exact h9
                have p3 : wr.cell? ⟨g, o + k * 5 + 3, none⟩ = some (.int .i64 y3) := by have h9 := u9 3 (by omega); rw [hsx] at h9; exact h9
                have p4 : wr.cell? ⟨g, o + k * 5 + 4, none⟩ = some (.int .i64 y4) := by have h9 := u9 4 (by omega); rw [hsx] at h9; exact h9
                clear u9 hr
                have h0k : (0 : Int) ≤ (k : Int) := by omega
                have hkl : (k : Int) < (L25.length : Int) := by omega
                have wk : IntKind.i64.wrap ((k : Int) + 1) = ((k + 1 : Nat) : Int) := by rw [IntKind.wrap_i64]; omega
                have HX : Hid (L25[k] = ⟨y0, y1, y2, y3, y4⟩) := hsx
                obtain ⟨b3, P3⟩ := flag (y2 ∈ L33)
                have HKN := fun W h => HW y2 b3 W h P3
                obtain ⟨r, hr⟩ := QueMath.at_ex L27 y2
                have HR : Hid (QueMath.AtId L27 y2 r) := hr
                have HAT := fun W h => QueAt.spec_at x26 a27 c27 L27 y2 r W h (by omega) q27 HR
                have HFL := fun W h => LedCount.spec_flyingof (some ⟨g, o, none⟩) c25 L25 y3 W h (by omega)
                obtain ⟨f, hf⟩ : ∃ f : Nat, LedCount.cnt (LedCount.isBy y3) L25 L25.length = f := ⟨_, rfl⟩
                have HFF : Hid (LedCount.cnt (LedCount.isBy y3) L25 L25.length = f) := hf
                rw [hf] at HFL
                have H0 : Hid (Sm w (wr.alloc (.cells #[.int .i64 y0, .bool y1, .int .i64 y2, .int .i64 y3, .int .i64 y4] 75)) x0 x1 x2 x3 x4 x5 x6 x7 x8 x9 x10 x11 x12 x13 x14 x15 x16 x17 x18 x19 x20 x21 x22 x23 x26 x29 x30 x31 x32 L24 L25 L27 L28 L33 a24 c24 (some ⟨g, o, none⟩) c25 a27 c27 a28 c28 a33 c33 ∧ boxB (wr.alloc (.cells #[.int .i64 y0, .bool y1, .int .i64 y2, .int .i64 y3, .int .i64 y4] 75)) wr.heap.size #[.int .i64 y0, .bool y1, .int .i64 y2, .int .i64 y3, .int .i64 y4] 75) := ⟨HWR.out.below (n1 _ _), boxB.new _ _ _⟩
                clear hsx hr hf
                go_upto_region 12 with fail
                generalize wr.alloc (.cells #[.int .i64 y0, .bool y1, .int .i64 y2, .int .i64 y3, .int .i64 y4] 75) = v6 at *
                clear HWR p0 p1 p2 p3 p4
                have z1 := H0.out.2.cell 1
                cases y1 with
                | false =>
                  have HK2 : Hid (∀ (j : Nat) (h : j < L25.length), j < k + 1 → flyOk x6 x14 L33 L27 L25 L25[j]) := fun j h hj => by
                    by_cases e : j = k
                    · subst e; rw [HX.out]; intro h9; cases h9
                    · exact HKK.out j h (by omega)
                  have HT : Hid (Sm w v6 x0 x1 x2 x3 x4 x5 x6 x7 x8 x9 x10 x11 x12 x13 x14 x15 x16 x17 x18 x19 x20 x21 x22 x23 x26 x29 x30 x31 x32 L24 L25 L27 L28 L33 a24 c24 (some ⟨g, o, none⟩) c25 a27 c27 a28 c28 a33 c33) := H0.out.1
                  clear HKK
                  go_wp2
                  go_roundw
                  case rel => exact ⟨k + 1, by omega, by go_num, HK2, HT⟩
                  case measure => simp [intOf]; omega
                | true =>
                  go_upto_region 13 with fail
                  clear z1
                  have near := Near.is v6
                  have M6 := Near.cell (H0.out.1.2.1.cell 6)
                  have M14 := Near.cell (H0.out.1.2.1.cell 14)
                  have M25 := Near.cell (H0.out.1.2.1.cell 25)
                  have M26 := Near.cell (H0.out.1.2.1.cell 26)
                  have M27 := Near.cell (H0.out.1.2.1.cell 27)
                  have Z2 := Near.cell (H0.out.2.cell 2)
                  have Z3 := Near.cell (H0.out.2.cell 3)
                  have Z4 := Near.cell (H0.out.2.cell 4)
                  cases b3 with
                  | false =>
                    obtain rfl : B = false := by
                      cases B with
                      | false => rfl
                      | true =>
                        have h := (HB.out.1 rfl).2.2.2 k hlt
                        rw [HX.out] at h
                        have h := h rfl
                        have := P3.out.2 h.1; cases this
                    refine wp_region_near (by kernel_rfl) (by kernel_rfl) ?_
                    (refine BigBox.wpQuiet_load_mid (by rfl) 62 _ rfl w.heap.size 0 rfl [.int .i64 x0, .int .i64 x1, .int .i64 x2, .int .i64 x3, .int .i64 x4, .int .i64 x5, .int .i64 x6, .int .i64 x7, .int .i64 x8, .int .i64 x9, .int .i64 x10, .int .i64 x11, .int .i64 x12, .int .i64 x13, .int .i64 x14, .int .i64 x15, .int .i64 x16, .int .i64 x17, .int .i64 x18, .int .i64 x19, .int .i64 x20, .int .i64 x21, .int .i64 x22, .int .i64 x23, .slice a24 L24.length c24, .slice (some ⟨g, o, none⟩) L25.length c25, .int .i64 x26, .slice a27 L27.length c27, .slice a28 L28.length c28, .int .i64 x29, .int .i64 x30, .int .i64 x31, .int .i64 x32, .slice a33 L33.length c33] _ (fun w' hw' => by obtain ⟨y, rfl⟩ := hw'; exact BigBox.range_of_box (H0.out.1.2.1.below y.near) 0 _ rfl) Tryz.underlying62 rfl hi_.out ?_; try simp only [Act.put, List.setIfInBounds_toArray, List.set_cons_zero, List.set_cons_succ])
                    repeat (go_big_quiet_step (first | (go_at_call 16; exact near_call (HKN _ (H0.out.1.2.2.2.2.2.2.below (Near.near _)))) | (go_at_call 17; exact near_call (HAT _ (H0.out.1.2.2.2.2.1.below (Near.near _)))) | (go_at_call 18; exact near_call (HFL _ (H0.out.1.2.2.2.1.below (Near.near _))))))
                    refine wpQuiet_nil ?_
                    intro wx hwx
                    obtain ⟨yy, hyy⟩ := hwx
                    subst hyy
                    have HT : Hid (Sm w yy.w x0 x1 x2 x3 x4 x5 x6 x7 x8 x9 x10 x11 x12 x13 x14 x15 x16 x17 x18 x19 x20 x21 x22 x23 x26 x29 x30 x31 x32 L24 L25 L27 L28 L33 a24 c24 (some ⟨g, o, none⟩) c25 a27 c27 a28 c28 a33 c33) := H0.out.1.below yy.near
                    obtain ⟨wd, hwd⟩ : ∃ wd, yy.w = wd := ⟨_, rfl⟩
                    rw [hwd] at HT ⊢
                    clear hwd yy near M6 M14 M25 M26 M27 Z2 Z3 Z4 H0
                    go_wp2
                    go_ret
                    exact ⟨rfl, HT.out.1.out⟩
                  | true =>
                    by_cases t1 : 0 ≤ r
                    · have s1 : decide (0 ≤ r) = true := by simpa using t1
                      obtain rfl : B = false := by
                        cases B with
                        | false => rfl
                        | true =>
                          have h := (HB.out.1 rfl).2.2.2 k hlt
                          rw [HX.out] at h
                          have h := h rfl
                          rcases HR.out with h8 | ⟨j, _, hj, e, _⟩
                          · omega
                          · exact (h.2.1 j hj e).elim
                      refine wp_region_near (by kernel_rfl) (by kernel_rfl) ?_
                      (refine BigBox.wpQuiet_load_mid (by rfl) 62 _ rfl w.heap.size 0 rfl [.int .i64 x0, .int .i64 x1, .int .i64 x2, .int .i64 x3, .int .i64 x4, .int .i64 x5, .int .i64 x6, .int .i64 x7, .int .i64 x8, .int .i64 x9, .int .i64 x10, .int .i64 x11, .int .i64 x12, .int .i64 x13, .int .i64 x14, .int .i64 x15, .int .i64 x16, .int .i64 x17, .int .i64 x18, .int .i64 x19, .int .i64 x20, .int .i64 x21, .int .i64 x22, .int .i64 x23, .slice a24 L24.length c24, .slice (some ⟨g, o, none⟩) L25.length c25, .int .i64 x26, .slice a27 L27.length c27, .slice a28 L28.length c28, .int .i64 x29, .int .i64 x30, .int .i64 x31, .int .i64 x32, .slice a33 L33.length c33] _ (fun w' hw' => by obtain ⟨y, rfl⟩ := hw'; exact BigBox.range_of_box (H0.out.1.2.1.below y.near) 0 _ rfl) Tryz.underlying62 rfl hi_.out ?_; try simp only [Act.put, List.setIfInBounds_toArray, List.set_cons_zero, List.set_cons_succ])
                      repeat (go_big_quiet_step (first | (go_at_call 16; exact near_call (HKN _ (H0.out.1.2.2.2.2.2.2.below (Near.near _)))) | (go_at_call 17; exact near_call (HAT _ (H0.out.1.2.2.2.2.1.below (Near.near _)))) | (go_at_call 18; exact near_call (HFL _ (H0.out.1.2.2.2.1.below (Near.near _))))))
                      refine wpQuiet_nil ?_
                      intro wx hwx
                      obtain ⟨yy, hyy⟩ := hwx
                      subst hyy
                      have HT : Hid (Sm w yy.w x0 x1 x2 x3 x4 x5 x6 x7 x8 x9 x10 x11 x12 x13 x14 x15 x16 x17 x18 x19 x20 x21 x22 x23 x26 x29 x30 x31 x32 L24 L25 L27 L28 L33 a24 c24 (some ⟨g, o, none⟩) c25 a27 c27 a28 c28 a33 c33) := H0.out.1.below yy.near
                      obtain ⟨wd, hwd⟩ : ∃ wd, yy.w = wd := ⟨_, rfl⟩
                      rw [hwd] at HT ⊢
                      clear hwd yy near M6 M14 M25 M26 M27 Z2 Z3 Z4 H0
                      go_wp2
                      go_ret
                      exact ⟨rfl, HT.out.1.out⟩
                    · have s1 : decide (0 ≤ r) = false := by simpa using t1
                      by_cases t2 : x14 < y4
                      · have s2 : decide (x14 < y4) = true := by simpa using t2
                        obtain rfl : B = false := by
                          cases B with
                          | false => rfl
                          | true =>
                            have h := (HB.out.1 rfl).2.2.2 k hlt
                            rw [HX.out] at h
                            have h := h rfl
                            have := h.2.2.1; dsimp only at this; omega
                        refine wp_region_near (by kernel_rfl) (by kernel_rfl) ?_
                        (refine BigBox.wpQuiet_load_mid (by rfl) 62 _ rfl w.heap.size 0 rfl [.int .i64 x0, .int .i64 x1, .int .i64 x2, .int .i64 x3, .int .i64 x4, .int .i64 x5, .int .i64 x6, .int .i64 x7, .int .i64 x8, .int .i64 x9, .int .i64 x10, .int .i64 x11, .int .i64 x12, .int .i64 x13, .int .i64 x14, .int .i64 x15, .int .i64 x16, .int .i64 x17, .int .i64 x18, .int .i64 x19, .int .i64 x20, .int .i64 x21, .int .i64 x22, .int .i64 x23, .slice a24 L24.length c24, .slice (some ⟨g, o, none⟩) L25.length c25, .int .i64 x26, .slice a27 L27.length c27, .slice a28 L28.length c28, .int .i64 x29, .int .i64 x30, .int .i64 x31, .int .i64 x32, .slice a33 L33.length c33] _ (fun w' hw' => by obtain ⟨y, rfl⟩ := hw'; exact BigBox.range_of_box (H0.out.1.2.1.below y.near) 0 _ rfl) Tryz.underlying62 rfl hi_.out ?_; try simp only [Act.put, List.setIfInBounds_toArray, List.set_cons_zero, List.set_cons_succ])
                        repeat (go_big_quiet_step (first | (go_at_call 16; exact near_call (HKN _ (H0.out.1.2.2.2.2.2.2.below (Near.near _)))) | (go_at_call 17; exact near_call (HAT _ (H0.out.1.2.2.2.2.1.below (Near.near _)))) | (go_at_call 18; exact near_call (HFL _ (H0.out.1.2.2.2.1.below (Near.near _))))))
                        refine wpQuiet_nil ?_
                        intro wx hwx
                        obtain ⟨yy, hyy⟩ := hwx
                        subst hyy
                        have HT : Hid (Sm w yy.w x0 x1 x2 x3 x4 x5 x6 x7 x8 x9 x10 x11 x12 x13 x14 x15 x16 x17 x18 x19 x20 x21 x22 x23 x26 x29 x30 x31 x32 L24 L25 L27 L28 L33 a24 c24 (some ⟨g, o, none⟩) c25 a27 c27 a28 c28 a33 c33) := H0.out.1.below yy.near
                        obtain ⟨wd, hwd⟩ : ∃ wd, yy.w = wd := ⟨_, rfl⟩
                        rw [hwd] at HT ⊢
                        clear hwd yy near M6 M14 M25 M26 M27 Z2 Z3 Z4 H0
                        go_wp2
                        go_ret
                        exact ⟨rfl, HT.out.1.out⟩
                      · have s2 : decide (x14 < y4) = false := by simpa using t2
                        by_cases t3 : x6 < (f : Int)
                        · have s3 : decide (x6 < (f : Int)) = true := by simpa using t3
                          obtain rfl : B = false := by
                            cases B with
                            | false => rfl
                            | true =>
                              have h := (HB.out.1 rfl).2.2.2 k hlt
                              rw [HX.out] at h
                              have h := h rfl
                              have h8 := h.2.2.2; dsimp only at h8; rw [HFF.out] at h8; omega
                          refine wp_region_near (by kernel_rfl) (by kernel_rfl) ?_
                          (refine BigBox.wpQuiet_load_mid (by rfl) 62 _ rfl w.heap.size 0 rfl [.int .i64 x0, .int .i64 x1, .int .i64 x2, .int .i64 x3, .int .i64 x4, .int .i64 x5, .int .i64 x6, .int .i64 x7, .int .i64 x8, .int .i64 x9, .int .i64 x10, .int .i64 x11, .int .i64 x12, .int .i64 x13, .int .i64 x14, .int .i64 x15, .int .i64 x16, .int .i64 x17, .int .i64 x18, .int .i64 x19, .int .i64 x20, .int .i64 x21, .int .i64 x22, .int .i64 x23, .slice a24 L24.length c24, .slice (some ⟨g, o, none⟩) L25.length c25, .int .i64 x26, .slice a27 L27.length c27, .slice a28 L28.length c28, .int .i64 x29, .int .i64 x30, .int .i64 x31, .int .i64 x32, .slice a33 L33.length c33] _ (fun w' hw' => by obtain ⟨y, rfl⟩ := hw'; exact BigBox.range_of_box (H0.out.1.2.1.below y.near) 0 _ rfl) Tryz.underlying62 rfl hi_.out ?_; try simp only [Act.put, List.setIfInBounds_toArray, List.set_cons_zero, List.set_cons_succ])
                          repeat (go_big_quiet_step (first | (go_at_call 16; exact near_call (HKN _ (H0.out.1.2.2.2.2.2.2.below (Near.near _)))) | (go_at_call 17; exact near_call (HAT _ (H0.out.1.2.2.2.2.1.below (Near.near _)))) | (go_at_call 18; exact near_call (HFL _ (H0.out.1.2.2.2.1.below (Near.near _))))))
                          refine wpQuiet_nil ?_
                          intro wx hwx
                          obtain ⟨yy, hyy⟩ := hwx
                          subst hyy
                          have HT : Hid (Sm w yy.w x0 x1 x2 x3 x4 x5 x6 x7 x8 x9 x10 x11 x12 x13 x14 x15 x16 x17 x18 x19 x20 x21 x22 x23 x26 x29 x30 x31 x32 L24 L25 L27 L28 L33 a24 c24 (some ⟨g, o, none⟩) c25 a27 c27 a28 c28 a33 c33) := H0.out.1.below yy.near
                          obtain ⟨wd, hwd⟩ : ∃ wd, yy.w = wd := ⟨_, rfl⟩
                          rw [hwd] at HT ⊢
                          clear hwd yy near M6 M14 M25 M26 M27 Z2 Z3 Z4 H0
                          go_wp2
                          go_ret
                          exact ⟨rfl, HT.out.1.out⟩
                        · have s3 : decide (x6 < (f : Int)) = false := by simpa using t3
                          have HK2 : Hid (∀ (j : Nat) (h : j < L25.length), j < k + 1 → flyOk x6 x14 L33 L27 L25 L25[j]) := fun j h hj => by
                            by_cases e : j = k
                            · subst e
                              rw [HX.out]
                              refine fun _ => ⟨P3.out.1 rfl, ?_, by show y4 ≤ x14; omega, by show (LedCount.cnt (LedCount.isBy y3) L25 L25.length : Int) ≤ x6; rw [HFF.out]; omega⟩
                              rcases HR.out with h8 | ⟨i, hi, _⟩
                              · exact h8.2
                              · omega
                            · exact HKK.out j h (by omega)
                          clear HKK
                          refine wp_region_near (by kernel_rfl) (by kernel_rfl) ?_
                          (refine BigBox.wpQuiet_load_mid (by rfl) 62 _ rfl w.heap.size 0 rfl [.int .i64 x0, .int .i64 x1, .int .i64 x2, .int .i64 x3, .int .i64 x4, .int .i64 x5, .int .i64 x6, .int .i64 x7, .int .i64 x8, .int .i64 x9, .int .i64 x10, .int .i64 x11, .int .i64 x12, .int .i64 x13, .int .i64 x14, .int .i64 x15, .int .i64 x16, .int .i64 x17, .int .i64 x18, .int .i64 x19, .int .i64 x20, .int .i64 x21, .int .i64 x22, .int .i64 x23, .slice a24 L24.length c24, .slice (some ⟨g, o, none⟩) L25.length c25, .int .i64 x26, .slice a27 L27.length c27, .slice a28 L28.length c28, .int .i64 x29, .int .i64 x30, .int .i64 x31, .int .i64 x32, .slice a33 L33.length c33] _ (fun w' hw' => by obtain ⟨y, rfl⟩ := hw'; exact BigBox.range_of_box (H0.out.1.2.1.below y.near) 0 _ rfl) Tryz.underlying62 rfl hi_.out ?_; try simp only [Act.put, List.setIfInBounds_toArray, List.set_cons_zero, List.set_cons_succ])
                          repeat (go_big_quiet_step (first | (go_at_call 16; exact near_call (HKN _ (H0.out.1.2.2.2.2.2.2.below (Near.near _)))) | (go_at_call 17; exact near_call (HAT _ (H0.out.1.2.2.2.2.1.below (Near.near _)))) | (go_at_call 18; exact near_call (HFL _ (H0.out.1.2.2.2.1.below (Near.near _))))))
                          refine wpQuiet_nil ?_
                          intro wx hwx
                          obtain ⟨yy, hyy⟩ := hwx
                          subst hyy
                          have HT : Hid (Sm w yy.w x0 x1 x2 x3 x4 x5 x6 x7 x8 x9 x10 x11 x12 x13 x14 x15 x16 x17 x18 x19 x20 x21 x22 x23 x26 x29 x30 x31 x32 L24 L25 L27 L28 L33 a24 c24 (some ⟨g, o, none⟩) c25 a27 c27 a28 c28 a33 c33) := H0.out.1.below yy.near
                          obtain ⟨wd, hwd⟩ : ∃ wd, yy.w = wd := ⟨_, rfl⟩
                          rw [hwd] at HT ⊢
                          clear hwd yy near M6 M14 M25 M26 M27 Z2 Z3 Z4 H0
                          go_wp2
                          go_roundw
                          case rel => exact ⟨k + 1, by omega, by go_num, HK2, HT⟩
                          case measure => simp [intOf]; omega
            · have hkl : ¬ (k : Int) < (L25.length : Int) := by omega
              obtain rfl : B = true := HB.out.2 ⟨P1.out.1 (by first | rfl | trivial), P2.out.1 (by first | rfl | trivial), HF.out, fun j h => HKK.out j h (by omega)⟩
              go_wp2
              try go_ret
              exact ⟨rfl, HWR.out.1.out⟩
end Go.Proofs.YtnabnghjejncpaaGreat.AdmOkS
