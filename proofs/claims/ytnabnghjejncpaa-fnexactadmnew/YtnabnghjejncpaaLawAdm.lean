/- What the laws' helpers on the struct Adm do: it is copied into new memory, found equal to its like, marked and found marked, and measured; nothing else turns; no condition but those written in each. -/
import Derived.Test.YtnabnghjejncpaaRows
import Derived.WalkKit
import Derived.WalkSmall
import Derived.BigQuiet
import Derived.Deep.RegionWith
import Derived.Deep.DeepCutAuto
import Derived.Test.YtnabnghjejncpaaListKit
import Derived.Test.YtnabnghjejncpaaHoldKit
import Derived.Test.YtnabnghjejncpaaHoldMore
import Derived.Test.YtnabnghjejncpaaBigBox
import Derived.Laws.Rows
import Derived.Test.YtnabnghjejncpaaSampleKit
import Derived.Test.YtnabnghjejncpaaSampleRows
import Derived.Test.YtnabnghjejncpaaSlotKit
import Derived.Test.YtnabnghjejncpaaSlotRows
import Derived.Test.YtnabnghjejncpaaReqKit
import Derived.Test.YtnabnghjejncpaaReqRows
import Derived.Test.YtnabnghjejncpaaCodelKit
import Derived.Test.YtnabnghjejncpaaCodelRows
import Derived.Test.YtnabnghjejncpaaIntKit
import Derived.Test.YtnabnghjejncpaaIntRows
import Derived.Test.YtnabnghjejncpaaFlatCfg
import Derived.Test.YtnabnghjejncpaaLawLim
import Derived.Test.YtnabnghjejncpaaLawLedger
import Derived.Test.YtnabnghjejncpaaLawQueue
import Derived.Test.YtnabnghjejncpaaFlatBucket
namespace Go.Proofs.Ytnabnghjejncpaa.LawAdm
open Go.RowKit ListKit HoldKit HoldMore BigBox
set_option maxRecDepth 8000
set_option linter.unusedVariables false
set_option linter.unusedSimpArgs false

set_option maxHeartbeats 4000000 in
theorem eq_adm (x0 : Int) (x1 : Int) (x2 : Int) (x3 : Int) (x4 : Int) (x5 : Int) (x6 : Int) (x7 : Int) (x8 : Int) (x9 : Int) (x10 : Int) (x11 : Int) (x12 : Int) (x13 : Int) (x14 : Int) (x15 : Int) (x16 : Int) (x17 : Int) (x18 : Int) (x19 : Int) (x20 : Int) (x21 : Int) (x22 : Int) (x23 : Int) (x26 : Int) (x29 : Int) (x30 : Int) (x31 : Int) (x32 : Int) (a24 : Option Addr) (c24 : Nat) (L24 : List SampleKit.Sample) (a25 : Option Addr) (c25 : Nat) (L25 : List SlotKit.Slot) (a27 : Option Addr) (c27 : Nat) (L27 : List ReqKit.Req) (a28 : Option Addr) (c28 : Nat) (L28 : List CodelKit.Codel) (a33 : Option Addr) (c33 : Nat) (L33 : List Int) (b24 : Option Addr) (d24 : Nat) (b25 : Option Addr) (d25 : Nat) (b27 : Option Addr) (d27 : Nat) (b28 : Option Addr) (d28 : Nat) (b33 : Option Addr) (d33 : Nat) (w : World) (h24 : Own 170 2 SampleKit.cells w a24 L24) (k24 : Own 170 2 SampleKit.cells w b24 L24) (l24 : L24.length ≤ 1048577) (h25 : Own 105 5 SlotKit.cells w a25 L25) (k25 : Own 105 5 SlotKit.cells w b25 L25) (l25 : L25.length ≤ 1048577) (h27 : Own 161 6 ReqKit.cells w a27 L27) (k27 : Own 161 6 ReqKit.cells w b27 L27) (l27 : L27.length ≤ 1048577) (h28 : Own 87 6 CodelKit.cells w a28 L28) (k28 : Own 87 6 CodelKit.cells w b28 L28) (l28 : L28.length ≤ 1048577) (h33 : Own 3 1 IntKit.cells w a33 L33) (k33 : Own 3 1 IntKit.cells w b33 L33) (l33 : L33.length ≤ 1048577) :
    Calls Try.prog 13 #[.agg #[.int .i64 x0, .int .i64 x1, .int .i64 x2, .int .i64 x3, .int .i64 x4, .int .i64 x5, .int .i64 x6, .int .i64 x7, .int .i64 x8, .int .i64 x9, .int .i64 x10, .int .i64 x11, .int .i64 x12, .int .i64 x13, .int .i64 x14, .int .i64 x15, .int .i64 x16, .int .i64 x17, .int .i64 x18, .int .i64 x19, .int .i64 x20, .int .i64 x21, .int .i64 x22, .int .i64 x23, .slice a24 L24.length c24, .slice a25 L25.length c25, .int .i64 x26, .slice a27 L27.length c27, .slice a28 L28.length c28, .int .i64 x29, .int .i64 x30, .int .i64 x31, .int .i64 x32, .slice a33 L33.length c33], .agg #[.int .i64 x0, .int .i64 x1, .int .i64 x2, .int .i64 x3, .int .i64 x4, .int .i64 x5, .int .i64 x6, .int .i64 x7, .int .i64 x8, .int .i64 x9, .int .i64 x10, .int .i64 x11, .int .i64 x12, .int .i64 x13, .int .i64 x14, .int .i64 x15, .int .i64 x16, .int .i64 x17, .int .i64 x18, .int .i64 x19, .int .i64 x20, .int .i64 x21, .int .i64 x22, .int .i64 x23, .slice b24 L24.length d24, .slice b25 L25.length d25, .int .i64 x26, .slice b27 L27.length d27, .slice b28 L28.length d28, .int .i64 x29, .int .i64 x30, .int .i64 x31, .int .i64 x32, .slice b33 L33.length d33]] w fun e w' => e = .returned (.bool true) ∧ Below w.heap.size w w' := by
  have H24 : Hid (Own 170 2 SampleKit.cells w a24 L24) := h24
  have K24 : Hid (Own 170 2 SampleKit.cells w b24 L24) := k24
  have H25 : Hid (Own 105 5 SlotKit.cells w a25 L25) := h25
  have K25 : Hid (Own 105 5 SlotKit.cells w b25 L25) := k25
  have H27 : Hid (Own 161 6 ReqKit.cells w a27 L27) := h27
  have K27 : Hid (Own 161 6 ReqKit.cells w b27 L27) := k27
  have H28 : Hid (Own 87 6 CodelKit.cells w a28 L28) := h28
  have K28 : Hid (Own 87 6 CodelKit.cells w b28 L28) := k28
  have H33 : Hid (Own 3 1 IntKit.cells w a33 L33) := h33
  have K33 : Hid (Own 3 1 IntKit.cells w b33 L33) := k33
  clear h24 k24 h25 k25 h27 k27 h28 k28 h33 k33
  have t0 : (x0 != x0) = false := by simp
  have t1 : (x1 != x1) = false := by simp
  have t2 : (x2 != x2) = false := by simp
  have t3 : (x3 != x3) = false := by simp
  have t4 : (x4 != x4) = false := by simp
  have t5 : (x5 != x5) = false := by simp
  have t6 : (x6 != x6) = false := by simp
  have t7 : (x7 != x7) = false := by simp
  have t8 : (x8 != x8) = false := by simp
  have t9 : (x9 != x9) = false := by simp
  have t10 : (x10 != x10) = false := by simp
  have t11 : (x11 != x11) = false := by simp
  have t12 : (x12 != x12) = false := by simp
  have t13 : (x13 != x13) = false := by simp
  have t14 : (x14 != x14) = false := by simp
  have t15 : (x15 != x15) = false := by simp
  have t16 : (x16 != x16) = false := by simp
  have t17 : (x17 != x17) = false := by simp
  have t18 : (x18 != x18) = false := by simp
  have t19 : (x19 != x19) = false := by simp
  have t20 : (x20 != x20) = false := by simp
  have t21 : (x21 != x21) = false := by simp
  have t22 : (x22 != x22) = false := by simp
  have t23 : (x23 != x23) = false := by simp
  have t26 : (x26 != x26) = false := by simp
  have t29 : (x29 != x29) = false := by simp
  have t30 : (x30 != x30) = false := by simp
  have t31 : (x31 != x31) = false := by simp
  have t32 : (x32 != x32) = false := by simp
  go_enter Try.func13, Try.ntmps13
  go_wp2_with fail
  refine (FlatCfg.eq_one x0 x1 x2 x3 x4 x5 x6 x7 x8 x9 x10 x11 x12 x13 _).mono ?_
  rintro e w1 ⟨rfl, hb1⟩
  have E1 : Hid (Eq2 w w1 #[.int .i64 x0, .int .i64 x1, .int .i64 x2, .int .i64 x3, .int .i64 x4, .int .i64 x5, .int .i64 x6, .int .i64 x7, .int .i64 x8, .int .i64 x9, .int .i64 x10, .int .i64 x11, .int .i64 x12, .int .i64 x13, .int .i64 x14, .int .i64 x15, .int .i64 x16, .int .i64 x17, .int .i64 x18, .int .i64 x19, .int .i64 x20, .int .i64 x21, .int .i64 x22, .int .i64 x23, .slice a24 L24.length c24, .slice a25 L25.length c25, .int .i64 x26, .slice a27 L27.length c27, .slice a28 L28.length c28, .int .i64 x29, .int .i64 x30, .int .i64 x31, .int .i64 x32, .slice a33 L33.length c33] 48 #[.int .i64 x0, .int .i64 x1, .int .i64 x2, .int .i64 x3, .int .i64 x4, .int .i64 x5, .int .i64 x6, .int .i64 x7, .int .i64 x8, .int .i64 x9, .int .i64 x10, .int .i64 x11, .int .i64 x12, .int .i64 x13, .int .i64 x14, .int .i64 x15, .int .i64 x16, .int .i64 x17, .int .i64 x18, .int .i64 x19, .int .i64 x20, .int .i64 x21, .int .i64 x22, .int .i64 x23, .slice b24 L24.length d24, .slice b25 L25.length d25, .int .i64 x26, .slice b27 L27.length d27, .slice b28 L28.length d28, .int .i64 x29, .int .i64 x30, .int .i64 x31, .int .i64 x32, .slice b33 L33.length d33] 48) := Eq2.start hb1
  clear hb1
  have p0 := cellB E1.out.a 0
  have q0 := cellB E1.out.b 0
  have p1 := cellB E1.out.a 1
  have q1 := cellB E1.out.b 1
  have p2 := cellB E1.out.a 2
  have q2 := cellB E1.out.b 2
  have p3 := cellB E1.out.a 3
  have q3 := cellB E1.out.b 3
  have p4 := cellB E1.out.a 4
  have q4 := cellB E1.out.b 4
  have p5 := cellB E1.out.a 5
  have q5 := cellB E1.out.b 5
  have p6 := cellB E1.out.a 6
  have q6 := cellB E1.out.b 6
  have p7 := cellB E1.out.a 7
  have q7 := cellB E1.out.b 7
  have p8 := cellB E1.out.a 8
  have q8 := cellB E1.out.b 8
  have p9 := cellB E1.out.a 9
  have q9 := cellB E1.out.b 9
  have p10 := cellB E1.out.a 10
  have q10 := cellB E1.out.b 10
  have p11 := cellB E1.out.a 11
  have q11 := cellB E1.out.b 11
  have p12 := cellB E1.out.a 12
  have q12 := cellB E1.out.b 12
  have p13 := cellB E1.out.a 13
  have q13 := cellB E1.out.b 13
  have p14 := cellB E1.out.a 14
  have q14 := cellB E1.out.b 14
  have p15 := cellB E1.out.a 15
  have q15 := cellB E1.out.b 15
  have p16 := cellB E1.out.a 16
  have q16 := cellB E1.out.b 16
  have p17 := cellB E1.out.a 17
  have q17 := cellB E1.out.b 17
  have p18 := cellB E1.out.a 18
  have q18 := cellB E1.out.b 18
  have p19 := cellB E1.out.a 19
  have q19 := cellB E1.out.b 19
  have p20 := cellB E1.out.a 20
  have q20 := cellB E1.out.b 20
  have p21 := cellB E1.out.a 21
  have q21 := cellB E1.out.b 21
  have p22 := cellB E1.out.a 22
  have q22 := cellB E1.out.b 22
  have p23 := cellB E1.out.a 23
  have q23 := cellB E1.out.b 23
  have p24 := cellB E1.out.a 24
  have q24 := cellB E1.out.b 24
  have p25 := cellB E1.out.a 25
  have q25 := cellB E1.out.b 25
  have p26 := cellB E1.out.a 26
  have q26 := cellB E1.out.b 26
  have p27 := cellB E1.out.a 27
  have q27 := cellB E1.out.b 27
  have p28 := cellB E1.out.a 28
  have q28 := cellB E1.out.b 28
  have p29 := cellB E1.out.a 29
  have q29 := cellB E1.out.b 29
  have p30 := cellB E1.out.a 30
  have q30 := cellB E1.out.b 30
  have p31 := cellB E1.out.a 31
  have q31 := cellB E1.out.b 31
  have p32 := cellB E1.out.a 32
  have q32 := cellB E1.out.b 32
  have p33 := cellB E1.out.a 33
  have q33 := cellB E1.out.b 33
  go_wp2_with fail
  refine (LawLim.eq_lim x15 x16 x17 x18 x19 x20 x21 x22 x23 a24 c24 L24 b24 d24 _ (H24.out.below (E1.out.bel)) (K24.out.below (E1.out.bel)) l24).mono ?_
  rintro e w2 ⟨rfl, hb2⟩
  have E2 : Hid (Eq2 w w2 #[.int .i64 x0, .int .i64 x1, .int .i64 x2, .int .i64 x3, .int .i64 x4, .int .i64 x5, .int .i64 x6, .int .i64 x7, .int .i64 x8, .int .i64 x9, .int .i64 x10, .int .i64 x11, .int .i64 x12, .int .i64 x13, .int .i64 x14, .int .i64 x15, .int .i64 x16, .int .i64 x17, .int .i64 x18, .int .i64 x19, .int .i64 x20, .int .i64 x21, .int .i64 x22, .int .i64 x23, .slice a24 L24.length c24, .slice a25 L25.length c25, .int .i64 x26, .slice a27 L27.length c27, .slice a28 L28.length c28, .int .i64 x29, .int .i64 x30, .int .i64 x31, .int .i64 x32, .slice a33 L33.length c33] 48 #[.int .i64 x0, .int .i64 x1, .int .i64 x2, .int .i64 x3, .int .i64 x4, .int .i64 x5, .int .i64 x6, .int .i64 x7, .int .i64 x8, .int .i64 x9, .int .i64 x10, .int .i64 x11, .int .i64 x12, .int .i64 x13, .int .i64 x14, .int .i64 x15, .int .i64 x16, .int .i64 x17, .int .i64 x18, .int .i64 x19, .int .i64 x20, .int .i64 x21, .int .i64 x22, .int .i64 x23, .slice b24 L24.length d24, .slice b25 L25.length d25, .int .i64 x26, .slice b27 L27.length d27, .slice b28 L28.length d28, .int .i64 x29, .int .i64 x30, .int .i64 x31, .int .i64 x32, .slice b33 L33.length d33] 48) := E1.out.next hb2
  clear hb2 E1 p0 q0 p1 q1 p2 q2 p3 q3 p4 q4 p5 q5 p6 q6 p7 q7 p8 q8 p9 q9 p10 q10 p11 q11 p12 q12 p13 q13 p14 q14 p15 q15 p16 q16 p17 q17 p18 q18 p19 q19 p20 q20 p21 q21 p22 q22 p23 q23 p24 q24 p25 q25 p26 q26 p27 q27 p28 q28 p29 q29 p30 q30 p31 q31 p32 q32 p33 q33
  have p0 := cellB E2.out.a 0
  have q0 := cellB E2.out.b 0
  have p1 := cellB E2.out.a 1
  have q1 := cellB E2.out.b 1
  have p2 := cellB E2.out.a 2
  have q2 := cellB E2.out.b 2
  have p3 := cellB E2.out.a 3
  have q3 := cellB E2.out.b 3
  have p4 := cellB E2.out.a 4
  have q4 := cellB E2.out.b 4
  have p5 := cellB E2.out.a 5
  have q5 := cellB E2.out.b 5
  have p6 := cellB E2.out.a 6
  have q6 := cellB E2.out.b 6
  have p7 := cellB E2.out.a 7
  have q7 := cellB E2.out.b 7
  have p8 := cellB E2.out.a 8
  have q8 := cellB E2.out.b 8
  have p9 := cellB E2.out.a 9
  have q9 := cellB E2.out.b 9
  have p10 := cellB E2.out.a 10
  have q10 := cellB E2.out.b 10
  have p11 := cellB E2.out.a 11
  have q11 := cellB E2.out.b 11
  have p12 := cellB E2.out.a 12
  have q12 := cellB E2.out.b 12
  have p13 := cellB E2.out.a 13
  have q13 := cellB E2.out.b 13
  have p14 := cellB E2.out.a 14
  have q14 := cellB E2.out.b 14
  have p15 := cellB E2.out.a 15
  have q15 := cellB E2.out.b 15
  have p16 := cellB E2.out.a 16
  have q16 := cellB E2.out.b 16
  have p17 := cellB E2.out.a 17
  have q17 := cellB E2.out.b 17
  have p18 := cellB E2.out.a 18
  have q18 := cellB E2.out.b 18
  have p19 := cellB E2.out.a 19
  have q19 := cellB E2.out.b 19
  have p20 := cellB E2.out.a 20
  have q20 := cellB E2.out.b 20
  have p21 := cellB E2.out.a 21
  have q21 := cellB E2.out.b 21
  have p22 := cellB E2.out.a 22
  have q22 := cellB E2.out.b 22
  have p23 := cellB E2.out.a 23
  have q23 := cellB E2.out.b 23
  have p24 := cellB E2.out.a 24
  have q24 := cellB E2.out.b 24
  have p25 := cellB E2.out.a 25
  have q25 := cellB E2.out.b 25
  have p26 := cellB E2.out.a 26
  have q26 := cellB E2.out.b 26
  have p27 := cellB E2.out.a 27
  have q27 := cellB E2.out.b 27
  have p28 := cellB E2.out.a 28
  have q28 := cellB E2.out.b 28
  have p29 := cellB E2.out.a 29
  have q29 := cellB E2.out.b 29
  have p30 := cellB E2.out.a 30
  have q30 := cellB E2.out.b 30
  have p31 := cellB E2.out.a 31
  have q31 := cellB E2.out.b 31
  have p32 := cellB E2.out.a 32
  have q32 := cellB E2.out.b 32
  have p33 := cellB E2.out.a 33
  have q33 := cellB E2.out.b 33
  go_wp2_with fail
  refine (LawLedger.eq_ledger a25 c25 L25 b25 d25 _ (H25.out.below (E2.out.bel)) (K25.out.below (E2.out.bel)) l25).mono ?_
  rintro e w3 ⟨rfl, hb3⟩
  have E3 : Hid (Eq2 w w3 #[.int .i64 x0, .int .i64 x1, .int .i64 x2, .int .i64 x3, .int .i64 x4, .int .i64 x5, .int .i64 x6, .int .i64 x7, .int .i64 x8, .int .i64 x9, .int .i64 x10, .int .i64 x11, .int .i64 x12, .int .i64 x13, .int .i64 x14, .int .i64 x15, .int .i64 x16, .int .i64 x17, .int .i64 x18, .int .i64 x19, .int .i64 x20, .int .i64 x21, .int .i64 x22, .int .i64 x23, .slice a24 L24.length c24, .slice a25 L25.length c25, .int .i64 x26, .slice a27 L27.length c27, .slice a28 L28.length c28, .int .i64 x29, .int .i64 x30, .int .i64 x31, .int .i64 x32, .slice a33 L33.length c33] 48 #[.int .i64 x0, .int .i64 x1, .int .i64 x2, .int .i64 x3, .int .i64 x4, .int .i64 x5, .int .i64 x6, .int .i64 x7, .int .i64 x8, .int .i64 x9, .int .i64 x10, .int .i64 x11, .int .i64 x12, .int .i64 x13, .int .i64 x14, .int .i64 x15, .int .i64 x16, .int .i64 x17, .int .i64 x18, .int .i64 x19, .int .i64 x20, .int .i64 x21, .int .i64 x22, .int .i64 x23, .slice b24 L24.length d24, .slice b25 L25.length d25, .int .i64 x26, .slice b27 L27.length d27, .slice b28 L28.length d28, .int .i64 x29, .int .i64 x30, .int .i64 x31, .int .i64 x32, .slice b33 L33.length d33] 48) := E2.out.next hb3
  clear hb3 E2 p0 q0 p1 q1 p2 q2 p3 q3 p4 q4 p5 q5 p6 q6 p7 q7 p8 q8 p9 q9 p10 q10 p11 q11 p12 q12 p13 q13 p14 q14 p15 q15 p16 q16 p17 q17 p18 q18 p19 q19 p20 q20 p21 q21 p22 q22 p23 q23 p24 q24 p25 q25 p26 q26 p27 q27 p28 q28 p29 q29 p30 q30 p31 q31 p32 q32 p33 q33
  have p0 := cellB E3.out.a 0
  have q0 := cellB E3.out.b 0
  have p1 := cellB E3.out.a 1
  have q1 := cellB E3.out.b 1
  have p2 := cellB E3.out.a 2
  have q2 := cellB E3.out.b 2
  have p3 := cellB E3.out.a 3
  have q3 := cellB E3.out.b 3
  have p4 := cellB E3.out.a 4
  have q4 := cellB E3.out.b 4
  have p5 := cellB E3.out.a 5
  have q5 := cellB E3.out.b 5
  have p6 := cellB E3.out.a 6
  have q6 := cellB E3.out.b 6
  have p7 := cellB E3.out.a 7
  have q7 := cellB E3.out.b 7
  have p8 := cellB E3.out.a 8
  have q8 := cellB E3.out.b 8
  have p9 := cellB E3.out.a 9
  have q9 := cellB E3.out.b 9
  have p10 := cellB E3.out.a 10
  have q10 := cellB E3.out.b 10
  have p11 := cellB E3.out.a 11
  have q11 := cellB E3.out.b 11
  have p12 := cellB E3.out.a 12
  have q12 := cellB E3.out.b 12
  have p13 := cellB E3.out.a 13
  have q13 := cellB E3.out.b 13
  have p14 := cellB E3.out.a 14
  have q14 := cellB E3.out.b 14
  have p15 := cellB E3.out.a 15
  have q15 := cellB E3.out.b 15
  have p16 := cellB E3.out.a 16
  have q16 := cellB E3.out.b 16
  have p17 := cellB E3.out.a 17
  have q17 := cellB E3.out.b 17
  have p18 := cellB E3.out.a 18
  have q18 := cellB E3.out.b 18
  have p19 := cellB E3.out.a 19
  have q19 := cellB E3.out.b 19
  have p20 := cellB E3.out.a 20
  have q20 := cellB E3.out.b 20
  have p21 := cellB E3.out.a 21
  have q21 := cellB E3.out.b 21
  have p22 := cellB E3.out.a 22
  have q22 := cellB E3.out.b 22
  have p23 := cellB E3.out.a 23
  have q23 := cellB E3.out.b 23
  have p24 := cellB E3.out.a 24
  have q24 := cellB E3.out.b 24
  have p25 := cellB E3.out.a 25
  have q25 := cellB E3.out.b 25
  have p26 := cellB E3.out.a 26
  have q26 := cellB E3.out.b 26
  have p27 := cellB E3.out.a 27
  have q27 := cellB E3.out.b 27
  have p28 := cellB E3.out.a 28
  have q28 := cellB E3.out.b 28
  have p29 := cellB E3.out.a 29
  have q29 := cellB E3.out.b 29
  have p30 := cellB E3.out.a 30
  have q30 := cellB E3.out.b 30
  have p31 := cellB E3.out.a 31
  have q31 := cellB E3.out.b 31
  have p32 := cellB E3.out.a 32
  have q32 := cellB E3.out.b 32
  have p33 := cellB E3.out.a 33
  have q33 := cellB E3.out.b 33
  go_wp2_with fail
  refine (LawQueue.eq_queue x26 a27 c27 L27 b27 d27 _ (H27.out.below (E3.out.bel)) (K27.out.below (E3.out.bel)) l27).mono ?_
  rintro e w4 ⟨rfl, hb4⟩
  have E4 : Hid (Eq2 w w4 #[.int .i64 x0, .int .i64 x1, .int .i64 x2, .int .i64 x3, .int .i64 x4, .int .i64 x5, .int .i64 x6, .int .i64 x7, .int .i64 x8, .int .i64 x9, .int .i64 x10, .int .i64 x11, .int .i64 x12, .int .i64 x13, .int .i64 x14, .int .i64 x15, .int .i64 x16, .int .i64 x17, .int .i64 x18, .int .i64 x19, .int .i64 x20, .int .i64 x21, .int .i64 x22, .int .i64 x23, .slice a24 L24.length c24, .slice a25 L25.length c25, .int .i64 x26, .slice a27 L27.length c27, .slice a28 L28.length c28, .int .i64 x29, .int .i64 x30, .int .i64 x31, .int .i64 x32, .slice a33 L33.length c33] 48 #[.int .i64 x0, .int .i64 x1, .int .i64 x2, .int .i64 x3, .int .i64 x4, .int .i64 x5, .int .i64 x6, .int .i64 x7, .int .i64 x8, .int .i64 x9, .int .i64 x10, .int .i64 x11, .int .i64 x12, .int .i64 x13, .int .i64 x14, .int .i64 x15, .int .i64 x16, .int .i64 x17, .int .i64 x18, .int .i64 x19, .int .i64 x20, .int .i64 x21, .int .i64 x22, .int .i64 x23, .slice b24 L24.length d24, .slice b25 L25.length d25, .int .i64 x26, .slice b27 L27.length d27, .slice b28 L28.length d28, .int .i64 x29, .int .i64 x30, .int .i64 x31, .int .i64 x32, .slice b33 L33.length d33] 48) := E3.out.next hb4
  clear hb4 E3 p0 q0 p1 q1 p2 q2 p3 q3 p4 q4 p5 q5 p6 q6 p7 q7 p8 q8 p9 q9 p10 q10 p11 q11 p12 q12 p13 q13 p14 q14 p15 q15 p16 q16 p17 q17 p18 q18 p19 q19 p20 q20 p21 q21 p22 q22 p23 q23 p24 q24 p25 q25 p26 q26 p27 q27 p28 q28 p29 q29 p30 q30 p31 q31 p32 q32 p33 q33
  have p0 := cellB E4.out.a 0
  have q0 := cellB E4.out.b 0
  have p1 := cellB E4.out.a 1
  have q1 := cellB E4.out.b 1
  have p2 := cellB E4.out.a 2
  have q2 := cellB E4.out.b 2
  have p3 := cellB E4.out.a 3
  have q3 := cellB E4.out.b 3
  have p4 := cellB E4.out.a 4
  have q4 := cellB E4.out.b 4
  have p5 := cellB E4.out.a 5
  have q5 := cellB E4.out.b 5
  have p6 := cellB E4.out.a 6
  have q6 := cellB E4.out.b 6
  have p7 := cellB E4.out.a 7
  have q7 := cellB E4.out.b 7
  have p8 := cellB E4.out.a 8
  have q8 := cellB E4.out.b 8
  have p9 := cellB E4.out.a 9
  have q9 := cellB E4.out.b 9
  have p10 := cellB E4.out.a 10
  have q10 := cellB E4.out.b 10
  have p11 := cellB E4.out.a 11
  have q11 := cellB E4.out.b 11
  have p12 := cellB E4.out.a 12
  have q12 := cellB E4.out.b 12
  have p13 := cellB E4.out.a 13
  have q13 := cellB E4.out.b 13
  have p14 := cellB E4.out.a 14
  have q14 := cellB E4.out.b 14
  have p15 := cellB E4.out.a 15
  have q15 := cellB E4.out.b 15
  have p16 := cellB E4.out.a 16
  have q16 := cellB E4.out.b 16
  have p17 := cellB E4.out.a 17
  have q17 := cellB E4.out.b 17
  have p18 := cellB E4.out.a 18
  have q18 := cellB E4.out.b 18
  have p19 := cellB E4.out.a 19
  have q19 := cellB E4.out.b 19
  have p20 := cellB E4.out.a 20
  have q20 := cellB E4.out.b 20
  have p21 := cellB E4.out.a 21
  have q21 := cellB E4.out.b 21
  have p22 := cellB E4.out.a 22
  have q22 := cellB E4.out.b 22
  have p23 := cellB E4.out.a 23
  have q23 := cellB E4.out.b 23
  have p24 := cellB E4.out.a 24
  have q24 := cellB E4.out.b 24
  have p25 := cellB E4.out.a 25
  have q25 := cellB E4.out.b 25
  have p26 := cellB E4.out.a 26
  have q26 := cellB E4.out.b 26
  have p27 := cellB E4.out.a 27
  have q27 := cellB E4.out.b 27
  have p28 := cellB E4.out.a 28
  have q28 := cellB E4.out.b 28
  have p29 := cellB E4.out.a 29
  have q29 := cellB E4.out.b 29
  have p30 := cellB E4.out.a 30
  have q30 := cellB E4.out.b 30
  have p31 := cellB E4.out.a 31
  have q31 := cellB E4.out.b 31
  have p32 := cellB E4.out.a 32
  have q32 := cellB E4.out.b 32
  have p33 := cellB E4.out.a 33
  have q33 := cellB E4.out.b 33
  go_wp2_with fail
  refine (CodelRows.eq_any a28 b28 c28 d28 L28 _ (H28.out.below (E4.out.bel)) (K28.out.below (E4.out.bel)) l28).mono ?_
  rintro e w5 ⟨rfl, hb5⟩
  have E5 : Hid (Eq2 w w5 #[.int .i64 x0, .int .i64 x1, .int .i64 x2, .int .i64 x3, .int .i64 x4, .int .i64 x5, .int .i64 x6, .int .i64 x7, .int .i64 x8, .int .i64 x9, .int .i64 x10, .int .i64 x11, .int .i64 x12, .int .i64 x13, .int .i64 x14, .int .i64 x15, .int .i64 x16, .int .i64 x17, .int .i64 x18, .int .i64 x19, .int .i64 x20, .int .i64 x21, .int .i64 x22, .int .i64 x23, .slice a24 L24.length c24, .slice a25 L25.length c25, .int .i64 x26, .slice a27 L27.length c27, .slice a28 L28.length c28, .int .i64 x29, .int .i64 x30, .int .i64 x31, .int .i64 x32, .slice a33 L33.length c33] 48 #[.int .i64 x0, .int .i64 x1, .int .i64 x2, .int .i64 x3, .int .i64 x4, .int .i64 x5, .int .i64 x6, .int .i64 x7, .int .i64 x8, .int .i64 x9, .int .i64 x10, .int .i64 x11, .int .i64 x12, .int .i64 x13, .int .i64 x14, .int .i64 x15, .int .i64 x16, .int .i64 x17, .int .i64 x18, .int .i64 x19, .int .i64 x20, .int .i64 x21, .int .i64 x22, .int .i64 x23, .slice b24 L24.length d24, .slice b25 L25.length d25, .int .i64 x26, .slice b27 L27.length d27, .slice b28 L28.length d28, .int .i64 x29, .int .i64 x30, .int .i64 x31, .int .i64 x32, .slice b33 L33.length d33] 48) := E4.out.next hb5
  clear hb5 E4 p0 q0 p1 q1 p2 q2 p3 q3 p4 q4 p5 q5 p6 q6 p7 q7 p8 q8 p9 q9 p10 q10 p11 q11 p12 q12 p13 q13 p14 q14 p15 q15 p16 q16 p17 q17 p18 q18 p19 q19 p20 q20 p21 q21 p22 q22 p23 q23 p24 q24 p25 q25 p26 q26 p27 q27 p28 q28 p29 q29 p30 q30 p31 q31 p32 q32 p33 q33
  have p0 := cellB E5.out.a 0
  have q0 := cellB E5.out.b 0
  have p1 := cellB E5.out.a 1
  have q1 := cellB E5.out.b 1
  have p2 := cellB E5.out.a 2
  have q2 := cellB E5.out.b 2
  have p3 := cellB E5.out.a 3
  have q3 := cellB E5.out.b 3
  have p4 := cellB E5.out.a 4
  have q4 := cellB E5.out.b 4
  have p5 := cellB E5.out.a 5
  have q5 := cellB E5.out.b 5
  have p6 := cellB E5.out.a 6
  have q6 := cellB E5.out.b 6
  have p7 := cellB E5.out.a 7
  have q7 := cellB E5.out.b 7
  have p8 := cellB E5.out.a 8
  have q8 := cellB E5.out.b 8
  have p9 := cellB E5.out.a 9
  have q9 := cellB E5.out.b 9
  have p10 := cellB E5.out.a 10
  have q10 := cellB E5.out.b 10
  have p11 := cellB E5.out.a 11
  have q11 := cellB E5.out.b 11
  have p12 := cellB E5.out.a 12
  have q12 := cellB E5.out.b 12
  have p13 := cellB E5.out.a 13
  have q13 := cellB E5.out.b 13
  have p14 := cellB E5.out.a 14
  have q14 := cellB E5.out.b 14
  have p15 := cellB E5.out.a 15
  have q15 := cellB E5.out.b 15
  have p16 := cellB E5.out.a 16
  have q16 := cellB E5.out.b 16
  have p17 := cellB E5.out.a 17
  have q17 := cellB E5.out.b 17
  have p18 := cellB E5.out.a 18
  have q18 := cellB E5.out.b 18
  have p19 := cellB E5.out.a 19
  have q19 := cellB E5.out.b 19
  have p20 := cellB E5.out.a 20
  have q20 := cellB E5.out.b 20
  have p21 := cellB E5.out.a 21
  have q21 := cellB E5.out.b 21
  have p22 := cellB E5.out.a 22
  have q22 := cellB E5.out.b 22
  have p23 := cellB E5.out.a 23
  have q23 := cellB E5.out.b 23
  have p24 := cellB E5.out.a 24
  have q24 := cellB E5.out.b 24
  have p25 := cellB E5.out.a 25
  have q25 := cellB E5.out.b 25
  have p26 := cellB E5.out.a 26
  have q26 := cellB E5.out.b 26
  have p27 := cellB E5.out.a 27
  have q27 := cellB E5.out.b 27
  have p28 := cellB E5.out.a 28
  have q28 := cellB E5.out.b 28
  have p29 := cellB E5.out.a 29
  have q29 := cellB E5.out.b 29
  have p30 := cellB E5.out.a 30
  have q30 := cellB E5.out.b 30
  have p31 := cellB E5.out.a 31
  have q31 := cellB E5.out.b 31
  have p32 := cellB E5.out.a 32
  have q32 := cellB E5.out.b 32
  have p33 := cellB E5.out.a 33
  have q33 := cellB E5.out.b 33
  go_wp2_with fail
  refine (FlatBucket.eq_one x29 x30 x31 x32 _).mono ?_
  rintro e w6 ⟨rfl, hb6⟩
  have E6 : Hid (Eq2 w w6 #[.int .i64 x0, .int .i64 x1, .int .i64 x2, .int .i64 x3, .int .i64 x4, .int .i64 x5, .int .i64 x6, .int .i64 x7, .int .i64 x8, .int .i64 x9, .int .i64 x10, .int .i64 x11, .int .i64 x12, .int .i64 x13, .int .i64 x14, .int .i64 x15, .int .i64 x16, .int .i64 x17, .int .i64 x18, .int .i64 x19, .int .i64 x20, .int .i64 x21, .int .i64 x22, .int .i64 x23, .slice a24 L24.length c24, .slice a25 L25.length c25, .int .i64 x26, .slice a27 L27.length c27, .slice a28 L28.length c28, .int .i64 x29, .int .i64 x30, .int .i64 x31, .int .i64 x32, .slice a33 L33.length c33] 48 #[.int .i64 x0, .int .i64 x1, .int .i64 x2, .int .i64 x3, .int .i64 x4, .int .i64 x5, .int .i64 x6, .int .i64 x7, .int .i64 x8, .int .i64 x9, .int .i64 x10, .int .i64 x11, .int .i64 x12, .int .i64 x13, .int .i64 x14, .int .i64 x15, .int .i64 x16, .int .i64 x17, .int .i64 x18, .int .i64 x19, .int .i64 x20, .int .i64 x21, .int .i64 x22, .int .i64 x23, .slice b24 L24.length d24, .slice b25 L25.length d25, .int .i64 x26, .slice b27 L27.length d27, .slice b28 L28.length d28, .int .i64 x29, .int .i64 x30, .int .i64 x31, .int .i64 x32, .slice b33 L33.length d33] 48) := E5.out.next hb6
  clear hb6 E5 p0 q0 p1 q1 p2 q2 p3 q3 p4 q4 p5 q5 p6 q6 p7 q7 p8 q8 p9 q9 p10 q10 p11 q11 p12 q12 p13 q13 p14 q14 p15 q15 p16 q16 p17 q17 p18 q18 p19 q19 p20 q20 p21 q21 p22 q22 p23 q23 p24 q24 p25 q25 p26 q26 p27 q27 p28 q28 p29 q29 p30 q30 p31 q31 p32 q32 p33 q33
  have p0 := cellB E6.out.a 0
  have q0 := cellB E6.out.b 0
  have p1 := cellB E6.out.a 1
  have q1 := cellB E6.out.b 1
  have p2 := cellB E6.out.a 2
  have q2 := cellB E6.out.b 2
  have p3 := cellB E6.out.a 3
  have q3 := cellB E6.out.b 3
  have p4 := cellB E6.out.a 4
  have q4 := cellB E6.out.b 4
  have p5 := cellB E6.out.a 5
  have q5 := cellB E6.out.b 5
  have p6 := cellB E6.out.a 6
  have q6 := cellB E6.out.b 6
  have p7 := cellB E6.out.a 7
  have q7 := cellB E6.out.b 7
  have p8 := cellB E6.out.a 8
  have q8 := cellB E6.out.b 8
  have p9 := cellB E6.out.a 9
  have q9 := cellB E6.out.b 9
  have p10 := cellB E6.out.a 10
  have q10 := cellB E6.out.b 10
  have p11 := cellB E6.out.a 11
  have q11 := cellB E6.out.b 11
  have p12 := cellB E6.out.a 12
  have q12 := cellB E6.out.b 12
  have p13 := cellB E6.out.a 13
  have q13 := cellB E6.out.b 13
  have p14 := cellB E6.out.a 14
  have q14 := cellB E6.out.b 14
  have p15 := cellB E6.out.a 15
  have q15 := cellB E6.out.b 15
  have p16 := cellB E6.out.a 16
  have q16 := cellB E6.out.b 16
  have p17 := cellB E6.out.a 17
  have q17 := cellB E6.out.b 17
  have p18 := cellB E6.out.a 18
  have q18 := cellB E6.out.b 18
  have p19 := cellB E6.out.a 19
  have q19 := cellB E6.out.b 19
  have p20 := cellB E6.out.a 20
  have q20 := cellB E6.out.b 20
  have p21 := cellB E6.out.a 21
  have q21 := cellB E6.out.b 21
  have p22 := cellB E6.out.a 22
  have q22 := cellB E6.out.b 22
  have p23 := cellB E6.out.a 23
  have q23 := cellB E6.out.b 23
  have p24 := cellB E6.out.a 24
  have q24 := cellB E6.out.b 24
  have p25 := cellB E6.out.a 25
  have q25 := cellB E6.out.b 25
  have p26 := cellB E6.out.a 26
  have q26 := cellB E6.out.b 26
  have p27 := cellB E6.out.a 27
  have q27 := cellB E6.out.b 27
  have p28 := cellB E6.out.a 28
  have q28 := cellB E6.out.b 28
  have p29 := cellB E6.out.a 29
  have q29 := cellB E6.out.b 29
  have p30 := cellB E6.out.a 30
  have q30 := cellB E6.out.b 30
  have p31 := cellB E6.out.a 31
  have q31 := cellB E6.out.b 31
  have p32 := cellB E6.out.a 32
  have q32 := cellB E6.out.b 32
  have p33 := cellB E6.out.a 33
  have q33 := cellB E6.out.b 33
  go_wp2_with fail
  refine (IntRows.eq_any a33 b33 c33 d33 L33 _ (H33.out.below (E6.out.bel)) (K33.out.below (E6.out.bel)) l33).mono ?_
  rintro e w7 ⟨rfl, hb7⟩
  have E7 : Hid (Eq2 w w7 #[.int .i64 x0, .int .i64 x1, .int .i64 x2, .int .i64 x3, .int .i64 x4, .int .i64 x5, .int .i64 x6, .int .i64 x7, .int .i64 x8, .int .i64 x9, .int .i64 x10, .int .i64 x11, .int .i64 x12, .int .i64 x13, .int .i64 x14, .int .i64 x15, .int .i64 x16, .int .i64 x17, .int .i64 x18, .int .i64 x19, .int .i64 x20, .int .i64 x21, .int .i64 x22, .int .i64 x23, .slice a24 L24.length c24, .slice a25 L25.length c25, .int .i64 x26, .slice a27 L27.length c27, .slice a28 L28.length c28, .int .i64 x29, .int .i64 x30, .int .i64 x31, .int .i64 x32, .slice a33 L33.length c33] 48 #[.int .i64 x0, .int .i64 x1, .int .i64 x2, .int .i64 x3, .int .i64 x4, .int .i64 x5, .int .i64 x6, .int .i64 x7, .int .i64 x8, .int .i64 x9, .int .i64 x10, .int .i64 x11, .int .i64 x12, .int .i64 x13, .int .i64 x14, .int .i64 x15, .int .i64 x16, .int .i64 x17, .int .i64 x18, .int .i64 x19, .int .i64 x20, .int .i64 x21, .int .i64 x22, .int .i64 x23, .slice b24 L24.length d24, .slice b25 L25.length d25, .int .i64 x26, .slice b27 L27.length d27, .slice b28 L28.length d28, .int .i64 x29, .int .i64 x30, .int .i64 x31, .int .i64 x32, .slice b33 L33.length d33] 48) := E6.out.next hb7
  clear hb7 E6 p0 q0 p1 q1 p2 q2 p3 q3 p4 q4 p5 q5 p6 q6 p7 q7 p8 q8 p9 q9 p10 q10 p11 q11 p12 q12 p13 q13 p14 q14 p15 q15 p16 q16 p17 q17 p18 q18 p19 q19 p20 q20 p21 q21 p22 q22 p23 q23 p24 q24 p25 q25 p26 q26 p27 q27 p28 q28 p29 q29 p30 q30 p31 q31 p32 q32 p33 q33
  have p0 := cellB E7.out.a 0
  have q0 := cellB E7.out.b 0
  have p1 := cellB E7.out.a 1
  have q1 := cellB E7.out.b 1
  have p2 := cellB E7.out.a 2
  have q2 := cellB E7.out.b 2
  have p3 := cellB E7.out.a 3
  have q3 := cellB E7.out.b 3
  have p4 := cellB E7.out.a 4
  have q4 := cellB E7.out.b 4
  have p5 := cellB E7.out.a 5
  have q5 := cellB E7.out.b 5
  have p6 := cellB E7.out.a 6
  have q6 := cellB E7.out.b 6
  have p7 := cellB E7.out.a 7
  have q7 := cellB E7.out.b 7
  have p8 := cellB E7.out.a 8
  have q8 := cellB E7.out.b 8
  have p9 := cellB E7.out.a 9
  have q9 := cellB E7.out.b 9
  have p10 := cellB E7.out.a 10
  have q10 := cellB E7.out.b 10
  have p11 := cellB E7.out.a 11
  have q11 := cellB E7.out.b 11
  have p12 := cellB E7.out.a 12
  have q12 := cellB E7.out.b 12
  have p13 := cellB E7.out.a 13
  have q13 := cellB E7.out.b 13
  have p14 := cellB E7.out.a 14
  have q14 := cellB E7.out.b 14
  have p15 := cellB E7.out.a 15
  have q15 := cellB E7.out.b 15
  have p16 := cellB E7.out.a 16
  have q16 := cellB E7.out.b 16
  have p17 := cellB E7.out.a 17
  have q17 := cellB E7.out.b 17
  have p18 := cellB E7.out.a 18
  have q18 := cellB E7.out.b 18
  have p19 := cellB E7.out.a 19
  have q19 := cellB E7.out.b 19
  have p20 := cellB E7.out.a 20
  have q20 := cellB E7.out.b 20
  have p21 := cellB E7.out.a 21
  have q21 := cellB E7.out.b 21
  have p22 := cellB E7.out.a 22
  have q22 := cellB E7.out.b 22
  have p23 := cellB E7.out.a 23
  have q23 := cellB E7.out.b 23
  have p24 := cellB E7.out.a 24
  have q24 := cellB E7.out.b 24
  have p25 := cellB E7.out.a 25
  have q25 := cellB E7.out.b 25
  have p26 := cellB E7.out.a 26
  have q26 := cellB E7.out.b 26
  have p27 := cellB E7.out.a 27
  have q27 := cellB E7.out.b 27
  have p28 := cellB E7.out.a 28
  have q28 := cellB E7.out.b 28
  have p29 := cellB E7.out.a 29
  have q29 := cellB E7.out.b 29
  have p30 := cellB E7.out.a 30
  have q30 := cellB E7.out.b 30
  have p31 := cellB E7.out.a 31
  have q31 := cellB E7.out.b 31
  have p32 := cellB E7.out.a 32
  have q32 := cellB E7.out.b 32
  have p33 := cellB E7.out.a 33
  have q33 := cellB E7.out.b 33
  go_wp2
  go_ret
  exact ⟨rfl, E7.out.bel⟩
set_option maxHeartbeats 4000000 in
theorem mark_adm (x0 : Int) (x1 : Int) (x2 : Int) (x3 : Int) (x4 : Int) (x5 : Int) (x6 : Int) (x7 : Int) (x8 : Int) (x9 : Int) (x10 : Int) (x11 : Int) (x12 : Int) (x13 : Int) (x14 : Int) (x15 : Int) (x16 : Int) (x17 : Int) (x18 : Int) (x19 : Int) (x20 : Int) (x21 : Int) (x22 : Int) (x23 : Int) (x26 : Int) (x29 : Int) (x30 : Int) (x31 : Int) (x32 : Int) (a24 : Option Addr) (c24 : Nat) (L24 : List SampleKit.Sample) (a25 : Option Addr) (c25 : Nat) (L25 : List SlotKit.Slot) (a27 : Option Addr) (c27 : Nat) (L27 : List ReqKit.Req) (a28 : Option Addr) (c28 : Nat) (L28 : List CodelKit.Codel) (a33 : Option Addr) (c33 : Nat) (L33 : List Int) (k lo : Nat) (kI : Int) (w : World) (h : Holds w lo [⟨a24, 170, 2, (L24).map SampleKit.cells⟩, ⟨a25, 105, 5, (L25).map SlotKit.cells⟩, ⟨a27, 161, 6, (L27).map ReqKit.cells⟩, ⟨a28, 87, 6, (L28).map CodelKit.cells⟩, ⟨a33, 3, 1, (L33).map IntKit.cells⟩]) (l24 : L24.length ≤ 1048577) (l25 : L25.length ≤ 1048577) (l27 : L27.length ≤ 1048577) (l28 : L28.length ≤ 1048577) (l33 : L33.length ≤ 1048577) (hk : k ≤ 300000000) (hkI : kI = (k : Int)) :
    Calls Try.prog 14 #[.agg #[.int .i64 x0, .int .i64 x1, .int .i64 x2, .int .i64 x3, .int .i64 x4, .int .i64 x5, .int .i64 x6, .int .i64 x7, .int .i64 x8, .int .i64 x9, .int .i64 x10, .int .i64 x11, .int .i64 x12, .int .i64 x13, .int .i64 x14, .int .i64 x15, .int .i64 x16, .int .i64 x17, .int .i64 x18, .int .i64 x19, .int .i64 x20, .int .i64 x21, .int .i64 x22, .int .i64 x23, .slice a24 L24.length c24, .slice a25 L25.length c25, .int .i64 x26, .slice a27 L27.length c27, .slice a28 L28.length c28, .int .i64 x29, .int .i64 x30, .int .i64 x31, .int .i64 x32, .slice a33 L33.length c33], .int .i64 kI] w fun e w' => e = .returned (.int .i64 (kI + 2 * (L24.length : Int) + 5 * (L25.length : Int) + 6 * (L27.length : Int) + 6 * (L28.length : Int) + 1 * (L33.length : Int))) ∧ Holds w' lo [⟨a24, 170, 2, ((SampleRows.marks (k) L24.length)).map SampleKit.cells⟩, ⟨a25, 105, 5, ((SlotRows.marks (k + 2 * L24.length) L25.length)).map SlotKit.cells⟩, ⟨a27, 161, 6, ((ReqRows.marks (k + 2 * L24.length + 5 * L25.length) L27.length)).map ReqKit.cells⟩, ⟨a28, 87, 6, ((CodelRows.marks (k + 2 * L24.length + 5 * L25.length + 6 * L27.length) L28.length)).map CodelKit.cells⟩, ⟨a33, 3, 1, ((IntRows.marks (k + 2 * L24.length + 5 * L25.length + 6 * L27.length + 6 * L28.length) L33.length)).map IntKit.cells⟩] ∧ Turn [⟨a24, 170, 2, (L24).map SampleKit.cells⟩, ⟨a25, 105, 5, (L25).map SlotKit.cells⟩, ⟨a27, 161, 6, (L27).map ReqKit.cells⟩, ⟨a28, 87, 6, (L28).map CodelKit.cells⟩, ⟨a33, 3, 1, (L33).map IntKit.cells⟩] w w' := by
  subst hkI
  obtain ⟨n1, hn1⟩ : ∃ n : Nat, k + 2 * L24.length = n := ⟨_, rfl⟩
  obtain ⟨n2, hn2⟩ : ∃ n : Nat, n1 + 5 * L25.length = n := ⟨_, rfl⟩
  obtain ⟨n3, hn3⟩ : ∃ n : Nat, n2 + 6 * L27.length = n := ⟨_, rfl⟩
  obtain ⟨n4, hn4⟩ : ∃ n : Nat, n3 + 6 * L28.length = n := ⟨_, rfl⟩
  rw [hn1, hn2, hn3, hn4]
  have O : Hid (Off w.heap.size [⟨a24, 170, 2, (L24).map SampleKit.cells⟩, ⟨a25, 105, 5, (L25).map SlotKit.cells⟩, ⟨a27, 161, 6, (L27).map ReqKit.cells⟩, ⟨a28, 87, 6, (L28).map CodelKit.cells⟩, ⟨a33, 3, 1, (L33).map IntKit.cells⟩]) := Off.above h (Nat.le_refl _)
  have E0 : Hid (Mk w (w.alloc (.cells #[.int .i64 x0, .int .i64 x1, .int .i64 x2, .int .i64 x3, .int .i64 x4, .int .i64 x5, .int .i64 x6, .int .i64 x7, .int .i64 x8, .int .i64 x9, .int .i64 x10, .int .i64 x11, .int .i64 x12, .int .i64 x13, .int .i64 x14, .int .i64 x15, .int .i64 x16, .int .i64 x17, .int .i64 x18, .int .i64 x19, .int .i64 x20, .int .i64 x21, .int .i64 x22, .int .i64 x23, .slice a24 L24.length c24, .slice a25 L25.length c25, .int .i64 x26, .slice a27 L27.length c27, .slice a28 L28.length c28, .int .i64 x29, .int .i64 x30, .int .i64 x31, .int .i64 x32, .slice a33 L33.length c33] 48)) #[.int .i64 x0, .int .i64 x1, .int .i64 x2, .int .i64 x3, .int .i64 x4, .int .i64 x5, .int .i64 x6, .int .i64 x7, .int .i64 x8, .int .i64 x9, .int .i64 x10, .int .i64 x11, .int .i64 x12, .int .i64 x13, .int .i64 x14, .int .i64 x15, .int .i64 x16, .int .i64 x17, .int .i64 x18, .int .i64 x19, .int .i64 x20, .int .i64 x21, .int .i64 x22, .int .i64 x23, .slice a24 L24.length c24, .slice a25 L25.length c25, .int .i64 x26, .slice a27 L27.length c27, .slice a28 L28.length c28, .int .i64 x29, .int .i64 x30, .int .i64 x31, .int .i64 x32, .slice a33 L33.length c33] 48 lo [⟨a24, 170, 2, (L24).map SampleKit.cells⟩, ⟨a25, 105, 5, (L25).map SlotKit.cells⟩, ⟨a27, 161, 6, (L27).map ReqKit.cells⟩, ⟨a28, 87, 6, (L28).map CodelKit.cells⟩, ⟨a33, 3, 1, (L33).map IntKit.cells⟩] [⟨a24, 170, 2, (L24).map SampleKit.cells⟩, ⟨a25, 105, 5, (L25).map SlotKit.cells⟩, ⟨a27, 161, 6, (L27).map ReqKit.cells⟩, ⟨a28, 87, 6, (L28).map CodelKit.cells⟩, ⟨a33, 3, 1, (L33).map IntKit.cells⟩]) := Mk.start h _ _
  clear h
  go_enter Try.func14, Try.ntmps14
  go_wp2_with fail
  refine (LawLim.mark_lim x15 x16 x17 x18 x19 x20 x21 x22 x23 a24 c24 L24 k lo _ _ (Holds.mid (l1 := []) (ms := [⟨a24, 170, 2, (L24).map SampleKit.cells⟩]) (l2 := [⟨a25, 105, 5, (L25).map SlotKit.cells⟩, ⟨a27, 161, 6, (L27).map ReqKit.cells⟩, ⟨a28, 87, 6, (L28).map CodelKit.cells⟩, ⟨a33, 3, 1, (L33).map IntKit.cells⟩]) E0.out.holds) l24 (by omega) rfl).mono ?_
  rintro e w1 ⟨rfl, hh1, tt1⟩
  have E1 : Hid (Mk w w1 #[.int .i64 x0, .int .i64 x1, .int .i64 x2, .int .i64 x3, .int .i64 x4, .int .i64 x5, .int .i64 x6, .int .i64 x7, .int .i64 x8, .int .i64 x9, .int .i64 x10, .int .i64 x11, .int .i64 x12, .int .i64 x13, .int .i64 x14, .int .i64 x15, .int .i64 x16, .int .i64 x17, .int .i64 x18, .int .i64 x19, .int .i64 x20, .int .i64 x21, .int .i64 x22, .int .i64 x23, .slice a24 L24.length c24, .slice a25 L25.length c25, .int .i64 x26, .slice a27 L27.length c27, .slice a28 L28.length c28, .int .i64 x29, .int .i64 x30, .int .i64 x31, .int .i64 x32, .slice a33 L33.length c33] 48 lo [⟨a24, 170, 2, ((SampleRows.marks k L24.length)).map SampleKit.cells⟩, ⟨a25, 105, 5, (L25).map SlotKit.cells⟩, ⟨a27, 161, 6, (L27).map ReqKit.cells⟩, ⟨a28, 87, 6, (L28).map CodelKit.cells⟩, ⟨a33, 3, 1, (L33).map IntKit.cells⟩] [⟨a24, 170, 2, (L24).map SampleKit.cells⟩, ⟨a25, 105, 5, (L25).map SlotKit.cells⟩, ⟨a27, 161, 6, (L27).map ReqKit.cells⟩, ⟨a28, 87, 6, (L28).map CodelKit.cells⟩, ⟨a33, 3, 1, (L33).map IntKit.cells⟩]) := Mk.seg (l1 := []) (ms := [⟨a24, 170, 2, (L24).map SampleKit.cells⟩]) (ms' := [⟨a24, 170, 2, ((SampleRows.marks k L24.length)).map SampleKit.cells⟩]) (l2 := [⟨a25, 105, 5, (L25).map SlotKit.cells⟩, ⟨a27, 161, 6, (L27).map ReqKit.cells⟩, ⟨a28, 87, 6, (L28).map CodelKit.cells⟩, ⟨a33, 3, 1, (L33).map IntKit.cells⟩]) E0.out hh1 (segC (blk_len (by rw [List.length_map, List.length_map, SampleRows.marks_length])) rfl) tt1 (by simp) O.out
  clear hh1 tt1 E0
  rw [show (k : Int) + 2 * (L24.length : Int) = (n1 : Int) by omega]
  have p0 := cellB E1.out.a 0
  have p1 := cellB E1.out.a 1
  have p2 := cellB E1.out.a 2
  have p3 := cellB E1.out.a 3
  have p4 := cellB E1.out.a 4
  have p5 := cellB E1.out.a 5
  have p6 := cellB E1.out.a 6
  have p7 := cellB E1.out.a 7
  have p8 := cellB E1.out.a 8
  have p9 := cellB E1.out.a 9
  have p10 := cellB E1.out.a 10
  have p11 := cellB E1.out.a 11
  have p12 := cellB E1.out.a 12
  have p13 := cellB E1.out.a 13
  have p14 := cellB E1.out.a 14
  have p15 := cellB E1.out.a 15
  have p16 := cellB E1.out.a 16
  have p17 := cellB E1.out.a 17
  have p18 := cellB E1.out.a 18
  have p19 := cellB E1.out.a 19
  have p20 := cellB E1.out.a 20
  have p21 := cellB E1.out.a 21
  have p22 := cellB E1.out.a 22
  have p23 := cellB E1.out.a 23
  have p24 := cellB E1.out.a 24
  have p25 := cellB E1.out.a 25
  have p26 := cellB E1.out.a 26
  have p27 := cellB E1.out.a 27
  have p28 := cellB E1.out.a 28
  have p29 := cellB E1.out.a 29
  have p30 := cellB E1.out.a 30
  have p31 := cellB E1.out.a 31
  have p32 := cellB E1.out.a 32
  have p33 := cellB E1.out.a 33
  go_wp2_with fail
  refine (LawLedger.mark_ledger a25 c25 L25 n1 lo _ _ (Holds.mid (l1 := [⟨a24, 170, 2, ((SampleRows.marks k L24.length)).map SampleKit.cells⟩]) (ms := [⟨a25, 105, 5, (L25).map SlotKit.cells⟩]) (l2 := [⟨a27, 161, 6, (L27).map ReqKit.cells⟩, ⟨a28, 87, 6, (L28).map CodelKit.cells⟩, ⟨a33, 3, 1, (L33).map IntKit.cells⟩]) E1.out.holds) l25 (by omega) rfl).mono ?_
  rintro e w2 ⟨rfl, hh2, tt2⟩
  have E2 : Hid (Mk w w2 #[.int .i64 x0, .int .i64 x1, .int .i64 x2, .int .i64 x3, .int .i64 x4, .int .i64 x5, .int .i64 x6, .int .i64 x7, .int .i64 x8, .int .i64 x9, .int .i64 x10, .int .i64 x11, .int .i64 x12, .int .i64 x13, .int .i64 x14, .int .i64 x15, .int .i64 x16, .int .i64 x17, .int .i64 x18, .int .i64 x19, .int .i64 x20, .int .i64 x21, .int .i64 x22, .int .i64 x23, .slice a24 L24.length c24, .slice a25 L25.length c25, .int .i64 x26, .slice a27 L27.length c27, .slice a28 L28.length c28, .int .i64 x29, .int .i64 x30, .int .i64 x31, .int .i64 x32, .slice a33 L33.length c33] 48 lo [⟨a24, 170, 2, ((SampleRows.marks k L24.length)).map SampleKit.cells⟩, ⟨a25, 105, 5, ((SlotRows.marks n1 L25.length)).map SlotKit.cells⟩, ⟨a27, 161, 6, (L27).map ReqKit.cells⟩, ⟨a28, 87, 6, (L28).map CodelKit.cells⟩, ⟨a33, 3, 1, (L33).map IntKit.cells⟩] [⟨a24, 170, 2, (L24).map SampleKit.cells⟩, ⟨a25, 105, 5, (L25).map SlotKit.cells⟩, ⟨a27, 161, 6, (L27).map ReqKit.cells⟩, ⟨a28, 87, 6, (L28).map CodelKit.cells⟩, ⟨a33, 3, 1, (L33).map IntKit.cells⟩]) := Mk.seg (l1 := [⟨a24, 170, 2, ((SampleRows.marks k L24.length)).map SampleKit.cells⟩]) (ms := [⟨a25, 105, 5, (L25).map SlotKit.cells⟩]) (ms' := [⟨a25, 105, 5, ((SlotRows.marks n1 L25.length)).map SlotKit.cells⟩]) (l2 := [⟨a27, 161, 6, (L27).map ReqKit.cells⟩, ⟨a28, 87, 6, (L28).map CodelKit.cells⟩, ⟨a33, 3, 1, (L33).map IntKit.cells⟩]) E1.out hh2 (segC (blk_len (by rw [List.length_map, List.length_map, SlotRows.marks_length])) rfl) tt2 (by simp) O.out
  clear hh2 tt2 E1 p0 p1 p2 p3 p4 p5 p6 p7 p8 p9 p10 p11 p12 p13 p14 p15 p16 p17 p18 p19 p20 p21 p22 p23 p24 p25 p26 p27 p28 p29 p30 p31 p32 p33
  rw [show (n1 : Int) + 5 * (L25.length : Int) = (n2 : Int) by omega]
  have p0 := cellB E2.out.a 0
  have p1 := cellB E2.out.a 1
  have p2 := cellB E2.out.a 2
  have p3 := cellB E2.out.a 3
  have p4 := cellB E2.out.a 4
  have p5 := cellB E2.out.a 5
  have p6 := cellB E2.out.a 6
  have p7 := cellB E2.out.a 7
  have p8 := cellB E2.out.a 8
  have p9 := cellB E2.out.a 9
  have p10 := cellB E2.out.a 10
  have p11 := cellB E2.out.a 11
  have p12 := cellB E2.out.a 12
  have p13 := cellB E2.out.a 13
  have p14 := cellB E2.out.a 14
  have p15 := cellB E2.out.a 15
  have p16 := cellB E2.out.a 16
  have p17 := cellB E2.out.a 17
  have p18 := cellB E2.out.a 18
  have p19 := cellB E2.out.a 19
  have p20 := cellB E2.out.a 20
  have p21 := cellB E2.out.a 21
  have p22 := cellB E2.out.a 22
  have p23 := cellB E2.out.a 23
  have p24 := cellB E2.out.a 24
  have p25 := cellB E2.out.a 25
  have p26 := cellB E2.out.a 26
  have p27 := cellB E2.out.a 27
  have p28 := cellB E2.out.a 28
  have p29 := cellB E2.out.a 29
  have p30 := cellB E2.out.a 30
  have p31 := cellB E2.out.a 31
  have p32 := cellB E2.out.a 32
  have p33 := cellB E2.out.a 33
  go_wp2_with fail
  refine (LawQueue.mark_queue x26 a27 c27 L27 n2 lo _ _ (Holds.mid (l1 := [⟨a24, 170, 2, ((SampleRows.marks k L24.length)).map SampleKit.cells⟩, ⟨a25, 105, 5, ((SlotRows.marks n1 L25.length)).map SlotKit.cells⟩]) (ms := [⟨a27, 161, 6, (L27).map ReqKit.cells⟩]) (l2 := [⟨a28, 87, 6, (L28).map CodelKit.cells⟩, ⟨a33, 3, 1, (L33).map IntKit.cells⟩]) E2.out.holds) l27 (by omega) rfl).mono ?_
  rintro e w3 ⟨rfl, hh3, tt3⟩
  have E3 : Hid (Mk w w3 #[.int .i64 x0, .int .i64 x1, .int .i64 x2, .int .i64 x3, .int .i64 x4, .int .i64 x5, .int .i64 x6, .int .i64 x7, .int .i64 x8, .int .i64 x9, .int .i64 x10, .int .i64 x11, .int .i64 x12, .int .i64 x13, .int .i64 x14, .int .i64 x15, .int .i64 x16, .int .i64 x17, .int .i64 x18, .int .i64 x19, .int .i64 x20, .int .i64 x21, .int .i64 x22, .int .i64 x23, .slice a24 L24.length c24, .slice a25 L25.length c25, .int .i64 x26, .slice a27 L27.length c27, .slice a28 L28.length c28, .int .i64 x29, .int .i64 x30, .int .i64 x31, .int .i64 x32, .slice a33 L33.length c33] 48 lo [⟨a24, 170, 2, ((SampleRows.marks k L24.length)).map SampleKit.cells⟩, ⟨a25, 105, 5, ((SlotRows.marks n1 L25.length)).map SlotKit.cells⟩, ⟨a27, 161, 6, ((ReqRows.marks n2 L27.length)).map ReqKit.cells⟩, ⟨a28, 87, 6, (L28).map CodelKit.cells⟩, ⟨a33, 3, 1, (L33).map IntKit.cells⟩] [⟨a24, 170, 2, (L24).map SampleKit.cells⟩, ⟨a25, 105, 5, (L25).map SlotKit.cells⟩, ⟨a27, 161, 6, (L27).map ReqKit.cells⟩, ⟨a28, 87, 6, (L28).map CodelKit.cells⟩, ⟨a33, 3, 1, (L33).map IntKit.cells⟩]) := Mk.seg (l1 := [⟨a24, 170, 2, ((SampleRows.marks k L24.length)).map SampleKit.cells⟩, ⟨a25, 105, 5, ((SlotRows.marks n1 L25.length)).map SlotKit.cells⟩]) (ms := [⟨a27, 161, 6, (L27).map ReqKit.cells⟩]) (ms' := [⟨a27, 161, 6, ((ReqRows.marks n2 L27.length)).map ReqKit.cells⟩]) (l2 := [⟨a28, 87, 6, (L28).map CodelKit.cells⟩, ⟨a33, 3, 1, (L33).map IntKit.cells⟩]) E2.out hh3 (segC (blk_len (by rw [List.length_map, List.length_map, ReqRows.marks_length])) rfl) tt3 (by simp) O.out
  clear hh3 tt3 E2 p0 p1 p2 p3 p4 p5 p6 p7 p8 p9 p10 p11 p12 p13 p14 p15 p16 p17 p18 p19 p20 p21 p22 p23 p24 p25 p26 p27 p28 p29 p30 p31 p32 p33
  rw [show (n2 : Int) + 6 * (L27.length : Int) = (n3 : Int) by omega]
  have p0 := cellB E3.out.a 0
  have p1 := cellB E3.out.a 1
  have p2 := cellB E3.out.a 2
  have p3 := cellB E3.out.a 3
  have p4 := cellB E3.out.a 4
  have p5 := cellB E3.out.a 5
  have p6 := cellB E3.out.a 6
  have p7 := cellB E3.out.a 7
  have p8 := cellB E3.out.a 8
  have p9 := cellB E3.out.a 9
  have p10 := cellB E3.out.a 10
  have p11 := cellB E3.out.a 11
  have p12 := cellB E3.out.a 12
  have p13 := cellB E3.out.a 13
  have p14 := cellB E3.out.a 14
  have p15 := cellB E3.out.a 15
  have p16 := cellB E3.out.a 16
  have p17 := cellB E3.out.a 17
  have p18 := cellB E3.out.a 18
  have p19 := cellB E3.out.a 19
  have p20 := cellB E3.out.a 20
  have p21 := cellB E3.out.a 21
  have p22 := cellB E3.out.a 22
  have p23 := cellB E3.out.a 23
  have p24 := cellB E3.out.a 24
  have p25 := cellB E3.out.a 25
  have p26 := cellB E3.out.a 26
  have p27 := cellB E3.out.a 27
  have p28 := cellB E3.out.a 28
  have p29 := cellB E3.out.a 29
  have p30 := cellB E3.out.a 30
  have p31 := cellB E3.out.a 31
  have p32 := cellB E3.out.a 32
  have p33 := cellB E3.out.a 33
  go_wp2_with fail
  refine (CodelRows.mark_any a28 c28 n3 L28 _ (E3.out.holds.get (by simp)) l28 (by omega)).mono ?_
  rintro e w4 ⟨rfl, ho4, hg4⟩
  have E4 : Hid (Mk w w4 #[.int .i64 x0, .int .i64 x1, .int .i64 x2, .int .i64 x3, .int .i64 x4, .int .i64 x5, .int .i64 x6, .int .i64 x7, .int .i64 x8, .int .i64 x9, .int .i64 x10, .int .i64 x11, .int .i64 x12, .int .i64 x13, .int .i64 x14, .int .i64 x15, .int .i64 x16, .int .i64 x17, .int .i64 x18, .int .i64 x19, .int .i64 x20, .int .i64 x21, .int .i64 x22, .int .i64 x23, .slice a24 L24.length c24, .slice a25 L25.length c25, .int .i64 x26, .slice a27 L27.length c27, .slice a28 L28.length c28, .int .i64 x29, .int .i64 x30, .int .i64 x31, .int .i64 x32, .slice a33 L33.length c33] 48 lo [⟨a24, 170, 2, ((SampleRows.marks k L24.length)).map SampleKit.cells⟩, ⟨a25, 105, 5, ((SlotRows.marks n1 L25.length)).map SlotKit.cells⟩, ⟨a27, 161, 6, ((ReqRows.marks n2 L27.length)).map ReqKit.cells⟩, ⟨a28, 87, 6, ((CodelRows.marks n3 L28.length)).map CodelKit.cells⟩, ⟨a33, 3, 1, (L33).map IntKit.cells⟩] [⟨a24, 170, 2, (L24).map SampleKit.cells⟩, ⟨a25, 105, 5, (L25).map SlotKit.cells⟩, ⟨a27, 161, 6, (L27).map ReqKit.cells⟩, ⟨a28, 87, 6, (L28).map CodelKit.cells⟩, ⟨a33, 3, 1, (L33).map IntKit.cells⟩]) := Mk.next (l1 := [⟨a24, 170, 2, ((SampleRows.marks k L24.length)).map SampleKit.cells⟩, ⟨a25, 105, 5, ((SlotRows.marks n1 L25.length)).map SlotKit.cells⟩, ⟨a27, 161, 6, ((ReqRows.marks n2 L27.length)).map ReqKit.cells⟩]) (l2 := [⟨a33, 3, 1, (L33).map IntKit.cells⟩]) (i := ⟨a28, 87, 6, (L28).map CodelKit.cells⟩) (i' := ⟨a28, 87, 6, ((CodelRows.marks n3 L28.length)).map CodelKit.cells⟩) E3.out (own_cells ho4) (blk_len (by rw [List.length_map, List.length_map, CodelRows.marks_length])) (Turn.one hg4) (by simp) O.out
  clear ho4 hg4 E3 p0 p1 p2 p3 p4 p5 p6 p7 p8 p9 p10 p11 p12 p13 p14 p15 p16 p17 p18 p19 p20 p21 p22 p23 p24 p25 p26 p27 p28 p29 p30 p31 p32 p33
  rw [show (n3 : Int) + 6 * (L28.length : Int) = (n4 : Int) by omega]
  have p0 := cellB E4.out.a 0
  have p1 := cellB E4.out.a 1
  have p2 := cellB E4.out.a 2
  have p3 := cellB E4.out.a 3
  have p4 := cellB E4.out.a 4
  have p5 := cellB E4.out.a 5
  have p6 := cellB E4.out.a 6
  have p7 := cellB E4.out.a 7
  have p8 := cellB E4.out.a 8
  have p9 := cellB E4.out.a 9
  have p10 := cellB E4.out.a 10
  have p11 := cellB E4.out.a 11
  have p12 := cellB E4.out.a 12
  have p13 := cellB E4.out.a 13
  have p14 := cellB E4.out.a 14
  have p15 := cellB E4.out.a 15
  have p16 := cellB E4.out.a 16
  have p17 := cellB E4.out.a 17
  have p18 := cellB E4.out.a 18
  have p19 := cellB E4.out.a 19
  have p20 := cellB E4.out.a 20
  have p21 := cellB E4.out.a 21
  have p22 := cellB E4.out.a 22
  have p23 := cellB E4.out.a 23
  have p24 := cellB E4.out.a 24
  have p25 := cellB E4.out.a 25
  have p26 := cellB E4.out.a 26
  have p27 := cellB E4.out.a 27
  have p28 := cellB E4.out.a 28
  have p29 := cellB E4.out.a 29
  have p30 := cellB E4.out.a 30
  have p31 := cellB E4.out.a 31
  have p32 := cellB E4.out.a 32
  have p33 := cellB E4.out.a 33
  go_wp2_with fail
  refine (IntRows.mark_any a33 c33 n4 L33 _ (E4.out.holds.get (by simp)) l33 (by omega)).mono ?_
  rintro e w5 ⟨rfl, ho5, hg5⟩
  have E5 : Hid (Mk w w5 #[.int .i64 x0, .int .i64 x1, .int .i64 x2, .int .i64 x3, .int .i64 x4, .int .i64 x5, .int .i64 x6, .int .i64 x7, .int .i64 x8, .int .i64 x9, .int .i64 x10, .int .i64 x11, .int .i64 x12, .int .i64 x13, .int .i64 x14, .int .i64 x15, .int .i64 x16, .int .i64 x17, .int .i64 x18, .int .i64 x19, .int .i64 x20, .int .i64 x21, .int .i64 x22, .int .i64 x23, .slice a24 L24.length c24, .slice a25 L25.length c25, .int .i64 x26, .slice a27 L27.length c27, .slice a28 L28.length c28, .int .i64 x29, .int .i64 x30, .int .i64 x31, .int .i64 x32, .slice a33 L33.length c33] 48 lo [⟨a24, 170, 2, ((SampleRows.marks k L24.length)).map SampleKit.cells⟩, ⟨a25, 105, 5, ((SlotRows.marks n1 L25.length)).map SlotKit.cells⟩, ⟨a27, 161, 6, ((ReqRows.marks n2 L27.length)).map ReqKit.cells⟩, ⟨a28, 87, 6, ((CodelRows.marks n3 L28.length)).map CodelKit.cells⟩, ⟨a33, 3, 1, ((IntRows.marks n4 L33.length)).map IntKit.cells⟩] [⟨a24, 170, 2, (L24).map SampleKit.cells⟩, ⟨a25, 105, 5, (L25).map SlotKit.cells⟩, ⟨a27, 161, 6, (L27).map ReqKit.cells⟩, ⟨a28, 87, 6, (L28).map CodelKit.cells⟩, ⟨a33, 3, 1, (L33).map IntKit.cells⟩]) := Mk.next (l1 := [⟨a24, 170, 2, ((SampleRows.marks k L24.length)).map SampleKit.cells⟩, ⟨a25, 105, 5, ((SlotRows.marks n1 L25.length)).map SlotKit.cells⟩, ⟨a27, 161, 6, ((ReqRows.marks n2 L27.length)).map ReqKit.cells⟩, ⟨a28, 87, 6, ((CodelRows.marks n3 L28.length)).map CodelKit.cells⟩]) (l2 := []) (i := ⟨a33, 3, 1, (L33).map IntKit.cells⟩) (i' := ⟨a33, 3, 1, ((IntRows.marks n4 L33.length)).map IntKit.cells⟩) E4.out (own_cells ho5) (blk_len (by rw [List.length_map, List.length_map, IntRows.marks_length])) (Turn.one hg5) (by simp) O.out
  clear ho5 hg5 E4 p0 p1 p2 p3 p4 p5 p6 p7 p8 p9 p10 p11 p12 p13 p14 p15 p16 p17 p18 p19 p20 p21 p22 p23 p24 p25 p26 p27 p28 p29 p30 p31 p32 p33
  go_wp2
  go_ret
  exact ⟨ret_intL (by omega), E5.out.holds, E5.out.turn⟩
set_option maxHeartbeats 4000000 in
theorem held_adm (x0 : Int) (x1 : Int) (x2 : Int) (x3 : Int) (x4 : Int) (x5 : Int) (x6 : Int) (x7 : Int) (x8 : Int) (x9 : Int) (x10 : Int) (x11 : Int) (x12 : Int) (x13 : Int) (x14 : Int) (x15 : Int) (x16 : Int) (x17 : Int) (x18 : Int) (x19 : Int) (x20 : Int) (x21 : Int) (x22 : Int) (x23 : Int) (x26 : Int) (x29 : Int) (x30 : Int) (x31 : Int) (x32 : Int) (a24 : Option Addr) (c24 : Nat) (L24 : List SampleKit.Sample) (a25 : Option Addr) (c25 : Nat) (L25 : List SlotKit.Slot) (a27 : Option Addr) (c27 : Nat) (L27 : List ReqKit.Req) (a28 : Option Addr) (c28 : Nat) (L28 : List CodelKit.Codel) (a33 : Option Addr) (c33 : Nat) (L33 : List Int) (k lo : Nat) (kI : Int) (w : World) (h : Holds w lo [⟨a24, 170, 2, ((SampleRows.marks (k) L24.length)).map SampleKit.cells⟩, ⟨a25, 105, 5, ((SlotRows.marks (k + 2 * L24.length) L25.length)).map SlotKit.cells⟩, ⟨a27, 161, 6, ((ReqRows.marks (k + 2 * L24.length + 5 * L25.length) L27.length)).map ReqKit.cells⟩, ⟨a28, 87, 6, ((CodelRows.marks (k + 2 * L24.length + 5 * L25.length + 6 * L27.length) L28.length)).map CodelKit.cells⟩, ⟨a33, 3, 1, ((IntRows.marks (k + 2 * L24.length + 5 * L25.length + 6 * L27.length + 6 * L28.length) L33.length)).map IntKit.cells⟩]) (l24 : L24.length ≤ 1048577) (l25 : L25.length ≤ 1048577) (l27 : L27.length ≤ 1048577) (l28 : L28.length ≤ 1048577) (l33 : L33.length ≤ 1048577) (hk : k ≤ 300000000) (hkI : kI = (k : Int)) :
    Calls Try.prog 15 #[.agg #[.int .i64 x0, .int .i64 x1, .int .i64 x2, .int .i64 x3, .int .i64 x4, .int .i64 x5, .int .i64 x6, .int .i64 x7, .int .i64 x8, .int .i64 x9, .int .i64 x10, .int .i64 x11, .int .i64 x12, .int .i64 x13, .int .i64 x14, .int .i64 x15, .int .i64 x16, .int .i64 x17, .int .i64 x18, .int .i64 x19, .int .i64 x20, .int .i64 x21, .int .i64 x22, .int .i64 x23, .slice a24 L24.length c24, .slice a25 L25.length c25, .int .i64 x26, .slice a27 L27.length c27, .slice a28 L28.length c28, .int .i64 x29, .int .i64 x30, .int .i64 x31, .int .i64 x32, .slice a33 L33.length c33], .int .i64 kI] w fun e w' => e = .returned (.int .i64 (kI + 2 * (L24.length : Int) + 5 * (L25.length : Int) + 6 * (L27.length : Int) + 6 * (L28.length : Int) + 1 * (L33.length : Int))) ∧ Below w.heap.size w w' := by
  subst hkI
  obtain ⟨n1, hn1⟩ : ∃ n : Nat, k + 2 * L24.length = n := ⟨_, rfl⟩
  obtain ⟨n2, hn2⟩ : ∃ n : Nat, n1 + 5 * L25.length = n := ⟨_, rfl⟩
  obtain ⟨n3, hn3⟩ : ∃ n : Nat, n2 + 6 * L27.length = n := ⟨_, rfl⟩
  obtain ⟨n4, hn4⟩ : ∃ n : Nat, n3 + 6 * L28.length = n := ⟨_, rfl⟩
  rw [hn1, hn2, hn3, hn4] at h
  have E0 : Hid (Hd w (w.alloc (.cells #[.int .i64 x0, .int .i64 x1, .int .i64 x2, .int .i64 x3, .int .i64 x4, .int .i64 x5, .int .i64 x6, .int .i64 x7, .int .i64 x8, .int .i64 x9, .int .i64 x10, .int .i64 x11, .int .i64 x12, .int .i64 x13, .int .i64 x14, .int .i64 x15, .int .i64 x16, .int .i64 x17, .int .i64 x18, .int .i64 x19, .int .i64 x20, .int .i64 x21, .int .i64 x22, .int .i64 x23, .slice a24 L24.length c24, .slice a25 L25.length c25, .int .i64 x26, .slice a27 L27.length c27, .slice a28 L28.length c28, .int .i64 x29, .int .i64 x30, .int .i64 x31, .int .i64 x32, .slice a33 L33.length c33] 48)) #[.int .i64 x0, .int .i64 x1, .int .i64 x2, .int .i64 x3, .int .i64 x4, .int .i64 x5, .int .i64 x6, .int .i64 x7, .int .i64 x8, .int .i64 x9, .int .i64 x10, .int .i64 x11, .int .i64 x12, .int .i64 x13, .int .i64 x14, .int .i64 x15, .int .i64 x16, .int .i64 x17, .int .i64 x18, .int .i64 x19, .int .i64 x20, .int .i64 x21, .int .i64 x22, .int .i64 x23, .slice a24 L24.length c24, .slice a25 L25.length c25, .int .i64 x26, .slice a27 L27.length c27, .slice a28 L28.length c28, .int .i64 x29, .int .i64 x30, .int .i64 x31, .int .i64 x32, .slice a33 L33.length c33] 48 lo [⟨a24, 170, 2, ((SampleRows.marks k L24.length)).map SampleKit.cells⟩, ⟨a25, 105, 5, ((SlotRows.marks n1 L25.length)).map SlotKit.cells⟩, ⟨a27, 161, 6, ((ReqRows.marks n2 L27.length)).map ReqKit.cells⟩, ⟨a28, 87, 6, ((CodelRows.marks n3 L28.length)).map CodelKit.cells⟩, ⟨a33, 3, 1, ((IntRows.marks n4 L33.length)).map IntKit.cells⟩]) := Hd.start h _ _
  clear h
  go_enter Try.func15, Try.ntmps15
  go_wp2_with fail
  refine (LawLim.held_lim x15 x16 x17 x18 x19 x20 x21 x22 x23 a24 c24 L24 k lo _ _ (Holds.mid (l1 := []) (ms := [⟨a24, 170, 2, ((SampleRows.marks k L24.length)).map SampleKit.cells⟩]) (l2 := [⟨a25, 105, 5, ((SlotRows.marks n1 L25.length)).map SlotKit.cells⟩, ⟨a27, 161, 6, ((ReqRows.marks n2 L27.length)).map ReqKit.cells⟩, ⟨a28, 87, 6, ((CodelRows.marks n3 L28.length)).map CodelKit.cells⟩, ⟨a33, 3, 1, ((IntRows.marks n4 L33.length)).map IntKit.cells⟩]) E0.out.holds) l24 (by omega) rfl).mono ?_
  rintro e w1 ⟨rfl, hb1⟩
  have E1 : Hid (Hd w w1 #[.int .i64 x0, .int .i64 x1, .int .i64 x2, .int .i64 x3, .int .i64 x4, .int .i64 x5, .int .i64 x6, .int .i64 x7, .int .i64 x8, .int .i64 x9, .int .i64 x10, .int .i64 x11, .int .i64 x12, .int .i64 x13, .int .i64 x14, .int .i64 x15, .int .i64 x16, .int .i64 x17, .int .i64 x18, .int .i64 x19, .int .i64 x20, .int .i64 x21, .int .i64 x22, .int .i64 x23, .slice a24 L24.length c24, .slice a25 L25.length c25, .int .i64 x26, .slice a27 L27.length c27, .slice a28 L28.length c28, .int .i64 x29, .int .i64 x30, .int .i64 x31, .int .i64 x32, .slice a33 L33.length c33] 48 lo [⟨a24, 170, 2, ((SampleRows.marks k L24.length)).map SampleKit.cells⟩, ⟨a25, 105, 5, ((SlotRows.marks n1 L25.length)).map SlotKit.cells⟩, ⟨a27, 161, 6, ((ReqRows.marks n2 L27.length)).map ReqKit.cells⟩, ⟨a28, 87, 6, ((CodelRows.marks n3 L28.length)).map CodelKit.cells⟩, ⟨a33, 3, 1, ((IntRows.marks n4 L33.length)).map IntKit.cells⟩]) := E0.out.next hb1
  clear hb1 E0
  rw [show (k : Int) + 2 * (L24.length : Int) = (n1 : Int) by omega]
  have z1 : ¬ (n1 : Int) < 0 := by omega
  have p0 := cellB E1.out.a 0
  have p1 := cellB E1.out.a 1
  have p2 := cellB E1.out.a 2
  have p3 := cellB E1.out.a 3
  have p4 := cellB E1.out.a 4
  have p5 := cellB E1.out.a 5
  have p6 := cellB E1.out.a 6
  have p7 := cellB E1.out.a 7
  have p8 := cellB E1.out.a 8
  have p9 := cellB E1.out.a 9
  have p10 := cellB E1.out.a 10
  have p11 := cellB E1.out.a 11
  have p12 := cellB E1.out.a 12
  have p13 := cellB E1.out.a 13
  have p14 := cellB E1.out.a 14
  have p15 := cellB E1.out.a 15
  have p16 := cellB E1.out.a 16
  have p17 := cellB E1.out.a 17
  have p18 := cellB E1.out.a 18
  have p19 := cellB E1.out.a 19
  have p20 := cellB E1.out.a 20
  have p21 := cellB E1.out.a 21
  have p22 := cellB E1.out.a 22
  have p23 := cellB E1.out.a 23
  have p24 := cellB E1.out.a 24
  have p25 := cellB E1.out.a 25
  have p26 := cellB E1.out.a 26
  have p27 := cellB E1.out.a 27
  have p28 := cellB E1.out.a 28
  have p29 := cellB E1.out.a 29
  have p30 := cellB E1.out.a 30
  have p31 := cellB E1.out.a 31
  have p32 := cellB E1.out.a 32
  have p33 := cellB E1.out.a 33
  go_wp2_with fail
  refine (LawLedger.held_ledger a25 c25 L25 n1 lo _ _ (Holds.mid (l1 := [⟨a24, 170, 2, ((SampleRows.marks k L24.length)).map SampleKit.cells⟩]) (ms := [⟨a25, 105, 5, ((SlotRows.marks n1 L25.length)).map SlotKit.cells⟩]) (l2 := [⟨a27, 161, 6, ((ReqRows.marks n2 L27.length)).map ReqKit.cells⟩, ⟨a28, 87, 6, ((CodelRows.marks n3 L28.length)).map CodelKit.cells⟩, ⟨a33, 3, 1, ((IntRows.marks n4 L33.length)).map IntKit.cells⟩]) E1.out.holds) l25 (by omega) rfl).mono ?_
  rintro e w2 ⟨rfl, hb2⟩
  have E2 : Hid (Hd w w2 #[.int .i64 x0, .int .i64 x1, .int .i64 x2, .int .i64 x3, .int .i64 x4, .int .i64 x5, .int .i64 x6, .int .i64 x7, .int .i64 x8, .int .i64 x9, .int .i64 x10, .int .i64 x11, .int .i64 x12, .int .i64 x13, .int .i64 x14, .int .i64 x15, .int .i64 x16, .int .i64 x17, .int .i64 x18, .int .i64 x19, .int .i64 x20, .int .i64 x21, .int .i64 x22, .int .i64 x23, .slice a24 L24.length c24, .slice a25 L25.length c25, .int .i64 x26, .slice a27 L27.length c27, .slice a28 L28.length c28, .int .i64 x29, .int .i64 x30, .int .i64 x31, .int .i64 x32, .slice a33 L33.length c33] 48 lo [⟨a24, 170, 2, ((SampleRows.marks k L24.length)).map SampleKit.cells⟩, ⟨a25, 105, 5, ((SlotRows.marks n1 L25.length)).map SlotKit.cells⟩, ⟨a27, 161, 6, ((ReqRows.marks n2 L27.length)).map ReqKit.cells⟩, ⟨a28, 87, 6, ((CodelRows.marks n3 L28.length)).map CodelKit.cells⟩, ⟨a33, 3, 1, ((IntRows.marks n4 L33.length)).map IntKit.cells⟩]) := E1.out.next hb2
  clear hb2 E1 p0 p1 p2 p3 p4 p5 p6 p7 p8 p9 p10 p11 p12 p13 p14 p15 p16 p17 p18 p19 p20 p21 p22 p23 p24 p25 p26 p27 p28 p29 p30 p31 p32 p33
  rw [show (n1 : Int) + 5 * (L25.length : Int) = (n2 : Int) by omega]
  have z2 : ¬ (n2 : Int) < 0 := by omega
  have p0 := cellB E2.out.a 0
  have p1 := cellB E2.out.a 1
  have p2 := cellB E2.out.a 2
  have p3 := cellB E2.out.a 3
  have p4 := cellB E2.out.a 4
  have p5 := cellB E2.out.a 5
  have p6 := cellB E2.out.a 6
  have p7 := cellB E2.out.a 7
  have p8 := cellB E2.out.a 8
  have p9 := cellB E2.out.a 9
  have p10 := cellB E2.out.a 10
  have p11 := cellB E2.out.a 11
  have p12 := cellB E2.out.a 12
  have p13 := cellB E2.out.a 13
  have p14 := cellB E2.out.a 14
  have p15 := cellB E2.out.a 15
  have p16 := cellB E2.out.a 16
  have p17 := cellB E2.out.a 17
  have p18 := cellB E2.out.a 18
  have p19 := cellB E2.out.a 19
  have p20 := cellB E2.out.a 20
  have p21 := cellB E2.out.a 21
  have p22 := cellB E2.out.a 22
  have p23 := cellB E2.out.a 23
  have p24 := cellB E2.out.a 24
  have p25 := cellB E2.out.a 25
  have p26 := cellB E2.out.a 26
  have p27 := cellB E2.out.a 27
  have p28 := cellB E2.out.a 28
  have p29 := cellB E2.out.a 29
  have p30 := cellB E2.out.a 30
  have p31 := cellB E2.out.a 31
  have p32 := cellB E2.out.a 32
  have p33 := cellB E2.out.a 33
  go_wp2_with fail
  refine (LawQueue.held_queue x26 a27 c27 L27 n2 lo _ _ (Holds.mid (l1 := [⟨a24, 170, 2, ((SampleRows.marks k L24.length)).map SampleKit.cells⟩, ⟨a25, 105, 5, ((SlotRows.marks n1 L25.length)).map SlotKit.cells⟩]) (ms := [⟨a27, 161, 6, ((ReqRows.marks n2 L27.length)).map ReqKit.cells⟩]) (l2 := [⟨a28, 87, 6, ((CodelRows.marks n3 L28.length)).map CodelKit.cells⟩, ⟨a33, 3, 1, ((IntRows.marks n4 L33.length)).map IntKit.cells⟩]) E2.out.holds) l27 (by omega) rfl).mono ?_
  rintro e w3 ⟨rfl, hb3⟩
  have E3 : Hid (Hd w w3 #[.int .i64 x0, .int .i64 x1, .int .i64 x2, .int .i64 x3, .int .i64 x4, .int .i64 x5, .int .i64 x6, .int .i64 x7, .int .i64 x8, .int .i64 x9, .int .i64 x10, .int .i64 x11, .int .i64 x12, .int .i64 x13, .int .i64 x14, .int .i64 x15, .int .i64 x16, .int .i64 x17, .int .i64 x18, .int .i64 x19, .int .i64 x20, .int .i64 x21, .int .i64 x22, .int .i64 x23, .slice a24 L24.length c24, .slice a25 L25.length c25, .int .i64 x26, .slice a27 L27.length c27, .slice a28 L28.length c28, .int .i64 x29, .int .i64 x30, .int .i64 x31, .int .i64 x32, .slice a33 L33.length c33] 48 lo [⟨a24, 170, 2, ((SampleRows.marks k L24.length)).map SampleKit.cells⟩, ⟨a25, 105, 5, ((SlotRows.marks n1 L25.length)).map SlotKit.cells⟩, ⟨a27, 161, 6, ((ReqRows.marks n2 L27.length)).map ReqKit.cells⟩, ⟨a28, 87, 6, ((CodelRows.marks n3 L28.length)).map CodelKit.cells⟩, ⟨a33, 3, 1, ((IntRows.marks n4 L33.length)).map IntKit.cells⟩]) := E2.out.next hb3
  clear hb3 E2 p0 p1 p2 p3 p4 p5 p6 p7 p8 p9 p10 p11 p12 p13 p14 p15 p16 p17 p18 p19 p20 p21 p22 p23 p24 p25 p26 p27 p28 p29 p30 p31 p32 p33
  rw [show (n2 : Int) + 6 * (L27.length : Int) = (n3 : Int) by omega]
  have z3 : ¬ (n3 : Int) < 0 := by omega
  have p0 := cellB E3.out.a 0
  have p1 := cellB E3.out.a 1
  have p2 := cellB E3.out.a 2
  have p3 := cellB E3.out.a 3
  have p4 := cellB E3.out.a 4
  have p5 := cellB E3.out.a 5
  have p6 := cellB E3.out.a 6
  have p7 := cellB E3.out.a 7
  have p8 := cellB E3.out.a 8
  have p9 := cellB E3.out.a 9
  have p10 := cellB E3.out.a 10
  have p11 := cellB E3.out.a 11
  have p12 := cellB E3.out.a 12
  have p13 := cellB E3.out.a 13
  have p14 := cellB E3.out.a 14
  have p15 := cellB E3.out.a 15
  have p16 := cellB E3.out.a 16
  have p17 := cellB E3.out.a 17
  have p18 := cellB E3.out.a 18
  have p19 := cellB E3.out.a 19
  have p20 := cellB E3.out.a 20
  have p21 := cellB E3.out.a 21
  have p22 := cellB E3.out.a 22
  have p23 := cellB E3.out.a 23
  have p24 := cellB E3.out.a 24
  have p25 := cellB E3.out.a 25
  have p26 := cellB E3.out.a 26
  have p27 := cellB E3.out.a 27
  have p28 := cellB E3.out.a 28
  have p29 := cellB E3.out.a 29
  have p30 := cellB E3.out.a 30
  have p31 := cellB E3.out.a 31
  have p32 := cellB E3.out.a 32
  have p33 := cellB E3.out.a 33
  go_wp2_with fail
  refine (CodelRows.held_any a28 c28 n3 L28.length _ (E3.out.holds.get (by simp)) l28 (by omega)).mono ?_
  rintro e w4 ⟨rfl, hw4⟩
  have E4 : Hid (Hd w w4 #[.int .i64 x0, .int .i64 x1, .int .i64 x2, .int .i64 x3, .int .i64 x4, .int .i64 x5, .int .i64 x6, .int .i64 x7, .int .i64 x8, .int .i64 x9, .int .i64 x10, .int .i64 x11, .int .i64 x12, .int .i64 x13, .int .i64 x14, .int .i64 x15, .int .i64 x16, .int .i64 x17, .int .i64 x18, .int .i64 x19, .int .i64 x20, .int .i64 x21, .int .i64 x22, .int .i64 x23, .slice a24 L24.length c24, .slice a25 L25.length c25, .int .i64 x26, .slice a27 L27.length c27, .slice a28 L28.length c28, .int .i64 x29, .int .i64 x30, .int .i64 x31, .int .i64 x32, .slice a33 L33.length c33] 48 lo [⟨a24, 170, 2, ((SampleRows.marks k L24.length)).map SampleKit.cells⟩, ⟨a25, 105, 5, ((SlotRows.marks n1 L25.length)).map SlotKit.cells⟩, ⟨a27, 161, 6, ((ReqRows.marks n2 L27.length)).map ReqKit.cells⟩, ⟨a28, 87, 6, ((CodelRows.marks n3 L28.length)).map CodelKit.cells⟩, ⟨a33, 3, 1, ((IntRows.marks n4 L33.length)).map IntKit.cells⟩]) := by rw [hw4]; exact E3
  clear hw4 E3 p0 p1 p2 p3 p4 p5 p6 p7 p8 p9 p10 p11 p12 p13 p14 p15 p16 p17 p18 p19 p20 p21 p22 p23 p24 p25 p26 p27 p28 p29 p30 p31 p32 p33
  rw [show (n3 : Int) + 6 * (L28.length : Int) = (n4 : Int) by omega]
  have z4 : ¬ (n4 : Int) < 0 := by omega
  have p0 := cellB E4.out.a 0
  have p1 := cellB E4.out.a 1
  have p2 := cellB E4.out.a 2
  have p3 := cellB E4.out.a 3
  have p4 := cellB E4.out.a 4
  have p5 := cellB E4.out.a 5
  have p6 := cellB E4.out.a 6
  have p7 := cellB E4.out.a 7
  have p8 := cellB E4.out.a 8
  have p9 := cellB E4.out.a 9
  have p10 := cellB E4.out.a 10
  have p11 := cellB E4.out.a 11
  have p12 := cellB E4.out.a 12
  have p13 := cellB E4.out.a 13
  have p14 := cellB E4.out.a 14
  have p15 := cellB E4.out.a 15
  have p16 := cellB E4.out.a 16
  have p17 := cellB E4.out.a 17
  have p18 := cellB E4.out.a 18
  have p19 := cellB E4.out.a 19
  have p20 := cellB E4.out.a 20
  have p21 := cellB E4.out.a 21
  have p22 := cellB E4.out.a 22
  have p23 := cellB E4.out.a 23
  have p24 := cellB E4.out.a 24
  have p25 := cellB E4.out.a 25
  have p26 := cellB E4.out.a 26
  have p27 := cellB E4.out.a 27
  have p28 := cellB E4.out.a 28
  have p29 := cellB E4.out.a 29
  have p30 := cellB E4.out.a 30
  have p31 := cellB E4.out.a 31
  have p32 := cellB E4.out.a 32
  have p33 := cellB E4.out.a 33
  go_wp2_with fail
  refine (IntRows.held_any a33 c33 n4 L33.length _ (E4.out.holds.get (by simp)) l33 (by omega)).mono ?_
  rintro e w5 ⟨rfl, hw5⟩
  have E5 : Hid (Hd w w5 #[.int .i64 x0, .int .i64 x1, .int .i64 x2, .int .i64 x3, .int .i64 x4, .int .i64 x5, .int .i64 x6, .int .i64 x7, .int .i64 x8, .int .i64 x9, .int .i64 x10, .int .i64 x11, .int .i64 x12, .int .i64 x13, .int .i64 x14, .int .i64 x15, .int .i64 x16, .int .i64 x17, .int .i64 x18, .int .i64 x19, .int .i64 x20, .int .i64 x21, .int .i64 x22, .int .i64 x23, .slice a24 L24.length c24, .slice a25 L25.length c25, .int .i64 x26, .slice a27 L27.length c27, .slice a28 L28.length c28, .int .i64 x29, .int .i64 x30, .int .i64 x31, .int .i64 x32, .slice a33 L33.length c33] 48 lo [⟨a24, 170, 2, ((SampleRows.marks k L24.length)).map SampleKit.cells⟩, ⟨a25, 105, 5, ((SlotRows.marks n1 L25.length)).map SlotKit.cells⟩, ⟨a27, 161, 6, ((ReqRows.marks n2 L27.length)).map ReqKit.cells⟩, ⟨a28, 87, 6, ((CodelRows.marks n3 L28.length)).map CodelKit.cells⟩, ⟨a33, 3, 1, ((IntRows.marks n4 L33.length)).map IntKit.cells⟩]) := by rw [hw5]; exact E4
  clear hw5 E4 p0 p1 p2 p3 p4 p5 p6 p7 p8 p9 p10 p11 p12 p13 p14 p15 p16 p17 p18 p19 p20 p21 p22 p23 p24 p25 p26 p27 p28 p29 p30 p31 p32 p33
  have z5 : ¬ ((n4 : Int) + 1 * (L33.length : Int)) < 0 := by omega
  go_wp2
  go_ret
  exact ⟨ret_intL (by omega), E5.out.bel⟩
end Go.Proofs.Ytnabnghjejncpaa.LawAdm
