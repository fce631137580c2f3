/- What the laws' helpers on the struct Adm do: it is copied into new memory, found equal to its like, marked and found marked, and measured; nothing else turns; no condition but those written in each. -/
import Derived.Test.YtnabnghjejncpaaRows
import Derived.WalkKit
import Derived.WalkSmall
import Derived.BigQuiet
import Derived.Deep.RegionWith
import Derived.Deep.DeepCutAuto
import Derived.Test.YtnabnghjejncpaaListKit
import Derived.Test.YtnabnghjejncpaaHoldKit
import Derived.Test.YtnabnghjejncpaaHoldMore
import Derived.Test.YtnabnghjejncpaaBigBox
import Derived.Laws.Rows
import Derived.Test.YtnabnghjejncpaaSampleKit
import Derived.Test.YtnabnghjejncpaaSampleRows
import Derived.Test.YtnabnghjejncpaaSlotKit
import Derived.Test.YtnabnghjejncpaaSlotRows
import Derived.Test.YtnabnghjejncpaaReqKit
import Derived.Test.YtnabnghjejncpaaReqRows
import Derived.Test.YtnabnghjejncpaaCodelKit
import Derived.Test.YtnabnghjejncpaaCodelRows
import Derived.Test.YtnabnghjejncpaaIntKit
import Derived.Test.YtnabnghjejncpaaIntRows
import Derived.Test.YtnabnghjejncpaaFlatCfg
import Derived.Test.YtnabnghjejncpaaLawLim
import Derived.Test.YtnabnghjejncpaaLawLedger
import Derived.Test.YtnabnghjejncpaaLawQueue
import Derived.Test.YtnabnghjejncpaaFlatBucket
namespace Go.Proofs.Ytnabnghjejncpaa.LawAdm
open Go.RowKit ListKit HoldKit HoldMore BigBox
set_option maxRecDepth 8000
set_option linter.unusedVariables false
set_option linter.unusedSimpArgs false

set_option maxHeartbeats 4000000 in
theorem to_adm (x0 : Int) (x1 : Int) (x2 : Int) (x3 : Int) (x4 : Int) (x5 : Int) (x6 : Int) (x7 : Int) (x8 : Int) (x9 : Int) (x10 : Int) (x11 : Int) (x12 : Int) (x13 : Int) (x14 : Int) (x15 : Int) (x16 : Int) (x17 : Int) (x18 : Int) (x19 : Int) (x20 : Int) (x21 : Int) (x22 : Int) (x23 : Int) (x26 : Int) (x29 : Int) (x30 : Int) (x31 : Int) (x32 : Int) (a24 : Option Addr) (c24 : Nat) (L24 : List SampleKit.Sample) (a25 : Option Addr) (c25 : Nat) (L25 : List SlotKit.Slot) (a27 : Option Addr) (c27 : Nat) (L27 : List ReqKit.Req) (a28 : Option Addr) (c28 : Nat) (L28 : List CodelKit.Codel) (a33 : Option Addr) (c33 : Nat) (L33 : List Int) (w : World) (h24 : SampleRows.Arg w a24 L24) (l24 : L24.length ≤ 1048577) (h25 : SlotRows.Arg w a25 L25) (l25 : L25.length ≤ 1048577) (h27 : ReqRows.Arg w a27 L27) (l27 : L27.length ≤ 1048577) (h28 : CodelRows.Arg w a28 L28) (l28 : L28.length ≤ 1048577) (h33 : IntRows.Arg w a33 L33) (l33 : L33.length ≤ 1048577) :
    Calls Try.prog 27 #[.agg #[.int .i64 x0, .int .i64 x1, .int .i64 x2, .int .i64 x3, .int .i64 x4, .int .i64 x5, .int .i64 x6, .int .i64 x7, .int .i64 x8, .int .i64 x9, .int .i64 x10, .int .i64 x11, .int .i64 x12, .int .i64 x13, .int .i64 x14, .int .i64 x15, .int .i64 x16, .int .i64 x17, .int .i64 x18, .int .i64 x19, .int .i64 x20, .int .i64 x21, .int .i64 x22, .int .i64 x23, .slice a24 L24.length c24, .slice a25 L25.length c25, .int .i64 x26, .slice a27 L27.length c27, .slice a28 L28.length c28, .int .i64 x29, .int .i64 x30, .int .i64 x31, .int .i64 x32, .slice a33 L33.length c33]] w fun e w' => ∃ g24 g25 g27 g28 g33, e = .returned (.agg #[.int .i64 x0, .int .i64 x1, .int .i64 x2, .int .i64 x3, .int .i64 x4, .int .i64 x5, .int .i64 x6, .int .i64 x7, .int .i64 x8, .int .i64 x9, .int .i64 x10, .int .i64 x11, .int .i64 x12, .int .i64 x13, .int .i64 x14, .int .i64 x15, .int .i64 x16, .int .i64 x17, .int .i64 x18, .int .i64 x19, .int .i64 x20, .int .i64 x21, .int .i64 x22, .int .i64 x23, .slice (some ⟨g24, 0, none⟩) L24.length L24.length, .slice (some ⟨g25, 0, none⟩) L25.length L25.length, .int .i64 x26, .slice (some ⟨g27, 0, none⟩) L27.length L27.length, .slice (some ⟨g28, 0, none⟩) L28.length L28.length, .int .i64 x29, .int .i64 x30, .int .i64 x31, .int .i64 x32, .slice (some ⟨g33, 0, none⟩) L33.length L33.length]) ∧ Holds w' w.heap.size [⟨some ⟨g24, 0, none⟩, 170, 2, (L24).map SampleKit.cells⟩, ⟨some ⟨g25, 0, none⟩, 105, 5, (L25).map SlotKit.cells⟩, ⟨some ⟨g27, 0, none⟩, 161, 6, (L27).map ReqKit.cells⟩, ⟨some ⟨g28, 0, none⟩, 87, 6, (L28).map CodelKit.cells⟩, ⟨some ⟨g33, 0, none⟩, 3, 1, (L33).map IntKit.cells⟩] ∧ Below w.heap.size w w' := by
  have H24 : Hid (SampleRows.Arg w a24 L24) := h24
  have H25 : Hid (SlotRows.Arg w a25 L25) := h25
  have H27 : Hid (ReqRows.Arg w a27 L27) := h27
  have H28 : Hid (CodelRows.Arg w a28 L28) := h28
  have H33 : Hid (IntRows.Arg w a33 L33) := h33
  clear h24 h25 h27 h28 h33
  go_enter Try.func27, Try.ntmps27
  go_wp2_with fail
  refine (FlatCfg.to_one x0 x1 x2 x3 x4 x5 x6 x7 x8 x9 x10 x11 x12 x13 _).mono ?_
  rintro e w1 ⟨rfl, hb1⟩
  have E1 : Hid (Cp w w1 #[.int .i64 x0, .int .i64 x1, .int .i64 x2, .int .i64 x3, .int .i64 x4, .int .i64 x5, .int .i64 x6, .int .i64 x7, .int .i64 x8, .int .i64 x9, .int .i64 x10, .int .i64 x11, .int .i64 x12, .int .i64 x13, .int .i64 x14, .int .i64 x15, .int .i64 x16, .int .i64 x17, .int .i64 x18, .int .i64 x19, .int .i64 x20, .int .i64 x21, .int .i64 x22, .int .i64 x23, .slice a24 L24.length c24, .slice a25 L25.length c25, .int .i64 x26, .slice a27 L27.length c27, .slice a28 L28.length c28, .int .i64 x29, .int .i64 x30, .int .i64 x31, .int .i64 x32, .slice a33 L33.length c33] 75 #[.int .i64 0, .int .i64 0, .int .i64 0, .int .i64 0, .int .i64 0, .int .i64 0, .int .i64 0, .int .i64 0, .int .i64 0, .int .i64 0, .int .i64 0, .int .i64 0, .int .i64 0, .int .i64 0, .int .i64 0, .int .i64 0, .int .i64 0, .int .i64 0, .int .i64 0, .int .i64 0, .int .i64 0, .int .i64 0, .int .i64 0, .int .i64 0, .slice none 0 0, .slice none 0 0, .int .i64 0, .slice none 0 0, .slice none 0 0, .int .i64 0, .int .i64 0, .int .i64 0, .int .i64 0, .slice none 0 0] #[.int .i64 0, .int .i64 0, .int .i64 0, .int .i64 0, .int .i64 0, .int .i64 0, .int .i64 0, .int .i64 0, .int .i64 0, .int .i64 0, .int .i64 0, .int .i64 0, .int .i64 0, .int .i64 0, .int .i64 0, .int .i64 0, .int .i64 0, .int .i64 0, .int .i64 0, .int .i64 0, .int .i64 0, .int .i64 0, .int .i64 0, .int .i64 0, .slice none 0 0, .slice none 0 0, .int .i64 0, .slice none 0 0, .slice none 0 0, .int .i64 0, .int .i64 0, .int .i64 0, .int .i64 0, .slice none 0 0] 48 []) := Cp.start hb1 (Holds.nil _ _)
  clear hb1
  have uc0 := cellB (E1.out).c 0
  have uf0 := fzB (E1.out).c 0
  have uc1 := cellB (E1.out).c 1
  have uf1 := fzB (E1.out).c 1
  have uc2 := cellB (E1.out).c 2
  have uf2 := fzB (E1.out).c 2
  have uc3 := cellB (E1.out).c 3
  have uf3 := fzB (E1.out).c 3
  have uc4 := cellB (E1.out).c 4
  have uf4 := fzB (E1.out).c 4
  have uc5 := cellB (E1.out).c 5
  have uf5 := fzB (E1.out).c 5
  have uc6 := cellB (E1.out).c 6
  have uf6 := fzB (E1.out).c 6
  have uc7 := cellB (E1.out).c 7
  have uf7 := fzB (E1.out).c 7
  have uc8 := cellB (E1.out).c 8
  have uf8 := fzB (E1.out).c 8
  have uc9 := cellB (E1.out).c 9
  have uf9 := fzB (E1.out).c 9
  have uc10 := cellB (E1.out).c 10
  have uf10 := fzB (E1.out).c 10
  have uc11 := cellB (E1.out).c 11
  have uf11 := fzB (E1.out).c 11
  have uc12 := cellB (E1.out).c 12
  have uf12 := fzB (E1.out).c 12
  have uc13 := cellB (E1.out).c 13
  have uf13 := fzB (E1.out).c 13
  have uc14 := cellB (E1.out).c 14
  have uf14 := fzB (E1.out).c 14
  have uc15 := cellB (E1.out).c 15
  have uf15 := fzB (E1.out).c 15
  have uc16 := cellB (E1.out).c 16
  have uf16 := fzB (E1.out).c 16
  have uc17 := cellB (E1.out).c 17
  have uf17 := fzB (E1.out).c 17
  have uc18 := cellB (E1.out).c 18
  have uf18 := fzB (E1.out).c 18
  have uc19 := cellB (E1.out).c 19
  have uf19 := fzB (E1.out).c 19
  have uc20 := cellB (E1.out).c 20
  have uf20 := fzB (E1.out).c 20
  have uc21 := cellB (E1.out).c 21
  have uf21 := fzB (E1.out).c 21
  have uc22 := cellB (E1.out).c 22
  have uf22 := fzB (E1.out).c 22
  have uc23 := cellB (E1.out).c 23
  have uf23 := fzB (E1.out).c 23
  have uc24 := cellB (E1.out).c 24
  have uf24 := fzB (E1.out).c 24
  have uc25 := cellB (E1.out).c 25
  have uf25 := fzB (E1.out).c 25
  have uc26 := cellB (E1.out).c 26
  have uf26 := fzB (E1.out).c 26
  have uc27 := cellB (E1.out).c 27
  have uf27 := fzB (E1.out).c 27
  have uc28 := cellB (E1.out).c 28
  have uf28 := fzB (E1.out).c 28
  have uc29 := cellB (E1.out).c 29
  have uf29 := fzB (E1.out).c 29
  have uc30 := cellB (E1.out).c 30
  have uf30 := fzB (E1.out).c 30
  have uc31 := cellB (E1.out).c 31
  have uf31 := fzB (E1.out).c 31
  have uc32 := cellB (E1.out).c 32
  have uf32 := fzB (E1.out).c 32
  have uc33 := cellB (E1.out).c 33
  have uf33 := fzB (E1.out).c 33
  have ua0 := cellB (E1.out).a 0
  have ua1 := cellB (E1.out).a 1
  have ua2 := cellB (E1.out).a 2
  have ua3 := cellB (E1.out).a 3
  have ua4 := cellB (E1.out).a 4
  have ua5 := cellB (E1.out).a 5
  have ua6 := cellB (E1.out).a 6
  have ua7 := cellB (E1.out).a 7
  have ua8 := cellB (E1.out).a 8
  have ua9 := cellB (E1.out).a 9
  have ua10 := cellB (E1.out).a 10
  have ua11 := cellB (E1.out).a 11
  have ua12 := cellB (E1.out).a 12
  have ua13 := cellB (E1.out).a 13
  have ua14 := cellB (E1.out).a 14
  have ua15 := cellB (E1.out).a 15
  have ua16 := cellB (E1.out).a 16
  have ua17 := cellB (E1.out).a 17
  have ua18 := cellB (E1.out).a 18
  have ua19 := cellB (E1.out).a 19
  have ua20 := cellB (E1.out).a 20
  have ua21 := cellB (E1.out).a 21
  have ua22 := cellB (E1.out).a 22
  have ua23 := cellB (E1.out).a 23
  have ua24 := cellB (E1.out).a 24
  have ua25 := cellB (E1.out).a 25
  have ua26 := cellB (E1.out).a 26
  have ua27 := cellB (E1.out).a 27
  have ua28 := cellB (E1.out).a 28
  have ua29 := cellB (E1.out).a 29
  have ua30 := cellB (E1.out).a 30
  have ua31 := cellB (E1.out).a 31
  have ua32 := cellB (E1.out).a 32
  have ua33 := cellB (E1.out).a 33
  go_upto_region 3 with fail
  have Sset0 : Hid _ := (E1.out).set 0 (.int .i64 x0)
  have Sset1 : Hid _ := (Sset0.out).set 1 (.int .i64 x1)
  have Sset2 : Hid _ := (Sset1.out).set 2 (.int .i64 x2)
  have Sset3 : Hid _ := (Sset2.out).set 3 (.int .i64 x3)
  have Sset4 : Hid _ := (Sset3.out).set 4 (.int .i64 x4)
  have Sset5 : Hid _ := (Sset4.out).set 5 (.int .i64 x5)
  have Sset6 : Hid _ := (Sset5.out).set 6 (.int .i64 x6)
  have Sset7 : Hid _ := (Sset6.out).set 7 (.int .i64 x7)
  have Sset8 : Hid _ := (Sset7.out).set 8 (.int .i64 x8)
  have Sset9 : Hid _ := (Sset8.out).set 9 (.int .i64 x9)
  have Sset10 : Hid _ := (Sset9.out).set 10 (.int .i64 x10)
  have Sset11 : Hid _ := (Sset10.out).set 11 (.int .i64 x11)
  have Sset12 : Hid _ := (Sset11.out).set 12 (.int .i64 x12)
  have Sset13 : Hid _ := (Sset12.out).set 13 (.int .i64 x13)
  have F1 : Hid (Cp w ((((((((((((((w1.setCell ⟨w.heap.size + 1 + 1, 0, none⟩ (.int .i64 x0)).setCell ⟨w.heap.size + 1 + 1, 1, none⟩ (.int .i64 x1)).setCell ⟨w.heap.size + 1 + 1, 2, none⟩ (.int .i64 x2)).setCell ⟨w.heap.size + 1 + 1, 3, none⟩ (.int .i64 x3)).setCell ⟨w.heap.size + 1 + 1, 4, none⟩ (.int .i64 x4)).setCell ⟨w.heap.size + 1 + 1, 5, none⟩ (.int .i64 x5)).setCell ⟨w.heap.size + 1 + 1, 6, none⟩ (.int .i64 x6)).setCell ⟨w.heap.size + 1 + 1, 7, none⟩ (.int .i64 x7)).setCell ⟨w.heap.size + 1 + 1, 8, none⟩ (.int .i64 x8)).setCell ⟨w.heap.size + 1 + 1, 9, none⟩ (.int .i64 x9)).setCell ⟨w.heap.size + 1 + 1, 10, none⟩ (.int .i64 x10)).setCell ⟨w.heap.size + 1 + 1, 11, none⟩ (.int .i64 x11)).setCell ⟨w.heap.size + 1 + 1, 12, none⟩ (.int .i64 x12)).setCell ⟨w.heap.size + 1 + 1, 13, none⟩ (.int .i64 x13)) #[.int .i64 x0, .int .i64 x1, .int .i64 x2, .int .i64 x3, .int .i64 x4, .int .i64 x5, .int .i64 x6, .int .i64 x7, .int .i64 x8, .int .i64 x9, .int .i64 x10, .int .i64 x11, .int .i64 x12, .int .i64 x13, .int .i64 x14, .int .i64 x15, .int .i64 x16, .int .i64 x17, .int .i64 x18, .int .i64 x19, .int .i64 x20, .int .i64 x21, .int .i64 x22, .int .i64 x23, .slice a24 L24.length c24, .slice a25 L25.length c25, .int .i64 x26, .slice a27 L27.length c27, .slice a28 L28.length c28, .int .i64 x29, .int .i64 x30, .int .i64 x31, .int .i64 x32, .slice a33 L33.length c33] 75 #[.int .i64 0, .int .i64 0, .int .i64 0, .int .i64 0, .int .i64 0, .int .i64 0, .int .i64 0, .int .i64 0, .int .i64 0, .int .i64 0, .int .i64 0, .int .i64 0, .int .i64 0, .int .i64 0, .int .i64 0, .int .i64 0, .int .i64 0, .int .i64 0, .int .i64 0, .int .i64 0, .int .i64 0, .int .i64 0, .int .i64 0, .int .i64 0, .slice none 0 0, .slice none 0 0, .int .i64 0, .slice none 0 0, .slice none 0 0, .int .i64 0, .int .i64 0, .int .i64 0, .int .i64 0, .slice none 0 0] #[.int .i64 x0, .int .i64 x1, .int .i64 x2, .int .i64 x3, .int .i64 x4, .int .i64 x5, .int .i64 x6, .int .i64 x7, .int .i64 x8, .int .i64 x9, .int .i64 x10, .int .i64 x11, .int .i64 x12, .int .i64 x13, .int .i64 0, .int .i64 0, .int .i64 0, .int .i64 0, .int .i64 0, .int .i64 0, .int .i64 0, .int .i64 0, .int .i64 0, .int .i64 0, .slice none 0 0, .slice none 0 0, .int .i64 0, .slice none 0 0, .slice none 0 0, .int .i64 0, .int .i64 0, .int .i64 0, .int .i64 0, .slice none 0 0] 48 []) := by have h9 := Sset13.out; simp only [List.setIfInBounds_toArray, List.set_cons_zero, List.set_cons_succ] at h9; exact h9
  generalize ((((((((((((((w1.setCell ⟨w.heap.size + 1 + 1, 0, none⟩ (.int .i64 x0)).setCell ⟨w.heap.size + 1 + 1, 1, none⟩ (.int .i64 x1)).setCell ⟨w.heap.size + 1 + 1, 2, none⟩ (.int .i64 x2)).setCell ⟨w.heap.size + 1 + 1, 3, none⟩ (.int .i64 x3)).setCell ⟨w.heap.size + 1 + 1, 4, none⟩ (.int .i64 x4)).setCell ⟨w.heap.size + 1 + 1, 5, none⟩ (.int .i64 x5)).setCell ⟨w.heap.size + 1 + 1, 6, none⟩ (.int .i64 x6)).setCell ⟨w.heap.size + 1 + 1, 7, none⟩ (.int .i64 x7)).setCell ⟨w.heap.size + 1 + 1, 8, none⟩ (.int .i64 x8)).setCell ⟨w.heap.size + 1 + 1, 9, none⟩ (.int .i64 x9)).setCell ⟨w.heap.size + 1 + 1, 10, none⟩ (.int .i64 x10)).setCell ⟨w.heap.size + 1 + 1, 11, none⟩ (.int .i64 x11)).setCell ⟨w.heap.size + 1 + 1, 12, none⟩ (.int .i64 x12)).setCell ⟨w.heap.size + 1 + 1, 13, none⟩ (.int .i64 x13)) = v1 at *
  clear E1 uc0 uf0 ua0 uc1 uf1 ua1 uc2 uf2 ua2 uc3 uf3 ua3 uc4 uf4 ua4 uc5 uf5 ua5 uc6 uf6 ua6 uc7 uf7 ua7 uc8 uf8 ua8 uc9 uf9 ua9 uc10 uf10 ua10 uc11 uf11 ua11 uc12 uf12 ua12 uc13 uf13 ua13 uc14 uf14 ua14 uc15 uf15 ua15 uc16 uf16 ua16 uc17 uf17 ua17 uc18 uf18 ua18 uc19 uf19 ua19 uc20 uf20 ua20 uc21 uf21 ua21 uc22 uf22 ua22 uc23 uf23 ua23 uc24 uf24 ua24 uc25 uf25 ua25 uc26 uf26 ua26 uc27 uf27 ua27 uc28 uf28 ua28 uc29 uf29 ua29 uc30 uf30 ua30 uc31 uf31 ua31 uc32 uf32 ua32 uc33 uf33 ua33 Sset0 Sset1 Sset2 Sset3 Sset4 Sset5 Sset6 Sset7 Sset8 Sset9 Sset10 Sset11 Sset12 Sset13
  have uc0 := cellB (F1.out).c 0
  have uf0 := fzB (F1.out).c 0
  have uc1 := cellB (F1.out).c 1
  have uf1 := fzB (F1.out).c 1
  have uc2 := cellB (F1.out).c 2
  have uf2 := fzB (F1.out).c 2
  have uc3 := cellB (F1.out).c 3
  have uf3 := fzB (F1.out).c 3
  have uc4 := cellB (F1.out).c 4
  have uf4 := fzB (F1.out).c 4
  have uc5 := cellB (F1.out).c 5
  have uf5 := fzB (F1.out).c 5
  have uc6 := cellB (F1.out).c 6
  have uf6 := fzB (F1.out).c 6
  have uc7 := cellB (F1.out).c 7
  have uf7 := fzB (F1.out).c 7
  have uc8 := cellB (F1.out).c 8
  have uf8 := fzB (F1.out).c 8
  have uc9 := cellB (F1.out).c 9
  have uf9 := fzB (F1.out).c 9
  have uc10 := cellB (F1.out).c 10
  have uf10 := fzB (F1.out).c 10
  have uc11 := cellB (F1.out).c 11
  have uf11 := fzB (F1.out).c 11
  have uc12 := cellB (F1.out).c 12
  have uf12 := fzB (F1.out).c 12
  have uc13 := cellB (F1.out).c 13
  have uf13 := fzB (F1.out).c 13
  have uc14 := cellB (F1.out).c 14
  have uf14 := fzB (F1.out).c 14
  have uc15 := cellB (F1.out).c 15
  have uf15 := fzB (F1.out).c 15
  have uc16 := cellB (F1.out).c 16
  have uf16 := fzB (F1.out).c 16
  have uc17 := cellB (F1.out).c 17
  have uf17 := fzB (F1.out).c 17
  have uc18 := cellB (F1.out).c 18
  have uf18 := fzB (F1.out).c 18
  have uc19 := cellB (F1.out).c 19
  have uf19 := fzB (F1.out).c 19
  have uc20 := cellB (F1.out).c 20
  have uf20 := fzB (F1.out).c 20
  have uc21 := cellB (F1.out).c 21
  have uf21 := fzB (F1.out).c 21
  have uc22 := cellB (F1.out).c 22
  have uf22 := fzB (F1.out).c 22
  have uc23 := cellB (F1.out).c 23
  have uf23 := fzB (F1.out).c 23
  have uc24 := cellB (F1.out).c 24
  have uf24 := fzB (F1.out).c 24
  have uc25 := cellB (F1.out).c 25
  have uf25 := fzB (F1.out).c 25
  have uc26 := cellB (F1.out).c 26
  have uf26 := fzB (F1.out).c 26
  have uc27 := cellB (F1.out).c 27
  have uf27 := fzB (F1.out).c 27
  have uc28 := cellB (F1.out).c 28
  have uf28 := fzB (F1.out).c 28
  have uc29 := cellB (F1.out).c 29
  have uf29 := fzB (F1.out).c 29
  have uc30 := cellB (F1.out).c 30
  have uf30 := fzB (F1.out).c 30
  have uc31 := cellB (F1.out).c 31
  have uf31 := fzB (F1.out).c 31
  have uc32 := cellB (F1.out).c 32
  have uf32 := fzB (F1.out).c 32
  have uc33 := cellB (F1.out).c 33
  have uf33 := fzB (F1.out).c 33
  have ua0 := cellB (F1.out).a 0
  have ua1 := cellB (F1.out).a 1
  have ua2 := cellB (F1.out).a 2
  have ua3 := cellB (F1.out).a 3
  have ua4 := cellB (F1.out).a 4
  have ua5 := cellB (F1.out).a 5
  have ua6 := cellB (F1.out).a 6
  have ua7 := cellB (F1.out).a 7
  have ua8 := cellB (F1.out).a 8
  have ua9 := cellB (F1.out).a 9
  have ua10 := cellB (F1.out).a 10
  have ua11 := cellB (F1.out).a 11
  have ua12 := cellB (F1.out).a 12
  have ua13 := cellB (F1.out).a 13
  have ua14 := cellB (F1.out).a 14
  have ua15 := cellB (F1.out).a 15
  have ua16 := cellB (F1.out).a 16
  have ua17 := cellB (F1.out).a 17
  have ua18 := cellB (F1.out).a 18
  have ua19 := cellB (F1.out).a 19
  have ua20 := cellB (F1.out).a 20
  have ua21 := cellB (F1.out).a 21
  have ua22 := cellB (F1.out).a 22
  have ua23 := cellB (F1.out).a 23
  have ua24 := cellB (F1.out).a 24
  have ua25 := cellB (F1.out).a 25
  have ua26 := cellB (F1.out).a 26
  have ua27 := cellB (F1.out).a 27
  have ua28 := cellB (F1.out).a 28
  have ua29 := cellB (F1.out).a 29
  have ua30 := cellB (F1.out).a 30
  have ua31 := cellB (F1.out).a 31
  have ua32 := cellB (F1.out).a 32
  have ua33 := cellB (F1.out).a 33
  have Sset14 : Hid _ := (F1.out).set 14 (.int .i64 x14)
  go_wp2_with fail
  have Z1 := (Sset14.out).bel
  have Z2_24 := H24.out.below Z1
  have Z3 := LawLim.to_lim x15 x16 x17 x18 x19 x20 x21 x22 x23 a24 c24 L24 _ Z2_24 l24
  refine Z3.mono ?_
  clear Z1 Z3 Z2_24
  rintro e w2 ⟨g24, rfl, hh2, hb2⟩
  have E2 : Hid (Cp w w2 #[.int .i64 x0, .int .i64 x1, .int .i64 x2, .int .i64 x3, .int .i64 x4, .int .i64 x5, .int .i64 x6, .int .i64 x7, .int .i64 x8, .int .i64 x9, .int .i64 x10, .int .i64 x11, .int .i64 x12, .int .i64 x13, .int .i64 x14, .int .i64 x15, .int .i64 x16, .int .i64 x17, .int .i64 x18, .int .i64 x19, .int .i64 x20, .int .i64 x21, .int .i64 x22, .int .i64 x23, .slice a24 L24.length c24, .slice a25 L25.length c25, .int .i64 x26, .slice a27 L27.length c27, .slice a28 L28.length c28, .int .i64 x29, .int .i64 x30, .int .i64 x31, .int .i64 x32, .slice a33 L33.length c33] 75 #[.int .i64 0, .int .i64 0, .int .i64 0, .int .i64 0, .int .i64 0, .int .i64 0, .int .i64 0, .int .i64 0, .int .i64 0, .int .i64 0, .int .i64 0, .int .i64 0, .int .i64 0, .int .i64 0, .int .i64 0, .int .i64 0, .int .i64 0, .int .i64 0, .int .i64 0, .int .i64 0, .int .i64 0, .int .i64 0, .int .i64 0, .int .i64 0, .slice none 0 0, .slice none 0 0, .int .i64 0, .slice none 0 0, .slice none 0 0, .int .i64 0, .int .i64 0, .int .i64 0, .int .i64 0, .slice none 0 0] #[.int .i64 x0, .int .i64 x1, .int .i64 x2, .int .i64 x3, .int .i64 x4, .int .i64 x5, .int .i64 x6, .int .i64 x7, .int .i64 x8, .int .i64 x9, .int .i64 x10, .int .i64 x11, .int .i64 x12, .int .i64 x13, .int .i64 x14, .int .i64 0, .int .i64 0, .int .i64 0, .int .i64 0, .int .i64 0, .int .i64 0, .int .i64 0, .int .i64 0, .int .i64 0, .slice none 0 0, .slice none 0 0, .int .i64 0, .slice none 0 0, .slice none 0 0, .int .i64 0, .int .i64 0, .int .i64 0, .int .i64 0, .slice none 0 0] 48 [⟨some ⟨g24, 0, none⟩, 170, 2, (L24).map SampleKit.cells⟩]) := (Sset14.out).next hb2 (hh2)
  clear hb2 hh2 F1 uc0 uf0 ua0 uc1 uf1 ua1 uc2 uf2 ua2 uc3 uf3 ua3 uc4 uf4 ua4 uc5 uf5 ua5 uc6 uf6 ua6 uc7 uf7 ua7 uc8 uf8 ua8 uc9 uf9 ua9 uc10 uf10 ua10 uc11 uf11 ua11 uc12 uf12 ua12 uc13 uf13 ua13 uc14 uf14 ua14 uc15 uf15 ua15 uc16 uf16 ua16 uc17 uf17 ua17 uc18 uf18 ua18 uc19 uf19 ua19 uc20 uf20 ua20 uc21 uf21 ua21 uc22 uf22 ua22 uc23 uf23 ua23 uc24 uf24 ua24 uc25 uf25 ua25 uc26 uf26 ua26 uc27 uf27 ua27 uc28 uf28 ua28 uc29 uf29 ua29 uc30 uf30 ua30 uc31 uf31 ua31 uc32 uf32 ua32 uc33 uf33 ua33 Sset14
  have uc0 := cellB (E2.out).c 0
  have uf0 := fzB (E2.out).c 0
  have uc1 := cellB (E2.out).c 1
  have uf1 := fzB (E2.out).c 1
  have uc2 := cellB (E2.out).c 2
  have uf2 := fzB (E2.out).c 2
  have uc3 := cellB (E2.out).c 3
  have uf3 := fzB (E2.out).c 3
  have uc4 := cellB (E2.out).c 4
  have uf4 := fzB (E2.out).c 4
  have uc5 := cellB (E2.out).c 5
  have uf5 := fzB (E2.out).c 5
  have uc6 := cellB (E2.out).c 6
  have uf6 := fzB (E2.out).c 6
  have uc7 := cellB (E2.out).c 7
  have uf7 := fzB (E2.out).c 7
  have uc8 := cellB (E2.out).c 8
  have uf8 := fzB (E2.out).c 8
  have uc9 := cellB (E2.out).c 9
  have uf9 := fzB (E2.out).c 9
  have uc10 := cellB (E2.out).c 10
  have uf10 := fzB (E2.out).c 10
  have uc11 := cellB (E2.out).c 11
  have uf11 := fzB (E2.out).c 11
  have uc12 := cellB (E2.out).c 12
  have uf12 := fzB (E2.out).c 12
  have uc13 := cellB (E2.out).c 13
  have uf13 := fzB (E2.out).c 13
  have uc14 := cellB (E2.out).c 14
  have uf14 := fzB (E2.out).c 14
  have uc15 := cellB (E2.out).c 15
  have uf15 := fzB (E2.out).c 15
  have uc16 := cellB (E2.out).c 16
  have uf16 := fzB (E2.out).c 16
  have uc17 := cellB (E2.out).c 17
  have uf17 := fzB (E2.out).c 17
  have uc18 := cellB (E2.out).c 18
  have uf18 := fzB (E2.out).c 18
  have uc19 := cellB (E2.out).c 19
  have uf19 := fzB (E2.out).c 19
  have uc20 := cellB (E2.out).c 20
  have uf20 := fzB (E2.out).c 20
  have uc21 := cellB (E2.out).c 21
  have uf21 := fzB (E2.out).c 21
  have uc22 := cellB (E2.out).c 22
  have uf22 := fzB (E2.out).c 22
  have uc23 := cellB (E2.out).c 23
  have uf23 := fzB (E2.out).c 23
  have uc24 := cellB (E2.out).c 24
  have uf24 := fzB (E2.out).c 24
  have uc25 := cellB (E2.out).c 25
  have uf25 := fzB (E2.out).c 25
  have uc26 := cellB (E2.out).c 26
  have uf26 := fzB (E2.out).c 26
  have uc27 := cellB (E2.out).c 27
  have uf27 := fzB (E2.out).c 27
  have uc28 := cellB (E2.out).c 28
  have uf28 := fzB (E2.out).c 28
  have uc29 := cellB (E2.out).c 29
  have uf29 := fzB (E2.out).c 29
  have uc30 := cellB (E2.out).c 30
  have uf30 := fzB (E2.out).c 30
  have uc31 := cellB (E2.out).c 31
  have uf31 := fzB (E2.out).c 31
  have uc32 := cellB (E2.out).c 32
  have uf32 := fzB (E2.out).c 32
  have uc33 := cellB (E2.out).c 33
  have uf33 := fzB (E2.out).c 33
  have ua0 := cellB (E2.out).a 0
  have ua1 := cellB (E2.out).a 1
  have ua2 := cellB (E2.out).a 2
  have ua3 := cellB (E2.out).a 3
  have ua4 := cellB (E2.out).a 4
  have ua5 := cellB (E2.out).a 5
  have ua6 := cellB (E2.out).a 6
  have ua7 := cellB (E2.out).a 7
  have ua8 := cellB (E2.out).a 8
  have ua9 := cellB (E2.out).a 9
  have ua10 := cellB (E2.out).a 10
  have ua11 := cellB (E2.out).a 11
  have ua12 := cellB (E2.out).a 12
  have ua13 := cellB (E2.out).a 13
  have ua14 := cellB (E2.out).a 14
  have ua15 := cellB (E2.out).a 15
  have ua16 := cellB (E2.out).a 16
  have ua17 := cellB (E2.out).a 17
  have ua18 := cellB (E2.out).a 18
  have ua19 := cellB (E2.out).a 19
  have ua20 := cellB (E2.out).a 20
  have ua21 := cellB (E2.out).a 21
  have ua22 := cellB (E2.out).a 22
  have ua23 := cellB (E2.out).a 23
  have ua24 := cellB (E2.out).a 24
  have ua25 := cellB (E2.out).a 25
  have ua26 := cellB (E2.out).a 26
  have ua27 := cellB (E2.out).a 27
  have ua28 := cellB (E2.out).a 28
  have ua29 := cellB (E2.out).a 29
  have ua30 := cellB (E2.out).a 30
  have ua31 := cellB (E2.out).a 31
  have ua32 := cellB (E2.out).a 32
  have ua33 := cellB (E2.out).a 33
  go_upto_region 5 with fail
  have Sset15 : Hid _ := (E2.out).set 15 (.int .i64 x15)
  have Sset16 : Hid _ := (Sset15.out).set 16 (.int .i64 x16)
  have Sset17 : Hid _ := (Sset16.out).set 17 (.int .i64 x17)
  have Sset18 : Hid _ := (Sset17.out).set 18 (.int .i64 x18)
  have Sset19 : Hid _ := (Sset18.out).set 19 (.int .i64 x19)
  have Sset20 : Hid _ := (Sset19.out).set 20 (.int .i64 x20)
  have Sset21 : Hid _ := (Sset20.out).set 21 (.int .i64 x21)
  have Sset22 : Hid _ := (Sset21.out).set 22 (.int .i64 x22)
  have Sset23 : Hid _ := (Sset22.out).set 23 (.int .i64 x23)
  have Sset24 : Hid _ := (Sset23.out).set 24 (.slice (some ⟨g24, 0, none⟩) L24.length L24.length)
  have F2 : Hid (Cp w ((((((((((w2.setCell ⟨w.heap.size + 1 + 1, 15, none⟩ (.int .i64 x15)).setCell ⟨w.heap.size + 1 + 1, 16, none⟩ (.int .i64 x16)).setCell ⟨w.heap.size + 1 + 1, 17, none⟩ (.int .i64 x17)).setCell ⟨w.heap.size + 1 + 1, 18, none⟩ (.int .i64 x18)).setCell ⟨w.heap.size + 1 + 1, 19, none⟩ (.int .i64 x19)).setCell ⟨w.heap.size + 1 + 1, 20, none⟩ (.int .i64 x20)).setCell ⟨w.heap.size + 1 + 1, 21, none⟩ (.int .i64 x21)).setCell ⟨w.heap.size + 1 + 1, 22, none⟩ (.int .i64 x22)).setCell ⟨w.heap.size + 1 + 1, 23, none⟩ (.int .i64 x23)).setCell ⟨w.heap.size + 1 + 1, 24, none⟩ (.slice (some ⟨g24, 0, none⟩) L24.length L24.length)) #[.int .i64 x0, .int .i64 x1, .int .i64 x2, .int .i64 x3, .int .i64 x4, .int .i64 x5, .int .i64 x6, .int .i64 x7, .int .i64 x8, .int .i64 x9, .int .i64 x10, .int .i64 x11, .int .i64 x12, .int .i64 x13, .int .i64 x14, .int .i64 x15, .int .i64 x16, .int .i64 x17, .int .i64 x18, .int .i64 x19, .int .i64 x20, .int .i64 x21, .int .i64 x22, .int .i64 x23, .slice a24 L24.length c24, .slice a25 L25.length c25, .int .i64 x26, .slice a27 L27.length c27, .slice a28 L28.length c28, .int .i64 x29, .int .i64 x30, .int .i64 x31, .int .i64 x32, .slice a33 L33.length c33] 75 #[.int .i64 0, .int .i64 0, .int .i64 0, .int .i64 0, .int .i64 0, .int .i64 0, .int .i64 0, .int .i64 0, .int .i64 0, .int .i64 0, .int .i64 0, .int .i64 0, .int .i64 0, .int .i64 0, .int .i64 0, .int .i64 0, .int .i64 0, .int .i64 0, .int .i64 0, .int .i64 0, .int .i64 0, .int .i64 0, .int .i64 0, .int .i64 0, .slice none 0 0, .slice none 0 0, .int .i64 0, .slice none 0 0, .slice none 0 0, .int .i64 0, .int .i64 0, .int .i64 0, .int .i64 0, .slice none 0 0] #[.int .i64 x0, .int .i64 x1, .int .i64 x2, .int .i64 x3, .int .i64 x4, .int .i64 x5, .int .i64 x6, .int .i64 x7, .int .i64 x8, .int .i64 x9, .int .i64 x10, .int .i64 x11, .int .i64 x12, .int .i64 x13, .int .i64 x14, .int .i64 x15, .int .i64 x16, .int .i64 x17, .int .i64 x18, .int .i64 x19, .int .i64 x20, .int .i64 x21, .int .i64 x22, .int .i64 x23, .slice (some ⟨g24, 0, none⟩) L24.length L24.length, .slice none 0 0, .int .i64 0, .slice none 0 0, .slice none 0 0, .int .i64 0, .int .i64 0, .int .i64 0, .int .i64 0, .slice none 0 0] 48 [⟨some ⟨g24, 0, none⟩, 170, 2, (L24).map SampleKit.cells⟩]) := by have h9 := Sset24.out; simp only [List.setIfInBounds_toArray, List.set_cons_zero, List.set_cons_succ] at h9; exact h9
  generalize ((((((((((w2.setCell ⟨w.heap.size + 1 + 1, 15, none⟩ (.int .i64 x15)).setCell ⟨w.heap.size + 1 + 1, 16, none⟩ (.int .i64 x16)).setCell ⟨w.heap.size + 1 + 1, 17, none⟩ (.int .i64 x17)).setCell ⟨w.heap.size + 1 + 1, 18, none⟩ (.int .i64 x18)).setCell ⟨w.heap.size + 1 + 1, 19, none⟩ (.int .i64 x19)).setCell ⟨w.heap.size + 1 + 1, 20, none⟩ (.int .i64 x20)).setCell ⟨w.heap.size + 1 + 1, 21, none⟩ (.int .i64 x21)).setCell ⟨w.heap.size + 1 + 1, 22, none⟩ (.int .i64 x22)).setCell ⟨w.heap.size + 1 + 1, 23, none⟩ (.int .i64 x23)).setCell ⟨w.heap.size + 1 + 1, 24, none⟩ (.slice (some ⟨g24, 0, none⟩) L24.length L24.length)) = v2 at *
  clear E2 uc0 uf0 ua0 uc1 uf1 ua1 uc2 uf2 ua2 uc3 uf3 ua3 uc4 uf4 ua4 uc5 uf5 ua5 uc6 uf6 ua6 uc7 uf7 ua7 uc8 uf8 ua8 uc9 uf9 ua9 uc10 uf10 ua10 uc11 uf11 ua11 uc12 uf12 ua12 uc13 uf13 ua13 uc14 uf14 ua14 uc15 uf15 ua15 uc16 uf16 ua16 uc17 uf17 ua17 uc18 uf18 ua18 uc19 uf19 ua19 uc20 uf20 ua20 uc21 uf21 ua21 uc22 uf22 ua22 uc23 uf23 ua23 uc24 uf24 ua24 uc25 uf25 ua25 uc26 uf26 ua26 uc27 uf27 ua27 uc28 uf28 ua28 uc29 uf29 ua29 uc30 uf30 ua30 uc31 uf31 ua31 uc32 uf32 ua32 uc33 uf33 ua33 Sset15 Sset16 Sset17 Sset18 Sset19 Sset20 Sset21 Sset22 Sset23 Sset24
  have uc0 := cellB (F2.out).c 0
  have uf0 := fzB (F2.out).c 0
  have uc1 := cellB (F2.out).c 1
  have uf1 := fzB (F2.out).c 1
  have uc2 := cellB (F2.out).c 2
  have uf2 := fzB (F2.out).c 2
  have uc3 := cellB (F2.out).c 3
  have uf3 := fzB (F2.out).c 3
  have uc4 := cellB (F2.out).c 4
  have uf4 := fzB (F2.out).c 4
  have uc5 := cellB (F2.out).c 5
  have uf5 := fzB (F2.out).c 5
  have uc6 := cellB (F2.out).c 6
  have uf6 := fzB (F2.out).c 6
  have uc7 := cellB (F2.out).c 7
  have uf7 := fzB (F2.out).c 7
  have uc8 := cellB (F2.out).c 8
  have uf8 := fzB (F2.out).c 8
  have uc9 := cellB (F2.out).c 9
  have uf9 := fzB (F2.out).c 9
  have uc10 := cellB (F2.out).c 10
  have uf10 := fzB (F2.out).c 10
  have uc11 := cellB (F2.out).c 11
  have uf11 := fzB (F2.out).c 11
  have uc12 := cellB (F2.out).c 12
  have uf12 := fzB (F2.out).c 12
  have uc13 := cellB (F2.out).c 13
  have uf13 := fzB (F2.out).c 13
  have uc14 := cellB (F2.out).c 14
  have uf14 := fzB (F2.out).c 14
  have uc15 := cellB (F2.out).c 15
  have uf15 := fzB (F2.out).c 15
  have uc16 := cellB (F2.out).c 16
  have uf16 := fzB (F2.out).c 16
  have uc17 := cellB (F2.out).c 17
  have uf17 := fzB (F2.out).c 17
  have uc18 := cellB (F2.out).c 18
  have uf18 := fzB (F2.out).c 18
  have uc19 := cellB (F2.out).c 19
  have uf19 := fzB (F2.out).c 19
  have uc20 := cellB (F2.out).c 20
  have uf20 := fzB (F2.out).c 20
  have uc21 := cellB (F2.out).c 21
  have uf21 := fzB (F2.out).c 21
  have uc22 := cellB (F2.out).c 22
  have uf22 := fzB (F2.out).c 22
  have uc23 := cellB (F2.out).c 23
  have uf23 := fzB (F2.out).c 23
  have uc24 := cellB (F2.out).c 24
  have uf24 := fzB (F2.out).c 24
  have uc25 := cellB (F2.out).c 25
  have uf25 := fzB (F2.out).c 25
  have uc26 := cellB (F2.out).c 26
  have uf26 := fzB (F2.out).c 26
  have uc27 := cellB (F2.out).c 27
  have uf27 := fzB (F2.out).c 27
  have uc28 := cellB (F2.out).c 28
  have uf28 := fzB (F2.out).c 28
  have uc29 := cellB (F2.out).c 29
  have uf29 := fzB (F2.out).c 29
  have uc30 := cellB (F2.out).c 30
  have uf30 := fzB (F2.out).c 30
  have uc31 := cellB (F2.out).c 31
  have uf31 := fzB (F2.out).c 31
  have uc32 := cellB (F2.out).c 32
  have uf32 := fzB (F2.out).c 32
  have uc33 := cellB (F2.out).c 33
  have uf33 := fzB (F2.out).c 33
  have ua0 := cellB (F2.out).a 0
  have ua1 := cellB (F2.out).a 1
  have ua2 := cellB (F2.out).a 2
  have ua3 := cellB (F2.out).a 3
  have ua4 := cellB (F2.out).a 4
  have ua5 := cellB (F2.out).a 5
  have ua6 := cellB (F2.out).a 6
  have ua7 := cellB (F2.out).a 7
  have ua8 := cellB (F2.out).a 8
  have ua9 := cellB (F2.out).a 9
  have ua10 := cellB (F2.out).a 10
  have ua11 := cellB (F2.out).a 11
  have ua12 := cellB (F2.out).a 12
  have ua13 := cellB (F2.out).a 13
  have ua14 := cellB (F2.out).a 14
  have ua15 := cellB (F2.out).a 15
  have ua16 := cellB (F2.out).a 16
  have ua17 := cellB (F2.out).a 17
  have ua18 := cellB (F2.out).a 18
  have ua19 := cellB (F2.out).a 19
  have ua20 := cellB (F2.out).a 20
  have ua21 := cellB (F2.out).a 21
  have ua22 := cellB (F2.out).a 22
  have ua23 := cellB (F2.out).a 23
  have ua24 := cellB (F2.out).a 24
  have ua25 := cellB (F2.out).a 25
  have ua26 := cellB (F2.out).a 26
  have ua27 := cellB (F2.out).a 27
  have ua28 := cellB (F2.out).a 28
  have ua29 := cellB (F2.out).a 29
  have ua30 := cellB (F2.out).a 30
  have ua31 := cellB (F2.out).a 31
  have ua32 := cellB (F2.out).a 32
  have ua33 := cellB (F2.out).a 33
  go_wp2_with fail
  have Z1 := (F2.out).bel
  have Z2_25 := H25.out.below Z1
  have Z3 := LawLedger.to_ledger a25 c25 L25 _ Z2_25 l25
  refine Z3.mono ?_
  clear Z1 Z3 Z2_25
  rintro e w3 ⟨g25, rfl, hh3, hb3⟩
  have E3 : Hid (Cp w w3 #[.int .i64 x0, .int .i64 x1, .int .i64 x2, .int .i64 x3, .int .i64 x4, .int .i64 x5, .int .i64 x6, .int .i64 x7, .int .i64 x8, .int .i64 x9, .int .i64 x10, .int .i64 x11, .int .i64 x12, .int .i64 x13, .int .i64 x14, .int .i64 x15, .int .i64 x16, .int .i64 x17, .int .i64 x18, .int .i64 x19, .int .i64 x20, .int .i64 x21, .int .i64 x22, .int .i64 x23, .slice a24 L24.length c24, .slice a25 L25.length c25, .int .i64 x26, .slice a27 L27.length c27, .slice a28 L28.length c28, .int .i64 x29, .int .i64 x30, .int .i64 x31, .int .i64 x32, .slice a33 L33.length c33] 75 #[.int .i64 0, .int .i64 0, .int .i64 0, .int .i64 0, .int .i64 0, .int .i64 0, .int .i64 0, .int .i64 0, .int .i64 0, .int .i64 0, .int .i64 0, .int .i64 0, .int .i64 0, .int .i64 0, .int .i64 0, .int .i64 0, .int .i64 0, .int .i64 0, .int .i64 0, .int .i64 0, .int .i64 0, .int .i64 0, .int .i64 0, .int .i64 0, .slice none 0 0, .slice none 0 0, .int .i64 0, .slice none 0 0, .slice none 0 0, .int .i64 0, .int .i64 0, .int .i64 0, .int .i64 0, .slice none 0 0] #[.int .i64 x0, .int .i64 x1, .int .i64 x2, .int .i64 x3, .int .i64 x4, .int .i64 x5, .int .i64 x6, .int .i64 x7, .int .i64 x8, .int .i64 x9, .int .i64 x10, .int .i64 x11, .int .i64 x12, .int .i64 x13, .int .i64 x14, .int .i64 x15, .int .i64 x16, .int .i64 x17, .int .i64 x18, .int .i64 x19, .int .i64 x20, .int .i64 x21, .int .i64 x22, .int .i64 x23, .slice (some ⟨g24, 0, none⟩) L24.length L24.length, .slice none 0 0, .int .i64 0, .slice none 0 0, .slice none 0 0, .int .i64 0, .int .i64 0, .int .i64 0, .int .i64 0, .slice none 0 0] 48 [⟨some ⟨g24, 0, none⟩, 170, 2, (L24).map SampleKit.cells⟩, ⟨some ⟨g25, 0, none⟩, 105, 5, (L25).map SlotKit.cells⟩]) := (F2.out).next hb3 (hh3)
  clear hb3 hh3 F2 uc0 uf0 ua0 uc1 uf1 ua1 uc2 uf2 ua2 uc3 uf3 ua3 uc4 uf4 ua4 uc5 uf5 ua5 uc6 uf6 ua6 uc7 uf7 ua7 uc8 uf8 ua8 uc9 uf9 ua9 uc10 uf10 ua10 uc11 uf11 ua11 uc12 uf12 ua12 uc13 uf13 ua13 uc14 uf14 ua14 uc15 uf15 ua15 uc16 uf16 ua16 uc17 uf17 ua17 uc18 uf18 ua18 uc19 uf19 ua19 uc20 uf20 ua20 uc21 uf21 ua21 uc22 uf22 ua22 uc23 uf23 ua23 uc24 uf24 ua24 uc25 uf25 ua25 uc26 uf26 ua26 uc27 uf27 ua27 uc28 uf28 ua28 uc29 uf29 ua29 uc30 uf30 ua30 uc31 uf31 ua31 uc32 uf32 ua32 uc33 uf33 ua33
  have uc0 := cellB (E3.out).c 0
  have uf0 := fzB (E3.out).c 0
  have uc1 := cellB (E3.out).c 1
  have uf1 := fzB (E3.out).c 1
  have uc2 := cellB (E3.out).c 2
  have uf2 := fzB (E3.out).c 2
  have uc3 := cellB (E3.out).c 3
  have uf3 := fzB (E3.out).c 3
  have uc4 := cellB (E3.out).c 4
  have uf4 := fzB (E3.out).c 4
  have uc5 := cellB (E3.out).c 5
  have uf5 := fzB (E3.out).c 5
  have uc6 := cellB (E3.out).c 6
  have uf6 := fzB (E3.out).c 6
  have uc7 := cellB (E3.out).c 7
  have uf7 := fzB (E3.out).c 7
  have uc8 := cellB (E3.out).c 8
  have uf8 := fzB (E3.out).c 8
  have uc9 := cellB (E3.out).c 9
  have uf9 := fzB (E3.out).c 9
  have uc10 := cellB (E3.out).c 10
  have uf10 := fzB (E3.out).c 10
  have uc11 := cellB (E3.out).c 11
  have uf11 := fzB (E3.out).c 11
  have uc12 := cellB (E3.out).c 12
  have uf12 := fzB (E3.out).c 12
  have uc13 := cellB (E3.out).c 13
  have uf13 := fzB (E3.out).c 13
  have uc14 := cellB (E3.out).c 14
  have uf14 := fzB (E3.out).c 14
  have uc15 := cellB (E3.out).c 15
  have uf15 := fzB (E3.out).c 15
  have uc16 := cellB (E3.out).c 16
  have uf16 := fzB (E3.out).c 16
  have uc17 := cellB (E3.out).c 17
  have uf17 := fzB (E3.out).c 17
  have uc18 := cellB (E3.out).c 18
  have uf18 := fzB (E3.out).c 18
  have uc19 := cellB (E3.out).c 19
  have uf19 := fzB (E3.out).c 19
  have uc20 := cellB (E3.out).c 20
  have uf20 := fzB (E3.out).c 20
  have uc21 := cellB (E3.out).c 21
  have uf21 := fzB (E3.out).c 21
  have uc22 := cellB (E3.out).c 22
  have uf22 := fzB (E3.out).c 22
  have uc23 := cellB (E3.out).c 23
  have uf23 := fzB (E3.out).c 23
  have uc24 := cellB (E3.out).c 24
  have uf24 := fzB (E3.out).c 24
  have uc25 := cellB (E3.out).c 25
  have uf25 := fzB (E3.out).c 25
  have uc26 := cellB (E3.out).c 26
  have uf26 := fzB (E3.out).c 26
  have uc27 := cellB (E3.out).c 27
  have uf27 := fzB (E3.out).c 27
  have uc28 := cellB (E3.out).c 28
  have uf28 := fzB (E3.out).c 28
  have uc29 := cellB (E3.out).c 29
  have uf29 := fzB (E3.out).c 29
  have uc30 := cellB (E3.out).c 30
  have uf30 := fzB (E3.out).c 30
  have uc31 := cellB (E3.out).c 31
  have uf31 := fzB (E3.out).c 31
  have uc32 := cellB (E3.out).c 32
  have uf32 := fzB (E3.out).c 32
  have uc33 := cellB (E3.out).c 33
  have uf33 := fzB (E3.out).c 33
  have ua0 := cellB (E3.out).a 0
  have ua1 := cellB (E3.out).a 1
  have ua2 := cellB (E3.out).a 2
  have ua3 := cellB (E3.out).a 3
  have ua4 := cellB (E3.out).a 4
  have ua5 := cellB (E3.out).a 5
  have ua6 := cellB (E3.out).a 6
  have ua7 := cellB (E3.out).a 7
  have ua8 := cellB (E3.out).a 8
  have ua9 := cellB (E3.out).a 9
  have ua10 := cellB (E3.out).a 10
  have ua11 := cellB (E3.out).a 11
  have ua12 := cellB (E3.out).a 12
  have ua13 := cellB (E3.out).a 13
  have ua14 := cellB (E3.out).a 14
  have ua15 := cellB (E3.out).a 15
  have ua16 := cellB (E3.out).a 16
  have ua17 := cellB (E3.out).a 17
  have ua18 := cellB (E3.out).a 18
  have ua19 := cellB (E3.out).a 19
  have ua20 := cellB (E3.out).a 20
  have ua21 := cellB (E3.out).a 21
  have ua22 := cellB (E3.out).a 22
  have ua23 := cellB (E3.out).a 23
  have ua24 := cellB (E3.out).a 24
  have ua25 := cellB (E3.out).a 25
  have ua26 := cellB (E3.out).a 26
  have ua27 := cellB (E3.out).a 27
  have ua28 := cellB (E3.out).a 28
  have ua29 := cellB (E3.out).a 29
  have ua30 := cellB (E3.out).a 30
  have ua31 := cellB (E3.out).a 31
  have ua32 := cellB (E3.out).a 32
  have ua33 := cellB (E3.out).a 33
  go_upto_region 6 with fail
  have Sset25 : Hid _ := (E3.out).set 25 (.slice (some ⟨g25, 0, none⟩) L25.length L25.length)
  have F3 : Hid (Cp w (w3.setCell ⟨w.heap.size + 1 + 1, 25, none⟩ (.slice (some ⟨g25, 0, none⟩) L25.length L25.length)) #[.int .i64 x0, .int .i64 x1, .int .i64 x2, .int .i64 x3, .int .i64 x4, .int .i64 x5, .int .i64 x6, .int .i64 x7, .int .i64 x8, .int .i64 x9, .int .i64 x10, .int .i64 x11, .int .i64 x12, .int .i64 x13, .int .i64 x14, .int .i64 x15, .int .i64 x16, .int .i64 x17, .int .i64 x18, .int .i64 x19, .int .i64 x20, .int .i64 x21, .int .i64 x22, .int .i64 x23, .slice a24 L24.length c24, .slice a25 L25.length c25, .int .i64 x26, .slice a27 L27.length c27, .slice a28 L28.length c28, .int .i64 x29, .int .i64 x30, .int .i64 x31, .int .i64 x32, .slice a33 L33.length c33] 75 #[.int .i64 0, .int .i64 0, .int .i64 0, .int .i64 0, .int .i64 0, .int .i64 0, .int .i64 0, .int .i64 0, .int .i64 0, .int .i64 0, .int .i64 0, .int .i64 0, .int .i64 0, .int .i64 0, .int .i64 0, .int .i64 0, .int .i64 0, .int .i64 0, .int .i64 0, .int .i64 0, .int .i64 0, .int .i64 0, .int .i64 0, .int .i64 0, .slice none 0 0, .slice none 0 0, .int .i64 0, .slice none 0 0, .slice none 0 0, .int .i64 0, .int .i64 0, .int .i64 0, .int .i64 0, .slice none 0 0] #[.int .i64 x0, .int .i64 x1, .int .i64 x2, .int .i64 x3, .int .i64 x4, .int .i64 x5, .int .i64 x6, .int .i64 x7, .int .i64 x8, .int .i64 x9, .int .i64 x10, .int .i64 x11, .int .i64 x12, .int .i64 x13, .int .i64 x14, .int .i64 x15, .int .i64 x16, .int .i64 x17, .int .i64 x18, .int .i64 x19, .int .i64 x20, .int .i64 x21, .int .i64 x22, .int .i64 x23, .slice (some ⟨g24, 0, none⟩) L24.length L24.length, .slice (some ⟨g25, 0, none⟩) L25.length L25.length, .int .i64 0, .slice none 0 0, .slice none 0 0, .int .i64 0, .int .i64 0, .int .i64 0, .int .i64 0, .slice none 0 0] 48 [⟨some ⟨g24, 0, none⟩, 170, 2, (L24).map SampleKit.cells⟩, ⟨some ⟨g25, 0, none⟩, 105, 5, (L25).map SlotKit.cells⟩]) := Sset25.out
  generalize (w3.setCell ⟨w.heap.size + 1 + 1, 25, none⟩ (.slice (some ⟨g25, 0, none⟩) L25.length L25.length)) = v3 at *
  clear E3 uc0 uf0 ua0 uc1 uf1 ua1 uc2 uf2 ua2 uc3 uf3 ua3 uc4 uf4 ua4 uc5 uf5 ua5 uc6 uf6 ua6 uc7 uf7 ua7 uc8 uf8 ua8 uc9 uf9 ua9 uc10 uf10 ua10 uc11 uf11 ua11 uc12 uf12 ua12 uc13 uf13 ua13 uc14 uf14 ua14 uc15 uf15 ua15 uc16 uf16 ua16 uc17 uf17 ua17 uc18 uf18 ua18 uc19 uf19 ua19 uc20 uf20 ua20 uc21 uf21 ua21 uc22 uf22 ua22 uc23 uf23 ua23 uc24 uf24 ua24 uc25 uf25 ua25 uc26 uf26 ua26 uc27 uf27 ua27 uc28 uf28 ua28 uc29 uf29 ua29 uc30 uf30 ua30 uc31 uf31 ua31 uc32 uf32 ua32 uc33 uf33 ua33 Sset25
  have uc0 := cellB (F3.out).c 0
  have uf0 := fzB (F3.out).c 0
  have uc1 := cellB (F3.out).c 1
  have uf1 := fzB (F3.out).c 1
  have uc2 := cellB (F3.out).c 2
  have uf2 := fzB (F3.out).c 2
  have uc3 := cellB (F3.out).c 3
  have uf3 := fzB (F3.out).c 3
  have uc4 := cellB (F3.out).c 4
  have uf4 := fzB (F3.out).c 4
  have uc5 := cellB (F3.out).c 5
  have uf5 := fzB (F3.out).c 5
  have uc6 := cellB (F3.out).c 6
  have uf6 := fzB (F3.out).c 6
  have uc7 := cellB (F3.out).c 7
  have uf7 := fzB (F3.out).c 7
  have uc8 := cellB (F3.out).c 8
  have uf8 := fzB (F3.out).c 8
  have uc9 := cellB (F3.out).c 9
  have uf9 := fzB (F3.out).c 9
  have uc10 := cellB (F3.out).c 10
  have uf10 := fzB (F3.out).c 10
  have uc11 := cellB (F3.out).c 11
  have uf11 := fzB (F3.out).c 11
  have uc12 := cellB (F3.out).c 12
  have uf12 := fzB (F3.out).c 12
  have uc13 := cellB (F3.out).c 13
  have uf13 := fzB (F3.out).c 13
  have uc14 := cellB (F3.out).c 14
  have uf14 := fzB (F3.out).c 14
  have uc15 := cellB (F3.out).c 15
  have uf15 := fzB (F3.out).c 15
  have uc16 := cellB (F3.out).c 16
  have uf16 := fzB (F3.out).c 16
  have uc17 := cellB (F3.out).c 17
  have uf17 := fzB (F3.out).c 17
  have uc18 := cellB (F3.out).c 18
  have uf18 := fzB (F3.out).c 18
  have uc19 := cellB (F3.out).c 19
  have uf19 := fzB (F3.out).c 19
  have uc20 := cellB (F3.out).c 20
  have uf20 := fzB (F3.out).c 20
  have uc21 := cellB (F3.out).c 21
  have uf21 := fzB (F3.out).c 21
  have uc22 := cellB (F3.out).c 22
  have uf22 := fzB (F3.out).c 22
  have uc23 := cellB (F3.out).c 23
  have uf23 := fzB (F3.out).c 23
  have uc24 := cellB (F3.out).c 24
  have uf24 := fzB (F3.out).c 24
  have uc25 := cellB (F3.out).c 25
  have uf25 := fzB (F3.out).c 25
  have uc26 := cellB (F3.out).c 26
  have uf26 := fzB (F3.out).c 26
  have uc27 := cellB (F3.out).c 27
  have uf27 := fzB (F3.out).c 27
  have uc28 := cellB (F3.out).c 28
  have uf28 := fzB (F3.out).c 28
  have uc29 := cellB (F3.out).c 29
  have uf29 := fzB (F3.out).c 29
  have uc30 := cellB (F3.out).c 30
  have uf30 := fzB (F3.out).c 30
  have uc31 := cellB (F3.out).c 31
  have uf31 := fzB (F3.out).c 31
  have uc32 := cellB (F3.out).c 32
  have uf32 := fzB (F3.out).c 32
  have uc33 := cellB (F3.out).c 33
  have uf33 := fzB (F3.out).c 33
  have ua0 := cellB (F3.out).a 0
  have ua1 := cellB (F3.out).a 1
  have ua2 := cellB (F3.out).a 2
  have ua3 := cellB (F3.out).a 3
  have ua4 := cellB (F3.out).a 4
  have ua5 := cellB (F3.out).a 5
  have ua6 := cellB (F3.out).a 6
  have ua7 := cellB (F3.out).a 7
  have ua8 := cellB (F3.out).a 8
  have ua9 := cellB (F3.out).a 9
  have ua10 := cellB (F3.out).a 10
  have ua11 := cellB (F3.out).a 11
  have ua12 := cellB (F3.out).a 12
  have ua13 := cellB (F3.out).a 13
  have ua14 := cellB (F3.out).a 14
  have ua15 := cellB (F3.out).a 15
  have ua16 := cellB (F3.out).a 16
  have ua17 := cellB (F3.out).a 17
  have ua18 := cellB (F3.out).a 18
  have ua19 := cellB (F3.out).a 19
  have ua20 := cellB (F3.out).a 20
  have ua21 := cellB (F3.out).a 21
  have ua22 := cellB (F3.out).a 22
  have ua23 := cellB (F3.out).a 23
  have ua24 := cellB (F3.out).a 24
  have ua25 := cellB (F3.out).a 25
  have ua26 := cellB (F3.out).a 26
  have ua27 := cellB (F3.out).a 27
  have ua28 := cellB (F3.out).a 28
  have ua29 := cellB (F3.out).a 29
  have ua30 := cellB (F3.out).a 30
  have ua31 := cellB (F3.out).a 31
  have ua32 := cellB (F3.out).a 32
  have ua33 := cellB (F3.out).a 33
  go_wp2_with fail
  have Z1 := (F3.out).bel
  have Z2_27 := H27.out.below Z1
  have Z3 := LawQueue.to_queue x26 a27 c27 L27 _ Z2_27 l27
  refine Z3.mono ?_
  clear Z1 Z3 Z2_27
  rintro e w4 ⟨g27, rfl, hh4, hb4⟩
  have E4 : Hid (Cp w w4 #[.int .i64 x0, .int .i64 x1, .int .i64 x2, .int .i64 x3, .int .i64 x4, .int .i64 x5, .int .i64 x6, .int .i64 x7, .int .i64 x8, .int .i64 x9, .int .i64 x10, .int .i64 x11, .int .i64 x12, .int .i64 x13, .int .i64 x14, .int .i64 x15, .int .i64 x16, .int .i64 x17, .int .i64 x18, .int .i64 x19, .int .i64 x20, .int .i64 x21, .int .i64 x22, .int .i64 x23, .slice a24 L24.length c24, .slice a25 L25.length c25, .int .i64 x26, .slice a27 L27.length c27, .slice a28 L28.length c28, .int .i64 x29, .int .i64 x30, .int .i64 x31, .int .i64 x32, .slice a33 L33.length c33] 75 #[.int .i64 0, .int .i64 0, .int .i64 0, .int .i64 0, .int .i64 0, .int .i64 0, .int .i64 0, .int .i64 0, .int .i64 0, .int .i64 0, .int .i64 0, .int .i64 0, .int .i64 0, .int .i64 0, .int .i64 0, .int .i64 0, .int .i64 0, .int .i64 0, .int .i64 0, .int .i64 0, .int .i64 0, .int .i64 0, .int .i64 0, .int .i64 0, .slice none 0 0, .slice none 0 0, .int .i64 0, .slice none 0 0, .slice none 0 0, .int .i64 0, .int .i64 0, .int .i64 0, .int .i64 0, .slice none 0 0] #[.int .i64 x0, .int .i64 x1, .int .i64 x2, .int .i64 x3, .int .i64 x4, .int .i64 x5, .int .i64 x6, .int .i64 x7, .int .i64 x8, .int .i64 x9, .int .i64 x10, .int .i64 x11, .int .i64 x12, .int .i64 x13, .int .i64 x14, .int .i64 x15, .int .i64 x16, .int .i64 x17, .int .i64 x18, .int .i64 x19, .int .i64 x20, .int .i64 x21, .int .i64 x22, .int .i64 x23, .slice (some ⟨g24, 0, none⟩) L24.length L24.length, .slice (some ⟨g25, 0, none⟩) L25.length L25.length, .int .i64 0, .slice none 0 0, .slice none 0 0, .int .i64 0, .int .i64 0, .int .i64 0, .int .i64 0, .slice none 0 0] 48 [⟨some ⟨g24, 0, none⟩, 170, 2, (L24).map SampleKit.cells⟩, ⟨some ⟨g25, 0, none⟩, 105, 5, (L25).map SlotKit.cells⟩, ⟨some ⟨g27, 0, none⟩, 161, 6, (L27).map ReqKit.cells⟩]) := (F3.out).next hb4 (hh4)
  clear hb4 hh4 F3 uc0 uf0 ua0 uc1 uf1 ua1 uc2 uf2 ua2 uc3 uf3 ua3 uc4 uf4 ua4 uc5 uf5 ua5 uc6 uf6 ua6 uc7 uf7 ua7 uc8 uf8 ua8 uc9 uf9 ua9 uc10 uf10 ua10 uc11 uf11 ua11 uc12 uf12 ua12 uc13 uf13 ua13 uc14 uf14 ua14 uc15 uf15 ua15 uc16 uf16 ua16 uc17 uf17 ua17 uc18 uf18 ua18 uc19 uf19 ua19 uc20 uf20 ua20 uc21 uf21 ua21 uc22 uf22 ua22 uc23 uf23 ua23 uc24 uf24 ua24 uc25 uf25 ua25 uc26 uf26 ua26 uc27 uf27 ua27 uc28 uf28 ua28 uc29 uf29 ua29 uc30 uf30 ua30 uc31 uf31 ua31 uc32 uf32 ua32 uc33 uf33 ua33
  have uc0 := cellB (E4.out).c 0
  have uf0 := fzB (E4.out).c 0
  have uc1 := cellB (E4.out).c 1
  have uf1 := fzB (E4.out).c 1
  have uc2 := cellB (E4.out).c 2
  have uf2 := fzB (E4.out).c 2
  have uc3 := cellB (E4.out).c 3
  have uf3 := fzB (E4.out).c 3
  have uc4 := cellB (E4.out).c 4
  have uf4 := fzB (E4.out).c 4
  have uc5 := cellB (E4.out).c 5
  have uf5 := fzB (E4.out).c 5
  have uc6 := cellB (E4.out).c 6
  have uf6 := fzB (E4.out).c 6
  have uc7 := cellB (E4.out).c 7
  have uf7 := fzB (E4.out).c 7
  have uc8 := cellB (E4.out).c 8
  have uf8 := fzB (E4.out).c 8
  have uc9 := cellB (E4.out).c 9
  have uf9 := fzB (E4.out).c 9
  have uc10 := cellB (E4.out).c 10
  have uf10 := fzB (E4.out).c 10
  have uc11 := cellB (E4.out).c 11
  have uf11 := fzB (E4.out).c 11
  have uc12 := cellB (E4.out).c 12
  have uf12 := fzB (E4.out).c 12
  have uc13 := cellB (E4.out).c 13
  have uf13 := fzB (E4.out).c 13
  have uc14 := cellB (E4.out).c 14
  have uf14 := fzB (E4.out).c 14
  have uc15 := cellB (E4.out).c 15
  have uf15 := fzB (E4.out).c 15
  have uc16 := cellB (E4.out).c 16
  have uf16 := fzB (E4.out).c 16
  have uc17 := cellB (E4.out).c 17
  have uf17 := fzB (E4.out).c 17
  have uc18 := cellB (E4.out).c 18
  have uf18 := fzB (E4.out).c 18
  have uc19 := cellB (E4.out).c 19
  have uf19 := fzB (E4.out).c 19
  have uc20 := cellB (E4.out).c 20
  have uf20 := fzB (E4.out).c 20
  have uc21 := cellB (E4.out).c 21
  have uf21 := fzB (E4.out).c 21
  have uc22 := cellB (E4.out).c 22
  have uf22 := fzB (E4.out).c 22
  have uc23 := cellB (E4.out).c 23
  have uf23 := fzB (E4.out).c 23
  have uc24 := cellB (E4.out).c 24
  have uf24 := fzB (E4.out).c 24
  have uc25 := cellB (E4.out).c 25
  have uf25 := fzB (E4.out).c 25
  have uc26 := cellB (E4.out).c 26
  have uf26 := fzB (E4.out).c 26
  have uc27 := cellB (E4.out).c 27
  have uf27 := fzB (E4.out).c 27
  have uc28 := cellB (E4.out).c 28
  have uf28 := fzB (E4.out).c 28
  have uc29 := cellB (E4.out).c 29
  have uf29 := fzB (E4.out).c 29
  have uc30 := cellB (E4.out).c 30
  have uf30 := fzB (E4.out).c 30
  have uc31 := cellB (E4.out).c 31
  have uf31 := fzB (E4.out).c 31
  have uc32 := cellB (E4.out).c 32
  have uf32 := fzB (E4.out).c 32
  have uc33 := cellB (E4.out).c 33
  have uf33 := fzB (E4.out).c 33
  have ua0 := cellB (E4.out).a 0
  have ua1 := cellB (E4.out).a 1
  have ua2 := cellB (E4.out).a 2
  have ua3 := cellB (E4.out).a 3
  have ua4 := cellB (E4.out).a 4
  have ua5 := cellB (E4.out).a 5
  have ua6 := cellB (E4.out).a 6
  have ua7 := cellB (E4.out).a 7
  have ua8 := cellB (E4.out).a 8
  have ua9 := cellB (E4.out).a 9
  have ua10 := cellB (E4.out).a 10
  have ua11 := cellB (E4.out).a 11
  have ua12 := cellB (E4.out).a 12
  have ua13 := cellB (E4.out).a 13
  have ua14 := cellB (E4.out).a 14
  have ua15 := cellB (E4.out).a 15
  have ua16 := cellB (E4.out).a 16
  have ua17 := cellB (E4.out).a 17
  have ua18 := cellB (E4.out).a 18
  have ua19 := cellB (E4.out).a 19
  have ua20 := cellB (E4.out).a 20
  have ua21 := cellB (E4.out).a 21
  have ua22 := cellB (E4.out).a 22
  have ua23 := cellB (E4.out).a 23
  have ua24 := cellB (E4.out).a 24
  have ua25 := cellB (E4.out).a 25
  have ua26 := cellB (E4.out).a 26
  have ua27 := cellB (E4.out).a 27
  have ua28 := cellB (E4.out).a 28
  have ua29 := cellB (E4.out).a 29
  have ua30 := cellB (E4.out).a 30
  have ua31 := cellB (E4.out).a 31
  have ua32 := cellB (E4.out).a 32
  have ua33 := cellB (E4.out).a 33
  go_upto_region 7 with fail
  have Sset26 : Hid _ := (E4.out).set 26 (.int .i64 x26)
  have Sset27 : Hid _ := (Sset26.out).set 27 (.slice (some ⟨g27, 0, none⟩) L27.length L27.length)
  have F4 : Hid (Cp w ((w4.setCell ⟨w.heap.size + 1 + 1, 26, none⟩ (.int .i64 x26)).setCell ⟨w.heap.size + 1 + 1, 27, none⟩ (.slice (some ⟨g27, 0, none⟩) L27.length L27.length)) #[.int .i64 x0, .int .i64 x1, .int .i64 x2, .int .i64 x3, .int .i64 x4, .int .i64 x5, .int .i64 x6, .int .i64 x7, .int .i64 x8, .int .i64 x9, .int .i64 x10, .int .i64 x11, .int .i64 x12, .int .i64 x13, .int .i64 x14, .int .i64 x15, .int .i64 x16, .int .i64 x17, .int .i64 x18, .int .i64 x19, .int .i64 x20, .int .i64 x21, .int .i64 x22, .int .i64 x23, .slice a24 L24.length c24, .slice a25 L25.length c25, .int .i64 x26, .slice a27 L27.length c27, .slice a28 L28.length c28, .int .i64 x29, .int .i64 x30, .int .i64 x31, .int .i64 x32, .slice a33 L33.length c33] 75 #[.int .i64 0, .int .i64 0, .int .i64 0, .int .i64 0, .int .i64 0, .int .i64 0, .int .i64 0, .int .i64 0, .int .i64 0, .int .i64 0, .int .i64 0, .int .i64 0, .int .i64 0, .int .i64 0, .int .i64 0, .int .i64 0, .int .i64 0, .int .i64 0, .int .i64 0, .int .i64 0, .int .i64 0, .int .i64 0, .int .i64 0, .int .i64 0, .slice none 0 0, .slice none 0 0, .int .i64 0, .slice none 0 0, .slice none 0 0, .int .i64 0, .int .i64 0, .int .i64 0, .int .i64 0, .slice none 0 0] #[.int .i64 x0, .int .i64 x1, .int .i64 x2, .int .i64 x3, .int .i64 x4, .int .i64 x5, .int .i64 x6, .int .i64 x7, .int .i64 x8, .int .i64 x9, .int .i64 x10, .int .i64 x11, .int .i64 x12, .int .i64 x13, .int .i64 x14, .int .i64 x15, .int .i64 x16, .int .i64 x17, .int .i64 x18, .int .i64 x19, .int .i64 x20, .int .i64 x21, .int .i64 x22, .int .i64 x23, .slice (some ⟨g24, 0, none⟩) L24.length L24.length, .slice (some ⟨g25, 0, none⟩) L25.length L25.length, .int .i64 x26, .slice (some ⟨g27, 0, none⟩) L27.length L27.length, .slice none 0 0, .int .i64 0, .int .i64 0, .int .i64 0, .int .i64 0, .slice none 0 0] 48 [⟨some ⟨g24, 0, none⟩, 170, 2, (L24).map SampleKit.cells⟩, ⟨some ⟨g25, 0, none⟩, 105, 5, (L25).map SlotKit.cells⟩, ⟨some ⟨g27, 0, none⟩, 161, 6, (L27).map ReqKit.cells⟩]) := Sset27.out
  generalize ((w4.setCell ⟨w.heap.size + 1 + 1, 26, none⟩ (.int .i64 x26)).setCell ⟨w.heap.size + 1 + 1, 27, none⟩ (.slice (some ⟨g27, 0, none⟩) L27.length L27.length)) = v4 at *
  clear E4 uc0 uf0 ua0 uc1 uf1 ua1 uc2 uf2 ua2 uc3 uf3 ua3 uc4 uf4 ua4 uc5 uf5 ua5 uc6 uf6 ua6 uc7 uf7 ua7 uc8 uf8 ua8 uc9 uf9 ua9 uc10 uf10 ua10 uc11 uf11 ua11 uc12 uf12 ua12 uc13 uf13 ua13 uc14 uf14 ua14 uc15 uf15 ua15 uc16 uf16 ua16 uc17 uf17 ua17 uc18 uf18 ua18 uc19 uf19 ua19 uc20 uf20 ua20 uc21 uf21 ua21 uc22 uf22 ua22 uc23 uf23 ua23 uc24 uf24 ua24 uc25 uf25 ua25 uc26 uf26 ua26 uc27 uf27 ua27 uc28 uf28 ua28 uc29 uf29 ua29 uc30 uf30 ua30 uc31 uf31 ua31 uc32 uf32 ua32 uc33 uf33 ua33 Sset26 Sset27
  have uc0 := cellB (F4.out).c 0
  have uf0 := fzB (F4.out).c 0
  have uc1 := cellB (F4.out).c 1
  have uf1 := fzB (F4.out).c 1
  have uc2 := cellB (F4.out).c 2
  have uf2 := fzB (F4.out).c 2
  have uc3 := cellB (F4.out).c 3
  have uf3 := fzB (F4.out).c 3
  have uc4 := cellB (F4.out).c 4
  have uf4 := fzB (F4.out).c 4
  have uc5 := cellB (F4.out).c 5
  have uf5 := fzB (F4.out).c 5
  have uc6 := cellB (F4.out).c 6
  have uf6 := fzB (F4.out).c 6
  have uc7 := cellB (F4.out).c 7
  have uf7 := fzB (F4.out).c 7
  have uc8 := cellB (F4.out).c 8
  have uf8 := fzB (F4.out).c 8
  have uc9 := cellB (F4.out).c 9
  have uf9 := fzB (F4.out).c 9
  have uc10 := cellB (F4.out).c 10
  have uf10 := fzB (F4.out).c 10
  have uc11 := cellB (F4.out).c 11
  have uf11 := fzB (F4.out).c 11
  have uc12 := cellB (F4.out).c 12
  have uf12 := fzB (F4.out).c 12
  have uc13 := cellB (F4.out).c 13
  have uf13 := fzB (F4.out).c 13
  have uc14 := cellB (F4.out).c 14
  have uf14 := fzB (F4.out).c 14
  have uc15 := cellB (F4.out).c 15
  have uf15 := fzB (F4.out).c 15
  have uc16 := cellB (F4.out).c 16
  have uf16 := fzB (F4.out).c 16
  have uc17 := cellB (F4.out).c 17
  have uf17 := fzB (F4.out).c 17
  have uc18 := cellB (F4.out).c 18
  have uf18 := fzB (F4.out).c 18
  have uc19 := cellB (F4.out).c 19
  have uf19 := fzB (F4.out).c 19
  have uc20 := cellB (F4.out).c 20
  have uf20 := fzB (F4.out).c 20
  have uc21 := cellB (F4.out).c 21
  have uf21 := fzB (F4.out).c 21
  have uc22 := cellB (F4.out).c 22
  have uf22 := fzB (F4.out).c 22
  have uc23 := cellB (F4.out).c 23
  have uf23 := fzB (F4.out).c 23
  have uc24 := cellB (F4.out).c 24
  have uf24 := fzB (F4.out).c 24
  have uc25 := cellB (F4.out).c 25
  have uf25 := fzB (F4.out).c 25
  have uc26 := cellB (F4.out).c 26
  have uf26 := fzB (F4.out).c 26
  have uc27 := cellB (F4.out).c 27
  have uf27 := fzB (F4.out).c 27
  have uc28 := cellB (F4.out).c 28
  have uf28 := fzB (F4.out).c 28
  have uc29 := cellB (F4.out).c 29
  have uf29 := fzB (F4.out).c 29
  have uc30 := cellB (F4.out).c 30
  have uf30 := fzB (F4.out).c 30
  have uc31 := cellB (F4.out).c 31
  have uf31 := fzB (F4.out).c 31
  have uc32 := cellB (F4.out).c 32
  have uf32 := fzB (F4.out).c 32
  have uc33 := cellB (F4.out).c 33
  have uf33 := fzB (F4.out).c 33
  have ua0 := cellB (F4.out).a 0
  have ua1 := cellB (F4.out).a 1
  have ua2 := cellB (F4.out).a 2
  have ua3 := cellB (F4.out).a 3
  have ua4 := cellB (F4.out).a 4
  have ua5 := cellB (F4.out).a 5
  have ua6 := cellB (F4.out).a 6
  have ua7 := cellB (F4.out).a 7
  have ua8 := cellB (F4.out).a 8
  have ua9 := cellB (F4.out).a 9
  have ua10 := cellB (F4.out).a 10
  have ua11 := cellB (F4.out).a 11
  have ua12 := cellB (F4.out).a 12
  have ua13 := cellB (F4.out).a 13
  have ua14 := cellB (F4.out).a 14
  have ua15 := cellB (F4.out).a 15
  have ua16 := cellB (F4.out).a 16
  have ua17 := cellB (F4.out).a 17
  have ua18 := cellB (F4.out).a 18
  have ua19 := cellB (F4.out).a 19
  have ua20 := cellB (F4.out).a 20
  have ua21 := cellB (F4.out).a 21
  have ua22 := cellB (F4.out).a 22
  have ua23 := cellB (F4.out).a 23
  have ua24 := cellB (F4.out).a 24
  have ua25 := cellB (F4.out).a 25
  have ua26 := cellB (F4.out).a 26
  have ua27 := cellB (F4.out).a 27
  have ua28 := cellB (F4.out).a 28
  have ua29 := cellB (F4.out).a 29
  have ua30 := cellB (F4.out).a 30
  have ua31 := cellB (F4.out).a 31
  have ua32 := cellB (F4.out).a 32
  have ua33 := cellB (F4.out).a 33
  go_wp2_with fail
  have Z1 := (F4.out).bel
  have Z2 := H28.out.below Z1
  have Z3 := CodelRows.to_rows a28 c28 L28 _ Z2 l28
  refine Z3.mono ?_
  clear Z1 Z2 Z3
  rintro e w5 ⟨g28, rfl, hg5, hr5, hb5⟩
  have E5 : Hid (Cp w w5 #[.int .i64 x0, .int .i64 x1, .int .i64 x2, .int .i64 x3, .int .i64 x4, .int .i64 x5, .int .i64 x6, .int .i64 x7, .int .i64 x8, .int .i64 x9, .int .i64 x10, .int .i64 x11, .int .i64 x12, .int .i64 x13, .int .i64 x14, .int .i64 x15, .int .i64 x16, .int .i64 x17, .int .i64 x18, .int .i64 x19, .int .i64 x20, .int .i64 x21, .int .i64 x22, .int .i64 x23, .slice a24 L24.length c24, .slice a25 L25.length c25, .int .i64 x26, .slice a27 L27.length c27, .slice a28 L28.length c28, .int .i64 x29, .int .i64 x30, .int .i64 x31, .int .i64 x32, .slice a33 L33.length c33] 75 #[.int .i64 0, .int .i64 0, .int .i64 0, .int .i64 0, .int .i64 0, .int .i64 0, .int .i64 0, .int .i64 0, .int .i64 0, .int .i64 0, .int .i64 0, .int .i64 0, .int .i64 0, .int .i64 0, .int .i64 0, .int .i64 0, .int .i64 0, .int .i64 0, .int .i64 0, .int .i64 0, .int .i64 0, .int .i64 0, .int .i64 0, .int .i64 0, .slice none 0 0, .slice none 0 0, .int .i64 0, .slice none 0 0, .slice none 0 0, .int .i64 0, .int .i64 0, .int .i64 0, .int .i64 0, .slice none 0 0] #[.int .i64 x0, .int .i64 x1, .int .i64 x2, .int .i64 x3, .int .i64 x4, .int .i64 x5, .int .i64 x6, .int .i64 x7, .int .i64 x8, .int .i64 x9, .int .i64 x10, .int .i64 x11, .int .i64 x12, .int .i64 x13, .int .i64 x14, .int .i64 x15, .int .i64 x16, .int .i64 x17, .int .i64 x18, .int .i64 x19, .int .i64 x20, .int .i64 x21, .int .i64 x22, .int .i64 x23, .slice (some ⟨g24, 0, none⟩) L24.length L24.length, .slice (some ⟨g25, 0, none⟩) L25.length L25.length, .int .i64 x26, .slice (some ⟨g27, 0, none⟩) L27.length L27.length, .slice none 0 0, .int .i64 0, .int .i64 0, .int .i64 0, .int .i64 0, .slice none 0 0] 48 [⟨some ⟨g24, 0, none⟩, 170, 2, (L24).map SampleKit.cells⟩, ⟨some ⟨g25, 0, none⟩, 105, 5, (L25).map SlotKit.cells⟩, ⟨some ⟨g27, 0, none⟩, 161, 6, (L27).map ReqKit.cells⟩, ⟨some ⟨g28, 0, none⟩, 87, 6, (L28).map CodelKit.cells⟩]) := (F4.out).next hb5 (Holds.row hr5 hg5)
  clear hb5 hg5 hr5 F4 uc0 uf0 ua0 uc1 uf1 ua1 uc2 uf2 ua2 uc3 uf3 ua3 uc4 uf4 ua4 uc5 uf5 ua5 uc6 uf6 ua6 uc7 uf7 ua7 uc8 uf8 ua8 uc9 uf9 ua9 uc10 uf10 ua10 uc11 uf11 ua11 uc12 uf12 ua12 uc13 uf13 ua13 uc14 uf14 ua14 uc15 uf15 ua15 uc16 uf16 ua16 uc17 uf17 ua17 uc18 uf18 ua18 uc19 uf19 ua19 uc20 uf20 ua20 uc21 uf21 ua21 uc22 uf22 ua22 uc23 uf23 ua23 uc24 uf24 ua24 uc25 uf25 ua25 uc26 uf26 ua26 uc27 uf27 ua27 uc28 uf28 ua28 uc29 uf29 ua29 uc30 uf30 ua30 uc31 uf31 ua31 uc32 uf32 ua32 uc33 uf33 ua33
  have uc0 := cellB (E5.out).c 0
  have uf0 := fzB (E5.out).c 0
  have uc1 := cellB (E5.out).c 1
  have uf1 := fzB (E5.out).c 1
  have uc2 := cellB (E5.out).c 2
  have uf2 := fzB (E5.out).c 2
  have uc3 := cellB (E5.out).c 3
  have uf3 := fzB (E5.out).c 3
  have uc4 := cellB (E5.out).c 4
  have uf4 := fzB (E5.out).c 4
  have uc5 := cellB (E5.out).c 5
  have uf5 := fzB (E5.out).c 5
  have uc6 := cellB (E5.out).c 6
  have uf6 := fzB (E5.out).c 6
  have uc7 := cellB (E5.out).c 7
  have uf7 := fzB (E5.out).c 7
  have uc8 := cellB (E5.out).c 8
  have uf8 := fzB (E5.out).c 8
  have uc9 := cellB (E5.out).c 9
  have uf9 := fzB (E5.out).c 9
  have uc10 := cellB (E5.out).c 10
  have uf10 := fzB (E5.out).c 10
  have uc11 := cellB (E5.out).c 11
  have uf11 := fzB (E5.out).c 11
  have uc12 := cellB (E5.out).c 12
  have uf12 := fzB (E5.out).c 12
  have uc13 := cellB (E5.out).c 13
  have uf13 := fzB (E5.out).c 13
  have uc14 := cellB (E5.out).c 14
  have uf14 := fzB (E5.out).c 14
  have uc15 := cellB (E5.out).c 15
  have uf15 := fzB (E5.out).c 15
  have uc16 := cellB (E5.out).c 16
  have uf16 := fzB (E5.out).c 16
  have uc17 := cellB (E5.out).c 17
  have uf17 := fzB (E5.out).c 17
  have uc18 := cellB (E5.out).c 18
  have uf18 := fzB (E5.out).c 18
  have uc19 := cellB (E5.out).c 19
  have uf19 := fzB (E5.out).c 19
  have uc20 := cellB (E5.out).c 20
  have uf20 := fzB (E5.out).c 20
  have uc21 := cellB (E5.out).c 21
  have uf21 := fzB (E5.out).c 21
  have uc22 := cellB (E5.out).c 22
  have uf22 := fzB (E5.out).c 22
  have uc23 := cellB (E5.out).c 23
  have uf23 := fzB (E5.out).c 23
  have uc24 := cellB (E5.out).c 24
  have uf24 := fzB (E5.out).c 24
  have uc25 := cellB (E5.out).c 25
  have uf25 := fzB (E5.out).c 25
  have uc26 := cellB (E5.out).c 26
  have uf26 := fzB (E5.out).c 26
  have uc27 := cellB (E5.out).c 27
  have uf27 := fzB (E5.out).c 27
  have uc28 := cellB (E5.out).c 28
  have uf28 := fzB (E5.out).c 28
  have uc29 := cellB (E5.out).c 29
  have uf29 := fzB (E5.out).c 29
  have uc30 := cellB (E5.out).c 30
  have uf30 := fzB (E5.out).c 30
  have uc31 := cellB (E5.out).c 31
  have uf31 := fzB (E5.out).c 31
  have uc32 := cellB (E5.out).c 32
  have uf32 := fzB (E5.out).c 32
  have uc33 := cellB (E5.out).c 33
  have uf33 := fzB (E5.out).c 33
  have ua0 := cellB (E5.out).a 0
  have ua1 := cellB (E5.out).a 1
  have ua2 := cellB (E5.out).a 2
  have ua3 := cellB (E5.out).a 3
  have ua4 := cellB (E5.out).a 4
  have ua5 := cellB (E5.out).a 5
  have ua6 := cellB (E5.out).a 6
  have ua7 := cellB (E5.out).a 7
  have ua8 := cellB (E5.out).a 8
  have ua9 := cellB (E5.out).a 9
  have ua10 := cellB (E5.out).a 10
  have ua11 := cellB (E5.out).a 11
  have ua12 := cellB (E5.out).a 12
  have ua13 := cellB (E5.out).a 13
  have ua14 := cellB (E5.out).a 14
  have ua15 := cellB (E5.out).a 15
  have ua16 := cellB (E5.out).a 16
  have ua17 := cellB (E5.out).a 17
  have ua18 := cellB (E5.out).a 18
  have ua19 := cellB (E5.out).a 19
  have ua20 := cellB (E5.out).a 20
  have ua21 := cellB (E5.out).a 21
  have ua22 := cellB (E5.out).a 22
  have ua23 := cellB (E5.out).a 23
  have ua24 := cellB (E5.out).a 24
  have ua25 := cellB (E5.out).a 25
  have ua26 := cellB (E5.out).a 26
  have ua27 := cellB (E5.out).a 27
  have ua28 := cellB (E5.out).a 28
  have ua29 := cellB (E5.out).a 29
  have ua30 := cellB (E5.out).a 30
  have ua31 := cellB (E5.out).a 31
  have ua32 := cellB (E5.out).a 32
  have ua33 := cellB (E5.out).a 33
  go_upto_region 8 with fail
  have Sset28 : Hid _ := (E5.out).set 28 (.slice (some ⟨g28, 0, none⟩) L28.length L28.length)
  have F5 : Hid (Cp w (w5.setCell ⟨w.heap.size + 1 + 1, 28, none⟩ (.slice (some ⟨g28, 0, none⟩) L28.length L28.length)) #[.int .i64 x0, .int .i64 x1, .int .i64 x2, .int .i64 x3, .int .i64 x4, .int .i64 x5, .int .i64 x6, .int .i64 x7, .int .i64 x8, .int .i64 x9, .int .i64 x10, .int .i64 x11, .int .i64 x12, .int .i64 x13, .int .i64 x14, .int .i64 x15, .int .i64 x16, .int .i64 x17, .int .i64 x18, .int .i64 x19, .int .i64 x20, .int .i64 x21, .int .i64 x22, .int .i64 x23, .slice a24 L24.length c24, .slice a25 L25.length c25, .int .i64 x26, .slice a27 L27.length c27, .slice a28 L28.length c28, .int .i64 x29, .int .i64 x30, .int .i64 x31, .int .i64 x32, .slice a33 L33.length c33] 75 #[.int .i64 0, .int .i64 0, .int .i64 0, .int .i64 0, .int .i64 0, .int .i64 0, .int .i64 0, .int .i64 0, .int .i64 0, .int .i64 0, .int .i64 0, .int .i64 0, .int .i64 0, .int .i64 0, .int .i64 0, .int .i64 0, .int .i64 0, .int .i64 0, .int .i64 0, .int .i64 0, .int .i64 0, .int .i64 0, .int .i64 0, .int .i64 0, .slice none 0 0, .slice none 0 0, .int .i64 0, .slice none 0 0, .slice none 0 0, .int .i64 0, .int .i64 0, .int .i64 0, .int .i64 0, .slice none 0 0] #[.int .i64 x0, .int .i64 x1, .int .i64 x2, .int .i64 x3, .int .i64 x4, .int .i64 x5, .int .i64 x6, .int .i64 x7, .int .i64 x8, .int .i64 x9, .int .i64 x10, .int .i64 x11, .int .i64 x12, .int .i64 x13, .int .i64 x14, .int .i64 x15, .int .i64 x16, .int .i64 x17, .int .i64 x18, .int .i64 x19, .int .i64 x20, .int .i64 x21, .int .i64 x22, .int .i64 x23, .slice (some ⟨g24, 0, none⟩) L24.length L24.length, .slice (some ⟨g25, 0, none⟩) L25.length L25.length, .int .i64 x26, .slice (some ⟨g27, 0, none⟩) L27.length L27.length, .slice (some ⟨g28, 0, none⟩) L28.length L28.length, .int .i64 0, .int .i64 0, .int .i64 0, .int .i64 0, .slice none 0 0] 48 [⟨some ⟨g24, 0, none⟩, 170, 2, (L24).map SampleKit.cells⟩, ⟨some ⟨g25, 0, none⟩, 105, 5, (L25).map SlotKit.cells⟩, ⟨some ⟨g27, 0, none⟩, 161, 6, (L27).map ReqKit.cells⟩, ⟨some ⟨g28, 0, none⟩, 87, 6, (L28).map CodelKit.cells⟩]) := Sset28.out
  generalize (w5.setCell ⟨w.heap.size + 1 + 1, 28, none⟩ (.slice (some ⟨g28, 0, none⟩) L28.length L28.length)) = v5 at *
  clear E5 uc0 uf0 ua0 uc1 uf1 ua1 uc2 uf2 ua2 uc3 uf3 ua3 uc4 uf4 ua4 uc5 uf5 ua5 uc6 uf6 ua6 uc7 uf7 ua7 uc8 uf8 ua8 uc9 uf9 ua9 uc10 uf10 ua10 uc11 uf11 ua11 uc12 uf12 ua12 uc13 uf13 ua13 uc14 uf14 ua14 uc15 uf15 ua15 uc16 uf16 ua16 uc17 uf17 ua17 uc18 uf18 ua18 uc19 uf19 ua19 uc20 uf20 ua20 uc21 uf21 ua21 uc22 uf22 ua22 uc23 uf23 ua23 uc24 uf24 ua24 uc25 uf25 ua25 uc26 uf26 ua26 uc27 uf27 ua27 uc28 uf28 ua28 uc29 uf29 ua29 uc30 uf30 ua30 uc31 uf31 ua31 uc32 uf32 ua32 uc33 uf33 ua33 Sset28
  have uc0 := cellB (F5.out).c 0
  have uf0 := fzB (F5.out).c 0
  have uc1 := cellB (F5.out).c 1
  have uf1 := fzB (F5.out).c 1
  have uc2 := cellB (F5.out).c 2
  have uf2 := fzB (F5.out).c 2
  have uc3 := cellB (F5.out).c 3
  have uf3 := fzB (F5.out).c 3
  have uc4 := cellB (F5.out).c 4
  have uf4 := fzB (F5.out).c 4
  have uc5 := cellB (F5.out).c 5
  have uf5 := fzB (F5.out).c 5
  have uc6 := cellB (F5.out).c 6
  have uf6 := fzB (F5.out).c 6
  have uc7 := cellB (F5.out).c 7
  have uf7 := fzB (F5.out).c 7
  have uc8 := cellB (F5.out).c 8
  have uf8 := fzB (F5.out).c 8
  have uc9 := cellB (F5.out).c 9
  have uf9 := fzB (F5.out).c 9
  have uc10 := cellB (F5.out).c 10
  have uf10 := fzB (F5.out).c 10
  have uc11 := cellB (F5.out).c 11
  have uf11 := fzB (F5.out).c 11
  have uc12 := cellB (F5.out).c 12
  have uf12 := fzB (F5.out).c 12
  have uc13 := cellB (F5.out).c 13
  have uf13 := fzB (F5.out).c 13
  have uc14 := cellB (F5.out).c 14
  have uf14 := fzB (F5.out).c 14
  have uc15 := cellB (F5.out).c 15
  have uf15 := fzB (F5.out).c 15
  have uc16 := cellB (F5.out).c 16
  have uf16 := fzB (F5.out).c 16
  have uc17 := cellB (F5.out).c 17
  have uf17 := fzB (F5.out).c 17
  have uc18 := cellB (F5.out).c 18
  have uf18 := fzB (F5.out).c 18
  have uc19 := cellB (F5.out).c 19
  have uf19 := fzB (F5.out).c 19
  have uc20 := cellB (F5.out).c 20
  have uf20 := fzB (F5.out).c 20
  have uc21 := cellB (F5.out).c 21
  have uf21 := fzB (F5.out).c 21
  have uc22 := cellB (F5.out).c 22
  have uf22 := fzB (F5.out).c 22
  have uc23 := cellB (F5.out).c 23
  have uf23 := fzB (F5.out).c 23
  have uc24 := cellB (F5.out).c 24
  have uf24 := fzB (F5.out).c 24
  have uc25 := cellB (F5.out).c 25
  have uf25 := fzB (F5.out).c 25
  have uc26 := cellB (F5.out).c 26
  have uf26 := fzB (F5.out).c 26
  have uc27 := cellB (F5.out).c 27
  have uf27 := fzB (F5.out).c 27
  have uc28 := cellB (F5.out).c 28
  have uf28 := fzB (F5.out).c 28
  have uc29 := cellB (F5.out).c 29
  have uf29 := fzB (F5.out).c 29
  have uc30 := cellB (F5.out).c 30
  have uf30 := fzB (F5.out).c 30
  have uc31 := cellB (F5.out).c 31
  have uf31 := fzB (F5.out).c 31
  have uc32 := cellB (F5.out).c 32
  have uf32 := fzB (F5.out).c 32
  have uc33 := cellB (F5.out).c 33
  have uf33 := fzB (F5.out).c 33
  have ua0 := cellB (F5.out).a 0
  have ua1 := cellB (F5.out).a 1
  have ua2 := cellB (F5.out).a 2
  have ua3 := cellB (F5.out).a 3
  have ua4 := cellB (F5.out).a 4
  have ua5 := cellB (F5.out).a 5
  have ua6 := cellB (F5.out).a 6
  have ua7 := cellB (F5.out).a 7
  have ua8 := cellB (F5.out).a 8
  have ua9 := cellB (F5.out).a 9
  have ua10 := cellB (F5.out).a 10
  have ua11 := cellB (F5.out).a 11
  have ua12 := cellB (F5.out).a 12
  have ua13 := cellB (F5.out).a 13
  have ua14 := cellB (F5.out).a 14
  have ua15 := cellB (F5.out).a 15
  have ua16 := cellB (F5.out).a 16
  have ua17 := cellB (F5.out).a 17
  have ua18 := cellB (F5.out).a 18
  have ua19 := cellB (F5.out).a 19
  have ua20 := cellB (F5.out).a 20
  have ua21 := cellB (F5.out).a 21
  have ua22 := cellB (F5.out).a 22
  have ua23 := cellB (F5.out).a 23
  have ua24 := cellB (F5.out).a 24
  have ua25 := cellB (F5.out).a 25
  have ua26 := cellB (F5.out).a 26
  have ua27 := cellB (F5.out).a 27
  have ua28 := cellB (F5.out).a 28
  have ua29 := cellB (F5.out).a 29
  have ua30 := cellB (F5.out).a 30
  have ua31 := cellB (F5.out).a 31
  have ua32 := cellB (F5.out).a 32
  have ua33 := cellB (F5.out).a 33
  go_wp2_with fail
  refine (FlatBucket.to_one x29 x30 x31 x32 _).mono ?_
  rintro e w6 ⟨rfl, hb6⟩
  have E6 : Hid (Cp w w6 #[.int .i64 x0, .int .i64 x1, .int .i64 x2, .int .i64 x3, .int .i64 x4, .int .i64 x5, .int .i64 x6, .int .i64 x7, .int .i64 x8, .int .i64 x9, .int .i64 x10, .int .i64 x11, .int .i64 x12, .int .i64 x13, .int .i64 x14, .int .i64 x15, .int .i64 x16, .int .i64 x17, .int .i64 x18, .int .i64 x19, .int .i64 x20, .int .i64 x21, .int .i64 x22, .int .i64 x23, .slice a24 L24.length c24, .slice a25 L25.length c25, .int .i64 x26, .slice a27 L27.length c27, .slice a28 L28.length c28, .int .i64 x29, .int .i64 x30, .int .i64 x31, .int .i64 x32, .slice a33 L33.length c33] 75 #[.int .i64 0, .int .i64 0, .int .i64 0, .int .i64 0, .int .i64 0, .int .i64 0, .int .i64 0, .int .i64 0, .int .i64 0, .int .i64 0, .int .i64 0, .int .i64 0, .int .i64 0, .int .i64 0, .int .i64 0, .int .i64 0, .int .i64 0, .int .i64 0, .int .i64 0, .int .i64 0, .int .i64 0, .int .i64 0, .int .i64 0, .int .i64 0, .slice none 0 0, .slice none 0 0, .int .i64 0, .slice none 0 0, .slice none 0 0, .int .i64 0, .int .i64 0, .int .i64 0, .int .i64 0, .slice none 0 0] #[.int .i64 x0, .int .i64 x1, .int .i64 x2, .int .i64 x3, .int .i64 x4, .int .i64 x5, .int .i64 x6, .int .i64 x7, .int .i64 x8, .int .i64 x9, .int .i64 x10, .int .i64 x11, .int .i64 x12, .int .i64 x13, .int .i64 x14, .int .i64 x15, .int .i64 x16, .int .i64 x17, .int .i64 x18, .int .i64 x19, .int .i64 x20, .int .i64 x21, .int .i64 x22, .int .i64 x23, .slice (some ⟨g24, 0, none⟩) L24.length L24.length, .slice (some ⟨g25, 0, none⟩) L25.length L25.length, .int .i64 x26, .slice (some ⟨g27, 0, none⟩) L27.length L27.length, .slice (some ⟨g28, 0, none⟩) L28.length L28.length, .int .i64 0, .int .i64 0, .int .i64 0, .int .i64 0, .slice none 0 0] 48 [⟨some ⟨g24, 0, none⟩, 170, 2, (L24).map SampleKit.cells⟩, ⟨some ⟨g25, 0, none⟩, 105, 5, (L25).map SlotKit.cells⟩, ⟨some ⟨g27, 0, none⟩, 161, 6, (L27).map ReqKit.cells⟩, ⟨some ⟨g28, 0, none⟩, 87, 6, (L28).map CodelKit.cells⟩]) := (F5.out).keep hb6
  clear hb6 F5 uc0 uf0 ua0 uc1 uf1 ua1 uc2 uf2 ua2 uc3 uf3 ua3 uc4 uf4 ua4 uc5 uf5 ua5 uc6 uf6 ua6 uc7 uf7 ua7 uc8 uf8 ua8 uc9 uf9 ua9 uc10 uf10 ua10 uc11 uf11 ua11 uc12 uf12 ua12 uc13 uf13 ua13 uc14 uf14 ua14 uc15 uf15 ua15 uc16 uf16 ua16 uc17 uf17 ua17 uc18 uf18 ua18 uc19 uf19 ua19 uc20 uf20 ua20 uc21 uf21 ua21 uc22 uf22 ua22 uc23 uf23 ua23 uc24 uf24 ua24 uc25 uf25 ua25 uc26 uf26 ua26 uc27 uf27 ua27 uc28 uf28 ua28 uc29 uf29 ua29 uc30 uf30 ua30 uc31 uf31 ua31 uc32 uf32 ua32 uc33 uf33 ua33
  have uc0 := cellB (E6.out).c 0
  have uf0 := fzB (E6.out).c 0
  have uc1 := cellB (E6.out).c 1
  have uf1 := fzB (E6.out).c 1
  have uc2 := cellB (E6.out).c 2
  have uf2 := fzB (E6.out).c 2
  have uc3 := cellB (E6.out).c 3
  have uf3 := fzB (E6.out).c 3
  have uc4 := cellB (E6.out).c 4
  have uf4 := fzB (E6.out).c 4
  have uc5 := cellB (E6.out).c 5
  have uf5 := fzB (E6.out).c 5
  have uc6 := cellB (E6.out).c 6
  have uf6 := fzB (E6.out).c 6
  have uc7 := cellB (E6.out).c 7
  have uf7 := fzB (E6.out).c 7
  have uc8 := cellB (E6.out).c 8
  have uf8 := fzB (E6.out).c 8
  have uc9 := cellB (E6.out).c 9
  have uf9 := fzB (E6.out).c 9
  have uc10 := cellB (E6.out).c 10
  have uf10 := fzB (E6.out).c 10
  have uc11 := cellB (E6.out).c 11
  have uf11 := fzB (E6.out).c 11
  have uc12 := cellB (E6.out).c 12
  have uf12 := fzB (E6.out).c 12
  have uc13 := cellB (E6.out).c 13
  have uf13 := fzB (E6.out).c 13
  have uc14 := cellB (E6.out).c 14
  have uf14 := fzB (E6.out).c 14
  have uc15 := cellB (E6.out).c 15
  have uf15 := fzB (E6.out).c 15
  have uc16 := cellB (E6.out).c 16
  have uf16 := fzB (E6.out).c 16
  have uc17 := cellB (E6.out).c 17
  have uf17 := fzB (E6.out).c 17
  have uc18 := cellB (E6.out).c 18
  have uf18 := fzB (E6.out).c 18
  have uc19 := cellB (E6.out).c 19
  have uf19 := fzB (E6.out).c 19
  have uc20 := cellB (E6.out).c 20
  have uf20 := fzB (E6.out).c 20
  have uc21 := cellB (E6.out).c 21
  have uf21 := fzB (E6.out).c 21
  have uc22 := cellB (E6.out).c 22
  have uf22 := fzB (E6.out).c 22
  have uc23 := cellB (E6.out).c 23
  have uf23 := fzB (E6.out).c 23
  have uc24 := cellB (E6.out).c 24
  have uf24 := fzB (E6.out).c 24
  have uc25 := cellB (E6.out).c 25
  have uf25 := fzB (E6.out).c 25
  have uc26 := cellB (E6.out).c 26
  have uf26 := fzB (E6.out).c 26
  have uc27 := cellB (E6.out).c 27
  have uf27 := fzB (E6.out).c 27
  have uc28 := cellB (E6.out).c 28
  have uf28 := fzB (E6.out).c 28
  have uc29 := cellB (E6.out).c 29
  have uf29 := fzB (E6.out).c 29
  have uc30 := cellB (E6.out).c 30
  have uf30 := fzB (E6.out).c 30
  have uc31 := cellB (E6.out).c 31
  have uf31 := fzB (E6.out).c 31
  have uc32 := cellB (E6.out).c 32
  have uf32 := fzB (E6.out).c 32
  have uc33 := cellB (E6.out).c 33
  have uf33 := fzB (E6.out).c 33
  have ua0 := cellB (E6.out).a 0
  have ua1 := cellB (E6.out).a 1
  have ua2 := cellB (E6.out).a 2
  have ua3 := cellB (E6.out).a 3
  have ua4 := cellB (E6.out).a 4
  have ua5 := cellB (E6.out).a 5
  have ua6 := cellB (E6.out).a 6
  have ua7 := cellB (E6.out).a 7
  have ua8 := cellB (E6.out).a 8
  have ua9 := cellB (E6.out).a 9
  have ua10 := cellB (E6.out).a 10
  have ua11 := cellB (E6.out).a 11
  have ua12 := cellB (E6.out).a 12
  have ua13 := cellB (E6.out).a 13
  have ua14 := cellB (E6.out).a 14
  have ua15 := cellB (E6.out).a 15
  have ua16 := cellB (E6.out).a 16
  have ua17 := cellB (E6.out).a 17
  have ua18 := cellB (E6.out).a 18
  have ua19 := cellB (E6.out).a 19
  have ua20 := cellB (E6.out).a 20
  have ua21 := cellB (E6.out).a 21
  have ua22 := cellB (E6.out).a 22
  have ua23 := cellB (E6.out).a 23
  have ua24 := cellB (E6.out).a 24
  have ua25 := cellB (E6.out).a 25
  have ua26 := cellB (E6.out).a 26
  have ua27 := cellB (E6.out).a 27
  have ua28 := cellB (E6.out).a 28
  have ua29 := cellB (E6.out).a 29
  have ua30 := cellB (E6.out).a 30
  have ua31 := cellB (E6.out).a 31
  have ua32 := cellB (E6.out).a 32
  have ua33 := cellB (E6.out).a 33
  go_upto_region 9 with fail
  have Sset29 : Hid _ := (E6.out).set 29 (.int .i64 x29)
  have Sset30 : Hid _ := (Sset29.out).set 30 (.int .i64 x30)
  have Sset31 : Hid _ := (Sset30.out).set 31 (.int .i64 x31)
  have Sset32 : Hid _ := (Sset31.out).set 32 (.int .i64 x32)
  have F6 : Hid (Cp w ((((w6.setCell ⟨w.heap.size + 1 + 1, 29, none⟩ (.int .i64 x29)).setCell ⟨w.heap.size + 1 + 1, 30, none⟩ (.int .i64 x30)).setCell ⟨w.heap.size + 1 + 1, 31, none⟩ (.int .i64 x31)).setCell ⟨w.heap.size + 1 + 1, 32, none⟩ (.int .i64 x32)) #[.int .i64 x0, .int .i64 x1, .int .i64 x2, .int .i64 x3, .int .i64 x4, .int .i64 x5, .int .i64 x6, .int .i64 x7, .int .i64 x8, .int .i64 x9, .int .i64 x10, .int .i64 x11, .int .i64 x12, .int .i64 x13, .int .i64 x14, .int .i64 x15, .int .i64 x16, .int .i64 x17, .int .i64 x18, .int .i64 x19, .int .i64 x20, .int .i64 x21, .int .i64 x22, .int .i64 x23, .slice a24 L24.length c24, .slice a25 L25.length c25, .int .i64 x26, .slice a27 L27.length c27, .slice a28 L28.length c28, .int .i64 x29, .int .i64 x30, .int .i64 x31, .int .i64 x32, .slice a33 L33.length c33] 75 #[.int .i64 0, .int .i64 0, .int .i64 0, .int .i64 0, .int .i64 0, .int .i64 0, .int .i64 0, .int .i64 0, .int .i64 0, .int .i64 0, .int .i64 0, .int .i64 0, .int .i64 0, .int .i64 0, .int .i64 0, .int .i64 0, .int .i64 0, .int .i64 0, .int .i64 0, .int .i64 0, .int .i64 0, .int .i64 0, .int .i64 0, .int .i64 0, .slice none 0 0, .slice none 0 0, .int .i64 0, .slice none 0 0, .slice none 0 0, .int .i64 0, .int .i64 0, .int .i64 0, .int .i64 0, .slice none 0 0] #[.int .i64 x0, .int .i64 x1, .int .i64 x2, .int .i64 x3, .int .i64 x4, .int .i64 x5, .int .i64 x6, .int .i64 x7, .int .i64 x8, .int .i64 x9, .int .i64 x10, .int .i64 x11, .int .i64 x12, .int .i64 x13, .int .i64 x14, .int .i64 x15, .int .i64 x16, .int .i64 x17, .int .i64 x18, .int .i64 x19, .int .i64 x20, .int .i64 x21, .int .i64 x22, .int .i64 x23, .slice (some ⟨g24, 0, none⟩) L24.length L24.length, .slice (some ⟨g25, 0, none⟩) L25.length L25.length, .int .i64 x26, .slice (some ⟨g27, 0, none⟩) L27.length L27.length, .slice (some ⟨g28, 0, none⟩) L28.length L28.length, .int .i64 x29, .int .i64 x30, .int .i64 x31, .int .i64 x32, .slice none 0 0] 48 [⟨some ⟨g24, 0, none⟩, 170, 2, (L24).map SampleKit.cells⟩, ⟨some ⟨g25, 0, none⟩, 105, 5, (L25).map SlotKit.cells⟩, ⟨some ⟨g27, 0, none⟩, 161, 6, (L27).map ReqKit.cells⟩, ⟨some ⟨g28, 0, none⟩, 87, 6, (L28).map CodelKit.cells⟩]) := by have h9 := Sset32.out; simp only [List.setIfInBounds_toArray, List.set_cons_zero, List.set_cons_succ] at h9; exact h9
  generalize ((((w6.setCell ⟨w.heap.size + 1 + 1, 29, none⟩ (.int .i64 x29)).setCell ⟨w.heap.size + 1 + 1, 30, none⟩ (.int .i64 x30)).setCell ⟨w.heap.size + 1 + 1, 31, none⟩ (.int .i64 x31)).setCell ⟨w.heap.size + 1 + 1, 32, none⟩ (.int .i64 x32)) = v6 at *
  clear E6 uc0 uf0 ua0 uc1 uf1 ua1 uc2 uf2 ua2 uc3 uf3 ua3 uc4 uf4 ua4 uc5 uf5 ua5 uc6 uf6 ua6 uc7 uf7 ua7 uc8 uf8 ua8 uc9 uf9 ua9 uc10 uf10 ua10 uc11 uf11 ua11 uc12 uf12 ua12 uc13 uf13 ua13 uc14 uf14 ua14 uc15 uf15 ua15 uc16 uf16 ua16 uc17 uf17 ua17 uc18 uf18 ua18 uc19 uf19 ua19 uc20 uf20 ua20 uc21 uf21 ua21 uc22 uf22 ua22 uc23 uf23 ua23 uc24 uf24 ua24 uc25 uf25 ua25 uc26 uf26 ua26 uc27 uf27 ua27 uc28 uf28 ua28 uc29 uf29 ua29 uc30 uf30 ua30 uc31 uf31 ua31 uc32 uf32 ua32 uc33 uf33 ua33 Sset29 Sset30 Sset31 Sset32
  have uc0 := cellB (F6.out).c 0
  have uf0 := fzB (F6.out).c 0
  have uc1 := cellB (F6.out).c 1
  have uf1 := fzB (F6.out).c 1
  have uc2 := cellB (F6.out).c 2
  have uf2 := fzB (F6.out).c 2
  have uc3 := cellB (F6.out).c 3
  have uf3 := fzB (F6.out).c 3
  have uc4 := cellB (F6.out).c 4
  have uf4 := fzB (F6.out).c 4
  have uc5 := cellB (F6.out).c 5
  have uf5 := fzB (F6.out).c 5
  have uc6 := cellB (F6.out).c 6
  have uf6 := fzB (F6.out).c 6
  have uc7 := cellB (F6.out).c 7
  have uf7 := fzB (F6.out).c 7
  have uc8 := cellB (F6.out).c 8
  have uf8 := fzB (F6.out).c 8
  have uc9 := cellB (F6.out).c 9
  have uf9 := fzB (F6.out).c 9
  have uc10 := cellB (F6.out).c 10
  have uf10 := fzB (F6.out).c 10
  have uc11 := cellB (F6.out).c 11
  have uf11 := fzB (F6.out).c 11
  have uc12 := cellB (F6.out).c 12
  have uf12 := fzB (F6.out).c 12
  have uc13 := cellB (F6.out).c 13
  have uf13 := fzB (F6.out).c 13
  have uc14 := cellB (F6.out).c 14
  have uf14 := fzB (F6.out).c 14
  have uc15 := cellB (F6.out).c 15
  have uf15 := fzB (F6.out).c 15
  have uc16 := cellB (F6.out).c 16
  have uf16 := fzB (F6.out).c 16
  have uc17 := cellB (F6.out).c 17
  have uf17 := fzB (F6.out).c 17
  have uc18 := cellB (F6.out).c 18
  have uf18 := fzB (F6.out).c 18
  have uc19 := cellB (F6.out).c 19
  have uf19 := fzB (F6.out).c 19
  have uc20 := cellB (F6.out).c 20
  have uf20 := fzB (F6.out).c 20
  have uc21 := cellB (F6.out).c 21
  have uf21 := fzB (F6.out).c 21
  have uc22 := cellB (F6.out).c 22
  have uf22 := fzB (F6.out).c 22
  have uc23 := cellB (F6.out).c 23
  have uf23 := fzB (F6.out).c 23
  have uc24 := cellB (F6.out).c 24
  have uf24 := fzB (F6.out).c 24
  have uc25 := cellB (F6.out).c 25
  have uf25 := fzB (F6.out).c 25
  have uc26 := cellB (F6.out).c 26
  have uf26 := fzB (F6.out).c 26
  have uc27 := cellB (F6.out).c 27
  have uf27 := fzB (F6.out).c 27
  have uc28 := cellB (F6.out).c 28
  have uf28 := fzB (F6.out).c 28
  have uc29 := cellB (F6.out).c 29
  have uf29 := fzB (F6.out).c 29
  have uc30 := cellB (F6.out).c 30
  have uf30 := fzB (F6.out).c 30
  have uc31 := cellB (F6.out).c 31
  have uf31 := fzB (F6.out).c 31
  have uc32 := cellB (F6.out).c 32
  have uf32 := fzB (F6.out).c 32
  have uc33 := cellB (F6.out).c 33
  have uf33 := fzB (F6.out).c 33
  have ua0 := cellB (F6.out).a 0
  have ua1 := cellB (F6.out).a 1
  have ua2 := cellB (F6.out).a 2
  have ua3 := cellB (F6.out).a 3
  have ua4 := cellB (F6.out).a 4
  have ua5 := cellB (F6.out).a 5
  have ua6 := cellB (F6.out).a 6
  have ua7 := cellB (F6.out).a 7
  have ua8 := cellB (F6.out).a 8
  have ua9 := cellB (F6.out).a 9
  have ua10 := cellB (F6.out).a 10
  have ua11 := cellB (F6.out).a 11
  have ua12 := cellB (F6.out).a 12
  have ua13 := cellB (F6.out).a 13
  have ua14 := cellB (F6.out).a 14
  have ua15 := cellB (F6.out).a 15
  have ua16 := cellB (F6.out).a 16
  have ua17 := cellB (F6.out).a 17
  have ua18 := cellB (F6.out).a 18
  have ua19 := cellB (F6.out).a 19
  have ua20 := cellB (F6.out).a 20
  have ua21 := cellB (F6.out).a 21
  have ua22 := cellB (F6.out).a 22
  have ua23 := cellB (F6.out).a 23
  have ua24 := cellB (F6.out).a 24
  have ua25 := cellB (F6.out).a 25
  have ua26 := cellB (F6.out).a 26
  have ua27 := cellB (F6.out).a 27
  have ua28 := cellB (F6.out).a 28
  have ua29 := cellB (F6.out).a 29
  have ua30 := cellB (F6.out).a 30
  have ua31 := cellB (F6.out).a 31
  have ua32 := cellB (F6.out).a 32
  have ua33 := cellB (F6.out).a 33
  go_wp2_with fail
  have Z1 := (F6.out).bel
  have Z2 := H33.out.below Z1
  have Z3 := IntRows.to_rows a33 c33 L33 _ Z2 l33
  refine Z3.mono ?_
  clear Z1 Z2 Z3
  rintro e w7 ⟨g33, rfl, hg7, hr7, hb7⟩
  have E7 : Hid (Cp w w7 #[.int .i64 x0, .int .i64 x1, .int .i64 x2, .int .i64 x3, .int .i64 x4, .int .i64 x5, .int .i64 x6, .int .i64 x7, .int .i64 x8, .int .i64 x9, .int .i64 x10, .int .i64 x11, .int .i64 x12, .int .i64 x13, .int .i64 x14, .int .i64 x15, .int .i64 x16, .int .i64 x17, .int .i64 x18, .int .i64 x19, .int .i64 x20, .int .i64 x21, .int .i64 x22, .int .i64 x23, .slice a24 L24.length c24, .slice a25 L25.length c25, .int .i64 x26, .slice a27 L27.length c27, .slice a28 L28.length c28, .int .i64 x29, .int .i64 x30, .int .i64 x31, .int .i64 x32, .slice a33 L33.length c33] 75 #[.int .i64 0, .int .i64 0, .int .i64 0, .int .i64 0, .int .i64 0, .int .i64 0, .int .i64 0, .int .i64 0, .int .i64 0, .int .i64 0, .int .i64 0, .int .i64 0, .int .i64 0, .int .i64 0, .int .i64 0, .int .i64 0, .int .i64 0, .int .i64 0, .int .i64 0, .int .i64 0, .int .i64 0, .int .i64 0, .int .i64 0, .int .i64 0, .slice none 0 0, .slice none 0 0, .int .i64 0, .slice none 0 0, .slice none 0 0, .int .i64 0, .int .i64 0, .int .i64 0, .int .i64 0, .slice none 0 0] #[.int .i64 x0, .int .i64 x1, .int .i64 x2, .int .i64 x3, .int .i64 x4, .int .i64 x5, .int .i64 x6, .int .i64 x7, .int .i64 x8, .int .i64 x9, .int .i64 x10, .int .i64 x11, .int .i64 x12, .int .i64 x13, .int .i64 x14, .int .i64 x15, .int .i64 x16, .int .i64 x17, .int .i64 x18, .int .i64 x19, .int .i64 x20, .int .i64 x21, .int .i64 x22, .int .i64 x23, .slice (some ⟨g24, 0, none⟩) L24.length L24.length, .slice (some ⟨g25, 0, none⟩) L25.length L25.length, .int .i64 x26, .slice (some ⟨g27, 0, none⟩) L27.length L27.length, .slice (some ⟨g28, 0, none⟩) L28.length L28.length, .int .i64 x29, .int .i64 x30, .int .i64 x31, .int .i64 x32, .slice none 0 0] 48 [⟨some ⟨g24, 0, none⟩, 170, 2, (L24).map SampleKit.cells⟩, ⟨some ⟨g25, 0, none⟩, 105, 5, (L25).map SlotKit.cells⟩, ⟨some ⟨g27, 0, none⟩, 161, 6, (L27).map ReqKit.cells⟩, ⟨some ⟨g28, 0, none⟩, 87, 6, (L28).map CodelKit.cells⟩, ⟨some ⟨g33, 0, none⟩, 3, 1, (L33).map IntKit.cells⟩]) := (F6.out).next hb7 (Holds.row hr7 hg7)
  clear hb7 hg7 hr7 F6 uc0 uf0 ua0 uc1 uf1 ua1 uc2 uf2 ua2 uc3 uf3 ua3 uc4 uf4 ua4 uc5 uf5 ua5 uc6 uf6 ua6 uc7 uf7 ua7 uc8 uf8 ua8 uc9 uf9 ua9 uc10 uf10 ua10 uc11 uf11 ua11 uc12 uf12 ua12 uc13 uf13 ua13 uc14 uf14 ua14 uc15 uf15 ua15 uc16 uf16 ua16 uc17 uf17 ua17 uc18 uf18 ua18 uc19 uf19 ua19 uc20 uf20 ua20 uc21 uf21 ua21 uc22 uf22 ua22 uc23 uf23 ua23 uc24 uf24 ua24 uc25 uf25 ua25 uc26 uf26 ua26 uc27 uf27 ua27 uc28 uf28 ua28 uc29 uf29 ua29 uc30 uf30 ua30 uc31 uf31 ua31 uc32 uf32 ua32 uc33 uf33 ua33
  have uc0 := cellB (E7.out).c 0
  have uf0 := fzB (E7.out).c 0
  have uc1 := cellB (E7.out).c 1
  have uf1 := fzB (E7.out).c 1
  have uc2 := cellB (E7.out).c 2
  have uf2 := fzB (E7.out).c 2
  have uc3 := cellB (E7.out).c 3
  have uf3 := fzB (E7.out).c 3
  have uc4 := cellB (E7.out).c 4
  have uf4 := fzB (E7.out).c 4
  have uc5 := cellB (E7.out).c 5
  have uf5 := fzB (E7.out).c 5
  have uc6 := cellB (E7.out).c 6
  have uf6 := fzB (E7.out).c 6
  have uc7 := cellB (E7.out).c 7
  have uf7 := fzB (E7.out).c 7
  have uc8 := cellB (E7.out).c 8
  have uf8 := fzB (E7.out).c 8
  have uc9 := cellB (E7.out).c 9
  have uf9 := fzB (E7.out).c 9
  have uc10 := cellB (E7.out).c 10
  have uf10 := fzB (E7.out).c 10
  have uc11 := cellB (E7.out).c 11
  have uf11 := fzB (E7.out).c 11
  have uc12 := cellB (E7.out).c 12
  have uf12 := fzB (E7.out).c 12
  have uc13 := cellB (E7.out).c 13
  have uf13 := fzB (E7.out).c 13
  have uc14 := cellB (E7.out).c 14
  have uf14 := fzB (E7.out).c 14
  have uc15 := cellB (E7.out).c 15
  have uf15 := fzB (E7.out).c 15
  have uc16 := cellB (E7.out).c 16
  have uf16 := fzB (E7.out).c 16
  have uc17 := cellB (E7.out).c 17
  have uf17 := fzB (E7.out).c 17
  have uc18 := cellB (E7.out).c 18
  have uf18 := fzB (E7.out).c 18
  have uc19 := cellB (E7.out).c 19
  have uf19 := fzB (E7.out).c 19
  have uc20 := cellB (E7.out).c 20
  have uf20 := fzB (E7.out).c 20
  have uc21 := cellB (E7.out).c 21
  have uf21 := fzB (E7.out).c 21
  have uc22 := cellB (E7.out).c 22
  have uf22 := fzB (E7.out).c 22
  have uc23 := cellB (E7.out).c 23
  have uf23 := fzB (E7.out).c 23
  have uc24 := cellB (E7.out).c 24
  have uf24 := fzB (E7.out).c 24
  have uc25 := cellB (E7.out).c 25
  have uf25 := fzB (E7.out).c 25
  have uc26 := cellB (E7.out).c 26
  have uf26 := fzB (E7.out).c 26
  have uc27 := cellB (E7.out).c 27
  have uf27 := fzB (E7.out).c 27
  have uc28 := cellB (E7.out).c 28
  have uf28 := fzB (E7.out).c 28
  have uc29 := cellB (E7.out).c 29
  have uf29 := fzB (E7.out).c 29
  have uc30 := cellB (E7.out).c 30
  have uf30 := fzB (E7.out).c 30
  have uc31 := cellB (E7.out).c 31
  have uf31 := fzB (E7.out).c 31
  have uc32 := cellB (E7.out).c 32
  have uf32 := fzB (E7.out).c 32
  have uc33 := cellB (E7.out).c 33
  have uf33 := fzB (E7.out).c 33
  have ua0 := cellB (E7.out).a 0
  have ua1 := cellB (E7.out).a 1
  have ua2 := cellB (E7.out).a 2
  have ua3 := cellB (E7.out).a 3
  have ua4 := cellB (E7.out).a 4
  have ua5 := cellB (E7.out).a 5
  have ua6 := cellB (E7.out).a 6
  have ua7 := cellB (E7.out).a 7
  have ua8 := cellB (E7.out).a 8
  have ua9 := cellB (E7.out).a 9
  have ua10 := cellB (E7.out).a 10
  have ua11 := cellB (E7.out).a 11
  have ua12 := cellB (E7.out).a 12
  have ua13 := cellB (E7.out).a 13
  have ua14 := cellB (E7.out).a 14
  have ua15 := cellB (E7.out).a 15
  have ua16 := cellB (E7.out).a 16
  have ua17 := cellB (E7.out).a 17
  have ua18 := cellB (E7.out).a 18
  have ua19 := cellB (E7.out).a 19
  have ua20 := cellB (E7.out).a 20
  have ua21 := cellB (E7.out).a 21
  have ua22 := cellB (E7.out).a 22
  have ua23 := cellB (E7.out).a 23
  have ua24 := cellB (E7.out).a 24
  have ua25 := cellB (E7.out).a 25
  have ua26 := cellB (E7.out).a 26
  have ua27 := cellB (E7.out).a 27
  have ua28 := cellB (E7.out).a 28
  have ua29 := cellB (E7.out).a 29
  have ua30 := cellB (E7.out).a 30
  have ua31 := cellB (E7.out).a 31
  have ua32 := cellB (E7.out).a 32
  have ua33 := cellB (E7.out).a 33
  go_upto_region 10 with fail
  have Sset33 : Hid _ := (E7.out).set 33 (.slice (some ⟨g33, 0, none⟩) L33.length L33.length)
  have F7 : Hid (Cp w (w7.setCell ⟨w.heap.size + 1 + 1, 33, none⟩ (.slice (some ⟨g33, 0, none⟩) L33.length L33.length)) #[.int .i64 x0, .int .i64 x1, .int .i64 x2, .int .i64 x3, .int .i64 x4, .int .i64 x5, .int .i64 x6, .int .i64 x7, .int .i64 x8, .int .i64 x9, .int .i64 x10, .int .i64 x11, .int .i64 x12, .int .i64 x13, .int .i64 x14, .int .i64 x15, .int .i64 x16, .int .i64 x17, .int .i64 x18, .int .i64 x19, .int .i64 x20, .int .i64 x21, .int .i64 x22, .int .i64 x23, .slice a24 L24.length c24, .slice a25 L25.length c25, .int .i64 x26, .slice a27 L27.length c27, .slice a28 L28.length c28, .int .i64 x29, .int .i64 x30, .int .i64 x31, .int .i64 x32, .slice a33 L33.length c33] 75 #[.int .i64 0, .int .i64 0, .int .i64 0, .int .i64 0, .int .i64 0, .int .i64 0, .int .i64 0, .int .i64 0, .int .i64 0, .int .i64 0, .int .i64 0, .int .i64 0, .int .i64 0, .int .i64 0, .int .i64 0, .int .i64 0, .int .i64 0, .int .i64 0, .int .i64 0, .int .i64 0, .int .i64 0, .int .i64 0, .int .i64 0, .int .i64 0, .slice none 0 0, .slice none 0 0, .int .i64 0, .slice none 0 0, .slice none 0 0, .int .i64 0, .int .i64 0, .int .i64 0, .int .i64 0, .slice none 0 0] #[.int .i64 x0, .int .i64 x1, .int .i64 x2, .int .i64 x3, .int .i64 x4, .int .i64 x5, .int .i64 x6, .int .i64 x7, .int .i64 x8, .int .i64 x9, .int .i64 x10, .int .i64 x11, .int .i64 x12, .int .i64 x13, .int .i64 x14, .int .i64 x15, .int .i64 x16, .int .i64 x17, .int .i64 x18, .int .i64 x19, .int .i64 x20, .int .i64 x21, .int .i64 x22, .int .i64 x23, .slice (some ⟨g24, 0, none⟩) L24.length L24.length, .slice (some ⟨g25, 0, none⟩) L25.length L25.length, .int .i64 x26, .slice (some ⟨g27, 0, none⟩) L27.length L27.length, .slice (some ⟨g28, 0, none⟩) L28.length L28.length, .int .i64 x29, .int .i64 x30, .int .i64 x31, .int .i64 x32, .slice (some ⟨g33, 0, none⟩) L33.length L33.length] 48 [⟨some ⟨g24, 0, none⟩, 170, 2, (L24).map SampleKit.cells⟩, ⟨some ⟨g25, 0, none⟩, 105, 5, (L25).map SlotKit.cells⟩, ⟨some ⟨g27, 0, none⟩, 161, 6, (L27).map ReqKit.cells⟩, ⟨some ⟨g28, 0, none⟩, 87, 6, (L28).map CodelKit.cells⟩, ⟨some ⟨g33, 0, none⟩, 3, 1, (L33).map IntKit.cells⟩]) := Sset33.out
  generalize (w7.setCell ⟨w.heap.size + 1 + 1, 33, none⟩ (.slice (some ⟨g33, 0, none⟩) L33.length L33.length)) = v7 at *
  clear E7 uc0 uf0 ua0 uc1 uf1 ua1 uc2 uf2 ua2 uc3 uf3 ua3 uc4 uf4 ua4 uc5 uf5 ua5 uc6 uf6 ua6 uc7 uf7 ua7 uc8 uf8 ua8 uc9 uf9 ua9 uc10 uf10 ua10 uc11 uf11 ua11 uc12 uf12 ua12 uc13 uf13 ua13 uc14 uf14 ua14 uc15 uf15 ua15 uc16 uf16 ua16 uc17 uf17 ua17 uc18 uf18 ua18 uc19 uf19 ua19 uc20 uf20 ua20 uc21 uf21 ua21 uc22 uf22 ua22 uc23 uf23 ua23 uc24 uf24 ua24 uc25 uf25 ua25 uc26 uf26 ua26 uc27 uf27 ua27 uc28 uf28 ua28 uc29 uf29 ua29 uc30 uf30 ua30 uc31 uf31 ua31 uc32 uf32 ua32 uc33 uf33 ua33 Sset33
  have uc0 := cellB (F7.out).c 0
  have uf0 := fzB (F7.out).c 0
  have uc1 := cellB (F7.out).c 1
  have uf1 := fzB (F7.out).c 1
  have uc2 := cellB (F7.out).c 2
  have uf2 := fzB (F7.out).c 2
  have uc3 := cellB (F7.out).c 3
  have uf3 := fzB (F7.out).c 3
  have uc4 := cellB (F7.out).c 4
  have uf4 := fzB (F7.out).c 4
  have uc5 := cellB (F7.out).c 5
  have uf5 := fzB (F7.out).c 5
  have uc6 := cellB (F7.out).c 6
  have uf6 := fzB (F7.out).c 6
  have uc7 := cellB (F7.out).c 7
  have uf7 := fzB (F7.out).c 7
  have uc8 := cellB (F7.out).c 8
  have uf8 := fzB (F7.out).c 8
  have uc9 := cellB (F7.out).c 9
  have uf9 := fzB (F7.out).c 9
  have uc10 := cellB (F7.out).c 10
  have uf10 := fzB (F7.out).c 10
  have uc11 := cellB (F7.out).c 11
  have uf11 := fzB (F7.out).c 11
  have uc12 := cellB (F7.out).c 12
  have uf12 := fzB (F7.out).c 12
  have uc13 := cellB (F7.out).c 13
  have uf13 := fzB (F7.out).c 13
  have uc14 := cellB (F7.out).c 14
  have uf14 := fzB (F7.out).c 14
  have uc15 := cellB (F7.out).c 15
  have uf15 := fzB (F7.out).c 15
  have uc16 := cellB (F7.out).c 16
  have uf16 := fzB (F7.out).c 16
  have uc17 := cellB (F7.out).c 17
  have uf17 := fzB (F7.out).c 17
  have uc18 := cellB (F7.out).c 18
  have uf18 := fzB (F7.out).c 18
  have uc19 := cellB (F7.out).c 19
  have uf19 := fzB (F7.out).c 19
  have uc20 := cellB (F7.out).c 20
  have uf20 := fzB (F7.out).c 20
  have uc21 := cellB (F7.out).c 21
  have uf21 := fzB (F7.out).c 21
  have uc22 := cellB (F7.out).c 22
  have uf22 := fzB (F7.out).c 22
  have uc23 := cellB (F7.out).c 23
  have uf23 := fzB (F7.out).c 23
  have uc24 := cellB (F7.out).c 24
  have uf24 := fzB (F7.out).c 24
  have uc25 := cellB (F7.out).c 25
  have uf25 := fzB (F7.out).c 25
  have uc26 := cellB (F7.out).c 26
  have uf26 := fzB (F7.out).c 26
  have uc27 := cellB (F7.out).c 27
  have uf27 := fzB (F7.out).c 27
  have uc28 := cellB (F7.out).c 28
  have uf28 := fzB (F7.out).c 28
  have uc29 := cellB (F7.out).c 29
  have uf29 := fzB (F7.out).c 29
  have uc30 := cellB (F7.out).c 30
  have uf30 := fzB (F7.out).c 30
  have uc31 := cellB (F7.out).c 31
  have uf31 := fzB (F7.out).c 31
  have uc32 := cellB (F7.out).c 32
  have uf32 := fzB (F7.out).c 32
  have uc33 := cellB (F7.out).c 33
  have uf33 := fzB (F7.out).c 33
  have ua0 := cellB (F7.out).a 0
  have ua1 := cellB (F7.out).a 1
  have ua2 := cellB (F7.out).a 2
  have ua3 := cellB (F7.out).a 3
  have ua4 := cellB (F7.out).a 4
  have ua5 := cellB (F7.out).a 5
  have ua6 := cellB (F7.out).a 6
  have ua7 := cellB (F7.out).a 7
  have ua8 := cellB (F7.out).a 8
  have ua9 := cellB (F7.out).a 9
  have ua10 := cellB (F7.out).a 10
  have ua11 := cellB (F7.out).a 11
  have ua12 := cellB (F7.out).a 12
  have ua13 := cellB (F7.out).a 13
  have ua14 := cellB (F7.out).a 14
  have ua15 := cellB (F7.out).a 15
  have ua16 := cellB (F7.out).a 16
  have ua17 := cellB (F7.out).a 17
  have ua18 := cellB (F7.out).a 18
  have ua19 := cellB (F7.out).a 19
  have ua20 := cellB (F7.out).a 20
  have ua21 := cellB (F7.out).a 21
  have ua22 := cellB (F7.out).a 22
  have ua23 := cellB (F7.out).a 23
  have ua24 := cellB (F7.out).a 24
  have ua25 := cellB (F7.out).a 25
  have ua26 := cellB (F7.out).a 26
  have ua27 := cellB (F7.out).a 27
  have ua28 := cellB (F7.out).a 28
  have ua29 := cellB (F7.out).a 29
  have ua30 := cellB (F7.out).a 30
  have ua31 := cellB (F7.out).a 31
  have ua32 := cellB (F7.out).a 32
  have ua33 := cellB (F7.out).a 33
  clear uc0 uf0 ua0 uc1 uf1 ua1 uc2 uf2 ua2 uc3 uf3 ua3 uc4 uf4 ua4 uc5 uf5 ua5 uc6 uf6 ua6 uc7 uf7 ua7 uc8 uf8 ua8 uc9 uf9 ua9 uc10 uf10 ua10 uc11 uf11 ua11 uc12 uf12 ua12 uc13 uf13 ua13 uc14 uf14 ua14 uc15 uf15 ua15 uc16 uf16 ua16 uc17 uf17 ua17 uc18 uf18 ua18 uc19 uf19 ua19 uc20 uf20 ua20 uc21 uf21 ua21 uc22 uf22 ua22 uc23 uf23 ua23 uc24 uf24 ua24 uc25 uf25 ua25 uc26 uf26 ua26 uc27 uf27 ua27 uc28 uf28 ua28 uc29 uf29 ua29 uc30 uf30 ua30 uc31 uf31 ua31 uc32 uf32 ua32 uc33 uf33 ua33
  go_upto_region 10 with fail
  refine wp_region_lit ?_
  obtain ⟨fl, hfl⟩ : ∃ fl : List Value, fl = [.int .i64 x0, .int .i64 x1, .int .i64 x2, .int .i64 x3, .int .i64 x4, .int .i64 x5, .int .i64 x6, .int .i64 x7, .int .i64 x8, .int .i64 x9, .int .i64 x10, .int .i64 x11, .int .i64 x12, .int .i64 x13, .int .i64 x14, .int .i64 x15, .int .i64 x16, .int .i64 x17, .int .i64 x18, .int .i64 x19, .int .i64 x20, .int .i64 x21, .int .i64 x22, .int .i64 x23, .slice (some ⟨g24, 0, none⟩) L24.length L24.length, .slice (some ⟨g25, 0, none⟩) L25.length L25.length, .int .i64 x26, .slice (some ⟨g27, 0, none⟩) L27.length L27.length, .slice (some ⟨g28, 0, none⟩) L28.length L28.length, .int .i64 x29, .int .i64 x30, .int .i64 x31, .int .i64 x32, .slice (some ⟨g33, 0, none⟩) L33.length L33.length] := ⟨_, rfl⟩
  have hr : v7.rangeAt (w.heap.size + 1 + 1) 0 fl := by rw [hfl]; exact range_of_box F7.out.c 0 _ rfl
  have hn : fl.length = 34 := by rw [hfl]; rfl
  have ho : ∀ v ∈ fl, v.oneCell' = true := by rw [hfl]; simp [Value.oneCell']
  have hi : (Try.prog.info? 48).map (·.size) = some fl.length := by rw [hn]; kernel_rfl
  refine wpList_load_mid rfl 48 _ rfl (w.heap.size + 1 + 1) 0 rfl fl _ hr Try.underlying48 rfl hi ?_
  refine wpList_store_list rfl 48 _ _ rfl (w.heap.size + 1) 0 fl rfl rfl (there_of_box F7.out.z 0 fl.length (by rw [hn]; exact Nat.le_refl _)) hi ho ?_
  have G0 := Cp.ansAll F7.out fl (hn.trans rfl)
  have G : Hid _ := G0
  generalize v7.setCells (w.heap.size + 1) 0 fl = vz at *
  clear F7 hr G0 ho
  go_wp2
  have hz : (Try.prog.info? 48).map (·.size) = some fl.toArray.size := by rw [List.size_toArray]; exact hi
  clear hi hn
  exact bodyPost_ret (v := .agg fl.toArray) (results_cell_row Try.results27 _ _ (w.heap.size + 1) _ fl.toArray _ _ rfl G.out.z Try.underlying48 rfl hz) rfl ⟨g24, g25, g27, g28, g33, by rw [hfl], G.out.holds.low (Nat.le_add_right _ 3), G.out.bel⟩
set_option maxHeartbeats 4000000 in
theorem eq_adm (x0 : Int) (x1 : Int) (x2 : Int) (x3 : Int) (x4 : Int) (x5 : Int) (x6 : Int) (x7 : Int) (x8 : Int) (x9 : Int) (x10 : Int) (x11 : Int) (x12 : Int) (x13 : Int) (x14 : Int) (x15 : Int) (x16 : Int) (x17 : Int) (x18 : Int) (x19 : Int) (x20 : Int) (x21 : Int) (x22 : Int) (x23 : Int) (x26 : Int) (x29 : Int) (x30 : Int) (x31 : Int) (x32 : Int) (a24 : Option Addr) (c24 : Nat) (L24 : List SampleKit.Sample) (a25 : Option Addr) (c25 : Nat) (L25 : List SlotKit.Slot) (a27 : Option Addr) (c27 : Nat) (L27 : List ReqKit.Req) (a28 : Option Addr) (c28 : Nat) (L28 : List CodelKit.Codel) (a33 : Option Addr) (c33 : Nat) (L33 : List Int) (b24 : Option Addr) (d24 : Nat) (b25 : Option Addr) (d25 : Nat) (b27 : Option Addr) (d27 : Nat) (b28 : Option Addr) (d28 : Nat) (b33 : Option Addr) (d33 : Nat) (w : World) (h24 : Own 170 2 SampleKit.cells w a24 L24) (k24 : Own 170 2 SampleKit.cells w b24 L24) (l24 : L24.length ≤ 1048577) (h25 : Own 105 5 SlotKit.cells w a25 L25) (k25 : Own 105 5 SlotKit.cells w b25 L25) (l25 : L25.length ≤ 1048577) (h27 : Own 161 6 ReqKit.cells w a27 L27) (k27 : Own 161 6 ReqKit.cells w b27 L27) (l27 : L27.length ≤ 1048577) (h28 : Own 87 6 CodelKit.cells w a28 L28) (k28 : Own 87 6 CodelKit.cells w b28 L28) (l28 : L28.length ≤ 1048577) (h33 : Own 3 1 IntKit.cells w a33 L33) (k33 : Own 3 1 IntKit.cells w b33 L33) (l33 : L33.length ≤ 1048577) :
    Calls Try.prog 13 #[.agg #[.int .i64 x0, .int .i64 x1, .int .i64 x2, .int .i64 x3, .int .i64 x4, .int .i64 x5, .int .i64 x6, .int .i64 x7, .int .i64 x8, .int .i64 x9, .int .i64 x10, .int .i64 x11, .int .i64 x12, .int .i64 x13, .int .i64 x14, .int .i64 x15, .int .i64 x16, .int .i64 x17, .int .i64 x18, .int .i64 x19, .int .i64 x20, .int .i64 x21, .int .i64 x22, .int .i64 x23, .slice a24 L24.length c24, .slice a25 L25.length c25, .int .i64 x26, .slice a27 L27.length c27, .slice a28 L28.length c28, .int .i64 x29, .int .i64 x30, .int .i64 x31, .int .i64 x32, .slice a33 L33.length c33], .agg #[.int .i64 x0, .int .i64 x1, .int .i64 x2, .int .i64 x3, .int .i64 x4, .int .i64 x5, .int .i64 x6, .int .i64 x7, .int .i64 x8, .int .i64 x9, .int .i64 x10, .int .i64 x11, .int .i64 x12, .int .i64 x13, .int .i64 x14, .int .i64 x15, .int .i64 x16, .int .i64 x17, .int .i64 x18, .int .i64 x19, .int .i64 x20, .int .i64 x21, .int .i64 x22, .int .i64 x23, .slice b24 L24.length d24, .slice b25 L25.length d25, .int .i64 x26, .slice b27 L27.length d27, .slice b28 L28.length d28, .int .i64 x29, .int .i64 x30, .int .i64 x31, .int .i64 x32, .slice b33 L33.length d33]] w fun e w' => e = .returned (.bool true) ∧ Below w.heap.size w w' := by
  have H24 : Hid (Own 170 2 SampleKit.cells w a24 L24) := h24
  have K24 : Hid (Own 170 2 SampleKit.cells w b24 L24) := k24
  have H25 : Hid (Own 105 5 SlotKit.cells w a25 L25) := h25
  have K25 : Hid (Own 105 5 SlotKit.cells w b25 L25) := k25
  have H27 : Hid (Own 161 6 ReqKit.cells w a27 L27) := h27
  have K27 : Hid (Own 161 6 ReqKit.cells w b27 L27) := k27
  have H28 : Hid (Own 87 6 CodelKit.cells w a28 L28) := h28
  have K28 : Hid (Own 87 6 CodelKit.cells w b28 L28) := k28
  have H33 : Hid (Own 3 1 IntKit.cells w a33 L33) := h33
  have K33 : Hid (Own 3 1 IntKit.cells w b33 L33) := k33
  clear h24 k24 h25 k25 h27 k27 h28 k28 h33 k33
  have t0 : (x0 != x0) = false := by simp
  have t1 : (x1 != x1) = false := by simp
  have t2 : (x2 != x2) = false := by simp
  have t3 : (x3 != x3) = false := by simp
  have t4 : (x4 != x4) = false := by simp
  have t5 : (x5 != x5) = false := by simp
  have t6 : (x6 != x6) = false := by simp
  have t7 : (x7 != x7) = false := by simp
  have t8 : (x8 != x8) = false := by simp
  have t9 : (x9 != x9) = false := by simp
  have t10 : (x10 != x10) = false := by simp
  have t11 : (x11 != x11) = false := by simp
  have t12 : (x12 != x12) = false := by simp
  have t13 : (x13 != x13) = false := by simp
  have t14 : (x14 != x14) = false := by simp
  have t15 : (x15 != x15) = false := by simp
  have t16 : (x16 != x16) = false := by simp
  have t17 : (x17 != x17) = false := by simp
  have t18 : (x18 != x18) = false := by simp
  have t19 : (x19 != x19) = false := by simp
  have t20 : (x20 != x20) = false := by simp
  have t21 : (x21 != x21) = false := by simp
  have t22 : (x22 != x22) = false := by simp
  have t23 : (x23 != x23) = false := by simp
  have t26 : (x26 != x26) = false := by simp
  have t29 : (x29 != x29) = false := by simp
  have t30 : (x30 != x30) = false := by simp
  have t31 : (x31 != x31) = false := by simp
  have t32 : (x32 != x32) = false := by simp
  go_enter Try.func13, Try.ntmps13
  go_wp2_with fail
  refine (FlatCfg.eq_one x0 x1 x2 x3 x4 x5 x6 x7 x8 x9 x10 x11 x12 x13 _).mono ?_
  rintro e w1 ⟨rfl, hb1⟩
  have E1 : Hid (Eq2 w w1 #[.int .i64 x0, .int .i64 x1, .int .i64 x2, .int .i64 x3, .int .i64 x4, .int .i64 x5, .int .i64 x6, .int .i64 x7, .int .i64 x8, .int .i64 x9, .int .i64 x10, .int .i64 x11, .int .i64 x12, .int .i64 x13, .int .i64 x14, .int .i64 x15, .int .i64 x16, .int .i64 x17, .int .i64 x18, .int .i64 x19, .int .i64 x20, .int .i64 x21, .int .i64 x22, .int .i64 x23, .slice a24 L24.length c24, .slice a25 L25.length c25, .int .i64 x26, .slice a27 L27.length c27, .slice a28 L28.length c28, .int .i64 x29, .int .i64 x30, .int .i64 x31, .int .i64 x32, .slice a33 L33.length c33] 48 #[.int .i64 x0, .int .i64 x1, .int .i64 x2, .int .i64 x3, .int .i64 x4, .int .i64 x5, .int .i64 x6, .int .i64 x7, .int .i64 x8, .int .i64 x9, .int .i64 x10, .int .i64 x11, .int .i64 x12, .int .i64 x13, .int .i64 x14, .int .i64 x15, .int .i64 x16, .int .i64 x17, .int .i64 x18, .int .i64 x19, .int .i64 x20, .int .i64 x21, .int .i64 x22, .int .i64 x23, .slice b24 L24.length d24, .slice b25 L25.length d25, .int .i64 x26, .slice b27 L27.length d27, .slice b28 L28.length d28, .int .i64 x29, .int .i64 x30, .int .i64 x31, .int .i64 x32, .slice b33 L33.length d33] 48) := Eq2.start hb1
  clear hb1
  have p0 := cellB E1.out.a 0
  have q0 := cellB E1.out.b 0
  have p1 := cellB E1.out.a 1
  have q1 := cellB E1.out.b 1
  have p2 := cellB E1.out.a 2
  have q2 := cellB E1.out.b 2
  have p3 := cellB E1.out.a 3
  have q3 := cellB E1.out.b 3
  have p4 := cellB E1.out.a 4
  have q4 := cellB E1.out.b 4
  have p5 := cellB E1.out.a 5
  have q5 := cellB E1.out.b 5
  have p6 := cellB E1.out.a 6
  have q6 := cellB E1.out.b 6
  have p7 := cellB E1.out.a 7
  have q7 := cellB E1.out.b 7
  have p8 := cellB E1.out.a 8
  have q8 := cellB E1.out.b 8
  have p9 := cellB E1.out.a 9
  have q9 := cellB E1.out.b 9
  have p10 := cellB E1.out.a 10
  have q10 := cellB E1.out.b 10
  have p11 := cellB E1.out.a 11
  have q11 := cellB E1.out.b 11
  have p12 := cellB E1.out.a 12
  have q12 := cellB E1.out.b 12
  have p13 := cellB E1.out.a 13
  have q13 := cellB E1.out.b 13
  have p14 := cellB E1.out.a 14
  have q14 := cellB E1.out.b 14
  have p15 := cellB E1.out.a 15
  have q15 := cellB E1.out.b 15
  have p16 := cellB E1.out.a 16
  have q16 := cellB E1.out.b 16
  have p17 := cellB E1.out.a 17
  have q17 := cellB E1.out.b 17
  have p18 := cellB E1.out.a 18
  have q18 := cellB E1.out.b 18
  have p19 := cellB E1.out.a 19
  have q19 := cellB E1.out.b 19
  have p20 := cellB E1.out.a 20
  have q20 := cellB E1.out.b 20
  have p21 := cellB E1.out.a 21
  have q21 := cellB E1.out.b 21
  have p22 := cellB E1.out.a 22
  have q22 := cellB E1.out.b 22
  have p23 := cellB E1.out.a 23
  have q23 := cellB E1.out.b 23
  have p24 := cellB E1.out.a 24
  have q24 := cellB E1.out.b 24
  have p25 := cellB E1.out.a 25
  have q25 := cellB E1.out.b 25
  have p26 := cellB E1.out.a 26
  have q26 := cellB E1.out.b 26
  have p27 := cellB E1.out.a 27
  have q27 := cellB E1.out.b 27
  have p28 := cellB E1.out.a 28
  have q28 := cellB E1.out.b 28
  have p29 := cellB E1.out.a 29
  have q29 := cellB E1.out.b 29
  have p30 := cellB E1.out.a 30
  have q30 := cellB E1.out.b 30
  have p31 := cellB E1.out.a 31
  have q31 := cellB E1.out.b 31
  have p32 := cellB E1.out.a 32
  have q32 := cellB E1.out.b 32
  have p33 := cellB E1.out.a 33
  have q33 := cellB E1.out.b 33
  go_wp2_with fail
  refine (LawLim.eq_lim x15 x16 x17 x18 x19 x20 x21 x22 x23 a24 c24 L24 b24 d24 _ (H24.out.below (E1.out.bel)) (K24.out.below (E1.out.bel)) l24).mono ?_
  rintro e w2 ⟨rfl, hb2⟩
  have E2 : Hid (Eq2 w w2 #[.int .i64 x0, .int .i64 x1, .int .i64 x2, .int .i64 x3, .int .i64 x4, .int .i64 x5, .int .i64 x6, .int .i64 x7, .int .i64 x8, .int .i64 x9, .int .i64 x10, .int .i64 x11, .int .i64 x12, .int .i64 x13, .int .i64 x14, .int .i64 x15, .int .i64 x16, .int .i64 x17, .int .i64 x18, .int .i64 x19, .int .i64 x20, .int .i64 x21, .int .i64 x22, .int .i64 x23, .slice a24 L24.length c24, .slice a25 L25.length c25, .int .i64 x26, .slice a27 L27.length c27, .slice a28 L28.length c28, .int .i64 x29, .int .i64 x30, .int .i64 x31, .int .i64 x32, .slice a33 L33.length c33] 48 #[.int .i64 x0, .int .i64 x1, .int .i64 x2, .int .i64 x3, .int .i64 x4, .int .i64 x5, .int .i64 x6, .int .i64 x7, .int .i64 x8, .int .i64 x9, .int .i64 x10, .int .i64 x11, .int .i64 x12, .int .i64 x13, .int .i64 x14, .int .i64 x15, .int .i64 x16, .int .i64 x17, .int .i64 x18, .int .i64 x19, .int .i64 x20, .int .i64 x21, .int .i64 x22, .int .i64 x23, .slice b24 L24.length d24, .slice b25 L25.length d25, .int .i64 x26, .slice b27 L27.length d27, .slice b28 L28.length d28, .int .i64 x29, .int .i64 x30, .int .i64 x31, .int .i64 x32, .slice b33 L33.length d33] 48) := E1.out.next hb2
  clear hb2 E1 p0 q0 p1 q1 p2 q2 p3 q3 p4 q4 p5 q5 p6 q6 p7 q7 p8 q8 p9 q9 p10 q10 p11 q11 p12 q12 p13 q13 p14 q14 p15 q15 p16 q16 p17 q17 p18 q18 p19 q19 p20 q20 p21 q21 p22 q22 p23 q23 p24 q24 p25 q25 p26 q26 p27 q27 p28 q28 p29 q29 p30 q30 p31 q31 p32 q32 p33 q33
  have p0 := cellB E2.out.a 0
  have q0 := cellB E2.out.b 0
  have p1 := cellB E2.out.a 1
  have q1 := cellB E2.out.b 1
  have p2 := cellB E2.out.a 2
  have q2 := cellB E2.out.b 2
  have p3 := cellB E2.out.a 3
  have q3 := cellB E2.out.b 3
  have p4 := cellB E2.out.a 4
  have q4 := cellB E2.out.b 4
  have p5 := cellB E2.out.a 5
  have q5 := cellB E2.out.b 5
  have p6 := cellB E2.out.a 6
  have q6 := cellB E2.out.b 6
  have p7 := cellB E2.out.a 7
  have q7 := cellB E2.out.b 7
  have p8 := cellB E2.out.a 8
  have q8 := cellB E2.out.b 8
  have p9 := cellB E2.out.a 9
  have q9 := cellB E2.out.b 9
  have p10 := cellB E2.out.a 10
  have q10 := cellB E2.out.b 10
  have p11 := cellB E2.out.a 11
  have q11 := cellB E2.out.b 11
  have p12 := cellB E2.out.a 12
  have q12 := cellB E2.out.b 12
  have p13 := cellB E2.out.a 13
  have q13 := cellB E2.out.b 13
  have p14 := cellB E2.out.a 14
  have q14 := cellB E2.out.b 14
  have p15 := cellB E2.out.a 15
  have q15 := cellB E2.out.b 15
  have p16 := cellB E2.out.a 16
  have q16 := cellB E2.out.b 16
  have p17 := cellB E2.out.a 17
  have q17 := cellB E2.out.b 17
  have p18 := cellB E2.out.a 18
  have q18 := cellB E2.out.b 18
  have p19 := cellB E2.out.a 19
  have q19 := cellB E2.out.b 19
  have p20 := cellB E2.out.a 20
  have q20 := cellB E2.out.b 20
  have p21 := cellB E2.out.a 21
  have q21 := cellB E2.out.b 21
  have p22 := cellB E2.out.a 22
  have q22 := cellB E2.out.b 22
  have p23 := cellB E2.out.a 23
  have q23 := cellB E2.out.b 23
  have p24 := cellB E2.out.a 24
  have q24 := cellB E2.out.b 24
  have p25 := cellB E2.out.a 25
  have q25 := cellB E2.out.b 25
  have p26 := cellB E2.out.a 26
  have q26 := cellB E2.out.b 26
  have p27 := cellB E2.out.a 27
  have q27 := cellB E2.out.b 27
  have p28 := cellB E2.out.a 28
  have q28 := cellB E2.out.b 28
  have p29 := cellB E2.out.a 29
  have q29 := cellB E2.out.b 29
  have p30 := cellB E2.out.a 30
  have q30 := cellB E2.out.b 30
  have p31 := cellB E2.out.a 31
  have q31 := cellB E2.out.b 31
  have p32 := cellB E2.out.a 32
  have q32 := cellB E2.out.b 32
  have p33 := cellB E2.out.a 33
  have q33 := cellB E2.out.b 33
  go_wp2_with fail
  refine (LawLedger.eq_ledger a25 c25 L25 b25 d25 _ (H25.out.below (E2.out.bel)) (K25.out.below (E2.out.bel)) l25).mono ?_
  rintro e w3 ⟨rfl, hb3⟩
  have E3 : Hid (Eq2 w w3 #[.int .i64 x0, .int .i64 x1, .int .i64 x2, .int .i64 x3, .int .i64 x4, .int .i64 x5, .int .i64 x6, .int .i64 x7, .int .i64 x8, .int .i64 x9, .int .i64 x10, .int .i64 x11, .int .i64 x12, .int .i64 x13, .int .i64 x14, .int .i64 x15, .int .i64 x16, .int .i64 x17, .int .i64 x18, .int .i64 x19, .int .i64 x20, .int .i64 x21, .int .i64 x22, .int .i64 x23, .slice a24 L24.length c24, .slice a25 L25.length c25, .int .i64 x26, .slice a27 L27.length c27, .slice a28 L28.length c28, .int .i64 x29, .int .i64 x30, .int .i64 x31, .int .i64 x32, .slice a33 L33.length c33] 48 #[.int .i64 x0, .int .i64 x1, .int .i64 x2, .int .i64 x3, .int .i64 x4, .int .i64 x5, .int .i64 x6, .int .i64 x7, .int .i64 x8, .int .i64 x9, .int .i64 x10, .int .i64 x11, .int .i64 x12, .int .i64 x13, .int .i64 x14, .int .i64 x15, .int .i64 x16, .int .i64 x17, .int .i64 x18, .int .i64 x19, .int .i64 x20, .int .i64 x21, .int .i64 x22, .int .i64 x23, .slice b24 L24.length d24, .slice b25 L25.length d25, .int .i64 x26, .slice b27 L27.length d27, .slice b28 L28.length d28, .int .i64 x29, .int .i64 x30, .int .i64 x31, .int .i64 x32, .slice b33 L33.length d33] 48) := E2.out.next hb3
  clear hb3 E2 p0 q0 p1 q1 p2 q2 p3 q3 p4 q4 p5 q5 p6 q6 p7 q7 p8 q8 p9 q9 p10 q10 p11 q11 p12 q12 p13 q13 p14 q14 p15 q15 p16 q16 p17 q17 p18 q18 p19 q19 p20 q20 p21 q21 p22 q22 p23 q23 p24 q24 p25 q25 p26 q26 p27 q27 p28 q28 p29 q29 p30 q30 p31 q31 p32 q32 p33 q33
  have p0 := cellB E3.out.a 0
  have q0 := cellB E3.out.b 0
  have p1 := cellB E3.out.a 1
  have q1 := cellB E3.out.b 1
  have p2 := cellB E3.out.a 2
  have q2 := cellB E3.out.b 2
  have p3 := cellB E3.out.a 3
  have q3 := cellB E3.out.b 3
  have p4 := cellB E3.out.a 4
  have q4 := cellB E3.out.b 4
  have p5 := cellB E3.out.a 5
  have q5 := cellB E3.out.b 5
  have p6 := cellB E3.out.a 6
  have q6 := cellB E3.out.b 6
  have p7 := cellB E3.out.a 7
  have q7 := cellB E3.out.b 7
  have p8 := cellB E3.out.a 8
  have q8 := cellB E3.out.b 8
  have p9 := cellB E3.out.a 9
  have q9 := cellB E3.out.b 9
  have p10 := cellB E3.out.a 10
  have q10 := cellB E3.out.b 10
  have p11 := cellB E3.out.a 11
  have q11 := cellB E3.out.b 11
  have p12 := cellB E3.out.a 12
  have q12 := cellB E3.out.b 12
  have p13 := cellB E3.out.a 13
  have q13 := cellB E3.out.b 13
  have p14 := cellB E3.out.a 14
  have q14 := cellB E3.out.b 14
  have p15 := cellB E3.out.a 15
  have q15 := cellB E3.out.b 15
  have p16 := cellB E3.out.a 16
  have q16 := cellB E3.out.b 16
  have p17 := cellB E3.out.a 17
  have q17 := cellB E3.out.b 17
  have p18 := cellB E3.out.a 18
  have q18 := cellB E3.out.b 18
  have p19 := cellB E3.out.a 19
  have q19 := cellB E3.out.b 19
  have p20 := cellB E3.out.a 20
  have q20 := cellB E3.out.b 20
  have p21 := cellB E3.out.a 21
  have q21 := cellB E3.out.b 21
  have p22 := cellB E3.out.a 22
  have q22 := cellB E3.out.b 22
  have p23 := cellB E3.out.a 23
  have q23 := cellB E3.out.b 23
  have p24 := cellB E3.out.a 24
  have q24 := cellB E3.out.b 24
  have p25 := cellB E3.out.a 25
  have q25 := cellB E3.out.b 25
  have p26 := cellB E3.out.a 26
  have q26 := cellB E3.out.b 26
  have p27 := cellB E3.out.a 27
  have q27 := cellB E3.out.b 27
  have p28 := cellB E3.out.a 28
  have q28 := cellB E3.out.b 28
  have p29 := cellB E3.out.a 29
  have q29 := cellB E3.out.b 29
  have p30 := cellB E3.out.a 30
  have q30 := cellB E3.out.b 30
  have p31 := cellB E3.out.a 31
  have q31 := cellB E3.out.b 31
  have p32 := cellB E3.out.a 32
  have q32 := cellB E3.out.b 32
  have p33 := cellB E3.out.a 33
  have q33 := cellB E3.out.b 33
  go_wp2_with fail
  refine (LawQueue.eq_queue x26 a27 c27 L27 b27 d27 _ (H27.out.below (E3.out.bel)) (K27.out.below (E3.out.bel)) l27).mono ?_
  rintro e w4 ⟨rfl, hb4⟩
  have E4 : Hid (Eq2 w w4 #[.int .i64 x0, .int .i64 x1, .int .i64 x2, .int .i64 x3, .int .i64 x4, .int .i64 x5, .int .i64 x6, .int .i64 x7, .int .i64 x8, .int .i64 x9, .int .i64 x10, .int .i64 x11, .int .i64 x12, .int .i64 x13, .int .i64 x14, .int .i64 x15, .int .i64 x16, .int .i64 x17, .int .i64 x18, .int .i64 x19, .int .i64 x20, .int .i64 x21, .int .i64 x22, .int .i64 x23, .slice a24 L24.length c24, .slice a25 L25.length c25, .int .i64 x26, .slice a27 L27.length c27, .slice a28 L28.length c28, .int .i64 x29, .int .i64 x30, .int .i64 x31, .int .i64 x32, .slice a33 L33.length c33] 48 #[.int .i64 x0, .int .i64 x1, .int .i64 x2, .int .i64 x3, .int .i64 x4, .int .i64 x5, .int .i64 x6, .int .i64 x7, .int .i64 x8, .int .i64 x9, .int .i64 x10, .int .i64 x11, .int .i64 x12, .int .i64 x13, .int .i64 x14, .int .i64 x15, .int .i64 x16, .int .i64 x17, .int .i64 x18, .int .i64 x19, .int .i64 x20, .int .i64 x21, .int .i64 x22, .int .i64 x23, .slice b24 L24.length d24, .slice b25 L25.length d25, .int .i64 x26, .slice b27 L27.length d27, .slice b28 L28.length d28, .int .i64 x29, .int .i64 x30, .int .i64 x31, .int .i64 x32, .slice b33 L33.length d33] 48) := E3.out.next hb4
  clear hb4 E3 p0 q0 p1 q1 p2 q2 p3 q3 p4 q4 p5 q5 p6 q6 p7 q7 p8 q8 p9 q9 p10 q10 p11 q11 p12 q12 p13 q13 p14 q14 p15 q15 p16 q16 p17 q17 p18 q18 p19 q19 p20 q20 p21 q21 p22 q22 p23 q23 p24 q24 p25 q25 p26 q26 p27 q27 p28 q28 p29 q29 p30 q30 p31 q31 p32 q32 p33 q33
  have p0 := cellB E4.out.a 0
  have q0 := cellB E4.out.b 0
  have p1 := cellB E4.out.a 1
  have q1 := cellB E4.out.b 1
  have p2 := cellB E4.out.a 2
  have q2 := cellB E4.out.b 2
  have p3 := cellB E4.out.a 3
  have q3 := cellB E4.out.b 3
  have p4 := cellB E4.out.a 4
  have q4 := cellB E4.out.b 4
  have p5 := cellB E4.out.a 5
  have q5 := cellB E4.out.b 5
  have p6 := cellB E4.out.a 6
  have q6 := cellB E4.out.b 6
  have p7 := cellB E4.out.a 7
  have q7 := cellB E4.out.b 7
  have p8 := cellB E4.out.a 8
  have q8 := cellB E4.out.b 8
  have p9 := cellB E4.out.a 9
  have q9 := cellB E4.out.b 9
  have p10 := cellB E4.out.a 10
  have q10 := cellB E4.out.b 10
  have p11 := cellB E4.out.a 11
  have q11 := cellB E4.out.b 11
  have p12 := cellB E4.out.a 12
  have q12 := cellB E4.out.b 12
  have p13 := cellB E4.out.a 13
  have q13 := cellB E4.out.b 13
  have p14 := cellB E4.out.a 14
  have q14 := cellB E4.out.b 14
  have p15 := cellB E4.out.a 15
  have q15 := cellB E4.out.b 15
  have p16 := cellB E4.out.a 16
  have q16 := cellB E4.out.b 16
  have p17 := cellB E4.out.a 17
  have q17 := cellB E4.out.b 17
  have p18 := cellB E4.out.a 18
  have q18 := cellB E4.out.b 18
  have p19 := cellB E4.out.a 19
  have q19 := cellB E4.out.b 19
  have p20 := cellB E4.out.a 20
  have q20 := cellB E4.out.b 20
  have p21 := cellB E4.out.a 21
  have q21 := cellB E4.out.b 21
  have p22 := cellB E4.out.a 22
  have q22 := cellB E4.out.b 22
  have p23 := cellB E4.out.a 23
  have q23 := cellB E4.out.b 23
  have p24 := cellB E4.out.a 24
  have q24 := cellB E4.out.b 24
  have p25 := cellB E4.out.a 25
  have q25 := cellB E4.out.b 25
  have p26 := cellB E4.out.a 26
  have q26 := cellB E4.out.b 26
  have p27 := cellB E4.out.a 27
  have q27 := cellB E4.out.b 27
  have p28 := cellB E4.out.a 28
  have q28 := cellB E4.out.b 28
  have p29 := cellB E4.out.a 29
  have q29 := cellB E4.out.b 29
  have p30 := cellB E4.out.a 30
  have q30 := cellB E4.out.b 30
  have p31 := cellB E4.out.a 31
  have q31 := cellB E4.out.b 31
  have p32 := cellB E4.out.a 32
  have q32 := cellB E4.out.b 32
  have p33 := cellB E4.out.a 33
  have q33 := cellB E4.out.b 33
  go_wp2_with fail
  refine (CodelRows.eq_any a28 b28 c28 d28 L28 _ (H28.out.below (E4.out.bel)) (K28.out.below (E4.out.bel)) l28).mono ?_
  rintro e w5 ⟨rfl, hb5⟩
  have E5 : Hid (Eq2 w w5 #[.int .i64 x0, .int .i64 x1, .int .i64 x2, .int .i64 x3, .int .i64 x4, .int .i64 x5, .int .i64 x6, .int .i64 x7, .int .i64 x8, .int .i64 x9, .int .i64 x10, .int .i64 x11, .int .i64 x12, .int .i64 x13, .int .i64 x14, .int .i64 x15, .int .i64 x16, .int .i64 x17, .int .i64 x18, .int .i64 x19, .int .i64 x20, .int .i64 x21, .int .i64 x22, .int .i64 x23, .slice a24 L24.length c24, .slice a25 L25.length c25, .int .i64 x26, .slice a27 L27.length c27, .slice a28 L28.length c28, .int .i64 x29, .int .i64 x30, .int .i64 x31, .int .i64 x32, .slice a33 L33.length c33] 48 #[.int .i64 x0, .int .i64 x1, .int .i64 x2, .int .i64 x3, .int .i64 x4, .int .i64 x5, .int .i64 x6, .int .i64 x7, .int .i64 x8, .int .i64 x9, .int .i64 x10, .int .i64 x11, .int .i64 x12, .int .i64 x13, .int .i64 x14, .int .i64 x15, .int .i64 x16, .int .i64 x17, .int .i64 x18, .int .i64 x19, .int .i64 x20, .int .i64 x21, .int .i64 x22, .int .i64 x23, .slice b24 L24.length d24, .slice b25 L25.length d25, .int .i64 x26, .slice b27 L27.length d27, .slice b28 L28.length d28, .int .i64 x29, .int .i64 x30, .int .i64 x31, .int .i64 x32, .slice b33 L33.length d33] 48) := E4.out.next hb5
  clear hb5 E4 p0 q0 p1 q1 p2 q2 p3 q3 p4 q4 p5 q5 p6 q6 p7 q7 p8 q8 p9 q9 p10 q10 p11 q11 p12 q12 p13 q13 p14 q14 p15 q15 p16 q16 p17 q17 p18 q18 p19 q19 p20 q20 p21 q21 p22 q22 p23 q23 p24 q24 p25 q25 p26 q26 p27 q27 p28 q28 p29 q29 p30 q30 p31 q31 p32 q32 p33 q33
  have p0 := cellB E5.out.a 0
  have q0 := cellB E5.out.b 0
  have p1 := cellB E5.out.a 1
  have q1 := cellB E5.out.b 1
  have p2 := cellB E5.out.a 2
  have q2 := cellB E5.out.b 2
  have p3 := cellB E5.out.a 3
  have q3 := cellB E5.out.b 3
  have p4 := cellB E5.out.a 4
  have q4 := cellB E5.out.b 4
  have p5 := cellB E5.out.a 5
  have q5 := cellB E5.out.b 5
  have p6 := cellB E5.out.a 6
  have q6 := cellB E5.out.b 6
  have p7 := cellB E5.out.a 7
  have q7 := cellB E5.out.b 7
  have p8 := cellB E5.out.a 8
  have q8 := cellB E5.out.b 8
  have p9 := cellB E5.out.a 9
  have q9 := cellB E5.out.b 9
  have p10 := cellB E5.out.a 10
  have q10 := cellB E5.out.b 10
  have p11 := cellB E5.out.a 11
  have q11 := cellB E5.out.b 11
  have p12 := cellB E5.out.a 12
  have q12 := cellB E5.out.b 12
  have p13 := cellB E5.out.a 13
  have q13 := cellB E5.out.b 13
  have p14 := cellB E5.out.a 14
  have q14 := cellB E5.out.b 14
  have p15 := cellB E5.out.a 15
  have q15 := cellB E5.out.b 15
  have p16 := cellB E5.out.a 16
  have q16 := cellB E5.out.b 16
  have p17 := cellB E5.out.a 17
  have q17 := cellB E5.out.b 17
  have p18 := cellB E5.out.a 18
  have q18 := cellB E5.out.b 18
  have p19 := cellB E5.out.a 19
  have q19 := cellB E5.out.b 19
  have p20 := cellB E5.out.a 20
  have q20 := cellB E5.out.b 20
  have p21 := cellB E5.out.a 21
  have q21 := cellB E5.out.b 21
  have p22 := cellB E5.out.a 22
  have q22 := cellB E5.out.b 22
  have p23 := cellB E5.out.a 23
  have q23 := cellB E5.out.b 23
  have p24 := cellB E5.out.a 24
  have q24 := cellB E5.out.b 24
  have p25 := cellB E5.out.a 25
  have q25 := cellB E5.out.b 25
  have p26 := cellB E5.out.a 26
  have q26 := cellB E5.out.b 26
  have p27 := cellB E5.out.a 27
  have q27 := cellB E5.out.b 27
  have p28 := cellB E5.out.a 28
  have q28 := cellB E5.out.b 28
  have p29 := cellB E5.out.a 29
  have q29 := cellB E5.out.b 29
  have p30 := cellB E5.out.a 30
  have q30 := cellB E5.out.b 30
  have p31 := cellB E5.out.a 31
  have q31 := cellB E5.out.b 31
  have p32 := cellB E5.out.a 32
  have q32 := cellB E5.out.b 32
  have p33 := cellB E5.out.a 33
  have q33 := cellB E5.out.b 33
  go_wp2_with fail
  refine (FlatBucket.eq_one x29 x30 x31 x32 _).mono ?_
  rintro e w6 ⟨rfl, hb6⟩
  have E6 : Hid (Eq2 w w6 #[.int .i64 x0, .int .i64 x1, .int .i64 x2, .int .i64 x3, .int .i64 x4, .int .i64 x5, .int .i64 x6, .int .i64 x7, .int .i64 x8, .int .i64 x9, .int .i64 x10, .int .i64 x11, .int .i64 x12, .int .i64 x13, .int .i64 x14, .int .i64 x15, .int .i64 x16, .int .i64 x17, .int .i64 x18, .int .i64 x19, .int .i64 x20, .int .i64 x21, .int .i64 x22, .int .i64 x23, .slice a24 L24.length c24, .slice a25 L25.length c25, .int .i64 x26, .slice a27 L27.length c27, .slice a28 L28.length c28, .int .i64 x29, .int .i64 x30, .int .i64 x31, .int .i64 x32, .slice a33 L33.length c33] 48 #[.int .i64 x0, .int .i64 x1, .int .i64 x2, .int .i64 x3, .int .i64 x4, .int .i64 x5, .int .i64 x6, .int .i64 x7, .int .i64 x8, .int .i64 x9, .int .i64 x10, .int .i64 x11, .int .i64 x12, .int .i64 x13, .int .i64 x14, .int .i64 x15, .int .i64 x16, .int .i64 x17, .int .i64 x18, .int .i64 x19, .int .i64 x20, .int .i64 x21, .int .i64 x22, .int .i64 x23, .slice b24 L24.length d24, .slice b25 L25.length d25, .int .i64 x26, .slice b27 L27.length d27, .slice b28 L28.length d28, .int .i64 x29, .int .i64 x30, .int .i64 x31, .int .i64 x32, .slice b33 L33.length d33] 48) := E5.out.next hb6
  clear hb6 E5 p0 q0 p1 q1 p2 q2 p3 q3 p4 q4 p5 q5 p6 q6 p7 q7 p8 q8 p9 q9 p10 q10 p11 q11 p12 q12 p13 q13 p14 q14 p15 q15 p16 q16 p17 q17 p18 q18 p19 q19 p20 q20 p21 q21 p22 q22 p23 q23 p24 q24 p25 q25 p26 q26 p27 q27 p28 q28 p29 q29 p30 q30 p31 q31 p32 q32 p33 q33
  have p0 := cellB E6.out.a 0
  have q0 := cellB E6.out.b 0
  have p1 := cellB E6.out.a 1
  have q1 := cellB E6.out.b 1
  have p2 := cellB E6.out.a 2
  have q2 := cellB E6.out.b 2
  have p3 := cellB E6.out.a 3
  have q3 := cellB E6.out.b 3
  have p4 := cellB E6.out.a 4
  have q4 := cellB E6.out.b 4
  have p5 := cellB E6.out.a 5
  have q5 := cellB E6.out.b 5
  have p6 := cellB E6.out.a 6
  have q6 := cellB E6.out.b 6
  have p7 := cellB E6.out.a 7
  have q7 := cellB E6.out.b 7
  have p8 := cellB E6.out.a 8
  have q8 := cellB E6.out.b 8
  have p9 := cellB E6.out.a 9
  have q9 := cellB E6.out.b 9
  have p10 := cellB E6.out.a 10
  have q10 := cellB E6.out.b 10
  have p11 := cellB E6.out.a 11
  have q11 := cellB E6.out.b 11
  have p12 := cellB E6.out.a 12
  have q12 := cellB E6.out.b 12
  have p13 := cellB E6.out.a 13
  have q13 := cellB E6.out.b 13
  have p14 := cellB E6.out.a 14
  have q14 := cellB E6.out.b 14
  have p15 := cellB E6.out.a 15
  have q15 := cellB E6.out.b 15
  have p16 := cellB E6.out.a 16
  have q16 := cellB E6.out.b 16
  have p17 := cellB E6.out.a 17
  have q17 := cellB E6.out.b 17
  have p18 := cellB E6.out.a 18
  have q18 := cellB E6.out.b 18
  have p19 := cellB E6.out.a 19
  have q19 := cellB E6.out.b 19
  have p20 := cellB E6.out.a 20
  have q20 := cellB E6.out.b 20
  have p21 := cellB E6.out.a 21
  have q21 := cellB E6.out.b 21
  have p22 := cellB E6.out.a 22
  have q22 := cellB E6.out.b 22
  have p23 := cellB E6.out.a 23
  have q23 := cellB E6.out.b 23
  have p24 := cellB E6.out.a 24
  have q24 := cellB E6.out.b 24
  have p25 := cellB E6.out.a 25
  have q25 := cellB E6.out.b 25
  have p26 := cellB E6.out.a 26
  have q26 := cellB E6.out.b 26
  have p27 := cellB E6.out.a 27
  have q27 := cellB E6.out.b 27
  have p28 := cellB E6.out.a 28
  have q28 := cellB E6.out.b 28
  have p29 := cellB E6.out.a 29
  have q29 := cellB E6.out.b 29
  have p30 := cellB E6.out.a 30
  have q30 := cellB E6.out.b 30
  have p31 := cellB E6.out.a 31
  have q31 := cellB E6.out.b 31
  have p32 := cellB E6.out.a 32
  have q32 := cellB E6.out.b 32
  have p33 := cellB E6.out.a 33
  have q33 := cellB E6.out.b 33
  go_wp2_with fail
  refine (IntRows.eq_any a33 b33 c33 d33 L33 _ (H33.out.below (E6.out.bel)) (K33.out.below (E6.out.bel)) l33).mono ?_
  rintro e w7 ⟨rfl, hb7⟩
  have E7 : Hid (Eq2 w w7 #[.int .i64 x0, .int .i64 x1, .int .i64 x2, .int .i64 x3, .int .i64 x4, .int .i64 x5, .int .i64 x6, .int .i64 x7, .int .i64 x8, .int .i64 x9, .int .i64 x10, .int .i64 x11, .int .i64 x12, .int .i64 x13, .int .i64 x14, .int .i64 x15, .int .i64 x16, .int .i64 x17, .int .i64 x18, .int .i64 x19, .int .i64 x20, .int .i64 x21, .int .i64 x22, .int .i64 x23, .slice a24 L24.length c24, .slice a25 L25.length c25, .int .i64 x26, .slice a27 L27.length c27, .slice a28 L28.length c28, .int .i64 x29, .int .i64 x30, .int .i64 x31, .int .i64 x32, .slice a33 L33.length c33] 48 #[.int .i64 x0, .int .i64 x1, .int .i64 x2, .int .i64 x3, .int .i64 x4, .int .i64 x5, .int .i64 x6, .int .i64 x7, .int .i64 x8, .int .i64 x9, .int .i64 x10, .int .i64 x11, .int .i64 x12, .int .i64 x13, .int .i64 x14, .int .i64 x15, .int .i64 x16, .int .i64 x17, .int .i64 x18, .int .i64 x19, .int .i64 x20, .int .i64 x21, .int .i64 x22, .int .i64 x23, .slice b24 L24.length d24, .slice b25 L25.length d25, .int .i64 x26, .slice b27 L27.length d27, .slice b28 L28.length d28, .int .i64 x29, .int .i64 x30, .int .i64 x31, .int .i64 x32, .slice b33 L33.length d33] 48) := E6.out.next hb7
  clear hb7 E6 p0 q0 p1 q1 p2 q2 p3 q3 p4 q4 p5 q5 p6 q6 p7 q7 p8 q8 p9 q9 p10 q10 p11 q11 p12 q12 p13 q13 p14 q14 p15 q15 p16 q16 p17 q17 p18 q18 p19 q19 p20 q20 p21 q21 p22 q22 p23 q23 p24 q24 p25 q25 p26 q26 p27 q27 p28 q28 p29 q29 p30 q30 p31 q31 p32 q32 p33 q33
  have p0 := cellB E7.out.a 0
  have q0 := cellB E7.out.b 0
  have p1 := cellB E7.out.a 1
  have q1 := cellB E7.out.b 1
  have p2 := cellB E7.out.a 2
  have q2 := cellB E7.out.b 2
  have p3 := cellB E7.out.a 3
  have q3 := cellB E7.out.b 3
  have p4 := cellB E7.out.a 4
  have q4 := cellB E7.out.b 4
  have p5 := cellB E7.out.a 5
  have q5 := cellB E7.out.b 5
  have p6 := cellB E7.out.a 6
  have q6 := cellB E7.out.b 6
  have p7 := cellB E7.out.a 7
  have q7 := cellB E7.out.b 7
  have p8 := cellB E7.out.a 8
  have q8 := cellB E7.out.b 8
  have p9 := cellB E7.out.a 9
  have q9 := cellB E7.out.b 9
  have p10 := cellB E7.out.a 10
  have q10 := cellB E7.out.b 10
  have p11 := cellB E7.out.a 11
  have q11 := cellB E7.out.b 11
  have p12 := cellB E7.out.a 12
  have q12 := cellB E7.out.b 12
  have p13 := cellB E7.out.a 13
  have q13 := cellB E7.out.b 13
  have p14 := cellB E7.out.a 14
  have q14 := cellB E7.out.b 14
  have p15 := cellB E7.out.a 15
  have q15 := cellB E7.out.b 15
  have p16 := cellB E7.out.a 16
  have q16 := cellB E7.out.b 16
  have p17 := cellB E7.out.a 17
  have q17 := cellB E7.out.b 17
  have p18 := cellB E7.out.a 18
  have q18 := cellB E7.out.b 18
  have p19 := cellB E7.out.a 19
  have q19 := cellB E7.out.b 19
  have p20 := cellB E7.out.a 20
  have q20 := cellB E7.out.b 20
  have p21 := cellB E7.out.a 21
  have q21 := cellB E7.out.b 21
  have p22 := cellB E7.out.a 22
  have q22 := cellB E7.out.b 22
  have p23 := cellB E7.out.a 23
  have q23 := cellB E7.out.b 23
  have p24 := cellB E7.out.a 24
  have q24 := cellB E7.out.b 24
  have p25 := cellB E7.out.a 25
  have q25 := cellB E7.out.b 25
  have p26 := cellB E7.out.a 26
  have q26 := cellB E7.out.b 26
  have p27 := cellB E7.out.a 27
  have q27 := cellB E7.out.b 27
  have p28 := cellB E7.out.a 28
  have q28 := cellB E7.out.b 28
  have p29 := cellB E7.out.a 29
  have q29 := cellB E7.out.b 29
  have p30 := cellB E7.out.a 30
  have q30 := cellB E7.out.b 30
  have p31 := cellB E7.out.a 31
  have q31 := cellB E7.out.b 31
  have p32 := cellB E7.out.a 32
  have q32 := cellB E7.out.b 32
  have p33 := cellB E7.out.a 33
  have q33 := cellB E7.out.b 33
  go_wp2
  go_ret
  exact ⟨rfl, E7.out.bel⟩
set_option maxHeartbeats 4000000 in
theorem mark_adm (x0 : Int) (x1 : Int) (x2 : Int) (x3 : Int) (x4 : Int) (x5 : Int) (x6 : Int) (x7 : Int) (x8 : Int) (x9 : Int) (x10 : Int) (x11 : Int) (x12 : Int) (x13 : Int) (x14 : Int) (x15 : Int) (x16 : Int) (x17 : Int) (x18 : Int) (x19 : Int) (x20 : Int) (x21 : Int) (x22 : Int) (x23 : Int) (x26 : Int) (x29 : Int) (x30 : Int) (x31 : Int) (x32 : Int) (a24 : Option Addr) (c24 : Nat) (L24 : List SampleKit.Sample) (a25 : Option Addr) (c25 : Nat) (L25 : List SlotKit.Slot) (a27 : Option Addr) (c27 : Nat) (L27 : List ReqKit.Req) (a28 : Option Addr) (c28 : Nat) (L28 : List CodelKit.Codel) (a33 : Option Addr) (c33 : Nat) (L33 : List Int) (k lo : Nat) (kI : Int) (w : World) (h : Holds w lo [⟨a24, 170, 2, (L24).map SampleKit.cells⟩, ⟨a25, 105, 5, (L25).map SlotKit.cells⟩, ⟨a27, 161, 6, (L27).map ReqKit.cells⟩, ⟨a28, 87, 6, (L28).map CodelKit.cells⟩, ⟨a33, 3, 1, (L33).map IntKit.cells⟩]) (l24 : L24.length ≤ 1048577) (l25 : L25.length ≤ 1048577) (l27 : L27.length ≤ 1048577) (l28 : L28.length ≤ 1048577) (l33 : L33.length ≤ 1048577) (hk : k ≤ 300000000) (hkI : kI = (k : Int)) :
    Calls Try.prog 14 #[.agg #[.int .i64 x0, .int .i64 x1, .int .i64 x2, .int .i64 x3, .int .i64 x4, .int .i64 x5, .int .i64 x6, .int .i64 x7, .int .i64 x8, .int .i64 x9, .int .i64 x10, .int .i64 x11, .int .i64 x12, .int .i64 x13, .int .i64 x14, .int .i64 x15, .int .i64 x16, .int .i64 x17, .int .i64 x18, .int .i64 x19, .int .i64 x20, .int .i64 x21, .int .i64 x22, .int .i64 x23, .slice a24 L24.length c24, .slice a25 L25.length c25, .int .i64 x26, .slice a27 L27.length c27, .slice a28 L28.length c28, .int .i64 x29, .int .i64 x30, .int .i64 x31, .int .i64 x32, .slice a33 L33.length c33], .int .i64 kI] w fun e w' => e = .returned (.int .i64 (kI + 2 * (L24.length : Int) + 5 * (L25.length : Int) + 6 * (L27.length : Int) + 6 * (L28.length : Int) + 1 * (L33.length : Int))) ∧ Holds w' lo [⟨a24, 170, 2, ((SampleRows.marks (k) L24.length)).map SampleKit.cells⟩, ⟨a25, 105, 5, ((SlotRows.marks (k + 2 * L24.length) L25.length)).map SlotKit.cells⟩, ⟨a27, 161, 6, ((ReqRows.marks (k + 2 * L24.length + 5 * L25.length) L27.length)).map ReqKit.cells⟩, ⟨a28, 87, 6, ((CodelRows.marks (k + 2 * L24.length + 5 * L25.length + 6 * L27.length) L28.length)).map CodelKit.cells⟩, ⟨a33, 3, 1, ((IntRows.marks (k + 2 * L24.length + 5 * L25.length + 6 * L27.length + 6 * L28.length) L33.length)).map IntKit.cells⟩] ∧ Turn [⟨a24, 170, 2, (L24).map SampleKit.cells⟩, ⟨a25, 105, 5, (L25).map SlotKit.cells⟩, ⟨a27, 161, 6, (L27).map ReqKit.cells⟩, ⟨a28, 87, 6, (L28).map CodelKit.cells⟩, ⟨a33, 3, 1, (L33).map IntKit.cells⟩] w w' := by
  subst hkI
  obtain ⟨n1, hn1⟩ : ∃ n : Nat, k + 2 * L24.length = n := ⟨_, rfl⟩
  obtain ⟨n2, hn2⟩ : ∃ n : Nat, n1 + 5 * L25.length = n := ⟨_, rfl⟩
  obtain ⟨n3, hn3⟩ : ∃ n : Nat, n2 + 6 * L27.length = n := ⟨_, rfl⟩
  obtain ⟨n4, hn4⟩ : ∃ n : Nat, n3 + 6 * L28.length = n := ⟨_, rfl⟩
  rw [hn1, hn2, hn3, hn4]
  have O : Hid (Off w.heap.size [⟨a24, 170, 2, (L24).map SampleKit.cells⟩, ⟨a25, 105, 5, (L25).map SlotKit.cells⟩, ⟨a27, 161, 6, (L27).map ReqKit.cells⟩, ⟨a28, 87, 6, (L28).map CodelKit.cells⟩, ⟨a33, 3, 1, (L33).map IntKit.cells⟩]) := Off.above h (Nat.le_refl _)
  have E0 : Hid (Mk w (w.alloc (.cells #[.int .i64 x0, .int .i64 x1, .int .i64 x2, .int .i64 x3, .int .i64 x4, .int .i64 x5, .int .i64 x6, .int .i64 x7, .int .i64 x8, .int .i64 x9, .int .i64 x10, .int .i64 x11, .int .i64 x12, .int .i64 x13, .int .i64 x14, .int .i64 x15, .int .i64 x16, .int .i64 x17, .int .i64 x18, .int .i64 x19, .int .i64 x20, .int .i64 x21, .int .i64 x22, .int .i64 x23, .slice a24 L24.length c24, .slice a25 L25.length c25, .int .i64 x26, .slice a27 L27.length c27, .slice a28 L28.length c28, .int .i64 x29, .int .i64 x30, .int .i64 x31, .int .i64 x32, .slice a33 L33.length c33] 48)) #[.int .i64 x0, .int .i64 x1, .int .i64 x2, .int .i64 x3, .int .i64 x4, .int .i64 x5, .int .i64 x6, .int .i64 x7, .int .i64 x8, .int .i64 x9, .int .i64 x10, .int .i64 x11, .int .i64 x12, .int .i64 x13, .int .i64 x14, .int .i64 x15, .int .i64 x16, .int .i64 x17, .int .i64 x18, .int .i64 x19, .int .i64 x20, .int .i64 x21, .int .i64 x22, .int .i64 x23, .slice a24 L24.length c24, .slice a25 L25.length c25, .int .i64 x26, .slice a27 L27.length c27, .slice a28 L28.length c28, .int .i64 x29, .int .i64 x30, .int .i64 x31, .int .i64 x32, .slice a33 L33.length c33] 48 lo [⟨a24, 170, 2, (L24).map SampleKit.cells⟩, ⟨a25, 105, 5, (L25).map SlotKit.cells⟩, ⟨a27, 161, 6, (L27).map ReqKit.cells⟩, ⟨a28, 87, 6, (L28).map CodelKit.cells⟩, ⟨a33, 3, 1, (L33).map IntKit.cells⟩] [⟨a24, 170, 2, (L24).map SampleKit.cells⟩, ⟨a25, 105, 5, (L25).map SlotKit.cells⟩, ⟨a27, 161, 6, (L27).map ReqKit.cells⟩, ⟨a28, 87, 6, (L28).map CodelKit.cells⟩, ⟨a33, 3, 1, (L33).map IntKit.cells⟩]) := Mk.start h _ _
  clear h
  go_enter Try.func14, Try.ntmps14
  go_wp2_with fail
  refine (LawLim.mark_lim x15 x16 x17 x18 x19 x20 x21 x22 x23 a24 c24 L24 k lo _ _ (Holds.mid (l1 := []) (ms := [⟨a24, 170, 2, (L24).map SampleKit.cells⟩]) (l2 := [⟨a25, 105, 5, (L25).map SlotKit.cells⟩, ⟨a27, 161, 6, (L27).map ReqKit.cells⟩, ⟨a28, 87, 6, (L28).map CodelKit.cells⟩, ⟨a33, 3, 1, (L33).map IntKit.cells⟩]) E0.out.holds) l24 (by omega) rfl).mono ?_
  rintro e w1 ⟨rfl, hh1, tt1⟩
  have E1 : Hid (Mk w w1 #[.int .i64 x0, .int .i64 x1, .int .i64 x2, .int .i64 x3, .int .i64 x4, .int .i64 x5, .int .i64 x6, .int .i64 x7, .int .i64 x8, .int .i64 x9, .int .i64 x10, .int .i64 x11, .int .i64 x12, .int .i64 x13, .int .i64 x14, .int .i64 x15, .int .i64 x16, .int .i64 x17, .int .i64 x18, .int .i64 x19, .int .i64 x20, .int .i64 x21, .int .i64 x22, .int .i64 x23, .slice a24 L24.length c24, .slice a25 L25.length c25, .int .i64 x26, .slice a27 L27.length c27, .slice a28 L28.length c28, .int .i64 x29, .int .i64 x30, .int .i64 x31, .int .i64 x32, .slice a33 L33.length c33] 48 lo [⟨a24, 170, 2, ((SampleRows.marks k L24.length)).map SampleKit.cells⟩, ⟨a25, 105, 5, (L25).map SlotKit.cells⟩, ⟨a27, 161, 6, (L27).map ReqKit.cells⟩, ⟨a28, 87, 6, (L28).map CodelKit.cells⟩, ⟨a33, 3, 1, (L33).map IntKit.cells⟩] [⟨a24, 170, 2, (L24).map SampleKit.cells⟩, ⟨a25, 105, 5, (L25).map SlotKit.cells⟩, ⟨a27, 161, 6, (L27).map ReqKit.cells⟩, ⟨a28, 87, 6, (L28).map CodelKit.cells⟩, ⟨a33, 3, 1, (L33).map IntKit.cells⟩]) := Mk.seg (l1 := []) (ms := [⟨a24, 170, 2, (L24).map SampleKit.cells⟩]) (ms' := [⟨a24, 170, 2, ((SampleRows.marks k L24.length)).map SampleKit.cells⟩]) (l2 := [⟨a25, 105, 5, (L25).map SlotKit.cells⟩, ⟨a27, 161, 6, (L27).map ReqKit.cells⟩, ⟨a28, 87, 6, (L28).map CodelKit.cells⟩, ⟨a33, 3, 1, (L33).map IntKit.cells⟩]) E0.out hh1 (segC (blk_len (by rw [List.length_map, List.length_map, SampleRows.marks_length])) rfl) tt1 (by simp) O.out
  clear hh1 tt1 E0
  rw [show (k : Int) + 2 * (L24.length : Int) = (n1 : Int) by omega]
  have p0 := cellB E1.out.a 0
  have p1 := cellB E1.out.a 1
  have p2 := cellB E1.out.a 2
  have p3 := cellB E1.out.a 3
  have p4 := cellB E1.out.a 4
  have p5 := cellB E1.out.a 5
  have p6 := cellB E1.out.a 6
  have p7 := cellB E1.out.a 7
  have p8 := cellB E1.out.a 8
  have p9 := cellB E1.out.a 9
  have p10 := cellB E1.out.a 10
  have p11 := cellB E1.out.a 11
  have p12 := cellB E1.out.a 12
  have p13 := cellB E1.out.a 13
  have p14 := cellB E1.out.a 14
  have p15 := cellB E1.out.a 15
  have p16 := cellB E1.out.a 16
  have p17 := cellB E1.out.a 17
  have p18 := cellB E1.out.a 18
  have p19 := cellB E1.out.a 19
  have p20 := cellB E1.out.a 20
  have p21 := cellB E1.out.a 21
  have p22 := cellB E1.out.a 22
  have p23 := cellB E1.out.a 23
  have p24 := cellB E1.out.a 24
  have p25 := cellB E1.out.a 25
  have p26 := cellB E1.out.a 26
  have p27 := cellB E1.out.a 27
  have p28 := cellB E1.out.a 28
  have p29 := cellB E1.out.a 29
  have p30 := cellB E1.out.a 30
  have p31 := cellB E1.out.a 31
  have p32 := cellB E1.out.a 32
  have p33 := cellB E1.out.a 33
  go_wp2_with fail
  refine (LawLedger.mark_ledger a25 c25 L25 n1 lo _ _ (Holds.mid (l1 := [⟨a24, 170, 2, ((SampleRows.marks k L24.length)).map SampleKit.cells⟩]) (ms := [⟨a25, 105, 5, (L25).map SlotKit.cells⟩]) (l2 := [⟨a27, 161, 6, (L27).map ReqKit.cells⟩, ⟨a28, 87, 6, (L28).map CodelKit.cells⟩, ⟨a33, 3, 1, (L33).map IntKit.cells⟩]) E1.out.holds) l25 (by omega) rfl).mono ?_
  rintro e w2 ⟨rfl, hh2, tt2⟩
  have E2 : Hid (Mk w w2 #[.int .i64 x0, .int .i64 x1, .int .i64 x2, .int .i64 x3, .int .i64 x4, .int .i64 x5, .int .i64 x6, .int .i64 x7, .int .i64 x8, .int .i64 x9, .int .i64 x10, .int .i64 x11, .int .i64 x12, .int .i64 x13, .int .i64 x14, .int .i64 x15, .int .i64 x16, .int .i64 x17, .int .i64 x18, .int .i64 x19, .int .i64 x20, .int .i64 x21, .int .i64 x22, .int .i64 x23, .slice a24 L24.length c24, .slice a25 L25.length c25, .int .i64 x26, .slice a27 L27.length c27, .slice a28 L28.length c28, .int .i64 x29, .int .i64 x30, .int .i64 x31, .int .i64 x32, .slice a33 L33.length c33] 48 lo [⟨a24, 170, 2, ((SampleRows.marks k L24.length)).map SampleKit.cells⟩, ⟨a25, 105, 5, ((SlotRows.marks n1 L25.length)).map SlotKit.cells⟩, ⟨a27, 161, 6, (L27).map ReqKit.cells⟩, ⟨a28, 87, 6, (L28).map CodelKit.cells⟩, ⟨a33, 3, 1, (L33).map IntKit.cells⟩] [⟨a24, 170, 2, (L24).map SampleKit.cells⟩, ⟨a25, 105, 5, (L25).map SlotKit.cells⟩, ⟨a27, 161, 6, (L27).map ReqKit.cells⟩, ⟨a28, 87, 6, (L28).map CodelKit.cells⟩, ⟨a33, 3, 1, (L33).map IntKit.cells⟩]) := Mk.seg (l1 := [⟨a24, 170, 2, ((SampleRows.marks k L24.length)).map SampleKit.cells⟩]) (ms := [⟨a25, 105, 5, (L25).map SlotKit.cells⟩]) (ms' := [⟨a25, 105, 5, ((SlotRows.marks n1 L25.length)).map SlotKit.cells⟩]) (l2 := [⟨a27, 161, 6, (L27).map ReqKit.cells⟩, ⟨a28, 87, 6, (L28).map CodelKit.cells⟩, ⟨a33, 3, 1, (L33).map IntKit.cells⟩]) E1.out hh2 (segC (blk_len (by rw [List.length_map, List.length_map, SlotRows.marks_length])) rfl) tt2 (by simp) O.out
  clear hh2 tt2 E1 p0 p1 p2 p3 p4 p5 p6 p7 p8 p9 p10 p11 p12 p13 p14 p15 p16 p17 p18 p19 p20 p21 p22 p23 p24 p25 p26 p27 p28 p29 p30 p31 p32 p33
  rw [show (n1 : Int) + 5 * (L25.length : Int) = (n2 : Int) by omega]
  have p0 := cellB E2.out.a 0
  have p1 := cellB E2.out.a 1
  have p2 := cellB E2.out.a 2
  have p3 := cellB E2.out.a 3
  have p4 := cellB E2.out.a 4
  have p5 := cellB E2.out.a 5
  have p6 := cellB E2.out.a 6
  have p7 := cellB E2.out.a 7
  have p8 := cellB E2.out.a 8
  have p9 := cellB E2.out.a 9
  have p10 := cellB E2.out.a 10
  have p11 := cellB E2.out.a 11
  have p12 := cellB E2.out.a 12
  have p13 := cellB E2.out.a 13
  have p14 := cellB E2.out.a 14
  have p15 := cellB E2.out.a 15
  have p16 := cellB E2.out.a 16
  have p17 := cellB E2.out.a 17
  have p18 := cellB E2.out.a 18
  have p19 := cellB E2.out.a 19
  have p20 := cellB E2.out.a 20
  have p21 := cellB E2.out.a 21
  have p22 := cellB E2.out.a 22
  have p23 := cellB E2.out.a 23
  have p24 := cellB E2.out.a 24
  have p25 := cellB E2.out.a 25
  have p26 := cellB E2.out.a 26
  have p27 := cellB E2.out.a 27
  have p28 := cellB E2.out.a 28
  have p29 := cellB E2.out.a 29
  have p30 := cellB E2.out.a 30
  have p31 := cellB E2.out.a 31
  have p32 := cellB E2.out.a 32
  have p33 := cellB E2.out.a 33
  go_wp2_with fail
  refine (LawQueue.mark_queue x26 a27 c27 L27 n2 lo _ _ (Holds.mid (l1 := [⟨a24, 170, 2, ((SampleRows.marks k L24.length)).map SampleKit.cells⟩, ⟨a25, 105, 5, ((SlotRows.marks n1 L25.length)).map SlotKit.cells⟩]) (ms := [⟨a27, 161, 6, (L27).map ReqKit.cells⟩]) (l2 := [⟨a28, 87, 6, (L28).map CodelKit.cells⟩, ⟨a33, 3, 1, (L33).map IntKit.cells⟩]) E2.out.holds) l27 (by omega) rfl).mono ?_
  rintro e w3 ⟨rfl, hh3, tt3⟩
  have E3 : Hid (Mk w w3 #[.int .i64 x0, .int .i64 x1, .int .i64 x2, .int .i64 x3, .int .i64 x4, .int .i64 x5, .int .i64 x6, .int .i64 x7, .int .i64 x8, .int .i64 x9, .int .i64 x10, .int .i64 x11, .int .i64 x12, .int .i64 x13, .int .i64 x14, .int .i64 x15, .int .i64 x16, .int .i64 x17, .int .i64 x18, .int .i64 x19, .int .i64 x20, .int .i64 x21, .int .i64 x22, .int .i64 x23, .slice a24 L24.length c24, .slice a25 L25.length c25, .int .i64 x26, .slice a27 L27.length c27, .slice a28 L28.length c28, .int .i64 x29, .int .i64 x30, .int .i64 x31, .int .i64 x32, .slice a33 L33.length c33] 48 lo [⟨a24, 170, 2, ((SampleRows.marks k L24.length)).map SampleKit.cells⟩, ⟨a25, 105, 5, ((SlotRows.marks n1 L25.length)).map SlotKit.cells⟩, ⟨a27, 161, 6, ((ReqRows.marks n2 L27.length)).map ReqKit.cells⟩, ⟨a28, 87, 6, (L28).map CodelKit.cells⟩, ⟨a33, 3, 1, (L33).map IntKit.cells⟩] [⟨a24, 170, 2, (L24).map SampleKit.cells⟩, ⟨a25, 105, 5, (L25).map SlotKit.cells⟩, ⟨a27, 161, 6, (L27).map ReqKit.cells⟩, ⟨a28, 87, 6, (L28).map CodelKit.cells⟩, ⟨a33, 3, 1, (L33).map IntKit.cells⟩]) := Mk.seg (l1 := [⟨a24, 170, 2, ((SampleRows.marks k L24.length)).map SampleKit.cells⟩, ⟨a25, 105, 5, ((SlotRows.marks n1 L25.length)).map SlotKit.cells⟩]) (ms := [⟨a27, 161, 6, (L27).map ReqKit.cells⟩]) (ms' := [⟨a27, 161, 6, ((ReqRows.marks n2 L27.length)).map ReqKit.cells⟩]) (l2 := [⟨a28, 87, 6, (L28).map CodelKit.cells⟩, ⟨a33, 3, 1, (L33).map IntKit.cells⟩]) E2.out hh3 (segC (blk_len (by rw [List.length_map, List.length_map, ReqRows.marks_length])) rfl) tt3 (by simp) O.out
  clear hh3 tt3 E2 p0 p1 p2 p3 p4 p5 p6 p7 p8 p9 p10 p11 p12 p13 p14 p15 p16 p17 p18 p19 p20 p21 p22 p23 p24 p25 p26 p27 p28 p29 p30 p31 p32 p33
  rw [show (n2 : Int) + 6 * (L27.length : Int) = (n3 : Int) by omega]
  have p0 := cellB E3.out.a 0
  have p1 := cellB E3.out.a 1
  have p2 := cellB E3.out.a 2
  have p3 := cellB E3.out.a 3
  have p4 := cellB E3.out.a 4
  have p5 := cellB E3.out.a 5
  have p6 := cellB E3.out.a 6
  have p7 := cellB E3.out.a 7
  have p8 := cellB E3.out.a 8
  have p9 := cellB E3.out.a 9
  have p10 := cellB E3.out.a 10
  have p11 := cellB E3.out.a 11
  have p12 := cellB E3.out.a 12
  have p13 := cellB E3.out.a 13
  have p14 := cellB E3.out.a 14
  have p15 := cellB E3.out.a 15
  have p16 := cellB E3.out.a 16
  have p17 := cellB E3.out.a 17
  have p18 := cellB E3.out.a 18
  have p19 := cellB E3.out.a 19
  have p20 := cellB E3.out.a 20
  have p21 := cellB E3.out.a 21
  have p22 := cellB E3.out.a 22
  have p23 := cellB E3.out.a 23
  have p24 := cellB E3.out.a 24
  have p25 := cellB E3.out.a 25
  have p26 := cellB E3.out.a 26
  have p27 := cellB E3.out.a 27
  have p28 := cellB E3.out.a 28
  have p29 := cellB E3.out.a 29
  have p30 := cellB E3.out.a 30
  have p31 := cellB E3.out.a 31
  have p32 := cellB E3.out.a 32
  have p33 := cellB E3.out.a 33
  go_wp2_with fail
  refine (CodelRows.mark_any a28 c28 n3 L28 _ (E3.out.holds.get (by simp)) l28 (by omega)).mono ?_
  rintro e w4 ⟨rfl, ho4, hg4⟩
  have E4 : Hid (Mk w w4 #[.int .i64 x0, .int .i64 x1, .int .i64 x2, .int .i64 x3, .int .i64 x4, .int .i64 x5, .int .i64 x6, .int .i64 x7, .int .i64 x8, .int .i64 x9, .int .i64 x10, .int .i64 x11, .int .i64 x12, .int .i64 x13, .int .i64 x14, .int .i64 x15, .int .i64 x16, .int .i64 x17, .int .i64 x18, .int .i64 x19, .int .i64 x20, .int .i64 x21, .int .i64 x22, .int .i64 x23, .slice a24 L24.length c24, .slice a25 L25.length c25, .int .i64 x26, .slice a27 L27.length c27, .slice a28 L28.length c28, .int .i64 x29, .int .i64 x30, .int .i64 x31, .int .i64 x32, .slice a33 L33.length c33] 48 lo [⟨a24, 170, 2, ((SampleRows.marks k L24.length)).map SampleKit.cells⟩, ⟨a25, 105, 5, ((SlotRows.marks n1 L25.length)).map SlotKit.cells⟩, ⟨a27, 161, 6, ((ReqRows.marks n2 L27.length)).map ReqKit.cells⟩, ⟨a28, 87, 6, ((CodelRows.marks n3 L28.length)).map CodelKit.cells⟩, ⟨a33, 3, 1, (L33).map IntKit.cells⟩] [⟨a24, 170, 2, (L24).map SampleKit.cells⟩, ⟨a25, 105, 5, (L25).map SlotKit.cells⟩, ⟨a27, 161, 6, (L27).map ReqKit.cells⟩, ⟨a28, 87, 6, (L28).map CodelKit.cells⟩, ⟨a33, 3, 1, (L33).map IntKit.cells⟩]) := Mk.next (l1 := [⟨a24, 170, 2, ((SampleRows.marks k L24.length)).map SampleKit.cells⟩, ⟨a25, 105, 5, ((SlotRows.marks n1 L25.length)).map SlotKit.cells⟩, ⟨a27, 161, 6, ((ReqRows.marks n2 L27.length)).map ReqKit.cells⟩]) (l2 := [⟨a33, 3, 1, (L33).map IntKit.cells⟩]) (i := ⟨a28, 87, 6, (L28).map CodelKit.cells⟩) (i' := ⟨a28, 87, 6, ((CodelRows.marks n3 L28.length)).map CodelKit.cells⟩) E3.out (own_cells ho4) (blk_len (by rw [List.length_map, List.length_map, CodelRows.marks_length])) (Turn.one hg4) (by simp) O.out
  clear ho4 hg4 E3 p0 p1 p2 p3 p4 p5 p6 p7 p8 p9 p10 p11 p12 p13 p14 p15 p16 p17 p18 p19 p20 p21 p22 p23 p24 p25 p26 p27 p28 p29 p30 p31 p32 p33
  rw [show (n3 : Int) + 6 * (L28.length : Int) = (n4 : Int) by omega]
  have p0 := cellB E4.out.a 0
  have p1 := cellB E4.out.a 1
  have p2 := cellB E4.out.a 2
  have p3 := cellB E4.out.a 3
  have p4 := cellB E4.out.a 4
  have p5 := cellB E4.out.a 5
  have p6 := cellB E4.out.a 6
  have p7 := cellB E4.out.a 7
  have p8 := cellB E4.out.a 8
  have p9 := cellB E4.out.a 9
  have p10 := cellB E4.out.a 10
  have p11 := cellB E4.out.a 11
  have p12 := cellB E4.out.a 12
  have p13 := cellB E4.out.a 13
  have p14 := cellB E4.out.a 14
  have p15 := cellB E4.out.a 15
  have p16 := cellB E4.out.a 16
  have p17 := cellB E4.out.a 17
  have p18 := cellB E4.out.a 18
  have p19 := cellB E4.out.a 19
  have p20 := cellB E4.out.a 20
  have p21 := cellB E4.out.a 21
  have p22 := cellB E4.out.a 22
  have p23 := cellB E4.out.a 23
  have p24 := cellB E4.out.a 24
  have p25 := cellB E4.out.a 25
  have p26 := cellB E4.out.a 26
  have p27 := cellB E4.out.a 27
  have p28 := cellB E4.out.a 28
  have p29 := cellB E4.out.a 29
  have p30 := cellB E4.out.a 30
  have p31 := cellB E4.out.a 31
  have p32 := cellB E4.out.a 32
  have p33 := cellB E4.out.a 33
  go_wp2_with fail
  refine (IntRows.mark_any a33 c33 n4 L33 _ (E4.out.holds.get (by simp)) l33 (by omega)).mono ?_
  rintro e w5 ⟨rfl, ho5, hg5⟩
  have E5 : Hid (Mk w w5 #[.int .i64 x0, .int .i64 x1, .int .i64 x2, .int .i64 x3, .int .i64 x4, .int .i64 x5, .int .i64 x6, .int .i64 x7, .int .i64 x8, .int .i64 x9, .int .i64 x10, .int .i64 x11, .int .i64 x12, .int .i64 x13, .int .i64 x14, .int .i64 x15, .int .i64 x16, .int .i64 x17, .int .i64 x18, .int .i64 x19, .int .i64 x20, .int .i64 x21, .int .i64 x22, .int .i64 x23, .slice a24 L24.length c24, .slice a25 L25.length c25, .int .i64 x26, .slice a27 L27.length c27, .slice a28 L28.length c28, .int .i64 x29, .int .i64 x30, .int .i64 x31, .int .i64 x32, .slice a33 L33.length c33] 48 lo [⟨a24, 170, 2, ((SampleRows.marks k L24.length)).map SampleKit.cells⟩, ⟨a25, 105, 5, ((SlotRows.marks n1 L25.length)).map SlotKit.cells⟩, ⟨a27, 161, 6, ((ReqRows.marks n2 L27.length)).map ReqKit.cells⟩, ⟨a28, 87, 6, ((CodelRows.marks n3 L28.length)).map CodelKit.cells⟩, ⟨a33, 3, 1, ((IntRows.marks n4 L33.length)).map IntKit.cells⟩] [⟨a24, 170, 2, (L24).map SampleKit.cells⟩, ⟨a25, 105, 5, (L25).map SlotKit.cells⟩, ⟨a27, 161, 6, (L27).map ReqKit.cells⟩, ⟨a28, 87, 6, (L28).map CodelKit.cells⟩, ⟨a33, 3, 1, (L33).map IntKit.cells⟩]) := Mk.next (l1 := [⟨a24, 170, 2, ((SampleRows.marks k L24.length)).map SampleKit.cells⟩, ⟨a25, 105, 5, ((SlotRows.marks n1 L25.length)).map SlotKit.cells⟩, ⟨a27, 161, 6, ((ReqRows.marks n2 L27.length)).map ReqKit.cells⟩, ⟨a28, 87, 6, ((CodelRows.marks n3 L28.length)).map CodelKit.cells⟩]) (l2 := []) (i := ⟨a33, 3, 1, (L33).map IntKit.cells⟩) (i' := ⟨a33, 3, 1, ((IntRows.marks n4 L33.length)).map IntKit.cells⟩) E4.out (own_cells ho5) (blk_len (by rw [List.length_map, List.length_map, IntRows.marks_length])) (Turn.one hg5) (by simp) O.out
  clear ho5 hg5 E4 p0 p1 p2 p3 p4 p5 p6 p7 p8 p9 p10 p11 p12 p13 p14 p15 p16 p17 p18 p19 p20 p21 p22 p23 p24 p25 p26 p27 p28 p29 p30 p31 p32 p33
  go_wp2
  go_ret
  exact ⟨ret_intL (by omega), E5.out.holds, E5.out.turn⟩
set_option maxHeartbeats 4000000 in
theorem held_adm (x0 : Int) (x1 : Int) (x2 : Int) (x3 : Int) (x4 : Int) (x5 : Int) (x6 : Int) (x7 : Int) (x8 : Int) (x9 : Int) (x10 : Int) (x11 : Int) (x12 : Int) (x13 : Int) (x14 : Int) (x15 : Int) (x16 : Int) (x17 : Int) (x18 : Int) (x19 : Int) (x20 : Int) (x21 : Int) (x22 : Int) (x23 : Int) (x26 : Int) (x29 : Int) (x30 : Int) (x31 : Int) (x32 : Int) (a24 : Option Addr) (c24 : Nat) (L24 : List SampleKit.Sample) (a25 : Option Addr) (c25 : Nat) (L25 : List SlotKit.Slot) (a27 : Option Addr) (c27 : Nat) (L27 : List ReqKit.Req) (a28 : Option Addr) (c28 : Nat) (L28 : List CodelKit.Codel) (a33 : Option Addr) (c33 : Nat) (L33 : List Int) (k lo : Nat) (kI : Int) (w : World) (h : Holds w lo [⟨a24, 170, 2, ((SampleRows.marks (k) L24.length)).map SampleKit.cells⟩, ⟨a25, 105, 5, ((SlotRows.marks (k + 2 * L24.length) L25.length)).map SlotKit.cells⟩, ⟨a27, 161, 6, ((ReqRows.marks (k + 2 * L24.length + 5 * L25.length) L27.length)).map ReqKit.cells⟩, ⟨a28, 87, 6, ((CodelRows.marks (k + 2 * L24.length + 5 * L25.length + 6 * L27.length) L28.length)).map CodelKit.cells⟩, ⟨a33, 3, 1, ((IntRows.marks (k + 2 * L24.length + 5 * L25.length + 6 * L27.length + 6 * L28.length) L33.length)).map IntKit.cells⟩]) (l24 : L24.length ≤ 1048577) (l25 : L25.length ≤ 1048577) (l27 : L27.length ≤ 1048577) (l28 : L28.length ≤ 1048577) (l33 : L33.length ≤ 1048577) (hk : k ≤ 300000000) (hkI : kI = (k : Int)) :
    Calls Try.prog 15 #[.agg #[.int .i64 x0, .int .i64 x1, .int .i64 x2, .int .i64 x3, .int .i64 x4, .int .i64 x5, .int .i64 x6, .int .i64 x7, .int .i64 x8, .int .i64 x9, .int .i64 x10, .int .i64 x11, .int .i64 x12, .int .i64 x13, .int .i64 x14, .int .i64 x15, .int .i64 x16, .int .i64 x17, .int .i64 x18, .int .i64 x19, .int .i64 x20, .int .i64 x21, .int .i64 x22, .int .i64 x23, .slice a24 L24.length c24, .slice a25 L25.length c25, .int .i64 x26, .slice a27 L27.length c27, .slice a28 L28.length c28, .int .i64 x29, .int .i64 x30, .int .i64 x31, .int .i64 x32, .slice a33 L33.length c33], .int .i64 kI] w fun e w' => e = .returned (.int .i64 (kI + 2 * (L24.length : Int) + 5 * (L25.length : Int) + 6 * (L27.length : Int) + 6 * (L28.length : Int) + 1 * (L33.length : Int))) ∧ Below w.heap.size w w' := by
  subst hkI
  obtain ⟨n1, hn1⟩ : ∃ n : Nat, k + 2 * L24.length = n := ⟨_, rfl⟩
  obtain ⟨n2, hn2⟩ : ∃ n : Nat, n1 + 5 * L25.length = n := ⟨_, rfl⟩
  obtain ⟨n3, hn3⟩ : ∃ n : Nat, n2 + 6 * L27.length = n := ⟨_, rfl⟩
  obtain ⟨n4, hn4⟩ : ∃ n : Nat, n3 + 6 * L28.length = n := ⟨_, rfl⟩
  rw [hn1, hn2, hn3, hn4] at h
  have E0 : Hid (Hd w (w.alloc (.cells #[.int .i64 x0, .int .i64 x1, .int .i64 x2, .int .i64 x3, .int .i64 x4, .int .i64 x5, .int .i64 x6, .int .i64 x7, .int .i64 x8, .int .i64 x9, .int .i64 x10, .int .i64 x11, .int .i64 x12, .int .i64 x13, .int .i64 x14, .int .i64 x15, .int .i64 x16, .int .i64 x17, .int .i64 x18, .int .i64 x19, .int .i64 x20, .int .i64 x21, .int .i64 x22, .int .i64 x23, .slice a24 L24.length c24, .slice a25 L25.length c25, .int .i64 x26, .slice a27 L27.length c27, .slice a28 L28.length c28, .int .i64 x29, .int .i64 x30, .int .i64 x31, .int .i64 x32, .slice a33 L33.length c33] 48)) #[.int .i64 x0, .int .i64 x1, .int .i64 x2, .int .i64 x3, .int .i64 x4, .int .i64 x5, .int .i64 x6, .int .i64 x7, .int .i64 x8, .int .i64 x9, .int .i64 x10, .int .i64 x11, .int .i64 x12, .int .i64 x13, .int .i64 x14, .int .i64 x15, .int .i64 x16, .int .i64 x17, .int .i64 x18, .int .i64 x19, .int .i64 x20, .int .i64 x21, .int .i64 x22, .int .i64 x23, .slice a24 L24.length c24, .slice a25 L25.length c25, .int .i64 x26, .slice a27 L27.length c27, .slice a28 L28.length c28, .int .i64 x29, .int .i64 x30, .int .i64 x31, .int .i64 x32, .slice a33 L33.length c33] 48 lo [⟨a24, 170, 2, ((SampleRows.marks k L24.length)).map SampleKit.cells⟩, ⟨a25, 105, 5, ((SlotRows.marks n1 L25.length)).map SlotKit.cells⟩, ⟨a27, 161, 6, ((ReqRows.marks n2 L27.length)).map ReqKit.cells⟩, ⟨a28, 87, 6, ((CodelRows.marks n3 L28.length)).map CodelKit.cells⟩, ⟨a33, 3, 1, ((IntRows.marks n4 L33.length)).map IntKit.cells⟩]) := Hd.start h _ _
  clear h
  go_enter Try.func15, Try.ntmps15
  go_wp2_with fail
  refine (LawLim.held_lim x15 x16 x17 x18 x19 x20 x21 x22 x23 a24 c24 L24 k lo _ _ (Holds.mid (l1 := []) (ms := [⟨a24, 170, 2, ((SampleRows.marks k L24.length)).map SampleKit.cells⟩]) (l2 := [⟨a25, 105, 5, ((SlotRows.marks n1 L25.length)).map SlotKit.cells⟩, ⟨a27, 161, 6, ((ReqRows.marks n2 L27.length)).map ReqKit.cells⟩, ⟨a28, 87, 6, ((CodelRows.marks n3 L28.length)).map CodelKit.cells⟩, ⟨a33, 3, 1, ((IntRows.marks n4 L33.length)).map IntKit.cells⟩]) E0.out.holds) l24 (by omega) rfl).mono ?_
  rintro e w1 ⟨rfl, hb1⟩
  have E1 : Hid (Hd w w1 #[.int .i64 x0, .int .i64 x1, .int .i64 x2, .int .i64 x3, .int .i64 x4, .int .i64 x5, .int .i64 x6, .int .i64 x7, .int .i64 x8, .int .i64 x9, .int .i64 x10, .int .i64 x11, .int .i64 x12, .int .i64 x13, .int .i64 x14, .int .i64 x15, .int .i64 x16, .int .i64 x17, .int .i64 x18, .int .i64 x19, .int .i64 x20, .int .i64 x21, .int .i64 x22, .int .i64 x23, .slice a24 L24.length c24, .slice a25 L25.length c25, .int .i64 x26, .slice a27 L27.length c27, .slice a28 L28.length c28, .int .i64 x29, .int .i64 x30, .int .i64 x31, .int .i64 x32, .slice a33 L33.length c33] 48 lo [⟨a24, 170, 2, ((SampleRows.marks k L24.length)).map SampleKit.cells⟩, ⟨a25, 105, 5, ((SlotRows.marks n1 L25.length)).map SlotKit.cells⟩, ⟨a27, 161, 6, ((ReqRows.marks n2 L27.length)).map ReqKit.cells⟩, ⟨a28, 87, 6, ((CodelRows.marks n3 L28.length)).map CodelKit.cells⟩, ⟨a33, 3, 1, ((IntRows.marks n4 L33.length)).map IntKit.cells⟩]) := E0.out.next hb1
  clear hb1 E0
  rw [show (k : Int) + 2 * (L24.length : Int) = (n1 : Int) by omega]
  have z1 : ¬ (n1 : Int) < 0 := by omega
  have p0 := cellB E1.out.a 0
  have p1 := cellB E1.out.a 1
  have p2 := cellB E1.out.a 2
  have p3 := cellB E1.out.a 3
  have p4 := cellB E1.out.a 4
  have p5 := cellB E1.out.a 5
  have p6 := cellB E1.out.a 6
  have p7 := cellB E1.out.a 7
  have p8 := cellB E1.out.a 8
  have p9 := cellB E1.out.a 9
  have p10 := cellB E1.out.a 10
  have p11 := cellB E1.out.a 11
  have p12 := cellB E1.out.a 12
  have p13 := cellB E1.out.a 13
  have p14 := cellB E1.out.a 14
  have p15 := cellB E1.out.a 15
  have p16 := cellB E1.out.a 16
  have p17 := cellB E1.out.a 17
  have p18 := cellB E1.out.a 18
  have p19 := cellB E1.out.a 19
  have p20 := cellB E1.out.a 20
  have p21 := cellB E1.out.a 21
  have p22 := cellB E1.out.a 22
  have p23 := cellB E1.out.a 23
  have p24 := cellB E1.out.a 24
  have p25 := cellB E1.out.a 25
  have p26 := cellB E1.out.a 26
  have p27 := cellB E1.out.a 27
  have p28 := cellB E1.out.a 28
  have p29 := cellB E1.out.a 29
  have p30 := cellB E1.out.a 30
  have p31 := cellB E1.out.a 31
  have p32 := cellB E1.out.a 32
  have p33 := cellB E1.out.a 33
  go_wp2_with fail
  refine (LawLedger.held_ledger a25 c25 L25 n1 lo _ _ (Holds.mid (l1 := [⟨a24, 170, 2, ((SampleRows.marks k L24.length)).map SampleKit.cells⟩]) (ms := [⟨a25, 105, 5, ((SlotRows.marks n1 L25.length)).map SlotKit.cells⟩]) (l2 := [⟨a27, 161, 6, ((ReqRows.marks n2 L27.length)).map ReqKit.cells⟩, ⟨a28, 87, 6, ((CodelRows.marks n3 L28.length)).map CodelKit.cells⟩, ⟨a33, 3, 1, ((IntRows.marks n4 L33.length)).map IntKit.cells⟩]) E1.out.holds) l25 (by omega) rfl).mono ?_
  rintro e w2 ⟨rfl, hb2⟩
  have E2 : Hid (Hd w w2 #[.int .i64 x0, .int .i64 x1, .int .i64 x2, .int .i64 x3, .int .i64 x4, .int .i64 x5, .int .i64 x6, .int .i64 x7, .int .i64 x8, .int .i64 x9, .int .i64 x10, .int .i64 x11, .int .i64 x12, .int .i64 x13, .int .i64 x14, .int .i64 x15, .int .i64 x16, .int .i64 x17, .int .i64 x18, .int .i64 x19, .int .i64 x20, .int .i64 x21, .int .i64 x22, .int .i64 x23, .slice a24 L24.length c24, .slice a25 L25.length c25, .int .i64 x26, .slice a27 L27.length c27, .slice a28 L28.length c28, .int .i64 x29, .int .i64 x30, .int .i64 x31, .int .i64 x32, .slice a33 L33.length c33] 48 lo [⟨a24, 170, 2, ((SampleRows.marks k L24.length)).map SampleKit.cells⟩, ⟨a25, 105, 5, ((SlotRows.marks n1 L25.length)).map SlotKit.cells⟩, ⟨a27, 161, 6, ((ReqRows.marks n2 L27.length)).map ReqKit.cells⟩, ⟨a28, 87, 6, ((CodelRows.marks n3 L28.length)).map CodelKit.cells⟩, ⟨a33, 3, 1, ((IntRows.marks n4 L33.length)).map IntKit.cells⟩]) := E1.out.next hb2
  clear hb2 E1 p0 p1 p2 p3 p4 p5 p6 p7 p8 p9 p10 p11 p12 p13 p14 p15 p16 p17 p18 p19 p20 p21 p22 p23 p24 p25 p26 p27 p28 p29 p30 p31 p32 p33
  rw [show (n1 : Int) + 5 * (L25.length : Int) = (n2 : Int) by omega]
  have z2 : ¬ (n2 : Int) < 0 := by omega
  have p0 := cellB E2.out.a 0
  have p1 := cellB E2.out.a 1
  have p2 := cellB E2.out.a 2
  have p3 := cellB E2.out.a 3
  have p4 := cellB E2.out.a 4
  have p5 := cellB E2.out.a 5
  have p6 := cellB E2.out.a 6
  have p7 := cellB E2.out.a 7
  have p8 := cellB E2.out.a 8
  have p9 := cellB E2.out.a 9
  have p10 := cellB E2.out.a 10
  have p11 := cellB E2.out.a 11
  have p12 := cellB E2.out.a 12
  have p13 := cellB E2.out.a 13
  have p14 := cellB E2.out.a 14
  have p15 := cellB E2.out.a 15
  have p16 := cellB E2.out.a 16
  have p17 := cellB E2.out.a 17
  have p18 := cellB E2.out.a 18
  have p19 := cellB E2.out.a 19
  have p20 := cellB E2.out.a 20
  have p21 := cellB E2.out.a 21
  have p22 := cellB E2.out.a 22
  have p23 := cellB E2.out.a 23
  have p24 := cellB E2.out.a 24
  have p25 := cellB E2.out.a 25
  have p26 := cellB E2.out.a 26
  have p27 := cellB E2.out.a 27
  have p28 := cellB E2.out.a 28
  have p29 := cellB E2.out.a 29
  have p30 := cellB E2.out.a 30
  have p31 := cellB E2.out.a 31
  have p32 := cellB E2.out.a 32
  have p33 := cellB E2.out.a 33
  go_wp2_with fail
  refine (LawQueue.held_queue x26 a27 c27 L27 n2 lo _ _ (Holds.mid (l1 := [⟨a24, 170, 2, ((SampleRows.marks k L24.length)).map SampleKit.cells⟩, ⟨a25, 105, 5, ((SlotRows.marks n1 L25.length)).map SlotKit.cells⟩]) (ms := [⟨a27, 161, 6, ((ReqRows.marks n2 L27.length)).map ReqKit.cells⟩]) (l2 := [⟨a28, 87, 6, ((CodelRows.marks n3 L28.length)).map CodelKit.cells⟩, ⟨a33, 3, 1, ((IntRows.marks n4 L33.length)).map IntKit.cells⟩]) E2.out.holds) l27 (by omega) rfl).mono ?_
  rintro e w3 ⟨rfl, hb3⟩
  have E3 : Hid (Hd w w3 #[.int .i64 x0, .int .i64 x1, .int .i64 x2, .int .i64 x3, .int .i64 x4, .int .i64 x5, .int .i64 x6, .int .i64 x7, .int .i64 x8, .int .i64 x9, .int .i64 x10, .int .i64 x11, .int .i64 x12, .int .i64 x13, .int .i64 x14, .int .i64 x15, .int .i64 x16, .int .i64 x17, .int .i64 x18, .int .i64 x19, .int .i64 x20, .int .i64 x21, .int .i64 x22, .int .i64 x23, .slice a24 L24.length c24, .slice a25 L25.length c25, .int .i64 x26, .slice a27 L27.length c27, .slice a28 L28.length c28, .int .i64 x29, .int .i64 x30, .int .i64 x31, .int .i64 x32, .slice a33 L33.length c33] 48 lo [⟨a24, 170, 2, ((SampleRows.marks k L24.length)).map SampleKit.cells⟩, ⟨a25, 105, 5, ((SlotRows.marks n1 L25.length)).map SlotKit.cells⟩, ⟨a27, 161, 6, ((ReqRows.marks n2 L27.length)).map ReqKit.cells⟩, ⟨a28, 87, 6, ((CodelRows.marks n3 L28.length)).map CodelKit.cells⟩, ⟨a33, 3, 1, ((IntRows.marks n4 L33.length)).map IntKit.cells⟩]) := E2.out.next hb3
  clear hb3 E2 p0 p1 p2 p3 p4 p5 p6 p7 p8 p9 p10 p11 p12 p13 p14 p15 p16 p17 p18 p19 p20 p21 p22 p23 p24 p25 p26 p27 p28 p29 p30 p31 p32 p33
  rw [show (n2 : Int) + 6 * (L27.length : Int) = (n3 : Int) by omega]
  have z3 : ¬ (n3 : Int) < 0 := by omega
  have p0 := cellB E3.out.a 0
  have p1 := cellB E3.out.a 1
  have p2 := cellB E3.out.a 2
  have p3 := cellB E3.out.a 3
  have p4 := cellB E3.out.a 4
  have p5 := cellB E3.out.a 5
  have p6 := cellB E3.out.a 6
  have p7 := cellB E3.out.a 7
  have p8 := cellB E3.out.a 8
  have p9 := cellB E3.out.a 9
  have p10 := cellB E3.out.a 10
  have p11 := cellB E3.out.a 11
  have p12 := cellB E3.out.a 12
  have p13 := cellB E3.out.a 13
  have p14 := cellB E3.out.a 14
  have p15 := cellB E3.out.a 15
  have p16 := cellB E3.out.a 16
  have p17 := cellB E3.out.a 17
  have p18 := cellB E3.out.a 18
  have p19 := cellB E3.out.a 19
  have p20 := cellB E3.out.a 20
  have p21 := cellB E3.out.a 21
  have p22 := cellB E3.out.a 22
  have p23 := cellB E3.out.a 23
  have p24 := cellB E3.out.a 24
  have p25 := cellB E3.out.a 25
  have p26 := cellB E3.out.a 26
  have p27 := cellB E3.out.a 27
  have p28 := cellB E3.out.a 28
  have p29 := cellB E3.out.a 29
  have p30 := cellB E3.out.a 30
  have p31 := cellB E3.out.a 31
  have p32 := cellB E3.out.a 32
  have p33 := cellB E3.out.a 33
  go_wp2_with fail
  refine (CodelRows.held_any a28 c28 n3 L28.length _ (E3.out.holds.get (by simp)) l28 (by omega)).mono ?_
  rintro e w4 ⟨rfl, hw4⟩
  have E4 : Hid (Hd w w4 #[.int .i64 x0, .int .i64 x1, .int .i64 x2, .int .i64 x3, .int .i64 x4, .int .i64 x5, .int .i64 x6, .int .i64 x7, .int .i64 x8, .int .i64 x9, .int .i64 x10, .int .i64 x11, .int .i64 x12, .int .i64 x13, .int .i64 x14, .int .i64 x15, .int .i64 x16, .int .i64 x17, .int .i64 x18, .int .i64 x19, .int .i64 x20, .int .i64 x21, .int .i64 x22, .int .i64 x23, .slice a24 L24.length c24, .slice a25 L25.length c25, .int .i64 x26, .slice a27 L27.length c27, .slice a28 L28.length c28, .int .i64 x29, .int .i64 x30, .int .i64 x31, .int .i64 x32, .slice a33 L33.length c33] 48 lo [⟨a24, 170, 2, ((SampleRows.marks k L24.length)).map SampleKit.cells⟩, ⟨a25, 105, 5, ((SlotRows.marks n1 L25.length)).map SlotKit.cells⟩, ⟨a27, 161, 6, ((ReqRows.marks n2 L27.length)).map ReqKit.cells⟩, ⟨a28, 87, 6, ((CodelRows.marks n3 L28.length)).map CodelKit.cells⟩, ⟨a33, 3, 1, ((IntRows.marks n4 L33.length)).map IntKit.cells⟩]) := by rw [hw4]; exact E3
  clear hw4 E3 p0 p1 p2 p3 p4 p5 p6 p7 p8 p9 p10 p11 p12 p13 p14 p15 p16 p17 p18 p19 p20 p21 p22 p23 p24 p25 p26 p27 p28 p29 p30 p31 p32 p33
  rw [show (n3 : Int) + 6 * (L28.length : Int) = (n4 : Int) by omega]
  have z4 : ¬ (n4 : Int) < 0 := by omega
  have p0 := cellB E4.out.a 0
  have p1 := cellB E4.out.a 1
  have p2 := cellB E4.out.a 2
  have p3 := cellB E4.out.a 3
  have p4 := cellB E4.out.a 4
  have p5 := cellB E4.out.a 5
  have p6 := cellB E4.out.a 6
  have p7 := cellB E4.out.a 7
  have p8 := cellB E4.out.a 8
  have p9 := cellB E4.out.a 9
  have p10 := cellB E4.out.a 10
  have p11 := cellB E4.out.a 11
  have p12 := cellB E4.out.a 12
  have p13 := cellB E4.out.a 13
  have p14 := cellB E4.out.a 14
  have p15 := cellB E4.out.a 15
  have p16 := cellB E4.out.a 16
  have p17 := cellB E4.out.a 17
  have p18 := cellB E4.out.a 18
  have p19 := cellB E4.out.a 19
  have p20 := cellB E4.out.a 20
  have p21 := cellB E4.out.a 21
  have p22 := cellB E4.out.a 22
  have p23 := cellB E4.out.a 23
  have p24 := cellB E4.out.a 24
  have p25 := cellB E4.out.a 25
  have p26 := cellB E4.out.a 26
  have p27 := cellB E4.out.a 27
  have p28 := cellB E4.out.a 28
  have p29 := cellB E4.out.a 29
  have p30 := cellB E4.out.a 30
  have p31 := cellB E4.out.a 31
  have p32 := cellB E4.out.a 32
  have p33 := cellB E4.out.a 33
  go_wp2_with fail
  refine (IntRows.held_any a33 c33 n4 L33.length _ (E4.out.holds.get (by simp)) l33 (by omega)).mono ?_
  rintro e w5 ⟨rfl, hw5⟩
  have E5 : Hid (Hd w w5 #[.int .i64 x0, .int .i64 x1, .int .i64 x2, .int .i64 x3, .int .i64 x4, .int .i64 x5, .int .i64 x6, .int .i64 x7, .int .i64 x8, .int .i64 x9, .int .i64 x10, .int .i64 x11, .int .i64 x12, .int .i64 x13, .int .i64 x14, .int .i64 x15, .int .i64 x16, .int .i64 x17, .int .i64 x18, .int .i64 x19, .int .i64 x20, .int .i64 x21, .int .i64 x22, .int .i64 x23, .slice a24 L24.length c24, .slice a25 L25.length c25, .int .i64 x26, .slice a27 L27.length c27, .slice a28 L28.length c28, .int .i64 x29, .int .i64 x30, .int .i64 x31, .int .i64 x32, .slice a33 L33.length c33] 48 lo [⟨a24, 170, 2, ((SampleRows.marks k L24.length)).map SampleKit.cells⟩, ⟨a25, 105, 5, ((SlotRows.marks n1 L25.length)).map SlotKit.cells⟩, ⟨a27, 161, 6, ((ReqRows.marks n2 L27.length)).map ReqKit.cells⟩, ⟨a28, 87, 6, ((CodelRows.marks n3 L28.length)).map CodelKit.cells⟩, ⟨a33, 3, 1, ((IntRows.marks n4 L33.length)).map IntKit.cells⟩]) := by rw [hw5]; exact E4
  clear hw5 E4 p0 p1 p2 p3 p4 p5 p6 p7 p8 p9 p10 p11 p12 p13 p14 p15 p16 p17 p18 p19 p20 p21 p22 p23 p24 p25 p26 p27 p28 p29 p30 p31 p32 p33
  have z5 : ¬ ((n4 : Int) + 1 * (L33.length : Int)) < 0 := by omega
  go_wp2
  go_ret
  exact ⟨ret_intL (by omega), E5.out.bel⟩
set_option maxHeartbeats 4000000 in
theorem sz_adm (x0 : Int) (x1 : Int) (x2 : Int) (x3 : Int) (x4 : Int) (x5 : Int) (x6 : Int) (x7 : Int) (x8 : Int) (x9 : Int) (x10 : Int) (x11 : Int) (x12 : Int) (x13 : Int) (x14 : Int) (x15 : Int) (x16 : Int) (x17 : Int) (x18 : Int) (x19 : Int) (x20 : Int) (x21 : Int) (x22 : Int) (x23 : Int) (x26 : Int) (x29 : Int) (x30 : Int) (x31 : Int) (x32 : Int) (a24 : Option Addr) (c24 : Nat) (a25 : Option Addr) (c25 : Nat) (a27 : Option Addr) (c27 : Nat) (a28 : Option Addr) (c28 : Nat) (a33 : Option Addr) (c33 : Nat) (len24 len25 len27 len28 len33 : Nat) (k : Int) (w : World) (hn24 : (len24 : Int) ≤ 9223372036854775807) (hn25 : (len25 : Int) ≤ 9223372036854775807) (hn27 : (len27 : Int) ≤ 9223372036854775807) (hn28 : (len28 : Int) ≤ 9223372036854775807) (hn33 : (len33 : Int) ≤ 9223372036854775807) (h0 : 0 ≤ k) (h1 : k ≤ 1048576) :
    Calls Try.prog 25 #[.agg #[.int .i64 x0, .int .i64 x1, .int .i64 x2, .int .i64 x3, .int .i64 x4, .int .i64 x5, .int .i64 x6, .int .i64 x7, .int .i64 x8, .int .i64 x9, .int .i64 x10, .int .i64 x11, .int .i64 x12, .int .i64 x13, .int .i64 x14, .int .i64 x15, .int .i64 x16, .int .i64 x17, .int .i64 x18, .int .i64 x19, .int .i64 x20, .int .i64 x21, .int .i64 x22, .int .i64 x23, .slice a24 len24 c24, .slice a25 len25 c25, .int .i64 x26, .slice a27 len27 c27, .slice a28 len28 c28, .int .i64 x29, .int .i64 x30, .int .i64 x31, .int .i64 x32, .slice a33 len33 c33], .int .i64 k] w fun e w' => e = .returned (.int .i64 (if (len24 : Int) + (len25 : Int) + (len27 : Int) + (len28 : Int) + (len33 : Int) ≤ k then k - ((len24 : Int) + (len25 : Int) + (len27 : Int) + (len28 : Int) + (len33 : Int)) else -1)) ∧ Below w.heap.size w w' := by
  have E0 : Hid (Sz w (w.alloc (.cells #[.int .i64 x0, .int .i64 x1, .int .i64 x2, .int .i64 x3, .int .i64 x4, .int .i64 x5, .int .i64 x6, .int .i64 x7, .int .i64 x8, .int .i64 x9, .int .i64 x10, .int .i64 x11, .int .i64 x12, .int .i64 x13, .int .i64 x14, .int .i64 x15, .int .i64 x16, .int .i64 x17, .int .i64 x18, .int .i64 x19, .int .i64 x20, .int .i64 x21, .int .i64 x22, .int .i64 x23, .slice a24 len24 c24, .slice a25 len25 c25, .int .i64 x26, .slice a27 len27 c27, .slice a28 len28 c28, .int .i64 x29, .int .i64 x30, .int .i64 x31, .int .i64 x32, .slice a33 len33 c33] 75)) #[.int .i64 x0, .int .i64 x1, .int .i64 x2, .int .i64 x3, .int .i64 x4, .int .i64 x5, .int .i64 x6, .int .i64 x7, .int .i64 x8, .int .i64 x9, .int .i64 x10, .int .i64 x11, .int .i64 x12, .int .i64 x13, .int .i64 x14, .int .i64 x15, .int .i64 x16, .int .i64 x17, .int .i64 x18, .int .i64 x19, .int .i64 x20, .int .i64 x21, .int .i64 x22, .int .i64 x23, .slice a24 len24 c24, .slice a25 len25 c25, .int .i64 x26, .slice a27 len27 c27, .slice a28 len28 c28, .int .i64 x29, .int .i64 x30, .int .i64 x31, .int .i64 x32, .slice a33 len33 c33] 75) := Sz.start _ _ _
  by_cases s0 : (len24 : Int) ≤ k
  · obtain ⟨m1, hm1⟩ : ∃ m : Int, k - (len24 : Int) = m := ⟨_, rfl⟩
    have u0 : ¬ m1 < 0 := by omega
    by_cases s1 : (len25 : Int) ≤ m1
    · obtain ⟨m2, hm2⟩ : ∃ m : Int, m1 - (len25 : Int) = m := ⟨_, rfl⟩
      have u1 : ¬ m2 < 0 := by omega
      by_cases s2 : (len27 : Int) ≤ m2
      · obtain ⟨m3, hm3⟩ : ∃ m : Int, m2 - (len27 : Int) = m := ⟨_, rfl⟩
        have u2 : ¬ m3 < 0 := by omega
        by_cases s3 : (len28 : Int) ≤ m3
        · obtain ⟨m4, hm4⟩ : ∃ m : Int, m3 - (len28 : Int) = m := ⟨_, rfl⟩
          have u3 : ¬ m4 < 0 := by omega
          by_cases s4 : (len33 : Int) ≤ m4
          · obtain ⟨m5, hm5⟩ : ∃ m : Int, m4 - (len33 : Int) = m := ⟨_, rfl⟩
            have u4 : ¬ m5 < 0 := by omega
            rw [if_pos (by omega), show k - ((len24 : Int) + (len25 : Int) + (len27 : Int) + (len28 : Int) + (len33 : Int)) = m5 by omega]
            go_enter Try.func25, Try.ntmps25
            go_wp2_with (first | (go_at_call 59; refine (LawLim.sz_lim x15 x16 x17 x18 x19 x20 x21 x22 x23 a24 c24 len24 k _ hn24 (by omega) (by omega)).mono ?_; rintro e w1 ⟨rfl, hb1⟩; have E1 : Hid (Sz w w1 #[.int .i64 x0, .int .i64 x1, .int .i64 x2, .int .i64 x3, .int .i64 x4, .int .i64 x5, .int .i64 x6, .int .i64 x7, .int .i64 x8, .int .i64 x9, .int .i64 x10, .int .i64 x11, .int .i64 x12, .int .i64 x13, .int .i64 x14, .int .i64 x15, .int .i64 x16, .int .i64 x17, .int .i64 x18, .int .i64 x19, .int .i64 x20, .int .i64 x21, .int .i64 x22, .int .i64 x23, .slice a24 len24 c24, .slice a25 len25 c25, .int .i64 x26, .slice a27 len27 c27, .slice a28 len28 c28, .int .i64 x29, .int .i64 x30, .int .i64 x31, .int .i64 x32, .slice a33 len33 c33] 75) := E0.out.next hb1; clear hb1 E0; rw [if_pos s0, hm1]; have p0 := cellB E1.out.a 0; have p1 := cellB E1.out.a 1; have p2 := cellB E1.out.a 2; have p3 := cellB E1.out.a 3; have p4 := cellB E1.out.a 4; have p5 := cellB E1.out.a 5; have p6 := cellB E1.out.a 6; have p7 := cellB E1.out.a 7; have p8 := cellB E1.out.a 8; have p9 := cellB E1.out.a 9; have p10 := cellB E1.out.a 10; have p11 := cellB E1.out.a 11; have p12 := cellB E1.out.a 12; have p13 := cellB E1.out.a 13; have p14 := cellB E1.out.a 14; have p15 := cellB E1.out.a 15; have p16 := cellB E1.out.a 16; have p17 := cellB E1.out.a 17; have p18 := cellB E1.out.a 18; have p19 := cellB E1.out.a 19; have p20 := cellB E1.out.a 20; have p21 := cellB E1.out.a 21; have p22 := cellB E1.out.a 22; have p23 := cellB E1.out.a 23; have p24 := cellB E1.out.a 24; have p25 := cellB E1.out.a 25; have p26 := cellB E1.out.a 26; have p27 := cellB E1.out.a 27; have p28 := cellB E1.out.a 28; have p29 := cellB E1.out.a 29; have p30 := cellB E1.out.a 30; have p31 := cellB E1.out.a 31; have p32 := cellB E1.out.a 32; have p33 := cellB E1.out.a 33) | (go_at_call 16; refine (LawLedger.sz_ledger a25 c25 len25 m1 _ hn25 (by omega) (by omega)).mono ?_; rintro e w2 ⟨rfl, hb2⟩; have E2 : Hid (Sz w w2 #[.int .i64 x0, .int .i64 x1, .int .i64 x2, .int .i64 x3, .int .i64 x4, .int .i64 x5, .int .i64 x6, .int .i64 x7, .int .i64 x8, .int .i64 x9, .int .i64 x10, .int .i64 x11, .int .i64 x12, .int .i64 x13, .int .i64 x14, .int .i64 x15, .int .i64 x16, .int .i64 x17, .int .i64 x18, .int .i64 x19, .int .i64 x20, .int .i64 x21, .int .i64 x22, .int .i64 x23, .slice a24 len24 c24, .slice a25 len25 c25, .int .i64 x26, .slice a27 len27 c27, .slice a28 len28 c28, .int .i64 x29, .int .i64 x30, .int .i64 x31, .int .i64 x32, .slice a33 len33 c33] 75) := E1.out.next hb2; clear hb2 E1 p0 p1 p2 p3 p4 p5 p6 p7 p8 p9 p10 p11 p12 p13 p14 p15 p16 p17 p18 p19 p20 p21 p22 p23 p24 p25 p26 p27 p28 p29 p30 p31 p32 p33; rw [if_pos s1, hm2]; have p0 := cellB E2.out.a 0; have p1 := cellB E2.out.a 1; have p2 := cellB E2.out.a 2; have p3 := cellB E2.out.a 3; have p4 := cellB E2.out.a 4; have p5 := cellB E2.out.a 5; have p6 := cellB E2.out.a 6; have p7 := cellB E2.out.a 7; have p8 := cellB E2.out.a 8; have p9 := cellB E2.out.a 9; have p10 := cellB E2.out.a 10; have p11 := cellB E2.out.a 11; have p12 := cellB E2.out.a 12; have p13 := cellB E2.out.a 13; have p14 := cellB E2.out.a 14; have p15 := cellB E2.out.a 15; have p16 := cellB E2.out.a 16; have p17 := cellB E2.out.a 17; have p18 := cellB E2.out.a 18; have p19 := cellB E2.out.a 19; have p20 := cellB E2.out.a 20; have p21 := cellB E2.out.a 21; have p22 := cellB E2.out.a 22; have p23 := cellB E2.out.a 23; have p24 := cellB E2.out.a 24; have p25 := cellB E2.out.a 25; have p26 := cellB E2.out.a 26; have p27 := cellB E2.out.a 27; have p28 := cellB E2.out.a 28; have p29 := cellB E2.out.a 29; have p30 := cellB E2.out.a 30; have p31 := cellB E2.out.a 31; have p32 := cellB E2.out.a 32; have p33 := cellB E2.out.a 33) | (go_at_call 60; refine (LawQueue.sz_queue x26 a27 c27 len27 m2 _ hn27 (by omega) (by omega)).mono ?_; rintro e w3 ⟨rfl, hb3⟩; have E3 : Hid (Sz w w3 #[.int .i64 x0, .int .i64 x1, .int .i64 x2, .int .i64 x3, .int .i64 x4, .int .i64 x5, .int .i64 x6, .int .i64 x7, .int .i64 x8, .int .i64 x9, .int .i64 x10, .int .i64 x11, .int .i64 x12, .int .i64 x13, .int .i64 x14, .int .i64 x15, .int .i64 x16, .int .i64 x17, .int .i64 x18, .int .i64 x19, .int .i64 x20, .int .i64 x21, .int .i64 x22, .int .i64 x23, .slice a24 len24 c24, .slice a25 len25 c25, .int .i64 x26, .slice a27 len27 c27, .slice a28 len28 c28, .int .i64 x29, .int .i64 x30, .int .i64 x31, .int .i64 x32, .slice a33 len33 c33] 75) := E2.out.next hb3; clear hb3 E2 p0 p1 p2 p3 p4 p5 p6 p7 p8 p9 p10 p11 p12 p13 p14 p15 p16 p17 p18 p19 p20 p21 p22 p23 p24 p25 p26 p27 p28 p29 p30 p31 p32 p33; rw [if_pos s2, hm3]; have p0 := cellB E3.out.a 0; have p1 := cellB E3.out.a 1; have p2 := cellB E3.out.a 2; have p3 := cellB E3.out.a 3; have p4 := cellB E3.out.a 4; have p5 := cellB E3.out.a 5; have p6 := cellB E3.out.a 6; have p7 := cellB E3.out.a 7; have p8 := cellB E3.out.a 8; have p9 := cellB E3.out.a 9; have p10 := cellB E3.out.a 10; have p11 := cellB E3.out.a 11; have p12 := cellB E3.out.a 12; have p13 := cellB E3.out.a 13; have p14 := cellB E3.out.a 14; have p15 := cellB E3.out.a 15; have p16 := cellB E3.out.a 16; have p17 := cellB E3.out.a 17; have p18 := cellB E3.out.a 18; have p19 := cellB E3.out.a 19; have p20 := cellB E3.out.a 20; have p21 := cellB E3.out.a 21; have p22 := cellB E3.out.a 22; have p23 := cellB E3.out.a 23; have p24 := cellB E3.out.a 24; have p25 := cellB E3.out.a 25; have p26 := cellB E3.out.a 26; have p27 := cellB E3.out.a 27; have p28 := cellB E3.out.a 28; have p29 := cellB E3.out.a 29; have p30 := cellB E3.out.a 30; have p31 := cellB E3.out.a 31; have p32 := cellB E3.out.a 32; have p33 := cellB E3.out.a 33) | (go_at_call 61; refine (CodelRows.sz_rows a28 c28 len28 m3 _ hn28 (by omega) (by omega)).mono ?_; rintro e w4 ⟨rfl, hb4⟩; have E4 : Hid (Sz w w4 #[.int .i64 x0, .int .i64 x1, .int .i64 x2, .int .i64 x3, .int .i64 x4, .int .i64 x5, .int .i64 x6, .int .i64 x7, .int .i64 x8, .int .i64 x9, .int .i64 x10, .int .i64 x11, .int .i64 x12, .int .i64 x13, .int .i64 x14, .int .i64 x15, .int .i64 x16, .int .i64 x17, .int .i64 x18, .int .i64 x19, .int .i64 x20, .int .i64 x21, .int .i64 x22, .int .i64 x23, .slice a24 len24 c24, .slice a25 len25 c25, .int .i64 x26, .slice a27 len27 c27, .slice a28 len28 c28, .int .i64 x29, .int .i64 x30, .int .i64 x31, .int .i64 x32, .slice a33 len33 c33] 75) := (by rw [hb4]; exact E3); clear hb4 E3 p0 p1 p2 p3 p4 p5 p6 p7 p8 p9 p10 p11 p12 p13 p14 p15 p16 p17 p18 p19 p20 p21 p22 p23 p24 p25 p26 p27 p28 p29 p30 p31 p32 p33; rw [if_pos s3, hm4]; have p0 := cellB E4.out.a 0; have p1 := cellB E4.out.a 1; have p2 := cellB E4.out.a 2; have p3 := cellB E4.out.a 3; have p4 := cellB E4.out.a 4; have p5 := cellB E4.out.a 5; have p6 := cellB E4.out.a 6; have p7 := cellB E4.out.a 7; have p8 := cellB E4.out.a 8; have p9 := cellB E4.out.a 9; have p10 := cellB E4.out.a 10; have p11 := cellB E4.out.a 11; have p12 := cellB E4.out.a 12; have p13 := cellB E4.out.a 13; have p14 := cellB E4.out.a 14; have p15 := cellB E4.out.a 15; have p16 := cellB E4.out.a 16; have p17 := cellB E4.out.a 17; have p18 := cellB E4.out.a 18; have p19 := cellB E4.out.a 19; have p20 := cellB E4.out.a 20; have p21 := cellB E4.out.a 21; have p22 := cellB E4.out.a 22; have p23 := cellB E4.out.a 23; have p24 := cellB E4.out.a 24; have p25 := cellB E4.out.a 25; have p26 := cellB E4.out.a 26; have p27 := cellB E4.out.a 27; have p28 := cellB E4.out.a 28; have p29 := cellB E4.out.a 29; have p30 := cellB E4.out.a 30; have p31 := cellB E4.out.a 31; have p32 := cellB E4.out.a 32; have p33 := cellB E4.out.a 33) | (go_at_call 62; refine (IntRows.sz_rows a33 c33 len33 m4 _ hn33 (by omega) (by omega)).mono ?_; rintro e w5 ⟨rfl, hb5⟩; have E5 : Hid (Sz w w5 #[.int .i64 x0, .int .i64 x1, .int .i64 x2, .int .i64 x3, .int .i64 x4, .int .i64 x5, .int .i64 x6, .int .i64 x7, .int .i64 x8, .int .i64 x9, .int .i64 x10, .int .i64 x11, .int .i64 x12, .int .i64 x13, .int .i64 x14, .int .i64 x15, .int .i64 x16, .int .i64 x17, .int .i64 x18, .int .i64 x19, .int .i64 x20, .int .i64 x21, .int .i64 x22, .int .i64 x23, .slice a24 len24 c24, .slice a25 len25 c25, .int .i64 x26, .slice a27 len27 c27, .slice a28 len28 c28, .int .i64 x29, .int .i64 x30, .int .i64 x31, .int .i64 x32, .slice a33 len33 c33] 75) := (by rw [hb5]; exact E4); clear hb5 E4 p0 p1 p2 p3 p4 p5 p6 p7 p8 p9 p10 p11 p12 p13 p14 p15 p16 p17 p18 p19 p20 p21 p22 p23 p24 p25 p26 p27 p28 p29 p30 p31 p32 p33; rw [if_pos s4, hm5]))
            go_ret
            exact ⟨rfl, E5.out.bel⟩
          · rw [if_neg (by omega)]
            go_enter Try.func25, Try.ntmps25
            go_wp2_with (first | (go_at_call 59; refine (LawLim.sz_lim x15 x16 x17 x18 x19 x20 x21 x22 x23 a24 c24 len24 k _ hn24 (by omega) (by omega)).mono ?_; rintro e w1 ⟨rfl, hb1⟩; have E1 : Hid (Sz w w1 #[.int .i64 x0, .int .i64 x1, .int .i64 x2, .int .i64 x3, .int .i64 x4, .int .i64 x5, .int .i64 x6, .int .i64 x7, .int .i64 x8, .int .i64 x9, .int .i64 x10, .int .i64 x11, .int .i64 x12, .int .i64 x13, .int .i64 x14, .int .i64 x15, .int .i64 x16, .int .i64 x17, .int .i64 x18, .int .i64 x19, .int .i64 x20, .int .i64 x21, .int .i64 x22, .int .i64 x23, .slice a24 len24 c24, .slice a25 len25 c25, .int .i64 x26, .slice a27 len27 c27, .slice a28 len28 c28, .int .i64 x29, .int .i64 x30, .int .i64 x31, .int .i64 x32, .slice a33 len33 c33] 75) := E0.out.next hb1; clear hb1 E0; rw [if_pos s0, hm1]; have p0 := cellB E1.out.a 0; have p1 := cellB E1.out.a 1; have p2 := cellB E1.out.a 2; have p3 := cellB E1.out.a 3; have p4 := cellB E1.out.a 4; have p5 := cellB E1.out.a 5; have p6 := cellB E1.out.a 6; have p7 := cellB E1.out.a 7; have p8 := cellB E1.out.a 8; have p9 := cellB E1.out.a 9; have p10 := cellB E1.out.a 10; have p11 := cellB E1.out.a 11; have p12 := cellB E1.out.a 12; have p13 := cellB E1.out.a 13; have p14 := cellB E1.out.a 14; have p15 := cellB E1.out.a 15; have p16 := cellB E1.out.a 16; have p17 := cellB E1.out.a 17; have p18 := cellB E1.out.a 18; have p19 := cellB E1.out.a 19; have p20 := cellB E1.out.a 20; have p21 := cellB E1.out.a 21; have p22 := cellB E1.out.a 22; have p23 := cellB E1.out.a 23; have p24 := cellB E1.out.a 24; have p25 := cellB E1.out.a 25; have p26 := cellB E1.out.a 26; have p27 := cellB E1.out.a 27; have p28 := cellB E1.out.a 28; have p29 := cellB E1.out.a 29; have p30 := cellB E1.out.a 30; have p31 := cellB E1.out.a 31; have p32 := cellB E1.out.a 32; have p33 := cellB E1.out.a 33) | (go_at_call 16; refine (LawLedger.sz_ledger a25 c25 len25 m1 _ hn25 (by omega) (by omega)).mono ?_; rintro e w2 ⟨rfl, hb2⟩; have E2 : Hid (Sz w w2 #[.int .i64 x0, .int .i64 x1, .int .i64 x2, .int .i64 x3, .int .i64 x4, .int .i64 x5, .int .i64 x6, .int .i64 x7, .int .i64 x8, .int .i64 x9, .int .i64 x10, .int .i64 x11, .int .i64 x12, .int .i64 x13, .int .i64 x14, .int .i64 x15, .int .i64 x16, .int .i64 x17, .int .i64 x18, .int .i64 x19, .int .i64 x20, .int .i64 x21, .int .i64 x22, .int .i64 x23, .slice a24 len24 c24, .slice a25 len25 c25, .int .i64 x26, .slice a27 len27 c27, .slice a28 len28 c28, .int .i64 x29, .int .i64 x30, .int .i64 x31, .int .i64 x32, .slice a33 len33 c33] 75) := E1.out.next hb2; clear hb2 E1 p0 p1 p2 p3 p4 p5 p6 p7 p8 p9 p10 p11 p12 p13 p14 p15 p16 p17 p18 p19 p20 p21 p22 p23 p24 p25 p26 p27 p28 p29 p30 p31 p32 p33; rw [if_pos s1, hm2]; have p0 := cellB E2.out.a 0; have p1 := cellB E2.out.a 1; have p2 := cellB E2.out.a 2; have p3 := cellB E2.out.a 3; have p4 := cellB E2.out.a 4; have p5 := cellB E2.out.a 5; have p6 := cellB E2.out.a 6; have p7 := cellB E2.out.a 7; have p8 := cellB E2.out.a 8; have p9 := cellB E2.out.a 9; have p10 := cellB E2.out.a 10; have p11 := cellB E2.out.a 11; have p12 := cellB E2.out.a 12; have p13 := cellB E2.out.a 13; have p14 := cellB E2.out.a 14; have p15 := cellB E2.out.a 15; have p16 := cellB E2.out.a 16; have p17 := cellB E2.out.a 17; have p18 := cellB E2.out.a 18; have p19 := cellB E2.out.a 19; have p20 := cellB E2.out.a 20; have p21 := cellB E2.out.a 21; have p22 := cellB E2.out.a 22; have p23 := cellB E2.out.a 23; have p24 := cellB E2.out.a 24; have p25 := cellB E2.out.a 25; have p26 := cellB E2.out.a 26; have p27 := cellB E2.out.a 27; have p28 := cellB E2.out.a 28; have p29 := cellB E2.out.a 29; have p30 := cellB E2.out.a 30; have p31 := cellB E2.out.a 31; have p32 := cellB E2.out.a 32; have p33 := cellB E2.out.a 33) | (go_at_call 60; refine (LawQueue.sz_queue x26 a27 c27 len27 m2 _ hn27 (by omega) (by omega)).mono ?_; rintro e w3 ⟨rfl, hb3⟩; have E3 : Hid (Sz w w3 #[.int .i64 x0, .int .i64 x1, .int .i64 x2, .int .i64 x3, .int .i64 x4, .int .i64 x5, .int .i64 x6, .int .i64 x7, .int .i64 x8, .int .i64 x9, .int .i64 x10, .int .i64 x11, .int .i64 x12, .int .i64 x13, .int .i64 x14, .int .i64 x15, .int .i64 x16, .int .i64 x17, .int .i64 x18, .int .i64 x19, .int .i64 x20, .int .i64 x21, .int .i64 x22, .int .i64 x23, .slice a24 len24 c24, .slice a25 len25 c25, .int .i64 x26, .slice a27 len27 c27, .slice a28 len28 c28, .int .i64 x29, .int .i64 x30, .int .i64 x31, .int .i64 x32, .slice a33 len33 c33] 75) := E2.out.next hb3; clear hb3 E2 p0 p1 p2 p3 p4 p5 p6 p7 p8 p9 p10 p11 p12 p13 p14 p15 p16 p17 p18 p19 p20 p21 p22 p23 p24 p25 p26 p27 p28 p29 p30 p31 p32 p33; rw [if_pos s2, hm3]; have p0 := cellB E3.out.a 0; have p1 := cellB E3.out.a 1; have p2 := cellB E3.out.a 2; have p3 := cellB E3.out.a 3; have p4 := cellB E3.out.a 4; have p5 := cellB E3.out.a 5; have p6 := cellB E3.out.a 6; have p7 := cellB E3.out.a 7; have p8 := cellB E3.out.a 8; have p9 := cellB E3.out.a 9; have p10 := cellB E3.out.a 10; have p11 := cellB E3.out.a 11; have p12 := cellB E3.out.a 12; have p13 := cellB E3.out.a 13; have p14 := cellB E3.out.a 14; have p15 := cellB E3.out.a 15; have p16 := cellB E3.out.a 16; have p17 := cellB E3.out.a 17; have p18 := cellB E3.out.a 18; have p19 := cellB E3.out.a 19; have p20 := cellB E3.out.a 20; have p21 := cellB E3.out.a 21; have p22 := cellB E3.out.a 22; have p23 := cellB E3.out.a 23; have p24 := cellB E3.out.a 24; have p25 := cellB E3.out.a 25; have p26 := cellB E3.out.a 26; have p27 := cellB E3.out.a 27; have p28 := cellB E3.out.a 28; have p29 := cellB E3.out.a 29; have p30 := cellB E3.out.a 30; have p31 := cellB E3.out.a 31; have p32 := cellB E3.out.a 32; have p33 := cellB E3.out.a 33) | (go_at_call 61; refine (CodelRows.sz_rows a28 c28 len28 m3 _ hn28 (by omega) (by omega)).mono ?_; rintro e w4 ⟨rfl, hb4⟩; have E4 : Hid (Sz w w4 #[.int .i64 x0, .int .i64 x1, .int .i64 x2, .int .i64 x3, .int .i64 x4, .int .i64 x5, .int .i64 x6, .int .i64 x7, .int .i64 x8, .int .i64 x9, .int .i64 x10, .int .i64 x11, .int .i64 x12, .int .i64 x13, .int .i64 x14, .int .i64 x15, .int .i64 x16, .int .i64 x17, .int .i64 x18, .int .i64 x19, .int .i64 x20, .int .i64 x21, .int .i64 x22, .int .i64 x23, .slice a24 len24 c24, .slice a25 len25 c25, .int .i64 x26, .slice a27 len27 c27, .slice a28 len28 c28, .int .i64 x29, .int .i64 x30, .int .i64 x31, .int .i64 x32, .slice a33 len33 c33] 75) := (by rw [hb4]; exact E3); clear hb4 E3 p0 p1 p2 p3 p4 p5 p6 p7 p8 p9 p10 p11 p12 p13 p14 p15 p16 p17 p18 p19 p20 p21 p22 p23 p24 p25 p26 p27 p28 p29 p30 p31 p32 p33; rw [if_pos s3, hm4]; have p0 := cellB E4.out.a 0; have p1 := cellB E4.out.a 1; have p2 := cellB E4.out.a 2; have p3 := cellB E4.out.a 3; have p4 := cellB E4.out.a 4; have p5 := cellB E4.out.a 5; have p6 := cellB E4.out.a 6; have p7 := cellB E4.out.a 7; have p8 := cellB E4.out.a 8; have p9 := cellB E4.out.a 9; have p10 := cellB E4.out.a 10; have p11 := cellB E4.out.a 11; have p12 := cellB E4.out.a 12; have p13 := cellB E4.out.a 13; have p14 := cellB E4.out.a 14; have p15 := cellB E4.out.a 15; have p16 := cellB E4.out.a 16; have p17 := cellB E4.out.a 17; have p18 := cellB E4.out.a 18; have p19 := cellB E4.out.a 19; have p20 := cellB E4.out.a 20; have p21 := cellB E4.out.a 21; have p22 := cellB E4.out.a 22; have p23 := cellB E4.out.a 23; have p24 := cellB E4.out.a 24; have p25 := cellB E4.out.a 25; have p26 := cellB E4.out.a 26; have p27 := cellB E4.out.a 27; have p28 := cellB E4.out.a 28; have p29 := cellB E4.out.a 29; have p30 := cellB E4.out.a 30; have p31 := cellB E4.out.a 31; have p32 := cellB E4.out.a 32; have p33 := cellB E4.out.a 33) | (go_at_call 62; refine (IntRows.sz_rows a33 c33 len33 m4 _ hn33 (by omega) (by omega)).mono ?_; rintro e w5 ⟨rfl, hb5⟩; have E5 : Hid (Sz w w5 #[.int .i64 x0, .int .i64 x1, .int .i64 x2, .int .i64 x3, .int .i64 x4, .int .i64 x5, .int .i64 x6, .int .i64 x7, .int .i64 x8, .int .i64 x9, .int .i64 x10, .int .i64 x11, .int .i64 x12, .int .i64 x13, .int .i64 x14, .int .i64 x15, .int .i64 x16, .int .i64 x17, .int .i64 x18, .int .i64 x19, .int .i64 x20, .int .i64 x21, .int .i64 x22, .int .i64 x23, .slice a24 len24 c24, .slice a25 len25 c25, .int .i64 x26, .slice a27 len27 c27, .slice a28 len28 c28, .int .i64 x29, .int .i64 x30, .int .i64 x31, .int .i64 x32, .slice a33 len33 c33] 75) := (by rw [hb5]; exact E4); clear hb5 E4 p0 p1 p2 p3 p4 p5 p6 p7 p8 p9 p10 p11 p12 p13 p14 p15 p16 p17 p18 p19 p20 p21 p22 p23 p24 p25 p26 p27 p28 p29 p30 p31 p32 p33; rw [if_neg (by omega)]))
            go_ret
            exact ⟨rfl, E5.out.bel⟩
        · rw [if_neg (by omega)]
          go_enter Try.func25, Try.ntmps25
          go_wp2_with (first | (go_at_call 59; refine (LawLim.sz_lim x15 x16 x17 x18 x19 x20 x21 x22 x23 a24 c24 len24 k _ hn24 (by omega) (by omega)).mono ?_; rintro e w1 ⟨rfl, hb1⟩; have E1 : Hid (Sz w w1 #[.int .i64 x0, .int .i64 x1, .int .i64 x2, .int .i64 x3, .int .i64 x4, .int .i64 x5, .int .i64 x6, .int .i64 x7, .int .i64 x8, .int .i64 x9, .int .i64 x10, .int .i64 x11, .int .i64 x12, .int .i64 x13, .int .i64 x14, .int .i64 x15, .int .i64 x16, .int .i64 x17, .int .i64 x18, .int .i64 x19, .int .i64 x20, .int .i64 x21, .int .i64 x22, .int .i64 x23, .slice a24 len24 c24, .slice a25 len25 c25, .int .i64 x26, .slice a27 len27 c27, .slice a28 len28 c28, .int .i64 x29, .int .i64 x30, .int .i64 x31, .int .i64 x32, .slice a33 len33 c33] 75) := E0.out.next hb1; clear hb1 E0; rw [if_pos s0, hm1]; have p0 := cellB E1.out.a 0; have p1 := cellB E1.out.a 1; have p2 := cellB E1.out.a 2; have p3 := cellB E1.out.a 3; have p4 := cellB E1.out.a 4; have p5 := cellB E1.out.a 5; have p6 := cellB E1.out.a 6; have p7 := cellB E1.out.a 7; have p8 := cellB E1.out.a 8; have p9 := cellB E1.out.a 9; have p10 := cellB E1.out.a 10; have p11 := cellB E1.out.a 11; have p12 := cellB E1.out.a 12; have p13 := cellB E1.out.a 13; have p14 := cellB E1.out.a 14; have p15 := cellB E1.out.a 15; have p16 := cellB E1.out.a 16; have p17 := cellB E1.out.a 17; have p18 := cellB E1.out.a 18; have p19 := cellB E1.out.a 19; have p20 := cellB E1.out.a 20; have p21 := cellB E1.out.a 21; have p22 := cellB E1.out.a 22; have p23 := cellB E1.out.a 23; have p24 := cellB E1.out.a 24; have p25 := cellB E1.out.a 25; have p26 := cellB E1.out.a 26; have p27 := cellB E1.out.a 27; have p28 := cellB E1.out.a 28; have p29 := cellB E1.out.a 29; have p30 := cellB E1.out.a 30; have p31 := cellB E1.out.a 31; have p32 := cellB E1.out.a 32; have p33 := cellB E1.out.a 33) | (go_at_call 16; refine (LawLedger.sz_ledger a25 c25 len25 m1 _ hn25 (by omega) (by omega)).mono ?_; rintro e w2 ⟨rfl, hb2⟩; have E2 : Hid (Sz w w2 #[.int .i64 x0, .int .i64 x1, .int .i64 x2, .int .i64 x3, .int .i64 x4, .int .i64 x5, .int .i64 x6, .int .i64 x7, .int .i64 x8, .int .i64 x9, .int .i64 x10, .int .i64 x11, .int .i64 x12, .int .i64 x13, .int .i64 x14, .int .i64 x15, .int .i64 x16, .int .i64 x17, .int .i64 x18, .int .i64 x19, .int .i64 x20, .int .i64 x21, .int .i64 x22, .int .i64 x23, .slice a24 len24 c24, .slice a25 len25 c25, .int .i64 x26, .slice a27 len27 c27, .slice a28 len28 c28, .int .i64 x29, .int .i64 x30, .int .i64 x31, .int .i64 x32, .slice a33 len33 c33] 75) := E1.out.next hb2; clear hb2 E1 p0 p1 p2 p3 p4 p5 p6 p7 p8 p9 p10 p11 p12 p13 p14 p15 p16 p17 p18 p19 p20 p21 p22 p23 p24 p25 p26 p27 p28 p29 p30 p31 p32 p33; rw [if_pos s1, hm2]; have p0 := cellB E2.out.a 0; have p1 := cellB E2.out.a 1; have p2 := cellB E2.out.a 2; have p3 := cellB E2.out.a 3; have p4 := cellB E2.out.a 4; have p5 := cellB E2.out.a 5; have p6 := cellB E2.out.a 6; have p7 := cellB E2.out.a 7; have p8 := cellB E2.out.a 8; have p9 := cellB E2.out.a 9; have p10 := cellB E2.out.a 10; have p11 := cellB E2.out.a 11; have p12 := cellB E2.out.a 12; have p13 := cellB E2.out.a 13; have p14 := cellB E2.out.a 14; have p15 := cellB E2.out.a 15; have p16 := cellB E2.out.a 16; have p17 := cellB E2.out.a 17; have p18 := cellB E2.out.a 18; have p19 := cellB E2.out.a 19; have p20 := cellB E2.out.a 20; have p21 := cellB E2.out.a 21; have p22 := cellB E2.out.a 22; have p23 := cellB E2.out.a 23; have p24 := cellB E2.out.a 24; have p25 := cellB E2.out.a 25; have p26 := cellB E2.out.a 26; have p27 := cellB E2.out.a 27; have p28 := cellB E2.out.a 28; have p29 := cellB E2.out.a 29; have p30 := cellB E2.out.a 30; have p31 := cellB E2.out.a 31; have p32 := cellB E2.out.a 32; have p33 := cellB E2.out.a 33) | (go_at_call 60; refine (LawQueue.sz_queue x26 a27 c27 len27 m2 _ hn27 (by omega) (by omega)).mono ?_; rintro e w3 ⟨rfl, hb3⟩; have E3 : Hid (Sz w w3 #[.int .i64 x0, .int .i64 x1, .int .i64 x2, .int .i64 x3, .int .i64 x4, .int .i64 x5, .int .i64 x6, .int .i64 x7, .int .i64 x8, .int .i64 x9, .int .i64 x10, .int .i64 x11, .int .i64 x12, .int .i64 x13, .int .i64 x14, .int .i64 x15, .int .i64 x16, .int .i64 x17, .int .i64 x18, .int .i64 x19, .int .i64 x20, .int .i64 x21, .int .i64 x22, .int .i64 x23, .slice a24 len24 c24, .slice a25 len25 c25, .int .i64 x26, .slice a27 len27 c27, .slice a28 len28 c28, .int .i64 x29, .int .i64 x30, .int .i64 x31, .int .i64 x32, .slice a33 len33 c33] 75) := E2.out.next hb3; clear hb3 E2 p0 p1 p2 p3 p4 p5 p6 p7 p8 p9 p10 p11 p12 p13 p14 p15 p16 p17 p18 p19 p20 p21 p22 p23 p24 p25 p26 p27 p28 p29 p30 p31 p32 p33; rw [if_pos s2, hm3]; have p0 := cellB E3.out.a 0; have p1 := cellB E3.out.a 1; have p2 := cellB E3.out.a 2; have p3 := cellB E3.out.a 3; have p4 := cellB E3.out.a 4; have p5 := cellB E3.out.a 5; have p6 := cellB E3.out.a 6; have p7 := cellB E3.out.a 7; have p8 := cellB E3.out.a 8; have p9 := cellB E3.out.a 9; have p10 := cellB E3.out.a 10; have p11 := cellB E3.out.a 11; have p12 := cellB E3.out.a 12; have p13 := cellB E3.out.a 13; have p14 := cellB E3.out.a 14; have p15 := cellB E3.out.a 15; have p16 := cellB E3.out.a 16; have p17 := cellB E3.out.a 17; have p18 := cellB E3.out.a 18; have p19 := cellB E3.out.a 19; have p20 := cellB E3.out.a 20; have p21 := cellB E3.out.a 21; have p22 := cellB E3.out.a 22; have p23 := cellB E3.out.a 23; have p24 := cellB E3.out.a 24; have p25 := cellB E3.out.a 25; have p26 := cellB E3.out.a 26; have p27 := cellB E3.out.a 27; have p28 := cellB E3.out.a 28; have p29 := cellB E3.out.a 29; have p30 := cellB E3.out.a 30; have p31 := cellB E3.out.a 31; have p32 := cellB E3.out.a 32; have p33 := cellB E3.out.a 33) | (go_at_call 61; refine (CodelRows.sz_rows a28 c28 len28 m3 _ hn28 (by omega) (by omega)).mono ?_; rintro e w4 ⟨rfl, hb4⟩; have E4 : Hid (Sz w w4 #[.int .i64 x0, .int .i64 x1, .int .i64 x2, .int .i64 x3, .int .i64 x4, .int .i64 x5, .int .i64 x6, .int .i64 x7, .int .i64 x8, .int .i64 x9, .int .i64 x10, .int .i64 x11, .int .i64 x12, .int .i64 x13, .int .i64 x14, .int .i64 x15, .int .i64 x16, .int .i64 x17, .int .i64 x18, .int .i64 x19, .int .i64 x20, .int .i64 x21, .int .i64 x22, .int .i64 x23, .slice a24 len24 c24, .slice a25 len25 c25, .int .i64 x26, .slice a27 len27 c27, .slice a28 len28 c28, .int .i64 x29, .int .i64 x30, .int .i64 x31, .int .i64 x32, .slice a33 len33 c33] 75) := (by rw [hb4]; exact E3); clear hb4 E3 p0 p1 p2 p3 p4 p5 p6 p7 p8 p9 p10 p11 p12 p13 p14 p15 p16 p17 p18 p19 p20 p21 p22 p23 p24 p25 p26 p27 p28 p29 p30 p31 p32 p33; rw [if_neg (by omega)]))
          go_ret
          exact ⟨rfl, E4.out.bel⟩
      · rw [if_neg (by omega)]
        go_enter Try.func25, Try.ntmps25
        go_wp2_with (first | (go_at_call 59; refine (LawLim.sz_lim x15 x16 x17 x18 x19 x20 x21 x22 x23 a24 c24 len24 k _ hn24 (by omega) (by omega)).mono ?_; rintro e w1 ⟨rfl, hb1⟩; have E1 : Hid (Sz w w1 #[.int .i64 x0, .int .i64 x1, .int .i64 x2, .int .i64 x3, .int .i64 x4, .int .i64 x5, .int .i64 x6, .int .i64 x7, .int .i64 x8, .int .i64 x9, .int .i64 x10, .int .i64 x11, .int .i64 x12, .int .i64 x13, .int .i64 x14, .int .i64 x15, .int .i64 x16, .int .i64 x17, .int .i64 x18, .int .i64 x19, .int .i64 x20, .int .i64 x21, .int .i64 x22, .int .i64 x23, .slice a24 len24 c24, .slice a25 len25 c25, .int .i64 x26, .slice a27 len27 c27, .slice a28 len28 c28, .int .i64 x29, .int .i64 x30, .int .i64 x31, .int .i64 x32, .slice a33 len33 c33] 75) := E0.out.next hb1; clear hb1 E0; rw [if_pos s0, hm1]; have p0 := cellB E1.out.a 0; have p1 := cellB E1.out.a 1; have p2 := cellB E1.out.a 2; have p3 := cellB E1.out.a 3; have p4 := cellB E1.out.a 4; have p5 := cellB E1.out.a 5; have p6 := cellB E1.out.a 6; have p7 := cellB E1.out.a 7; have p8 := cellB E1.out.a 8; have p9 := cellB E1.out.a 9; have p10 := cellB E1.out.a 10; have p11 := cellB E1.out.a 11; have p12 := cellB E1.out.a 12; have p13 := cellB E1.out.a 13; have p14 := cellB E1.out.a 14; have p15 := cellB E1.out.a 15; have p16 := cellB E1.out.a 16; have p17 := cellB E1.out.a 17; have p18 := cellB E1.out.a 18; have p19 := cellB E1.out.a 19; have p20 := cellB E1.out.a 20; have p21 := cellB E1.out.a 21; have p22 := cellB E1.out.a 22; have p23 := cellB E1.out.a 23; have p24 := cellB E1.out.a 24; have p25 := cellB E1.out.a 25; have p26 := cellB E1.out.a 26; have p27 := cellB E1.out.a 27; have p28 := cellB E1.out.a 28; have p29 := cellB E1.out.a 29; have p30 := cellB E1.out.a 30; have p31 := cellB E1.out.a 31; have p32 := cellB E1.out.a 32; have p33 := cellB E1.out.a 33) | (go_at_call 16; refine (LawLedger.sz_ledger a25 c25 len25 m1 _ hn25 (by omega) (by omega)).mono ?_; rintro e w2 ⟨rfl, hb2⟩; have E2 : Hid (Sz w w2 #[.int .i64 x0, .int .i64 x1, .int .i64 x2, .int .i64 x3, .int .i64 x4, .int .i64 x5, .int .i64 x6, .int .i64 x7, .int .i64 x8, .int .i64 x9, .int .i64 x10, .int .i64 x11, .int .i64 x12, .int .i64 x13, .int .i64 x14, .int .i64 x15, .int .i64 x16, .int .i64 x17, .int .i64 x18, .int .i64 x19, .int .i64 x20, .int .i64 x21, .int .i64 x22, .int .i64 x23, .slice a24 len24 c24, .slice a25 len25 c25, .int .i64 x26, .slice a27 len27 c27, .slice a28 len28 c28, .int .i64 x29, .int .i64 x30, .int .i64 x31, .int .i64 x32, .slice a33 len33 c33] 75) := E1.out.next hb2; clear hb2 E1 p0 p1 p2 p3 p4 p5 p6 p7 p8 p9 p10 p11 p12 p13 p14 p15 p16 p17 p18 p19 p20 p21 p22 p23 p24 p25 p26 p27 p28 p29 p30 p31 p32 p33; rw [if_pos s1, hm2]; have p0 := cellB E2.out.a 0; have p1 := cellB E2.out.a 1; have p2 := cellB E2.out.a 2; have p3 := cellB E2.out.a 3; have p4 := cellB E2.out.a 4; have p5 := cellB E2.out.a 5; have p6 := cellB E2.out.a 6; have p7 := cellB E2.out.a 7; have p8 := cellB E2.out.a 8; have p9 := cellB E2.out.a 9; have p10 := cellB E2.out.a 10; have p11 := cellB E2.out.a 11; have p12 := cellB E2.out.a 12; have p13 := cellB E2.out.a 13; have p14 := cellB E2.out.a 14; have p15 := cellB E2.out.a 15; have p16 := cellB E2.out.a 16; have p17 := cellB E2.out.a 17; have p18 := cellB E2.out.a 18; have p19 := cellB E2.out.a 19; have p20 := cellB E2.out.a 20; have p21 := cellB E2.out.a 21; have p22 := cellB E2.out.a 22; have p23 := cellB E2.out.a 23; have p24 := cellB E2.out.a 24; have p25 := cellB E2.out.a 25; have p26 := cellB E2.out.a 26; have p27 := cellB E2.out.a 27; have p28 := cellB E2.out.a 28; have p29 := cellB E2.out.a 29; have p30 := cellB E2.out.a 30; have p31 := cellB E2.out.a 31; have p32 := cellB E2.out.a 32; have p33 := cellB E2.out.a 33) | (go_at_call 60; refine (LawQueue.sz_queue x26 a27 c27 len27 m2 _ hn27 (by omega) (by omega)).mono ?_; rintro e w3 ⟨rfl, hb3⟩; have E3 : Hid (Sz w w3 #[.int .i64 x0, .int .i64 x1, .int .i64 x2, .int .i64 x3, .int .i64 x4, .int .i64 x5, .int .i64 x6, .int .i64 x7, .int .i64 x8, .int .i64 x9, .int .i64 x10, .int .i64 x11, .int .i64 x12, .int .i64 x13, .int .i64 x14, .int .i64 x15, .int .i64 x16, .int .i64 x17, .int .i64 x18, .int .i64 x19, .int .i64 x20, .int .i64 x21, .int .i64 x22, .int .i64 x23, .slice a24 len24 c24, .slice a25 len25 c25, .int .i64 x26, .slice a27 len27 c27, .slice a28 len28 c28, .int .i64 x29, .int .i64 x30, .int .i64 x31, .int .i64 x32, .slice a33 len33 c33] 75) := E2.out.next hb3; clear hb3 E2 p0 p1 p2 p3 p4 p5 p6 p7 p8 p9 p10 p11 p12 p13 p14 p15 p16 p17 p18 p19 p20 p21 p22 p23 p24 p25 p26 p27 p28 p29 p30 p31 p32 p33; rw [if_neg (by omega)]))
        go_ret
        exact ⟨rfl, E3.out.bel⟩
    · rw [if_neg (by omega)]
      go_enter Try.func25, Try.ntmps25
      go_wp2_with (first | (go_at_call 59; refine (LawLim.sz_lim x15 x16 x17 x18 x19 x20 x21 x22 x23 a24 c24 len24 k _ hn24 (by omega) (by omega)).mono ?_; rintro e w1 ⟨rfl, hb1⟩; have E1 : Hid (Sz w w1 #[.int .i64 x0, .int .i64 x1, .int .i64 x2, .int .i64 x3, .int .i64 x4, .int .i64 x5, .int .i64 x6, .int .i64 x7, .int .i64 x8, .int .i64 x9, .int .i64 x10, .int .i64 x11, .int .i64 x12, .int .i64 x13, .int .i64 x14, .int .i64 x15, .int .i64 x16, .int .i64 x17, .int .i64 x18, .int .i64 x19, .int .i64 x20, .int .i64 x21, .int .i64 x22, .int .i64 x23, .slice a24 len24 c24, .slice a25 len25 c25, .int .i64 x26, .slice a27 len27 c27, .slice a28 len28 c28, .int .i64 x29, .int .i64 x30, .int .i64 x31, .int .i64 x32, .slice a33 len33 c33] 75) := E0.out.next hb1; clear hb1 E0; rw [if_pos s0, hm1]; have p0 := cellB E1.out.a 0; have p1 := cellB E1.out.a 1; have p2 := cellB E1.out.a 2; have p3 := cellB E1.out.a 3; have p4 := cellB E1.out.a 4; have p5 := cellB E1.out.a 5; have p6 := cellB E1.out.a 6; have p7 := cellB E1.out.a 7; have p8 := cellB E1.out.a 8; have p9 := cellB E1.out.a 9; have p10 := cellB E1.out.a 10; have p11 := cellB E1.out.a 11; have p12 := cellB E1.out.a 12; have p13 := cellB E1.out.a 13; have p14 := cellB E1.out.a 14; have p15 := cellB E1.out.a 15; have p16 := cellB E1.out.a 16; have p17 := cellB E1.out.a 17; have p18 := cellB E1.out.a 18; have p19 := cellB E1.out.a 19; have p20 := cellB E1.out.a 20; have p21 := cellB E1.out.a 21; have p22 := cellB E1.out.a 22; have p23 := cellB E1.out.a 23; have p24 := cellB E1.out.a 24; have p25 := cellB E1.out.a 25; have p26 := cellB E1.out.a 26; have p27 := cellB E1.out.a 27; have p28 := cellB E1.out.a 28; have p29 := cellB E1.out.a 29; have p30 := cellB E1.out.a 30; have p31 := cellB E1.out.a 31; have p32 := cellB E1.out.a 32; have p33 := cellB E1.out.a 33) | (go_at_call 16; refine (LawLedger.sz_ledger a25 c25 len25 m1 _ hn25 (by omega) (by omega)).mono ?_; rintro e w2 ⟨rfl, hb2⟩; have E2 : Hid (Sz w w2 #[.int .i64 x0, .int .i64 x1, .int .i64 x2, .int .i64 x3, .int .i64 x4, .int .i64 x5, .int .i64 x6, .int .i64 x7, .int .i64 x8, .int .i64 x9, .int .i64 x10, .int .i64 x11, .int .i64 x12, .int .i64 x13, .int .i64 x14, .int .i64 x15, .int .i64 x16, .int .i64 x17, .int .i64 x18, .int .i64 x19, .int .i64 x20, .int .i64 x21, .int .i64 x22, .int .i64 x23, .slice a24 len24 c24, .slice a25 len25 c25, .int .i64 x26, .slice a27 len27 c27, .slice a28 len28 c28, .int .i64 x29, .int .i64 x30, .int .i64 x31, .int .i64 x32, .slice a33 len33 c33] 75) := E1.out.next hb2; clear hb2 E1 p0 p1 p2 p3 p4 p5 p6 p7 p8 p9 p10 p11 p12 p13 p14 p15 p16 p17 p18 p19 p20 p21 p22 p23 p24 p25 p26 p27 p28 p29 p30 p31 p32 p33; rw [if_neg (by omega)]))
      go_ret
      exact ⟨rfl, E2.out.bel⟩
  · rw [if_neg (by omega)]
    go_enter Try.func25, Try.ntmps25
    go_wp2_with (first | (go_at_call 59; refine (LawLim.sz_lim x15 x16 x17 x18 x19 x20 x21 x22 x23 a24 c24 len24 k _ hn24 (by omega) (by omega)).mono ?_; rintro e w1 ⟨rfl, hb1⟩; have E1 : Hid (Sz w w1 #[.int .i64 x0, .int .i64 x1, .int .i64 x2, .int .i64 x3, .int .i64 x4, .int .i64 x5, .int .i64 x6, .int .i64 x7, .int .i64 x8, .int .i64 x9, .int .i64 x10, .int .i64 x11, .int .i64 x12, .int .i64 x13, .int .i64 x14, .int .i64 x15, .int .i64 x16, .int .i64 x17, .int .i64 x18, .int .i64 x19, .int .i64 x20, .int .i64 x21, .int .i64 x22, .int .i64 x23, .slice a24 len24 c24, .slice a25 len25 c25, .int .i64 x26, .slice a27 len27 c27, .slice a28 len28 c28, .int .i64 x29, .int .i64 x30, .int .i64 x31, .int .i64 x32, .slice a33 len33 c33] 75) := E0.out.next hb1; clear hb1 E0; rw [if_neg (by omega)]))
    go_ret
    exact ⟨rfl, E1.out.bel⟩
end Go.Proofs.Ytnabnghjejncpaa.LawAdm
