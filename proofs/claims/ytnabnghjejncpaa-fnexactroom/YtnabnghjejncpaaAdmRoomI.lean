/- What the program's Room answers, at every machine; nothing that was there turns; no condition but those written in each. -/
import Derived.Test.YtnabnghjejncpaaRows
import Derived.WalkKit
import Derived.WalkSmall
import Derived.BigQuiet
import Derived.Deep.RegionWith
import Derived.Deep.DeepCutAuto
import Derived.Test.YtnabnghjejncpaaListKit
import Derived.Test.YtnabnghjejncpaaHoldKit
import Derived.Test.YtnabnghjejncpaaBigBox
import Derived.Test.YtnabnghjejncpaaSlotKit
import Derived.Test.YtnabnghjejncpaaLedCount
import Derived.Test.YtnabnghjejncpaaAdmPure
import Derived.Test.YtnabnghjejncpaaAdmMach
namespace Go.Proofs.Ytnabnghjejncpaa.AdmRoomI
open Go.RowKit ListKit HoldKit BigBox AdmPure AdmMach
set_option maxRecDepth 8000
set_option linter.unusedVariables false
set_option linter.unusedSimpArgs false

set_option maxHeartbeats 2000000 in
theorem impl_mroom (ms : List Value) (x : Int) (a : Option Addr) (c : Nat) (L : List SlotKit.Slot) (w : World) (hx : -9223372036854775808 ≤ x ∧ x ≤ 9223372036854775807) (h19 : ms[19]? = some (.int .i64 x)) (h24 : ms[24]? = some (.slice a L.length c)) (h : Own 105 5 SlotKit.cells w a L) (hl : (L.length : Int) ≤ 1048577) :
    Calls Try.prog 74 #[.agg ms.toArray] w fun e w' => e = .returned (.int .i64 (roomI x (LedCount.cnt LedCount.isUsed L L.length : Int))) ∧ Below w.heap.size w w' := by
  have hcn : LedCount.cnt LedCount.isUsed L L.length ≤ L.length := LedCount.cnt_le _ _ _
  have c19 : (w.alloc (.cells ms.toArray 123)).cell? ⟨w.heap.size, 19, none⟩ = some (.int .i64 x) := by rw [(boxB.new w ms.toArray 123).cell 19]; simpa using h19
  have c24 : (w.alloc (.cells ms.toArray 123)).cell? ⟨w.heap.size, 24, none⟩ = some (.slice a L.length c) := by rw [(boxB.new w ms.toArray 123).cell 24]; simpa using h24
  have HF := LedCount.impl_flying a c L (w.alloc (.cells ms.toArray 123)) (h.below (n1 _ _)) hl
  have H0 : Hid (Below w.heap.size w (w.alloc (.cells ms.toArray 123)) ∧ boxB (w.alloc (.cells ms.toArray 123)) w.heap.size ms.toArray 123 ∧ ms[19]? = some (.int .i64 x)) := ⟨n1 _ _, boxB.new _ _ _, h19⟩
  obtain ⟨f, hf⟩ : ∃ f : Nat, LedCount.cnt LedCount.isUsed L L.length = f := ⟨_, rfl⟩
  rw [hf] at HF hcn ⊢
  have hfi : (f : Int) ≤ 1048577 := by omega
  obtain ⟨M, hM⟩ : ∃ M : Int, M = if (f : Int) > x then (f : Int) else x := ⟨_, rfl⟩
  have HM : Hid (∀ (P : Program) (v : World) (ts : Array TypeId) (t : TypeId), (Builtin.max_ ts t #[.int .i64 x, .int .i64 (f : Int)]).run P v = .ok (.int .i64 M) v) := fun P v ts t => by rw [hM]; simp [Builtin.max_, Builtin.max2]
  have hw : IntKind.i64.wrap (M - (f : Int)) = roomI x (f : Int) := by
    rw [IntKind.wrap_i64, hM]
    unfold roomI
    split <;> split <;> omega
  obtain ⟨R, hR⟩ : ∃ R, roomI x (f : Int) = R := ⟨_, rfl⟩
  rw [hR] at hw ⊢
  clear h h19 h24 hl hcn hf hfi hM hR hx
  go_enter Try.func74, Try.ntmps74
  go_upto_region 2 with (go_at_call 101; refine HF.mono ?_; rintro e w1 ⟨rfl, hb⟩; have H1 : Hid (Below w.heap.size w w1 ∧ boxB w1 w.heap.size ms.toArray 123) := ⟨H0.out.1.trans (hb.mono H0.out.1.size), H0.out.2.1.below hb⟩; clear hb HF c19 c24)
  have c19 : w1.cell? ⟨w.heap.size, 19, none⟩ = some (.int .i64 x) := by rw [H1.out.2.cell 19]; simpa using H0.out.2.2
  have hm := HM.out
  clear H0 HM
  go_wp2
  go_ret
  exact ⟨rfl, H1.out.1⟩
set_option maxHeartbeats 4000000 in
theorem impl_room (x0 x1 x2 x3 x4 x5 x6 x7 x8 x9 x10 x11 x12 x13 x14 x15 x16 x17 x18 x19 x20 x21 x22 x23 x26 x29 x30 x31 x32 : Int) (a24 a25 a27 a28 a33 : Option Addr) (n24 c24 n27 c27 n28 c28 n33 c33 c25 : Nat) (L : List SlotKit.Slot) (w : World) (hx : -9223372036854775808 ≤ x20 ∧ x20 ≤ 9223372036854775807) (h : Own 105 5 SlotKit.cells w a25 L) (hl : (L.length : Int) ≤ 1048577) :
    Calls Try.prog 30 #[.agg #[.int .i64 x0, .int .i64 x1, .int .i64 x2, .int .i64 x3, .int .i64 x4, .int .i64 x5, .int .i64 x6, .int .i64 x7, .int .i64 x8, .int .i64 x9, .int .i64 x10, .int .i64 x11, .int .i64 x12, .int .i64 x13, .int .i64 x14, .int .i64 x15, .int .i64 x16, .int .i64 x17, .int .i64 x18, .int .i64 x19, .int .i64 x20, .int .i64 x21, .int .i64 x22, .int .i64 x23, .slice a24 n24 c24, .slice a25 L.length c25, .int .i64 x26, .slice a27 n27 c27, .slice a28 n28 c28, .int .i64 x29, .int .i64 x30, .int .i64 x31, .int .i64 x32, .slice a33 n33 c33]] w fun e w' => e = .returned (.int .i64 (roomI x20 (LedCount.cnt LedCount.isUsed L L.length : Int))) ∧ Below w.heap.size w w' := by
  have H0 : Hid (boxB (w.alloc (.cells #[.int .i64 x0, .int .i64 x1, .int .i64 x2, .int .i64 x3, .int .i64 x4, .int .i64 x5, .int .i64 x6, .int .i64 x7, .int .i64 x8, .int .i64 x9, .int .i64 x10, .int .i64 x11, .int .i64 x12, .int .i64 x13, .int .i64 x14, .int .i64 x15, .int .i64 x16, .int .i64 x17, .int .i64 x18, .int .i64 x19, .int .i64 x20, .int .i64 x21, .int .i64 x22, .int .i64 x23, .slice a24 n24 c24, .slice a25 L.length c25, .int .i64 x26, .slice a27 n27 c27, .slice a28 n28 c28, .int .i64 x29, .int .i64 x30, .int .i64 x31, .int .i64 x32, .slice a33 n33 c33] 48)) w.heap.size #[.int .i64 x0, .int .i64 x1, .int .i64 x2, .int .i64 x3, .int .i64 x4, .int .i64 x5, .int .i64 x6, .int .i64 x7, .int .i64 x8, .int .i64 x9, .int .i64 x10, .int .i64 x11, .int .i64 x12, .int .i64 x13, .int .i64 x14, .int .i64 x15, .int .i64 x16, .int .i64 x17, .int .i64 x18, .int .i64 x19, .int .i64 x20, .int .i64 x21, .int .i64 x22, .int .i64 x23, .slice a24 n24 c24, .slice a25 L.length c25, .int .i64 x26, .slice a27 n27 c27, .slice a28 n28 c28, .int .i64 x29, .int .i64 x30, .int .i64 x31, .int .i64 x32, .slice a33 n33 c33] 48 ∧ (Own 105 5 SlotKit.cells (w.alloc (.cells #[.int .i64 x0, .int .i64 x1, .int .i64 x2, .int .i64 x3, .int .i64 x4, .int .i64 x5, .int .i64 x6, .int .i64 x7, .int .i64 x8, .int .i64 x9, .int .i64 x10, .int .i64 x11, .int .i64 x12, .int .i64 x13, .int .i64 x14, .int .i64 x15, .int .i64 x16, .int .i64 x17, .int .i64 x18, .int .i64 x19, .int .i64 x20, .int .i64 x21, .int .i64 x22, .int .i64 x23, .slice a24 n24 c24, .slice a25 L.length c25, .int .i64 x26, .slice a27 n27 c27, .slice a28 n28 c28, .int .i64 x29, .int .i64 x30, .int .i64 x31, .int .i64 x32, .slice a33 n33 c33] 48)) a25 L ∧ Below w.heap.size w (w.alloc (.cells #[.int .i64 x0, .int .i64 x1, .int .i64 x2, .int .i64 x3, .int .i64 x4, .int .i64 x5, .int .i64 x6, .int .i64 x7, .int .i64 x8, .int .i64 x9, .int .i64 x10, .int .i64 x11, .int .i64 x12, .int .i64 x13, .int .i64 x14, .int .i64 x15, .int .i64 x16, .int .i64 x17, .int .i64 x18, .int .i64 x19, .int .i64 x20, .int .i64 x21, .int .i64 x22, .int .i64 x23, .slice a24 n24 c24, .slice a25 L.length c25, .int .i64 x26, .slice a27 n27 c27, .slice a28 n28 c28, .int .i64 x29, .int .i64 x30, .int .i64 x31, .int .i64 x32, .slice a33 n33 c33] 48)))) := ⟨boxB.new _ _ _, h.below (n1 _ _), n1 _ _⟩
  have HM := fun W => impl_machine x0 x1 x2 x3 x4 x5 x6 x7 x8 x9 x10 x11 x12 x13 x14 x15 x16 x17 x18 x19 x20 x21 x22 x23 x26 x29 x30 x31 x32 a24 a25 a27 a28 a33 n24 c24 L.length c25 n27 c27 n28 c28 n33 c33 W
  obtain ⟨ms, hms⟩ : ∃ ms : List Value, #[.int .i64 x0, .int .i64 x1, .int .i64 x2, .int .i64 x3, .int .i64 x4, .int .i64 x5, .int .i64 x6, .int .i64 x7, .int .i64 x8, .int .i64 x9, .int .i64 x10, .int .i64 x11, .int .i64 x12, .int .i64 x13, .int .i64 x15, .int .i64 x16, .int .i64 x17, .int .i64 x18, .int .i64 x19, .int .i64 x20, .int .i64 x21, .int .i64 x22, .int .i64 x23, .slice a24 n24 c24, .slice a25 L.length c25, .int .i64 x26, .slice a27 n27 c27, .int .i64 x29, .int .i64 x30, .int .i64 x31, .int .i64 x32, .slice a33 n33 c33, .int .i64 x14] = ms.toArray := ⟨[.int .i64 x0, .int .i64 x1, .int .i64 x2, .int .i64 x3, .int .i64 x4, .int .i64 x5, .int .i64 x6, .int .i64 x7, .int .i64 x8, .int .i64 x9, .int .i64 x10, .int .i64 x11, .int .i64 x12, .int .i64 x13, .int .i64 x15, .int .i64 x16, .int .i64 x17, .int .i64 x18, .int .i64 x19, .int .i64 x20, .int .i64 x21, .int .i64 x22, .int .i64 x23, .slice a24 n24 c24, .slice a25 L.length c25, .int .i64 x26, .slice a27 n27 c27, .int .i64 x29, .int .i64 x30, .int .i64 x31, .int .i64 x32, .slice a33 n33 c33, .int .i64 x14], rfl⟩
  have e19 : ms[19]? = some (.int .i64 x20) := by rw [← List.getElem?_toArray, ← hms]; rfl
  have e24 : ms[24]? = some (.slice a25 L.length c25) := by rw [← List.getElem?_toArray, ← hms]; rfl
  rw [hms] at HM
  have HR := fun W (hh : Own 105 5 SlotKit.cells W a25 L) => impl_mroom ms x20 a25 c25 L W hx e19 e24 hh hl
  have R0 : Hid ((w.alloc (.cells #[.int .i64 x0, .int .i64 x1, .int .i64 x2, .int .i64 x3, .int .i64 x4, .int .i64 x5, .int .i64 x6, .int .i64 x7, .int .i64 x8, .int .i64 x9, .int .i64 x10, .int .i64 x11, .int .i64 x12, .int .i64 x13, .int .i64 x14, .int .i64 x15, .int .i64 x16, .int .i64 x17, .int .i64 x18, .int .i64 x19, .int .i64 x20, .int .i64 x21, .int .i64 x22, .int .i64 x23, .slice a24 n24 c24, .slice a25 L.length c25, .int .i64 x26, .slice a27 n27 c27, .slice a28 n28 c28, .int .i64 x29, .int .i64 x30, .int .i64 x31, .int .i64 x32, .slice a33 n33 c33] 48)).rangeAt w.heap.size 0 [.int .i64 x0, .int .i64 x1, .int .i64 x2, .int .i64 x3, .int .i64 x4, .int .i64 x5, .int .i64 x6, .int .i64 x7, .int .i64 x8, .int .i64 x9, .int .i64 x10, .int .i64 x11, .int .i64 x12, .int .i64 x13, .int .i64 x14, .int .i64 x15, .int .i64 x16, .int .i64 x17, .int .i64 x18, .int .i64 x19, .int .i64 x20, .int .i64 x21, .int .i64 x22, .int .i64 x23, .slice a24 n24 c24, .slice a25 L.length c25, .int .i64 x26, .slice a27 n27 c27, .slice a28 n28 c28, .int .i64 x29, .int .i64 x30, .int .i64 x31, .int .i64 x32, .slice a33 n33 c33]) := range_of_box H0.out.1 0 _ rfl
  have i0 : Hid ((Try.prog.info? 48).map (·.size) = some 34) := by show _ = _; kernel_rfl
  obtain ⟨R, hR⟩ : ∃ R, roomI x20 (LedCount.cnt LedCount.isUsed L L.length : Int) = R := ⟨_, rfl⟩
  rw [hR] at HR ⊢
  clear e19 e24 hms hx hl h hR
  go_enter Try.func30, Try.ntmps30
  go_upto_region 1 with fail
  generalize (w.alloc (.cells #[.int .i64 x0, .int .i64 x1, .int .i64 x2, .int .i64 x3, .int .i64 x4, .int .i64 x5, .int .i64 x6, .int .i64 x7, .int .i64 x8, .int .i64 x9, .int .i64 x10, .int .i64 x11, .int .i64 x12, .int .i64 x13, .int .i64 x14, .int .i64 x15, .int .i64 x16, .int .i64 x17, .int .i64 x18, .int .i64 x19, .int .i64 x20, .int .i64 x21, .int .i64 x22, .int .i64 x23, .slice a24 n24 c24, .slice a25 L.length c25, .int .i64 x26, .slice a27 n27 c27, .slice a28 n28 c28, .int .i64 x29, .int .i64 x30, .int .i64 x31, .int .i64 x32, .slice a33 n33 c33] 48)) = v at *
  go_wp2_with (first | (refine wpList_load_mid rfl 48 _ rfl w.heap.size 0 rfl [.int .i64 x0, .int .i64 x1, .int .i64 x2, .int .i64 x3, .int .i64 x4, .int .i64 x5, .int .i64 x6, .int .i64 x7, .int .i64 x8, .int .i64 x9, .int .i64 x10, .int .i64 x11, .int .i64 x12, .int .i64 x13, .int .i64 x14, .int .i64 x15, .int .i64 x16, .int .i64 x17, .int .i64 x18, .int .i64 x19, .int .i64 x20, .int .i64 x21, .int .i64 x22, .int .i64 x23, .slice a24 n24 c24, .slice a25 L.length c25, .int .i64 x26, .slice a27 n27 c27, .slice a28 n28 c28, .int .i64 x29, .int .i64 x30, .int .i64 x31, .int .i64 x32, .slice a33 n33 c33] _ R0.out Try.underlying48 rfl i0.out ?_) | (go_at_call 73; refine (HM _).mono ?_; rintro e w1 ⟨rfl, hb⟩; have H1 : Hid ((Own 105 5 SlotKit.cells w1 a25 L ∧ Below w.heap.size w w1)) := ⟨H0.out.2.1.below hb, H0.out.2.2.trans (hb.mono H0.out.2.2.size)⟩; clear hb HM H0 R0) | (go_at_call 74; refine (HR _ H1.out.1).mono ?_; rintro e w2 ⟨rfl, hb⟩; have H2 : Hid (Below w.heap.size w w2) := H1.out.2.trans (hb.mono H1.out.2.size); clear hb HR))
  go_ret
  exact ⟨rfl, H2.out⟩
end Go.Proofs.Ytnabnghjejncpaa.AdmRoomI
