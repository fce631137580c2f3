/- Whether one flies, may wait, may fly, by the program; nothing that was there turns; no condition but those written in each. -/
import Derived.Test.YtnabnghjejncpaaGreatRows
import Derived.WalkKit
import Derived.WalkSmall
import Derived.BigQuiet
import Derived.Deep.RegionWith
import Derived.Deep.DeepCutAuto
import Derived.Test.YtnabnghjejncpaaGreatListKit
import Derived.Test.YtnabnghjejncpaaGreatHoldKit
import Derived.Test.YtnabnghjejncpaaGreatIntKit
import Derived.Test.YtnabnghjejncpaaGreatSlotKit
import Derived.Test.YtnabnghjejncpaaGreatLedFind
import Derived.Test.YtnabnghjejncpaaGreatAdmKnownP
import Derived.Test.YtnabnghjejncpaaGreatAdmComI
namespace Go.Proofs.YtnabnghjejncpaaGreat.AdmWaitI
open Go.RowKit ListKit HoldKit AdmKnownP
set_option maxRecDepth 8000
set_option linter.unusedVariables false
set_option linter.unusedSimpArgs false

/-- A slot of this request flies. -/
def flies (S : List SlotKit.Slot) (id : Int) : Prop := ∃ (j : Nat) (h : j < S.length), S[j].x1 = true ∧ S[j].x2 = id
set_option maxHeartbeats 2000000 in
theorem impl_flies (a : Option Addr) (c : Nat) (L : List SlotKit.Slot) (id : Int) (B : Bool) (w : World) (h : Own 75 5 SlotKit.cells w a L) (hl : L.length ≤ 1048577) (HB : Hid (B = true ↔ flies L id)) :
    Calls Tryz.prog 99 #[.agg #[.slice a L.length c], .int .i64 id] w fun e w' => e = .returned (.bool B) ∧ Below w.heap.size w w' := by
  obtain ⟨r, hr⟩ := LedFind.at_ex (LedFind.isOf id) L
  have H := LedFind.place_of a c L id r (w.alloc (.cells #[.slice a L.length c] 55)) (h.below (n1 _ _)) (by omega) hr
  have hB : decide (0 ≤ r) = B := by
    rw [Bool.eq_iff_iff, HB.out, decide_eq_true_iff]
    rcases hr with ⟨rfl, hno⟩ | ⟨k, rfl, hk, hy, _⟩
    · constructor
      · intro h; omega
      · rintro ⟨j, hj, h1, h2⟩
        have := hno j hj
        unfold LedFind.isOf at this
        rw [h1, h2] at this
        simp at this
    · constructor
      · intro _
        unfold LedFind.isOf at hy
        simp at hy
        exact ⟨k, hk, hy.1, hy.2⟩
      · intro _; omega
  have H0 : Hid (Below w.heap.size w (w.alloc (.cells #[.slice a L.length c] 55))) := n1 _ _
  clear h HB hr
  go_enter Tryz.func99, Tryz.ntmps99
  go_wp2_with (go_at_call 93; refine H.mono ?_; rintro e w1 ⟨rfl, hb⟩; have H1 : Hid (Below w.heap.size w w1) := H0.out.trans (hb.mono H0.out.size); clear hb H H0)
  go_ret
  exact ⟨rfl, H1.out⟩
set_option maxHeartbeats 4000000 in
theorem impl_wait (ms : List Value) (y0 y1 y2 y3 y4 y5 : Int) (tiers now : Int) (a33 : Option Addr) (c33 : Nat) (K : List Int) (a25 : Option Addr) (c25 : Nat) (S : List SlotKit.Slot) (B : Bool) (w : World) (e7 : ms[7]? = some (.int .i64 tiers)) (e24 : ms[24]? = some (.slice a25 S.length c25)) (e31 : ms[31]? = some (.slice a33 K.length c33)) (e32 : ms[32]? = some (.int .i64 now)) (h33 : Own 3 1 IntKit.cells w a33 K) (h25 : Own 75 5 SlotKit.cells w a25 S) (lk : K.length ≤ 1048577) (ls : S.length ≤ 1048577) (hk : knownOk K) (HB : Hid (B = true ↔ y1 < tiers ∧ y0 ∈ K ∧ ¬ flies S y0 ∧ y4 ≤ now)) :
    Calls Tryz.prog 66 #[.agg ms.toArray, .agg #[.int .i64 y0, .int .i64 y1, .int .i64 y2, .int .i64 y3, .int .i64 y4, .int .i64 y5]] w fun e w' => e = .returned (.bool B) ∧ Below w.heap.size w w' := by
  have E7 : Hid (ms.toArray[7]? = some (.int .i64 tiers)) := by show _ = _; simpa using e7
  have E24 : Hid (ms.toArray[24]? = some (.slice a25 S.length c25)) := by show _ = _; simpa using e24
  have E31 : Hid (ms.toArray[31]? = some (.slice a33 K.length c33)) := by show _ = _; simpa using e31
  have E32 : Hid (ms.toArray[32]? = some (.int .i64 now)) := by show _ = _; simpa using e32
  have H0 : Hid (boxB ((w.alloc (.cells ms.toArray 89)).alloc (.cells #[.int .i64 y0, .int .i64 y1, .int .i64 y2, .int .i64 y3, .int .i64 y4, .int .i64 y5] 72)) w.heap.size ms.toArray 89 ∧ boxB ((w.alloc (.cells ms.toArray 89)).alloc (.cells #[.int .i64 y0, .int .i64 y1, .int .i64 y2, .int .i64 y3, .int .i64 y4, .int .i64 y5] 72)) (w.heap.size + 1) #[.int .i64 y0, .int .i64 y1, .int .i64 y2, .int .i64 y3, .int .i64 y4, .int .i64 y5] 72 ∧ Own 3 1 IntKit.cells ((w.alloc (.cells ms.toArray 89)).alloc (.cells #[.int .i64 y0, .int .i64 y1, .int .i64 y2, .int .i64 y3, .int .i64 y4, .int .i64 y5] 72)) a33 K ∧ Own 75 5 SlotKit.cells ((w.alloc (.cells ms.toArray 89)).alloc (.cells #[.int .i64 y0, .int .i64 y1, .int .i64 y2, .int .i64 y3, .int .i64 y4, .int .i64 y5] 72)) a25 S ∧ Below w.heap.size w ((w.alloc (.cells ms.toArray 89)).alloc (.cells #[.int .i64 y0, .int .i64 y1, .int .i64 y2, .int .i64 y3, .int .i64 y4, .int .i64 y5] 72))) := ⟨(boxB.new _ _ _).below (n1 _ _), new2 _ _ _ _, h33.below (n2 _ _ _), h25.below (n2 _ _ _), n2 _ _ _⟩
  obtain ⟨b1, hb1⟩ : ∃ b : Bool, b = true ↔ y0 ∈ K := ⟨decide _, decide_eq_true_iff⟩
  have P1 : Hid (b1 = true ↔ y0 ∈ K) := hb1
  have HK := fun W h => AdmComI.impl_has a33 c33 K y0 b1 W h lk hk P1
  obtain ⟨b2, hb2⟩ : ∃ b : Bool, b = true ↔ flies S y0 := ⟨@decide _ (Classical.propDecidable _), @decide_eq_true_iff _ (Classical.propDecidable _)⟩
  have P2 : Hid (b2 = true ↔ flies S y0) := hb2
  have HF := fun W h => impl_flies a25 c25 S y0 b2 W h ls P2
  clear hb2
  clear hb1 e7 e24 e31 e32 h33 h25 lk ls hk
  go_enter Tryz.func66, Tryz.ntmps66
  go_upto_region 1 with fail
  generalize ((w.alloc (.cells ms.toArray 89)).alloc (.cells #[.int .i64 y0, .int .i64 y1, .int .i64 y2, .int .i64 y3, .int .i64 y4, .int .i64 y5] 72)) = v at *
  have HKEEP : ∀ W1 {W2 : World}, (boxB W1 w.heap.size ms.toArray 89 ∧ boxB W1 (w.heap.size + 1) #[.int .i64 y0, .int .i64 y1, .int .i64 y2, .int .i64 y3, .int .i64 y4, .int .i64 y5] 72 ∧ Own 3 1 IntKit.cells W1 a33 K ∧ Own 75 5 SlotKit.cells W1 a25 S ∧ Below w.heap.size w W1) → Below W1.heap.size W1 W2 → (boxB W2 w.heap.size ms.toArray 89 ∧ boxB W2 (w.heap.size + 1) #[.int .i64 y0, .int .i64 y1, .int .i64 y2, .int .i64 y3, .int .i64 y4, .int .i64 y5] 72 ∧ Own 3 1 IntKit.cells W2 a33 K ∧ Own 75 5 SlotKit.cells W2 a25 S ∧ Below w.heap.size w W2) := fun W1 W2 h hb => ⟨h.1.below hb, h.2.1.below hb, h.2.2.1.below hb, h.2.2.2.1.below hb, h.2.2.2.2.trans (hb.mono h.2.2.2.2.size)⟩
  have m7 := H0.out.1.cell 7
  rw [E7.out] at m7
  have m24 := H0.out.1.cell 24
  rw [E24.out] at m24
  have m31 := H0.out.1.cell 31
  rw [E31.out] at m31
  have m32 := H0.out.1.cell 32
  rw [E32.out] at m32
  have z0 := H0.out.2.1.cell 0
  have z1 := H0.out.2.1.cell 1
  have z4 := H0.out.2.1.cell 4
  by_cases t1 : y1 < tiers
  · have s1 : decide (y1 < tiers) = true := by simpa using t1
    cases b1 with
    | false =>
      obtain rfl : B = false := by
        cases B with
        | false => rfl
        | true =>
          have h := HB.out.1 rfl
          have := P1.out.2 h.2.1; cases this
      go_wp2_with (first | (go_at_call 98; refine (HK _ H0.out.2.2.1).mono ?_; rintro e w1 ⟨rfl, hb⟩; have H9 := HKEEP _ H0.out hb; clear hb H0 m7 m24 m31 m32 z0 z1 z4; have H0 : Hid _ := H9; clear H9; have m7 := H0.out.1.cell 7; rw [E7.out] at m7; have m24 := H0.out.1.cell 24; rw [E24.out] at m24; have m31 := H0.out.1.cell 31; rw [E31.out] at m31; have m32 := H0.out.1.cell 32; rw [E32.out] at m32; have z0 := H0.out.2.1.cell 0; have z1 := H0.out.2.1.cell 1; have z4 := H0.out.2.1.cell 4) | (go_at_call 99; refine (HF _ H0.out.2.2.2.1).mono ?_; rintro e w2 ⟨rfl, hb⟩; have H9 := HKEEP _ H0.out hb; clear hb H0 m7 m24 m31 m32 z0 z1 z4; have H0 : Hid _ := H9; clear H9; have m7 := H0.out.1.cell 7; rw [E7.out] at m7; have m24 := H0.out.1.cell 24; rw [E24.out] at m24; have m31 := H0.out.1.cell 31; rw [E31.out] at m31; have m32 := H0.out.1.cell 32; rw [E32.out] at m32; have z0 := H0.out.2.1.cell 0; have z1 := H0.out.2.1.cell 1; have z4 := H0.out.2.1.cell 4))
      go_ret
      exact ⟨rfl, H0.out.2.2.2.2⟩
    | true =>
      cases b2 with
      | true =>
        obtain rfl : B = false := by
          cases B with
          | false => rfl
          | true =>
            have h := HB.out.1 rfl
            exact (h.2.2.1 (P2.out.1 rfl)).elim
        go_wp2_with (first | (go_at_call 98; refine (HK _ H0.out.2.2.1).mono ?_; rintro e w1 ⟨rfl, hb⟩; have H9 := HKEEP _ H0.out hb; clear hb H0 m7 m24 m31 m32 z0 z1 z4; have H0 : Hid _ := H9; clear H9; have m7 := H0.out.1.cell 7; rw [E7.out] at m7; have m24 := H0.out.1.cell 24; rw [E24.out] at m24; have m31 := H0.out.1.cell 31; rw [E31.out] at m31; have m32 := H0.out.1.cell 32; rw [E32.out] at m32; have z0 := H0.out.2.1.cell 0; have z1 := H0.out.2.1.cell 1; have z4 := H0.out.2.1.cell 4) | (go_at_call 99; refine (HF _ H0.out.2.2.2.1).mono ?_; rintro e w2 ⟨rfl, hb⟩; have H9 := HKEEP _ H0.out hb; clear hb H0 m7 m24 m31 m32 z0 z1 z4; have H0 : Hid _ := H9; clear H9; have m7 := H0.out.1.cell 7; rw [E7.out] at m7; have m24 := H0.out.1.cell 24; rw [E24.out] at m24; have m31 := H0.out.1.cell 31; rw [E31.out] at m31; have m32 := H0.out.1.cell 32; rw [E32.out] at m32; have z0 := H0.out.2.1.cell 0; have z1 := H0.out.2.1.cell 1; have z4 := H0.out.2.1.cell 4))
        go_ret
        exact ⟨rfl, H0.out.2.2.2.2⟩
      | false =>
        by_cases t2 : y4 ≤ now
        · have s2 : decide (y4 ≤ now) = true := by simpa using t2
          obtain rfl : B = true := HB.out.2 ⟨t1, P1.out.1 rfl, fun h => (by have := P2.out.2 h; cases this), t2⟩
          go_wp2_with (first | (go_at_call 98; refine (HK _ H0.out.2.2.1).mono ?_; rintro e w1 ⟨rfl, hb⟩; have H9 := HKEEP _ H0.out hb; clear hb H0 m7 m24 m31 m32 z0 z1 z4; have H0 : Hid _ := H9; clear H9; have m7 := H0.out.1.cell 7; rw [E7.out] at m7; have m24 := H0.out.1.cell 24; rw [E24.out] at m24; have m31 := H0.out.1.cell 31; rw [E31.out] at m31; have m32 := H0.out.1.cell 32; rw [E32.out] at m32; have z0 := H0.out.2.1.cell 0; have z1 := H0.out.2.1.cell 1; have z4 := H0.out.2.1.cell 4) | (go_at_call 99; refine (HF _ H0.out.2.2.2.1).mono ?_; rintro e w2 ⟨rfl, hb⟩; have H9 := HKEEP _ H0.out hb; clear hb H0 m7 m24 m31 m32 z0 z1 z4; have H0 : Hid _ := H9; clear H9; have m7 := H0.out.1.cell 7; rw [E7.out] at m7; have m24 := H0.out.1.cell 24; rw [E24.out] at m24; have m31 := H0.out.1.cell 31; rw [E31.out] at m31; have m32 := H0.out.1.cell 32; rw [E32.out] at m32; have z0 := H0.out.2.1.cell 0; have z1 := H0.out.2.1.cell 1; have z4 := H0.out.2.1.cell 4))
          go_ret
          exact ⟨rfl, H0.out.2.2.2.2⟩
        · have s2 : decide (y4 ≤ now) = false := by simpa using t2
          obtain rfl : B = false := by
            cases B with
            | false => rfl
            | true =>
              have h := HB.out.1 rfl
              exact (t2 h.2.2.2).elim
          go_wp2_with (first | (go_at_call 98; refine (HK _ H0.out.2.2.1).mono ?_; rintro e w1 ⟨rfl, hb⟩; have H9 := HKEEP _ H0.out hb; clear hb H0 m7 m24 m31 m32 z0 z1 z4; have H0 : Hid _ := H9; clear H9; have m7 := H0.out.1.cell 7; rw [E7.out] at m7; have m24 := H0.out.1.cell 24; rw [E24.out] at m24; have m31 := H0.out.1.cell 31; rw [E31.out] at m31; have m32 := H0.out.1.cell 32; rw [E32.out] at m32; have z0 := H0.out.2.1.cell 0; have z1 := H0.out.2.1.cell 1; have z4 := H0.out.2.1.cell 4) | (go_at_call 99; refine (HF _ H0.out.2.2.2.1).mono ?_; rintro e w2 ⟨rfl, hb⟩; have H9 := HKEEP _ H0.out hb; clear hb H0 m7 m24 m31 m32 z0 z1 z4; have H0 : Hid _ := H9; clear H9; have m7 := H0.out.1.cell 7; rw [E7.out] at m7; have m24 := H0.out.1.cell 24; rw [E24.out] at m24; have m31 := H0.out.1.cell 31; rw [E31.out] at m31; have m32 := H0.out.1.cell 32; rw [E32.out] at m32; have z0 := H0.out.2.1.cell 0; have z1 := H0.out.2.1.cell 1; have z4 := H0.out.2.1.cell 4))
          go_ret
          exact ⟨rfl, H0.out.2.2.2.2⟩
  · have s1 : decide (y1 < tiers) = false := by simpa using t1
    obtain rfl : B = false := by
      cases B with
      | false => rfl
      | true =>
        have h := HB.out.1 rfl
        exact (t1 h.1).elim
    go_wp2_with (first | (go_at_call 98; refine (HK _ H0.out.2.2.1).mono ?_; rintro e w1 ⟨rfl, hb⟩; have H9 := HKEEP _ H0.out hb; clear hb H0 m7 m24 m31 m32 z0 z1 z4; have H0 : Hid _ := H9; clear H9; have m7 := H0.out.1.cell 7; rw [E7.out] at m7; have m24 := H0.out.1.cell 24; rw [E24.out] at m24; have m31 := H0.out.1.cell 31; rw [E31.out] at m31; have m32 := H0.out.1.cell 32; rw [E32.out] at m32; have z0 := H0.out.2.1.cell 0; have z1 := H0.out.2.1.cell 1; have z4 := H0.out.2.1.cell 4) | (go_at_call 99; refine (HF _ H0.out.2.2.2.1).mono ?_; rintro e w2 ⟨rfl, hb⟩; have H9 := HKEEP _ H0.out hb; clear hb H0 m7 m24 m31 m32 z0 z1 z4; have H0 : Hid _ := H9; clear H9; have m7 := H0.out.1.cell 7; rw [E7.out] at m7; have m24 := H0.out.1.cell 24; rw [E24.out] at m24; have m31 := H0.out.1.cell 31; rw [E31.out] at m31; have m32 := H0.out.1.cell 32; rw [E32.out] at m32; have z0 := H0.out.2.1.cell 0; have z1 := H0.out.2.1.cell 1; have z4 := H0.out.2.1.cell 4))
    go_ret
    exact ⟨rfl, H0.out.2.2.2.2⟩
set_option maxHeartbeats 4000000 in
theorem impl_fly (ms : List Value) (y0 : Int) (y1 : Bool) (y2 y3 y4 : Int) (tiers now : Int) (a33 : Option Addr) (c33 : Nat) (K : List Int) (a25 : Option Addr) (c25 : Nat) (S : List SlotKit.Slot) (B : Bool) (w : World) (e7 : ms[7]? = some (.int .i64 tiers)) (e24 : ms[24]? = some (.slice a25 S.length c25)) (e31 : ms[31]? = some (.slice a33 K.length c33)) (e32 : ms[32]? = some (.int .i64 now)) (h33 : Own 3 1 IntKit.cells w a33 K) (h25 : Own 75 5 SlotKit.cells w a25 S) (lk : K.length ≤ 1048577) (ls : S.length ≤ 1048577) (hk : knownOk K) (HB : Hid (B = true ↔ y2 ∈ K ∧ y4 ≤ now)) :
    Calls Tryz.prog 67 #[.agg ms.toArray, .agg #[.int .i64 y0, .bool y1, .int .i64 y2, .int .i64 y3, .int .i64 y4]] w fun e w' => e = .returned (.bool B) ∧ Below w.heap.size w w' := by
  have E7 : Hid (ms.toArray[7]? = some (.int .i64 tiers)) := by show _ = _; simpa using e7
  have E24 : Hid (ms.toArray[24]? = some (.slice a25 S.length c25)) := by show _ = _; simpa using e24
  have E31 : Hid (ms.toArray[31]? = some (.slice a33 K.length c33)) := by show _ = _; simpa using e31
  have E32 : Hid (ms.toArray[32]? = some (.int .i64 now)) := by show _ = _; simpa using e32
  have H0 : Hid (boxB ((w.alloc (.cells ms.toArray 89)).alloc (.cells #[.int .i64 y0, .bool y1, .int .i64 y2, .int .i64 y3, .int .i64 y4] 75)) w.heap.size ms.toArray 89 ∧ boxB ((w.alloc (.cells ms.toArray 89)).alloc (.cells #[.int .i64 y0, .bool y1, .int .i64 y2, .int .i64 y3, .int .i64 y4] 75)) (w.heap.size + 1) #[.int .i64 y0, .bool y1, .int .i64 y2, .int .i64 y3, .int .i64 y4] 75 ∧ Own 3 1 IntKit.cells ((w.alloc (.cells ms.toArray 89)).alloc (.cells #[.int .i64 y0, .bool y1, .int .i64 y2, .int .i64 y3, .int .i64 y4] 75)) a33 K ∧ Own 75 5 SlotKit.cells ((w.alloc (.cells ms.toArray 89)).alloc (.cells #[.int .i64 y0, .bool y1, .int .i64 y2, .int .i64 y3, .int .i64 y4] 75)) a25 S ∧ Below w.heap.size w ((w.alloc (.cells ms.toArray 89)).alloc (.cells #[.int .i64 y0, .bool y1, .int .i64 y2, .int .i64 y3, .int .i64 y4] 75))) := ⟨(boxB.new _ _ _).below (n1 _ _), new2 _ _ _ _, h33.below (n2 _ _ _), h25.below (n2 _ _ _), n2 _ _ _⟩
  obtain ⟨b1, hb1⟩ : ∃ b : Bool, b = true ↔ y2 ∈ K := ⟨decide _, decide_eq_true_iff⟩
  have P1 : Hid (b1 = true ↔ y2 ∈ K) := hb1
  have HK := fun W h => AdmComI.impl_has a33 c33 K y2 b1 W h lk hk P1
  clear hb1 e7 e24 e31 e32 h33 h25 lk ls hk
  go_enter Tryz.func67, Tryz.ntmps67
  go_upto_region 1 with fail
  generalize ((w.alloc (.cells ms.toArray 89)).alloc (.cells #[.int .i64 y0, .bool y1, .int .i64 y2, .int .i64 y3, .int .i64 y4] 75)) = v at *
  have HKEEP : ∀ W1 {W2 : World}, (boxB W1 w.heap.size ms.toArray 89 ∧ boxB W1 (w.heap.size + 1) #[.int .i64 y0, .bool y1, .int .i64 y2, .int .i64 y3, .int .i64 y4] 75 ∧ Own 3 1 IntKit.cells W1 a33 K ∧ Own 75 5 SlotKit.cells W1 a25 S ∧ Below w.heap.size w W1) → Below W1.heap.size W1 W2 → (boxB W2 w.heap.size ms.toArray 89 ∧ boxB W2 (w.heap.size + 1) #[.int .i64 y0, .bool y1, .int .i64 y2, .int .i64 y3, .int .i64 y4] 75 ∧ Own 3 1 IntKit.cells W2 a33 K ∧ Own 75 5 SlotKit.cells W2 a25 S ∧ Below w.heap.size w W2) := fun W1 W2 h hb => ⟨h.1.below hb, h.2.1.below hb, h.2.2.1.below hb, h.2.2.2.1.below hb, h.2.2.2.2.trans (hb.mono h.2.2.2.2.size)⟩
  have m31 := H0.out.1.cell 31
  rw [E31.out] at m31
  have m32 := H0.out.1.cell 32
  rw [E32.out] at m32
  have z2 := H0.out.2.1.cell 2
  have z4 := H0.out.2.1.cell 4
  cases b1 with
  | false =>
    obtain rfl : B = false := by
      cases B with
      | false => rfl
      | true =>
        have h := HB.out.1 rfl
        have := P1.out.2 h.1; cases this
    go_wp2_with (go_at_call 98; refine (HK _ H0.out.2.2.1).mono ?_; rintro e w1 ⟨rfl, hb⟩; have H9 := HKEEP _ H0.out hb; clear hb H0 m31 m32 z2 z4; have H0 : Hid _ := H9; clear H9; have m31 := H0.out.1.cell 31; rw [E31.out] at m31; have m32 := H0.out.1.cell 32; rw [E32.out] at m32; have z2 := H0.out.2.1.cell 2; have z4 := H0.out.2.1.cell 4)
    go_ret
    exact ⟨rfl, H0.out.2.2.2.2⟩
  | true =>
    by_cases t2 : y4 ≤ now
    · have s2 : decide (y4 ≤ now) = true := by simpa using t2
      obtain rfl : B = true := HB.out.2 ⟨P1.out.1 rfl, t2⟩
      go_wp2_with (go_at_call 98; refine (HK _ H0.out.2.2.1).mono ?_; rintro e w1 ⟨rfl, hb⟩; have H9 := HKEEP _ H0.out hb; clear hb H0 m31 m32 z2 z4; have H0 : Hid _ := H9; clear H9; have m31 := H0.out.1.cell 31; rw [E31.out] at m31; have m32 := H0.out.1.cell 32; rw [E32.out] at m32; have z2 := H0.out.2.1.cell 2; have z4 := H0.out.2.1.cell 4)
      go_ret
      exact ⟨rfl, H0.out.2.2.2.2⟩
    · have s2 : decide (y4 ≤ now) = false := by simpa using t2
      obtain rfl : B = false := by
        cases B with
        | false => rfl
        | true =>
          have h := HB.out.1 rfl
          exact (t2 h.2).elim
      go_wp2_with (go_at_call 98; refine (HK _ H0.out.2.2.1).mono ?_; rintro e w1 ⟨rfl, hb⟩; have H9 := HKEEP _ H0.out hb; clear hb H0 m31 m32 z2 z4; have H0 : Hid _ := H9; clear H9; have m31 := H0.out.1.cell 31; rw [E31.out] at m31; have m32 := H0.out.1.cell 32; rw [E32.out] at m32; have z2 := H0.out.2.1.cell 2; have z4 := H0.out.2.1.cell 4)
      go_ret
      exact ⟨rfl, H0.out.2.2.2.2⟩
end Go.Proofs.YtnabnghjejncpaaGreat.AdmWaitI
