/- Whether parts that are right are right together, by the program; nothing that was there turns; no condition but those written in each. -/
import Derived.Test.YtnabnghjejncpaaGreatRows
import Derived.WalkKit
import Derived.WalkSmall
import Derived.BigQuiet
import Derived.Deep.RegionWith
import Derived.Deep.DeepCutAuto
import Derived.Test.YtnabnghjejncpaaGreatListKit
import Derived.Test.YtnabnghjejncpaaGreatHoldKit
import Derived.Test.YtnabnghjejncpaaGreatBigBox
import Derived.Test.YtnabnghjejncpaaGreatIntKit
import Derived.Test.YtnabnghjejncpaaGreatSlotKit
import Derived.Test.YtnabnghjejncpaaGreatReqKit
import Derived.Test.YtnabnghjejncpaaGreatLedOk
import Derived.Test.YtnabnghjejncpaaGreatQueAll
import Derived.Test.YtnabnghjejncpaaGreatAdmCliP
import Derived.Test.YtnabnghjejncpaaGreatAdmKnownP
import Derived.Test.YtnabnghjejncpaaGreatAdmWaitI
import Derived.Test.YtnabnghjejncpaaGreatAdmCapI
namespace Go.Proofs.YtnabnghjejncpaaGreat.AdmFitI
open Go.RowKit ListKit HoldKit BigBox AdmKnownP AdmCliP
open QueMiscS (timesOf)
open AdmWaitI (flies)
set_option maxRecDepth 8000
set_option linter.unusedVariables false
set_option linter.unusedSimpArgs false

def waitP (tiers now : Int) (K : List Int) (S : List SlotKit.Slot) (r : ReqKit.Req) : Prop := r.x1 < tiers ∧ r.x0 ∈ K ∧ ¬ flies S r.x0 ∧ r.x4 ≤ now
def flyP (now : Int) (K : List Int) (s : SlotKit.Slot) : Prop := s.x1 = true → s.x2 ∈ K ∧ s.x4 ≤ now
def capP (cap : Int) (S : List SlotKit.Slot) : Prop := ∀ t ∈ clientsOf S, (timesOf (clientsOf S) t : Int) ≤ cap
def fitOk (cap tiers now at_ : Int) (K : List Int) (Q : List ReqKit.Req) (S : List SlotKit.Slot) : Prop := (∀ (j : Nat) (h : j < Q.length), waitP tiers now K S Q[j]) ∧ (∀ (j : Nat) (h : j < S.length), flyP now K S[j]) ∧ capP cap S ∧ at_ ≤ now
set_option maxHeartbeats 8000000 in
theorem impl_fits (ms : List Value) (cap tiers now at_ : Int) (a33 : Option Addr) (c33 : Nat) (K : List Int) (a27 : Option Addr) (c27 : Nat) (Q : List ReqKit.Req) (a25 : Option Addr) (c25 : Nat) (S : List SlotKit.Slot) (B : Bool) (w : World) (hlen : ms.length = 33) (e6 : ms[6]? = some (.int .i64 cap)) (e7 : ms[7]? = some (.int .i64 tiers)) (e24 : ms[24]? = some (.slice a25 S.length c25)) (e26 : ms[26]? = some (.slice a27 Q.length c27)) (e30 : ms[30]? = some (.int .i64 at_)) (e31 : ms[31]? = some (.slice a33 K.length c33)) (e32 : ms[32]? = some (.int .i64 now))
    (h33 : Own 3 1 IntKit.cells w a33 K) (h27 : Own 72 6 ReqKit.cells w a27 Q) (h25 : Own 75 5 SlotKit.cells w a25 S) (lk : K.length ≤ 1048576) (lq : Q.length ≤ 1048576) (ls : S.length ≤ 1048576) (lc : S.length ≤ c25) (hk : knownOk K) (hled : LedOk.ledOk S) (HB : Hid (B = true ↔ fitOk cap tiers now at_ K Q S)) :
    Calls Tryz.prog 30 #[.agg ms.toArray] w fun e w' => e = .returned (.bool B) ∧ Below w.heap.size w w' := by
  have HWT := fun (y0 y1 y2 y3 y4 y5 : Int) (b : Bool) (W : World) h3 h2 hb => AdmWaitI.impl_wait ms y0 y1 y2 y3 y4 y5 tiers now a33 c33 K a25 c25 S b W e7 e24 e31 e32 h3 h2 (by omega) (by omega) hk hb
  have HFL := fun (y0 : Int) (y1 : Bool) (y2 y3 y4 : Int) (b : Bool) (W : World) h3 h2 hb => AdmWaitI.impl_fly ms y0 y1 y2 y3 y4 tiers now a33 c33 K a25 c25 S b W e7 e24 e31 e32 h3 h2 (by omega) (by omega) hk hb
  have HCP := fun (b : Bool) (W : World) h2 hb => AdmCapI.impl_cap ms cap a25 c25 S b W e6 e24 h2 (by omega) lc hled hb
  have E24 : Hid (ms.toArray[24]? = some (.slice a25 S.length c25)) := by show _ = _; simpa using e24
  have E26 : Hid (ms.toArray[26]? = some (.slice a27 Q.length c27)) := by show _ = _; simpa using e26
  have E30 : Hid (ms.toArray[30]? = some (.int .i64 at_)) := by show _ = _; simpa using e30
  have E32 : Hid (ms.toArray[32]? = some (.int .i64 now)) := by show _ = _; simpa using e32
  have hi_ : Hid ((Tryz.prog.info? 89).map (·.size) = some ms.length) := by show _ = _; rw [hlen]; kernel_rfl
  have H0 : Hid (boxB (w.alloc (.cells ms.toArray 89)) w.heap.size ms.toArray 89 ∧ Own 72 6 ReqKit.cells (w.alloc (.cells ms.toArray 89)) a27 Q ∧ Own 75 5 SlotKit.cells (w.alloc (.cells ms.toArray 89)) a25 S ∧ Own 3 1 IntKit.cells (w.alloc (.cells ms.toArray 89)) a33 K ∧ Below w.heap.size w (w.alloc (.cells ms.toArray 89))) := ⟨boxB.new _ _ _, h27.below (n1 _ _), h25.below (n1 _ _), h33.below (n1 _ _), n1 _ _⟩
  have KEEP : ∀ {a7 a5 : Option Addr} (W1 : World) {W2 : World}, (boxB W1 w.heap.size ms.toArray 89 ∧ Own 72 6 ReqKit.cells W1 a7 Q ∧ Own 75 5 SlotKit.cells W1 a5 S ∧ Own 3 1 IntKit.cells W1 a33 K ∧ Below w.heap.size w W1) → Below W1.heap.size W1 W2 → (boxB W2 w.heap.size ms.toArray 89 ∧ Own 72 6 ReqKit.cells W2 a7 Q ∧ Own 75 5 SlotKit.cells W2 a5 S ∧ Own 3 1 IntKit.cells W2 a33 K ∧ Below w.heap.size w W2) := fun W1 W2 h hb => ⟨h.1.below hb, h.2.1.below hb, h.2.2.1.below hb, h.2.2.2.1.below hb, h.2.2.2.2.trans (hb.mono h.2.2.2.2.size)⟩
  clear e6 e7 e24 e26 e30 e31 e32 h33 h27 h25 hk hled hlen
  go_enter Tryz.func30, Tryz.ntmps30
  go_upto_region 1 with fail
  generalize (w.alloc (.cells ms.toArray 89)) = v0 at *
  have m26 := H0.out.1.cell 26
  rw [E26.out] at m26
  go_wp2
  clear m26
  go_loopw [4, 11] (fun t4 i wr => ∃ k : Nat, k ≤ Q.length ∧ i = .int .i64 (k : Int) ∧ Hid (∀ (j : Nat) (h : j < Q.length), j < k → waitP tiers now K S Q[j]) ∧ Hid (boxB wr w.heap.size ms.toArray 89 ∧ Own 72 6 ReqKit.cells wr a27 Q ∧ Own 75 5 SlotKit.cells wr a25 S ∧ Own 3 1 IntKit.cells wr a33 K ∧ Below w.heap.size w wr)) (fun _ i _ => Q.length - (intOf i).toNat)
  case atStart => exact ⟨0, by omega, rfl, fun j _ hj => by omega, H0⟩
  case round =>
    clear H0
    obtain ⟨k, hk, rfl, HKK, HWR⟩ := hrel
    by_cases hlt : k < Q.length
    · rcases HWR.out.2.1 with hnil | ⟨g, o, rfl, hr⟩
      · rw [hnil] at hlt; simp at hlt
      · obtain ⟨sx, hsx⟩ : ∃ s, Q[k] = s := ⟨_, rfl⟩
        obtain ⟨y0, y1, y2, y3, y4, y5⟩ := sx
        have u9 := fun j hj => hr.cell k hlt j hj
        have p0 : wr.cell? ⟨g, o + k * 6, none⟩ = some (.int .i64 y0) := by have h9 := u9 0 (by omega); rw [hsx] at h9; exact h9
        have p1 : wr.cell? ⟨g, o + k * 6 + 1, none⟩ = some (.int .i64 y1) := by have h9 := u9 1 (by omega); rw [hsx] at h9; exact h9
        have p2 : wr.cell? ⟨g, o + k * 6 + 2, none⟩ = some (.int .i64 y2) := by have h9 := u9 2 (by omega); rw [hsx] at h9; exact h9
        have p3 : wr.cell? ⟨g, o + k * 6 + 3, none⟩ = some (.int .i64 y3) := by have h9 := u9 3 (by omega); rw [hsx] at h9; exact h9
        have p4 : wr.cell? ⟨g, o + k * 6 + 4, none⟩ = some (.int .i64 y4) := by have h9 := u9 4 (by omega); rw [hsx] at h9; exact h9
        have p5 : wr.cell? ⟨g, o + k * 6 + 5, none⟩ = some (.int .i64 y5) := by have h9 := u9 5 (by omega); rw [hsx] at h9; exact h9
        clear u9 hr
        have h0k : (0 : Int) ≤ (k : Int) := by omega
        have hkl : (k : Int) < (Q.length : Int) := by omega
        have wk : IntKind.i64.wrap ((k : Int) + 1) = ((k + 1 : Nat) : Int) := by rw [IntKind.wrap_i64]; omega
        have HX : Hid (Q[k] = ⟨y0, y1, y2, y3, y4, y5⟩) := hsx
        obtain ⟨b, hb⟩ : ∃ b : Bool, b = true ↔ waitP tiers now K S ⟨y0, y1, y2, y3, y4, y5⟩ := ⟨@decide _ (Classical.propDecidable _), @decide_eq_true_iff _ (Classical.propDecidable _)⟩
        have P : Hid (b = true ↔ waitP tiers now K S ⟨y0, y1, y2, y3, y4, y5⟩) := hb
        have HW := fun W h3 h2 => HWT y0 y1 y2 y3 y4 y5 b W h3 h2 P
        have HA : Hid ((boxB (wr.alloc (.cells #[.int .i64 y0, .int .i64 y1, .int .i64 y2, .int .i64 y3, .int .i64 y4, .int .i64 y5] 72)) w.heap.size ms.toArray 89 ∧ Own 72 6 ReqKit.cells (wr.alloc (.cells #[.int .i64 y0, .int .i64 y1, .int .i64 y2, .int .i64 y3, .int .i64 y4, .int .i64 y5] 72)) (some ⟨g, o, none⟩) Q ∧ Own 75 5 SlotKit.cells (wr.alloc (.cells #[.int .i64 y0, .int .i64 y1, .int .i64 y2, .int .i64 y3, .int .i64 y4, .int .i64 y5] 72)) a25 S ∧ Own 3 1 IntKit.cells (wr.alloc (.cells #[.int .i64 y0, .int .i64 y1, .int .i64 y2, .int .i64 y3, .int .i64 y4, .int .i64 y5] 72)) a33 K ∧ Below w.heap.size w (wr.alloc (.cells #[.int .i64 y0, .int .i64 y1, .int .i64 y2, .int .i64 y3, .int .i64 y4, .int .i64 y5] 72))) ∧ boxB (wr.alloc (.cells #[.int .i64 y0, .int .i64 y1, .int .i64 y2, .int .i64 y3, .int .i64 y4, .int .i64 y5] 72)) wr.heap.size #[.int .i64 y0, .int .i64 y1, .int .i64 y2, .int .i64 y3, .int .i64 y4, .int .i64 y5] 72) := ⟨KEEP _ HWR.out (n1 _ _), boxB.new _ _ _⟩
        clear hsx hb
        go_upto_region 4 with fail
        generalize (wr.alloc (.cells #[.int .i64 y0, .int .i64 y1, .int .i64 y2, .int .i64 y3, .int .i64 y4, .int .i64 y5] 72)) = v6 at *
        clear HWR p0 p1 p2 p3 p4 p5
        have R : Hid (v6.rangeAt w.heap.size 0 ms) := range_all HA.out.1.1
        have z0 := HA.out.2.cell 0
        have z1 := HA.out.2.cell 1
        have z2 := HA.out.2.cell 2
        have z3 := HA.out.2.cell 3
        have z4 := HA.out.2.cell 4
        have z5 := HA.out.2.cell 5
        cases b with
        | false =>
          obtain rfl : B = false := by
            cases B with
            | false => rfl
            | true =>
              have h := (HB.out.1 rfl).1 k hlt
              rw [HX.out] at h
              have := P.out.2 h
              cases this
          go_wp2_with (go_big_may; first | (refine wpList_load_mid rfl 89 _ rfl w.heap.size 0 rfl ms _ R.out Tryz.underlying89 rfl hi_.out ?_) | (go_at_call 66; refine (HW _ HA.out.1.2.2.2.1 HA.out.1.2.2.1).mono ?_; rintro e w3 ⟨rfl, hb⟩; have HT : Hid (boxB w3 w.heap.size ms.toArray 89 ∧ Own 72 6 ReqKit.cells w3 (some ⟨g, o, none⟩) Q ∧ Own 75 5 SlotKit.cells w3 a25 S ∧ Own 3 1 IntKit.cells w3 a33 K ∧ Below w.heap.size w w3) := KEEP _ HA.out.1 hb; clear hb HA R z0 z1 z2 z3 z4 z5))
          go_ret
          exact ⟨rfl, HT.out.2.2.2.2⟩
        | true =>
          have HK2 : Hid (∀ (j : Nat) (h : j < Q.length), j < k + 1 → waitP tiers now K S Q[j]) := fun j h hj => by
            by_cases e : j = k
            · subst e; rw [HX.out]; exact P.out.1 rfl
            · exact HKK.out j h (by omega)
          clear HKK
          go_wp2_with (go_big_may; first | (refine wpList_load_mid rfl 89 _ rfl w.heap.size 0 rfl ms _ R.out Tryz.underlying89 rfl hi_.out ?_) | (go_at_call 66; refine (HW _ HA.out.1.2.2.2.1 HA.out.1.2.2.1).mono ?_; rintro e w3 ⟨rfl, hb⟩; have HT : Hid (boxB w3 w.heap.size ms.toArray 89 ∧ Own 72 6 ReqKit.cells w3 (some ⟨g, o, none⟩) Q ∧ Own 75 5 SlotKit.cells w3 a25 S ∧ Own 3 1 IntKit.cells w3 a33 K ∧ Below w.heap.size w w3) := KEEP _ HA.out.1 hb; clear hb HA R z0 z1 z2 z3 z4 z5))
          go_roundw
          case rel => exact ⟨k + 1, by omega, by go_num, HK2, HT⟩
          case measure => simp [intOf]; omega
    · have hkl : ¬ (k : Int) < (Q.length : Int) := by omega
      have HF : Hid (∀ (j : Nat) (h : j < Q.length), waitP tiers now K S Q[j]) := fun j h => HKK.out j h (by omega)
      clear HKK HWT hlt
      go_upto_region 7 with fail
      clear hkl
      have m24 := HWR.out.1.cell 24
      rw [E24.out] at m24
      go_wp2
      clear m24
      go_loopw [6, 24] (fun t6 i wr => ∃ k : Nat, k ≤ S.length ∧ i = .int .i64 (k : Int) ∧ Hid (∀ (j : Nat) (h : j < S.length), j < k → flyP now K S[j]) ∧ Hid (boxB wr w.heap.size ms.toArray 89 ∧ Own 72 6 ReqKit.cells wr a27 Q ∧ Own 75 5 SlotKit.cells wr a25 S ∧ Own 3 1 IntKit.cells wr a33 K ∧ Below w.heap.size w wr)) (fun _ i _ => S.length - (intOf i).toNat)
      case atStart => exact ⟨0, by omega, rfl, fun j _ hj => by omega, HWR⟩
      case round =>
        clear HWR
        obtain ⟨k, hk, rfl, HKK, HWR⟩ := hrel
        by_cases hlt : k < S.length
        · rcases HWR.out.2.2.1 with hnil | ⟨g, o, rfl, hr⟩
          · rw [hnil] at hlt; simp at hlt
          · obtain ⟨sx, hsx⟩ : ∃ s, S[k] = s := ⟨_, rfl⟩
            obtain ⟨y0, y1, y2, y3, y4⟩ := sx
            have u9 := fun j hj => hr.cell k hlt j hj
            have p0 : wr.cell? ⟨g, o + k * 5, none⟩ = some (.int .i64 y0) := by have h9 := u9 0 (by omega); rw [hsx] at h9; exact h9
            have p1 : wr.cell? ⟨g, o + k * 5 + 1, none⟩ = some (.bool y1) := by have h9 := u9 1 (by omega); rw [hsx] at h9; exact h9
            have p2 : wr.cell? ⟨g, o + k * 5 + 2, none⟩ = some (.int .i64 y2) := by have h9 := u9 2 (by omega); rw [hsx] at h9; exact h9
            have p3 : wr.cell? ⟨g, o + k * 5 + 3, none⟩ = some (.int .i64 y3) := by have h9 := u9 3 (by omega); rw [hsx] at h9; exact h9
            have p4 : wr.cell? ⟨g, o + k * 5 + 4, none⟩ = some (.int .i64 y4) := by have h9 := u9 4 (by omega); rw [hsx] at h9; exact h9
            clear u9 hr
            have h0k : (0 : Int) ≤ (k : Int) := by omega
            have hkl : (k : Int) < (S.length : Int) := by omega
            have wk : IntKind.i64.wrap ((k : Int) + 1) = ((k + 1 : Nat) : Int) := by rw [IntKind.wrap_i64]; omega
            have HX : Hid (S[k] = ⟨y0, y1, y2, y3, y4⟩) := hsx
            have HA : Hid ((boxB (wr.alloc (.cells #[.int .i64 y0, .bool y1, .int .i64 y2, .int .i64 y3, .int .i64 y4] 75)) w.heap.size ms.toArray 89 ∧ Own 72 6 ReqKit.cells (wr.alloc (.cells #[.int .i64 y0, .bool y1, .int .i64 y2, .int .i64 y3, .int .i64 y4] 75)) a27 Q ∧ Own 75 5 SlotKit.cells (wr.alloc (.cells #[.int .i64 y0, .bool y1, .int .i64 y2, .int .i64 y3, .int .i64 y4] 75)) (some ⟨g, o, none⟩) S ∧ Own 3 1 IntKit.cells (wr.alloc (.cells #[.int .i64 y0, .bool y1, .int .i64 y2, .int .i64 y3, .int .i64 y4] 75)) a33 K ∧ Below w.heap.size w (wr.alloc (.cells #[.int .i64 y0, .bool y1, .int .i64 y2, .int .i64 y3, .int .i64 y4] 75))) ∧ boxB (wr.alloc (.cells #[.int .i64 y0, .bool y1, .int .i64 y2, .int .i64 y3, .int .i64 y4] 75)) wr.heap.size #[.int .i64 y0, .bool y1, .int .i64 y2, .int .i64 y3, .int .i64 y4] 75) := ⟨KEEP _ HWR.out (n1 _ _), boxB.new _ _ _⟩
            clear hsx
            go_upto_region 10 with fail
            generalize (wr.alloc (.cells #[.int .i64 y0, .bool y1, .int .i64 y2, .int .i64 y3, .int .i64 y4] 75)) = v6 at *
            clear HWR p0 p1 p2 p3 p4
            have R : Hid (v6.rangeAt w.heap.size 0 ms) := range_all HA.out.1.1
            have z0 := HA.out.2.cell 0
            have z1 := HA.out.2.cell 1
            have z2 := HA.out.2.cell 2
            have z3 := HA.out.2.cell 3
            have z4 := HA.out.2.cell 4
            cases y1 with
            | false =>
              have HK2 : Hid (∀ (j : Nat) (h : j < S.length), j < k + 1 → flyP now K S[j]) := fun j h hj => by
                by_cases e : j = k
                · subst e; rw [HX.out]; intro h9; cases h9
                · exact HKK.out j h (by omega)
              have HT : Hid (boxB v6 w.heap.size ms.toArray 89 ∧ Own 72 6 ReqKit.cells v6 a27 Q ∧ Own 75 5 SlotKit.cells v6 (some ⟨g, o, none⟩) S ∧ Own 3 1 IntKit.cells v6 a33 K ∧ Below w.heap.size w v6) := HA.out.1
              clear HKK
              go_wp2
              go_roundw
              case rel => exact ⟨k + 1, by omega, by go_num, HK2, HT⟩
              case measure => simp [intOf]; omega
            | true =>
              obtain ⟨b, hb⟩ : ∃ b : Bool, b = true ↔ (y2 ∈ K ∧ y4 ≤ now) := ⟨decide _, decide_eq_true_iff⟩
              have P : Hid (b = true ↔ (y2 ∈ K ∧ y4 ≤ now)) := hb
              have HW := fun W h3 h2 => HFL y0 true y2 y3 y4 b W h3 h2 P
              clear hb
              cases b with
              | false =>
                obtain rfl : B = false := by
                  cases B with
                  | false => rfl
                  | true =>
                    have h := (HB.out.1 rfl).2.1 k hlt
                    rw [HX.out] at h
                    have := P.out.2 (h rfl)
                    cases this
                go_wp2_with (go_big_may; first | (refine wpList_load_mid rfl 89 _ rfl w.heap.size 0 rfl ms _ R.out Tryz.underlying89 rfl hi_.out ?_) | (refine BigBox.wpList_load_want (by rfl) 89 _ rfl w.heap.size 0 rfl ms _ R.out Tryz.underlying89 rfl hi_.out ?_) | (go_at_call 67; refine (HW _ HA.out.1.2.2.2.1 HA.out.1.2.2.1).mono ?_; rintro e w3 ⟨rfl, hb⟩; have HT : Hid (boxB w3 w.heap.size ms.toArray 89 ∧ Own 72 6 ReqKit.cells w3 a27 Q ∧ Own 75 5 SlotKit.cells w3 (some ⟨g, o, none⟩) S ∧ Own 3 1 IntKit.cells w3 a33 K ∧ Below w.heap.size w w3) := KEEP _ HA.out.1 hb; clear hb HA R z0 z1 z2 z3 z4))
                go_ret
                exact ⟨rfl, HT.out.2.2.2.2⟩
              | true =>
                have HK2 : Hid (∀ (j : Nat) (h : j < S.length), j < k + 1 → flyP now K S[j]) := fun j h hj => by
                  by_cases e : j = k
                  · subst e; rw [HX.out]; exact fun _ => P.out.1 rfl
                  · exact HKK.out j h (by omega)
                clear HKK
                go_wp2_with (go_big_may; first | (refine wpList_load_mid rfl 89 _ rfl w.heap.size 0 rfl ms _ R.out Tryz.underlying89 rfl hi_.out ?_) | (refine BigBox.wpList_load_want (by rfl) 89 _ rfl w.heap.size 0 rfl ms _ R.out Tryz.underlying89 rfl hi_.out ?_) | (go_at_call 67; refine (HW _ HA.out.1.2.2.2.1 HA.out.1.2.2.1).mono ?_; rintro e w3 ⟨rfl, hb⟩; have HT : Hid (boxB w3 w.heap.size ms.toArray 89 ∧ Own 72 6 ReqKit.cells w3 a27 Q ∧ Own 75 5 SlotKit.cells w3 (some ⟨g, o, none⟩) S ∧ Own 3 1 IntKit.cells w3 a33 K ∧ Below w.heap.size w w3) := KEEP _ HA.out.1 hb; clear hb HA R z0 z1 z2 z3 z4))
                go_roundw
                case rel => exact ⟨k + 1, by omega, by go_num, HK2, HT⟩
                case measure => simp [intOf]; omega
        · have hkl : ¬ (k : Int) < (S.length : Int) := by omega
          have HG : Hid (∀ (j : Nat) (h : j < S.length), flyP now K S[j]) := fun j h => HKK.out j h (by omega)
          clear HKK HFL hlt
          go_upto_region 13 with fail
          clear hkl
          have R : Hid (wr.rangeAt w.heap.size 0 ms) := range_all HWR.out.1
          obtain ⟨b, hb⟩ : ∃ b : Bool, b = true ↔ capP cap S := ⟨@decide _ (Classical.propDecidable _), @decide_eq_true_iff _ (Classical.propDecidable _)⟩
          have P : Hid (b = true ↔ capP cap S) := hb
          have HW := fun W h2 => HCP b W h2 P
          clear hb
          cases b with
          | false =>
            obtain rfl : B = false := by
              cases B with
              | false => rfl
              | true =>
                have := P.out.2 (HB.out.1 rfl).2.2.1
                cases this
            go_wp2_with (go_big_may; first | (refine wpList_load_mid rfl 89 _ rfl w.heap.size 0 rfl ms _ R.out Tryz.underlying89 rfl hi_.out ?_) | (go_at_call 68; refine (HW _ HWR.out.2.2.1).mono ?_; rintro e w3 ⟨rfl, hb⟩; have HT : Hid (boxB w3 w.heap.size ms.toArray 89 ∧ Own 72 6 ReqKit.cells w3 a27 Q ∧ Own 75 5 SlotKit.cells w3 a25 S ∧ Own 3 1 IntKit.cells w3 a33 K ∧ Below w.heap.size w w3) := KEEP _ HWR.out hb; clear hb HWR R; have m30 := HT.out.1.cell 30; rw [E30.out] at m30; have m32 := HT.out.1.cell 32; rw [E32.out] at m32))
            go_ret
            exact ⟨rfl, HT.out.2.2.2.2⟩
          | true =>
            by_cases t2 : at_ ≤ now
            · have s2 : decide (at_ ≤ now) = true := by simpa using t2
              obtain rfl : B = true := HB.out.2 ⟨HF.out, HG.out, P.out.1 rfl, t2⟩
              go_wp2_with (go_big_may; first | (refine wpList_load_mid rfl 89 _ rfl w.heap.size 0 rfl ms _ R.out Tryz.underlying89 rfl hi_.out ?_) | (go_at_call 68; refine (HW _ HWR.out.2.2.1).mono ?_; rintro e w3 ⟨rfl, hb⟩; have HT : Hid (boxB w3 w.heap.size ms.toArray 89 ∧ Own 72 6 ReqKit.cells w3 a27 Q ∧ Own 75 5 SlotKit.cells w3 a25 S ∧ Own 3 1 IntKit.cells w3 a33 K ∧ Below w.heap.size w w3) := KEEP _ HWR.out hb; clear hb HWR R; have m30 := HT.out.1.cell 30; rw [E30.out] at m30; have m32 := HT.out.1.cell 32; rw [E32.out] at m32))
              go_ret
              exact ⟨rfl, HT.out.2.2.2.2⟩
            · have s2 : decide (at_ ≤ now) = false := by simpa using t2
              obtain rfl : B = false := by
                cases B with
                | false => rfl
                | true => exact (t2 (HB.out.1 rfl).2.2.2).elim
              go_wp2_with (go_big_may; first | (refine wpList_load_mid rfl 89 _ rfl w.heap.size 0 rfl ms _ R.out Tryz.underlying89 rfl hi_.out ?_) | (go_at_call 68; refine (HW _ HWR.out.2.2.1).mono ?_; rintro e w3 ⟨rfl, hb⟩; have HT : Hid (boxB w3 w.heap.size ms.toArray 89 ∧ Own 72 6 ReqKit.cells w3 a27 Q ∧ Own 75 5 SlotKit.cells w3 a25 S ∧ Own 3 1 IntKit.cells w3 a33 K ∧ Below w.heap.size w w3) := KEEP _ HWR.out hb; clear hb HWR R; have m30 := HT.out.1.cell 30; rw [E30.out] at m30; have m32 := HT.out.1.cell 32; rw [E32.out] at m32))
              go_ret
              exact ⟨rfl, HT.out.2.2.2.2⟩
end Go.Proofs.YtnabnghjejncpaaGreat.AdmFitI
