/- The program's question whether one of the codels isn't right for a machine; nothing that was there turns; no condition but those written in each. -/
import Derived.Test.YtnabnghjejncpaaGreatRows
import Derived.WalkKit
import Derived.WalkSmall
import Derived.BigQuiet
import Derived.Deep.RegionWith
import Derived.Deep.DeepCutAuto
import Derived.Test.YtnabnghjejncpaaGreatListKit
import Derived.Test.YtnabnghjejncpaaGreatHoldKit
import Derived.Test.YtnabnghjejncpaaGreatBigBox
import Derived.Test.YtnabnghjejncpaaGreatCodAll
import Derived.Test.YtnabnghjejncpaaGreatCodelKit
import Derived.Test.YtnabnghjejncpaaGreatAdmPartP
namespace Go.Proofs.YtnabnghjejncpaaGreat.AdmSlowI
open Go.RowKit ListKit HoldKit BigBox AdmPartP
set_option maxRecDepth 8000
set_option linter.unusedVariables false
set_option linter.unusedSimpArgs false

set_option maxHeartbeats 2000000 in
theorem impl_codelof (y0 y1 y2 : Int) (y3 : Bool) (y4 y5 t v : Int) (cv : List Value) (B : Bool) (w : World) (h6 : cv[10]? = some (.int .i64 t)) (h7 : cv[11]? = some (.int .i64 v)) (HB : Hid (B = true ↔ slowOk t v ⟨y0, y1, y2, y3, y4, y5⟩)) :
    Calls Tryz.prog 63 #[.agg #[.int .i64 y0, .int .i64 y1, .int .i64 y2, .bool y3, .int .i64 y4, .int .i64 y5], .agg cv.toArray] w fun e w' => e = .returned (.bool B) ∧ Below w.heap.size w w' := by
  have H0 : Hid (boxB ((w.alloc (.cells #[.int .i64 y0, .int .i64 y1, .int .i64 y2, .bool y3, .int .i64 y4, .int .i64 y5] 106)).alloc (.cells cv.toArray 47)) w.heap.size #[.int .i64 y0, .int .i64 y1, .int .i64 y2, .bool y3, .int .i64 y4, .int .i64 y5] 106 ∧ boxB ((w.alloc (.cells #[.int .i64 y0, .int .i64 y1, .int .i64 y2, .bool y3, .int .i64 y4, .int .i64 y5] 106)).alloc (.cells cv.toArray 47)) (w.heap.size + 1) cv.toArray 47 ∧ Below w.heap.size w ((w.alloc (.cells #[.int .i64 y0, .int .i64 y1, .int .i64 y2, .bool y3, .int .i64 y4, .int .i64 y5] 106)).alloc (.cells cv.toArray 47))) := ⟨(boxB.new _ _ _).below (n1 _ _), new2 _ _ _ _, n2 _ _ _⟩
  have HC := fun W => CodOkI.impl_codelok y0 y1 y2 y3 y4 y5 W
  have e6 : Hid (cv.toArray[10]? = some (.int .i64 t)) := by show _ = _; simpa using h6
  have e7 : Hid (cv.toArray[11]? = some (.int .i64 v)) := by show _ = _; simpa using h7
  obtain ⟨b, hb⟩ : ∃ b, CodKit.codOk ⟨y0, y1, y2, y3, y4, y5⟩ = b := ⟨_, rfl⟩
  have HBB : Hid (CodKit.codOk (codOf ⟨y0, y1, y2, y3, y4, y5⟩) = b) := hb
  rw [hb] at HC
  clear hb h6 h7
  go_enter Tryz.func63, Tryz.ntmps63
  go_upto_region 1 with fail
  generalize ((w.alloc (.cells #[.int .i64 y0, .int .i64 y1, .int .i64 y2, .bool y3, .int .i64 y4, .int .i64 y5] 106)).alloc (.cells cv.toArray 47)) = W0 at *
  have p0 := H0.out.1.cell 0
  have p1 := H0.out.1.cell 1
  have p2 := H0.out.1.cell 2
  have p3 := H0.out.1.cell 3
  have p4 := H0.out.1.cell 4
  have p5 := H0.out.1.cell 5

  cases b with
  | false =>
    obtain rfl : B = false := by
      cases B with
      | false => rfl
      | true =>
        have h := HB.out.1 rfl
        have h9 := h.1; rw [HBB.out] at h9; cases h9
    go_wp2_with (go_at_call 89; refine (HC _).mono ?_; rintro e w1 ⟨rfl, hb⟩; have H1 : Hid (boxB w1 w.heap.size #[.int .i64 y0, .int .i64 y1, .int .i64 y2, .bool y3, .int .i64 y4, .int .i64 y5] 106 ∧ boxB w1 (w.heap.size + 1) cv.toArray 47 ∧ Below w.heap.size w w1) := ⟨H0.out.1.below hb, H0.out.2.1.below hb, H0.out.2.2.trans (hb.mono H0.out.2.2.size)⟩; clear hb HC H0 p0 p1 p2 p3 p4 p5; have p0 := H1.out.1.cell 0; have p1 := H1.out.1.cell 1; have p6 := H1.out.2.1.cell 10; rw [e6.out] at p6; have p7 := H1.out.2.1.cell 11; rw [e7.out] at p7)
    go_ret
    exact ⟨rfl, H1.out.2.2⟩
  | true =>
    by_cases t0 : y0 = t
    · have s0 : (y0 == t) = true := by simpa using t0
      have T0 : Hid (y0 = t) := t0
      clear t0
      by_cases t1 : y1 = v
      · have s1 : (y1 == v) = true := by simpa using t1
        have T1 : Hid (y1 = v) := t1
        clear t1
        obtain rfl : B = true := HB.out.2 ⟨HBB.out, T0.out, T1.out⟩
        go_wp2_with (go_at_call 89; refine (HC _).mono ?_; rintro e w1 ⟨rfl, hb⟩; have H1 : Hid (boxB w1 w.heap.size #[.int .i64 y0, .int .i64 y1, .int .i64 y2, .bool y3, .int .i64 y4, .int .i64 y5] 106 ∧ boxB w1 (w.heap.size + 1) cv.toArray 47 ∧ Below w.heap.size w w1) := ⟨H0.out.1.below hb, H0.out.2.1.below hb, H0.out.2.2.trans (hb.mono H0.out.2.2.size)⟩; clear hb HC H0 p0 p1 p2 p3 p4 p5; have p0 := H1.out.1.cell 0; have p1 := H1.out.1.cell 1; have p6 := H1.out.2.1.cell 10; rw [e6.out] at p6; have p7 := H1.out.2.1.cell 11; rw [e7.out] at p7)
        go_ret
        exact ⟨rfl, H1.out.2.2⟩
      · have s1 : (y1 == v) = false := by simpa using t1
        obtain rfl : B = false := by
          cases B with
          | false => rfl
          | true =>
            have h := HB.out.1 rfl
            exact (t1 h.2.2).elim
        go_wp2_with (go_at_call 89; refine (HC _).mono ?_; rintro e w1 ⟨rfl, hb⟩; have H1 : Hid (boxB w1 w.heap.size #[.int .i64 y0, .int .i64 y1, .int .i64 y2, .bool y3, .int .i64 y4, .int .i64 y5] 106 ∧ boxB w1 (w.heap.size + 1) cv.toArray 47 ∧ Below w.heap.size w w1) := ⟨H0.out.1.below hb, H0.out.2.1.below hb, H0.out.2.2.trans (hb.mono H0.out.2.2.size)⟩; clear hb HC H0 p0 p1 p2 p3 p4 p5; have p0 := H1.out.1.cell 0; have p1 := H1.out.1.cell 1; have p6 := H1.out.2.1.cell 10; rw [e6.out] at p6; have p7 := H1.out.2.1.cell 11; rw [e7.out] at p7)
        go_ret
        exact ⟨rfl, H1.out.2.2⟩
    · have s0 : (y0 == t) = false := by simpa using t0
      obtain rfl : B = false := by
        cases B with
        | false => rfl
        | true =>
          have h := HB.out.1 rfl
          exact (t0 h.2.1).elim
      go_wp2_with (go_at_call 89; refine (HC _).mono ?_; rintro e w1 ⟨rfl, hb⟩; have H1 : Hid (boxB w1 w.heap.size #[.int .i64 y0, .int .i64 y1, .int .i64 y2, .bool y3, .int .i64 y4, .int .i64 y5] 106 ∧ boxB w1 (w.heap.size + 1) cv.toArray 47 ∧ Below w.heap.size w w1) := ⟨H0.out.1.below hb, H0.out.2.1.below hb, H0.out.2.2.trans (hb.mono H0.out.2.2.size)⟩; clear hb HC H0 p0 p1 p2 p3 p4 p5; have p0 := H1.out.1.cell 0; have p1 := H1.out.1.cell 1; have p6 := H1.out.2.1.cell 10; rw [e6.out] at p6; have p7 := H1.out.2.1.cell 11; rw [e7.out] at p7)
      go_ret
      exact ⟨rfl, H1.out.2.2⟩
set_option maxHeartbeats 2000000 in
theorem slow_one (y0 y1 y2 : Int) (y3 : Bool) (y4 y5 t v : Int) (vs : List Value) (b : Nat) (B : Bool) (w : World) (hb : boxB w b vs.toArray 62) (hl : 14 ≤ vs.length) (h6 : vs[10]? = some (.int .i64 t)) (h7 : vs[11]? = some (.int .i64 v)) (HB : Hid (B = true ↔ slowOk t v ⟨y0, y1, y2, y3, y4, y5⟩)) :
    Calls Tryz.prog 62 #[.agg #[.int .i64 y0, .int .i64 y1, .int .i64 y2, .bool y3, .int .i64 y4, .int .i64 y5], .pointer (some ⟨b, 0, none⟩)] w fun e w' => e = .returned (.bool !B) ∧ Below w.heap.size w w' := by
  have hlt : (vs.take 14).length = 14 := by rw [List.length_take]; omega
  have H := fun W => impl_codelof y0 y1 y2 y3 y4 y5 t v (vs.take 14) B W (by rw [List.getElem?_take, if_pos (by omega)]; exact h6) (by rw [List.getElem?_take, if_pos (by omega)]; exact h7) HB
  have H0 : Hid (boxB (w.alloc (.cells #[.int .i64 y0, .int .i64 y1, .int .i64 y2, .bool y3, .int .i64 y4, .int .i64 y5] 106)) w.heap.size #[.int .i64 y0, .int .i64 y1, .int .i64 y2, .bool y3, .int .i64 y4, .int .i64 y5] 106 ∧ boxB (w.alloc (.cells #[.int .i64 y0, .int .i64 y1, .int .i64 y2, .bool y3, .int .i64 y4, .int .i64 y5] 106)) b vs.toArray 62 ∧ Below w.heap.size w (w.alloc (.cells #[.int .i64 y0, .int .i64 y1, .int .i64 y2, .bool y3, .int .i64 y4, .int .i64 y5] 106))) := ⟨boxB.new _ _ _, hb.below (n1 _ _), n1 _ _⟩
  have R : Hid ((w.alloc (.cells #[.int .i64 y0, .int .i64 y1, .int .i64 y2, .bool y3, .int .i64 y4, .int .i64 y5] 106)).rangeAt b 0 (vs.take 14)) := range_of_box H0.out.2.1 0 _ (by rw [hlt]; simp)
  have i0 : Hid ((Tryz.prog.info? 47).map (·.size) = some (vs.take 14).length) := by show _ = _; rw [hlt]; kernel_rfl
  obtain ⟨cv, hcv⟩ : ∃ cv, vs.take 14 = cv := ⟨_, rfl⟩
  rw [hcv] at H R i0
  clear hb hl h6 h7 HB hcv hlt
  go_enter Tryz.func62, Tryz.ntmps62
  go_upto_region 1 with fail
  generalize (w.alloc (.cells #[.int .i64 y0, .int .i64 y1, .int .i64 y2, .bool y3, .int .i64 y4, .int .i64 y5] 106)) = v at *
  have p0 := H0.out.1.cell 0
  have p1 := H0.out.1.cell 1
  have p2 := H0.out.1.cell 2
  have p3 := H0.out.1.cell 3
  have p4 := H0.out.1.cell 4
  have p5 := H0.out.1.cell 5
  go_wp2_with (first | (refine wpList_load_mid rfl 47 _ rfl b 0 rfl cv _ R.out Tryz.underlying47 rfl i0.out ?_) | (go_at_call 63; refine (H _).mono ?_; rintro e w1 ⟨rfl, hb⟩; have H1 : Hid (Below w.heap.size w w1) := H0.out.2.2.trans (hb.mono H0.out.2.2.size); clear hb H H0 R))
  go_ret
  exact ⟨rfl, H1.out⟩
set_option maxHeartbeats 2000000 in
theorem index_slow (a : Option Addr) (c : Nat) (L : List CodelKit.Codel) (t v : Int) (vs : List Value) (b : Nat) (B : Bool) (w : World) (h : Own 106 6 CodelKit.cells w a L) (hl : L.length ≤ 1048577) (hb : boxB w b vs.toArray 62) (hv : 14 ≤ vs.length) (h6 : vs[10]? = some (.int .i64 t)) (h7 : vs[11]? = some (.int .i64 v)) (HB : Hid (B = true ↔ ∀ (j : Nat) (h : j < L.length), slowOk t v L[j])) :
    Calls Tryz.prog 96 #[.slice a L.length c, .func (.func 62) #[] #[.pointer (some ⟨b, 0, none⟩)]] w fun e w' => ∃ r : Int, e = .returned (.int .i64 r) ∧ decide (0 ≤ r) = !B ∧ Below w.heap.size w w' := by
  have HA : Hid (Own 106 6 CodelKit.cells w a L) := h
  have HBX : Hid (boxB w b vs.toArray 62) := hb
  have HV : Hid (14 ≤ vs.length ∧ vs[10]? = some (.int .i64 t) ∧ vs[11]? = some (.int .i64 v)) := ⟨hv, h6, h7⟩
  clear h hb hv h6 h7
  obtain ⟨n, hn⟩ : ∃ n, L.length = n := ⟨_, rfl⟩
  have HN : Hid (L.length = n) := hn
  rw [hn] at hl ⊢
  clear hn
  go_enter Tryz.func96, Tryz.ntmps96
  go_wp2
  go_loopw [5, 8] (fun _ i wr => ∃ k : Nat, k ≤ n ∧ i = .int .i64 k ∧ Hid (∀ (j : Nat) (h : j < L.length), j < k → slowOk t v L[j]) ∧ Hid (Below w.heap.size w wr)) (fun _ i _ => n - (intOf i).toNat)
  case atStart => exact ⟨0, by omega, rfl, fun j _ hj => by omega, Below.refl _ _⟩
  case round =>
    obtain ⟨k, hk, rfl, HK, HW⟩ := hrel
    by_cases hlt : k < n
    · have hlt2 : k < L.length := by rw [HN.out]; exact hlt
      rcases HA.out with hnil | ⟨g, o, rfl, hr⟩
      · rw [hnil] at hlt2; simp at hlt2
      · have hr1 : Row 106 6 CodelKit.cells wr g o L := hr.below HW.out
        obtain ⟨sx, hsx⟩ : ∃ s, L[k] = s := ⟨_, rfl⟩
        obtain ⟨y0, y1, y2, y3, y4, y5⟩ := sx
        have u9 := fun j hj => (hr1).cell k hlt2 j hj
        have p0 : wr.cell? ⟨g, o + k * 6, none⟩ = some (.int .i64 y0) := by have h9 := u9 0 (by omega); rw [hsx] at h9; exact h9
        have p1 : wr.cell? ⟨g, o + k * 6 + 1, none⟩ = some (.int .i64 y1) := by have h9 := u9 1 (by omega); rw [hsx] at h9; exact h9
        have p2 : wr.cell? ⟨g, o + k * 6 + 2, none⟩ = some (.int .i64 y2) := by have h9 := u9 2 (by omega); rw [hsx] at h9; exact h9
        have p3 : wr.cell? ⟨g, o + k * 6 + 3, none⟩ = some (.bool y3) := by have h9 := u9 3 (by omega); rw [hsx] at h9; exact h9
        have p4 : wr.cell? ⟨g, o + k * 6 + 4, none⟩ = some (.int .i64 y4) := by have h9 := u9 4 (by omega); rw [hsx] at h9; exact h9
        have p5 : wr.cell? ⟨g, o + k * 6 + 5, none⟩ = some (.int .i64 y5) := by have h9 := u9 5 (by omega); rw [hsx] at h9; exact h9
        clear u9
        have hli : (k : Int) < (n : Int) := by omega
        have h0k : (0 : Int) ≤ (k : Int) := by omega
        have HS : Hid (L[k] = ⟨y0, y1, y2, y3, y4, y5⟩) := hsx
        obtain ⟨bb, hbb⟩ : ∃ bb : Bool, bb = true ↔ slowOk t v ⟨y0, y1, y2, y3, y4, y5⟩ := ⟨@decide _ (Classical.propDecidable _), @decide_eq_true_iff _ (Classical.propDecidable _)⟩
        have HS1 : Hid (bb = true ↔ slowOk t v ⟨y0, y1, y2, y3, y4, y5⟩) := hbb
        clear hr hr1 hsx hbb
        cases bb with
        | false =>
          obtain rfl : B = false := by
            cases B with
            | false => rfl
            | true =>
              have h9 := HB.out.1 rfl k hlt2
              rw [HS.out] at h9
              have := HS1.out.2 h9
              cases this
          go_wp2_with (go_at_call 62; refine (slow_one y0 y1 y2 y3 y4 y5 t v vs b false _ (HBX.out.below HW.out) HV.out.1 HV.out.2.1 HV.out.2.2 HS1).mono ?_; rintro e w1 ⟨rfl, b1⟩; have B1 : Hid (Below w.heap.size w w1) := HW.out.trans (b1.mono HW.out.size); clear b1 p0 p1 p2 p3 p4 p5)
          go_ret
          exact ⟨(k : Int), rfl, by simp, B1.out⟩
        | true =>
          have HK2 : Hid (∀ (j : Nat) (h : j < L.length), j < k + 1 → slowOk t v L[j]) := fun j h hj => by
            by_cases e : j = k
            · subst e; rw [HS.out]; exact HS1.out.1 rfl
            · exact HK.out j h (by omega)
          go_wp2_with (go_at_call 62; refine (slow_one y0 y1 y2 y3 y4 y5 t v vs b true _ (HBX.out.below HW.out) HV.out.1 HV.out.2.1 HV.out.2.2 HS1).mono ?_; rintro e w1 ⟨rfl, b1⟩; have B1 : Hid (Below w.heap.size w w1) := HW.out.trans (b1.mono HW.out.size); clear b1 p0 p1 p2 p3 p4 p5)
          go_roundw
          case rel => exact ⟨k + 1, by omega, by go_num, HK2, B1⟩
          case measure => simp [intOf]; omega
    · obtain rfl : k = n := by omega
      obtain rfl : B = true := HB.out.2 fun j h => HK.out j h (by rw [HN.out] at h; exact h)
      go_wp2
      go_ret
      exact ⟨-1, rfl, by simp, HW.out⟩
theorem has_slow (a : Option Addr) (c : Nat) (L : List CodelKit.Codel) (t v : Int) (vs : List Value) (b : Nat) (B : Bool) (w : World) (h : Own 106 6 CodelKit.cells w a L) (hl : L.length ≤ 1048577) (hb : boxB w b vs.toArray 62) (hv : 14 ≤ vs.length) (h6 : vs[10]? = some (.int .i64 t)) (h7 : vs[11]? = some (.int .i64 v)) (HB : Hid (B = true ↔ ∀ (j : Nat) (h : j < L.length), slowOk t v L[j])) :
    Calls Tryz.prog 64 #[.slice a L.length c, .func (.func 62) #[] #[.pointer (some ⟨b, 0, none⟩)]] w fun e w' => e = .returned (.bool !B) ∧ Below w.heap.size w w' := by
  have H := index_slow a c L t v vs b B w h hl hb hv h6 h7 HB
  clear h hl hb hv h6 h7 HB
  go_enter Tryz.func64, Tryz.ntmps64
  go_wp2_with (go_at_call 96; refine H.mono ?_; rintro e w1 ⟨r, rfl, hr, hb⟩; have H1 : Hid (Below w.heap.size w w1) := hb; clear hb H)
  go_ret
  exact ⟨rfl, H1.out⟩
end Go.Proofs.YtnabnghjejncpaaGreat.AdmSlowI
