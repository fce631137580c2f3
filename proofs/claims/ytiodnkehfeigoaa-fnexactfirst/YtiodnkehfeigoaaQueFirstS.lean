/- What the model's First answers, at every queue, list of clients that fly and number: who is let through next; nothing else turns. -/
import Derived.Test.YtiodnkehfeigoaaRows
import Derived.WalkKit
import Derived.WalkSmall
import Derived.BigQuiet
import Derived.Deep.RegionWith
import Derived.Deep.DeepCutAuto
import Derived.Test.YtiodnkehfeigoaaListKit
import Derived.Test.YtiodnkehfeigoaaHoldKit
import Derived.Test.YtiodnkehfeigoaaReqKit
import Derived.Test.YtiodnkehfeigoaaIntKit
import Derived.Test.YtiodnkehfeigoaaReqOks
import Derived.Test.YtiodnkehfeigoaaQueMath
import Derived.Test.YtiodnkehfeigoaaQueOkS
import Derived.Test.YtiodnkehfeigoaaQueTierS
import Derived.Test.YtiodnkehfeigoaaQueMiscS
namespace Go.Proofs.Ytiodnkehfeigoaa.QueFirstS
open Go.RowKit ListKit HoldKit QueMath QueTierS QueMiscS
set_option maxRecDepth 8000
set_option linter.unusedVariables false
set_option linter.unusedSimpArgs false

/-- A request whose client may have one more. -/
def isFree (fl : List Int) (most : Int) (s : ReqKit.Req) : Bool := decide ((timesOf fl s.x2 : Int) < most)
/-- Who is let through next. -/
def firstOf (L : List ReqKit.Req) (B : Bool) (fl : List Int) (most : Int) : Option ReqKit.Req := (List.range 4).findSome? fun (t : Nat) => (tierOf L (t : Int) B).find? (isFree fl most)
theorem first_hit {L : List ReqKit.Req} {B : Bool} {fl : List Int} {most : Int} {k : Nat} {s : ReqKit.Req} (hk : k < 4) (h : ∀ t : Nat, t < k → (tierOf L (t : Int) B).find? (isFree fl most) = none) (hs : (tierOf L (k : Int) B).find? (isFree fl most) = some s) : firstOf L B fl most = some s := by
  unfold firstOf
  have e : List.range 4 = List.range k ++ (k :: (List.range (3 - k)).map (k + 1 + ·)) := by
    match k, hk with
    | 0, _ => rfl
    | 1, _ => rfl
    | 2, _ => rfl
    | 3, _ => rfl
  rw [e, List.findSome?_append]
  have h1 : (List.range k).findSome? (fun (t : Nat) => (tierOf L (t : Int) B).find? (isFree fl most)) = none := by
    rw [List.findSome?_eq_none_iff]
    intro t ht
    exact h t (List.mem_range.1 ht)
  rw [h1, List.findSome?_cons, hs]
  rfl
theorem first_no {L : List ReqKit.Req} {B : Bool} {fl : List Int} {most : Int} (h : ∀ t : Nat, t < 4 → (tierOf L (t : Int) B).find? (isFree fl most) = none) : firstOf L B fl most = none := by
  unfold firstOf
  rw [List.findSome?_eq_none_iff]
  intro t ht
  exact h t (List.mem_range.1 ht)
theorem find_hit {p : ReqKit.Req → Bool} {M : List ReqKit.Req} {j : Nat} {s : ReqKit.Req} (hj : j < M.length) (hs : M[j] = s) (hp : p s = true) (h : ∀ (i : Nat) (hi : i < M.length), i < j → p M[i] = false) : M.find? p = some s := by
  rw [List.find?_eq_some_iff_getElem]
  refine ⟨hp, j, hj, hs, fun i hi => ?_⟩
  rw [h i (by omega) hi]
  rfl
theorem find_no {p : ReqKit.Req → Bool} {M : List ReqKit.Req} (h : ∀ (i : Nat) (hi : i < M.length), p M[i] = false) : M.find? p = none := by
  rw [List.find?_eq_none]
  intro s hs
  obtain ⟨i, hi, rfl⟩ := List.getElem_of_mem hs
  rw [h i hi]
  simp
/-- The answer as the model has it. -/
def FAns (w : World) (R : Option ReqKit.Req) (e : Ending) (w' : World) : Prop := e = .returned (.tuple #[.agg (ReqKit.cells (R.getD ReqKit.zero)).toArray, .bool R.isSome]) ∧ Below w.heap.size w w'
set_option maxHeartbeats 8000000 in
theorem spec_first (x : Int) (a : Option Addr) (c : Nat) (L : List ReqKit.Req) (b : Option Addr) (d : Nat) (fl : List Int) (most : Int) (B : Bool) (w : World) (h : Own 39 6 ReqKit.cells w a L) (hl : L.length ≤ 1048577) (hc : L.length ≤ c) (hf : Own 3 1 IntKit.cells w b fl) (hfl : fl.length ≤ 1048577) (hfd : fl.length ≤ d) (bf : Hid (B = true ↔ QueOk x L)) :
    Calls Try.prog 35 #[.agg #[.int .i64 x, .slice a L.length c], .slice b fl.length d, .int .i64 most] w (FAns w (firstOf L B fl most)) := by
  have HA : Hid (Own 39 6 ReqKit.cells w a L) := h
  have HFL : Hid (Own 3 1 IntKit.cells w b fl) := hf
  have HOT := fun (k : Nat) W h => spec_oftier x a c L (k : Int) B W h hl hc bf
  have HTM := fun (y : Int) W h => spec_times b d fl y W h hfl hfd
  clear h hf
  obtain ⟨R, hR⟩ : ∃ R, firstOf L B fl most = R := ⟨_, rfl⟩
  have HR : Hid (firstOf L B fl most = R) := hR
  rw [hR]
  obtain ⟨n, hn⟩ : ∃ n, L.length = n := ⟨_, rfl⟩
  have HN : Hid (L.length = n) := hn
  obtain ⟨m, hm⟩ : ∃ m, fl.length = m := ⟨_, rfl⟩
  have b0 : Hid (boxB ((w.alloc (.cells #[.int .i64 x, .slice a n c] 29)).alloc (.cells #[.int .i64 0, .int .i64 0, .int .i64 0, .int .i64 0, .int .i64 0, .int .i64 0] 39)) w.heap.size #[.int .i64 x, .slice a n c] 29 ∧ boxB ((w.alloc (.cells #[.int .i64 x, .slice a n c] 29)).alloc (.cells #[.int .i64 0, .int .i64 0, .int .i64 0, .int .i64 0, .int .i64 0, .int .i64 0] 39)) (w.heap.size + 1) #[.int .i64 0, .int .i64 0, .int .i64 0, .int .i64 0, .int .i64 0, .int .i64 0] 39 ∧ Below w.heap.size w ((w.alloc (.cells #[.int .i64 x, .slice a n c] 29)).alloc (.cells #[.int .i64 0, .int .i64 0, .int .i64 0, .int .i64 0, .int .i64 0, .int .i64 0] 39))) := ⟨(boxB.new _ _ _).below (n1 _ _), new2 _ _ _ _, n2 _ _ _⟩
  rw [hn] at hl hc HOT ⊢
  rw [hm] at hfl hfd HTM ⊢
  clear hn hm hR
  go_enter Try.func35, Try.ntmps35
  go_wp2
  go_loopw [8] (fun t8 wr => ∃ k : Nat, k ≤ 4 ∧ t8 = .int .i64 (k : Int) ∧ Hid (∀ t : Nat, t < k → (tierOf L (t : Int) B).find? (isFree fl most) = none) ∧ Hid (boxB wr w.heap.size #[.int .i64 x, .slice a n c] 29 ∧ boxB wr (w.heap.size + 1) #[.int .i64 0, .int .i64 0, .int .i64 0, .int .i64 0, .int .i64 0, .int .i64 0] 39 ∧ Below w.heap.size w wr)) (fun t8 _ => 4 - (intOf t8).toNat)
  case atStart => exact ⟨0, by omega, rfl, fun t ht => by omega, b0⟩
  case round =>
    obtain ⟨k, hk, rfl, HK, HW⟩ := hrel
    clear b0
    by_cases hlt : k < 4
    · have hli : (k : Int) < 4 := by omega
      have l0 := HW.out.1.cell 0
      have l1 := HW.out.1.cell 1
      have HT := HOT k
      obtain ⟨M, hM⟩ : ∃ M, tierOf L (k : Int) B = M := ⟨_, rfl⟩
      have HM : Hid (tierOf L (k : Int) B = M) := hM
      have hml : M.length ≤ 1048577 := by
        rw [← hM]
        exact Nat.le_trans (List.length_filter_le _ _) (by rw [HN.out]; exact hl)
      rw [hM] at HT
      clear hM
      go_wp2_with fail
      refine (HT _ (HA.out.below HW.out.2.2)).mono ?_
      rintro e w7 ⟨a2, c2, rfl, hc2, hh, b7⟩
      have B7 : Hid (boxB w7 w.heap.size #[.int .i64 x, .slice a n c] 29 ∧ boxB w7 (w.heap.size + 1) #[.int .i64 0, .int .i64 0, .int .i64 0, .int .i64 0, .int .i64 0, .int .i64 0] 39 ∧ Below w.heap.size w w7) := ⟨HW.out.1.below b7, HW.out.2.1.below b7, HW.out.2.2.trans (b7.mono HW.out.2.2.size)⟩
      have HO : Hid (Own 39 6 ReqKit.cells w7 a2 M) := hh.get (by simp)
      clear b7 hh l0 l1 HT HW
      obtain ⟨q, hq⟩ : ∃ q, M.length = q := ⟨_, rfl⟩
      have HQ : Hid (M.length = q) := hq
      rw [hq] at hc2 hml ⊢
      clear hq
      go_wp2
      go_loopw [19] (fun i wi => ∃ j : Nat, j ≤ q ∧ i = .int .i64 (j : Int) ∧ Hid (∀ (i : Nat) (h : i < M.length), i < j → isFree fl most M[i] = false) ∧ Hid (Below w7.heap.size w7 wi)) (fun i _ => q - (intOf i).toNat)
      case atStart => exact ⟨0, by omega, rfl, fun i _ hi => by omega, Below.refl _ _⟩
      case round =>
        obtain ⟨j, hj, rfl, HJ, HI⟩ := hrel
        obtain ⟨wi, hwi⟩ : ∃ v, v = wr := ⟨_, rfl⟩
        rw [← hwi] at HI ⊢
        clear hwi
        by_cases hjq : j < q
        · have hj2 : j < M.length := by rw [HQ.out]; exact hjq
          rcases HO.out with hnil | ⟨g, o, rfl, hrw⟩
          · rw [hnil] at hj2; simp at hj2
          · have hr1 : Row 39 6 ReqKit.cells wi g o M := hrw.below HI.out
            obtain ⟨sx, hsx⟩ : ∃ s, M[j] = s := ⟨_, rfl⟩
            obtain ⟨x0, x1, x2, x3, x4, x5⟩ := sx
            have u9 := fun jj hjj => (hr1).cell j hj2 jj hjj
            have p0 : wi.cell? ⟨g, o + j * 6, none⟩ = some (.int .i64 x0) := by have h9 := u9 0 (by omega); rw [hsx] at h9; exact h9
            have p1 : wi.cell? ⟨g, o + j * 6 + 1, none⟩ = some (.int .i64 x1) := by have h9 := u9 1 (by omega); rw [hsx] at h9; exact h9
            have p2 : wi.cell? ⟨g, o + j * 6 + 2, none⟩ = some (.int .i64 x2) := by have h9 := u9 2 (by omega); rw [hsx] at h9; exact h9
            have p3 : wi.cell? ⟨g, o + j * 6 + 3, none⟩ = some (.int .i64 x3) := by have h9 := u9 3 (by omega); rw [hsx] at h9; exact h9
            have p4 : wi.cell? ⟨g, o + j * 6 + 4, none⟩ = some (.int .i64 x4) := by have h9 := u9 4 (by omega); rw [hsx] at h9; exact h9
            have p5 : wi.cell? ⟨g, o + j * 6 + 5, none⟩ = some (.int .i64 x5) := by have h9 := u9 5 (by omega); rw [hsx] at h9; exact h9
            clear u9
            have hjl : (j : Int) < (q : Int) := by omega
            have hjc : (j : Int) < (c2 : Int) := by omega
            have HS : Hid (M[j] = ⟨x0, x1, x2, x3, x4, x5⟩) := hsx
            have BI : Hid (boxB wi w.heap.size #[.int .i64 x, .slice a n c] 29 ∧ boxB wi (w.heap.size + 1) #[.int .i64 0, .int .i64 0, .int .i64 0, .int .i64 0, .int .i64 0, .int .i64 0] 39 ∧ Below w.heap.size w wi) := ⟨B7.out.1.below HI.out, B7.out.2.1.below HI.out, B7.out.2.2.trans (HI.out.mono B7.out.2.2.size)⟩
            have HT := HTM x2
            obtain ⟨u, hu⟩ : ∃ u, timesOf fl x2 = u := ⟨_, rfl⟩
            have HU : Hid (timesOf fl x2 = u) := hu
            rw [hu] at HT
            have hz : w.heap.size + 1 < wi.heap.size := BI.out.2.1.lt
            clear hr1 hrw hsx hu
            by_cases hfree : (u : Int) < most
            · have hf1 : decide ((u : Int) < most) = true := by simpa using hfree
              have HP : Hid (isFree fl most ⟨x0, x1, x2, x3, x4, x5⟩ = true) := by
                show decide _ = true
                simp only [HU.out]
                exact hf1
              have HRR : Hid (R = some ⟨x0, x1, x2, x3, x4, x5⟩) := by
                show R = _
                rw [← HR.out]
                exact first_hit hlt HK.out (by rw [HM.out]; exact find_hit hj2 HS.out HP.out HJ.out)
              have d0 := BI.out.2.1.cell 0
              have f0 := fzB BI.out.2.1 0
              have d1 := BI.out.2.1.cell 1
              have f1 := fzB BI.out.2.1 1
              have d2 := BI.out.2.1.cell 2
              have f2 := fzB BI.out.2.1 2
              have d3 := BI.out.2.1.cell 3
              have f3 := fzB BI.out.2.1 3
              have d4 := BI.out.2.1.cell 4
              have f4 := fzB BI.out.2.1 4
              have d5 := BI.out.2.1.cell 5
              have f5 := fzB BI.out.2.1 5
              have G0 : Hid (boxB ((((((wi.setCell ⟨w.heap.size + 1, 0, none⟩ (.int .i64 x0)).setCell ⟨w.heap.size + 1, 1, none⟩ (.int .i64 x1)).setCell ⟨w.heap.size + 1, 2, none⟩ (.int .i64 x2)).setCell ⟨w.heap.size + 1, 3, none⟩ (.int .i64 x3)).setCell ⟨w.heap.size + 1, 4, none⟩ (.int .i64 x4)).setCell ⟨w.heap.size + 1, 5, none⟩ (.int .i64 x5)) (w.heap.size + 1) #[.int .i64 x0, .int .i64 x1, .int .i64 x2, .int .i64 x3, .int .i64 x4, .int .i64 x5] 39 ∧ Below w.heap.size w ((((((wi.setCell ⟨w.heap.size + 1, 0, none⟩ (.int .i64 x0)).setCell ⟨w.heap.size + 1, 1, none⟩ (.int .i64 x1)).setCell ⟨w.heap.size + 1, 2, none⟩ (.int .i64 x2)).setCell ⟨w.heap.size + 1, 3, none⟩ (.int .i64 x3)).setCell ⟨w.heap.size + 1, 4, none⟩ (.int .i64 x4)).setCell ⟨w.heap.size + 1, 5, none⟩ (.int .i64 x5))) := by
                refine ⟨BI.out.2.1.set 0 _ |>.set 1 _ |>.set 2 _ |>.set 3 _ |>.set 4 _ |>.set 5 _, ((((((BI.out.2.2).setCell (Nat.le_add_right _ 1) _).setCell (Nat.le_add_right _ 1) _).setCell (Nat.le_add_right _ 1) _).setCell (Nat.le_add_right _ 1) _).setCell (Nat.le_add_right _ 1) _).setCell (Nat.le_add_right _ 1) _⟩
              have G : Hid (boxB (((((((wi.setCell ⟨w.heap.size + 1, 0, none⟩ (.int .i64 x0)).setCell ⟨w.heap.size + 1, 1, none⟩ (.int .i64 x1)).setCell ⟨w.heap.size + 1, 2, none⟩ (.int .i64 x2)).setCell ⟨w.heap.size + 1, 3, none⟩ (.int .i64 x3)).setCell ⟨w.heap.size + 1, 4, none⟩ (.int .i64 x4)).setCell ⟨w.heap.size + 1, 5, none⟩ (.int .i64 x5)).alloc (.cells #[.int .i64 x0, .int .i64 x1, .int .i64 x2, .int .i64 x3, .int .i64 x4, .int .i64 x5] 39)) (w.heap.size + 1) #[.int .i64 x0, .int .i64 x1, .int .i64 x2, .int .i64 x3, .int .i64 x4, .int .i64 x5] 39 ∧ Below w.heap.size w (((((((wi.setCell ⟨w.heap.size + 1, 0, none⟩ (.int .i64 x0)).setCell ⟨w.heap.size + 1, 1, none⟩ (.int .i64 x1)).setCell ⟨w.heap.size + 1, 2, none⟩ (.int .i64 x2)).setCell ⟨w.heap.size + 1, 3, none⟩ (.int .i64 x3)).setCell ⟨w.heap.size + 1, 4, none⟩ (.int .i64 x4)).setCell ⟨w.heap.size + 1, 5, none⟩ (.int .i64 x5)).alloc (.cells #[.int .i64 x0, .int .i64 x1, .int .i64 x2, .int .i64 x3, .int .i64 x4, .int .i64 x5] 39))) := ⟨G0.out.1.below (n1 _ _), G0.out.2.alloc G0.out.2.size _⟩
              clear G0
              clear hfree
              go_wp2_with (go_at_call 57; refine (HT _ (HFL.out.below (BI.out.2.2.alloc BI.out.2.2.size _))).mono ?_; rintro e w9 ⟨rfl, hw9⟩; rw [hw9]; clear hw9 w9)
              generalize (((((((wi.setCell ⟨w.heap.size + 1, 0, none⟩ (.int .i64 x0)).setCell ⟨w.heap.size + 1, 1, none⟩ (.int .i64 x1)).setCell ⟨w.heap.size + 1, 2, none⟩ (.int .i64 x2)).setCell ⟨w.heap.size + 1, 3, none⟩ (.int .i64 x3)).setCell ⟨w.heap.size + 1, 4, none⟩ (.int .i64 x4)).setCell ⟨w.heap.size + 1, 5, none⟩ (.int .i64 x5)).alloc (.cells #[.int .i64 x0, .int .i64 x1, .int .i64 x2, .int .i64 x3, .int .i64 x4, .int .i64 x5] 39)) = vz at *
              clear d0 d1 d2 d3 d4 d5 f0 f1 f2 f3 f4 f5
              have d0 := G.out.1.cell 0
              have d1 := G.out.1.cell 1
              have d2 := G.out.1.cell 2
              have d3 := G.out.1.cell 3
              have d4 := G.out.1.cell 4
              have d5 := G.out.1.cell 5
              refine bodyPost_ret (v := .tuple #[.agg #[.int .i64 x0, .int .i64 x1, .int .i64 x2, .int .i64 x3, .int .i64 x4, .int .i64 x5], .bool true]) (by simp [results, Try.results35, go_sem, d0, d1, d2, d3, d4, d5]) rfl ⟨?_, G.out.2⟩
              rw [HRR.out]
              rfl
            · have hf1 : decide ((u : Int) < most) = false := by simpa using hfree
              have HJ2 : Hid (∀ (i : Nat) (h : i < M.length), i < j + 1 → isFree fl most M[i] = false) := fun i hi hij => by
                by_cases e : i = j
                · subst e
                  rw [HS.out]
                  show decide _ = false
                  simp only [HU.out]
                  exact hf1
                · exact HJ.out i hi (by omega)
              have HI2 : Hid (Below w7.heap.size w7 (wi.alloc (.cells #[.int .i64 x0, .int .i64 x1, .int .i64 x2, .int .i64 x3, .int .i64 x4, .int .i64 x5] 39))) := HI.out.alloc HI.out.size _
              clear hfree HJ
              go_wp2_with (go_at_call 57; refine (HT _ (HFL.out.below (BI.out.2.2.alloc BI.out.2.2.size _))).mono ?_; rintro e w9 ⟨rfl, hw9⟩; rw [hw9]; clear hw9 w9)
              go_roundw
              case rel => exact ⟨j + 1, by omega, by go_num, HJ2, HI2⟩
              case measure => simp [intOf]; omega
        · obtain rfl : j = q := by omega
          have HK2 : Hid (∀ t : Nat, t < k + 1 → (tierOf L (t : Int) B).find? (isFree fl most) = none) := fun t ht => by
            by_cases e : t = k
            · subst e
              rw [HM.out]
              exact find_no (fun i hi => HJ.out i hi (by rw [← HQ.out]; exact hi))
            · exact HK.out t (by omega)
          have BI : Hid (boxB wi w.heap.size #[.int .i64 x, .slice a n c] 29 ∧ boxB wi (w.heap.size + 1) #[.int .i64 0, .int .i64 0, .int .i64 0, .int .i64 0, .int .i64 0, .int .i64 0] 39 ∧ Below w.heap.size w wi) := ⟨B7.out.1.below HI.out, B7.out.2.1.below HI.out, B7.out.2.2.trans (HI.out.mono B7.out.2.2.size)⟩
          clear HK HJ
          go_wp2
          go_roundw
          case rel => exact ⟨k + 1, by omega, by go_num, HK2, BI⟩
          case measure => simp [intOf]; omega
    · obtain rfl : k = 4 := by omega
      have HRR : Hid (R = none) := by
        show R = none
        rw [← HR.out]
        exact first_no HK.out
      have hz : w.heap.size + 1 < wr.heap.size := HW.out.2.1.lt
      have d0 := HW.out.2.1.cell 0
      have f0 := fzB HW.out.2.1 0
      have d1 := HW.out.2.1.cell 1
      have f1 := fzB HW.out.2.1 1
      have d2 := HW.out.2.1.cell 2
      have f2 := fzB HW.out.2.1 2
      have d3 := HW.out.2.1.cell 3
      have f3 := fzB HW.out.2.1 3
      have d4 := HW.out.2.1.cell 4
      have f4 := fzB HW.out.2.1 4
      have d5 := HW.out.2.1.cell 5
      have f5 := fzB HW.out.2.1 5
      go_wp2
      refine bodyPost_ret (v := .tuple #[.agg #[.int .i64 0, .int .i64 0, .int .i64 0, .int .i64 0, .int .i64 0, .int .i64 0], .bool false]) (by simp [results, Try.results35, go_sem, d0, d1, d2, d3, d4, d5]) rfl ⟨?_, ?_⟩
      · rw [HRR.out]
        rfl
      · exact ((((((HW.out.2.2).setCell (Nat.le_add_right _ 1) _).setCell (Nat.le_add_right _ 1) _).setCell (Nat.le_add_right _ 1) _).setCell (Nat.le_add_right _ 1) _).setCell (Nat.le_add_right _ 1) _).setCell (Nat.le_add_right _ 1) _
end Go.Proofs.Ytiodnkehfeigoaa.QueFirstS
