/- What the model's l07Out answers, at every queue and place: the queue without the one at that place, its list new; nothing else turns. -/
import Derived.Test.YtnejomfaojpicaaRows
import Derived.WalkKit
import Derived.WalkSmall
import Derived.BigQuiet
import Derived.Deep.RegionWith
import Derived.Deep.DeepCutAuto
import Derived.Test.YtnejomfaojpicaaListKit
import Derived.Test.YtnejomfaojpicaaHoldKit
import Derived.Test.YtnejomfaojpicaaGrowKit
import Derived.Test.YtnejomfaojpicaaReqKit
import Derived.Test.YtnejomfaojpicaaReqOks
import Derived.Test.YtnejomfaojpicaaQueMath
import Derived.Test.YtnejomfaojpicaaQueOkS
import Derived.Test.YtnejomfaojpicaaQueTierS
namespace Go.Proofs.Ytnejomfaojpicaa.QueOutS
open Go.RowKit ListKit HoldKit GrowKit QueMath QueTierS
set_option maxRecDepth 8000
set_option linter.unusedVariables false
set_option linter.unusedSimpArgs false

/-- The first of a list, without the one at a place. -/
def outTo (L : List ReqKit.Req) (i : Int) (k : Nat) : List ReqKit.Req := (List.range k).filterMap fun (j : Nat) => if (j : Int) = i then none else L[j]?
def outOf (L : List ReqKit.Req) (i : Int) : List ReqKit.Req := outTo L i L.length
theorem out_next (L : List ReqKit.Req) (i : Int) (k : Nat) (h : k < L.length) : outTo L i (k + 1) = outTo L i k ++ (if (k : Int) = i then [] else [L[k]]) := by
  unfold outTo
  rw [List.range_succ, List.filterMap_append]
  congr 1
  by_cases e : (k : Int) = i <;> simp [e, h]
theorem out_len (L : List ReqKit.Req) (i : Int) (k : Nat) : (outTo L i k).length ≤ k := Nat.le_trans (List.length_filterMap_le _ _) (by rw [List.length_range]; exact Nat.le_refl _)
theorem sz3' (w : World) (A B C : Obj) : (((w.alloc A).alloc B).alloc C).heap.size = w.heap.size + 1 + 1 + 1 := sz3 _ _ _ _
/-- The answer: a queue, its list new. -/
def QAns (w : World) (x : Int) (M : List ReqKit.Req) (e : Ending) (w' : World) : Prop := ∃ a2 c2, e = .returned (.agg #[.int .i64 x, .slice a2 M.length c2]) ∧ M.length ≤ c2 ∧ Holds w' w.heap.size [⟨a2, 27, 6, M.map ReqKit.cells⟩] ∧ Below w.heap.size w w'
set_option maxHeartbeats 8000000 in
theorem spec_out (x : Int) (a : Option Addr) (c : Nat) (L : List ReqKit.Req) (tn : Int) (w : World) (h : Own 27 6 ReqKit.cells w a L) (hl : L.length ≤ 1048577) (hc : L.length ≤ c) :
    Calls Try.prog 38 #[.agg #[.int .i64 x, .slice a L.length c], .int .i64 tn] w (QAns w x (outOf L tn)) := by
  have HA : Hid (Own 27 6 ReqKit.cells w a L) := h
  clear h
  obtain ⟨n, hn⟩ : ∃ n, L.length = n := ⟨_, rfl⟩
  have HN : Hid (L.length = n) := hn
  have b0 : Hid ((GrowKit.Cp 27 6 ReqKit.cells (((w.alloc (.cells #[.int .i64 x, .slice a n c] 25)).alloc (.cells #[.int .i64 0, .slice none 0 0] 25)).alloc (.cells #[.int .i64 x, .slice none 0 0] 25)) (w.heap.size + 3) (.slice none 0 0) (outTo L tn 0) ∧ boxB (((w.alloc (.cells #[.int .i64 x, .slice a n c] 25)).alloc (.cells #[.int .i64 0, .slice none 0 0] 25)).alloc (.cells #[.int .i64 x, .slice none 0 0] 25)) w.heap.size #[.int .i64 x, .slice a n c] 25 ∧ boxB (((w.alloc (.cells #[.int .i64 x, .slice a n c] 25)).alloc (.cells #[.int .i64 0, .slice none 0 0] 25)).alloc (.cells #[.int .i64 x, .slice none 0 0] 25)) (w.heap.size + 1) #[.int .i64 0, .slice none 0 0] 25 ∧ boxB (((w.alloc (.cells #[.int .i64 x, .slice a n c] 25)).alloc (.cells #[.int .i64 0, .slice none 0 0] 25)).alloc (.cells #[.int .i64 x, .slice none 0 0] 25)) (w.heap.size + 1 + 1) #[.int .i64 x, (.slice none 0 0)] 25 ∧ Below w.heap.size w (((w.alloc (.cells #[.int .i64 x, .slice a n c] 25)).alloc (.cells #[.int .i64 0, .slice none 0 0] 25)).alloc (.cells #[.int .i64 x, .slice none 0 0] 25)))) := ⟨Cp.nil _ _, (boxB.new _ _ _).below (n2 _ _ _), (new2 _ _ _ _).below (n1 _ _), new3 _ _ _ _ _, n3 _ _ _ _⟩
  rw [hn] at hl hc ⊢
  clear hn
  go_enter Try.func38, Try.ntmps38
  go_wp2
  go_loopw [14] (fun i wr => ∃ (k : Nat) (va : Option Addr) (vc : Nat), k ≤ n ∧ i = .int .i64 (k : Int) ∧ Hid ((GrowKit.Cp 27 6 ReqKit.cells wr (w.heap.size + 3) (.slice va (outTo L tn k).length vc) (outTo L tn k) ∧ boxB wr w.heap.size #[.int .i64 x, .slice a n c] 25 ∧ boxB wr (w.heap.size + 1) #[.int .i64 0, .slice none 0 0] 25 ∧ boxB wr (w.heap.size + 1 + 1) #[.int .i64 x, (.slice va (outTo L tn k).length vc)] 25 ∧ Below w.heap.size w wr))) (fun i _ => n - (intOf i).toNat)
  case atStart => exact ⟨0, none, 0, by omega, rfl, b0⟩
  case round =>
    obtain ⟨k, va, vc, hk, rfl, HW⟩ := hrel
    clear b0
    by_cases hlt : k < n
    · have hlt2 : k < L.length := by rw [HN.out]; exact hlt
      rcases HA.out with hnil | ⟨g, o, rfl, hrw⟩
      · rw [hnil] at hlt2; simp at hlt2
      · have hr1 : Row 27 6 ReqKit.cells wr g o L := hrw.below HW.out.2.2.2.2
        obtain ⟨sx, hsx⟩ : ∃ s, L[k] = s := ⟨_, rfl⟩
        obtain ⟨x0, x1, x2, x3, x4, x5⟩ := sx
        have u9 := fun jj hjj => (hr1).cell k hlt2 jj hjj
        have p0 : wr.cell? ⟨g, o + k * 6, none⟩ = some (.int .i64 x0) := by have h9 := u9 0 (by omega); rw [hsx] at h9; exact h9
        have p1 : wr.cell? ⟨g, o + k * 6 + 1, none⟩ = some (.int .i64 x1) := by have h9 := u9 1 (by omega); rw [hsx] at h9; exact h9
        have p2 : wr.cell? ⟨g, o + k * 6 + 2, none⟩ = some (.int .i64 x2) := by have h9 := u9 2 (by omega); rw [hsx] at h9; exact h9
        have p3 : wr.cell? ⟨g, o + k * 6 + 3, none⟩ = some (.int .i64 x3) := by have h9 := u9 3 (by omega); rw [hsx] at h9; exact h9
        have p4 : wr.cell? ⟨g, o + k * 6 + 4, none⟩ = some (.int .i64 x4) := by have h9 := u9 4 (by omega); rw [hsx] at h9; exact h9
        have p5 : wr.cell? ⟨g, o + k * 6 + 5, none⟩ = some (.int .i64 x5) := by have h9 := u9 5 (by omega); rw [hsx] at h9; exact h9
        clear u9
        have hli : (k : Int) < (n : Int) := by omega
        have hkc : (k : Int) < (c : Int) := by omega
        have HST := out_next L tn k hlt2
        rw [hsx] at HST
        have HD := out_len L tn k
        obtain ⟨D, hD⟩ : ∃ D, outTo L tn k = D := ⟨_, rfl⟩
        rw [hD] at HST HD HW
        have HS2 : Hid (outTo L tn (k + 1) = D ++ (if (k : Int) = tn then [] else [⟨x0, x1, x2, x3, x4, x5⟩])) := HST
        have hz1 : w.heap.size + 3 ≤ wr.heap.size := HW.out.2.2.2.1.lt
        clear hr1 hsx hrw HST hD
        have B6 : Hid ((GrowKit.Cp 27 6 ReqKit.cells (wr.alloc (.cells #[.int .i64 x0, .int .i64 x1, .int .i64 x2, .int .i64 x3, .int .i64 x4, .int .i64 x5] 27)) (w.heap.size + 3) (.slice va D.length vc) (D) ∧ boxB (wr.alloc (.cells #[.int .i64 x0, .int .i64 x1, .int .i64 x2, .int .i64 x3, .int .i64 x4, .int .i64 x5] 27)) w.heap.size #[.int .i64 x, .slice (some ⟨g, o, none⟩) n c] 25 ∧ boxB (wr.alloc (.cells #[.int .i64 x0, .int .i64 x1, .int .i64 x2, .int .i64 x3, .int .i64 x4, .int .i64 x5] 27)) (w.heap.size + 1) #[.int .i64 0, .slice none 0 0] 25 ∧ boxB (wr.alloc (.cells #[.int .i64 x0, .int .i64 x1, .int .i64 x2, .int .i64 x3, .int .i64 x4, .int .i64 x5] 27)) (w.heap.size + 1 + 1) #[.int .i64 x, (.slice va D.length vc)] 25 ∧ Below w.heap.size w (wr.alloc (.cells #[.int .i64 x0, .int .i64 x1, .int .i64 x2, .int .i64 x3, .int .i64 x4, .int .i64 x5] 27))) ∧ boxB (wr.alloc (.cells #[.int .i64 x0, .int .i64 x1, .int .i64 x2, .int .i64 x3, .int .i64 x4, .int .i64 x5] 27)) wr.heap.size #[.int .i64 x0, .int .i64 x1, .int .i64 x2, .int .i64 x3, .int .i64 x4, .int .i64 x5] 27) :=
          ⟨⟨HW.out.1.below (n1 _ _), HW.out.2.1.below (n1 _ _), HW.out.2.2.1.below (n1 _ _), HW.out.2.2.2.1.below (n1 _ _), HW.out.2.2.2.2.alloc HW.out.2.2.2.2.size _⟩, boxB.new _ _ _⟩
        by_cases ht : (k : Int) = tn
        · have ht1 : ((k : Int) == tn) = true := by simpa using ht
          have HS3 : Hid (outTo L tn (k + 1) = D) := by
            show _ = D
            rw [HS2.out, if_pos ht, List.append_nil]
          have HE : Hid ((GrowKit.Cp 27 6 ReqKit.cells (wr.alloc (.cells #[.int .i64 x0, .int .i64 x1, .int .i64 x2, .int .i64 x3, .int .i64 x4, .int .i64 x5] 27)) (w.heap.size + 3) (.slice va (outTo L tn (k + 1)).length vc) (outTo L tn (k + 1)) ∧ boxB (wr.alloc (.cells #[.int .i64 x0, .int .i64 x1, .int .i64 x2, .int .i64 x3, .int .i64 x4, .int .i64 x5] 27)) w.heap.size #[.int .i64 x, .slice (some ⟨g, o, none⟩) n c] 25 ∧ boxB (wr.alloc (.cells #[.int .i64 x0, .int .i64 x1, .int .i64 x2, .int .i64 x3, .int .i64 x4, .int .i64 x5] 27)) (w.heap.size + 1) #[.int .i64 0, .slice none 0 0] 25 ∧ boxB (wr.alloc (.cells #[.int .i64 x0, .int .i64 x1, .int .i64 x2, .int .i64 x3, .int .i64 x4, .int .i64 x5] 27)) (w.heap.size + 1 + 1) #[.int .i64 x, (.slice va (outTo L tn (k + 1)).length vc)] 25 ∧ Below w.heap.size w (wr.alloc (.cells #[.int .i64 x0, .int .i64 x1, .int .i64 x2, .int .i64 x3, .int .i64 x4, .int .i64 x5] 27)))) := by
            show _ ∧ _
            rw [HS3.out]
            exact B6.out.1
          have HT : Hid ((k : Int) = tn) := ht
          clear ht B6 HW
          go_wp2
          go_roundw
          case rel => exact ⟨k + 1, _, _, by omega, by go_num, HE⟩
          case measure => simp [intOf]; omega
        · have ht1 : ((k : Int) == tn) = false := by simpa using ht
          have HS3 : Hid (outTo L tn (k + 1) = D ++ [⟨x0, x1, x2, x3, x4, x5⟩]) := by
            show _ = D ++ [_]
            rw [HS2.out, if_neg ht]
          clear ht
          go_upto_region 6 with fail
          have hz2 : w.heap.size + 3 ≤ (wr.alloc (.cells #[.int .i64 x0, .int .i64 x1, .int .i64 x2, .int .i64 x3, .int .i64 x4, .int .i64 x5] 27)).heap.size := by rw [sz1]; omega
          clear p0 p1 p2 p3 p4 p5 HW
          generalize (wr.alloc (.cells #[.int .i64 x0, .int .i64 x1, .int .i64 x2, .int .i64 x3, .int .i64 x4, .int .i64 x5] 27)) = w7 at *
          have l0 := B6.out.1.2.2.2.1.cell 0
          have l1 := B6.out.1.2.2.2.1.cell 1
          have z1 := fzB B6.out.1.2.2.2.1 1
          have q0 := B6.out.2.cell 0
          have q1 := B6.out.2.cell 1
          have q2 := B6.out.2.cell 2
          have q3 := B6.out.2.cell 3
          have q4 := B6.out.2.cell 4
          have q5 := B6.out.2.cell 5
          obtain ⟨i0, hi, hy0, hy1, hy2⟩ := info_parts info_req
          go_wp2_with (at_builtin; refine wpList_append_own _ rfl (.tmp 23) (.tmp 25) 23 rfl (w.heap.size + 3) 27 i0 (.agg #[.int .i64 0, .int .i64 0, .int .i64 0, .int .i64 0, .int .i64 0, .int .i64 0]) 6 48 Try.underlying23 hi hy0 hy1 hy2 rfl (by decide) _ D.length (flat ReqKit.cells D) rfl (B6.out.1.1.below (n1 _ _)) ⟨w7.heap.size, 0, none⟩ 1 1 (ReqKit.cells ⟨x0, x1, x2, x3, x4, x5⟩) rfl rfl (new_cells w7 ⟨x0, x1, x2, x3, x4, x5⟩ 27) (cells_one _) (by unfold maxLen; omega) (by omega) (by rw [sz1]; omega) ?_; intro v8 w8 hown hgr _; have hcp : GrowKit.Cp 27 6 ReqKit.cells w8 (w.heap.size + 3) v8 (outTo L tn (k + 1)) := (by rw [HS3.out]; exact Cp.push hown); obtain ⟨va8, vc8, hv8, _, _⟩ := Cp.shape (t := 27) (m := 6) (f := ReqKit.cells) (fun _ => rfl) hcp; subst hv8; have hge := B6.out.1.1.ge; have HE : Hid (GrowKit.Cp 27 6 ReqKit.cells w8 (w.heap.size + 3) (.slice va8 (outTo L tn (k + 1)).length vc8) (outTo L tn (k + 1)) ∧ boxB w8 w.heap.size #[.int .i64 x, .slice (some ⟨g, o, none⟩) n c] 25 ∧ boxB w8 (w.heap.size + 1) #[.int .i64 0, .slice none 0 0] 25 ∧ boxB w8 (w.heap.size + 1 + 1) #[.int .i64 x, (.slice va D.length vc)] 25 ∧ Below w.heap.size w w8) := ⟨hcp, box_grown (B6.out.1.2.1.below (n1 _ _)) hgr (fun e => by have := hge _ e; omega), box_grown (B6.out.1.2.2.1.below (n1 _ _)) hgr (fun e => by have := hge _ e; omega), box_grown (B6.out.1.2.2.2.1.below (n1 _ _)) hgr (fun e => by have := hge _ e; omega), Cp.turned (B6.out.1.1.below (n1 _ _)) hgr (by omega) (B6.out.1.2.2.2.2.alloc B6.out.1.2.2.2.2.size _)⟩; have k1 := HE.out.2.2.2.1.cell 1; have j1 := fzB HE.out.2.2.2.1 1; clear hown hgr hcp hge)
          have HE2 : Hid ((GrowKit.Cp 27 6 ReqKit.cells (w8.setCell ⟨w.heap.size + 1 + 1, 1, none⟩ (.slice va8 (outTo L tn (k + 1)).length vc8)) (w.heap.size + 3) (.slice va8 (outTo L tn (k + 1)).length vc8) (outTo L tn (k + 1)) ∧ boxB (w8.setCell ⟨w.heap.size + 1 + 1, 1, none⟩ (.slice va8 (outTo L tn (k + 1)).length vc8)) w.heap.size #[.int .i64 x, .slice (some ⟨g, o, none⟩) n c] 25 ∧ boxB (w8.setCell ⟨w.heap.size + 1 + 1, 1, none⟩ (.slice va8 (outTo L tn (k + 1)).length vc8)) (w.heap.size + 1) #[.int .i64 0, .slice none 0 0] 25 ∧ boxB (w8.setCell ⟨w.heap.size + 1 + 1, 1, none⟩ (.slice va8 (outTo L tn (k + 1)).length vc8)) (w.heap.size + 1 + 1) #[.int .i64 x, (.slice va8 (outTo L tn (k + 1)).length vc8)] 25 ∧ Below w.heap.size w (w8.setCell ⟨w.heap.size + 1 + 1, 1, none⟩ (.slice va8 (outTo L tn (k + 1)).length vc8)))) := ⟨HE.out.1.set (by show w.heap.size + 1 + 1 < _; omega) _, HE.out.2.1.else (by show w.heap.size ≠ w.heap.size + 1 + 1; omega) _, HE.out.2.2.1.else (by show w.heap.size + 1 ≠ w.heap.size + 1 + 1; omega) _, HE.out.2.2.2.1.set 1 _, HE.out.2.2.2.2.setCell (Nat.le_add_right _ 2) _⟩
          go_roundw
          case rel => exact ⟨k + 1, _, _, by omega, by go_num, HE2⟩
          case measure => simp [intOf]; omega
    · obtain rfl : k = n := by omega
      have hfull : Hid (outTo L tn k = outOf L tn) := by
        show _ = outOf L tn
        rw [← HN.out]
        rfl
      rw [hfull.out] at HW
      have HL : Hid ((outOf L tn).length ≤ vc ∧ Holds wr (w.heap.size + 3) [⟨va, 27, 6, (outOf L tn).map ReqKit.cells⟩]) := by
        obtain ⟨a3, c3, h3, h4, h5⟩ := Cp.shape (t := 27) (m := 6) (f := ReqKit.cells) (fun _ => rfl) HW.out.1
        injection h3 with e1 e2 e3
        subst e1 e3
        exact ⟨h4, h5⟩
      have l0 := HW.out.2.2.2.1.cell 0
      have l1 := HW.out.2.2.2.1.cell 1
      have d0 := HW.out.2.2.1.cell 0
      have d1 := HW.out.2.2.1.cell 1
      have f0 := fzB HW.out.2.2.1 0
      have f1 := fzB HW.out.2.2.1 1
      go_wp2
      refine bodyPost_ret (v := .agg #[.int .i64 x, .slice va (outOf L tn).length vc]) (by simp [results, Try.results38, go_sem, d0, d1]) rfl ⟨va, vc, rfl, HL.out.1, ?_, ?_⟩
      · exact ((HL.out.2.set (by show w.heap.size + 1 < _; omega) _).set (by show w.heap.size + 1 < _; omega) _).low (by omega)
      · exact (HW.out.2.2.2.2.setCell (Nat.le_add_right _ 1) _).setCell (Nat.le_add_right _ 1) _
end Go.Proofs.Ytnejomfaojpicaa.QueOutS
