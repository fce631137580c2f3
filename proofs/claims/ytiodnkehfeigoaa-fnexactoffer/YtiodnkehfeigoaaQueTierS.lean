/- What the model's OfTier answers, at every queue and tier: its requests of that tier, in a list of its own; nothing else turns. -/
import Derived.Test.YtiodnkehfeigoaaRows
import Derived.WalkKit
import Derived.WalkSmall
import Derived.BigQuiet
import Derived.Deep.RegionWith
import Derived.Deep.DeepCutAuto
import Derived.Test.YtiodnkehfeigoaaListKit
import Derived.Test.YtiodnkehfeigoaaHoldKit
import Derived.Test.YtiodnkehfeigoaaGrowKit
import Derived.Test.YtiodnkehfeigoaaReqKit
import Derived.Test.YtiodnkehfeigoaaReqOks
import Derived.Test.YtiodnkehfeigoaaQueMath
import Derived.Test.YtiodnkehfeigoaaQueOkS
namespace Go.Proofs.Ytiodnkehfeigoaa.QueTierS
open Go.RowKit ListKit HoldKit GrowKit QueMath
set_option maxRecDepth 8000
set_option linter.unusedVariables false
set_option linter.unusedSimpArgs false

/-- A request of this tier, where the queue is right. -/
def ofTier (n : Int) (B : Bool) (s : ReqKit.Req) : Bool := (s.x1 == n) && B
def tierOf (L : List ReqKit.Req) (n : Int) (B : Bool) : List ReqKit.Req := L.filter (ofTier n B)
theorem filter_take {p : ReqKit.Req → Bool} (L : List ReqKit.Req) (k : Nat) (h : k < L.length) : (L.take (k + 1)).filter p = (L.take k).filter p ++ (if p L[k] = true then [L[k]] else []) := by
  rw [List.take_add_one, List.getElem?_eq_getElem h, List.filter_append]
  congr 1
  simp [List.filter]
  split <;> simp_all
theorem filter_len {p : ReqKit.Req → Bool} (L : List ReqKit.Req) (k : Nat) : ((L.take k).filter p).length ≤ k := Nat.le_trans (List.length_filter_le _ _) (by rw [List.length_take]; omega)
theorem info_req : (Try.prog.info? 39).map (fun i => (i.zero, i.size, i.bytes)) = some (some (.agg #[.int .i64 0, .int .i64 0, .int .i64 0, .int .i64 0, .int .i64 0, .int .i64 0]), 6, 48) := by kernel_rfl
theorem cells_one (s : ReqKit.Req) : ∀ u ∈ ReqKit.cells s, u.oneCell' = true := by
  intro u hu
  simp [ReqKit.cells] at hu
  rcases hu with rfl | rfl | rfl | rfl | rfl | rfl <;> rfl
theorem new_cells (w : World) (s : ReqKit.Req) (t : TypeId) : ∀ j u, (ReqKit.cells s)[j]? = some u → (w.alloc (.cells (ReqKit.cells s).toArray t)).cell? ((⟨w.heap.size, 0, none⟩ : Addr).add j) = some u := fun j u hu => by
  rw [Addr.add_lit, Nat.zero_add, (boxB.new w (ReqKit.cells s).toArray t).cell j]
  simpa using hu

set_option maxHeartbeats 8000000 in
theorem spec_oftier (x : Int) (a : Option Addr) (c : Nat) (L : List ReqKit.Req) (tn : Int) (B : Bool) (w : World) (h : Own 39 6 ReqKit.cells w a L) (hl : L.length ≤ 1048577) (hc : L.length ≤ c) (bf : Hid (B = true ↔ QueOk x L)) :
    Calls Try.prog 26 #[.agg #[.int .i64 x, .slice a L.length c], .int .i64 tn] w fun e w' => ∃ a2 c2, e = .returned (.slice a2 (tierOf L tn B).length c2) ∧ (tierOf L tn B).length ≤ c2 ∧ Holds w' w.heap.size [⟨a2, 39, 6, (tierOf L tn B).map ReqKit.cells⟩] ∧ Below w.heap.size w w' := by
  have HA : Hid (Own 39 6 ReqKit.cells w a L) := h
  clear h
  obtain ⟨n, hn⟩ : ∃ n, L.length = n := ⟨_, rfl⟩
  have HN : Hid (L.length = n) := hn
  have HL : Hid (L.length ≤ 1048577 ∧ L.length ≤ c) := ⟨hl, hc⟩
  have b0 : Hid (GrowKit.Cp 39 6 ReqKit.cells ((w.alloc (.cells #[.int .i64 x, .slice a n c] 29)).alloc (.cells #[] 39)) (w.heap.size + 1) (.slice (some ⟨w.heap.size + 1, 0, none⟩) 0 0) ([]) ∧ boxB ((w.alloc (.cells #[.int .i64 x, .slice a n c] 29)).alloc (.cells #[] 39)) w.heap.size #[.int .i64 x, .slice a n c] 29 ∧ Below w.heap.size w ((w.alloc (.cells #[.int .i64 x, .slice a n c] 29)).alloc (.cells #[] 39))) := by
    have h9 := Cp.empty (t := 39) (m := 6) (f := ReqKit.cells) (w.alloc (.cells #[.int .i64 x, .slice a n c] 29)) (B := w.heap.size + 1) (by simp)
    rw [sz1] at h9
    exact ⟨h9, (boxB.new _ _ _).below (n1 _ _), n2 _ _ _⟩
  rw [hn] at hl hc ⊢
  clear hn
  go_enter Try.func26, Try.ntmps26
  go_wp2
  go_loopw [5, 7, 12] (fun t5 t7 i wr => ∃ (k : Nat) (v : Value), k ≤ n ∧ t5 = v ∧ i = .int .i64 (k : Int) ∧ Hid (GrowKit.Cp 39 6 ReqKit.cells wr (w.heap.size + 1) v ((L.take k).filter (ofTier tn B)) ∧ boxB wr w.heap.size #[.int .i64 x, .slice a n c] 29 ∧ Below w.heap.size w wr)) (fun _ _ i _ => n - (intOf i).toNat)
  case atStart => exact ⟨0, _, by omega, rfl, rfl, b0⟩
  case round =>
    obtain ⟨k, v, hk, rfl, rfl, HW⟩ := hrel
    clear b0
    by_cases hlt : k < n
    · have hlt2 : k < L.length := by rw [HN.out]; exact hlt
      rcases HA.out with hnil | ⟨g, o, rfl, hrw⟩
      · rw [hnil] at hlt2; simp at hlt2
      · have hr1 : Row 39 6 ReqKit.cells wr g o L := hrw.below HW.out.2.2
        obtain ⟨sx, hsx⟩ : ∃ s, L[k] = s := ⟨_, rfl⟩
        obtain ⟨x0, x1, x2, x3, x4, x5⟩ := sx
        have u9 := fun j hj => (hr1).cell k hlt2 j hj
        have p0 : wr.cell? ⟨g, o + k * 6, none⟩ = some (.int .i64 x0) := by have h9 := u9 0 (by omega); rw [hsx] at h9; exact h9
        have p1 : wr.cell? ⟨g, o + k * 6 + 1, none⟩ = some (.int .i64 x1) := by have h9 := u9 1 (by omega); rw [hsx] at h9; exact h9
        have p2 : wr.cell? ⟨g, o + k * 6 + 2, none⟩ = some (.int .i64 x2) := by have h9 := u9 2 (by omega); rw [hsx] at h9; exact h9
        have p3 : wr.cell? ⟨g, o + k * 6 + 3, none⟩ = some (.int .i64 x3) := by have h9 := u9 3 (by omega); rw [hsx] at h9; exact h9
        have p4 : wr.cell? ⟨g, o + k * 6 + 4, none⟩ = some (.int .i64 x4) := by have h9 := u9 4 (by omega); rw [hsx] at h9; exact h9
        have p5 : wr.cell? ⟨g, o + k * 6 + 5, none⟩ = some (.int .i64 x5) := by have h9 := u9 5 (by omega); rw [hsx] at h9; exact h9
        clear u9
        have hli : (k : Int) < (n : Int) := by omega
        have hkc : (k : Int) < (c : Int) := by omega
        have HS : Hid (L[k] = ⟨x0, x1, x2, x3, x4, x5⟩) := hsx
        have HR : Hid (Row 39 6 ReqKit.cells wr g o L) := hr1
        have HST := filter_take (p := ofTier tn B) L k hlt2
        rw [hsx] at HST
        have HD := filter_len (p := ofTier tn B) L k
        obtain ⟨D, hD⟩ : ∃ D, (L.take k).filter (ofTier tn B) = D := ⟨_, rfl⟩
        rw [hD] at HST HD HW
        have HS2 : Hid ((L.take (k + 1)).filter (ofTier tn B) = D ++ (if ofTier tn B ⟨x0, x1, x2, x3, x4, x5⟩ = true then [⟨x0, x1, x2, x3, x4, x5⟩] else [])) := HST
        have HQ := fun W h => QueOkS.spec_queueok x (some ⟨g, o, none⟩) c L B W h HL.out.1 HL.out.2 bf
        rw [HN.out] at HQ
        have hz1 : w.heap.size + 1 ≤ wr.heap.size := HW.out.2.1.lt
        clear hr1 hsx hrw HST hD
        by_cases ht : x1 = tn
        · have ht1 : (x1 == tn) = true := by simpa using ht
          have HT : Hid (x1 = tn) := ht
          clear ht
          go_upto_region 5 with fail
          have B6 : Hid (GrowKit.Cp 39 6 ReqKit.cells (wr.alloc (.cells #[.int .i64 x0, .int .i64 x1, .int .i64 x2, .int .i64 x3, .int .i64 x4, .int .i64 x5] 39)) (w.heap.size + 1) u5 (D) ∧ boxB (wr.alloc (.cells #[.int .i64 x0, .int .i64 x1, .int .i64 x2, .int .i64 x3, .int .i64 x4, .int .i64 x5] 39)) w.heap.size #[.int .i64 x, .slice (some ⟨g, o, none⟩) n c] 29 ∧ Below w.heap.size w (wr.alloc (.cells #[.int .i64 x0, .int .i64 x1, .int .i64 x2, .int .i64 x3, .int .i64 x4, .int .i64 x5] 39)) ∧ boxB (wr.alloc (.cells #[.int .i64 x0, .int .i64 x1, .int .i64 x2, .int .i64 x3, .int .i64 x4, .int .i64 x5] 39)) wr.heap.size #[.int .i64 x0, .int .i64 x1, .int .i64 x2, .int .i64 x3, .int .i64 x4, .int .i64 x5] 39 ∧ Own 39 6 ReqKit.cells (wr.alloc (.cells #[.int .i64 x0, .int .i64 x1, .int .i64 x2, .int .i64 x3, .int .i64 x4, .int .i64 x5] 39)) (some ⟨g, o, none⟩) L) :=
            ⟨HW.out.1.below (n1 _ _), HW.out.2.1.below (n1 _ _), HW.out.2.2.alloc HW.out.2.2.size _, boxB.new _ _ _, Or.inr ⟨g, o, rfl, HR.out.below (n1 _ _)⟩⟩
          have hz2 : w.heap.size + 1 ≤ (wr.alloc (.cells #[.int .i64 x0, .int .i64 x1, .int .i64 x2, .int .i64 x3, .int .i64 x4, .int .i64 x5] 39)).heap.size := by rw [sz1]; omega
          clear p0 p1 p2 p3 p4 p5 HR HW
          generalize (wr.alloc (.cells #[.int .i64 x0, .int .i64 x1, .int .i64 x2, .int .i64 x3, .int .i64 x4, .int .i64 x5] 39)) = W6 at *
          have l0 := B6.out.2.1.cell 0
          have l1 := B6.out.2.1.cell 1
          have q0 := B6.out.2.2.2.1.cell 0
          have q1 := B6.out.2.2.2.1.cell 1
          have q2 := B6.out.2.2.2.1.cell 2
          have q3 := B6.out.2.2.2.1.cell 3
          have q4 := B6.out.2.2.2.1.cell 4
          have q5 := B6.out.2.2.2.1.cell 5
          go_wp2_with fail
          refine (HQ _ B6.out.2.2.2.2).mono ?_
          rintro e w7 ⟨rfl, b7⟩
          have B7 : Hid (GrowKit.Cp 39 6 ReqKit.cells w7 (w.heap.size + 1) u5 (D) ∧ boxB w7 w.heap.size #[.int .i64 x, .slice (some ⟨g, o, none⟩) n c] 29 ∧ Below w.heap.size w w7 ∧ boxB w7 wr.heap.size #[.int .i64 x0, .int .i64 x1, .int .i64 x2, .int .i64 x3, .int .i64 x4, .int .i64 x5] 39) := ⟨B6.out.1.below b7, B6.out.2.1.below b7, B6.out.2.2.1.trans (b7.mono B6.out.2.2.1.size), B6.out.2.2.2.1.below b7⟩
          have hz3 : w.heap.size + 1 ≤ w7.heap.size := Nat.le_trans hz2 b7.size
          clear b7 B6 l0 l1 q0 q1 q2 q3 q4 q5 hz2
          cases B with
          | false =>
            have HS3 : Hid ((L.take (k + 1)).filter (ofTier tn false) = D) := by
              show _ = D
              rw [HS2.out]
              simp [ofTier]
            have HE : Hid (GrowKit.Cp 39 6 ReqKit.cells w7 (w.heap.size + 1) u5 ((L.take (k + 1)).filter (ofTier tn false)) ∧ boxB w7 w.heap.size #[.int .i64 x, .slice (some ⟨g, o, none⟩) n c] 29 ∧ Below w.heap.size w w7) := ⟨by rw [HS3.out]; exact B7.out.1, B7.out.2.1, B7.out.2.2.1⟩
            go_wp2
            go_roundw
            case rel => exact ⟨k + 1, _, by omega, rfl, by go_num, HE⟩
            case measure => simp [intOf]; omega
          | true =>
            have HS3 : Hid ((L.take (k + 1)).filter (ofTier tn true) = D ++ [⟨x0, x1, x2, x3, x4, x5⟩]) := by
              show _ = D ++ [_]
              rw [HS2.out]
              simp [ofTier, HT.out]
            have q0 := B7.out.2.2.2.cell 0
            have q1 := B7.out.2.2.2.cell 1
            have q2 := B7.out.2.2.2.cell 2
            have q3 := B7.out.2.2.2.cell 3
            have q4 := B7.out.2.2.2.cell 4
            have q5 := B7.out.2.2.2.cell 5
            obtain ⟨i0, hi, hy0, hy1, hy2⟩ := info_parts info_req
            go_wp2_with (at_builtin; refine wpList_append_own _ rfl (.tmp 24) (.tmp 26) 27 rfl (w.heap.size + 1) 39 i0 (.agg #[.int .i64 0, .int .i64 0, .int .i64 0, .int .i64 0, .int .i64 0, .int .i64 0]) 6 48 Try.underlying27 hi hy0 hy1 hy2 rfl (by decide) _ D.length (flat ReqKit.cells D) rfl (B7.out.1.below (n1 _ _)) ⟨w7.heap.size, 0, none⟩ 1 1 (ReqKit.cells ⟨x0, x1, x2, x3, x4, x5⟩) rfl rfl (new_cells w7 ⟨x0, x1, x2, x3, x4, x5⟩ 39) (cells_one _) (by unfold maxLen; omega) (by omega) (by rw [sz1]; omega) ?_; intro v8 w8 hown hgr _; have HE : Hid (GrowKit.Cp 39 6 ReqKit.cells w8 (w.heap.size + 1) v8 ((L.take (k + 1)).filter (ofTier tn true)) ∧ boxB w8 w.heap.size #[.int .i64 x, .slice (some ⟨g, o, none⟩) n c] 29 ∧ Below w.heap.size w w8) := ⟨by rw [HS3.out]; exact Cp.push hown, box_grown (B7.out.2.1.below (n1 _ _)) hgr (fun e => by have := B7.out.1.ge _ e; omega), Cp.turned (B7.out.1.below (n1 _ _)) hgr (Nat.le_succ _) (B7.out.2.2.1.alloc B7.out.2.2.1.size _)⟩; clear hown hgr)
            go_roundw
            case rel => exact ⟨k + 1, v8, by omega, rfl, by go_num, HE⟩
            case measure => simp [intOf]; omega
        · have ht1 : (x1 == tn) = false := by simpa using ht
          have HS3 : Hid ((L.take (k + 1)).filter (ofTier tn B) = D) := by
            show _ = D
            rw [HS2.out]
            simp [ofTier, ht1]
          have HE : Hid (GrowKit.Cp 39 6 ReqKit.cells (wr.alloc (.cells #[.int .i64 x0, .int .i64 x1, .int .i64 x2, .int .i64 x3, .int .i64 x4, .int .i64 x5] 39)) (w.heap.size + 1) u5 ((L.take (k + 1)).filter (ofTier tn B)) ∧ boxB (wr.alloc (.cells #[.int .i64 x0, .int .i64 x1, .int .i64 x2, .int .i64 x3, .int .i64 x4, .int .i64 x5] 39)) w.heap.size #[.int .i64 x, .slice (some ⟨g, o, none⟩) n c] 29 ∧ Below w.heap.size w (wr.alloc (.cells #[.int .i64 x0, .int .i64 x1, .int .i64 x2, .int .i64 x3, .int .i64 x4, .int .i64 x5] 39))) := ⟨by rw [HS3.out]; exact HW.out.1.below (n1 _ _), HW.out.2.1.below (n1 _ _), HW.out.2.2.alloc HW.out.2.2.size _⟩
          go_wp2
          go_roundw
          case rel => exact ⟨k + 1, _, by omega, rfl, by go_num, HE⟩
          case measure => simp [intOf]; omega
    · obtain rfl : k = n := by omega
      have hfull : Hid ((L.take k).filter (ofTier tn B) = tierOf L tn B) := by
        show _ = tierOf L tn B
        rw [← HN.out, List.take_length]
        rfl
      have HE : Hid (∃ a2 c2, u5 = .slice a2 (tierOf L tn B).length c2 ∧ (tierOf L tn B).length ≤ c2 ∧ Holds wr (w.heap.size + 1) [⟨a2, 39, 6, (tierOf L tn B).map ReqKit.cells⟩]) := by
        have h9 := HW.out.1
        rw [hfull.out] at h9
        exact Cp.shape (t := 39) (m := 6) (f := ReqKit.cells) (fun _ => rfl) h9
      obtain ⟨a2, c2, hu, hc2, hh⟩ := HE.out
      subst hu
      have HH : Hid (Holds wr (w.heap.size + 1) [⟨a2, 39, 6, (tierOf L tn B).map ReqKit.cells⟩]) := hh
      clear hh HE
      go_wp2
      go_ret
      exact ⟨a2, c2, rfl, hc2, HH.out.low (Nat.le_succ _), HW.out.2.2⟩
end Go.Proofs.Ytiodnkehfeigoaa.QueTierS
