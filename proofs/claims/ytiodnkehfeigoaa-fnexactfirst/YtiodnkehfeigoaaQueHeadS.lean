/- What the model's Heads answers, at every queue: of each tier that has one the first request, by tiers, in a list of its own; nothing else turns. -/
import Derived.Test.YtiodnkehfeigoaaRows
import Derived.WalkKit
import Derived.WalkSmall
import Derived.BigQuiet
import Derived.Deep.RegionWith
import Derived.Deep.DeepCutAuto
import Derived.Test.YtiodnkehfeigoaaListKit
import Derived.Test.YtiodnkehfeigoaaHoldKit
import Derived.Test.YtiodnkehfeigoaaGrowKit
import Derived.Test.YtiodnkehfeigoaaReqKit
import Derived.Test.YtiodnkehfeigoaaReqOks
import Derived.Test.YtiodnkehfeigoaaQueMath
import Derived.Test.YtiodnkehfeigoaaQueOkS
import Derived.Test.YtiodnkehfeigoaaQueTierS
namespace Go.Proofs.Ytiodnkehfeigoaa.QueHeadS
open Go.RowKit ListKit HoldKit GrowKit QueMath QueTierS
set_option maxRecDepth 8000
set_option linter.unusedVariables false
set_option linter.unusedSimpArgs false

/-- The heads of the first tiers. -/
def headsTo (L : List ReqKit.Req) (B : Bool) (m : Nat) : List ReqKit.Req := ((List.range m).map fun (t : Nat) => (tierOf L (t : Int) B).take 1).flatten
theorem heads_next (L : List ReqKit.Req) (B : Bool) (m : Nat) : headsTo L B (m + 1) = headsTo L B m ++ (tierOf L (m : Int) B).take 1 := by
  simp [headsTo, List.range_succ]
theorem heads_len (L : List ReqKit.Req) (B : Bool) : ∀ m, (headsTo L B m).length ≤ m
  | 0 => by simp [headsTo]
  | m + 1 => by
    rw [heads_next, List.length_append, List.length_take]
    have := heads_len L B m
    omega
theorem tier_len (L : List ReqKit.Req) (n : Int) (B : Bool) : (tierOf L n B).length ≤ L.length := List.length_filter_le _ _
set_option maxHeartbeats 8000000 in
theorem spec_heads (x : Int) (a : Option Addr) (c : Nat) (L : List ReqKit.Req) (B : Bool) (w : World) (h : Own 39 6 ReqKit.cells w a L) (hl : L.length ≤ 1048577) (hc : L.length ≤ c) (bf : Hid (B = true ↔ QueOk x L)) :
    Calls Try.prog 31 #[.agg #[.int .i64 x, .slice a L.length c]] w fun e w' => ∃ a2 c2, e = .returned (.slice a2 (headsTo L B 4).length c2) ∧ (headsTo L B 4).length ≤ c2 ∧ Holds w' w.heap.size [⟨a2, 39, 6, (headsTo L B 4).map ReqKit.cells⟩] ∧ Below w.heap.size w w' := by
  have HA : Hid (Own 39 6 ReqKit.cells w a L) := h
  have HOT := fun (k : Nat) W h => spec_oftier x a c L (k : Int) B W h hl hc bf
  clear h
  obtain ⟨n, hn⟩ : ∃ n, L.length = n := ⟨_, rfl⟩
  have HN : Hid (L.length = n) := hn
  have h9 := Cp.empty (t := 39) (m := 6) (f := ReqKit.cells) (w.alloc (.cells #[.int .i64 x, .slice a n c] 29)) (B := w.heap.size + 1) (by simp)
  rw [sz1] at h9
  have b0 : Hid (GrowKit.Cp 39 6 ReqKit.cells ((w.alloc (.cells #[.int .i64 x, .slice a n c] 29)).alloc (.cells #[] 39)) (w.heap.size + 1) (.slice (some ⟨w.heap.size + 1, 0, none⟩) 0 0) (headsTo L B 0) ∧ boxB ((w.alloc (.cells #[.int .i64 x, .slice a n c] 29)).alloc (.cells #[] 39)) w.heap.size #[.int .i64 x, .slice a n c] 29 ∧ Below w.heap.size w ((w.alloc (.cells #[.int .i64 x, .slice a n c] 29)).alloc (.cells #[] 39))) := ⟨h9, (boxB.new _ _ _).below (n1 _ _), n2 _ _ _⟩
  rw [hn] at hl hc HOT ⊢
  clear hn h9
  go_enter Try.func31, Try.ntmps31
  go_wp2
  go_loopw [3, 4, 5] (fun t3 t4 t5 wr => ∃ (k : Nat) (v : Value), k ≤ 4 ∧ t3 = v ∧ t4 = .int .i64 (k : Int) ∧ Hid (GrowKit.Cp 39 6 ReqKit.cells wr (w.heap.size + 1) v (headsTo L B k) ∧ boxB wr w.heap.size #[.int .i64 x, .slice a n c] 29 ∧ Below w.heap.size w wr)) (fun _ t4 _ _ => 4 - (intOf t4).toNat)
  case atStart => exact ⟨0, _, by omega, rfl, rfl, b0⟩
  case round =>
    obtain ⟨k, v, hk, rfl, rfl, HW⟩ := hrel
    clear b0
    by_cases hlt : k < 4
    · have hli : (k : Int) < 4 := by omega
      have l0 := HW.out.2.1.cell 0
      have l1 := HW.out.2.1.cell 1
      have hz1 : w.heap.size + 1 ≤ wr.heap.size := HW.out.2.1.lt
      have HX := heads_next L B k
      have HD := heads_len L B k
      obtain ⟨D, hD⟩ : ∃ D, headsTo L B k = D := ⟨_, rfl⟩
      rw [hD] at HX HD HW
      have HT := HOT k
      have hml := tier_len L (k : Int) B
      obtain ⟨M, hM⟩ : ∃ M, tierOf L (k : Int) B = M := ⟨_, rfl⟩
      rw [hM] at HT HX hml
      have HX2 : Hid (headsTo L B (k + 1) = D ++ M.take 1) := HX
      clear hD hM HX
      go_wp2_with fail
      refine (HT _ (HA.out.below HW.out.2.2)).mono ?_
      rintro e w7 ⟨a2, c2, rfl, hc2, hh, b7⟩
      have B7 : Hid (GrowKit.Cp 39 6 ReqKit.cells w7 (w.heap.size + 1) u3 (D) ∧ boxB w7 w.heap.size #[.int .i64 x, .slice a n c] 29 ∧ Below w.heap.size w w7) := ⟨HW.out.1.below b7, HW.out.2.1.below b7, HW.out.2.2.trans (b7.mono HW.out.2.2.size)⟩
      have hz3 : w.heap.size + 1 ≤ w7.heap.size := Nat.le_trans hz1 b7.size
      have HO : Hid (Own 39 6 ReqKit.cells w7 a2 M) := hh.get (by simp)
      clear b7 hh l0 l1 HT
      cases M with
      | nil =>
        have HE : Hid (GrowKit.Cp 39 6 ReqKit.cells w7 (w.heap.size + 1) u3 (headsTo L B (k + 1)) ∧ boxB w7 w.heap.size #[.int .i64 x, .slice a n c] 29 ∧ Below w.heap.size w w7) := ⟨by rw [HX2.out, List.take_nil, List.append_nil]; exact B7.out.1, B7.out.2⟩
        go_wp2
        go_roundw
        case rel => exact ⟨k + 1, _, by omega, rfl, by go_num, HE⟩
        case measure => simp [intOf]; omega
      | cons s M =>
        rcases HO.out with hnil | ⟨g, o, rfl, hrw⟩
        · simp at hnil
        · obtain ⟨x0, x1, x2, x3, x4, x5⟩ := s
          obtain ⟨q, hq⟩ : ∃ q, (⟨x0, x1, x2, x3, x4, x5⟩ :: M : List ReqKit.Req).length = q := ⟨_, rfl⟩
          have hq1 : 1 ≤ q := by rw [← hq, List.length_cons]; omega
          have HS3 : Hid (headsTo L B (k + 1) = D ++ [⟨x0, x1, x2, x3, x4, x5⟩]) := HX2.out
          have u9 := fun j hj => hrw.cell 0 (by simp) j hj
          have p0 : w7.cell? ⟨g, o, none⟩ = some (.int .i64 x0) := by simpa [ReqKit.cells] using u9 0 (by omega)
          have p1 : w7.cell? ⟨g, o + 1, none⟩ = some (.int .i64 x1) := by simpa [ReqKit.cells] using u9 1 (by omega)
          have p2 : w7.cell? ⟨g, o + 2, none⟩ = some (.int .i64 x2) := by simpa [ReqKit.cells] using u9 2 (by omega)
          have p3 : w7.cell? ⟨g, o + 3, none⟩ = some (.int .i64 x3) := by simpa [ReqKit.cells] using u9 3 (by omega)
          have p4 : w7.cell? ⟨g, o + 4, none⟩ = some (.int .i64 x4) := by simpa [ReqKit.cells] using u9 4 (by omega)
          have p5 : w7.cell? ⟨g, o + 5, none⟩ = some (.int .i64 x5) := by simpa [ReqKit.cells] using u9 5 (by omega)
          rw [hq] at hc2 ⊢
          have hlen : (0 : Int) < (q : Int) := by omega
          have hlen2 : decide ((0 : Int) < (q : Int)) = true := by simp; omega
          have hcp : (0 : Int) < (c2 : Int) := by omega
          clear u9 hrw HO hq
          obtain ⟨i0, hi, hy0, hy1, hy2⟩ := info_parts QueTierS.info_req
          go_wp2_with (at_builtin; refine wpList_append_own _ rfl (.tmp 17) (.tmp 21) 27 rfl (w.heap.size + 1) 39 i0 (.agg #[.int .i64 0, .int .i64 0, .int .i64 0, .int .i64 0, .int .i64 0, .int .i64 0]) 6 48 Try.underlying27 hi hy0 hy1 hy2 rfl (by decide) _ D.length (flat ReqKit.cells D) rfl (B7.out.1.below (n1 _ _)) ⟨w7.heap.size, 0, none⟩ 1 1 (ReqKit.cells ⟨x0, x1, x2, x3, x4, x5⟩) rfl rfl (new_cells w7 ⟨x0, x1, x2, x3, x4, x5⟩ 39) (cells_one _) (by unfold maxLen; omega) (by omega) (by rw [sz1]; omega) ?_; intro v8 w8 hown hgr _; have HE : Hid (GrowKit.Cp 39 6 ReqKit.cells w8 (w.heap.size + 1) v8 (headsTo L B (k + 1)) ∧ boxB w8 w.heap.size #[.int .i64 x, .slice a n c] 29 ∧ Below w.heap.size w w8) := ⟨by rw [HS3.out]; exact Cp.push hown, box_grown (B7.out.2.1.below (n1 _ _)) hgr (fun e => by have := B7.out.1.ge _ e; omega), Cp.turned (B7.out.1.below (n1 _ _)) hgr (Nat.le_succ _) (B7.out.2.2.alloc B7.out.2.2.size _)⟩; clear hown hgr)
          go_roundw
          case rel => exact ⟨k + 1, v8, by omega, rfl, by go_num, HE⟩
          case measure => simp [intOf]; omega
    · obtain rfl : k = 4 := by omega
      have HE : Hid (∃ a2 c2, u3 = .slice a2 (headsTo L B 4).length c2 ∧ (headsTo L B 4).length ≤ c2 ∧ Holds wr (w.heap.size + 1) [⟨a2, 39, 6, (headsTo L B 4).map ReqKit.cells⟩]) := Cp.shape (t := 39) (m := 6) (f := ReqKit.cells) (fun _ => rfl) HW.out.1
      obtain ⟨a2, c2, hu, hc2, hh⟩ := HE.out
      subst hu
      have HH : Hid (Holds wr (w.heap.size + 1) [⟨a2, 39, 6, (headsTo L B 4).map ReqKit.cells⟩]) := hh
      clear hh HE
      go_wp2
      go_ret
      exact ⟨a2, c2, rfl, hc2, HH.out.low (Nat.le_succ _), HW.out.2.2⟩
end Go.Proofs.Ytiodnkehfeigoaa.QueHeadS
