/- slices.Clone at requests, and where the worst of them stands, as the program looks for it; nothing else turns. -/
import Derived.Test.YtnejomfaojpicaaRows
import Derived.WalkKit
import Derived.WalkSmall
import Derived.BigQuiet
import Derived.Deep.RegionWith
import Derived.Deep.DeepCutAuto
import Derived.Lib.SliceRun
import Derived.Test.YtnejomfaojpicaaListKit
import Derived.Test.YtnejomfaojpicaaHoldKit
import Derived.Test.YtnejomfaojpicaaGrowKit
import Derived.Test.YtnejomfaojpicaaReqKit
import Derived.Test.YtnejomfaojpicaaReqOks
import Derived.Test.YtnejomfaojpicaaQueWorst
import Derived.Test.YtnejomfaojpicaaQueTierS
import Derived.Test.YtnejomfaojpicaaQueOutS
import Derived.Test.YtnejomfaojpicaaQueCopyS
import Derived.Test.YtnejomfaojpicaaNearKit
namespace Go.Proofs.Ytnejomfaojpicaa.QueCloneI
open Go.RowKit ListKit HoldKit GrowKit QueTierS QueCopyS QueWorst NearKit
set_option maxRecDepth 8000
set_option linter.unusedVariables false
set_option linter.unusedSimpArgs false

/-- A copy in memory of the call's own. -/
def KAns (w : World) (L : List ReqKit.Req) (e : Ending) (w' : World) : Prop := ∃ a2 c2, e = .returned (.slice a2 L.length c2) ∧ Cp 27 6 ReqKit.cells w' w.heap.size (.slice a2 L.length c2) L ∧ Below w.heap.size w w'
theorem clone_none (c : Nat) (w : World) : Calls Try.prog 14 #[.slice none 0 c] w (KAns w []) := by
  have hn0 := fun (w : World) (a : Option Addr) (n c : Nat) => Lib.run_eql_slice_nil (P := Try.prog) w 23 27 a n c 0 0 Try.underlying23
  go_enter Try.func14, Try.ntmps14
  go_wp2
  exact bodyPost_ret (v := .slice none 0 0) (by simp [results, Try.results14, go_sem]) rfl ⟨none, 0, rfl, Cp.nil _ _, Below.refl _ _⟩
set_option maxHeartbeats 2000000 in
theorem clone_some (ad : Addr) (c : Nat) (L : List ReqKit.Req) (w : World) (hr : Own 27 6 ReqKit.cells w (some ad) L) (hl : L.length ≤ 1048577) : Calls Try.prog 14 #[.slice (some ad) L.length c] w (KAns w L) := by
  obtain ⟨i0, hi, hz0, hz1, hz2⟩ := info_parts info_req
  have B3 : Below w.heap.size w (w.alloc (.cells #[] 27)) := n1 _ _
  have hcell := src_req (hr.below B3)
  have ho : Cp 27 6 ReqKit.cells (w.alloc (.cells #[] 27)) w.heap.size (.slice (some ⟨w.heap.size, 0, none⟩) 0 0) [] := Cp.empty w (Nat.le_refl _)
  have HO : Hid (Cp 27 6 ReqKit.cells (w.alloc (.cells #[] 27)) w.heap.size (.slice (some ⟨w.heap.size, 0, none⟩) 0 0) []) := ho
  have HB3 : Hid (Below w.heap.size w (w.alloc (.cells #[] 27))) := B3
  have hfl : (flat ReqKit.cells L).length = L.length * 6 := flat_len (m := 6) (fun _ => rfl) L
  clear B3 hr
  have hn0 := fun (w : World) (a : Option Addr) (n c : Nat) => Lib.run_eql_slice_nil (P := Try.prog) w 23 27 a n c 0 0 Try.underlying23
  go_enter Try.func14, Try.ntmps14
  go_wp2_with (at_builtin; refine wpList_append_own _ rfl (.tmp 5) (.tmp 6) 23 rfl w.heap.size 27 i0 (.agg #[.int .i64 0, .int .i64 0, .int .i64 0, .int .i64 0, .int .i64 0, .int .i64 0]) 6 48 Try.underlying23 hi hz0 hz1 hz2 rfl (by decide) _ 0 [] rfl ho ad L.length c (flat ReqKit.cells L) rfl hfl hcell (flat_ones L) (by unfold maxLen; omega) (by omega) (by simp) ?_; intro v1 w1 hown hgr hnn; rw [Nat.zero_add, List.nil_append] at hown; have B1 : Hid (Below w.heap.size w w1) := Cp.turned HO.out hgr (Nat.le_refl _) HB3.out; have HR : Hid (Cp 27 6 ReqKit.cells w1 w.heap.size v1 L) := hown; obtain ⟨v1a, v1c, hv1, _⟩ := Cp.shape (t := 27) (m := 6) (f := ReqKit.cells) (fun _ => rfl) HR.out; subst hv1; clear hown hgr hnn hcell ho)
  exact bodyPost_ret (v := .slice v1a L.length v1c) (by simp [results, Try.results14, go_sem]) rfl ⟨_, _, rfl, HR.out, B1.out⟩
theorem impl_clone (a : Option Addr) (c : Nat) (L : List ReqKit.Req) (w : World) (ha : Own 27 6 ReqKit.cells w a L) (hl : L.length ≤ 1048577) : Calls Try.prog 14 #[.slice a L.length c] w (KAns w L) := by
  cases a with
  | none =>
    have hL : L = [] := by
      rcases ha with h | ⟨g, o, h, _⟩
      · exact h
      · cases h
    subst hL
    exact clone_none c w
  | some ad => exact clone_some ad c L w ha hl
set_option maxHeartbeats 4000000 in
theorem worst_place (a : Option Addr) (c : Nat) (L : List ReqKit.Req) (w : World) (h : Own 27 6 ReqKit.cells w a L) (hl : L.length ≤ 1048577) (hc : L.length ≤ c) :
    Calls Try.prog 17 #[.slice a L.length c] w fun e w' => e = .returned (.int .i64 (worstTo L L.length : Nat)) ∧ Below w.heap.size w w' := by
  have HA : Hid (Own 27 6 ReqKit.cells w a L) := h
  clear h
  obtain ⟨n, hn⟩ : ∃ n, L.length = n := ⟨_, rfl⟩
  have HN : Hid (L.length = n) := hn
  rw [hn] at hl hc ⊢
  clear hn
  go_enter Try.func17, Try.ntmps17
  go_wp2
  go_loopw [3, 4, 5, 8] (fun t3 t4 t5 i wr => ∃ k q : Nat, k ≤ n ∧ q ≤ k ∧ t3 = .int .i64 (q : Int) ∧ i = .int .i64 (k : Int) ∧ Hid (worstTo L k = q) ∧ Hid (Below w.heap.size w wr)) (fun _ _ _ i _ => n - (intOf i).toNat)
  case atStart => exact ⟨0, 0, by omega, by omega, rfl, rfl, rfl, Below.refl _ _⟩
  case round =>
    obtain ⟨k, q, hk, hqk, rfl, rfl, HQ, HB⟩ := hrel
    by_cases hlt : k < n
    · have hlt2 : k < L.length := by rw [HN.out]; exact hlt
      have hq2 : q < L.length := by rw [← HQ.out]; exact worst_lt L (by omega) k (by omega)
      rcases HA.out with hnil | ⟨g, o, rfl, hrw⟩
      · rw [hnil] at hlt2; simp at hlt2
      · have hr1 : Row 27 6 ReqKit.cells wr g o L := hrw.below HB.out
        obtain ⟨sx, hsx⟩ : ∃ s, L[k] = s := ⟨_, rfl⟩
        obtain ⟨x0, x1, x2, x3, x4, x5⟩ := sx
        have u9 := fun jj hjj => (hr1).cell k hlt2 jj hjj
        have p0 : wr.cell? ⟨g, o + k * 6, none⟩ = some (.int .i64 x0) := by have h9 := u9 0 (by omega); rw [hsx] at h9; exact h9
        have p1 : wr.cell? ⟨g, o + k * 6 + 1, none⟩ = some (.int .i64 x1) := by have h9 := u9 1 (by omega); rw [hsx] at h9; exact h9
        have p2 : wr.cell? ⟨g, o + k * 6 + 2, none⟩ = some (.int .i64 x2) := by have h9 := u9 2 (by omega); rw [hsx] at h9; exact h9
        have p3 : wr.cell? ⟨g, o + k * 6 + 3, none⟩ = some (.int .i64 x3) := by have h9 := u9 3 (by omega); rw [hsx] at h9; exact h9
        have p4 : wr.cell? ⟨g, o + k * 6 + 4, none⟩ = some (.int .i64 x4) := by have h9 := u9 4 (by omega); rw [hsx] at h9; exact h9
        have p5 : wr.cell? ⟨g, o + k * 6 + 5, none⟩ = some (.int .i64 x5) := by have h9 := u9 5 (by omega); rw [hsx] at h9; exact h9
        clear u9
        obtain ⟨sy, hsy⟩ : ∃ s, L[q] = s := ⟨_, rfl⟩
        obtain ⟨y0, y1, y2, y3, y4, y5⟩ := sy
        have hli : (k : Int) < (n : Int) := by omega
        have hqi : (q : Int) < (n : Int) := by have := HN.out; omega
        have hqc : (q : Int) < (c : Int) := by have := HN.out; omega
        have hkc : (k : Int) < (c : Int) := by omega
        obtain ⟨b, hb⟩ : ∃ b, ReqOks.worse ⟨x0, x1, x2, x3, x4, x5⟩ ⟨y0, y1, y2, y3, y4, y5⟩ = b := ⟨_, rfl⟩
        have HX : Hid (worstTo L (k + 1) = if b = true then k else q) := by
          show _ = _
          have h9 := worst_next L k hlt2 (by rw [HQ.out]; exact hq2) _ _ b hsx (by simp only [HQ.out]; exact hsy) hb
          rw [HQ.out] at h9
          exact h9
        have HWS := fun W => ReqOks.impl_worse x0 x1 x2 x3 x4 x5 y0 y1 y2 y3 y4 y5 W
        rw [hb] at HWS
        have HY : Hid (L[q] = ⟨y0, y1, y2, y3, y4, y5⟩) := hsy
        have B6 : Hid (Below w.heap.size w (wr.alloc (.cells #[.int .i64 x0, .int .i64 x1, .int .i64 x2, .int .i64 x3, .int .i64 x4, .int .i64 x5] 27)) ∧ Row 27 6 ReqKit.cells (wr.alloc (.cells #[.int .i64 x0, .int .i64 x1, .int .i64 x2, .int .i64 x3, .int .i64 x4, .int .i64 x5] 27)) g o L ∧ boxB (wr.alloc (.cells #[.int .i64 x0, .int .i64 x1, .int .i64 x2, .int .i64 x3, .int .i64 x4, .int .i64 x5] 27)) wr.heap.size #[.int .i64 x0, .int .i64 x1, .int .i64 x2, .int .i64 x3, .int .i64 x4, .int .i64 x5] 27) := ⟨HB.out.alloc HB.out.size _, hr1.below (n1 _ _), boxB.new _ _ _⟩
        clear hr1 hsx hsy hrw hb
        go_upto_region 5 with fail
        clear p0 p1 p2 p3 p4 p5
        generalize (wr.alloc (.cells #[.int .i64 x0, .int .i64 x1, .int .i64 x2, .int .i64 x3, .int .i64 x4, .int .i64 x5] 27)) = W6 at *
        have q0 := B6.out.2.2.cell 0
        have X0 := Near.cell q0
        have z0 : W6.cell? ⟨g, o + q * 6, none⟩ = some (.int .i64 y0) := by have h9 := B6.out.2.1.cell q hq2 0 (by omega); rw [HY.out] at h9; exact h9
        have Y0 := Near.cell z0
        have q1 := B6.out.2.2.cell 1
        have X1 := Near.cell q1
        have z1 : W6.cell? ⟨g, o + q * 6 + 1, none⟩ = some (.int .i64 y1) := by have h9 := B6.out.2.1.cell q hq2 1 (by omega); rw [HY.out] at h9; exact h9
        have Y1 := Near.cell z1
        have q2 := B6.out.2.2.cell 2
        have X2 := Near.cell q2
        have z2 : W6.cell? ⟨g, o + q * 6 + 2, none⟩ = some (.int .i64 y2) := by have h9 := B6.out.2.1.cell q hq2 2 (by omega); rw [HY.out] at h9; exact h9
        have Y2 := Near.cell z2
        have q3 := B6.out.2.2.cell 3
        have X3 := Near.cell q3
        have z3 : W6.cell? ⟨g, o + q * 6 + 3, none⟩ = some (.int .i64 y3) := by have h9 := B6.out.2.1.cell q hq2 3 (by omega); rw [HY.out] at h9; exact h9
        have Y3 := Near.cell z3
        have q4 := B6.out.2.2.cell 4
        have X4 := Near.cell q4
        have z4 : W6.cell? ⟨g, o + q * 6 + 4, none⟩ = some (.int .i64 y4) := by have h9 := B6.out.2.1.cell q hq2 4 (by omega); rw [HY.out] at h9; exact h9
        have Y4 := Near.cell z4
        have q5 := B6.out.2.2.cell 5
        have X5 := Near.cell q5
        have z5 : W6.cell? ⟨g, o + q * 6 + 5, none⟩ = some (.int .i64 y5) := by have h9 := B6.out.2.1.cell q hq2 5 (by omega); rw [HY.out] at h9; exact h9
        have Y5 := Near.cell z5
        clear q0 q1 q2 q3 q4 q5 z0 z1 z2 z3 z4 z5
        have near := Near.is W6
        refine wp_region_near (by kernel_rfl) (by kernel_rfl) ?_
        repeat (go_big_quiet_step (first | (go_at_call 28; exact near_call (HWS _))))
        refine wpQuiet_nil ?_
        intro wx hwx
        obtain ⟨y, hy⟩ := hwx
        subst hy
        have BY : Hid (Below w.heap.size w y.w) := B6.out.1.trans (y.near.mono B6.out.1.size)
        obtain ⟨wd, hwd⟩ : ∃ wd, y.w = wd := ⟨_, rfl⟩
        rw [hwd] at BY ⊢
        clear hwd y near X0 X1 X2 X3 X4 X5 Y0 Y1 Y2 Y3 Y4 Y5
        cases b with
        | true =>
          have HX2 : Hid (worstTo L (k + 1) = k) := HX.out
          go_wp2
          go_roundw
          case rel => exact ⟨k + 1, k, by omega, by omega, rfl, by go_num, HX2, BY⟩
          case measure => simp [intOf]; omega
        | false =>
          have HX2 : Hid (worstTo L (k + 1) = q) := HX.out
          go_wp2
          go_roundw
          case rel => exact ⟨k + 1, q, by omega, by omega, rfl, by go_num, HX2, BY⟩
          case measure => simp [intOf]; omega
    · obtain rfl : k = n := by omega
      go_wp2
      go_ret
      exact ⟨by rw [HQ.out]; rfl, HB.out⟩
end Go.Proofs.Ytnejomfaojpicaa.QueCloneI
