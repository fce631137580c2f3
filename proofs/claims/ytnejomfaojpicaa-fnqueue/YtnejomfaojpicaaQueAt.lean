/- Where the first request of a number stands in a queue, as the model looks for it; nothing else turns; no condition but those written in each. -/
import Derived.Test.YtnejomfaojpicaaRows
import Derived.WalkKit
import Derived.WalkSmall
import Derived.BigQuiet
import Derived.Deep.RegionWith
import Derived.Deep.DeepCutAuto
import Derived.Test.YtnejomfaojpicaaListKit
import Derived.Test.YtnejomfaojpicaaHoldKit
import Derived.Test.YtnejomfaojpicaaReqKit
import Derived.Test.YtnejomfaojpicaaReqOks
import Derived.Test.YtnejomfaojpicaaQueMath
namespace Go.Proofs.Ytnejomfaojpicaa.QueAt
open Go.RowKit ListKit HoldKit QueMath
set_option maxRecDepth 8000
set_option linter.unusedVariables false
set_option linter.unusedSimpArgs false

set_option maxHeartbeats 4000000 in
theorem spec_at (x : Int) (a : Option Addr) (c : Nat) (L : List ReqKit.Req) (id r : Int) (w : World) (h : Own 27 6 ReqKit.cells w a L) (hl : L.length ≤ 1048577) (hc : L.length ≤ c) (hr : Hid (AtId L id r)) :
    Calls Try.prog 35 #[.agg #[.int .i64 x, .slice a L.length c], .int .i64 id] w fun e w' => e = .returned (.int .i64 r) ∧ Below w.heap.size w w' := by
  have HA : Hid (Own 27 6 ReqKit.cells w a L) := h
  clear h
  obtain ⟨n, hn⟩ : ∃ n, L.length = n := ⟨_, rfl⟩
  have HN : Hid (L.length = n) := hn
  have b0 : Hid (Below w.heap.size w (w.alloc (.cells #[.int .i64 x, .slice a L.length c] 25))) := n1 _ _
  rw [hn] at hl b0 ⊢
  clear hn
  go_enter Try.func35, Try.ntmps35
  go_wp2
  go_loopw [5, 6, 10] (fun t5 t6 i wr => ∃ k : Nat, k ≤ n ∧ i = .int .i64 (k : Int) ∧ Hid (∀ (j : Nat) (h : j < L.length), j < k → L[j].x0 ≠ id) ∧ Hid (Below w.heap.size w wr)) (fun _ _ i _ => n - (intOf i).toNat)
  case atStart => exact ⟨0, by omega, rfl, fun j _ hj => by omega, b0⟩
  case round =>
    obtain ⟨k, hk, rfl, HK, HB⟩ := hrel
    by_cases hlt : k < n
    · have hlt2 : k < L.length := by rw [HN.out]; exact hlt
      rcases HA.out with hnil | ⟨g, o, rfl, hrw⟩
      · rw [hnil] at hlt2; simp at hlt2
      · have hr1 : Row 27 6 ReqKit.cells wr g o L := hrw.below HB.out
        obtain ⟨sx, hsx⟩ : ∃ s, L[k] = s := ⟨_, rfl⟩
        obtain ⟨x0, x1, x2, x3, x4, x5⟩ := sx
        have u9 := fun j hj => (hr1).cell k hlt2 j hj
        have p0 : wr.cell? ⟨g, o + k * 6, none⟩ = some (.int .i64 x0) := by have h9 := u9 0 (by omega); rw [hsx] at h9; exact h9
        have p1 : wr.cell? ⟨g, o + k * 6 + 1, none⟩ = some (.int .i64 x1) := by have h9 := u9 1 (by omega); rw [hsx] at h9; exact h9
        have p2 : wr.cell? ⟨g, o + k * 6 + 2, none⟩ = some (.int .i64 x2) := by have h9 := u9 2 (by omega); rw [hsx] at h9; exact h9
        have p3 : wr.cell? ⟨g, o + k * 6 + 3, none⟩ = some (.int .i64 x3) := by have h9 := u9 3 (by omega); rw [hsx] at h9; exact h9
        have p4 : wr.cell? ⟨g, o + k * 6 + 4, none⟩ = some (.int .i64 x4) := by have h9 := u9 4 (by omega); rw [hsx] at h9; exact h9
        have p5 : wr.cell? ⟨g, o + k * 6 + 5, none⟩ = some (.int .i64 x5) := by have h9 := u9 5 (by omega); rw [hsx] at h9; exact h9
        clear u9
        have hli : (k : Int) < (n : Int) := by omega
        have hkc : (k : Int) < (c : Int) := by rw [HN.out] at hc; omega
        have HS : Hid (L[k] = ⟨x0, x1, x2, x3, x4, x5⟩) := hsx
        have HG : Hid (∀ o : Obj, Below w.heap.size w (wr.alloc o)) := fun o => HB.out.alloc HB.out.size o
        clear hr1 hsx hrw
        by_cases e : x0 = id
        · have e1 : (x0 == id) = true := by simpa using e
          have hrk : Hid (r = (k : Int)) := hr.out.hit k hlt2 (by rw [HS.out]; exact e) HK.out
          clear e
          go_wp2
          go_ret
          exact ⟨by rw [hrk.out]; rfl, HG.out _⟩
        · have e1 : (x0 == id) = false := by simpa using e
          have HK2 : Hid (∀ (j : Nat) (h : j < L.length), j < k + 1 → L[j].x0 ≠ id) := fun j hj hj2 => by
            by_cases ej : j = k
            · subst ej; rw [HS.out]; exact e
            · exact HK.out j hj (by omega)
          clear e HK
          go_wp2
          go_roundw
          case rel => exact ⟨k + 1, by omega, by go_num, HK2, HG.out _⟩
          case measure => simp [intOf]; omega
    · obtain rfl : k = n := by omega
      have hrk : Hid (r = -1) := hr.out.no (fun j hj => HK.out j hj (by rw [← HN.out]; exact hj))
      go_wp2
      go_ret
      exact ⟨by rw [hrk.out]; rfl, HB.out⟩

end Go.Proofs.Ytnejomfaojpicaa.QueAt
