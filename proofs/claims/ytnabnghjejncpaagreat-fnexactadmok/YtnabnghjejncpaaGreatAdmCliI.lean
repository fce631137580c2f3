/- What the program's Clients answers, at every ledger: the clients of its used slots, in a list of its own; nothing else turns. -/
import Derived.Test.YtnabnghjejncpaaGreatRows
import Derived.WalkKit
import Derived.WalkSmall
import Derived.BigQuiet
import Derived.Deep.RegionWith
import Derived.Deep.DeepCutAuto
import Derived.Test.YtnabnghjejncpaaGreatListKit
import Derived.Test.YtnabnghjejncpaaGreatHoldKit
import Derived.Test.YtnabnghjejncpaaGreatGrowKit
import Derived.Test.YtnabnghjejncpaaGreatIntKit
import Derived.Test.YtnabnghjejncpaaGreatSlotKit
import Derived.Test.YtnabnghjejncpaaGreatAdmCliP
namespace Go.Proofs.YtnabnghjejncpaaGreat.AdmCliI
open Go.RowKit ListKit HoldKit GrowKit AdmCliP
set_option maxRecDepth 8000
set_option linter.unusedVariables false
set_option linter.unusedSimpArgs false

theorem info_int : (Tryz.prog.info? 3).map (fun i => (i.zero, i.size, i.bytes)) = some (some (.int .i64 0), 1, 8) := by kernel_rfl
theorem cells_one (x : Int) : ∀ u ∈ IntKit.cells x, u.oneCell' = true := by
  intro u hu
  simp [IntKit.cells] at hu
  subst hu
  rfl
theorem new_cells (w : World) (x : Int) (t : TypeId) : ∀ j u, (IntKit.cells x)[j]? = some u → (w.alloc (.cells (IntKit.cells x).toArray t)).cell? ((⟨w.heap.size, 0, none⟩ : Addr).add j) = some u := fun j u hu => by
  rw [Addr.add_lit, Nat.zero_add, (boxB.new w (IntKit.cells x).toArray t).cell j]
  simpa using hu
set_option maxHeartbeats 8000000 in
theorem impl_clients (a : Option Addr) (c : Nat) (L : List SlotKit.Slot) (w : World) (h : Own 75 5 SlotKit.cells w a L) (hl : L.length ≤ 1048577) (hc : L.length ≤ c) :
    Calls Tryz.prog 101 #[.agg #[.slice a L.length c]] w fun e w' => ∃ a2 c2, e = .returned (.slice a2 (clientsOf L).length c2) ∧ (clientsOf L).length ≤ c2 ∧ Holds w' w.heap.size [⟨a2, 3, 1, (clientsOf L).map IntKit.cells⟩] ∧ Below w.heap.size w w' := by
  have HA : Hid (Own 75 5 SlotKit.cells w a L) := h
  clear h
  obtain ⟨n, hn⟩ : ∃ n, L.length = n := ⟨_, rfl⟩
  have HN : Hid (L.length = n) := hn
  have b0 : Hid (GrowKit.Cp 3 1 IntKit.cells (w.alloc (.cells #[.slice a n c] 55)) (w.heap.size + 1) (.slice none 0 0) ([]) ∧ boxB (w.alloc (.cells #[.slice a n c] 55)) w.heap.size #[.slice a n c] 55 ∧ Below w.heap.size w (w.alloc (.cells #[.slice a n c] 55))) := by
    exact ⟨Cp.nil _ _, boxB.new _ _ _, n1 _ _⟩
  rw [hn] at hl hc ⊢
  clear hn
  go_enter Tryz.func101, Tryz.ntmps101
  go_wp2
  go_loopw [3, 5, 9] (fun t3 t5 i wr => ∃ (k : Nat) (v : Value), k ≤ n ∧ t3 = v ∧ i = .int .i64 (k : Int) ∧ Hid (GrowKit.Cp 3 1 IntKit.cells wr (w.heap.size + 1) v (clientsOf (L.take k)) ∧ boxB wr w.heap.size #[.slice a n c] 55 ∧ Below w.heap.size w wr)) (fun _ _ i _ => n - (intOf i).toNat)
  case atStart => exact ⟨0, _, by omega, rfl, rfl, b0⟩
  case round =>
    obtain ⟨k, v, hk, rfl, rfl, HW⟩ := hrel
    clear b0
    by_cases hlt : k < n
    · have hlt2 : k < L.length := by rw [HN.out]; exact hlt
      rcases HA.out with hnil | ⟨g, o, rfl, hrw⟩
      · rw [hnil] at hlt2; simp at hlt2
      · have hr1 : Row 75 5 SlotKit.cells wr g o L := hrw.below HW.out.2.2
        obtain ⟨sx, hsx⟩ : ∃ s, L[k] = s := ⟨_, rfl⟩
        obtain ⟨x0, x1, x2, x3, x4⟩ := sx
        have u9 := fun j hj => (hr1).cell k hlt2 j hj
        have p0 : wr.cell? ⟨g, o + k * 5, none⟩ = some (.int .i64 x0) := by have h9 := u9 0 (by omega); rw [hsx] at h9; exact h9
        have p1 : wr.cell? ⟨g, o + k * 5 + 1, none⟩ = some (.bool x1) := by have h9 := u9 1 (by omega); rw [hsx] at h9; exact h9
        have p2 : wr.cell? ⟨g, o + k * 5 + 2, none⟩ = some (.int .i64 x2) := by have h9 := u9 2 (by omega); rw [hsx] at h9; exact h9
        have p3 : wr.cell? ⟨g, o + k * 5 + 3, none⟩ = some (.int .i64 x3) := by have h9 := u9 3 (by omega); rw [hsx] at h9; exact h9
        have p4 : wr.cell? ⟨g, o + k * 5 + 4, none⟩ = some (.int .i64 x4) := by have h9 := u9 4 (by omega); rw [hsx] at h9; exact h9
        clear u9
        have hli : (k : Int) < (n : Int) := by omega
        have hkc : (k : Int) < (c : Int) := by omega
        have HST := clients_take L k hlt2
        rw [hsx] at HST
        have HD : (clientsOf (L.take k)).length ≤ k := clients_len L k
        obtain ⟨D, hD⟩ : ∃ D, clientsOf (L.take k) = D := ⟨_, rfl⟩
        rw [hD] at HST HD HW
        have HS2 : Hid (clientsOf (L.take (k + 1)) = D ++ (if x1 = true then [x3] else [])) := HST
        have hz1 : w.heap.size + 1 ≤ wr.heap.size := HW.out.2.1.lt
        clear hr1 hsx hrw HST hD
        have B6 : Hid (GrowKit.Cp 3 1 IntKit.cells (wr.alloc (.cells #[.int .i64 x0, .bool x1, .int .i64 x2, .int .i64 x3, .int .i64 x4] 75)) (w.heap.size + 1) u3 (D) ∧ boxB (wr.alloc (.cells #[.int .i64 x0, .bool x1, .int .i64 x2, .int .i64 x3, .int .i64 x4] 75)) w.heap.size #[.slice (some ⟨g, o, none⟩) n c] 55 ∧ Below w.heap.size w (wr.alloc (.cells #[.int .i64 x0, .bool x1, .int .i64 x2, .int .i64 x3, .int .i64 x4] 75))) := ⟨HW.out.1.below (n1 _ _), HW.out.2.1.below (n1 _ _), HW.out.2.2.alloc HW.out.2.2.size _⟩
        have Q6 : Hid (boxB (wr.alloc (.cells #[.int .i64 x0, .bool x1, .int .i64 x2, .int .i64 x3, .int .i64 x4] 75)) wr.heap.size #[.int .i64 x0, .bool x1, .int .i64 x2, .int .i64 x3, .int .i64 x4] 75 ∧ w.heap.size + 1 ≤ (wr.alloc (.cells #[.int .i64 x0, .bool x1, .int .i64 x2, .int .i64 x3, .int .i64 x4] 75)).heap.size) := ⟨boxB.new _ _ _, by rw [sz1]; omega⟩
        cases x1 with
        | false =>
          have HS3 : Hid (clientsOf (L.take (k + 1)) = D) := by
            show _ = D
            rw [HS2.out]
            simp
          go_upto_region 5 with fail
          generalize (wr.alloc (.cells #[.int .i64 x0, .bool false, .int .i64 x2, .int .i64 x3, .int .i64 x4] 75)) = W6 at *
          clear p0 p1 p2 p3 p4 HW
          have q1 := Q6.out.1.cell 1
          have HE : Hid (GrowKit.Cp 3 1 IntKit.cells W6 (w.heap.size + 1) u3 (clientsOf (L.take (k + 1))) ∧ boxB W6 w.heap.size #[.slice (some ⟨g, o, none⟩) n c] 55 ∧ Below w.heap.size w W6) := ⟨by rw [HS3.out]; exact B6.out.1, B6.out.2.1, B6.out.2.2⟩
          go_wp2
          go_roundw
          case rel => exact ⟨k + 1, _, by omega, rfl, by go_num, HE⟩
          case measure => simp [intOf]; omega
        | true =>
          have HS3 : Hid (clientsOf (L.take (k + 1)) = D ++ [x3]) := by
            show _ = D ++ [_]
            rw [HS2.out]
            simp
          go_upto_region 5 with fail
          generalize (wr.alloc (.cells #[.int .i64 x0, .bool true, .int .i64 x2, .int .i64 x3, .int .i64 x4] 75)) = W6 at *
          clear p0 p1 p2 p3 p4 HW
          have q1 := Q6.out.1.cell 1
          have q3 := Q6.out.1.cell 3
          have hz2 := Q6.out.2
          obtain ⟨i0, hi, hy0, hy1, hy2⟩ := info_parts info_int
          go_wp2_with (at_builtin; refine wpList_append_own _ rfl (.tmp 15) (.tmp 18) 40 rfl (w.heap.size + 1) 3 i0 (.int .i64 0) 1 8 Tryz.underlying40 hi hy0 hy1 hy2 rfl (by decide) _ D.length (flat IntKit.cells D) rfl (B6.out.1.below (n1 _ _)) ⟨W6.heap.size, 0, none⟩ 1 1 (IntKit.cells x3) rfl rfl (new_cells W6 x3 3) (cells_one _) (by unfold maxLen; omega) (by omega) (by rw [sz1]; omega) ?_; intro v8 w8 hown hgr _; have HE : Hid (GrowKit.Cp 3 1 IntKit.cells w8 (w.heap.size + 1) v8 (clientsOf (L.take (k + 1))) ∧ boxB w8 w.heap.size #[.slice (some ⟨g, o, none⟩) n c] 55 ∧ Below w.heap.size w w8) := ⟨by rw [HS3.out]; exact Cp.push hown, box_grown (B6.out.2.1.below (n1 _ _)) hgr (fun e => by have := B6.out.1.ge _ e; omega), Cp.turned (B6.out.1.below (n1 _ _)) hgr (Nat.le_succ _) (B6.out.2.2.alloc B6.out.2.2.size _)⟩; clear hown hgr)
          go_roundw
          case rel => exact ⟨k + 1, v8, by omega, rfl, by go_num, HE⟩
          case measure => simp [intOf]; omega
    · obtain rfl : k = n := by omega
      have hfull : Hid (clientsOf (L.take k) = clientsOf L) := by
        show _ = _
        rw [← HN.out, List.take_length]
      have HE : Hid (∃ a2 c2, u3 = .slice a2 (clientsOf L).length c2 ∧ (clientsOf L).length ≤ c2 ∧ Holds wr (w.heap.size + 1) [⟨a2, 3, 1, (clientsOf L).map IntKit.cells⟩]) := by
        have h9 := HW.out.1
        rw [hfull.out] at h9
        exact Cp.shape (t := 3) (m := 1) (f := IntKit.cells) (fun _ => rfl) h9
      obtain ⟨a2, c2, hu, hc2, hh⟩ := HE.out
      subst hu
      have HH : Hid (Holds wr (w.heap.size + 1) [⟨a2, 3, 1, (clientsOf L).map IntKit.cells⟩]) := hh
      clear hh HE
      go_wp2
      go_ret
      exact ⟨a2, c2, rfl, hc2, HH.out.low (Nat.le_succ _), HW.out.2.2⟩
end Go.Proofs.YtnabnghjejncpaaGreat.AdmCliI
