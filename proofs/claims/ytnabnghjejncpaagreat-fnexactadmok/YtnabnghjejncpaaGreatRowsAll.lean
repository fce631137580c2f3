/- Several texts laid into one: what the functions named in their own remarks answer; no condition but those written in each. -/
import Derived.Test.YtnabnghjejncpaaGreatRows
import Derived.WalkKit
import Derived.WalkSmall
import Derived.BigQuiet
import Derived.Deep.RegionWith
import Derived.Laws.MakeOwn
import Derived.Test.YtnabnghjejncpaaGreatListKit
import Derived.Test.YtnabnghjejncpaaGreatSampleKit
import Derived.Test.YtnabnghjejncpaaGreatSlotKit
import Derived.Test.YtnabnghjejncpaaGreatReqKit
import Derived.Test.YtnabnghjejncpaaGreatCodelKit
import Derived.Test.YtnabnghjejncpaaGreatIntKit

section
namespace Go.Proofs.YtnabnghjejncpaaGreat.SampleRows
open Go.RowKit ListKit SampleKit
set_option maxRecDepth 8000
set_option linter.unusedVariables false
set_option linter.unusedSimpArgs false

theorem eq_one (x0 : Int) (x1 : Int) (w : World) : Calls Tryz.prog 117 #[.agg #[.int .i64 x0, .int .i64 x1], .agg #[.int .i64 x0, .int .i64 x1]] w fun e w' => e = .returned (.bool true) ∧ Below w.heap.size w w' := by
  have t0 : (x0 != x0) = false := by simp
  have t1 : (x1 != x1) = false := by simp
  go_enter Tryz.func117, Tryz.ntmps117
  go_wp2
  go_ret
  exact ⟨rfl, ((Below.refl _ _).alloc (Nat.le_refl _) _).alloc (by simp) _⟩

theorem to_one (x0 : Int) (x1 : Int) (w : World) : Calls Tryz.prog 106 #[.agg #[.int .i64 x0, .int .i64 x1]] w fun e w' => e = .returned (.agg #[.int .i64 x0, .int .i64 x1]) ∧ Below w.heap.size w w' := by
  go_enter Tryz.func106, Tryz.ntmps106
  go_wp2
  exact bodyPost_ret (v := .agg #[.int .i64 x0, .int .i64 x1]) (by simp [results, Tryz.results106, go_sem]) rfl ⟨rfl, (((Below.refl _ _).alloc (Nat.le_refl _) _).alloc (by simp) _).alloc (by simp; omega) _⟩

set_option maxHeartbeats 2000000 in
theorem eq_rows (g1 o1 g2 o2 c1 c2 : Nat) (L : List Sample) (w : World) (h1 : Row 155 2 cells w g1 o1 L) (h2 : Row 155 2 cells w g2 o2 L) (hl : L.length ≤ 1048577) :
    Calls Tryz.prog 102 #[.slice (some ⟨g1, o1, none⟩) L.length c1, .slice (some ⟨g2, o2, none⟩) L.length c2] w fun e w' => e = .returned (.bool true) ∧ Below w.heap.size w w' := by
  have H1 : Hid (Row 155 2 cells w g1 o1 L) := h1
  have H2 : Hid (Row 155 2 cells w g2 o2 L) := h2
  clear h1 h2
  obtain ⟨n, hn⟩ : ∃ n, L.length = n := ⟨_, rfl⟩
  have HN : Hid (L.length = n) := hn
  rw [hn] at hl ⊢
  clear hn
  have e0 : ((n : Int) != (n : Int)) = false := by simp
  go_enter Tryz.func102, Tryz.ntmps102
  go_wp2
  go_loopw [5] (fun i wr => ∃ k : Nat, k ≤ n ∧ i = .int .i64 k ∧ Hid (Below w.heap.size w wr)) (fun i _ => n - (intOf i).toNat)
  case atStart => exact ⟨0, by omega, rfl, Below.refl _ _⟩
  case round =>
    obtain ⟨k, hk, rfl, hb⟩ := hrel
    by_cases hlt : k < n
    · have hlt2 : k < L.length := by rw [HN.out]; exact hlt
      obtain ⟨s, hs⟩ : ∃ s, L[k] = s := ⟨_, rfl⟩
      obtain ⟨x0, x1⟩ := s
      have u1 := fun j hj => (H1.out.below hb.out).cell k hlt2 j hj
      have u2 := fun j hj => (H2.out.below hb.out).cell k hlt2 j hj
      have p0 : wr.cell? ⟨g1, o1 + k * 2, none⟩ = some (.int .i64 x0) := by have h9 := u1 0 (by omega); rw [hs] at h9; exact h9
      have p1 : wr.cell? ⟨g1, o1 + k * 2 + 1, none⟩ = some (.int .i64 x1) := by have h9 := u1 1 (by omega); rw [hs] at h9; exact h9
      have q0 : wr.cell? ⟨g2, o2 + k * 2, none⟩ = some (.int .i64 x0) := by have h9 := u2 0 (by omega); rw [hs] at h9; exact h9
      have q1 : wr.cell? ⟨g2, o2 + k * 2 + 1, none⟩ = some (.int .i64 x1) := by have h9 := u2 1 (by omega); rw [hs] at h9; exact h9
      have hli : (k : Int) < (n : Int) := by omega
      clear hs u1 u2
      go_wp2
      go_region_with (go_at_call 117; refine (eq_one x0 x1 _).mono ?_; rintro e w1 ⟨rfl, hb1⟩)
      all_goals
        have hB1 : Hid (Below w.heap.size w w1) := hb.out.drew.trans (hb1.mono hb.out.size)
        clear hb1 p0 q0 p1 q1
        go_wp2
        go_roundw
        case rel => exact ⟨k + 1, by omega, by go_num, hB1⟩
        case measure => simp [intOf]; omega
    · obtain rfl : k = n := by omega
      go_wp2
      go_ret
      exact ⟨rfl, hb.out⟩

/-- The marks of n structs from k on. -/
def marks (k n : Nat) : List Sample := (List.range n).map fun i => ⟨((k + 2 * i : Nat) : Int), ((k + 2 * i + 1 : Nat) : Int)⟩
/-- Elements that came in. -/
def InArg (w : World) (b o : Nat) (L : List Sample) : Prop := ∀ (i : Nat) (h : i < L.length) (j : Nat), j < 2 → w.cell? ⟨b, o + i * 2 + j, none⟩ = (cells L[i])[j]?
theorem InArg.below {w w' : World} {b o : Nat} {L : List Sample} (h : InArg w b o L) (hb : Below w.heap.size w w') : InArg w' b o L := fun i hi j hj => by
  have h1 := h i hi j hj
  rw [List.getElem?_eq_getElem (by rw [cells_len]; exact hj)] at h1 ⊢
  exact (hb.cell (World.block_lt_of_cell? w _ h1)).trans h1
def Arg (w : World) (a : Option Addr) (L : List Sample) : Prop := L = [] ∨ ∃ b o, a = some ⟨b, o, none⟩ ∧ InArg w b o L
theorem Arg.below {w w' : World} {a : Option Addr} {L : List Sample} (h : Arg w a L) (hb : Below w.heap.size w w') : Arg w' a L := by
  rcases h with h | ⟨b, o, ha, hr⟩
  · exact Or.inl h
  · exact Or.inr ⟨b, o, ha, hr.below hb⟩

theorem info_el : (Tryz.prog.info? 155).map (fun i => (i.zero, i.size)) = some (some (.agg #[.int .i64 0, .int .i64 0]), 2) := by kernel_rfl
theorem info_bytes : ((Tryz.prog.info? 155).map fun i => decide (i.bytes ≤ 16)) = some true := by kernel_rfl
theorem make_rows (n : Nat) (hn : n ≤ 1048577) (W : World) :
    (Instr.makeSlice 48 (.int .i64 (n : Int)) (.int .i64 (n : Int))).run Tryz.prog W = .ok (.slice (some ⟨W.heap.size, 0, none⟩) n n) (W.alloc (.cells (madeCells #[.int .i64 0, .int .i64 0] (n * 2)) 155)) := by
  obtain ⟨i, hi, hz, hs⟩ : ∃ i, Tryz.prog.info? 155 = some i ∧ i.zero = some (.agg #[.int .i64 0, .int .i64 0]) ∧ i.size = 2 := by
    have := info_el
    cases h : Tryz.prog.info? 155 with
    | none => rw [h] at this; cases this
    | some i => rw [h] at this; simp at this; exact ⟨i, rfl, this.1, this.2⟩
  have hb : i.bytes ≤ 16 := by have := info_bytes; rw [hi] at this; simpa using this
  have hb2 : i.bytes * n ≤ 16 * n := Nat.mul_le_mul_right n hb
  have h := run_make (P := Tryz.prog) W 48 155 i _ Tryz.underlying48 hi hz .i64 .i64 (n : Int) (n : Int) (by omega) (by omega) (by first | omega | (rw [Nat.mul_comm]; omega)) (by omega)
  rw [hs] at h
  simpa [Value.cells] using h

set_option maxHeartbeats 4000000 in
theorem to_rows (a : Option Addr) (cap : Nat) (L : List Sample) (w : World) (ha : Arg w a L) (hl : L.length ≤ 1048577) :
    Calls Tryz.prog 84 #[.slice a L.length cap] w fun e w' => ∃ g, e = .returned (.slice (some ⟨g, 0, none⟩) L.length L.length) ∧ w.heap.size ≤ g ∧ Row 155 2 cells w' g 0 L ∧ Below w.heap.size w w' := by
  have hmk := make_rows L.length hl
  have HF : Hid (Part 155 2 cells (w.alloc (.cells (madeCells #[.int .i64 0, .int .i64 0] (L.length * 2)) 155)) w.heap.size 0 L 0) := Part.made w L #[.int .i64 0, .int .i64 0] (by rw [size_madeCells])
  have HB : Hid (Below w.heap.size w (w.alloc (.cells (madeCells #[.int .i64 0, .int .i64 0] (L.length * 2)) 155))) := (Below.refl _ _).alloc (Nat.le_refl _) _
  have HA : Hid (Arg w a L) := ha
  clear ha
  obtain ⟨n, hn⟩ : ∃ n, L.length = n := ⟨_, rfl⟩
  have HN : Hid (L.length = n) := hn
  rw [hn] at hl hmk HF HB ⊢
  clear hn
  go_enter Tryz.func84, Tryz.ntmps84
  go_wp2
  go_loopw [4] (fun i wr => ∃ k : Nat, k ≤ n ∧ i = .int .i64 k ∧ Hid (Part 155 2 cells wr w.heap.size 0 L k) ∧ Hid (Below w.heap.size w wr)) (fun i _ => n - (intOf i).toNat)
  case atStart => exact ⟨0, by omega, rfl, HF, HB⟩
  case round =>
    clear HF HB hmk
    obtain ⟨k, hk, rfl, HF, HB⟩ := hrel
    by_cases hlt : k < n
    · have hlt2 : k < L.length := by rw [HN.out]; exact hlt
      rcases HA.out with hnil | ⟨b, o, rfl, hA⟩
      · rw [hnil] at hlt2; simp at hlt2
      · have u1 := fun j hj => (hA.below HB.out) k hlt2 j hj
        obtain ⟨s, hs⟩ : ∃ s, L[k] = s := ⟨_, rfl⟩
        obtain ⟨x0, x1⟩ := s
        have KX : Hid (L[k] = ⟨x0, x1⟩) := hs
        have q0 : wr.cell? ⟨b, o + k * 2, none⟩ = some (.int .i64 x0) := by have h9 := u1 0 (by omega); rw [hs] at h9; exact h9
        have q1 : wr.cell? ⟨b, o + k * 2 + 1, none⟩ = some (.int .i64 x1) := by have h9 := u1 1 (by omega); rw [hs] at h9; exact h9
        have hli : (k : Int) < (n : Int) := by omega
        clear hs hA u1
        go_wp2_with (go_at_call 106; refine (to_one x0 x1 _).mono ?_; rintro e w1 ⟨rfl, hb⟩; have HF1 : Hid (Part 155 2 cells w1 w.heap.size 0 L k) := HF.out.same (hb.block _ HF.out.lt); have HB1 : Hid (Below w.heap.size w w1) := HB.out.trans (hb.mono HB.out.size); obtain ⟨v0, z0⟩ := HF1.out.cell (k * 2) (by rw [HN.out]; omega); have f0 := HF1.out.fz (k * 2); obtain ⟨v1, z1⟩ := HF1.out.cell (k * 2 + 1) (by rw [HN.out]; omega); have f1 := HF1.out.fz (k * 2 + 1); clear hb)
        have HF2 : Hid (Part 155 2 cells ((w1.setCell ⟨w.heap.size, k * 2, none⟩ (.int .i64 x0)).setCell ⟨w.heap.size, k * 2 + 1, none⟩ (.int .i64 x1)) w.heap.size 0 L (k + 1)) := by
          have h1 := HF1.out.store cells_len hlt2
          rw [KX.out, Nat.zero_add] at h1
          exact h1
        have HB2 : Hid (Below w.heap.size w ((w1.setCell ⟨w.heap.size, k * 2, none⟩ (.int .i64 x0)).setCell ⟨w.heap.size, k * 2 + 1, none⟩ (.int .i64 x1))) := sets_below (Nat.le_refl _) [.int .i64 x0, .int .i64 x1] w1 (k * 2) HB1.out
        go_roundw
        case rel => exact ⟨k + 1, by omega, by go_num, HF2, HB2⟩
        case measure => simp [intOf]; omega
    · obtain rfl : k = n := by omega
      have HR : Hid (Row 155 2 cells wr w.heap.size 0 L) := Part.stop (by rw [HN.out]; exact HF.out)
      go_wp2
      go_ret
      exact ⟨w.heap.size, rfl, Nat.le_refl _, HR.out, HB.out⟩

theorem sz_rows (a : Option Addr) (c n : Nat) (k : Int) (w : World) (hn : (n : Int) ≤ 9223372036854775807) (h0 : 0 ≤ k) (h1 : k ≤ 1048576) :
    Calls Tryz.prog 74 #[.slice a n c, .int .i64 k] w fun e w' => e = .returned (.int .i64 (if (n : Int) ≤ k then k - (n : Int) else -1)) ∧ w' = w := by
  by_cases h : (n : Int) ≤ k
  · rw [if_pos h]
    have t : ¬ (k - (n : Int)) < 0 := by omega
    go_enter Tryz.func74, Tryz.ntmps74
    go_wp2
    go_ret
    exact ⟨rfl, rfl⟩
  · rw [if_neg h]
    have t : (k - (n : Int)) < 0 := by omega
    go_enter Tryz.func74, Tryz.ntmps74
    go_wp2
    go_ret
    exact ⟨rfl, rfl⟩

theorem eq_none (a1 a2 : Option Addr) (c1 c2 : Nat) (w : World) : Calls Tryz.prog 102 #[.slice a1 0 c1, .slice a2 0 c2] w fun e w' => e = .returned (.bool true) ∧ Below w.heap.size w w' := by
  go_enter Tryz.func102, Tryz.ntmps102
  go_wp2
  go_loop [5] (fun i => i = .int .i64 0) (fun _ => 0)
  case atStart => rfl
  case round =>
    subst hrel
    go_wp2
    go_ret
    exact ⟨rfl, Below.refl _ _⟩
theorem eq_any (a1 a2 : Option Addr) (c1 c2 : Nat) (L : List Sample) (w : World) (h1 : Own 155 2 cells w a1 L) (h2 : Own 155 2 cells w a2 L) (hl : L.length ≤ 1048577) :
    Calls Tryz.prog 102 #[.slice a1 L.length c1, .slice a2 L.length c2] w fun e w' => e = .returned (.bool true) ∧ Below w.heap.size w w' := by
  rcases h1 with rfl | ⟨g1, o1, rfl, r1⟩
  · exact eq_none a1 a2 c1 c2 w
  · rcases h2 with rfl | ⟨g2, o2, rfl, r2⟩
    · exact eq_none _ _ c1 c2 w
    · exact eq_rows g1 o1 g2 o2 c1 c2 L w r1 r2 hl
end Go.Proofs.YtnabnghjejncpaaGreat.SampleRows
end

section
namespace Go.Proofs.YtnabnghjejncpaaGreat.SlotRows
open Go.RowKit ListKit SlotKit
set_option maxRecDepth 8000
set_option linter.unusedVariables false
set_option linter.unusedSimpArgs false

theorem eq_one (x0 : Int) (x1 : Bool) (x2 : Int) (x3 : Int) (x4 : Int) (w : World) : Calls Tryz.prog 103 #[.agg #[.int .i64 x0, .bool x1, .int .i64 x2, .int .i64 x3, .int .i64 x4], .agg #[.int .i64 x0, .bool x1, .int .i64 x2, .int .i64 x3, .int .i64 x4]] w fun e w' => e = .returned (.bool true) ∧ Below w.heap.size w w' := by
  have t0 : (x0 != x0) = false := by simp
  have t1 : (x1 != x1) = false := by simp
  have t2 : (x2 != x2) = false := by simp
  have t3 : (x3 != x3) = false := by simp
  have t4 : (x4 != x4) = false := by simp
  go_enter Tryz.func103, Tryz.ntmps103
  go_wp2
  go_ret
  exact ⟨rfl, ((Below.refl _ _).alloc (Nat.le_refl _) _).alloc (by simp) _⟩

theorem to_one (x0 : Int) (x1 : Bool) (x2 : Int) (x3 : Int) (x4 : Int) (w : World) : Calls Tryz.prog 85 #[.agg #[.int .i64 x0, .bool x1, .int .i64 x2, .int .i64 x3, .int .i64 x4]] w fun e w' => e = .returned (.agg #[.int .i64 x0, .bool x1, .int .i64 x2, .int .i64 x3, .int .i64 x4]) ∧ Below w.heap.size w w' := by
  go_enter Tryz.func85, Tryz.ntmps85
  go_wp2
  exact bodyPost_ret (v := .agg #[.int .i64 x0, .bool x1, .int .i64 x2, .int .i64 x3, .int .i64 x4]) (by simp [results, Tryz.results85, go_sem]) rfl ⟨rfl, (((Below.refl _ _).alloc (Nat.le_refl _) _).alloc (by simp) _).alloc (by simp; omega) _⟩

set_option maxHeartbeats 2000000 in
theorem eq_rows (g1 o1 g2 o2 c1 c2 : Nat) (L : List Slot) (w : World) (h1 : Row 75 5 cells w g1 o1 L) (h2 : Row 75 5 cells w g2 o2 L) (hl : L.length ≤ 1048577) :
    Calls Tryz.prog 71 #[.slice (some ⟨g1, o1, none⟩) L.length c1, .slice (some ⟨g2, o2, none⟩) L.length c2] w fun e w' => e = .returned (.bool true) ∧ Below w.heap.size w w' := by
  have H1 : Hid (Row 75 5 cells w g1 o1 L) := h1
  have H2 : Hid (Row 75 5 cells w g2 o2 L) := h2
  clear h1 h2
  obtain ⟨n, hn⟩ : ∃ n, L.length = n := ⟨_, rfl⟩
  have HN : Hid (L.length = n) := hn
  rw [hn] at hl ⊢
  clear hn
  have e0 : ((n : Int) != (n : Int)) = false := by simp
  go_enter Tryz.func71, Tryz.ntmps71
  go_wp2
  go_loopw [5] (fun i wr => ∃ k : Nat, k ≤ n ∧ i = .int .i64 k ∧ Hid (Below w.heap.size w wr)) (fun i _ => n - (intOf i).toNat)
  case atStart => exact ⟨0, by omega, rfl, Below.refl _ _⟩
  case round =>
    obtain ⟨k, hk, rfl, hb⟩ := hrel
    by_cases hlt : k < n
    · have hlt2 : k < L.length := by rw [HN.out]; exact hlt
      obtain ⟨s, hs⟩ : ∃ s, L[k] = s := ⟨_, rfl⟩
      obtain ⟨x0, x1, x2, x3, x4⟩ := s
      have u1 := fun j hj => (H1.out.below hb.out).cell k hlt2 j hj
      have u2 := fun j hj => (H2.out.below hb.out).cell k hlt2 j hj
      have p0 : wr.cell? ⟨g1, o1 + k * 5, none⟩ = some (.int .i64 x0) := by have h9 := u1 0 (by omega); rw [hs] at h9; exact h9
      have p1 : wr.cell? ⟨g1, o1 + k * 5 + 1, none⟩ = some (.bool x1) := by have h9 := u1 1 (by omega); rw [hs] at h9; exact h9
      have p2 : wr.cell? ⟨g1, o1 + k * 5 + 2, none⟩ = some (.int .i64 x2) := by have h9 := u1 2 (by omega); rw [hs] at h9; exact h9
      have p3 : wr.cell? ⟨g1, o1 + k * 5 + 3, none⟩ = some (.int .i64 x3) := by have h9 := u1 3 (by omega); rw [hs] at h9; exact h9
      have p4 : wr.cell? ⟨g1, o1 + k * 5 + 4, none⟩ = some (.int .i64 x4) := by have h9 := u1 4 (by omega); rw [hs] at h9; exact h9
      have q0 : wr.cell? ⟨g2, o2 + k * 5, none⟩ = some (.int .i64 x0) := by have h9 := u2 0 (by omega); rw [hs] at h9; exact h9
      have q1 : wr.cell? ⟨g2, o2 + k * 5 + 1, none⟩ = some (.bool x1) := by have h9 := u2 1 (by omega); rw [hs] at h9; exact h9
      have q2 : wr.cell? ⟨g2, o2 + k * 5 + 2, none⟩ = some (.int .i64 x2) := by have h9 := u2 2 (by omega); rw [hs] at h9; exact h9
      have q3 : wr.cell? ⟨g2, o2 + k * 5 + 3, none⟩ = some (.int .i64 x3) := by have h9 := u2 3 (by omega); rw [hs] at h9; exact h9
      have q4 : wr.cell? ⟨g2, o2 + k * 5 + 4, none⟩ = some (.int .i64 x4) := by have h9 := u2 4 (by omega); rw [hs] at h9; exact h9
      have hli : (k : Int) < (n : Int) := by omega
      clear hs u1 u2
      go_wp2
      go_region_with (go_at_call 103; refine (eq_one x0 x1 x2 x3 x4 _).mono ?_; rintro e w1 ⟨rfl, hb1⟩)
      all_goals
        have hB1 : Hid (Below w.heap.size w w1) := hb.out.drew.trans (hb1.mono hb.out.size)
        clear hb1 p0 q0 p1 q1 p2 q2 p3 q3 p4 q4
        go_wp2
        go_roundw
        case rel => exact ⟨k + 1, by omega, by go_num, hB1⟩
        case measure => simp [intOf]; omega
    · obtain rfl : k = n := by omega
      go_wp2
      go_ret
      exact ⟨rfl, hb.out⟩

/-- The marks of n structs from k on. -/
def marks (k n : Nat) : List Slot := (List.range n).map fun i => ⟨((k + 5 * i : Nat) : Int), ((((k + 5 * i + 1 : Nat) : Int) % 3) == 0), ((k + 5 * i + 2 : Nat) : Int), ((k + 5 * i + 3 : Nat) : Int), ((k + 5 * i + 4 : Nat) : Int)⟩
/-- Elements that came in. -/
def InArg (w : World) (b o : Nat) (L : List Slot) : Prop := ∀ (i : Nat) (h : i < L.length) (j : Nat), j < 5 → w.cell? ⟨b, o + i * 5 + j, none⟩ = (cells L[i])[j]?
theorem InArg.below {w w' : World} {b o : Nat} {L : List Slot} (h : InArg w b o L) (hb : Below w.heap.size w w') : InArg w' b o L := fun i hi j hj => by
  have h1 := h i hi j hj
  rw [List.getElem?_eq_getElem (by rw [cells_len]; exact hj)] at h1 ⊢
  exact (hb.cell (World.block_lt_of_cell? w _ h1)).trans h1
def Arg (w : World) (a : Option Addr) (L : List Slot) : Prop := L = [] ∨ ∃ b o, a = some ⟨b, o, none⟩ ∧ InArg w b o L
theorem Arg.below {w w' : World} {a : Option Addr} {L : List Slot} (h : Arg w a L) (hb : Below w.heap.size w w') : Arg w' a L := by
  rcases h with h | ⟨b, o, ha, hr⟩
  · exact Or.inl h
  · exact Or.inr ⟨b, o, ha, hr.below hb⟩

theorem info_el : (Tryz.prog.info? 75).map (fun i => (i.zero, i.size)) = some (some (.agg #[.int .i64 0, .bool false, .int .i64 0, .int .i64 0, .int .i64 0]), 5) := by kernel_rfl
theorem info_bytes : ((Tryz.prog.info? 75).map fun i => decide (i.bytes ≤ 40)) = some true := by kernel_rfl
theorem make_rows (n : Nat) (hn : n ≤ 1048577) (W : World) :
    (Instr.makeSlice 53 (.int .i64 (n : Int)) (.int .i64 (n : Int))).run Tryz.prog W = .ok (.slice (some ⟨W.heap.size, 0, none⟩) n n) (W.alloc (.cells (madeCells #[.int .i64 0, .bool false, .int .i64 0, .int .i64 0, .int .i64 0] (n * 5)) 75)) := by
  obtain ⟨i, hi, hz, hs⟩ : ∃ i, Tryz.prog.info? 75 = some i ∧ i.zero = some (.agg #[.int .i64 0, .bool false, .int .i64 0, .int .i64 0, .int .i64 0]) ∧ i.size = 5 := by
    have := info_el
    cases h : Tryz.prog.info? 75 with
    | none => rw [h] at this; cases this
    | some i => rw [h] at this; simp at this; exact ⟨i, rfl, this.1, this.2⟩
  have hb : i.bytes ≤ 40 := by have := info_bytes; rw [hi] at this; simpa using this
  have hb2 : i.bytes * n ≤ 40 * n := Nat.mul_le_mul_right n hb
  have h := run_make (P := Tryz.prog) W 53 75 i _ Tryz.underlying53 hi hz .i64 .i64 (n : Int) (n : Int) (by omega) (by omega) (by first | omega | (rw [Nat.mul_comm]; omega)) (by omega)
  rw [hs] at h
  simpa [Value.cells] using h

set_option maxHeartbeats 4000000 in
theorem to_rows (a : Option Addr) (cap : Nat) (L : List Slot) (w : World) (ha : Arg w a L) (hl : L.length ≤ 1048577) :
    Calls Tryz.prog 51 #[.slice a L.length cap] w fun e w' => ∃ g, e = .returned (.slice (some ⟨g, 0, none⟩) L.length L.length) ∧ w.heap.size ≤ g ∧ Row 75 5 cells w' g 0 L ∧ Below w.heap.size w w' := by
  have hmk := make_rows L.length hl
  have HF : Hid (Part 75 5 cells (w.alloc (.cells (madeCells #[.int .i64 0, .bool false, .int .i64 0, .int .i64 0, .int .i64 0] (L.length * 5)) 75)) w.heap.size 0 L 0) := Part.made w L #[.int .i64 0, .bool false, .int .i64 0, .int .i64 0, .int .i64 0] (by rw [size_madeCells])
  have HB : Hid (Below w.heap.size w (w.alloc (.cells (madeCells #[.int .i64 0, .bool false, .int .i64 0, .int .i64 0, .int .i64 0] (L.length * 5)) 75))) := (Below.refl _ _).alloc (Nat.le_refl _) _
  have HA : Hid (Arg w a L) := ha
  clear ha
  obtain ⟨n, hn⟩ : ∃ n, L.length = n := ⟨_, rfl⟩
  have HN : Hid (L.length = n) := hn
  rw [hn] at hl hmk HF HB ⊢
  clear hn
  go_enter Tryz.func51, Tryz.ntmps51
  go_wp2
  go_loopw [4] (fun i wr => ∃ k : Nat, k ≤ n ∧ i = .int .i64 k ∧ Hid (Part 75 5 cells wr w.heap.size 0 L k) ∧ Hid (Below w.heap.size w wr)) (fun i _ => n - (intOf i).toNat)
  case atStart => exact ⟨0, by omega, rfl, HF, HB⟩
  case round =>
    clear HF HB hmk
    obtain ⟨k, hk, rfl, HF, HB⟩ := hrel
    by_cases hlt : k < n
    · have hlt2 : k < L.length := by rw [HN.out]; exact hlt
      rcases HA.out with hnil | ⟨b, o, rfl, hA⟩
      · rw [hnil] at hlt2; simp at hlt2
      · have u1 := fun j hj => (hA.below HB.out) k hlt2 j hj
        obtain ⟨s, hs⟩ : ∃ s, L[k] = s := ⟨_, rfl⟩
        obtain ⟨x0, x1, x2, x3, x4⟩ := s
        have KX : Hid (L[k] = ⟨x0, x1, x2, x3, x4⟩) := hs
        have q0 : wr.cell? ⟨b, o + k * 5, none⟩ = some (.int .i64 x0) := by have h9 := u1 0 (by omega); rw [hs] at h9; exact h9
        have q1 : wr.cell? ⟨b, o + k * 5 + 1, none⟩ = some (.bool x1) := by have h9 := u1 1 (by omega); rw [hs] at h9; exact h9
        have q2 : wr.cell? ⟨b, o + k * 5 + 2, none⟩ = some (.int .i64 x2) := by have h9 := u1 2 (by omega); rw [hs] at h9; exact h9
        have q3 : wr.cell? ⟨b, o + k * 5 + 3, none⟩ = some (.int .i64 x3) := by have h9 := u1 3 (by omega); rw [hs] at h9; exact h9
        have q4 : wr.cell? ⟨b, o + k * 5 + 4, none⟩ = some (.int .i64 x4) := by have h9 := u1 4 (by omega); rw [hs] at h9; exact h9
        have hli : (k : Int) < (n : Int) := by omega
        clear hs hA u1
        go_wp2_with (go_at_call 85; refine (to_one x0 x1 x2 x3 x4 _).mono ?_; rintro e w1 ⟨rfl, hb⟩; have HF1 : Hid (Part 75 5 cells w1 w.heap.size 0 L k) := HF.out.same (hb.block _ HF.out.lt); have HB1 : Hid (Below w.heap.size w w1) := HB.out.trans (hb.mono HB.out.size); obtain ⟨v0, z0⟩ := HF1.out.cell (k * 5) (by rw [HN.out]; omega); have f0 := HF1.out.fz (k * 5); obtain ⟨v1, z1⟩ := HF1.out.cell (k * 5 + 1) (by rw [HN.out]; omega); have f1 := HF1.out.fz (k * 5 + 1); obtain ⟨v2, z2⟩ := HF1.out.cell (k * 5 + 2) (by rw [HN.out]; omega); have f2 := HF1.out.fz (k * 5 + 2); obtain ⟨v3, z3⟩ := HF1.out.cell (k * 5 + 3) (by rw [HN.out]; omega); have f3 := HF1.out.fz (k * 5 + 3); obtain ⟨v4, z4⟩ := HF1.out.cell (k * 5 + 4) (by rw [HN.out]; omega); have f4 := HF1.out.fz (k * 5 + 4); clear hb)
        have HF2 : Hid (Part 75 5 cells (((((w1.setCell ⟨w.heap.size, k * 5, none⟩ (.int .i64 x0)).setCell ⟨w.heap.size, k * 5 + 1, none⟩ (.bool x1)).setCell ⟨w.heap.size, k * 5 + 2, none⟩ (.int .i64 x2)).setCell ⟨w.heap.size, k * 5 + 3, none⟩ (.int .i64 x3)).setCell ⟨w.heap.size, k * 5 + 4, none⟩ (.int .i64 x4)) w.heap.size 0 L (k + 1)) := by
          have h1 := HF1.out.store cells_len hlt2
          rw [KX.out, Nat.zero_add] at h1
          exact h1
        have HB2 : Hid (Below w.heap.size w (((((w1.setCell ⟨w.heap.size, k * 5, none⟩ (.int .i64 x0)).setCell ⟨w.heap.size, k * 5 + 1, none⟩ (.bool x1)).setCell ⟨w.heap.size, k * 5 + 2, none⟩ (.int .i64 x2)).setCell ⟨w.heap.size, k * 5 + 3, none⟩ (.int .i64 x3)).setCell ⟨w.heap.size, k * 5 + 4, none⟩ (.int .i64 x4))) := sets_below (Nat.le_refl _) [.int .i64 x0, .bool x1, .int .i64 x2, .int .i64 x3, .int .i64 x4] w1 (k * 5) HB1.out
        go_roundw
        case rel => exact ⟨k + 1, by omega, by go_num, HF2, HB2⟩
        case measure => simp [intOf]; omega
    · obtain rfl : k = n := by omega
      have HR : Hid (Row 75 5 cells wr w.heap.size 0 L) := Part.stop (by rw [HN.out]; exact HF.out)
      go_wp2
      go_ret
      exact ⟨w.heap.size, rfl, Nat.le_refl _, HR.out, HB.out⟩

theorem sz_rows (a : Option Addr) (c n : Nat) (k : Int) (w : World) (hn : (n : Int) ≤ 9223372036854775807) (h0 : 0 ≤ k) (h1 : k ≤ 1048576) :
    Calls Tryz.prog 39 #[.slice a n c, .int .i64 k] w fun e w' => e = .returned (.int .i64 (if (n : Int) ≤ k then k - (n : Int) else -1)) ∧ w' = w := by
  by_cases h : (n : Int) ≤ k
  · rw [if_pos h]
    have t : ¬ (k - (n : Int)) < 0 := by omega
    go_enter Tryz.func39, Tryz.ntmps39
    go_wp2
    go_ret
    exact ⟨rfl, rfl⟩
  · rw [if_neg h]
    have t : (k - (n : Int)) < 0 := by omega
    go_enter Tryz.func39, Tryz.ntmps39
    go_wp2
    go_ret
    exact ⟨rfl, rfl⟩

theorem eq_none (a1 a2 : Option Addr) (c1 c2 : Nat) (w : World) : Calls Tryz.prog 71 #[.slice a1 0 c1, .slice a2 0 c2] w fun e w' => e = .returned (.bool true) ∧ Below w.heap.size w w' := by
  go_enter Tryz.func71, Tryz.ntmps71
  go_wp2
  go_loop [5] (fun i => i = .int .i64 0) (fun _ => 0)
  case atStart => rfl
  case round =>
    subst hrel
    go_wp2
    go_ret
    exact ⟨rfl, Below.refl _ _⟩
theorem eq_any (a1 a2 : Option Addr) (c1 c2 : Nat) (L : List Slot) (w : World) (h1 : Own 75 5 cells w a1 L) (h2 : Own 75 5 cells w a2 L) (hl : L.length ≤ 1048577) :
    Calls Tryz.prog 71 #[.slice a1 L.length c1, .slice a2 L.length c2] w fun e w' => e = .returned (.bool true) ∧ Below w.heap.size w w' := by
  rcases h1 with rfl | ⟨g1, o1, rfl, r1⟩
  · exact eq_none a1 a2 c1 c2 w
  · rcases h2 with rfl | ⟨g2, o2, rfl, r2⟩
    · exact eq_none _ _ c1 c2 w
    · exact eq_rows g1 o1 g2 o2 c1 c2 L w r1 r2 hl
end Go.Proofs.YtnabnghjejncpaaGreat.SlotRows
end

section
namespace Go.Proofs.YtnabnghjejncpaaGreat.ReqRows
open Go.RowKit ListKit ReqKit
set_option maxRecDepth 8000
set_option linter.unusedVariables false
set_option linter.unusedSimpArgs false

theorem eq_one (x0 : Int) (x1 : Int) (x2 : Int) (x3 : Int) (x4 : Int) (x5 : Int) (w : World) : Calls Tryz.prog 104 #[.agg #[.int .i64 x0, .int .i64 x1, .int .i64 x2, .int .i64 x3, .int .i64 x4, .int .i64 x5], .agg #[.int .i64 x0, .int .i64 x1, .int .i64 x2, .int .i64 x3, .int .i64 x4, .int .i64 x5]] w fun e w' => e = .returned (.bool true) ∧ Below w.heap.size w w' := by
  have t0 : (x0 != x0) = false := by simp
  have t1 : (x1 != x1) = false := by simp
  have t2 : (x2 != x2) = false := by simp
  have t3 : (x3 != x3) = false := by simp
  have t4 : (x4 != x4) = false := by simp
  have t5 : (x5 != x5) = false := by simp
  go_enter Tryz.func104, Tryz.ntmps104
  go_wp2
  go_ret
  exact ⟨rfl, ((Below.refl _ _).alloc (Nat.le_refl _) _).alloc (by simp) _⟩

theorem to_one (x0 : Int) (x1 : Int) (x2 : Int) (x3 : Int) (x4 : Int) (x5 : Int) (w : World) : Calls Tryz.prog 86 #[.agg #[.int .i64 x0, .int .i64 x1, .int .i64 x2, .int .i64 x3, .int .i64 x4, .int .i64 x5]] w fun e w' => e = .returned (.agg #[.int .i64 x0, .int .i64 x1, .int .i64 x2, .int .i64 x3, .int .i64 x4, .int .i64 x5]) ∧ Below w.heap.size w w' := by
  go_enter Tryz.func86, Tryz.ntmps86
  go_wp2
  exact bodyPost_ret (v := .agg #[.int .i64 x0, .int .i64 x1, .int .i64 x2, .int .i64 x3, .int .i64 x4, .int .i64 x5]) (by simp [results, Tryz.results86, go_sem]) rfl ⟨rfl, (((Below.refl _ _).alloc (Nat.le_refl _) _).alloc (by simp) _).alloc (by simp; omega) _⟩

set_option maxHeartbeats 2000000 in
theorem eq_rows (g1 o1 g2 o2 c1 c2 : Nat) (L : List Req) (w : World) (h1 : Row 72 6 cells w g1 o1 L) (h2 : Row 72 6 cells w g2 o2 L) (hl : L.length ≤ 1048577) :
    Calls Tryz.prog 72 #[.slice (some ⟨g1, o1, none⟩) L.length c1, .slice (some ⟨g2, o2, none⟩) L.length c2] w fun e w' => e = .returned (.bool true) ∧ Below w.heap.size w w' := by
  have H1 : Hid (Row 72 6 cells w g1 o1 L) := h1
  have H2 : Hid (Row 72 6 cells w g2 o2 L) := h2
  clear h1 h2
  obtain ⟨n, hn⟩ : ∃ n, L.length = n := ⟨_, rfl⟩
  have HN : Hid (L.length = n) := hn
  rw [hn] at hl ⊢
  clear hn
  have e0 : ((n : Int) != (n : Int)) = false := by simp
  go_enter Tryz.func72, Tryz.ntmps72
  go_wp2
  go_loopw [5] (fun i wr => ∃ k : Nat, k ≤ n ∧ i = .int .i64 k ∧ Hid (Below w.heap.size w wr)) (fun i _ => n - (intOf i).toNat)
  case atStart => exact ⟨0, by omega, rfl, Below.refl _ _⟩
  case round =>
    obtain ⟨k, hk, rfl, hb⟩ := hrel
    by_cases hlt : k < n
    · have hlt2 : k < L.length := by rw [HN.out]; exact hlt
      obtain ⟨s, hs⟩ : ∃ s, L[k] = s := ⟨_, rfl⟩
      obtain ⟨x0, x1, x2, x3, x4, x5⟩ := s
      have u1 := fun j hj => (H1.out.below hb.out).cell k hlt2 j hj
      have u2 := fun j hj => (H2.out.below hb.out).cell k hlt2 j hj
      have p0 : wr.cell? ⟨g1, o1 + k * 6, none⟩ = some (.int .i64 x0) := by have h9 := u1 0 (by omega); rw [hs] at h9; exact h9
      have p1 : wr.cell? ⟨g1, o1 + k * 6 + 1, none⟩ = some (.int .i64 x1) := by have h9 := u1 1 (by omega); rw [hs] at h9; exact h9
      have p2 : wr.cell? ⟨g1, o1 + k * 6 + 2, none⟩ = some (.int .i64 x2) := by have h9 := u1 2 (by omega); rw [hs] at h9; exact h9
      have p3 : wr.cell? ⟨g1, o1 + k * 6 + 3, none⟩ = some (.int .i64 x3) := by have h9 := u1 3 (by omega); rw [hs] at h9; exact h9
      have p4 : wr.cell? ⟨g1, o1 + k * 6 + 4, none⟩ = some (.int .i64 x4) := by have h9 := u1 4 (by omega); rw [hs] at h9; exact h9
      have p5 : wr.cell? ⟨g1, o1 + k * 6 + 5, none⟩ = some (.int .i64 x5) := by have h9 := u1 5 (by omega); rw [hs] at h9; exact h9
      have q0 : wr.cell? ⟨g2, o2 + k * 6, none⟩ = some (.int .i64 x0) := by have h9 := u2 0 (by omega); rw [hs] at h9; exact h9
      have q1 : wr.cell? ⟨g2, o2 + k * 6 + 1, none⟩ = some (.int .i64 x1) := by have h9 := u2 1 (by omega); rw [hs] at h9; exact h9
      have q2 : wr.cell? ⟨g2, o2 + k * 6 + 2, none⟩ = some (.int .i64 x2) := by have h9 := u2 2 (by omega); rw [hs] at h9; exact h9
      have q3 : wr.cell? ⟨g2, o2 + k * 6 + 3, none⟩ = some (.int .i64 x3) := by have h9 := u2 3 (by omega); rw [hs] at h9; exact h9
      have q4 : wr.cell? ⟨g2, o2 + k * 6 + 4, none⟩ = some (.int .i64 x4) := by have h9 := u2 4 (by omega); rw [hs] at h9; exact h9
      have q5 : wr.cell? ⟨g2, o2 + k * 6 + 5, none⟩ = some (.int .i64 x5) := by have h9 := u2 5 (by omega); rw [hs] at h9; exact h9
      have hli : (k : Int) < (n : Int) := by omega
      clear hs u1 u2
      go_wp2
      go_region_with (go_at_call 104; refine (eq_one x0 x1 x2 x3 x4 x5 _).mono ?_; rintro e w1 ⟨rfl, hb1⟩)
      all_goals
        have hB1 : Hid (Below w.heap.size w w1) := hb.out.drew.trans (hb1.mono hb.out.size)
        clear hb1 p0 q0 p1 q1 p2 q2 p3 q3 p4 q4 p5 q5
        go_wp2
        go_roundw
        case rel => exact ⟨k + 1, by omega, by go_num, hB1⟩
        case measure => simp [intOf]; omega
    · obtain rfl : k = n := by omega
      go_wp2
      go_ret
      exact ⟨rfl, hb.out⟩

/-- The marks of n structs from k on. -/
def marks (k n : Nat) : List Req := (List.range n).map fun i => ⟨((k + 6 * i : Nat) : Int), ((k + 6 * i + 1 : Nat) : Int), ((k + 6 * i + 2 : Nat) : Int), ((k + 6 * i + 3 : Nat) : Int), ((k + 6 * i + 4 : Nat) : Int), ((k + 6 * i + 5 : Nat) : Int)⟩
/-- Elements that came in. -/
def InArg (w : World) (b o : Nat) (L : List Req) : Prop := ∀ (i : Nat) (h : i < L.length) (j : Nat), j < 6 → w.cell? ⟨b, o + i * 6 + j, none⟩ = (cells L[i])[j]?
theorem InArg.below {w w' : World} {b o : Nat} {L : List Req} (h : InArg w b o L) (hb : Below w.heap.size w w') : InArg w' b o L := fun i hi j hj => by
  have h1 := h i hi j hj
  rw [List.getElem?_eq_getElem (by rw [cells_len]; exact hj)] at h1 ⊢
  exact (hb.cell (World.block_lt_of_cell? w _ h1)).trans h1
def Arg (w : World) (a : Option Addr) (L : List Req) : Prop := L = [] ∨ ∃ b o, a = some ⟨b, o, none⟩ ∧ InArg w b o L
theorem Arg.below {w w' : World} {a : Option Addr} {L : List Req} (h : Arg w a L) (hb : Below w.heap.size w w') : Arg w' a L := by
  rcases h with h | ⟨b, o, ha, hr⟩
  · exact Or.inl h
  · exact Or.inr ⟨b, o, ha, hr.below hb⟩

theorem info_el : (Tryz.prog.info? 72).map (fun i => (i.zero, i.size)) = some (some (.agg #[.int .i64 0, .int .i64 0, .int .i64 0, .int .i64 0, .int .i64 0, .int .i64 0]), 6) := by kernel_rfl
theorem info_bytes : ((Tryz.prog.info? 72).map fun i => decide (i.bytes ≤ 48)) = some true := by kernel_rfl
theorem make_rows (n : Nat) (hn : n ≤ 1048577) (W : World) :
    (Instr.makeSlice 56 (.int .i64 (n : Int)) (.int .i64 (n : Int))).run Tryz.prog W = .ok (.slice (some ⟨W.heap.size, 0, none⟩) n n) (W.alloc (.cells (madeCells #[.int .i64 0, .int .i64 0, .int .i64 0, .int .i64 0, .int .i64 0, .int .i64 0] (n * 6)) 72)) := by
  obtain ⟨i, hi, hz, hs⟩ : ∃ i, Tryz.prog.info? 72 = some i ∧ i.zero = some (.agg #[.int .i64 0, .int .i64 0, .int .i64 0, .int .i64 0, .int .i64 0, .int .i64 0]) ∧ i.size = 6 := by
    have := info_el
    cases h : Tryz.prog.info? 72 with
    | none => rw [h] at this; cases this
    | some i => rw [h] at this; simp at this; exact ⟨i, rfl, this.1, this.2⟩
  have hb : i.bytes ≤ 48 := by have := info_bytes; rw [hi] at this; simpa using this
  have hb2 : i.bytes * n ≤ 48 * n := Nat.mul_le_mul_right n hb
  have h := run_make (P := Tryz.prog) W 56 72 i _ Tryz.underlying56 hi hz .i64 .i64 (n : Int) (n : Int) (by omega) (by omega) (by first | omega | (rw [Nat.mul_comm]; omega)) (by omega)
  rw [hs] at h
  simpa [Value.cells] using h

set_option maxHeartbeats 4000000 in
theorem to_rows (a : Option Addr) (cap : Nat) (L : List Req) (w : World) (ha : Arg w a L) (hl : L.length ≤ 1048577) :
    Calls Tryz.prog 52 #[.slice a L.length cap] w fun e w' => ∃ g, e = .returned (.slice (some ⟨g, 0, none⟩) L.length L.length) ∧ w.heap.size ≤ g ∧ Row 72 6 cells w' g 0 L ∧ Below w.heap.size w w' := by
  have hmk := make_rows L.length hl
  have HF : Hid (Part 72 6 cells (w.alloc (.cells (madeCells #[.int .i64 0, .int .i64 0, .int .i64 0, .int .i64 0, .int .i64 0, .int .i64 0] (L.length * 6)) 72)) w.heap.size 0 L 0) := Part.made w L #[.int .i64 0, .int .i64 0, .int .i64 0, .int .i64 0, .int .i64 0, .int .i64 0] (by rw [size_madeCells])
  have HB : Hid (Below w.heap.size w (w.alloc (.cells (madeCells #[.int .i64 0, .int .i64 0, .int .i64 0, .int .i64 0, .int .i64 0, .int .i64 0] (L.length * 6)) 72))) := (Below.refl _ _).alloc (Nat.le_refl _) _
  have HA : Hid (Arg w a L) := ha
  clear ha
  obtain ⟨n, hn⟩ : ∃ n, L.length = n := ⟨_, rfl⟩
  have HN : Hid (L.length = n) := hn
  rw [hn] at hl hmk HF HB ⊢
  clear hn
  go_enter Tryz.func52, Tryz.ntmps52
  go_wp2
  go_loopw [4] (fun i wr => ∃ k : Nat, k ≤ n ∧ i = .int .i64 k ∧ Hid (Part 72 6 cells wr w.heap.size 0 L k) ∧ Hid (Below w.heap.size w wr)) (fun i _ => n - (intOf i).toNat)
  case atStart => exact ⟨0, by omega, rfl, HF, HB⟩
  case round =>
    clear HF HB hmk
    obtain ⟨k, hk, rfl, HF, HB⟩ := hrel
    by_cases hlt : k < n
    · have hlt2 : k < L.length := by rw [HN.out]; exact hlt
      rcases HA.out with hnil | ⟨b, o, rfl, hA⟩
      · rw [hnil] at hlt2; simp at hlt2
      · have u1 := fun j hj => (hA.below HB.out) k hlt2 j hj
        obtain ⟨s, hs⟩ : ∃ s, L[k] = s := ⟨_, rfl⟩
        obtain ⟨x0, x1, x2, x3, x4, x5⟩ := s
        have KX : Hid (L[k] = ⟨x0, x1, x2, x3, x4, x5⟩) := hs
        have q0 : wr.cell? ⟨b, o + k * 6, none⟩ = some (.int .i64 x0) := by have h9 := u1 0 (by omega); rw [hs] at h9; exact h9
        have q1 : wr.cell? ⟨b, o + k * 6 + 1, none⟩ = some (.int .i64 x1) := by have h9 := u1 1 (by omega); rw [hs] at h9; exact h9
        have q2 : wr.cell? ⟨b, o + k * 6 + 2, none⟩ = some (.int .i64 x2) := by have h9 := u1 2 (by omega); rw [hs] at h9; exact h9
        have q3 : wr.cell? ⟨b, o + k * 6 + 3, none⟩ = some (.int .i64 x3) := by have h9 := u1 3 (by omega); rw [hs] at h9; exact h9
        have q4 : wr.cell? ⟨b, o + k * 6 + 4, none⟩ = some (.int .i64 x4) := by have h9 := u1 4 (by omega); rw [hs] at h9; exact h9
        have q5 : wr.cell? ⟨b, o + k * 6 + 5, none⟩ = some (.int .i64 x5) := by have h9 := u1 5 (by omega); rw [hs] at h9; exact h9
        have hli : (k : Int) < (n : Int) := by omega
        clear hs hA u1
        go_wp2_with (go_at_call 86; refine (to_one x0 x1 x2 x3 x4 x5 _).mono ?_; rintro e w1 ⟨rfl, hb⟩; have HF1 : Hid (Part 72 6 cells w1 w.heap.size 0 L k) := HF.out.same (hb.block _ HF.out.lt); have HB1 : Hid (Below w.heap.size w w1) := HB.out.trans (hb.mono HB.out.size); obtain ⟨v0, z0⟩ := HF1.out.cell (k * 6) (by rw [HN.out]; omega); have f0 := HF1.out.fz (k * 6); obtain ⟨v1, z1⟩ := HF1.out.cell (k * 6 + 1) (by rw [HN.out]; omega); have f1 := HF1.out.fz (k * 6 + 1); obtain ⟨v2, z2⟩ := HF1.out.cell (k * 6 + 2) (by rw [HN.out]; omega); have f2 := HF1.out.fz (k * 6 + 2); obtain ⟨v3, z3⟩ := HF1.out.cell (k * 6 + 3) (by rw [HN.out]; omega); have f3 := HF1.out.fz (k * 6 + 3); obtain ⟨v4, z4⟩ := HF1.out.cell (k * 6 + 4) (by rw [HN.out]; omega); have f4 := HF1.out.fz (k * 6 + 4); obtain ⟨v5, z5⟩ := HF1.out.cell (k * 6 + 5) (by rw [HN.out]; omega); have f5 := HF1.out.fz (k * 6 + 5); clear hb)
        have HF2 : Hid (Part 72 6 cells ((((((w1.setCell ⟨w.heap.size, k * 6, none⟩ (.int .i64 x0)).setCell ⟨w.heap.size, k * 6 + 1, none⟩ (.int .i64 x1)).setCell ⟨w.heap.size, k * 6 + 2, none⟩ (.int .i64 x2)).setCell ⟨w.heap.size, k * 6 + 3, none⟩ (.int .i64 x3)).setCell ⟨w.heap.size, k * 6 + 4, none⟩ (.int .i64 x4)).setCell ⟨w.heap.size, k * 6 + 5, none⟩ (.int .i64 x5)) w.heap.size 0 L (k + 1)) := by
          have h1 := HF1.out.store cells_len hlt2
          rw [KX.out, Nat.zero_add] at h1
          exact h1
        have HB2 : Hid (Below w.heap.size w ((((((w1.setCell ⟨w.heap.size, k * 6, none⟩ (.int .i64 x0)).setCell ⟨w.heap.size, k * 6 + 1, none⟩ (.int .i64 x1)).setCell ⟨w.heap.size, k * 6 + 2, none⟩ (.int .i64 x2)).setCell ⟨w.heap.size, k * 6 + 3, none⟩ (.int .i64 x3)).setCell ⟨w.heap.size, k * 6 + 4, none⟩ (.int .i64 x4)).setCell ⟨w.heap.size, k * 6 + 5, none⟩ (.int .i64 x5))) := sets_below (Nat.le_refl _) [.int .i64 x0, .int .i64 x1, .int .i64 x2, .int .i64 x3, .int .i64 x4, .int .i64 x5] w1 (k * 6) HB1.out
        go_roundw
        case rel => exact ⟨k + 1, by omega, by go_num, HF2, HB2⟩
        case measure => simp [intOf]; omega
    · obtain rfl : k = n := by omega
      have HR : Hid (Row 72 6 cells wr w.heap.size 0 L) := Part.stop (by rw [HN.out]; exact HF.out)
      go_wp2
      go_ret
      exact ⟨w.heap.size, rfl, Nat.le_refl _, HR.out, HB.out⟩

theorem sz_rows (a : Option Addr) (c n : Nat) (k : Int) (w : World) (hn : (n : Int) ≤ 9223372036854775807) (h0 : 0 ≤ k) (h1 : k ≤ 1048576) :
    Calls Tryz.prog 40 #[.slice a n c, .int .i64 k] w fun e w' => e = .returned (.int .i64 (if (n : Int) ≤ k then k - (n : Int) else -1)) ∧ w' = w := by
  by_cases h : (n : Int) ≤ k
  · rw [if_pos h]
    have t : ¬ (k - (n : Int)) < 0 := by omega
    go_enter Tryz.func40, Tryz.ntmps40
    go_wp2
    go_ret
    exact ⟨rfl, rfl⟩
  · rw [if_neg h]
    have t : (k - (n : Int)) < 0 := by omega
    go_enter Tryz.func40, Tryz.ntmps40
    go_wp2
    go_ret
    exact ⟨rfl, rfl⟩

theorem eq_none (a1 a2 : Option Addr) (c1 c2 : Nat) (w : World) : Calls Tryz.prog 72 #[.slice a1 0 c1, .slice a2 0 c2] w fun e w' => e = .returned (.bool true) ∧ Below w.heap.size w w' := by
  go_enter Tryz.func72, Tryz.ntmps72
  go_wp2
  go_loop [5] (fun i => i = .int .i64 0) (fun _ => 0)
  case atStart => rfl
  case round =>
    subst hrel
    go_wp2
    go_ret
    exact ⟨rfl, Below.refl _ _⟩

theorem eq_any (a1 a2 : Option Addr) (c1 c2 : Nat) (L : List Req) (w : World) (h1 : Own 72 6 cells w a1 L) (h2 : Own 72 6 cells w a2 L) (hl : L.length ≤ 1048577) :
    Calls Tryz.prog 72 #[.slice a1 L.length c1, .slice a2 L.length c2] w fun e w' => e = .returned (.bool true) ∧ Below w.heap.size w w' := by
  rcases h1 with rfl | ⟨g1, o1, rfl, r1⟩
  · exact eq_none a1 a2 c1 c2 w
  · rcases h2 with rfl | ⟨g2, o2, rfl, r2⟩
    · exact eq_none _ _ c1 c2 w
    · exact eq_rows g1 o1 g2 o2 c1 c2 L w r1 r2 hl

end Go.Proofs.YtnabnghjejncpaaGreat.ReqRows
end

section
namespace Go.Proofs.YtnabnghjejncpaaGreat.CodelRows
open Go.RowKit ListKit CodelKit
set_option maxRecDepth 8000
set_option linter.unusedVariables false
set_option linter.unusedSimpArgs false

theorem eq_one (x0 : Int) (x1 : Int) (x2 : Int) (x3 : Bool) (x4 : Int) (x5 : Int) (w : World) : Calls Tryz.prog 73 #[.agg #[.int .i64 x0, .int .i64 x1, .int .i64 x2, .bool x3, .int .i64 x4, .int .i64 x5], .agg #[.int .i64 x0, .int .i64 x1, .int .i64 x2, .bool x3, .int .i64 x4, .int .i64 x5]] w fun e w' => e = .returned (.bool true) ∧ Below w.heap.size w w' := by
  have t0 : (x0 != x0) = false := by simp
  have t1 : (x1 != x1) = false := by simp
  have t2 : (x2 != x2) = false := by simp
  have t3 : (x3 != x3) = false := by simp
  have t4 : (x4 != x4) = false := by simp
  have t5 : (x5 != x5) = false := by simp
  go_enter Tryz.func73, Tryz.ntmps73
  go_wp2
  go_ret
  exact ⟨rfl, ((Below.refl _ _).alloc (Nat.le_refl _) _).alloc (by simp) _⟩

theorem to_one (x0 : Int) (x1 : Int) (x2 : Int) (x3 : Bool) (x4 : Int) (x5 : Int) (w : World) : Calls Tryz.prog 53 #[.agg #[.int .i64 x0, .int .i64 x1, .int .i64 x2, .bool x3, .int .i64 x4, .int .i64 x5]] w fun e w' => e = .returned (.agg #[.int .i64 x0, .int .i64 x1, .int .i64 x2, .bool x3, .int .i64 x4, .int .i64 x5]) ∧ Below w.heap.size w w' := by
  go_enter Tryz.func53, Tryz.ntmps53
  go_wp2
  exact bodyPost_ret (v := .agg #[.int .i64 x0, .int .i64 x1, .int .i64 x2, .bool x3, .int .i64 x4, .int .i64 x5]) (by simp [results, Tryz.results53, go_sem]) rfl ⟨rfl, (((Below.refl _ _).alloc (Nat.le_refl _) _).alloc (by simp) _).alloc (by simp; omega) _⟩

set_option maxHeartbeats 2000000 in
theorem eq_rows (g1 o1 g2 o2 c1 c2 : Nat) (L : List Codel) (w : World) (h1 : Row 106 6 cells w g1 o1 L) (h2 : Row 106 6 cells w g2 o2 L) (hl : L.length ≤ 1048577) :
    Calls Tryz.prog 35 #[.slice (some ⟨g1, o1, none⟩) L.length c1, .slice (some ⟨g2, o2, none⟩) L.length c2] w fun e w' => e = .returned (.bool true) ∧ Below w.heap.size w w' := by
  have H1 : Hid (Row 106 6 cells w g1 o1 L) := h1
  have H2 : Hid (Row 106 6 cells w g2 o2 L) := h2
  clear h1 h2
  obtain ⟨n, hn⟩ : ∃ n, L.length = n := ⟨_, rfl⟩
  have HN : Hid (L.length = n) := hn
  rw [hn] at hl ⊢
  clear hn
  have e0 : ((n : Int) != (n : Int)) = false := by simp
  go_enter Tryz.func35, Tryz.ntmps35
  go_wp2
  go_loopw [5] (fun i wr => ∃ k : Nat, k ≤ n ∧ i = .int .i64 k ∧ Hid (Below w.heap.size w wr)) (fun i _ => n - (intOf i).toNat)
  case atStart => exact ⟨0, by omega, rfl, Below.refl _ _⟩
  case round =>
    obtain ⟨k, hk, rfl, hb⟩ := hrel
    by_cases hlt : k < n
    · have hlt2 : k < L.length := by rw [HN.out]; exact hlt
      obtain ⟨s, hs⟩ : ∃ s, L[k] = s := ⟨_, rfl⟩
      obtain ⟨x0, x1, x2, x3, x4, x5⟩ := s
      have u1 := fun j hj => (H1.out.below hb.out).cell k hlt2 j hj
      have u2 := fun j hj => (H2.out.below hb.out).cell k hlt2 j hj
      have p0 : wr.cell? ⟨g1, o1 + k * 6, none⟩ = some (.int .i64 x0) := by have h9 := u1 0 (by omega); rw [hs] at h9; exact h9
      have p1 : wr.cell? ⟨g1, o1 + k * 6 + 1, none⟩ = some (.int .i64 x1) := by have h9 := u1 1 (by omega); rw [hs] at h9; exact h9
      have p2 : wr.cell? ⟨g1, o1 + k * 6 + 2, none⟩ = some (.int .i64 x2) := by have h9 := u1 2 (by omega); rw [hs] at h9; exact h9
      have p3 : wr.cell? ⟨g1, o1 + k * 6 + 3, none⟩ = some (.bool x3) := by have h9 := u1 3 (by omega); rw [hs] at h9; exact h9
      have p4 : wr.cell? ⟨g1, o1 + k * 6 + 4, none⟩ = some (.int .i64 x4) := by have h9 := u1 4 (by omega); rw [hs] at h9; exact h9
      have p5 : wr.cell? ⟨g1, o1 + k * 6 + 5, none⟩ = some (.int .i64 x5) := by have h9 := u1 5 (by omega); rw [hs] at h9; exact h9
      have q0 : wr.cell? ⟨g2, o2 + k * 6, none⟩ = some (.int .i64 x0) := by have h9 := u2 0 (by omega); rw [hs] at h9; exact h9
      have q1 : wr.cell? ⟨g2, o2 + k * 6 + 1, none⟩ = some (.int .i64 x1) := by have h9 := u2 1 (by omega); rw [hs] at h9; exact h9
      have q2 : wr.cell? ⟨g2, o2 + k * 6 + 2, none⟩ = some (.int .i64 x2) := by have h9 := u2 2 (by omega); rw [hs] at h9; exact h9
      have q3 : wr.cell? ⟨g2, o2 + k * 6 + 3, none⟩ = some (.bool x3) := by have h9 := u2 3 (by omega); rw [hs] at h9; exact h9
      have q4 : wr.cell? ⟨g2, o2 + k * 6 + 4, none⟩ = some (.int .i64 x4) := by have h9 := u2 4 (by omega); rw [hs] at h9; exact h9
      have q5 : wr.cell? ⟨g2, o2 + k * 6 + 5, none⟩ = some (.int .i64 x5) := by have h9 := u2 5 (by omega); rw [hs] at h9; exact h9
      have hli : (k : Int) < (n : Int) := by omega
      clear hs u1 u2
      go_wp2
      go_region_with (go_at_call 73; refine (eq_one x0 x1 x2 x3 x4 x5 _).mono ?_; rintro e w1 ⟨rfl, hb1⟩)
      all_goals
        have hB1 : Hid (Below w.heap.size w w1) := hb.out.drew.trans (hb1.mono hb.out.size)
        clear hb1 p0 q0 p1 q1 p2 q2 p3 q3 p4 q4 p5 q5
        go_wp2
        go_roundw
        case rel => exact ⟨k + 1, by omega, by go_num, hB1⟩
        case measure => simp [intOf]; omega
    · obtain rfl : k = n := by omega
      go_wp2
      go_ret
      exact ⟨rfl, hb.out⟩

/-- The marks of n structs from k on. -/
def marks (k n : Nat) : List Codel := (List.range n).map fun i => ⟨((k + 6 * i : Nat) : Int), ((k + 6 * i + 1 : Nat) : Int), ((k + 6 * i + 2 : Nat) : Int), ((((k + 6 * i + 3 : Nat) : Int) % 3) == 0), ((k + 6 * i + 4 : Nat) : Int), ((k + 6 * i + 5 : Nat) : Int)⟩
/-- Elements that came in. -/
def InArg (w : World) (b o : Nat) (L : List Codel) : Prop := ∀ (i : Nat) (h : i < L.length) (j : Nat), j < 6 → w.cell? ⟨b, o + i * 6 + j, none⟩ = (cells L[i])[j]?
theorem InArg.below {w w' : World} {b o : Nat} {L : List Codel} (h : InArg w b o L) (hb : Below w.heap.size w w') : InArg w' b o L := fun i hi j hj => by
  have h1 := h i hi j hj
  rw [List.getElem?_eq_getElem (by rw [cells_len]; exact hj)] at h1 ⊢
  exact (hb.cell (World.block_lt_of_cell? w _ h1)).trans h1
def Arg (w : World) (a : Option Addr) (L : List Codel) : Prop := L = [] ∨ ∃ b o, a = some ⟨b, o, none⟩ ∧ InArg w b o L
theorem Arg.below {w w' : World} {a : Option Addr} {L : List Codel} (h : Arg w a L) (hb : Below w.heap.size w w') : Arg w' a L := by
  rcases h with h | ⟨b, o, ha, hr⟩
  · exact Or.inl h
  · exact Or.inr ⟨b, o, ha, hr.below hb⟩

theorem info_el : (Tryz.prog.info? 106).map (fun i => (i.zero, i.size)) = some (some (.agg #[.int .i64 0, .int .i64 0, .int .i64 0, .bool false, .int .i64 0, .int .i64 0]), 6) := by kernel_rfl
theorem info_bytes : ((Tryz.prog.info? 106).map fun i => decide (i.bytes ≤ 48)) = some true := by kernel_rfl
theorem make_rows (n : Nat) (hn : n ≤ 1048577) (W : World) :
    (Instr.makeSlice 59 (.int .i64 (n : Int)) (.int .i64 (n : Int))).run Tryz.prog W = .ok (.slice (some ⟨W.heap.size, 0, none⟩) n n) (W.alloc (.cells (madeCells #[.int .i64 0, .int .i64 0, .int .i64 0, .bool false, .int .i64 0, .int .i64 0] (n * 6)) 106)) := by
  obtain ⟨i, hi, hz, hs⟩ : ∃ i, Tryz.prog.info? 106 = some i ∧ i.zero = some (.agg #[.int .i64 0, .int .i64 0, .int .i64 0, .bool false, .int .i64 0, .int .i64 0]) ∧ i.size = 6 := by
    have := info_el
    cases h : Tryz.prog.info? 106 with
    | none => rw [h] at this; cases this
    | some i => rw [h] at this; simp at this; exact ⟨i, rfl, this.1, this.2⟩
  have hb : i.bytes ≤ 48 := by have := info_bytes; rw [hi] at this; simpa using this
  have hb2 : i.bytes * n ≤ 48 * n := Nat.mul_le_mul_right n hb
  have h := run_make (P := Tryz.prog) W 59 106 i _ Tryz.underlying59 hi hz .i64 .i64 (n : Int) (n : Int) (by omega) (by omega) (by first | omega | (rw [Nat.mul_comm]; omega)) (by omega)
  rw [hs] at h
  simpa [Value.cells] using h

set_option maxHeartbeats 4000000 in
theorem to_rows (a : Option Addr) (cap : Nat) (L : List Codel) (w : World) (ha : Arg w a L) (hl : L.length ≤ 1048577) :
    Calls Tryz.prog 23 #[.slice a L.length cap] w fun e w' => ∃ g, e = .returned (.slice (some ⟨g, 0, none⟩) L.length L.length) ∧ w.heap.size ≤ g ∧ Row 106 6 cells w' g 0 L ∧ Below w.heap.size w w' := by
  have hmk := make_rows L.length hl
  have HF : Hid (Part 106 6 cells (w.alloc (.cells (madeCells #[.int .i64 0, .int .i64 0, .int .i64 0, .bool false, .int .i64 0, .int .i64 0] (L.length * 6)) 106)) w.heap.size 0 L 0) := Part.made w L #[.int .i64 0, .int .i64 0, .int .i64 0, .bool false, .int .i64 0, .int .i64 0] (by rw [size_madeCells])
  have HB : Hid (Below w.heap.size w (w.alloc (.cells (madeCells #[.int .i64 0, .int .i64 0, .int .i64 0, .bool false, .int .i64 0, .int .i64 0] (L.length * 6)) 106))) := (Below.refl _ _).alloc (Nat.le_refl _) _
  have HA : Hid (Arg w a L) := ha
  clear ha
  obtain ⟨n, hn⟩ : ∃ n, L.length = n := ⟨_, rfl⟩
  have HN : Hid (L.length = n) := hn
  rw [hn] at hl hmk HF HB ⊢
  clear hn
  go_enter Tryz.func23, Tryz.ntmps23
  go_wp2
  go_loopw [4] (fun i wr => ∃ k : Nat, k ≤ n ∧ i = .int .i64 k ∧ Hid (Part 106 6 cells wr w.heap.size 0 L k) ∧ Hid (Below w.heap.size w wr)) (fun i _ => n - (intOf i).toNat)
  case atStart => exact ⟨0, by omega, rfl, HF, HB⟩
  case round =>
    clear HF HB hmk
    obtain ⟨k, hk, rfl, HF, HB⟩ := hrel
    by_cases hlt : k < n
    · have hlt2 : k < L.length := by rw [HN.out]; exact hlt
      rcases HA.out with hnil | ⟨b, o, rfl, hA⟩
      · rw [hnil] at hlt2; simp at hlt2
      · have u1 := fun j hj => (hA.below HB.out) k hlt2 j hj
        obtain ⟨s, hs⟩ : ∃ s, L[k] = s := ⟨_, rfl⟩
        obtain ⟨x0, x1, x2, x3, x4, x5⟩ := s
        have KX : Hid (L[k] = ⟨x0, x1, x2, x3, x4, x5⟩) := hs
        have q0 : wr.cell? ⟨b, o + k * 6, none⟩ = some (.int .i64 x0) := by have h9 := u1 0 (by omega); rw [hs] at h9; exact h9
        have q1 : wr.cell? ⟨b, o + k * 6 + 1, none⟩ = some (.int .i64 x1) := by have h9 := u1 1 (by omega); rw [hs] at h9; exact h9
        have q2 : wr.cell? ⟨b, o + k * 6 + 2, none⟩ = some (.int .i64 x2) := by have h9 := u1 2 (by omega); rw [hs] at h9; exact h9
        have q3 : wr.cell? ⟨b, o + k * 6 + 3, none⟩ = some (.bool x3) := by have h9 := u1 3 (by omega); rw [hs] at h9; exact h9
        have q4 : wr.cell? ⟨b, o + k * 6 + 4, none⟩ = some (.int .i64 x4) := by have h9 := u1 4 (by omega); rw [hs] at h9; exact h9
        have q5 : wr.cell? ⟨b, o + k * 6 + 5, none⟩ = some (.int .i64 x5) := by have h9 := u1 5 (by omega); rw [hs] at h9; exact h9
        have hli : (k : Int) < (n : Int) := by omega
        clear hs hA u1
        go_wp2_with (go_at_call 53; refine (to_one x0 x1 x2 x3 x4 x5 _).mono ?_; rintro e w1 ⟨rfl, hb⟩; have HF1 : Hid (Part 106 6 cells w1 w.heap.size 0 L k) := HF.out.same (hb.block _ HF.out.lt); have HB1 : Hid (Below w.heap.size w w1) := HB.out.trans (hb.mono HB.out.size); obtain ⟨v0, z0⟩ := HF1.out.cell (k * 6) (by rw [HN.out]; omega); have f0 := HF1.out.fz (k * 6); obtain ⟨v1, z1⟩ := HF1.out.cell (k * 6 + 1) (by rw [HN.out]; omega); have f1 := HF1.out.fz (k * 6 + 1); obtain ⟨v2, z2⟩ := HF1.out.cell (k * 6 + 2) (by rw [HN.out]; omega); have f2 := HF1.out.fz (k * 6 + 2); obtain ⟨v3, z3⟩ := HF1.out.cell (k * 6 + 3) (by rw [HN.out]; omega); have f3 := HF1.out.fz (k * 6 + 3); obtain ⟨v4, z4⟩ := HF1.out.cell (k * 6 + 4) (by rw [HN.out]; omega); have f4 := HF1.out.fz (k * 6 + 4); obtain ⟨v5, z5⟩ := HF1.out.cell (k * 6 + 5) (by rw [HN.out]; omega); have f5 := HF1.out.fz (k * 6 + 5); clear hb)
        have HF2 : Hid (Part 106 6 cells ((((((w1.setCell ⟨w.heap.size, k * 6, none⟩ (.int .i64 x0)).setCell ⟨w.heap.size, k * 6 + 1, none⟩ (.int .i64 x1)).setCell ⟨w.heap.size, k * 6 + 2, none⟩ (.int .i64 x2)).setCell ⟨w.heap.size, k * 6 + 3, none⟩ (.bool x3)).setCell ⟨w.heap.size, k * 6 + 4, none⟩ (.int .i64 x4)).setCell ⟨w.heap.size, k * 6 + 5, none⟩ (.int .i64 x5)) w.heap.size 0 L (k + 1)) := by
          have h1 := HF1.out.store cells_len hlt2
          rw [KX.out, Nat.zero_add] at h1
          exact h1
        have HB2 : Hid (Below w.heap.size w ((((((w1.setCell ⟨w.heap.size, k * 6, none⟩ (.int .i64 x0)).setCell ⟨w.heap.size, k * 6 + 1, none⟩ (.int .i64 x1)).setCell ⟨w.heap.size, k * 6 + 2, none⟩ (.int .i64 x2)).setCell ⟨w.heap.size, k * 6 + 3, none⟩ (.bool x3)).setCell ⟨w.heap.size, k * 6 + 4, none⟩ (.int .i64 x4)).setCell ⟨w.heap.size, k * 6 + 5, none⟩ (.int .i64 x5))) := sets_below (Nat.le_refl _) [.int .i64 x0, .int .i64 x1, .int .i64 x2, .bool x3, .int .i64 x4, .int .i64 x5] w1 (k * 6) HB1.out
        go_roundw
        case rel => exact ⟨k + 1, by omega, by go_num, HF2, HB2⟩
        case measure => simp [intOf]; omega
    · obtain rfl : k = n := by omega
      have HR : Hid (Row 106 6 cells wr w.heap.size 0 L) := Part.stop (by rw [HN.out]; exact HF.out)
      go_wp2
      go_ret
      exact ⟨w.heap.size, rfl, Nat.le_refl _, HR.out, HB.out⟩

theorem sz_rows (a : Option Addr) (c n : Nat) (k : Int) (w : World) (hn : (n : Int) ≤ 9223372036854775807) (h0 : 0 ≤ k) (h1 : k ≤ 1048576) :
    Calls Tryz.prog 12 #[.slice a n c, .int .i64 k] w fun e w' => e = .returned (.int .i64 (if (n : Int) ≤ k then k - (n : Int) else -1)) ∧ w' = w := by
  by_cases h : (n : Int) ≤ k
  · rw [if_pos h]
    have t : ¬ (k - (n : Int)) < 0 := by omega
    go_enter Tryz.func12, Tryz.ntmps12
    go_wp2
    go_ret
    exact ⟨rfl, rfl⟩
  · rw [if_neg h]
    have t : (k - (n : Int)) < 0 := by omega
    go_enter Tryz.func12, Tryz.ntmps12
    go_wp2
    go_ret
    exact ⟨rfl, rfl⟩

theorem eq_none (a1 a2 : Option Addr) (c1 c2 : Nat) (w : World) : Calls Tryz.prog 35 #[.slice a1 0 c1, .slice a2 0 c2] w fun e w' => e = .returned (.bool true) ∧ Below w.heap.size w w' := by
  go_enter Tryz.func35, Tryz.ntmps35
  go_wp2
  go_loop [5] (fun i => i = .int .i64 0) (fun _ => 0)
  case atStart => rfl
  case round =>
    subst hrel
    go_wp2
    go_ret
    exact ⟨rfl, Below.refl _ _⟩
theorem eq_any (a1 a2 : Option Addr) (c1 c2 : Nat) (L : List Codel) (w : World) (h1 : Own 106 6 cells w a1 L) (h2 : Own 106 6 cells w a2 L) (hl : L.length ≤ 1048577) :
    Calls Tryz.prog 35 #[.slice a1 L.length c1, .slice a2 L.length c2] w fun e w' => e = .returned (.bool true) ∧ Below w.heap.size w w' := by
  rcases h1 with rfl | ⟨g1, o1, rfl, r1⟩
  · exact eq_none a1 a2 c1 c2 w
  · rcases h2 with rfl | ⟨g2, o2, rfl, r2⟩
    · exact eq_none _ _ c1 c2 w
    · exact eq_rows g1 o1 g2 o2 c1 c2 L w r1 r2 hl
end Go.Proofs.YtnabnghjejncpaaGreat.CodelRows
end

section
namespace Go.Proofs.YtnabnghjejncpaaGreat.IntRows
open Go.RowKit ListKit IntKit
set_option maxRecDepth 8000
set_option linter.unusedVariables false
set_option linter.unusedSimpArgs false

set_option maxHeartbeats 2000000 in
theorem eq_rows (g1 o1 g2 o2 c1 c2 : Nat) (L : List Int) (w : World) (h1 : Row 3 1 cells w g1 o1 L) (h2 : Row 3 1 cells w g2 o2 L) (hl : L.length ≤ 1048577) :
    Calls Tryz.prog 37 #[.slice (some ⟨g1, o1, none⟩) L.length c1, .slice (some ⟨g2, o2, none⟩) L.length c2] w fun e w' => e = .returned (.bool true) ∧ Below w.heap.size w w' := by
  have H1 : Hid (Row 3 1 cells w g1 o1 L) := h1
  have H2 : Hid (Row 3 1 cells w g2 o2 L) := h2
  clear h1 h2
  obtain ⟨n, hn⟩ : ∃ n, L.length = n := ⟨_, rfl⟩
  have HN : Hid (L.length = n) := hn
  rw [hn] at hl ⊢
  clear hn
  have e0 : ((n : Int) != (n : Int)) = false := by simp
  go_enter Tryz.func37, Tryz.ntmps37
  go_wp2
  go_loopw [5] (fun i wr => ∃ k : Nat, k ≤ n ∧ i = .int .i64 k ∧ Hid (Below w.heap.size w wr)) (fun i _ => n - (intOf i).toNat)
  case atStart => exact ⟨0, by omega, rfl, Below.refl _ _⟩
  case round =>
    obtain ⟨k, hk, rfl, hb⟩ := hrel
    by_cases hlt : k < n
    · have hlt2 : k < L.length := by rw [HN.out]; exact hlt
      obtain ⟨x0, hs⟩ : ∃ s, L[k] = s := ⟨_, rfl⟩
      have u1 := fun j hj => (H1.out.below hb.out).cell k hlt2 j hj
      have u2 := fun j hj => (H2.out.below hb.out).cell k hlt2 j hj
      have p0 : wr.cell? ⟨g1, o1 + k, none⟩ = some (.int .i64 x0) := by have h9 := u1 0 (by omega); rw [hs] at h9; simpa [cells] using h9
      have q0 : wr.cell? ⟨g2, o2 + k, none⟩ = some (.int .i64 x0) := by have h9 := u2 0 (by omega); rw [hs] at h9; simpa [cells] using h9
      have hli : (k : Int) < (n : Int) := by omega
      clear hs u1 u2
      go_wp2
      have t0 : (x0 != x0) = false := by simp
      go_region
      all_goals
        have hB1 : Hid (Below w.heap.size w wr.drew) := hb.out.drew
        clear p0 q0
        go_wp2
        go_roundw
        case rel => exact ⟨k + 1, by omega, by go_num, hB1⟩
        case measure => simp [intOf]; omega
    · obtain rfl : k = n := by omega
      go_wp2
      go_ret
      exact ⟨rfl, hb.out⟩

/-- The marks of n structs from k on. -/
def marks (k n : Nat) : List Int := (List.range n).map fun i => ((k + 1 * i : Nat) : Int)
/-- Elements that came in. -/
def InArg (w : World) (b o : Nat) (L : List Int) : Prop := ∀ (i : Nat) (h : i < L.length) (j : Nat), j < 1 → w.cell? ⟨b, o + i * 1 + j, none⟩ = (cells L[i])[j]?
theorem InArg.below {w w' : World} {b o : Nat} {L : List Int} (h : InArg w b o L) (hb : Below w.heap.size w w') : InArg w' b o L := fun i hi j hj => by
  have h1 := h i hi j hj
  rw [List.getElem?_eq_getElem (by rw [cells_len]; exact hj)] at h1 ⊢
  exact (hb.cell (World.block_lt_of_cell? w _ h1)).trans h1
def Arg (w : World) (a : Option Addr) (L : List Int) : Prop := L = [] ∨ ∃ b o, a = some ⟨b, o, none⟩ ∧ InArg w b o L
theorem Arg.below {w w' : World} {a : Option Addr} {L : List Int} (h : Arg w a L) (hb : Below w.heap.size w w') : Arg w' a L := by
  rcases h with h | ⟨b, o, ha, hr⟩
  · exact Or.inl h
  · exact Or.inr ⟨b, o, ha, hr.below hb⟩

theorem info_el : (Tryz.prog.info? 3).map (fun i => (i.zero, i.size)) = some (some (.int .i64 0), 1) := by kernel_rfl
theorem info_bytes : ((Tryz.prog.info? 3).map fun i => decide (i.bytes ≤ 8)) = some true := by kernel_rfl
theorem make_rows (n : Nat) (hn : n ≤ 1048577) (W : World) :
    (Instr.makeSlice 40 (.int .i64 (n : Int)) (.int .i64 (n : Int))).run Tryz.prog W = .ok (.slice (some ⟨W.heap.size, 0, none⟩) n n) (W.alloc (.cells (madeCells #[.int .i64 0] n) 3)) := by
  obtain ⟨i, hi, hz, hs⟩ : ∃ i, Tryz.prog.info? 3 = some i ∧ i.zero = some (.int .i64 0) ∧ i.size = 1 := by
    have := info_el
    cases h : Tryz.prog.info? 3 with
    | none => rw [h] at this; cases this
    | some i => rw [h] at this; simp at this; exact ⟨i, rfl, this.1, this.2⟩
  have hb : i.bytes ≤ 8 := by have := info_bytes; rw [hi] at this; simpa using this
  have hb2 : i.bytes * n ≤ 8 * n := Nat.mul_le_mul_right n hb
  have h := run_make (P := Tryz.prog) W 40 3 i _ Tryz.underlying40 hi hz .i64 .i64 (n : Int) (n : Int) (by omega) (by omega) (by first | omega | (rw [Nat.mul_comm]; omega)) (by omega)
  rw [hs] at h
  simpa [Value.cells] using h

set_option maxHeartbeats 4000000 in
theorem to_rows (a : Option Addr) (cap : Nat) (L : List Int) (w : World) (ha : Arg w a L) (hl : L.length ≤ 1048577) :
    Calls Tryz.prog 25 #[.slice a L.length cap] w fun e w' => ∃ g, e = .returned (.slice (some ⟨g, 0, none⟩) L.length L.length) ∧ w.heap.size ≤ g ∧ Row 3 1 cells w' g 0 L ∧ Below w.heap.size w w' := by
  have hmk := make_rows L.length hl
  have HF : Hid (Part 3 1 cells (w.alloc (.cells (madeCells #[.int .i64 0] L.length) 3)) w.heap.size 0 L 0) := (by
    have h9 := Part.made (t := 3) (m := 1) (f := cells) w L #[.int .i64 0] (by rw [size_madeCells])
    rw [Nat.mul_one] at h9
    exact h9)
  have HB : Hid (Below w.heap.size w (w.alloc (.cells (madeCells #[.int .i64 0] L.length) 3))) := (Below.refl _ _).alloc (Nat.le_refl _) _
  have HA : Hid (Arg w a L) := ha
  clear ha
  obtain ⟨n, hn⟩ : ∃ n, L.length = n := ⟨_, rfl⟩
  have HN : Hid (L.length = n) := hn
  rw [hn] at hl hmk HF HB ⊢
  clear hn
  go_enter Tryz.func25, Tryz.ntmps25
  go_wp2
  go_loopw [4] (fun i wr => ∃ k : Nat, k ≤ n ∧ i = .int .i64 k ∧ Hid (Part 3 1 cells wr w.heap.size 0 L k) ∧ Hid (Below w.heap.size w wr)) (fun i _ => n - (intOf i).toNat)
  case atStart => exact ⟨0, by omega, rfl, HF, HB⟩
  case round =>
    clear HF HB hmk
    obtain ⟨k, hk, rfl, HF, HB⟩ := hrel
    by_cases hlt : k < n
    · have hlt2 : k < L.length := by rw [HN.out]; exact hlt
      rcases HA.out with hnil | ⟨b, o, rfl, hA⟩
      · rw [hnil] at hlt2; simp at hlt2
      · have u1 := fun j hj => (hA.below HB.out) k hlt2 j hj
        obtain ⟨x0, hs⟩ : ∃ s, L[k] = s := ⟨_, rfl⟩
        have KX : Hid (L[k] = x0) := hs
        have q0 : wr.cell? ⟨b, o + k, none⟩ = some (.int .i64 x0) := by have h9 := u1 0 (by omega); rw [hs] at h9; simpa [cells] using h9
        have hli : (k : Int) < (n : Int) := by omega
        clear hs hA u1
        obtain ⟨v0, z0⟩ := HF.out.cell k (by rw [HN.out]; omega)
        have f0 := HF.out.fz k
        go_wp2
        have HF2 : Hid (Part 3 1 cells (wr.setCell ⟨w.heap.size, k, none⟩ (.int .i64 x0)) w.heap.size 0 L (k + 1)) := by
          have h1 := HF.out.store cells_len hlt2
          rw [KX.out, Nat.zero_add, Nat.mul_one] at h1
          exact h1
        have HB2 : Hid (Below w.heap.size w (wr.setCell ⟨w.heap.size, k, none⟩ (.int .i64 x0))) := sets_below (Nat.le_refl _) [.int .i64 x0] wr k HB.out
        go_roundw
        case rel => exact ⟨k + 1, by omega, by go_num, HF2, HB2⟩
        case measure => simp [intOf]; omega
    · obtain rfl : k = n := by omega
      have HR : Hid (Row 3 1 cells wr w.heap.size 0 L) := Part.stop (by rw [HN.out]; exact HF.out)
      go_wp2
      go_ret
      exact ⟨w.heap.size, rfl, Nat.le_refl _, HR.out, HB.out⟩

theorem sz_rows (a : Option Addr) (c n : Nat) (k : Int) (w : World) (hn : (n : Int) ≤ 9223372036854775807) (h0 : 0 ≤ k) (h1 : k ≤ 1048576) :
    Calls Tryz.prog 13 #[.slice a n c, .int .i64 k] w fun e w' => e = .returned (.int .i64 (if (n : Int) ≤ k then k - (n : Int) else -1)) ∧ w' = w := by
  by_cases h : (n : Int) ≤ k
  · rw [if_pos h]
    have t : ¬ (k - (n : Int)) < 0 := by omega
    go_enter Tryz.func13, Tryz.ntmps13
    go_wp2
    go_ret
    exact ⟨rfl, rfl⟩
  · rw [if_neg h]
    have t : (k - (n : Int)) < 0 := by omega
    go_enter Tryz.func13, Tryz.ntmps13
    go_wp2
    go_ret
    exact ⟨rfl, rfl⟩

theorem eq_none (a1 a2 : Option Addr) (c1 c2 : Nat) (w : World) : Calls Tryz.prog 37 #[.slice a1 0 c1, .slice a2 0 c2] w fun e w' => e = .returned (.bool true) ∧ Below w.heap.size w w' := by
  go_enter Tryz.func37, Tryz.ntmps37
  go_wp2
  go_loop [5] (fun i => i = .int .i64 0) (fun _ => 0)
  case atStart => rfl
  case round =>
    subst hrel
    go_wp2
    go_ret
    exact ⟨rfl, Below.refl _ _⟩

theorem eq_any (a1 a2 : Option Addr) (c1 c2 : Nat) (L : List Int) (w : World) (h1 : Own 3 1 cells w a1 L) (h2 : Own 3 1 cells w a2 L) (hl : L.length ≤ 1048577) :
    Calls Tryz.prog 37 #[.slice a1 L.length c1, .slice a2 L.length c2] w fun e w' => e = .returned (.bool true) ∧ Below w.heap.size w w' := by
  rcases h1 with rfl | ⟨g1, o1, rfl, r1⟩
  · exact eq_none a1 a2 c1 c2 w
  · rcases h2 with rfl | ⟨g2, o2, rfl, r2⟩
    · exact eq_none _ _ c1 c2 w
    · exact eq_rows g1 o1 g2 o2 c1 c2 L w r1 r2 hl

end Go.Proofs.YtnabnghjejncpaaGreat.IntRows
end
