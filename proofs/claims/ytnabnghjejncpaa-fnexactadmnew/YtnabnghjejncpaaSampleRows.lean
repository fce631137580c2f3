/- What the laws' helpers on lists of the struct Sample do: a list is copied into new memory, found equal to its like, marked and found marked; nothing else turns; no condition but those written in each. -/
import Derived.Test.YtnabnghjejncpaaRows
import Derived.WalkKit
import Derived.WalkSmall
import Derived.BigQuiet
import Derived.Deep.RegionWith
import Derived.Laws.MakeOwn
import Derived.Test.YtnabnghjejncpaaListKit
import Derived.Test.YtnabnghjejncpaaSampleKit
namespace Go.Proofs.Ytnabnghjejncpaa.SampleRows
open Go.RowKit ListKit SampleKit
set_option maxRecDepth 8000
set_option linter.unusedVariables false
set_option linter.unusedSimpArgs false

theorem ret_int {k : IntKind} {a b : Int} (h : a = b) : Ending.returned (.int k a) = .returned (.int k b) := by rw [h]

theorem eq_one (x0 : Int) (x1 : Int) (w : World) : Calls Try.prog 123 #[.agg #[.int .i64 x0, .int .i64 x1], .agg #[.int .i64 x0, .int .i64 x1]] w fun e w' => e = .returned (.bool true) ∧ Below w.heap.size w w' := by
  have t0 : (x0 != x0) = false := by simp
  have t1 : (x1 != x1) = false := by simp
  go_enter Try.func123, Try.ntmps123
  go_wp2
  go_ret
  exact ⟨rfl, ((Below.refl _ _).alloc (Nat.le_refl _) _).alloc (by simp) _⟩

theorem to_one (x0 : Int) (x1 : Int) (w : World) : Calls Try.prog 124 #[.agg #[.int .i64 x0, .int .i64 x1]] w fun e w' => e = .returned (.agg #[.int .i64 x0, .int .i64 x1]) ∧ Below w.heap.size w w' := by
  go_enter Try.func124, Try.ntmps124
  go_wp2
  exact bodyPost_ret (v := .agg #[.int .i64 x0, .int .i64 x1]) (by simp [results, Try.results124, go_sem]) rfl ⟨rfl, (((Below.refl _ _).alloc (Nat.le_refl _) _).alloc (by simp) _).alloc (by simp; omega) _⟩

set_option maxHeartbeats 2000000 in
theorem eq_rows (g1 o1 g2 o2 c1 c2 : Nat) (L : List Sample) (w : World) (h1 : Row 170 2 cells w g1 o1 L) (h2 : Row 170 2 cells w g2 o2 L) (hl : L.length ≤ 1048577) :
    Calls Try.prog 112 #[.slice (some ⟨g1, o1, none⟩) L.length c1, .slice (some ⟨g2, o2, none⟩) L.length c2] w fun e w' => e = .returned (.bool true) ∧ Below w.heap.size w w' := by
  have H1 : Hid (Row 170 2 cells w g1 o1 L) := h1
  have H2 : Hid (Row 170 2 cells w g2 o2 L) := h2
  clear h1 h2
  obtain ⟨n, hn⟩ : ∃ n, L.length = n := ⟨_, rfl⟩
  have HN : Hid (L.length = n) := hn
  rw [hn] at hl ⊢
  clear hn
  have e0 : ((n : Int) != (n : Int)) = false := by simp
  go_enter Try.func112, Try.ntmps112
  go_wp2
  go_loopw [5] (fun i wr => ∃ k : Nat, k ≤ n ∧ i = .int .i64 k ∧ Hid (Below w.heap.size w wr)) (fun i _ => n - (intOf i).toNat)
  case atStart => exact ⟨0, by omega, rfl, Below.refl _ _⟩
  case round =>
    obtain ⟨k, hk, rfl, hb⟩ := hrel
    by_cases hlt : k < n
    · have hlt2 : k < L.length := by rw [HN.out]; exact hlt
      obtain ⟨s, hs⟩ : ∃ s, L[k] = s := ⟨_, rfl⟩
      obtain ⟨x0, x1⟩ := s
      have u1 := fun j hj => (H1.out.below hb.out).cell k hlt2 j hj
      have u2 := fun j hj => (H2.out.below hb.out).cell k hlt2 j hj
      have p0 : wr.cell? ⟨g1, o1 + k * 2, none⟩ = some (.int .i64 x0) := by have h9 := u1 0 (by omega); rw [hs] at h9; exact h9
      have p1 : wr.cell? ⟨g1, o1 + k * 2 + 1, none⟩ = some (.int .i64 x1) := by have h9 := u1 1 (by omega); rw [hs] at h9; exact h9
      have q0 : wr.cell? ⟨g2, o2 + k * 2, none⟩ = some (.int .i64 x0) := by have h9 := u2 0 (by omega); rw [hs] at h9; exact h9
      have q1 : wr.cell? ⟨g2, o2 + k * 2 + 1, none⟩ = some (.int .i64 x1) := by have h9 := u2 1 (by omega); rw [hs] at h9; exact h9
      have hli : (k : Int) < (n : Int) := by omega
      clear hs u1 u2
      go_wp2
      go_region_with (go_at_call 123; refine (eq_one x0 x1 _).mono ?_; rintro e w1 ⟨rfl, hb1⟩)
      all_goals
        have hB1 : Hid (Below w.heap.size w w1) := hb.out.drew.trans (hb1.mono hb.out.size)
        clear hb1 p0 q0 p1 q1
        go_wp2
        go_roundw
        case rel => exact ⟨k + 1, by omega, by go_num, hB1⟩
        case measure => simp [intOf]; omega
    · obtain rfl : k = n := by omega
      go_wp2
      go_ret
      exact ⟨rfl, hb.out⟩

/-- The marks of n structs from k on. -/
def marks (k n : Nat) : List Sample := (List.range n).map fun i => ⟨((k + 2 * i : Nat) : Int), ((k + 2 * i + 1 : Nat) : Int)⟩
theorem marks_length (k n : Nat) : (marks k n).length = n := by simp [marks]
theorem marks_get (k n i : Nat) (h : i < (marks k n).length) : (marks k n)[i] = ⟨((k + 2 * i : Nat) : Int), ((k + 2 * i + 1 : Nat) : Int)⟩ := by simp [marks]

set_option maxHeartbeats 4000000 in
theorem mark_rows (g o c k : Nat) (L : List Sample) (w : World) (h : Row 170 2 cells w g o L) (hl : L.length ≤ 1048577) (hk : k ≤ 1000000000) :
    Calls Try.prog 114 #[.slice (some ⟨g, o, none⟩) L.length c, .int .i64 k] w fun e w' => e = .returned (.int .i64 ((k : Int) + 2 * (L.length : Int))) ∧ Row 170 2 cells w' g o (marks k L.length) ∧ w.grownBy w' (some g) := by
  have HP : Hid (Part 170 2 cells w g o (marks k L.length) 0) := Part.start h (marks_length k L.length).symm
  clear h
  generalize L.length = n at *
  go_enter Try.func114, Try.ntmps114
  go_wp2
  go_loopw [1, 5] (fun a i wr => ∃ (j : Nat) (x : Int), j ≤ n ∧ Hid (x = (k : Int) + 2 * (j : Int)) ∧ 0 ≤ x ∧ x ≤ 2000000000 ∧ a = .int .i64 x ∧ i = .int .i64 j ∧ Hid (Part 170 2 cells wr g o (marks k n) j) ∧ Hid (w.grownBy wr (some g))) (fun _ i _ => n - (intOf i).toNat)
  case atStart => exact ⟨0, k, by omega, by show _ = _; omega, by omega, by omega, rfl, rfl, HP, ⟨rfl, rfl, rfl, Nat.le_refl _, fun _ _ _ => rfl⟩⟩
  case round =>
    clear HP
    obtain ⟨j, x, hj, HX, hx0, hx1, rfl, rfl, hP, hG⟩ := hrel
    by_cases hlt : j < n
    · have hli : (j : Int) < (n : Int) := by omega
      have hlm : j < (marks k n).length := by rw [marks_length]; exact hlt
      obtain ⟨v0, q0⟩ := hP.out.cell (o + j * 2) (by rw [marks_length]; omega)
      have f0 := hP.out.fz (o + j * 2)
      obtain ⟨v1, q1⟩ := hP.out.cell (o + j * 2 + 1) (by rw [marks_length]; omega)
      have f1 := hP.out.fz (o + j * 2 + 1)
      have hP2 : Hid (Part 170 2 cells ((wr.setCell ⟨g, o + j * 2, none⟩ (.int .i64 (x))).setCell ⟨g, o + j * 2 + 1, none⟩ (.int .i64 (x + 1))) g o (marks k n) (j + 1)) := by
        have h1 := hP.out.store cells_len hlm
        rw [marks_get] at h1
        have e : ((k + 2 * j : Nat) : Int) = x := by have := HX.out; omega
        have e1 : ((k + 2 * j + 1 : Nat) : Int) = x + 1 := by omega
        rw [e, e1] at h1
        exact h1
      have hG2 : Hid (w.grownBy ((wr.setCell ⟨g, o + j * 2, none⟩ (.int .i64 (x))).setCell ⟨g, o + j * 2 + 1, none⟩ (.int .i64 (x + 1))) (some g)) := sets_grown [.int .i64 (x), .int .i64 (x + 1)] wr (o + j * 2) hG.out
      have HX2 : Hid (x + 1 + 1 = (k : Int) + 2 * ((j + 1 : Nat) : Int)) := by have := HX.out; show _ = _; omega
      have hx2 : x + 1 + 1 ≤ 2000000000 := by have := HX.out; omega
      skip
      go_wp2
      go_roundw
      case rel => exact ⟨j + 1, x + 1 + 1, by omega, HX2, by omega, hx2, rfl, by go_num, hP2, hG2⟩
      case measure => simp [intOf]; omega
    · obtain rfl : j = n := by omega
      have hR : Hid (Row 170 2 cells wr g o (marks k j)) := Part.stop (by rw [marks_length]; exact hP.out)
      go_wp2
      go_ret
      exact ⟨ret_int HX.out, hR.out, hG.out⟩

set_option maxHeartbeats 4000000 in
theorem held_rows (g o c k n : Nat) (w : World) (h : Row 170 2 cells w g o (marks k n)) (hl : n ≤ 1048577) (hk : k ≤ 1000000000) :
    Calls Try.prog 115 #[.slice (some ⟨g, o, none⟩) n c, .int .i64 k] w fun e w' => e = .returned (.int .i64 ((k : Int) + 2 * (n : Int))) ∧ w' = w := by
  have HR : Hid (Row 170 2 cells w g o (marks k n)) := h
  clear h
  go_enter Try.func115, Try.ntmps115
  go_wp2
  go_loop [1, 5] (fun a i => ∃ (j : Nat) (x : Int), j ≤ n ∧ Hid (x = (k : Int) + 2 * (j : Int)) ∧ 0 ≤ x ∧ x ≤ 2000000000 ∧ a = .int .i64 x ∧ i = .int .i64 j) (fun _ i => n - (intOf i).toNat)
  case atStart => exact ⟨0, k, by omega, by show _ = _; omega, by omega, by omega, rfl, rfl⟩
  case round =>
    obtain ⟨j, x, hj, HX, hx0, hx1, rfl, rfl⟩ := hrel
    by_cases hlt : j < n
    · have hli : (j : Int) < (n : Int) := by omega
      have hlm : j < (marks k n).length := by rw [marks_length]; exact hlt
      have e : ((k + 2 * j : Nat) : Int) = x := by have := HX.out; omega
      have e1 : ((k + 2 * j + 1 : Nat) : Int) = x + 1 := by omega
      have q0 : w.cell? ⟨g, o + j * 2, none⟩ = some (.int .i64 (x)) := by have h9 := HR.out.cell j hlm 0 (by omega); rw [marks_get] at h9; rw [e] at h9; exact h9
      have q1 : w.cell? ⟨g, o + j * 2 + 1, none⟩ = some (.int .i64 (x + 1)) := by have h9 := HR.out.cell j hlm 1 (by omega); rw [marks_get] at h9; simp only [e1] at h9; exact h9
      have t0 : ((x) != (x)) = false := by simp
      have t1 : ((x + 1) != (x + 1)) = false := by simp
      have HX2 : Hid (x + 1 + 1 = (k : Int) + 2 * ((j + 1 : Nat) : Int)) := by have := HX.out; show _ = _; omega
      have hx2 : x + 1 + 1 ≤ 2000000000 := by have := HX.out; omega
      clear e e1
      go_wp2
      go_round
      case rel => exact ⟨j + 1, x + 1 + 1, by omega, HX2, by omega, hx2, rfl, by go_num⟩
      case measure => simp [intOf]; omega
    · obtain rfl : j = n := by omega
      go_wp2
      go_ret
      exact ⟨ret_int HX.out, rfl⟩

/-- Elements that came in. -/
def InArg (w : World) (b o : Nat) (L : List Sample) : Prop := ∀ (i : Nat) (h : i < L.length) (j : Nat), j < 2 → w.cell? ⟨b, o + i * 2 + j, none⟩ = (cells L[i])[j]?
theorem InArg.below {w w' : World} {b o : Nat} {L : List Sample} (h : InArg w b o L) (hb : Below w.heap.size w w') : InArg w' b o L := fun i hi j hj => by
  have h1 := h i hi j hj
  rw [List.getElem?_eq_getElem (by rw [cells_len]; exact hj)] at h1 ⊢
  exact (hb.cell (World.block_lt_of_cell? w _ h1)).trans h1
def Arg (w : World) (a : Option Addr) (L : List Sample) : Prop := L = [] ∨ ∃ b o, a = some ⟨b, o, none⟩ ∧ InArg w b o L
theorem Arg.below {w w' : World} {a : Option Addr} {L : List Sample} (h : Arg w a L) (hb : Below w.heap.size w w') : Arg w' a L := by
  rcases h with h | ⟨b, o, ha, hr⟩
  · exact Or.inl h
  · exact Or.inr ⟨b, o, ha, hr.below hb⟩

theorem info_el : (Try.prog.info? 170).map (fun i => (i.zero, i.size)) = some (some (.agg #[.int .i64 0, .int .i64 0]), 2) := by kernel_rfl
theorem info_bytes : ((Try.prog.info? 170).map fun i => decide (i.bytes ≤ 16)) = some true := by kernel_rfl
theorem make_rows (n : Nat) (hn : n ≤ 1048577) (W : World) :
    (Instr.makeSlice 32 (.int .i64 (n : Int)) (.int .i64 (n : Int))).run Try.prog W = .ok (.slice (some ⟨W.heap.size, 0, none⟩) n n) (W.alloc (.cells (madeCells #[.int .i64 0, .int .i64 0] (n * 2)) 170)) := by
  obtain ⟨i, hi, hz, hs⟩ : ∃ i, Try.prog.info? 170 = some i ∧ i.zero = some (.agg #[.int .i64 0, .int .i64 0]) ∧ i.size = 2 := by
    have := info_el
    cases h : Try.prog.info? 170 with
    | none => rw [h] at this; cases this
    | some i => rw [h] at this; simp at this; exact ⟨i, rfl, this.1, this.2⟩
  have hb : i.bytes ≤ 16 := by have := info_bytes; rw [hi] at this; simpa using this
  have hb2 : i.bytes * n ≤ 16 * n := Nat.mul_le_mul_right n hb
  have h := run_make (P := Try.prog) W 32 170 i _ Try.underlying32 hi hz .i64 .i64 (n : Int) (n : Int) (by omega) (by omega) (by first | omega | (rw [Nat.mul_comm]; omega)) (by omega)
  rw [hs] at h
  simpa [Value.cells] using h

theorem eq_none (a1 a2 : Option Addr) (c1 c2 : Nat) (w : World) : Calls Try.prog 112 #[.slice a1 0 c1, .slice a2 0 c2] w fun e w' => e = .returned (.bool true) ∧ Below w.heap.size w w' := by
  go_enter Try.func112, Try.ntmps112
  go_wp2
  go_loop [5] (fun i => i = .int .i64 0) (fun _ => 0)
  case atStart => rfl
  case round =>
    subst hrel
    go_wp2
    go_ret
    exact ⟨rfl, Below.refl _ _⟩
theorem mark_none (a : Option Addr) (c : Nat) (k : Int) (w : World) : Calls Try.prog 114 #[.slice a 0 c, .int .i64 k] w fun e w' => e = .returned (.int .i64 k) ∧ w' = w := by
  go_enter Try.func114, Try.ntmps114
  go_wp2
  go_loop [1, 5] (fun x i => x = .int .i64 k ∧ i = .int .i64 0) (fun _ _ => 0)
  case atStart => exact ⟨rfl, rfl⟩
  case round =>
    obtain ⟨rfl, rfl⟩ := hrel
    go_wp2
    go_ret
    exact ⟨rfl, rfl⟩
theorem held_none (a : Option Addr) (c : Nat) (k : Int) (w : World) : Calls Try.prog 115 #[.slice a 0 c, .int .i64 k] w fun e w' => e = .returned (.int .i64 k) ∧ w' = w := by
  go_enter Try.func115, Try.ntmps115
  go_wp2
  go_loop [1, 5] (fun x i => x = .int .i64 k ∧ i = .int .i64 0) (fun _ _ => 0)
  case atStart => exact ⟨rfl, rfl⟩
  case round =>
    obtain ⟨rfl, rfl⟩ := hrel
    go_wp2
    go_ret
    exact ⟨rfl, rfl⟩

theorem eq_any (a1 a2 : Option Addr) (c1 c2 : Nat) (L : List Sample) (w : World) (h1 : Own 170 2 cells w a1 L) (h2 : Own 170 2 cells w a2 L) (hl : L.length ≤ 1048577) :
    Calls Try.prog 112 #[.slice a1 L.length c1, .slice a2 L.length c2] w fun e w' => e = .returned (.bool true) ∧ Below w.heap.size w w' := by
  rcases h1 with rfl | ⟨g1, o1, rfl, r1⟩
  · exact eq_none a1 a2 c1 c2 w
  · rcases h2 with rfl | ⟨g2, o2, rfl, r2⟩
    · exact eq_none _ _ c1 c2 w
    · exact eq_rows g1 o1 g2 o2 c1 c2 L w r1 r2 hl
theorem mark_any (a : Option Addr) (c k : Nat) (L : List Sample) (w : World) (h : Own 170 2 cells w a L) (hl : L.length ≤ 1048577) (hk : k ≤ 1000000000) :
    Calls Try.prog 114 #[.slice a L.length c, .int .i64 k] w fun e w' => e = .returned (.int .i64 ((k : Int) + 2 * (L.length : Int))) ∧ Own 170 2 cells w' a (marks k L.length) ∧ w.grownBy w' (blkL a L) := by
  cases L with
  | nil => exact (mark_none a c k w).mono fun e w' ⟨he, hw⟩ => ⟨by rw [he]; simp, Or.inl rfl, by rw [hw]; exact ⟨rfl, rfl, rfl, Nat.le_refl _, fun _ _ _ => rfl⟩⟩
  | cons z L =>
    rcases h with h | ⟨g, o, rfl, hr⟩
    · simp at h
    · exact (mark_rows g o c k (z :: L) w hr hl hk).mono fun e w' ⟨he, hr, hg⟩ => ⟨he, Or.inr ⟨g, o, rfl, hr⟩, hg⟩
theorem held_any (a : Option Addr) (c k n : Nat) (w : World) (h : Own 170 2 cells w a (marks k n)) (hl : n ≤ 1048577) (hk : k ≤ 1000000000) :
    Calls Try.prog 115 #[.slice a n c, .int .i64 k] w fun e w' => e = .returned (.int .i64 ((k : Int) + 2 * (n : Int))) ∧ w' = w := by
  rcases h with h | ⟨g, o, rfl, hr⟩
  · have hn : n = 0 := by have := congrArg List.length h; simpa [marks_length] using this
    subst hn
    exact (held_none a c k w).mono fun e w' ⟨he, hw⟩ => ⟨by rw [he]; simp, hw⟩
  · exact held_rows g o c k n w hr hl hk

end Go.Proofs.Ytnabnghjejncpaa.SampleRows
