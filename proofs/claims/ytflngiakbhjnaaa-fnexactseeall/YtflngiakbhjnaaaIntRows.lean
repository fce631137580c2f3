/- What the laws' helpers on lists of the struct Int do: a list is copied into new memory, found equal to its like, marked and found marked; nothing else turns; no condition but those written in each. -/
import Derived.Test.YtflngiakbhjnaaaRows
import Derived.WalkKit
import Derived.WalkSmall
import Derived.BigQuiet
import Derived.Deep.RegionWith
import Derived.Laws.MakeOwn
import Derived.Test.YtflngiakbhjnaaaListKit
import Derived.Test.YtflngiakbhjnaaaIntKit
namespace Go.Proofs.Ytflngiakbhjnaaa.IntRows
open Go.RowKit ListKit IntKit
set_option maxRecDepth 8000
set_option linter.unusedVariables false
set_option linter.unusedSimpArgs false

theorem ret_int {k : IntKind} {a b : Int} (h : a = b) : Ending.returned (.int k a) = .returned (.int k b) := by rw [h]

set_option maxHeartbeats 2000000 in
theorem eq_rows (g1 o1 g2 o2 c1 c2 : Nat) (L : List Int) (w : World) (h1 : Row 3 1 cells w g1 o1 L) (h2 : Row 3 1 cells w g2 o2 L) (hl : L.length ≤ 1048577) :
    Calls Try.prog 21 #[.slice (some ⟨g1, o1, none⟩) L.length c1, .slice (some ⟨g2, o2, none⟩) L.length c2] w fun e w' => e = .returned (.bool true) ∧ Below w.heap.size w w' := by
  have H1 : Hid (Row 3 1 cells w g1 o1 L) := h1
  have H2 : Hid (Row 3 1 cells w g2 o2 L) := h2
  clear h1 h2
  obtain ⟨n, hn⟩ : ∃ n, L.length = n := ⟨_, rfl⟩
  have HN : Hid (L.length = n) := hn
  rw [hn] at hl ⊢
  clear hn
  have e0 : ((n : Int) != (n : Int)) = false := by simp
  go_enter Try.func21, Try.ntmps21
  go_wp2
  go_loopw [5] (fun i wr => ∃ k : Nat, k ≤ n ∧ i = .int .i64 k ∧ Hid (Below w.heap.size w wr)) (fun i _ => n - (intOf i).toNat)
  case atStart => exact ⟨0, by omega, rfl, Below.refl _ _⟩
  case round =>
    obtain ⟨k, hk, rfl, hb⟩ := hrel
    by_cases hlt : k < n
    · have hlt2 : k < L.length := by rw [HN.out]; exact hlt
      obtain ⟨x0, hs⟩ : ∃ s, L[k] = s := ⟨_, rfl⟩
      have u1 := fun j hj => (H1.out.below hb.out).cell k hlt2 j hj
      have u2 := fun j hj => (H2.out.below hb.out).cell k hlt2 j hj
      have p0 : wr.cell? ⟨g1, o1 + k, none⟩ = some (.int .i64 x0) := by have h9 := u1 0 (by omega); rw [hs] at h9; simpa [cells] using h9
      have q0 : wr.cell? ⟨g2, o2 + k, none⟩ = some (.int .i64 x0) := by have h9 := u2 0 (by omega); rw [hs] at h9; simpa [cells] using h9
      have hli : (k : Int) < (n : Int) := by omega
      clear hs u1 u2
      go_wp2
      have t0 : (x0 != x0) = false := by simp
      go_region
      all_goals
        have hB1 : Hid (Below w.heap.size w wr.drew) := hb.out.drew
        clear p0 q0
        go_wp2
        go_roundw
        case rel => exact ⟨k + 1, by omega, by go_num, hB1⟩
        case measure => simp [intOf]; omega
    · obtain rfl : k = n := by omega
      go_wp2
      go_ret
      exact ⟨rfl, hb.out⟩

/-- The marks of n structs from k on. -/
def marks (k n : Nat) : List Int := (List.range n).map fun i => ((k + 1 * i : Nat) : Int)
theorem marks_length (k n : Nat) : (marks k n).length = n := by simp [marks]
theorem marks_get (k n i : Nat) (h : i < (marks k n).length) : (marks k n)[i] = ((k + 1 * i : Nat) : Int) := by simp [marks]



/-- Elements that came in. -/
def InArg (w : World) (b o : Nat) (L : List Int) : Prop := ∀ (i : Nat) (h : i < L.length) (j : Nat), j < 1 → w.cell? ⟨b, o + i * 1 + j, none⟩ = (cells L[i])[j]?
theorem InArg.below {w w' : World} {b o : Nat} {L : List Int} (h : InArg w b o L) (hb : Below w.heap.size w w') : InArg w' b o L := fun i hi j hj => by
  have h1 := h i hi j hj
  rw [List.getElem?_eq_getElem (by rw [cells_len]; exact hj)] at h1 ⊢
  exact (hb.cell (World.block_lt_of_cell? w _ h1)).trans h1
def Arg (w : World) (a : Option Addr) (L : List Int) : Prop := L = [] ∨ ∃ b o, a = some ⟨b, o, none⟩ ∧ InArg w b o L
theorem Arg.below {w w' : World} {a : Option Addr} {L : List Int} (h : Arg w a L) (hb : Below w.heap.size w w') : Arg w' a L := by
  rcases h with h | ⟨b, o, ha, hr⟩
  · exact Or.inl h
  · exact Or.inr ⟨b, o, ha, hr.below hb⟩

theorem info_el : (Try.prog.info? 3).map (fun i => (i.zero, i.size)) = some (some (.int .i64 0), 1) := by kernel_rfl
theorem info_bytes : ((Try.prog.info? 3).map fun i => decide (i.bytes ≤ 8)) = some true := by kernel_rfl
theorem make_rows (n : Nat) (hn : n ≤ 1048577) (W : World) :
    (Instr.makeSlice 35 (.int .i64 (n : Int)) (.int .i64 (n : Int))).run Try.prog W = .ok (.slice (some ⟨W.heap.size, 0, none⟩) n n) (W.alloc (.cells (madeCells #[.int .i64 0] n) 3)) := by
  obtain ⟨i, hi, hz, hs⟩ : ∃ i, Try.prog.info? 3 = some i ∧ i.zero = some (.int .i64 0) ∧ i.size = 1 := by
    have := info_el
    cases h : Try.prog.info? 3 with
    | none => rw [h] at this; cases this
    | some i => rw [h] at this; simp at this; exact ⟨i, rfl, this.1, this.2⟩
  have hb : i.bytes ≤ 8 := by have := info_bytes; rw [hi] at this; simpa using this
  have hb2 : i.bytes * n ≤ 8 * n := Nat.mul_le_mul_right n hb
  have h := run_make (P := Try.prog) W 35 3 i _ Try.underlying35 hi hz .i64 .i64 (n : Int) (n : Int) (by omega) (by omega) (by first | omega | (rw [Nat.mul_comm]; omega)) (by omega)
  rw [hs] at h
  simpa [Value.cells] using h

set_option maxHeartbeats 4000000 in
theorem to_rows (a : Option Addr) (cap : Nat) (L : List Int) (w : World) (ha : Arg w a L) (hl : L.length ≤ 1048577) :
    Calls Try.prog 19 #[.slice a L.length cap] w fun e w' => ∃ g, e = .returned (.slice (some ⟨g, 0, none⟩) L.length L.length) ∧ w.heap.size ≤ g ∧ Row 3 1 cells w' g 0 L ∧ Below w.heap.size w w' := by
  have hmk := make_rows L.length hl
  have HF : Hid (Part 3 1 cells (w.alloc (.cells (madeCells #[.int .i64 0] L.length) 3)) w.heap.size 0 L 0) := (by
    have h9 := Part.made (t := 3) (m := 1) (f := cells) w L #[.int .i64 0] (by rw [size_madeCells])
    rw [Nat.mul_one] at h9
    exact h9)
  have HB : Hid (Below w.heap.size w (w.alloc (.cells (madeCells #[.int .i64 0] L.length) 3))) := (Below.refl _ _).alloc (Nat.le_refl _) _
  have HA : Hid (Arg w a L) := ha
  clear ha
  obtain ⟨n, hn⟩ : ∃ n, L.length = n := ⟨_, rfl⟩
  have HN : Hid (L.length = n) := hn
  rw [hn] at hl hmk HF HB ⊢
  clear hn
  go_enter Try.func19, Try.ntmps19
  go_wp2
  go_loopw [4] (fun i wr => ∃ k : Nat, k ≤ n ∧ i = .int .i64 k ∧ Hid (Part 3 1 cells wr w.heap.size 0 L k) ∧ Hid (Below w.heap.size w wr)) (fun i _ => n - (intOf i).toNat)
  case atStart => exact ⟨0, by omega, rfl, HF, HB⟩
  case round =>
    clear HF HB hmk
    obtain ⟨k, hk, rfl, HF, HB⟩ := hrel
    by_cases hlt : k < n
    · have hlt2 : k < L.length := by rw [HN.out]; exact hlt
      rcases HA.out with hnil | ⟨b, o, rfl, hA⟩
      · rw [hnil] at hlt2; simp at hlt2
      · have u1 := fun j hj => (hA.below HB.out) k hlt2 j hj
        obtain ⟨x0, hs⟩ : ∃ s, L[k] = s := ⟨_, rfl⟩
        have KX : Hid (L[k] = x0) := hs
        have q0 : wr.cell? ⟨b, o + k, none⟩ = some (.int .i64 x0) := by have h9 := u1 0 (by omega); rw [hs] at h9; simpa [cells] using h9
        have hli : (k : Int) < (n : Int) := by omega
        clear hs hA u1
        obtain ⟨v0, z0⟩ := HF.out.cell k (by rw [HN.out]; omega)
        have f0 := HF.out.fz k
        go_wp2
        have HF2 : Hid (Part 3 1 cells (wr.setCell ⟨w.heap.size, k, none⟩ (.int .i64 x0)) w.heap.size 0 L (k + 1)) := by
          have h1 := HF.out.store cells_len hlt2
          rw [KX.out, Nat.zero_add, Nat.mul_one] at h1
          exact h1
        have HB2 : Hid (Below w.heap.size w (wr.setCell ⟨w.heap.size, k, none⟩ (.int .i64 x0))) := sets_below (Nat.le_refl _) [.int .i64 x0] wr k HB.out
        go_roundw
        case rel => exact ⟨k + 1, by omega, by go_num, HF2, HB2⟩
        case measure => simp [intOf]; omega
    · obtain rfl : k = n := by omega
      have HR : Hid (Row 3 1 cells wr w.heap.size 0 L) := Part.stop (by rw [HN.out]; exact HF.out)
      go_wp2
      go_ret
      exact ⟨w.heap.size, rfl, Nat.le_refl _, HR.out, HB.out⟩


theorem eq_none (a1 a2 : Option Addr) (c1 c2 : Nat) (w : World) : Calls Try.prog 21 #[.slice a1 0 c1, .slice a2 0 c2] w fun e w' => e = .returned (.bool true) ∧ Below w.heap.size w w' := by
  go_enter Try.func21, Try.ntmps21
  go_wp2
  go_loop [5] (fun i => i = .int .i64 0) (fun _ => 0)
  case atStart => rfl
  case round =>
    subst hrel
    go_wp2
    go_ret
    exact ⟨rfl, Below.refl _ _⟩



theorem eq_any (a1 a2 : Option Addr) (c1 c2 : Nat) (L : List Int) (w : World) (h1 : Own 3 1 cells w a1 L) (h2 : Own 3 1 cells w a2 L) (hl : L.length ≤ 1048577) :
    Calls Try.prog 21 #[.slice a1 L.length c1, .slice a2 L.length c2] w fun e w' => e = .returned (.bool true) ∧ Below w.heap.size w w' := by
  rcases h1 with rfl | ⟨g1, o1, rfl, r1⟩
  · exact eq_none a1 a2 c1 c2 w
  · rcases h2 with rfl | ⟨g2, o2, rfl, r2⟩
    · exact eq_none _ _ c1 c2 w
    · exact eq_rows g1 o1 g2 o2 c1 c2 L w r1 r2 hl



end Go.Proofs.Ytflngiakbhjnaaa.IntRows
