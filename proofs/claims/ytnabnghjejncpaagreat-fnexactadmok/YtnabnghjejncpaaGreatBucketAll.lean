/- Several texts laid into one: what the functions named in their own remarks answer; no condition but those written in each. -/
import Derived.Test.YtnabnghjejncpaaGreatRows
import Derived.WalkKit
import Derived.WalkSmall
import Derived.BigQuiet
import Derived.Deep.RegionWith
import Derived.StillTailTactics

section
namespace Go.Proofs.YtnabnghjejncpaaGreat.BucketMath

/-- A bucket is right. -/
def bOk (b r h t : Int) : Prop := 0 ≤ b ∧ b ≤ 1000 ∧ 0 ≤ r ∧ r ≤ 1000000 ∧ 0 ≤ h ∧ h ≤ 1000 * b ∧ 0 ≤ t ∧ t ≤ 1000000000
end Go.Proofs.YtnabnghjejncpaaGreat.BucketMath
end

section
namespace Go.Proofs.YtnabnghjejncpaaGreat.BucketWalks
open Go.RowKit BucketMath

theorem time_yes (n : Int) (w : World) (h0 : ¬ n < 0) (h1 : ¬ 1000000000 < n) : Calls Tryz.prog 42 #[.int .i64 n] w fun e w' => e = .returned (.bool true) ∧ w' = w := by
  have d1 : decide (n ≤ 1000000000) = true := by simp; omega
  go_enter Tryz.func42, Tryz.ntmps42
  go_wp2
  go_ret
  exact ⟨rfl, rfl⟩

theorem time_no (n : Int) (w : World) (h : n < 0 ∨ 1000000000 < n) : Calls Tryz.prog 42 #[.int .i64 n] w fun e w' => e = .returned (.bool false) ∧ w' = w := by
  by_cases h0 : n < 0
  · go_enter Tryz.func42, Tryz.ntmps42
    go_wp2
    go_ret
    exact ⟨rfl, rfl⟩
  · have d1 : decide (n ≤ 1000000000) = false := by simp; omega
    go_enter Tryz.func42, Tryz.ntmps42
    go_wp2
    go_ret
    exact ⟨rfl, rfl⟩

set_option maxHeartbeats 1000000 in
theorem spec_bok (b r h t : Int) (B : Bool) (w : World) (HB : Hid (B = true ↔ bOk b r h t)) :
    Calls Tryz.prog 47 #[.agg #[.int .i64 b, .int .i64 r, .int .i64 h, .int .i64 t]] w fun e w' => e = .returned (.bool B) ∧ Below w.heap.size w w' := by
  have bf : Hid (¬ bOk b r h t → B = false) := fun hn => by cases B with
    | false => rfl
    | true => exact absurd (HB.out.1 rfl) hn
  by_cases c0 : b < 0
  · obtain rfl : B = false := bf.out fun hh => by unfold bOk at hh; omega
    have e0 : decide (0 ≤ b) = false := by simp; omega
    go_enter Tryz.func47, Tryz.ntmps47
    go_wp2
    go_ret
    exact ⟨rfl, (Below.refl _ _).alloc (Nat.le_refl _) _⟩
  · skip
    by_cases c1 : 1000 < b
    · obtain rfl : B = false := bf.out fun hh => by unfold bOk at hh; omega
      have e0 : decide (0 ≤ b) = true := by simp; omega
      have e1 : decide (b ≤ 1000) = false := by simp; omega
      go_enter Tryz.func47, Tryz.ntmps47
      go_wp2
      go_ret
      exact ⟨rfl, (Below.refl _ _).alloc (Nat.le_refl _) _⟩
    · skip
      by_cases c2 : r < 0
      · obtain rfl : B = false := bf.out fun hh => by unfold bOk at hh; omega
        have e0 : decide (0 ≤ b) = true := by simp; omega
        have e1 : decide (b ≤ 1000) = true := by simp; omega
        have e2 : decide (0 ≤ r) = false := by simp; omega
        go_enter Tryz.func47, Tryz.ntmps47
        go_wp2
        go_ret
        exact ⟨rfl, (Below.refl _ _).alloc (Nat.le_refl _) _⟩
      · skip
        by_cases c3 : 1000000 < r
        · obtain rfl : B = false := bf.out fun hh => by unfold bOk at hh; omega
          have e0 : decide (0 ≤ b) = true := by simp; omega
          have e1 : decide (b ≤ 1000) = true := by simp; omega
          have e2 : decide (0 ≤ r) = true := by simp; omega
          have e3 : decide (r ≤ 1000000) = false := by simp; omega
          go_enter Tryz.func47, Tryz.ntmps47
          go_wp2
          go_ret
          exact ⟨rfl, (Below.refl _ _).alloc (Nat.le_refl _) _⟩
        · skip
          by_cases c4 : h < 0
          · obtain rfl : B = false := bf.out fun hh => by unfold bOk at hh; omega
            have e0 : decide (0 ≤ b) = true := by simp; omega
            have e1 : decide (b ≤ 1000) = true := by simp; omega
            have e2 : decide (0 ≤ r) = true := by simp; omega
            have e3 : decide (r ≤ 1000000) = true := by simp; omega
            have e4 : decide (0 ≤ h) = false := by simp; omega
            go_enter Tryz.func47, Tryz.ntmps47
            go_wp2
            go_ret
            exact ⟨rfl, (Below.refl _ _).alloc (Nat.le_refl _) _⟩
          · skip
            by_cases c5 : 1000 * b < h
            · obtain rfl : B = false := bf.out fun hh => by unfold bOk at hh; omega
              have e0 : decide (0 ≤ b) = true := by simp; omega
              have e1 : decide (b ≤ 1000) = true := by simp; omega
              have e2 : decide (0 ≤ r) = true := by simp; omega
              have e3 : decide (r ≤ 1000000) = true := by simp; omega
              have e4 : decide (0 ≤ h) = true := by simp; omega
              have e5 : decide (h ≤ 1000 * b) = false := by simp; omega
              go_enter Tryz.func47, Tryz.ntmps47
              go_wp2
              go_ret
              exact ⟨rfl, (Below.refl _ _).alloc (Nat.le_refl _) _⟩
            · skip
              by_cases c6 : t < 0 ∨ 1000000000 < t
              · obtain rfl : B = false := bf.out fun hh => by unfold bOk at hh; omega
                have HT := fun W => time_no t W c6
                have e0 : decide (0 ≤ b) = true := by simp; omega
                have e1 : decide (b ≤ 1000) = true := by simp; omega
                have e2 : decide (0 ≤ r) = true := by simp; omega
                have e3 : decide (r ≤ 1000000) = true := by simp; omega
                have e4 : decide (0 ≤ h) = true := by simp; omega
                have e5 : decide (h ≤ 1000 * b) = true := by simp; omega
                clear c6
                go_enter Tryz.func47, Tryz.ntmps47
                go_wp2_with (go_at_call 42; refine (HT _).mono ?_; rintro e w9 ⟨rfl, hw9⟩; rw [hw9]; clear hw9 w9)
                go_ret
                exact ⟨rfl, (Below.refl _ _).alloc (Nat.le_refl _) _⟩
              · obtain rfl : B = true := HB.out.2 (by unfold bOk; omega)
                have HT := fun W => time_yes t W (by omega) (by omega)
                have e0 : decide (0 ≤ b) = true := by simp; omega
                have e1 : decide (b ≤ 1000) = true := by simp; omega
                have e2 : decide (0 ≤ r) = true := by simp; omega
                have e3 : decide (r ≤ 1000000) = true := by simp; omega
                have e4 : decide (0 ≤ h) = true := by simp; omega
                have e5 : decide (h ≤ 1000 * b) = true := by simp; omega
                clear c6
                go_enter Tryz.func47, Tryz.ntmps47
                go_wp2_with (go_at_call 42; refine (HT _).mono ?_; rintro e w9 ⟨rfl, hw9⟩; rw [hw9]; clear hw9 w9)
                go_ret
                exact ⟨rfl, (Below.refl _ _).alloc (Nat.le_refl _) _⟩

end Go.Proofs.YtnabnghjejncpaaGreat.BucketWalks
end

section
namespace Go.Proofs.YtnabnghjejncpaaGreat.BucketFill
open Go.RowKit BucketMath BucketWalks

theorem cell_blk {w : World} {g : Nat} {cur : Array Value} {t : TypeId} (h : w.heap[g]? = some (.cells cur t (0, 0))) (i : Nat) : w.cell? ⟨g, i, none⟩ = cur[i]? := by simp [World.cell?, h]
theorem fz_blk {w : World} {g : Nat} {cur : Array Value} {t : TypeId} (h : w.heap[g]? = some (.cells cur t (0, 0))) (i : Nat) : w.frozen? ⟨g, i, none⟩ = false := by simp [World.frozen?, h]

/-- Two boxes laid one behind the other, behind a call that turns nothing below. -/
theorem two4 {w w1 : World} {A B : Array Value} {s u : TypeId} (hb : Below ((w.alloc (.cells A s)).alloc (.cells B u)).heap.size ((w.alloc (.cells A s)).alloc (.cells B u)) w1) :
    w1.heap[w.heap.size]? = some (.cells A s (0, 0)) ∧ w1.heap[w.heap.size + 1]? = some (.cells B u (0, 0)) ∧ w.heap.size + 2 ≤ w1.heap.size := by
  have hs := hb.size
  simp at hs
  refine ⟨?_, ?_, by omega⟩
  · rw [hb.block _ (by simp; omega), Below.heap_alloc _ _ _ (by simp)]
    exact heap_alloc_new w _
  · rw [hb.block _ (by simp)]
    have := heap_alloc_new (w.alloc (.cells A s)) (.cells B u)
    simpa using this

theorem flag (p : Prop) : ∃ B : Bool, Hid (B = true ↔ p) := by
  by_cases h : p
  · exact ⟨true, ⟨fun _ => h, fun _ => rfl⟩⟩
  · exact ⟨false, ⟨fun e => by simp at e, fun e => absurd e h⟩⟩

end Go.Proofs.YtnabnghjejncpaaGreat.BucketFill
end

section
namespace Go.Proofs.YtnabnghjejncpaaGreat.BucketMore
open Go.RowKit BucketMath BucketWalks BucketFill

set_option maxHeartbeats 1000000 in
theorem spec_bnew (b r : Int) (B : Bool) (w : World) (HB : Hid (B = true ↔ bOk b r (1000 * b) 0)) :
    Calls Tryz.prog 78 #[.int .i64 b, .int .i64 r] w fun e w' => e = .returned (.tuple #[.agg #[.int .i64 (if B then b else 0), .int .i64 (if B then r else 0), .int .i64 (if B then 1000 * b else 0), .int .i64 0], .bool B]) ∧ Below w.heap.size w w' := by
  have hW : ∀ A B : Obj, Below w.heap.size w ((w.alloc A).alloc B) := fun A B => ((Below.refl _ _).alloc (Nat.le_refl _) _).alloc (by simp) _
  have HW : Hid (∀ A B : Obj, Below w.heap.size w ((w.alloc A).alloc B)) := hW
  clear hW
  by_cases hb : 0 ≤ b ∧ b ≤ 1000
  · have e1 : IntKind.i64.wrap (1000 * b) = 1000 * b := by rw [IntKind.wrap_i64]; omega
    have d0 : decide (0 ≤ b) = true := by simp; omega
    have d1 : decide (b ≤ 1000) = true := by simp; omega
    have HO := fun W => spec_bok b r (1000 * b) 0 B W HB
    clear hb
    cases B with
    | true =>
      simp only [if_true]
      go_enter Tryz.func78, Tryz.ntmps78
      go_wp2_with (go_at_call 47; refine (HO _).mono ?_; rintro e w1 ⟨rfl, hb⟩; obtain ⟨e0, e1, sz⟩ := two4 hb; have a0 := cell_blk e0 0; have a1 := cell_blk e0 1; have a2 := cell_blk e0 2; have a3 := cell_blk e0 3; have z0 := cell_blk e1 0; have z1 := cell_blk e1 1; have z2 := cell_blk e1 2; have z3 := cell_blk e1 3; have fa0 := fz_blk e0 0; have fa1 := fz_blk e0 1; have fa2 := fz_blk e0 2; have fa3 := fz_blk e0 3; have f0 := fz_blk e1 0; have f1 := fz_blk e1 1; have f2 := fz_blk e1 2; have f3 := fz_blk e1 3)
      refine bodyPost_ret (v := .tuple #[.agg #[.int .i64 b, .int .i64 r, .int .i64 (1000 * b), .int .i64 0], .bool true]) (by simp [results, Tryz.results78, go_sem, a0, a1, a2, a3]) rfl ⟨rfl, ?_⟩
      have B1 := (HW.out _ _).trans (hb.mono (by simp; omega))
      exact ((((B1.setCell (Nat.le_refl _) _).setCell (Nat.le_refl _) _).setCell (Nat.le_refl _) _).setCell (Nat.le_refl _) _)
    | false =>
      simp only [Bool.false_eq_true, if_false]
      go_enter Tryz.func78, Tryz.ntmps78
      go_wp2_with (go_at_call 47; refine (HO _).mono ?_; rintro e w1 ⟨rfl, hb⟩; obtain ⟨e0, e1, sz⟩ := two4 hb; have a0 := cell_blk e0 0; have a1 := cell_blk e0 1; have a2 := cell_blk e0 2; have a3 := cell_blk e0 3; have z0 := cell_blk e1 0; have z1 := cell_blk e1 1; have z2 := cell_blk e1 2; have z3 := cell_blk e1 3; have fa0 := fz_blk e0 0; have fa1 := fz_blk e0 1; have fa2 := fz_blk e0 2; have fa3 := fz_blk e0 3; have f0 := fz_blk e1 0; have f1 := fz_blk e1 1; have f2 := fz_blk e1 2; have f3 := fz_blk e1 3)
      refine bodyPost_ret (v := .tuple #[.agg #[.int .i64 0, .int .i64 0, .int .i64 0, .int .i64 0], .bool false]) (by simp [results, Tryz.results78, go_sem, a0, a1, a2, a3]) rfl ⟨rfl, ?_⟩
      have B1 := (HW.out _ _).trans (hb.mono (by simp; omega))
      exact ((((B1.setCell (Nat.le_refl _) _).setCell (Nat.le_refl _) _).setCell (Nat.le_refl _) _).setCell (Nat.le_refl _) _)
  · have HO := fun W => spec_bok b r 0 0 false W ⟨fun e => by simp at e, fun e => by unfold bOk at e; omega⟩
    obtain rfl : B = false := by
      cases B with
      | false => rfl
      | true => have := HB.out.1 rfl; unfold bOk at this; omega
    simp only [Bool.false_eq_true, if_false]
    by_cases h0 : 0 ≤ b
    · have d0 : decide (0 ≤ b) = true := by simp; omega
      have d1 : decide (b ≤ 1000) = false := by simp; omega
      clear hb
      go_enter Tryz.func78, Tryz.ntmps78
      go_wp2_with (go_at_call 47; refine (HO _).mono ?_; rintro e w1 ⟨rfl, hb⟩; obtain ⟨e0, e1, sz⟩ := two4 hb; have a0 := cell_blk e0 0; have a1 := cell_blk e0 1; have a2 := cell_blk e0 2; have a3 := cell_blk e0 3; have z0 := cell_blk e1 0; have z1 := cell_blk e1 1; have z2 := cell_blk e1 2; have z3 := cell_blk e1 3; have fa0 := fz_blk e0 0; have fa1 := fz_blk e0 1; have fa2 := fz_blk e0 2; have fa3 := fz_blk e0 3; have f0 := fz_blk e1 0; have f1 := fz_blk e1 1; have f2 := fz_blk e1 2; have f3 := fz_blk e1 3)
      refine bodyPost_ret (v := .tuple #[.agg #[.int .i64 0, .int .i64 0, .int .i64 0, .int .i64 0], .bool false]) (by simp [results, Tryz.results78, go_sem, a0, a1, a2, a3]) rfl ⟨rfl, ?_⟩
      have B1 := (HW.out _ _).trans (hb.mono (by simp; omega))
      exact ((((B1.setCell (Nat.le_refl _) _).setCell (Nat.le_refl _) _).setCell (Nat.le_refl _) _).setCell (Nat.le_refl _) _)
    · have d0 : decide (0 ≤ b) = false := by simp; omega
      clear hb
      go_enter Tryz.func78, Tryz.ntmps78
      go_wp2_with (go_at_call 47; refine (HO _).mono ?_; rintro e w1 ⟨rfl, hb⟩; obtain ⟨e0, e1, sz⟩ := two4 hb; have a0 := cell_blk e0 0; have a1 := cell_blk e0 1; have a2 := cell_blk e0 2; have a3 := cell_blk e0 3; have z0 := cell_blk e1 0; have z1 := cell_blk e1 1; have z2 := cell_blk e1 2; have z3 := cell_blk e1 3; have fa0 := fz_blk e0 0; have fa1 := fz_blk e0 1; have fa2 := fz_blk e0 2; have fa3 := fz_blk e0 3; have f0 := fz_blk e1 0; have f1 := fz_blk e1 1; have f2 := fz_blk e1 2; have f3 := fz_blk e1 3)
      refine bodyPost_ret (v := .tuple #[.agg #[.int .i64 0, .int .i64 0, .int .i64 0, .int .i64 0], .bool false]) (by simp [results, Tryz.results78, go_sem, a0, a1, a2, a3]) rfl ⟨rfl, ?_⟩
      have B1 := (HW.out _ _).trans (hb.mono (by simp; omega))
      exact ((((B1.setCell (Nat.le_refl _) _).setCell (Nat.le_refl _) _).setCell (Nat.le_refl _) _).setCell (Nat.le_refl _) _)
end Go.Proofs.YtnabnghjejncpaaGreat.BucketMore
end

section
namespace Go.Proofs.YtnabnghjejncpaaGreat.BucketBase
open Go.RowKit

theorem cell_blk {w : World} {g : Nat} {cur : Array Value} {t : TypeId} (h : w.heap[g]? = some (.cells cur t (0, 0))) (i : Nat) : w.cell? ⟨g, i, none⟩ = cur[i]? := by simp [World.cell?, h]
theorem fz_blk {w : World} {g : Nat} {cur : Array Value} {t : TypeId} (h : w.heap[g]? = some (.cells cur t (0, 0))) (i : Nat) : w.frozen? ⟨g, i, none⟩ = false := by simp [World.frozen?, h]

/-- Two boxes laid one behind the other, behind a call that turns nothing below. -/
theorem two4 {w w1 : World} {A B : Array Value} {s u : TypeId} (hb : Below ((w.alloc (.cells A s)).alloc (.cells B u)).heap.size ((w.alloc (.cells A s)).alloc (.cells B u)) w1) :
    w1.heap[w.heap.size]? = some (.cells A s (0, 0)) ∧ w1.heap[w.heap.size + 1]? = some (.cells B u (0, 0)) ∧ w.heap.size + 2 ≤ w1.heap.size := by
  have hs := hb.size
  simp at hs
  refine ⟨?_, ?_, by omega⟩
  · rw [hb.block _ (by simp; omega), Below.heap_alloc _ _ _ (by simp)]
    exact heap_alloc_new w _
  · rw [hb.block _ (by simp)]
    have := heap_alloc_new (w.alloc (.cells A s)) (.cells B u)
    simpa using this

theorem flag (p : Prop) : ∃ B : Bool, Hid (B = true ↔ p) := by
  by_cases h : p
  · exact ⟨true, ⟨fun _ => h, fun _ => rfl⟩⟩
  · exact ⟨false, ⟨fun e => by simp at e, fun e => absurd e h⟩⟩

theorem kept {w w' : World} {g : Nat} {o : Obj} (h : w.heap[g]? = some o) (hb : Below w.heap.size w w') : w'.heap[g]? = some o := (hb.block g (Array.getElem?_eq_some_iff.1 h).1).trans h
theorem time_yes (n : Int) (w : World) (h0 : ¬ n < 0) (h1 : ¬ 1000000000 < n) : Calls Tryz.prog 27 #[.int .i64 n] w fun e w' => e = .returned (.bool true) ∧ w' = w := by
  have d1 : decide (n ≤ 1000000000) = true := by simp; omega
  go_enter Tryz.func27, Tryz.ntmps27
  go_wp2
  go_ret
  exact ⟨rfl, rfl⟩

theorem time_no (n : Int) (w : World) (h : n < 0 ∨ 1000000000 < n) : Calls Tryz.prog 27 #[.int .i64 n] w fun e w' => e = .returned (.bool false) ∧ w' = w := by
  by_cases h0 : n < 0
  · go_enter Tryz.func27, Tryz.ntmps27
    go_wp2
    go_ret
    exact ⟨rfl, rfl⟩
  · have d1 : decide (n ≤ 1000000000) = false := by simp; omega
    go_enter Tryz.func27, Tryz.ntmps27
    go_wp2
    go_ret
    exact ⟨rfl, rfl⟩

/-- How much a bucket at g may hold. -/
theorem most_at (g : Nat) (b m : Int) (w : World) (c0 : w.cell? ⟨g, 0, none⟩ = some (.int .i64 b)) (hm : IntKind.i64.wrap (1000 * b) = m) :
    Calls Tryz.prog 95 #[.pointer (some ⟨g, 0, none⟩)] w fun e w' => e = .returned (.int .i64 m) ∧ w' = w := by
  go_enter Tryz.func95, Tryz.ntmps95
  go_wp2
  go_ret
  exact ⟨rfl, rfl⟩
end Go.Proofs.YtnabnghjejncpaaGreat.BucketBase
end

section
namespace Go.Proofs.YtnabnghjejncpaaGreat.BucketImpl
open Go.RowKit BucketMath BucketBase

set_option maxHeartbeats 1000000 in
theorem impl_bok (b r h t : Int) (B : Bool) (w : World) (HB : Hid (B = true ↔ bOk b r h t)) :
    Calls Tryz.prog 61 #[.agg #[.int .i64 b, .int .i64 r, .int .i64 h, .int .i64 t]] w fun e w' => e = .returned (.bool B) ∧ Below w.heap.size w w' := by
  have bf : Hid (¬ bOk b r h t → B = false) := fun hn => by cases B with
    | false => rfl
    | true => exact absurd (HB.out.1 rfl) hn
  by_cases c0 : b < 0
  · obtain rfl : B = false := bf.out fun hh => by unfold bOk at hh; omega
    go_enter Tryz.func61, Tryz.ntmps61
    go_wp2
    go_ret
    exact ⟨rfl, (Below.refl _ _).alloc (Nat.le_refl _) _⟩
  by_cases c1 : 1000 < b
  · obtain rfl : B = false := bf.out fun hh => by unfold bOk at hh; omega
    have d1 : decide (1000 < b) = true := by simp; omega
    go_enter Tryz.func61, Tryz.ntmps61
    go_wp2
    go_ret
    exact ⟨rfl, (Below.refl _ _).alloc (Nat.le_refl _) _⟩
  by_cases c2 : r < 0
  · obtain rfl : B = false := bf.out fun hh => by unfold bOk at hh; omega
    have d1 : decide (1000 < b) = false := by simp; omega
    have d2 : decide (r < 0) = true := by simp; omega
    go_enter Tryz.func61, Tryz.ntmps61
    go_wp2
    go_ret
    exact ⟨rfl, (Below.refl _ _).alloc (Nat.le_refl _) _⟩
  by_cases c3 : 1000000 < r
  · obtain rfl : B = false := bf.out fun hh => by unfold bOk at hh; omega
    have d1 : decide (1000 < b) = false := by simp; omega
    have d2 : decide (r < 0) = false := by simp; omega
    have d3 : decide (1000000 < r) = true := by simp; omega
    go_enter Tryz.func61, Tryz.ntmps61
    go_wp2
    go_ret
    exact ⟨rfl, (Below.refl _ _).alloc (Nat.le_refl _) _⟩
  have d1 : decide (1000 < b) = false := by simp; omega
  have d2 : decide (r < 0) = false := by simp; omega
  have d3 : decide (1000000 < r) = false := by simp; omega
  have wm : IntKind.i64.wrap (1000 * b) = 1000 * b := by rw [IntKind.wrap_i64]; omega
  have HM := fun n => most_at w.heap.size b (1000 * b) ((w.alloc (.cells #[.int .i64 b, .int .i64 r, .int .i64 h, .int .i64 t] 60)).drewN n) (cell_blk (w := (w.alloc (.cells #[.int .i64 b, .int .i64 r, .int .i64 h, .int .i64 t] 60)).drewN n) (heap_alloc_new w (.cells #[.int .i64 b, .int .i64 r, .int .i64 h, .int .i64 t] 60)) 0) wm
  by_cases c4 : h < 0
  · obtain rfl : B = false := bf.out fun hh => by unfold bOk at hh; omega
    have d4 : decide (0 ≤ h) = false := by simp; omega
    go_enter Tryz.func61, Tryz.ntmps61
    go_wp2
    go_quiet (fail)
    go_wp2
    go_ret
    exact ⟨rfl, below_drewN ((Below.refl _ _).alloc (Nat.le_refl _) _) _⟩
  have d4 : decide (0 ≤ h) = true := by simp; omega
  by_cases c5 : 1000 * b < h
  · obtain rfl : B = false := bf.out fun hh => by unfold bOk at hh; omega
    have d5 : decide (h ≤ 1000 * b) = false := by simp; omega
    go_enter Tryz.func61, Tryz.ntmps61
    go_wp2
    go_quiet (first | (go_at_call 95; exact Calls.quiet_of_same (HM _)))
    go_wp2
    go_ret
    exact ⟨rfl, below_drewN ((Below.refl _ _).alloc (Nat.le_refl _) _) _⟩
  have d5 : decide (h ≤ 1000 * b) = true := by simp; omega
  by_cases c6 : t < 0 ∨ 1000000000 < t
  · obtain rfl : B = false := bf.out fun hh => by unfold bOk at hh; omega
    have HT := fun W => time_no t W c6
    clear c6
    go_enter Tryz.func61, Tryz.ntmps61
    go_wp2
    go_quiet (first | (go_at_call 95; exact Calls.quiet_of_same (HM _)) | (go_at_call 27; exact Calls.quiet_of_same (HT _)))
    go_wp2
    go_ret
    exact ⟨rfl, below_drewN ((Below.refl _ _).alloc (Nat.le_refl _) _) _⟩
  · obtain rfl : B = true := HB.out.2 (by unfold bOk; omega)
    have HT := fun W => time_yes t W (by omega) (by omega)
    clear c6
    go_enter Tryz.func61, Tryz.ntmps61
    go_wp2
    go_quiet (first | (go_at_call 95; exact Calls.quiet_of_same (HM _)) | (go_at_call 27; exact Calls.quiet_of_same (HT _)))
    go_wp2
    go_ret
    exact ⟨rfl, below_drewN ((Below.refl _ _).alloc (Nat.le_refl _) _) _⟩
end Go.Proofs.YtnabnghjejncpaaGreat.BucketImpl
end

section
namespace Go.Proofs.YtnabnghjejncpaaGreat.BucketImpl
open Go.RowKit BucketMath BucketBase

set_option maxHeartbeats 1000000 in
theorem impl_bnew (b r : Int) (B : Bool) (w : World) (HB : Hid (B = true ↔ bOk b r (1000 * b) 0)) :
    Calls Tryz.prog 57 #[.int .i64 b, .int .i64 r] w fun e w' => e = .returned (.tuple #[.agg #[.int .i64 (if B then b else 0), .int .i64 (if B then r else 0), .int .i64 (if B then 1000 * b else 0), .int .i64 0], .bool B]) ∧ Below w.heap.size w w' := by
  have hW : ∀ A B : Obj, Below w.heap.size w ((w.alloc A).alloc B) := fun A B => ((Below.refl _ _).alloc (Nat.le_refl _) _).alloc (by simp) _
  have HW : Hid (∀ A B : Obj, Below w.heap.size w ((w.alloc A).alloc B)) := hW
  clear hW
  have hin : 0 ≤ b → b ≤ 1000 → IntKind.i64.wrap (1000 * b) = 1000 * b := fun h0 h1 => by rw [IntKind.wrap_i64]; omega
  obtain ⟨m, hm⟩ : ∃ m, IntKind.i64.wrap (1000 * b) = m := ⟨_, rfl⟩
  rw [hm] at hin
  have HM : Hid (B = true ↔ bOk b r m 0) := by
    show B = true ↔ _
    rw [HB.out]
    unfold bOk
    constructor
    · intro hh
      have := hin hh.1 hh.2.1
      omega
    · intro hh
      have := hin hh.1 hh.2.1
      omega
  have HO := fun W => impl_bok b r m 0 B W HM
  cases B with
  | true =>
    obtain rfl : m = 1000 * b := by
      have := HB.out.1 rfl
      unfold bOk at this
      exact hin this.1 this.2.1
    simp only [if_true]
    clear hin
    go_enter Tryz.func57, Tryz.ntmps57
    go_wp2_with (go_at_call 61; refine (HO _).mono ?_; rintro e w1 ⟨rfl, hb⟩; obtain ⟨e0, e1, sz⟩ := two4 hb; have a0 := cell_blk e0 0; have a1 := cell_blk e0 1; have a2 := cell_blk e0 2; have a3 := cell_blk e0 3; have fa0 := fz_blk e0 0; have fa1 := fz_blk e0 1; have fa2 := fz_blk e0 2; have fa3 := fz_blk e0 3; have z0 := cell_blk e1 0; have z1 := cell_blk e1 1; have z2 := cell_blk e1 2; have z3 := cell_blk e1 3; have f0 := fz_blk e1 0; have f1 := fz_blk e1 1; have f2 := fz_blk e1 2; have f3 := fz_blk e1 3)
    refine bodyPost_ret (v := .tuple #[.agg #[.int .i64 b, .int .i64 r, .int .i64 (1000 * b), .int .i64 0], .bool true]) (by simp [results, Tryz.results57, go_sem, a0, a1, a2, a3]) rfl ⟨rfl, ?_⟩
    have B1 := (HW.out _ _).trans (hb.mono (by simp; omega))
    exact ((((B1.setCell (Nat.le_refl _) _).setCell (Nat.le_refl _) _).setCell (Nat.le_refl _) _).setCell (Nat.le_refl _) _)
  | false =>
    simp only [Bool.false_eq_true, if_false]
    clear hin
    go_enter Tryz.func57, Tryz.ntmps57
    go_wp2_with (go_at_call 61; refine (HO _).mono ?_; rintro e w1 ⟨rfl, hb⟩; obtain ⟨e0, e1, sz⟩ := two4 hb; have a0 := cell_blk e0 0; have a1 := cell_blk e0 1; have a2 := cell_blk e0 2; have a3 := cell_blk e0 3; have fa0 := fz_blk e0 0; have fa1 := fz_blk e0 1; have fa2 := fz_blk e0 2; have fa3 := fz_blk e0 3; have z0 := cell_blk e1 0; have z1 := cell_blk e1 1; have z2 := cell_blk e1 2; have z3 := cell_blk e1 3; have f0 := fz_blk e1 0; have f1 := fz_blk e1 1; have f2 := fz_blk e1 2; have f3 := fz_blk e1 3)
    refine bodyPost_ret (v := .tuple #[.agg #[.int .i64 0, .int .i64 0, .int .i64 0, .int .i64 0], .bool false]) (by simp [results, Tryz.results57, go_sem, a0, a1, a2, a3]) rfl ⟨rfl, ?_⟩
    have B1 := (HW.out _ _).trans (hb.mono (by simp; omega))
    exact ((((B1.setCell (Nat.le_refl _) _).setCell (Nat.le_refl _) _).setCell (Nat.le_refl _) _).setCell (Nat.le_refl _) _)

end Go.Proofs.YtnabnghjejncpaaGreat.BucketImpl
end
