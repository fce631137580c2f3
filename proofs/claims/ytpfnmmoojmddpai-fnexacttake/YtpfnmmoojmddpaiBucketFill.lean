/- What the model's Fill answers at every bucket and time; nothing else turns. -/
import Derived.Test.YtpfnmmoojmddpaiRows
import Derived.WalkKit
import Derived.WalkSmall
import Derived.BigQuiet
import Derived.Test.YtpfnmmoojmddpaiBucketMath
import Derived.Test.YtpfnmmoojmddpaiBucketWalks
namespace Go.Proofs.Ytpfnmmoojmddpai.BucketFill
open Go.RowKit BucketMath BucketWalks

theorem cell_blk {w : World} {g : Nat} {cur : Array Value} {t : TypeId} (h : w.heap[g]? = some (.cells cur t (0, 0))) (i : Nat) : w.cell? ⟨g, i, none⟩ = cur[i]? := by simp [World.cell?, h]
theorem fz_blk {w : World} {g : Nat} {cur : Array Value} {t : TypeId} (h : w.heap[g]? = some (.cells cur t (0, 0))) (i : Nat) : w.frozen? ⟨g, i, none⟩ = false := by simp [World.frozen?, h]

/-- Two boxes laid one behind the other, behind a call that turns nothing below. -/
theorem two4 {w w1 : World} {A B : Array Value} {s u : TypeId} (hb : Below ((w.alloc (.cells A s)).alloc (.cells B u)).heap.size ((w.alloc (.cells A s)).alloc (.cells B u)) w1) :
    w1.heap[w.heap.size]? = some (.cells A s (0, 0)) ∧ w1.heap[w.heap.size + 1]? = some (.cells B u (0, 0)) ∧ w.heap.size + 2 ≤ w1.heap.size := by
  have hs := hb.size
  simp at hs
  refine ⟨?_, ?_, by omega⟩
  · rw [hb.block _ (by simp; omega), Below.heap_alloc _ _ _ (by simp)]
    exact heap_alloc_new w _
  · rw [hb.block _ (by simp)]
    have := heap_alloc_new (w.alloc (.cells A s)) (.cells B u)
    simpa using this

theorem le1 (w : World) : w.heap.size ≤ w.heap.size + 1 := Nat.le_succ _

theorem flag (p : Prop) : ∃ B : Bool, Hid (B = true ↔ p) := by
  by_cases h : p
  · exact ⟨true, ⟨fun _ => h, fun _ => rfl⟩⟩
  · exact ⟨false, ⟨fun e => by simp at e, fun e => absurd e h⟩⟩

theorem spec_fill_no (b r h t now : Int) (w : World) (hn : ¬ (bOk b r h t ∧ isT now)) :
    Calls Try.prog 6 #[.agg #[.int .i64 b, .int .i64 r, .int .i64 h, .int .i64 t], .int .i64 now] w fun e w' => e = .returned (.agg #[.int .i64 0, .int .i64 0, .int .i64 0, .int .i64 0]) ∧ Below w.heap.size w w' := by
  obtain ⟨B, HB⟩ := flag (bOk b r h t)
  have HO := spec_bok b r h t B ((w.alloc (.cells #[.int .i64 b, .int .i64 r, .int .i64 h, .int .i64 t] 24)).alloc (.cells #[.int .i64 0, .int .i64 0, .int .i64 0, .int .i64 0] 24)) HB
  have HW : Hid (Below w.heap.size w ((w.alloc (.cells #[.int .i64 b, .int .i64 r, .int .i64 h, .int .i64 t] 24)).alloc (.cells #[.int .i64 0, .int .i64 0, .int .i64 0, .int .i64 0] 24))) := ((Below.refl _ _).alloc (Nat.le_refl _) _).alloc (by simp) _
  cases B with
  | false =>
    clear hn
    go_enter Try.func6, Try.ntmps6
    go_wp2_with (go_at_call 14; refine HO.mono ?_; rintro e w1 ⟨rfl, hb⟩; obtain ⟨e0, e1, sz⟩ := two4 hb; have a0 := cell_blk e0 0; have a1 := cell_blk e0 1; have a2 := cell_blk e0 2; have a3 := cell_blk e0 3; have z0 := cell_blk e1 0; have z1 := cell_blk e1 1; have z2 := cell_blk e1 2; have z3 := cell_blk e1 3; have fa0 := fz_blk e0 0; have fa1 := fz_blk e0 1; have fa2 := fz_blk e0 2; have fa3 := fz_blk e0 3; have f0 := fz_blk e1 0; have f1 := fz_blk e1 1; have f2 := fz_blk e1 2; have f3 := fz_blk e1 3)
    refine bodyPost_ret (v := .agg #[.int .i64 0, .int .i64 0, .int .i64 0, .int .i64 0]) (by simp [results, Try.results6, go_sem, z0, z1, z2, z3]) rfl ⟨rfl, ?_⟩
    have B1 := HW.out.trans (hb.mono (by simp; omega))
    exact ((((B1.setCell (le1 w) _).setCell (le1 w) _).setCell (le1 w) _).setCell (le1 w) _)
  | true =>
    have ht : now < 0 ∨ 1000000000 < now := by
      have h1 := HB.out.1 rfl
      have : ¬ isT now := fun hh => hn ⟨h1, hh⟩
      unfold isT at this
      omega
    have HT := fun W => time_no now W ht
    clear hn ht
    go_enter Try.func6, Try.ntmps6
    go_wp2_with (first | (go_at_call 14; refine HO.mono ?_; rintro e w1 ⟨rfl, hb⟩; obtain ⟨e0, e1, sz⟩ := two4 hb; have a0 := cell_blk e0 0; have a1 := cell_blk e0 1; have a2 := cell_blk e0 2; have a3 := cell_blk e0 3; have z0 := cell_blk e1 0; have z1 := cell_blk e1 1; have z2 := cell_blk e1 2; have z3 := cell_blk e1 3; have fa0 := fz_blk e0 0; have fa1 := fz_blk e0 1; have fa2 := fz_blk e0 2; have fa3 := fz_blk e0 3; have f0 := fz_blk e1 0; have f1 := fz_blk e1 1; have f2 := fz_blk e1 2; have f3 := fz_blk e1 3) | (go_at_call 15; refine (HT _).mono ?_; rintro e w9 ⟨rfl, hw9⟩; rw [hw9]; clear hw9 w9))
    refine bodyPost_ret (v := .agg #[.int .i64 0, .int .i64 0, .int .i64 0, .int .i64 0]) (by simp [results, Try.results6, go_sem, z0, z1, z2, z3]) rfl ⟨rfl, ?_⟩
    have B1 := HW.out.trans (hb.mono (by simp; omega))
    exact ((((B1.setCell (le1 w) _).setCell (le1 w) _).setCell (le1 w) _).setCell (le1 w) _)

set_option maxHeartbeats 1000000 in
theorem spec_fill_yes (b r h t now : Int) (w : World) (hk : bOk b r h t) (hn : isT now) :
    Calls Try.prog 6 #[.agg #[.int .i64 b, .int .i64 r, .int .i64 h, .int .i64 t], .int .i64 now] w fun e w' => e = .returned (.agg #[.int .i64 b, .int .i64 r, .int .i64 (fillH b r h t now), .int .i64 (fillT t now)]) ∧ Below w.heap.size w w' := by
  have HO := spec_bok b r h t true ((w.alloc (.cells #[.int .i64 b, .int .i64 r, .int .i64 h, .int .i64 t] 24)).alloc (.cells #[.int .i64 0, .int .i64 0, .int .i64 0, .int .i64 0] 24)) ⟨fun _ => hk, fun _ => rfl⟩
  have HW : Hid (Below w.heap.size w ((w.alloc (.cells #[.int .i64 b, .int .i64 r, .int .i64 h, .int .i64 t] 24)).alloc (.cells #[.int .i64 0, .int .i64 0, .int .i64 0, .int .i64 0] 24))) := ((Below.refl _ _).alloc (Nat.le_refl _) _).alloc (by simp) _
  unfold isT at hn
  have HT := fun W => time_yes now W (by omega) (by omega)
  unfold bOk at hk
  by_cases hlt : t < now
  · have hc := come_le (r := r) (t := t) (now := now) (by omega) (by omega) (by omega) (by omega)
    have e1 : fillT t now = now := if_pos hlt
    have e2 : fillH b r h t now = if 1000 * b < h + r * (now - t) then 1000 * b else h + r * (now - t) := if_pos hlt
    rw [e1, e2]
    have w1e : IntKind.i64.wrap (now - t) = now - t := by rw [IntKind.wrap_i64]; omega
    have w2e : IntKind.i64.wrap (r * (now - t)) = r * (now - t) := by rw [IntKind.wrap_i64]; omega
    have w3e : IntKind.i64.wrap (h + r * (now - t)) = h + r * (now - t) := by rw [IntKind.wrap_i64]; omega
    have w4e : IntKind.i64.wrap (1000 * b) = 1000 * b := by rw [IntKind.wrap_i64]; omega
    have HCL := fun W => clamp_min (h + r * (now - t)) (1000 * b) W (by omega)
    obtain ⟨F, hF⟩ : ∃ F, (if 1000 * b < h + r * (now - t) then 1000 * b else h + r * (now - t)) = F := ⟨_, rfl⟩
    rw [hF] at HCL ⊢
    clear hF e1 e2 hc hk hn
    go_enter Try.func6, Try.ntmps6
    go_wp2_with (first | (go_at_call 14; refine HO.mono ?_; rintro e w1 ⟨rfl, hb⟩; obtain ⟨e0, e1, sz⟩ := two4 hb; have a0 := cell_blk e0 0; have a1 := cell_blk e0 1; have a2 := cell_blk e0 2; have a3 := cell_blk e0 3; have z0 := cell_blk e1 0; have z1 := cell_blk e1 1; have z2 := cell_blk e1 2; have z3 := cell_blk e1 3; have fa0 := fz_blk e0 0; have fa1 := fz_blk e0 1; have fa2 := fz_blk e0 2; have fa3 := fz_blk e0 3; have f0 := fz_blk e1 0; have f1 := fz_blk e1 1; have f2 := fz_blk e1 2; have f3 := fz_blk e1 3) | (go_at_call 15; refine (HT _).mono ?_; rintro e w9 ⟨rfl, hw9⟩; rw [hw9]; clear hw9 w9) | (go_at_call 16; refine (HCL _).mono ?_; rintro e w9 ⟨rfl, hw9⟩; rw [hw9]; clear hw9 w9))
    refine bodyPost_ret (v := .agg #[.int .i64 b, .int .i64 r, .int .i64 F, .int .i64 now]) (by simp [results, Try.results6, go_sem, z0, z1, z2, z3]) rfl ⟨rfl, ?_⟩
    have B1 := HW.out.trans (hb.mono (by simp; omega))
    exact ((((((B1.setCell (Nat.le_refl _) _).setCell (Nat.le_refl _) _).setCell (le1 w) _).setCell (le1 w) _).setCell (le1 w) _).setCell (le1 w) _)
  · have e1 : fillT t now = t := if_neg hlt
    have e2 : fillH b r h t now = h := if_neg hlt
    rw [e1, e2]
    clear e1 e2 hk hn
    go_enter Try.func6, Try.ntmps6
    go_wp2_with (first | (go_at_call 14; refine HO.mono ?_; rintro e w1 ⟨rfl, hb⟩; obtain ⟨e0, e1, sz⟩ := two4 hb; have a0 := cell_blk e0 0; have a1 := cell_blk e0 1; have a2 := cell_blk e0 2; have a3 := cell_blk e0 3; have z0 := cell_blk e1 0; have z1 := cell_blk e1 1; have z2 := cell_blk e1 2; have z3 := cell_blk e1 3; have fa0 := fz_blk e0 0; have fa1 := fz_blk e0 1; have fa2 := fz_blk e0 2; have fa3 := fz_blk e0 3; have f0 := fz_blk e1 0; have f1 := fz_blk e1 1; have f2 := fz_blk e1 2; have f3 := fz_blk e1 3) | (go_at_call 15; refine (HT _).mono ?_; rintro e w9 ⟨rfl, hw9⟩; rw [hw9]; clear hw9 w9))
    refine bodyPost_ret (v := .agg #[.int .i64 b, .int .i64 r, .int .i64 h, .int .i64 t]) (by simp [results, Try.results6, go_sem, z0, z1, z2, z3]) rfl ⟨rfl, ?_⟩
    have B1 := HW.out.trans (hb.mono (by simp; omega))
    exact ((((B1.setCell (le1 w) _).setCell (le1 w) _).setCell (le1 w) _).setCell (le1 w) _)
end Go.Proofs.Ytpfnmmoojmddpai.BucketFill
