/- What the model's SeeAll answers, at all arguments; nothing that was there turns. -/
import Derived.Test.YtflngiakbhjnaaaRows
import Derived.WalkKit
import Derived.WalkSmall
import Derived.BigQuiet
import Derived.Deep.RegionWith
import Derived.Deep.DeepCutAuto
import Derived.Test.YtflngiakbhjnaaaListKit
import Derived.Test.YtflngiakbhjnaaaHoldKit
import Derived.Test.YtflngiakbhjnaaaIntKit
import Derived.Test.YtflngiakbhjnaaaCodKit
import Derived.Test.YtflngiakbhjnaaaCodOks
import Derived.Test.YtflngiakbhjnaaaCodPaceS
import Derived.Test.YtflngiakbhjnaaaCodMath
import Derived.Test.YtflngiakbhjnaaaCodSeeS
namespace Go.Proofs.Ytflngiakbhjnaaa.CodAllS
open Go.RowKit ListKit HoldKit CodKit CodOks CodPaceS CodMath CodSeeS
set_option maxRecDepth 8000
set_option linter.unusedVariables false
set_option linter.unusedSimpArgs false

/-- Waits that are right. -/
def WaitsOk (ws : List Int) : Prop := ∀ (k : Nat) (h : k < ws.length), 0 ≤ ws[k] ∧ ws[k] ≤ 1000000000

set_option maxHeartbeats 4000000 in
theorem all_good (x0 x1 x2 : Int) (x3 : Bool) (x4 x5 now : Int) (a : Option Addr) (cap : Nat) (ws : List Int) (w : World) (ho : Own 3 1 IntKit.cells w a ws) (hm : ws.length ≤ 1048576) (hc : ws.length ≤ cap) (hw : WaitsOk ws) (hok : codOk ⟨x0, x1, x2, x3, x4, x5⟩ = true) (hn : 0 ≤ now ∧ now ≤ 1000000000) :
    Calls Try.prog 18 #[.agg #[.int .i64 x0, .int .i64 x1, .int .i64 x2, .bool x3, .int .i64 x4, .int .i64 x5], .int .i64 now, .slice a ws.length cap] w fun e w' => ∃ (z0 z1 z2 : Int) (z3 : Bool) (z4 z5 : Int), e = .returned (.tuple #[.agg #[.int .i64 z0, .int .i64 z1, .int .i64 z2, .bool z3, .int .i64 z4, .int .i64 z5], .int .i64 ((looks now ⟨x0, x1, x2, x3, x4, x5⟩ ws).2 : Int)]) ∧ (looks now ⟨x0, x1, x2, x3, x4, x5⟩ ws).1 = ⟨z0, z1, z2, z3, z4, z5⟩ ∧ Below w.heap.size w w' := by
  have hC := fun (W : World) => spec_codelok x0 x1 x2 x3 x4 x5 W
  rw [hok] at hC
  have HK : Hid (codOk ⟨x0, x1, x2, x3, x4, x5⟩ = true) := hok
  have HW : Hid (WaitsOk ws) := hw
  have HN : Hid (0 ≤ now ∧ now ≤ 1000000000) := hn
  have p1 : decide (0 ≤ now) = true := by simpa using hn.1
  have p2 : decide (now ≤ 1000000000) = true := by simpa using hn.2
  obtain ⟨LK, hLK⟩ : ∃ LK, looks now ⟨x0, x1, x2, x3, x4, x5⟩ ws = LK := ⟨_, rfl⟩
  have HLK : Hid (looks now ⟨x0, x1, x2, x3, x4, x5⟩ ws = LK) := hLK
  rw [hLK]
  clear hok hw hn hLK
  have H0 : Hid (Bel w ((w.alloc (.cells #[.int .i64 x0, .int .i64 x1, .int .i64 x2, .bool x3, .int .i64 x4, .int .i64 x5] 25)).alloc (.cells #[.int .i64 0, .int .i64 0, .int .i64 0, .bool false, .int .i64 0, .int .i64 0] 25)) ∧ boxB ((w.alloc (.cells #[.int .i64 x0, .int .i64 x1, .int .i64 x2, .bool x3, .int .i64 x4, .int .i64 x5] 25)).alloc (.cells #[.int .i64 0, .int .i64 0, .int .i64 0, .bool false, .int .i64 0, .int .i64 0] 25)) w.heap.size #[.int .i64 x0, .int .i64 x1, .int .i64 x2, .bool x3, .int .i64 x4, .int .i64 x5] 25 ∧ boxB ((w.alloc (.cells #[.int .i64 x0, .int .i64 x1, .int .i64 x2, .bool x3, .int .i64 x4, .int .i64 x5] 25)).alloc (.cells #[.int .i64 0, .int .i64 0, .int .i64 0, .bool false, .int .i64 0, .int .i64 0] 25)) (w.heap.size + 1) #[.int .i64 0, .int .i64 0, .int .i64 0, .bool false, .int .i64 0, .int .i64 0] 25 ∧ Own 3 1 IntKit.cells ((w.alloc (.cells #[.int .i64 x0, .int .i64 x1, .int .i64 x2, .bool x3, .int .i64 x4, .int .i64 x5] 25)).alloc (.cells #[.int .i64 0, .int .i64 0, .int .i64 0, .bool false, .int .i64 0, .int .i64 0] 25)) a ws) := ⟨n2 w _ _, (boxB.new w #[.int .i64 x0, .int .i64 x1, .int .i64 x2, .bool x3, .int .i64 x4, .int .i64 x5] 25).below (n1 _ _), new2 w _ _ _, ho.below (n2 w _ _)⟩
  have hoff : Hid (∀ b, blkL a ws = some b → b < w.heap.size) := ho.lt
  clear ho
  go_enter Try.func18, Try.ntmps18
  go_upto_region 2 with fail
  generalize ((w.alloc (.cells #[.int .i64 x0, .int .i64 x1, .int .i64 x2, .bool x3, .int .i64 x4, .int .i64 x5] 25)).alloc (.cells #[.int .i64 0, .int .i64 0, .int .i64 0, .bool false, .int .i64 0, .int .i64 0] 25)) = v at *
  go_loop [9, 16] (fun _ i => ∃ j : Nat, j ≤ ws.length ∧ i = .int .i64 (j : Int)) (fun _ i => ws.length - (intOf i).toNat)
  case atStart => exact ⟨0, Nat.zero_le _, rfl⟩
  case round =>
    obtain ⟨j, hj, rfl⟩ := hrel
    by_cases hlt : j < ws.length
    · obtain ⟨g, o, rfl, hrow⟩ := H0.out.2.2.2.resolve_left (fun e => by rw [e] at hlt; simp at hlt)
      have r0 : v.cell? ⟨g, o + j, none⟩ = some (.int .i64 ws[j]) := by have := hrow.cell j hlt 0 (by omega); simpa [IntKit.cells] using this
      have h0j : (0 : Int) ≤ (j : Int) := by omega
      have hjl : (j : Int) < (ws.length : Int) := by omega
      have wj : IntKind.i64.wrap ((j : Int) + 1) = ((j + 1 : Nat) : Int) := by rw [IntKind.wrap_i64]; omega
      have q := HW.out j hlt
      have q1 : decide (ws[j] < 0) = false := by simp; omega
      have q2 : decide (1000000000 < ws[j]) = false := by simp; omega
      obtain ⟨u, hu⟩ : ∃ u, ws[j] = u := ⟨_, rfl⟩
      rw [hu] at r0 q1 q2
      clear q hu hrow hm hc
      go_wp2
      go_round
      case rel => exact ⟨j + 1, by omega, by go_num⟩
      case measure => simp [intOf]; omega
    · have hjl : ¬ (j : Int) < (ws.length : Int) := by omega
      clear hlt hj
      have ca0 := H0.out.2.2.1.cell 0
      have cz0 := fzB H0.out.2.2.1 0
      have da0 := H0.out.2.1.cell 0
      have df0 := fzB H0.out.2.1 0
      have ca1 := H0.out.2.2.1.cell 1
      have cz1 := fzB H0.out.2.2.1 1
      have da1 := H0.out.2.1.cell 1
      have df1 := fzB H0.out.2.1 1
      have ca2 := H0.out.2.2.1.cell 2
      have cz2 := fzB H0.out.2.2.1 2
      have da2 := H0.out.2.1.cell 2
      have df2 := fzB H0.out.2.1 2
      have ca3 := H0.out.2.2.1.cell 3
      have cz3 := fzB H0.out.2.2.1 3
      have da3 := H0.out.2.1.cell 3
      have df3 := fzB H0.out.2.1 3
      have ca4 := H0.out.2.2.1.cell 4
      have cz4 := fzB H0.out.2.2.1 4
      have da4 := H0.out.2.1.cell 4
      have df4 := fzB H0.out.2.1 4
      have ca5 := H0.out.2.2.1.cell 5
      have cz5 := fzB H0.out.2.2.1 5
      have da5 := H0.out.2.1.cell 5
      have df5 := fzB H0.out.2.1 5
      go_wp2_with (first | (go_at_call 8; refine (hC _).mono ?_; rintro e' w1 ⟨rfl, hb⟩; have H1 : Hid (Bel w w1 ∧ boxB w1 w.heap.size #[.int .i64 x0, .int .i64 x1, .int .i64 x2, .bool x3, .int .i64 x4, .int .i64 x5] 25 ∧ boxB w1 (w.heap.size + 1) #[.int .i64 0, .int .i64 0, .int .i64 0, .bool false, .int .i64 0, .int .i64 0] 25 ∧ Own 3 1 IntKit.cells w1 a ws) := ⟨Bel.below H0.out.1 hb, H0.out.2.1.below hb, H0.out.2.2.1.below hb, H0.out.2.2.2.below hb⟩; clear hb hC H0 ca0 cz0 da0 df0 ca1 cz1 da1 df1 ca2 cz2 da2 df2 ca3 cz3 da3 df3 ca4 cz4 da4 df4 ca5 cz5 da5 df5) | (go_at_call 23; go_in))
      go_loopw [10, 11, 12, 13] (fun i _ _ _ wr => ∃ (k : Nat) (y0 y1 y2 : Int) (y3 : Bool) (y4 y5 : Int), k ≤ ws.length ∧ i = .int .i64 (k : Int) ∧ Hid (codOk ⟨y0, y1, y2, y3, y4, y5⟩ = true ∧ looks now ⟨x0, x1, x2, x3, x4, x5⟩ ws = ((looks now ⟨y0, y1, y2, y3, y4, y5⟩ (ws.drop k)).1, k + (looks now ⟨y0, y1, y2, y3, y4, y5⟩ (ws.drop k)).2)) ∧ Hid (Bel w wr ∧ boxB wr w.heap.size #[.int .i64 y0, .int .i64 y1, .int .i64 y2, .bool y3, .int .i64 y4, .int .i64 y5] 25 ∧ boxB wr (w.heap.size + 1) #[.int .i64 0, .int .i64 0, .int .i64 0, .bool false, .int .i64 0, .int .i64 0] 25 ∧ Own 3 1 IntKit.cells wr a ws)) (fun i _ _ _ _ => ws.length - (intOf i).toNat)
      case atStart => exact ⟨0, x0, x1, x2, x3, x4, x5, Nat.zero_le _, rfl, ⟨HK.out, by simp⟩, H1⟩
      case round =>
        clear H1
        obtain ⟨k, y0, y1, y2, y3, y4, y5, hk, rfl, HS, HR⟩ := hrel
        have wk : k < ws.length → IntKind.i64.wrap ((k : Int) + 1) = ((k + 1 : Nat) : Int) := fun h => by rw [IntKind.wrap_i64]; omega
        have ca0 := HR.out.2.2.1.cell 0
        have cz0 := fzB HR.out.2.2.1 0
        have da0 := HR.out.2.1.cell 0
        have df0 := fzB HR.out.2.1 0
        have ca1 := HR.out.2.2.1.cell 1
        have cz1 := fzB HR.out.2.2.1 1
        have da1 := HR.out.2.1.cell 1
        have df1 := fzB HR.out.2.1 1
        have ca2 := HR.out.2.2.1.cell 2
        have cz2 := fzB HR.out.2.2.1 2
        have da2 := HR.out.2.1.cell 2
        have df2 := fzB HR.out.2.1 2
        have ca3 := HR.out.2.2.1.cell 3
        have cz3 := fzB HR.out.2.2.1 3
        have da3 := HR.out.2.1.cell 3
        have df3 := fzB HR.out.2.1 3
        have ca4 := HR.out.2.2.1.cell 4
        have cz4 := fzB HR.out.2.2.1 4
        have da4 := HR.out.2.1.cell 4
        have df4 := fzB HR.out.2.1 4
        have ca5 := HR.out.2.2.1.cell 5
        have cz5 := fzB HR.out.2.2.1 5
        have da5 := HR.out.2.1.cell 5
        have df5 := fzB HR.out.2.1 5
        by_cases hlt : k < ws.length
        · obtain ⟨g, o, rfl, hrow⟩ := HR.out.2.2.2.resolve_left (fun e => by rw [e] at hlt; simp at hlt)
          have r0 : wr.cell? ⟨g, o + k, none⟩ = some (.int .i64 ws[k]) := by have := hrow.cell k hlt 0 (by omega); simpa [IntKit.cells] using this
          have h0k : (0 : Int) ≤ (k : Int) := by omega
          have hkl : (k : Int) < (ws.length : Int) := by omega
          have wk := wk hlt
          have q := HW.out k hlt
          have HL := looks_drop now ⟨y0, y1, y2, y3, y4, y5⟩ ws k hlt
          obtain ⟨u, hu⟩ : ∃ u, ws[k] = u := ⟨_, rfl⟩
          rw [hu] at r0 q HL
          have e : seeOk ⟨y0, y1, y2, y3, y4, y5⟩ now u = true := by unfold seeOk; rw [HS.out.1, Bool.true_and]; exact decide_eq_true (by have := HN.out; omega)
          have hs := fun (W : World) => spec_see y0 y1 y2 y3 y4 y5 now u W
          rw [e, if_pos rfl, Bool.true_and] at hs
          clear e
          obtain ⟨⟨⟨z0, z1, z2, z3, z4, z5⟩, D⟩, hz⟩ : ∃ z, see ⟨y0, y1, y2, y3, y4, y5⟩ now u = z := ⟨_, rfl⟩
          rw [hz] at hs
          simp only [agg] at hs
          have HZ : Hid (codOk ⟨z0, z1, z2, z3, z4, z5⟩ = true) := by have h9 := see_keeps (s := ⟨y0, y1, y2, y3, y4, y5⟩) (w := u) HS.out.1 HN.out; rw [hz] at h9; exact h9
          rw [hz] at HL
          clear hz hu hrow q
          cases D
          · have H5 : Hid (LK = (⟨z0, z1, z2, z3, z4, z5⟩, k)) := by
              show _ = _
              rw [← HLK.out, HS.out.2, HL]
              simp
            clear HL
            go_upto_region 14 with (go_at_call 16; refine (hs _).mono ?_; rintro e' w2 ⟨rfl, hb⟩; have H2 : Hid (Bel w w2 ∧ boxB w2 w.heap.size #[.int .i64 y0, .int .i64 y1, .int .i64 y2, .bool y3, .int .i64 y4, .int .i64 y5] 25 ∧ boxB w2 (w.heap.size + 1) #[.int .i64 0, .int .i64 0, .int .i64 0, .bool false, .int .i64 0, .int .i64 0] 25 ∧ Own 3 1 IntKit.cells w2 (some ⟨g, o, none⟩) ws) := ⟨Bel.below HR.out.1 hb, HR.out.2.1.below hb, HR.out.2.2.1.below hb, HR.out.2.2.2.below hb⟩; clear hb hs ca0 cz0 da0 df0 ca1 cz1 da1 df1 ca2 cz2 da2 df2 ca3 cz3 da3 df3 ca4 cz4 da4 df4 ca5 cz5 da5 df5 HR)
            have H3 : Hid ((Bel w (w2.alloc (.cells #[.int .i64 z0, .int .i64 z1, .int .i64 z2, .bool z3, .int .i64 z4, .int .i64 z5] 25)) ∧ boxB (w2.alloc (.cells #[.int .i64 z0, .int .i64 z1, .int .i64 z2, .bool z3, .int .i64 z4, .int .i64 z5] 25)) w.heap.size #[.int .i64 y0, .int .i64 y1, .int .i64 y2, .bool y3, .int .i64 y4, .int .i64 y5] 25 ∧ boxB (w2.alloc (.cells #[.int .i64 z0, .int .i64 z1, .int .i64 z2, .bool z3, .int .i64 z4, .int .i64 z5] 25)) (w.heap.size + 1) #[.int .i64 0, .int .i64 0, .int .i64 0, .bool false, .int .i64 0, .int .i64 0] 25 ∧ Own 3 1 IntKit.cells (w2.alloc (.cells #[.int .i64 z0, .int .i64 z1, .int .i64 z2, .bool z3, .int .i64 z4, .int .i64 z5] 25)) (some ⟨g, o, none⟩) ws) ∧ boxB (w2.alloc (.cells #[.int .i64 z0, .int .i64 z1, .int .i64 z2, .bool z3, .int .i64 z4, .int .i64 z5] 25)) w2.heap.size #[.int .i64 z0, .int .i64 z1, .int .i64 z2, .bool z3, .int .i64 z4, .int .i64 z5] 25) := ⟨⟨Bel.below H2.out.1 (n1 w2 _), H2.out.2.1.below (n1 w2 _), H2.out.2.2.1.below (n1 w2 _), H2.out.2.2.2.below (n1 w2 _)⟩, boxB.new _ _ _⟩
            clear H2
            obtain ⟨m, hm2⟩ : ∃ m, w2.heap.size = m := ⟨_, rfl⟩
            generalize (w2.alloc (.cells #[.int .i64 z0, .int .i64 z1, .int .i64 z2, .bool z3, .int .i64 z4, .int .i64 z5] 25)) = w3 at *
            rw [hm2] at H3 ⊢
            clear hm2
            have ea0 := H3.out.2.cell 0
            have da0 := H3.out.1.2.1.cell 0
            have df0 := fzB H3.out.1.2.1 0
            have ea1 := H3.out.2.cell 1
            have da1 := H3.out.1.2.1.cell 1
            have df1 := fzB H3.out.1.2.1 1
            have ea2 := H3.out.2.cell 2
            have da2 := H3.out.1.2.1.cell 2
            have df2 := fzB H3.out.1.2.1 2
            have ea3 := H3.out.2.cell 3
            have da3 := H3.out.1.2.1.cell 3
            have df3 := fzB H3.out.1.2.1 3
            have ea4 := H3.out.2.cell 4
            have da4 := H3.out.1.2.1.cell 4
            have df4 := fzB H3.out.1.2.1 4
            have ea5 := H3.out.2.cell 5
            have da5 := H3.out.1.2.1.cell 5
            have df5 := fzB H3.out.1.2.1 5
            go_upto_region 15 with fail
            have H4 : Hid (Bel w ((((((w3.setCell ⟨w.heap.size, 0, none⟩ (.int .i64 z0)).setCell ⟨w.heap.size, 1, none⟩ (.int .i64 z1)).setCell ⟨w.heap.size, 2, none⟩ (.int .i64 z2)).setCell ⟨w.heap.size, 3, none⟩ (.bool z3)).setCell ⟨w.heap.size, 4, none⟩ (.int .i64 z4)).setCell ⟨w.heap.size, 5, none⟩ (.int .i64 z5)) ∧ boxB ((((((w3.setCell ⟨w.heap.size, 0, none⟩ (.int .i64 z0)).setCell ⟨w.heap.size, 1, none⟩ (.int .i64 z1)).setCell ⟨w.heap.size, 2, none⟩ (.int .i64 z2)).setCell ⟨w.heap.size, 3, none⟩ (.bool z3)).setCell ⟨w.heap.size, 4, none⟩ (.int .i64 z4)).setCell ⟨w.heap.size, 5, none⟩ (.int .i64 z5)) w.heap.size #[.int .i64 z0, .int .i64 z1, .int .i64 z2, .bool z3, .int .i64 z4, .int .i64 z5] 25 ∧ boxB ((((((w3.setCell ⟨w.heap.size, 0, none⟩ (.int .i64 z0)).setCell ⟨w.heap.size, 1, none⟩ (.int .i64 z1)).setCell ⟨w.heap.size, 2, none⟩ (.int .i64 z2)).setCell ⟨w.heap.size, 3, none⟩ (.bool z3)).setCell ⟨w.heap.size, 4, none⟩ (.int .i64 z4)).setCell ⟨w.heap.size, 5, none⟩ (.int .i64 z5)) (w.heap.size + 1) #[.int .i64 0, .int .i64 0, .int .i64 0, .bool false, .int .i64 0, .int .i64 0] 25 ∧ Own 3 1 IntKit.cells ((((((w3.setCell ⟨w.heap.size, 0, none⟩ (.int .i64 z0)).setCell ⟨w.heap.size, 1, none⟩ (.int .i64 z1)).setCell ⟨w.heap.size, 2, none⟩ (.int .i64 z2)).setCell ⟨w.heap.size, 3, none⟩ (.bool z3)).setCell ⟨w.heap.size, 4, none⟩ (.int .i64 z4)).setCell ⟨w.heap.size, 5, none⟩ (.int .i64 z5)) (some ⟨g, o, none⟩) ws) := ⟨(Below.setCell (Below.setCell (Below.setCell (Below.setCell (Below.setCell (Below.setCell H3.out.1.1.out (by exact Nat.le_refl _) _) (by exact Nat.le_refl _) _) (by exact Nat.le_refl _) _) (by exact Nat.le_refl _) _) (by exact Nat.le_refl _) _) (by exact Nat.le_refl _) _), ((((((H3.out.1.2.1.set 0 _).set 1 _).set 2 _).set 3 _).set 4 _).set 5 _), ((((((H3.out.1.2.2.1.else (by show w.heap.size + 1 ≠ w.heap.size; omega) _).else (by show w.heap.size + 1 ≠ w.heap.size; omega) _).else (by show w.heap.size + 1 ≠ w.heap.size; omega) _).else (by show w.heap.size + 1 ≠ w.heap.size; omega) _).else (by show w.heap.size + 1 ≠ w.heap.size; omega) _).else (by show w.heap.size + 1 ≠ w.heap.size; omega) _), (Own.set (Own.set (Own.set (Own.set (Own.set (Own.set H3.out.1.2.2.2 (fun b hb e => by have h9 := hoff.out b hb; have h8 : b = w.heap.size := e; omega) _) (fun b hb e => by have h9 := hoff.out b hb; have h8 : b = w.heap.size := e; omega) _) (fun b hb e => by have h9 := hoff.out b hb; have h8 : b = w.heap.size := e; omega) _) (fun b hb e => by have h9 := hoff.out b hb; have h8 : b = w.heap.size := e; omega) _) (fun b hb e => by have h9 := hoff.out b hb; have h8 : b = w.heap.size := e; omega) _) (fun b hb e => by have h9 := hoff.out b hb; have h8 : b = w.heap.size := e; omega) _)⟩
            clear ea0 da0 df0 ea1 da1 df1 ea2 da2 df2 ea3 da3 df3 ea4 da4 df4 ea5 da5 df5 H3
            generalize ((((((w3.setCell ⟨w.heap.size, 0, none⟩ (.int .i64 z0)).setCell ⟨w.heap.size, 1, none⟩ (.int .i64 z1)).setCell ⟨w.heap.size, 2, none⟩ (.int .i64 z2)).setCell ⟨w.heap.size, 3, none⟩ (.bool z3)).setCell ⟨w.heap.size, 4, none⟩ (.int .i64 z4)).setCell ⟨w.heap.size, 5, none⟩ (.int .i64 z5)) = w4 at *
            have ca0 := H4.out.2.2.1.cell 0
            have cz0 := fzB H4.out.2.2.1 0
            have da0 := H4.out.2.1.cell 0
            have df0 := fzB H4.out.2.1 0
            have ca1 := H4.out.2.2.1.cell 1
            have cz1 := fzB H4.out.2.2.1 1
            have da1 := H4.out.2.1.cell 1
            have df1 := fzB H4.out.2.1 1
            have ca2 := H4.out.2.2.1.cell 2
            have cz2 := fzB H4.out.2.2.1 2
            have da2 := H4.out.2.1.cell 2
            have df2 := fzB H4.out.2.1 2
            have ca3 := H4.out.2.2.1.cell 3
            have cz3 := fzB H4.out.2.2.1 3
            have da3 := H4.out.2.1.cell 3
            have df3 := fzB H4.out.2.1 3
            have ca4 := H4.out.2.2.1.cell 4
            have cz4 := fzB H4.out.2.2.1 4
            have da4 := H4.out.2.1.cell 4
            have df4 := fzB H4.out.2.1 4
            have ca5 := H4.out.2.2.1.cell 5
            have cz5 := fzB H4.out.2.2.1 5
            have da5 := H4.out.2.1.cell 5
            have df5 := fzB H4.out.2.1 5
            go_wp2
            exact bodyPost_ret (v := .tuple #[.agg #[.int .i64 z0, .int .i64 z1, .int .i64 z2, .bool z3, .int .i64 z4, .int .i64 z5], .int .i64 (k : Int)]) (by simp [results, Try.results18, go_sem, ca0, cz0, da0, df0, ca1, cz1, da1, df1, ca2, cz2, da2, df2, ca3, cz3, da3, df3, ca4, cz4, da4, df4, ca5, cz5, da5, df5]) rfl ⟨z0, z1, z2, z3, z4, z5, by rw [H5.out], by rw [H5.out], (Below.setCell (Below.setCell (Below.setCell (Below.setCell (Below.setCell (Below.setCell H4.out.1.out (by first | exact Nat.le_refl _ | exact Nat.le_succ _) _) (by first | exact Nat.le_refl _ | exact Nat.le_succ _) _) (by first | exact Nat.le_refl _ | exact Nat.le_succ _) _) (by first | exact Nat.le_refl _ | exact Nat.le_succ _) _) (by first | exact Nat.le_refl _ | exact Nat.le_succ _) _) (by first | exact Nat.le_refl _ | exact Nat.le_succ _) _)⟩
          · have H5 : Hid (looks now ⟨x0, x1, x2, x3, x4, x5⟩ ws = ((looks now ⟨z0, z1, z2, z3, z4, z5⟩ (ws.drop (k + 1))).1, k + 1 + (looks now ⟨z0, z1, z2, z3, z4, z5⟩ (ws.drop (k + 1))).2)) := by
              show _ = _
              rw [HS.out.2, HL]
              simp
              omega
            clear HL
            go_upto_region 14 with (go_at_call 16; refine (hs _).mono ?_; rintro e' w2 ⟨rfl, hb⟩; have H2 : Hid (Bel w w2 ∧ boxB w2 w.heap.size #[.int .i64 y0, .int .i64 y1, .int .i64 y2, .bool y3, .int .i64 y4, .int .i64 y5] 25 ∧ boxB w2 (w.heap.size + 1) #[.int .i64 0, .int .i64 0, .int .i64 0, .bool false, .int .i64 0, .int .i64 0] 25 ∧ Own 3 1 IntKit.cells w2 (some ⟨g, o, none⟩) ws) := ⟨Bel.below HR.out.1 hb, HR.out.2.1.below hb, HR.out.2.2.1.below hb, HR.out.2.2.2.below hb⟩; clear hb hs ca0 cz0 da0 df0 ca1 cz1 da1 df1 ca2 cz2 da2 df2 ca3 cz3 da3 df3 ca4 cz4 da4 df4 ca5 cz5 da5 df5 HR)
            have H3 : Hid ((Bel w (w2.alloc (.cells #[.int .i64 z0, .int .i64 z1, .int .i64 z2, .bool z3, .int .i64 z4, .int .i64 z5] 25)) ∧ boxB (w2.alloc (.cells #[.int .i64 z0, .int .i64 z1, .int .i64 z2, .bool z3, .int .i64 z4, .int .i64 z5] 25)) w.heap.size #[.int .i64 y0, .int .i64 y1, .int .i64 y2, .bool y3, .int .i64 y4, .int .i64 y5] 25 ∧ boxB (w2.alloc (.cells #[.int .i64 z0, .int .i64 z1, .int .i64 z2, .bool z3, .int .i64 z4, .int .i64 z5] 25)) (w.heap.size + 1) #[.int .i64 0, .int .i64 0, .int .i64 0, .bool false, .int .i64 0, .int .i64 0] 25 ∧ Own 3 1 IntKit.cells (w2.alloc (.cells #[.int .i64 z0, .int .i64 z1, .int .i64 z2, .bool z3, .int .i64 z4, .int .i64 z5] 25)) (some ⟨g, o, none⟩) ws) ∧ boxB (w2.alloc (.cells #[.int .i64 z0, .int .i64 z1, .int .i64 z2, .bool z3, .int .i64 z4, .int .i64 z5] 25)) w2.heap.size #[.int .i64 z0, .int .i64 z1, .int .i64 z2, .bool z3, .int .i64 z4, .int .i64 z5] 25) := ⟨⟨Bel.below H2.out.1 (n1 w2 _), H2.out.2.1.below (n1 w2 _), H2.out.2.2.1.below (n1 w2 _), H2.out.2.2.2.below (n1 w2 _)⟩, boxB.new _ _ _⟩
            clear H2
            obtain ⟨m, hm2⟩ : ∃ m, w2.heap.size = m := ⟨_, rfl⟩
            generalize (w2.alloc (.cells #[.int .i64 z0, .int .i64 z1, .int .i64 z2, .bool z3, .int .i64 z4, .int .i64 z5] 25)) = w3 at *
            rw [hm2] at H3 ⊢
            clear hm2
            have ea0 := H3.out.2.cell 0
            have da0 := H3.out.1.2.1.cell 0
            have df0 := fzB H3.out.1.2.1 0
            have ea1 := H3.out.2.cell 1
            have da1 := H3.out.1.2.1.cell 1
            have df1 := fzB H3.out.1.2.1 1
            have ea2 := H3.out.2.cell 2
            have da2 := H3.out.1.2.1.cell 2
            have df2 := fzB H3.out.1.2.1 2
            have ea3 := H3.out.2.cell 3
            have da3 := H3.out.1.2.1.cell 3
            have df3 := fzB H3.out.1.2.1 3
            have ea4 := H3.out.2.cell 4
            have da4 := H3.out.1.2.1.cell 4
            have df4 := fzB H3.out.1.2.1 4
            have ea5 := H3.out.2.cell 5
            have da5 := H3.out.1.2.1.cell 5
            have df5 := fzB H3.out.1.2.1 5
            go_upto_region 15 with fail
            have H4 : Hid (Bel w ((((((w3.setCell ⟨w.heap.size, 0, none⟩ (.int .i64 z0)).setCell ⟨w.heap.size, 1, none⟩ (.int .i64 z1)).setCell ⟨w.heap.size, 2, none⟩ (.int .i64 z2)).setCell ⟨w.heap.size, 3, none⟩ (.bool z3)).setCell ⟨w.heap.size, 4, none⟩ (.int .i64 z4)).setCell ⟨w.heap.size, 5, none⟩ (.int .i64 z5)) ∧ boxB ((((((w3.setCell ⟨w.heap.size, 0, none⟩ (.int .i64 z0)).setCell ⟨w.heap.size, 1, none⟩ (.int .i64 z1)).setCell ⟨w.heap.size, 2, none⟩ (.int .i64 z2)).setCell ⟨w.heap.size, 3, none⟩ (.bool z3)).setCell ⟨w.heap.size, 4, none⟩ (.int .i64 z4)).setCell ⟨w.heap.size, 5, none⟩ (.int .i64 z5)) w.heap.size #[.int .i64 z0, .int .i64 z1, .int .i64 z2, .bool z3, .int .i64 z4, .int .i64 z5] 25 ∧ boxB ((((((w3.setCell ⟨w.heap.size, 0, none⟩ (.int .i64 z0)).setCell ⟨w.heap.size, 1, none⟩ (.int .i64 z1)).setCell ⟨w.heap.size, 2, none⟩ (.int .i64 z2)).setCell ⟨w.heap.size, 3, none⟩ (.bool z3)).setCell ⟨w.heap.size, 4, none⟩ (.int .i64 z4)).setCell ⟨w.heap.size, 5, none⟩ (.int .i64 z5)) (w.heap.size + 1) #[.int .i64 0, .int .i64 0, .int .i64 0, .bool false, .int .i64 0, .int .i64 0] 25 ∧ Own 3 1 IntKit.cells ((((((w3.setCell ⟨w.heap.size, 0, none⟩ (.int .i64 z0)).setCell ⟨w.heap.size, 1, none⟩ (.int .i64 z1)).setCell ⟨w.heap.size, 2, none⟩ (.int .i64 z2)).setCell ⟨w.heap.size, 3, none⟩ (.bool z3)).setCell ⟨w.heap.size, 4, none⟩ (.int .i64 z4)).setCell ⟨w.heap.size, 5, none⟩ (.int .i64 z5)) (some ⟨g, o, none⟩) ws) := ⟨(Below.setCell (Below.setCell (Below.setCell (Below.setCell (Below.setCell (Below.setCell H3.out.1.1.out (by exact Nat.le_refl _) _) (by exact Nat.le_refl _) _) (by exact Nat.le_refl _) _) (by exact Nat.le_refl _) _) (by exact Nat.le_refl _) _) (by exact Nat.le_refl _) _), ((((((H3.out.1.2.1.set 0 _).set 1 _).set 2 _).set 3 _).set 4 _).set 5 _), ((((((H3.out.1.2.2.1.else (by show w.heap.size + 1 ≠ w.heap.size; omega) _).else (by show w.heap.size + 1 ≠ w.heap.size; omega) _).else (by show w.heap.size + 1 ≠ w.heap.size; omega) _).else (by show w.heap.size + 1 ≠ w.heap.size; omega) _).else (by show w.heap.size + 1 ≠ w.heap.size; omega) _).else (by show w.heap.size + 1 ≠ w.heap.size; omega) _), (Own.set (Own.set (Own.set (Own.set (Own.set (Own.set H3.out.1.2.2.2 (fun b hb e => by have h9 := hoff.out b hb; have h8 : b = w.heap.size := e; omega) _) (fun b hb e => by have h9 := hoff.out b hb; have h8 : b = w.heap.size := e; omega) _) (fun b hb e => by have h9 := hoff.out b hb; have h8 : b = w.heap.size := e; omega) _) (fun b hb e => by have h9 := hoff.out b hb; have h8 : b = w.heap.size := e; omega) _) (fun b hb e => by have h9 := hoff.out b hb; have h8 : b = w.heap.size := e; omega) _) (fun b hb e => by have h9 := hoff.out b hb; have h8 : b = w.heap.size := e; omega) _)⟩
            clear ea0 da0 df0 ea1 da1 df1 ea2 da2 df2 ea3 da3 df3 ea4 da4 df4 ea5 da5 df5 H3
            generalize ((((((w3.setCell ⟨w.heap.size, 0, none⟩ (.int .i64 z0)).setCell ⟨w.heap.size, 1, none⟩ (.int .i64 z1)).setCell ⟨w.heap.size, 2, none⟩ (.int .i64 z2)).setCell ⟨w.heap.size, 3, none⟩ (.bool z3)).setCell ⟨w.heap.size, 4, none⟩ (.int .i64 z4)).setCell ⟨w.heap.size, 5, none⟩ (.int .i64 z5)) = w4 at *
            have ca0 := H4.out.2.2.1.cell 0
            have cz0 := fzB H4.out.2.2.1 0
            have da0 := H4.out.2.1.cell 0
            have df0 := fzB H4.out.2.1 0
            have ca1 := H4.out.2.2.1.cell 1
            have cz1 := fzB H4.out.2.2.1 1
            have da1 := H4.out.2.1.cell 1
            have df1 := fzB H4.out.2.1 1
            have ca2 := H4.out.2.2.1.cell 2
            have cz2 := fzB H4.out.2.2.1 2
            have da2 := H4.out.2.1.cell 2
            have df2 := fzB H4.out.2.1 2
            have ca3 := H4.out.2.2.1.cell 3
            have cz3 := fzB H4.out.2.2.1 3
            have da3 := H4.out.2.1.cell 3
            have df3 := fzB H4.out.2.1 3
            have ca4 := H4.out.2.2.1.cell 4
            have cz4 := fzB H4.out.2.2.1 4
            have da4 := H4.out.2.1.cell 4
            have df4 := fzB H4.out.2.1 4
            have ca5 := H4.out.2.2.1.cell 5
            have cz5 := fzB H4.out.2.2.1 5
            have da5 := H4.out.2.1.cell 5
            have df5 := fzB H4.out.2.1 5
            go_wp2
            go_roundw
            case rel => exact ⟨_, _, _, _, _, _, _, _, _, _, _, _, _, _, _, _, _, _, _, _, _, _, _, _, _, _, _, ⟨k + 1, z0, z1, z2, z3, z4, z5, by omega, by go_num, ⟨HZ.out, H5.out⟩, H4⟩, rfl⟩
            case measure => simp [intOf]; omega
        · have hkl : ¬ (k : Int) < (ws.length : Int) := by omega
          have hkw : k = ws.length := by omega
          have e : seeOk ⟨y0, y1, y2, y3, y4, y5⟩ now (-1) = true := by unfold seeOk; rw [HS.out.1, Bool.true_and]; exact decide_eq_true (by have := HN.out; omega)
          have hs := fun (W : World) => spec_see y0 y1 y2 y3 y4 y5 now (-1) W
          rw [e, if_pos rfl, Bool.true_and] at hs
          clear e
          obtain ⟨⟨⟨z0, z1, z2, z3, z4, z5⟩, D⟩, hz⟩ : ∃ z, see ⟨y0, y1, y2, y3, y4, y5⟩ now (-1) = z := ⟨_, rfl⟩
          rw [hz] at hs
          simp only [agg] at hs
          have HZ : Hid (codOk ⟨z0, z1, z2, z3, z4, z5⟩ = true) := by have h9 := see_keeps (s := ⟨y0, y1, y2, y3, y4, y5⟩) (w := (-1)) HS.out.1 HN.out; rw [hz] at h9; exact h9
          have hD : D = false := by have h9 := see_none ⟨y0, y1, y2, y3, y4, y5⟩ now; rw [hz] at h9; exact h9
          have H5 : Hid (LK = (⟨z0, z1, z2, z3, z4, z5⟩, k)) := by
            show _ = _
            rw [← HLK.out, HS.out.2, hkw, looks_end, hz]
            simp
          subst hD
          clear hz hkw hlt wk
          go_upto_region 14 with (go_at_call 16; refine (hs _).mono ?_; rintro e' w2 ⟨rfl, hb⟩; have H2 : Hid (Bel w w2 ∧ boxB w2 w.heap.size #[.int .i64 y0, .int .i64 y1, .int .i64 y2, .bool y3, .int .i64 y4, .int .i64 y5] 25 ∧ boxB w2 (w.heap.size + 1) #[.int .i64 0, .int .i64 0, .int .i64 0, .bool false, .int .i64 0, .int .i64 0] 25 ∧ Own 3 1 IntKit.cells w2 a ws) := ⟨Bel.below HR.out.1 hb, HR.out.2.1.below hb, HR.out.2.2.1.below hb, HR.out.2.2.2.below hb⟩; clear hb hs ca0 cz0 da0 df0 ca1 cz1 da1 df1 ca2 cz2 da2 df2 ca3 cz3 da3 df3 ca4 cz4 da4 df4 ca5 cz5 da5 df5 HR)
          have H3 : Hid ((Bel w (w2.alloc (.cells #[.int .i64 z0, .int .i64 z1, .int .i64 z2, .bool z3, .int .i64 z4, .int .i64 z5] 25)) ∧ boxB (w2.alloc (.cells #[.int .i64 z0, .int .i64 z1, .int .i64 z2, .bool z3, .int .i64 z4, .int .i64 z5] 25)) w.heap.size #[.int .i64 y0, .int .i64 y1, .int .i64 y2, .bool y3, .int .i64 y4, .int .i64 y5] 25 ∧ boxB (w2.alloc (.cells #[.int .i64 z0, .int .i64 z1, .int .i64 z2, .bool z3, .int .i64 z4, .int .i64 z5] 25)) (w.heap.size + 1) #[.int .i64 0, .int .i64 0, .int .i64 0, .bool false, .int .i64 0, .int .i64 0] 25 ∧ Own 3 1 IntKit.cells (w2.alloc (.cells #[.int .i64 z0, .int .i64 z1, .int .i64 z2, .bool z3, .int .i64 z4, .int .i64 z5] 25)) a ws) ∧ boxB (w2.alloc (.cells #[.int .i64 z0, .int .i64 z1, .int .i64 z2, .bool z3, .int .i64 z4, .int .i64 z5] 25)) w2.heap.size #[.int .i64 z0, .int .i64 z1, .int .i64 z2, .bool z3, .int .i64 z4, .int .i64 z5] 25) := ⟨⟨Bel.below H2.out.1 (n1 w2 _), H2.out.2.1.below (n1 w2 _), H2.out.2.2.1.below (n1 w2 _), H2.out.2.2.2.below (n1 w2 _)⟩, boxB.new _ _ _⟩
          clear H2
          obtain ⟨m, hm2⟩ : ∃ m, w2.heap.size = m := ⟨_, rfl⟩
          generalize (w2.alloc (.cells #[.int .i64 z0, .int .i64 z1, .int .i64 z2, .bool z3, .int .i64 z4, .int .i64 z5] 25)) = w3 at *
          rw [hm2] at H3 ⊢
          clear hm2
          have ea0 := H3.out.2.cell 0
          have da0 := H3.out.1.2.1.cell 0
          have df0 := fzB H3.out.1.2.1 0
          have ea1 := H3.out.2.cell 1
          have da1 := H3.out.1.2.1.cell 1
          have df1 := fzB H3.out.1.2.1 1
          have ea2 := H3.out.2.cell 2
          have da2 := H3.out.1.2.1.cell 2
          have df2 := fzB H3.out.1.2.1 2
          have ea3 := H3.out.2.cell 3
          have da3 := H3.out.1.2.1.cell 3
          have df3 := fzB H3.out.1.2.1 3
          have ea4 := H3.out.2.cell 4
          have da4 := H3.out.1.2.1.cell 4
          have df4 := fzB H3.out.1.2.1 4
          have ea5 := H3.out.2.cell 5
          have da5 := H3.out.1.2.1.cell 5
          have df5 := fzB H3.out.1.2.1 5
          go_upto_region 15 with fail
          have H4 : Hid (Bel w ((((((w3.setCell ⟨w.heap.size, 0, none⟩ (.int .i64 z0)).setCell ⟨w.heap.size, 1, none⟩ (.int .i64 z1)).setCell ⟨w.heap.size, 2, none⟩ (.int .i64 z2)).setCell ⟨w.heap.size, 3, none⟩ (.bool z3)).setCell ⟨w.heap.size, 4, none⟩ (.int .i64 z4)).setCell ⟨w.heap.size, 5, none⟩ (.int .i64 z5)) ∧ boxB ((((((w3.setCell ⟨w.heap.size, 0, none⟩ (.int .i64 z0)).setCell ⟨w.heap.size, 1, none⟩ (.int .i64 z1)).setCell ⟨w.heap.size, 2, none⟩ (.int .i64 z2)).setCell ⟨w.heap.size, 3, none⟩ (.bool z3)).setCell ⟨w.heap.size, 4, none⟩ (.int .i64 z4)).setCell ⟨w.heap.size, 5, none⟩ (.int .i64 z5)) w.heap.size #[.int .i64 z0, .int .i64 z1, .int .i64 z2, .bool z3, .int .i64 z4, .int .i64 z5] 25 ∧ boxB ((((((w3.setCell ⟨w.heap.size, 0, none⟩ (.int .i64 z0)).setCell ⟨w.heap.size, 1, none⟩ (.int .i64 z1)).setCell ⟨w.heap.size, 2, none⟩ (.int .i64 z2)).setCell ⟨w.heap.size, 3, none⟩ (.bool z3)).setCell ⟨w.heap.size, 4, none⟩ (.int .i64 z4)).setCell ⟨w.heap.size, 5, none⟩ (.int .i64 z5)) (w.heap.size + 1) #[.int .i64 0, .int .i64 0, .int .i64 0, .bool false, .int .i64 0, .int .i64 0] 25 ∧ Own 3 1 IntKit.cells ((((((w3.setCell ⟨w.heap.size, 0, none⟩ (.int .i64 z0)).setCell ⟨w.heap.size, 1, none⟩ (.int .i64 z1)).setCell ⟨w.heap.size, 2, none⟩ (.int .i64 z2)).setCell ⟨w.heap.size, 3, none⟩ (.bool z3)).setCell ⟨w.heap.size, 4, none⟩ (.int .i64 z4)).setCell ⟨w.heap.size, 5, none⟩ (.int .i64 z5)) a ws) := ⟨(Below.setCell (Below.setCell (Below.setCell (Below.setCell (Below.setCell (Below.setCell H3.out.1.1.out (by exact Nat.le_refl _) _) (by exact Nat.le_refl _) _) (by exact Nat.le_refl _) _) (by exact Nat.le_refl _) _) (by exact Nat.le_refl _) _) (by exact Nat.le_refl _) _), ((((((H3.out.1.2.1.set 0 _).set 1 _).set 2 _).set 3 _).set 4 _).set 5 _), ((((((H3.out.1.2.2.1.else (by show w.heap.size + 1 ≠ w.heap.size; omega) _).else (by show w.heap.size + 1 ≠ w.heap.size; omega) _).else (by show w.heap.size + 1 ≠ w.heap.size; omega) _).else (by show w.heap.size + 1 ≠ w.heap.size; omega) _).else (by show w.heap.size + 1 ≠ w.heap.size; omega) _).else (by show w.heap.size + 1 ≠ w.heap.size; omega) _), (Own.set (Own.set (Own.set (Own.set (Own.set (Own.set H3.out.1.2.2.2 (fun b hb e => by have h9 := hoff.out b hb; have h8 : b = w.heap.size := e; omega) _) (fun b hb e => by have h9 := hoff.out b hb; have h8 : b = w.heap.size := e; omega) _) (fun b hb e => by have h9 := hoff.out b hb; have h8 : b = w.heap.size := e; omega) _) (fun b hb e => by have h9 := hoff.out b hb; have h8 : b = w.heap.size := e; omega) _) (fun b hb e => by have h9 := hoff.out b hb; have h8 : b = w.heap.size := e; omega) _) (fun b hb e => by have h9 := hoff.out b hb; have h8 : b = w.heap.size := e; omega) _)⟩
          clear ea0 da0 df0 ea1 da1 df1 ea2 da2 df2 ea3 da3 df3 ea4 da4 df4 ea5 da5 df5 H3
          generalize ((((((w3.setCell ⟨w.heap.size, 0, none⟩ (.int .i64 z0)).setCell ⟨w.heap.size, 1, none⟩ (.int .i64 z1)).setCell ⟨w.heap.size, 2, none⟩ (.int .i64 z2)).setCell ⟨w.heap.size, 3, none⟩ (.bool z3)).setCell ⟨w.heap.size, 4, none⟩ (.int .i64 z4)).setCell ⟨w.heap.size, 5, none⟩ (.int .i64 z5)) = w4 at *
          have ca0 := H4.out.2.2.1.cell 0
          have cz0 := fzB H4.out.2.2.1 0
          have da0 := H4.out.2.1.cell 0
          have df0 := fzB H4.out.2.1 0
          have ca1 := H4.out.2.2.1.cell 1
          have cz1 := fzB H4.out.2.2.1 1
          have da1 := H4.out.2.1.cell 1
          have df1 := fzB H4.out.2.1 1
          have ca2 := H4.out.2.2.1.cell 2
          have cz2 := fzB H4.out.2.2.1 2
          have da2 := H4.out.2.1.cell 2
          have df2 := fzB H4.out.2.1 2
          have ca3 := H4.out.2.2.1.cell 3
          have cz3 := fzB H4.out.2.2.1 3
          have da3 := H4.out.2.1.cell 3
          have df3 := fzB H4.out.2.1 3
          have ca4 := H4.out.2.2.1.cell 4
          have cz4 := fzB H4.out.2.2.1 4
          have da4 := H4.out.2.1.cell 4
          have df4 := fzB H4.out.2.1 4
          have ca5 := H4.out.2.2.1.cell 5
          have cz5 := fzB H4.out.2.2.1 5
          have da5 := H4.out.2.1.cell 5
          have df5 := fzB H4.out.2.1 5
          go_wp2
          exact bodyPost_ret (v := .tuple #[.agg #[.int .i64 z0, .int .i64 z1, .int .i64 z2, .bool z3, .int .i64 z4, .int .i64 z5], .int .i64 (k : Int)]) (by simp [results, Try.results18, go_sem, ca0, cz0, da0, df0, ca1, cz1, da1, df1, ca2, cz2, da2, df2, ca3, cz3, da3, df3, ca4, cz4, da4, df4, ca5, cz5, da5, df5]) rfl ⟨z0, z1, z2, z3, z4, z5, by rw [H5.out], by rw [H5.out], (Below.setCell (Below.setCell (Below.setCell (Below.setCell (Below.setCell (Below.setCell H4.out.1.out (by first | exact Nat.le_refl _ | exact Nat.le_succ _) _) (by first | exact Nat.le_refl _ | exact Nat.le_succ _) _) (by first | exact Nat.le_refl _ | exact Nat.le_succ _) _) (by first | exact Nat.le_refl _ | exact Nat.le_succ _) _) (by first | exact Nat.le_refl _ | exact Nat.le_succ _) _) (by first | exact Nat.le_refl _ | exact Nat.le_succ _) _)⟩

set_option maxHeartbeats 4000000 in
theorem all_wrong (x0 x1 x2 : Int) (x3 : Bool) (x4 x5 now : Int) (a : Option Addr) (cap : Nat) (ws : List Int) (w : World) (ho : Own 3 1 IntKit.cells w a ws) (hm : ws.length ≤ 1048576) (hc : ws.length ≤ cap) (hw : ¬ WaitsOk ws) :
    Calls Try.prog 18 #[.agg #[.int .i64 x0, .int .i64 x1, .int .i64 x2, .bool x3, .int .i64 x4, .int .i64 x5], .int .i64 now, .slice a ws.length cap] w fun e w' => e = .returned (.tuple #[.agg #[.int .i64 0, .int .i64 0, .int .i64 0, .bool false, .int .i64 0, .int .i64 0], .int .i64 0]) ∧ Below w.heap.size w w' := by
  have HW : Hid (¬ WaitsOk ws) := hw
  clear hw
  have H0 : Hid (Bel w ((w.alloc (.cells #[.int .i64 x0, .int .i64 x1, .int .i64 x2, .bool x3, .int .i64 x4, .int .i64 x5] 25)).alloc (.cells #[.int .i64 0, .int .i64 0, .int .i64 0, .bool false, .int .i64 0, .int .i64 0] 25)) ∧ boxB ((w.alloc (.cells #[.int .i64 x0, .int .i64 x1, .int .i64 x2, .bool x3, .int .i64 x4, .int .i64 x5] 25)).alloc (.cells #[.int .i64 0, .int .i64 0, .int .i64 0, .bool false, .int .i64 0, .int .i64 0] 25)) w.heap.size #[.int .i64 x0, .int .i64 x1, .int .i64 x2, .bool x3, .int .i64 x4, .int .i64 x5] 25 ∧ boxB ((w.alloc (.cells #[.int .i64 x0, .int .i64 x1, .int .i64 x2, .bool x3, .int .i64 x4, .int .i64 x5] 25)).alloc (.cells #[.int .i64 0, .int .i64 0, .int .i64 0, .bool false, .int .i64 0, .int .i64 0] 25)) (w.heap.size + 1) #[.int .i64 0, .int .i64 0, .int .i64 0, .bool false, .int .i64 0, .int .i64 0] 25 ∧ Own 3 1 IntKit.cells ((w.alloc (.cells #[.int .i64 x0, .int .i64 x1, .int .i64 x2, .bool x3, .int .i64 x4, .int .i64 x5] 25)).alloc (.cells #[.int .i64 0, .int .i64 0, .int .i64 0, .bool false, .int .i64 0, .int .i64 0] 25)) a ws) := ⟨n2 w _ _, (boxB.new w #[.int .i64 x0, .int .i64 x1, .int .i64 x2, .bool x3, .int .i64 x4, .int .i64 x5] 25).below (n1 _ _), new2 w _ _ _, ho.below (n2 w _ _)⟩
  have hoff : Hid (∀ b, blkL a ws = some b → b < w.heap.size) := ho.lt
  clear ho
  go_enter Try.func18, Try.ntmps18
  go_upto_region 2 with fail
  generalize ((w.alloc (.cells #[.int .i64 x0, .int .i64 x1, .int .i64 x2, .bool x3, .int .i64 x4, .int .i64 x5] 25)).alloc (.cells #[.int .i64 0, .int .i64 0, .int .i64 0, .bool false, .int .i64 0, .int .i64 0] 25)) = v at *
  have HB : Hid (Below w.heap.size w v) := H0.out.1.out
  go_loop [9, 16] (fun _ i => ∃ j : Nat, j ≤ ws.length ∧ i = .int .i64 (j : Int) ∧ Hid (∀ (k : Nat) (h : k < ws.length), k < j → 0 ≤ ws[k] ∧ ws[k] ≤ 1000000000)) (fun _ i => ws.length - (intOf i).toNat)
  case atStart => exact ⟨0, Nat.zero_le _, rfl, fun k h h0 => by omega⟩
  case round =>
    obtain ⟨j, hj, rfl, HJ⟩ := hrel
    by_cases hlt : j < ws.length
    · obtain ⟨g, o, rfl, hrow⟩ := H0.out.2.2.2.resolve_left (fun e => by rw [e] at hlt; simp at hlt)
      have r0 : v.cell? ⟨g, o + j, none⟩ = some (.int .i64 ws[j]) := by have := hrow.cell j hlt 0 (by omega); simpa [IntKit.cells] using this
      have h0j : (0 : Int) ≤ (j : Int) := by omega
      have hjl : (j : Int) < (ws.length : Int) := by omega
      have wj : IntKind.i64.wrap ((j : Int) + 1) = ((j + 1 : Nat) : Int) := by rw [IntKind.wrap_i64]; omega
      obtain ⟨u, hu⟩ : ∃ u, ws[j] = u := ⟨_, rfl⟩
      rw [hu] at r0
      have ca0 := H0.out.2.2.1.cell 0
      have cz0 := fzB H0.out.2.2.1 0
      have da0 := H0.out.2.1.cell 0
      have df0 := fzB H0.out.2.1 0
      have ca1 := H0.out.2.2.1.cell 1
      have cz1 := fzB H0.out.2.2.1 1
      have da1 := H0.out.2.1.cell 1
      have df1 := fzB H0.out.2.1 1
      have ca2 := H0.out.2.2.1.cell 2
      have cz2 := fzB H0.out.2.2.1 2
      have da2 := H0.out.2.1.cell 2
      have df2 := fzB H0.out.2.1 2
      have ca3 := H0.out.2.2.1.cell 3
      have cz3 := fzB H0.out.2.2.1 3
      have da3 := H0.out.2.1.cell 3
      have df3 := fzB H0.out.2.1 3
      have ca4 := H0.out.2.2.1.cell 4
      have cz4 := fzB H0.out.2.2.1 4
      have da4 := H0.out.2.1.cell 4
      have df4 := fzB H0.out.2.1 4
      have ca5 := H0.out.2.2.1.cell 5
      have cz5 := fzB H0.out.2.2.1 5
      have da5 := H0.out.2.1.cell 5
      have df5 := fzB H0.out.2.1 5
      by_cases q0 : u < 0
      · have q1 : decide (u < 0) = true := by simpa using q0
        clear hu hrow hm hc hlt hj
        go_wp2
        exact bodyPost_ret (v := .tuple #[.agg #[.int .i64 0, .int .i64 0, .int .i64 0, .bool false, .int .i64 0, .int .i64 0], .int .i64 0]) (by simp [results, Try.results18, go_sem, ca0, cz0, da0, df0, ca1, cz1, da1, df1, ca2, cz2, da2, df2, ca3, cz3, da3, df3, ca4, cz4, da4, df4, ca5, cz5, da5, df5]) rfl ⟨rfl, (Below.setCell (Below.setCell (Below.setCell (Below.setCell (Below.setCell (Below.setCell HB.out (by first | exact Nat.le_refl _ | exact Nat.le_succ _) _) (by first | exact Nat.le_refl _ | exact Nat.le_succ _) _) (by first | exact Nat.le_refl _ | exact Nat.le_succ _) _) (by first | exact Nat.le_refl _ | exact Nat.le_succ _) _) (by first | exact Nat.le_refl _ | exact Nat.le_succ _) _) (by first | exact Nat.le_refl _ | exact Nat.le_succ _) _)⟩
      · have q1 : decide (u < 0) = false := by simpa using q0
        by_cases q3 : 1000000000 < u
        · have q2 : decide (1000000000 < u) = true := by simpa using q3
          clear hu hrow hm hc hlt hj
          go_wp2
          exact bodyPost_ret (v := .tuple #[.agg #[.int .i64 0, .int .i64 0, .int .i64 0, .bool false, .int .i64 0, .int .i64 0], .int .i64 0]) (by simp [results, Try.results18, go_sem, ca0, cz0, da0, df0, ca1, cz1, da1, df1, ca2, cz2, da2, df2, ca3, cz3, da3, df3, ca4, cz4, da4, df4, ca5, cz5, da5, df5]) rfl ⟨rfl, (Below.setCell (Below.setCell (Below.setCell (Below.setCell (Below.setCell (Below.setCell HB.out (by first | exact Nat.le_refl _ | exact Nat.le_succ _) _) (by first | exact Nat.le_refl _ | exact Nat.le_succ _) _) (by first | exact Nat.le_refl _ | exact Nat.le_succ _) _) (by first | exact Nat.le_refl _ | exact Nat.le_succ _) _) (by first | exact Nat.le_refl _ | exact Nat.le_succ _) _) (by first | exact Nat.le_refl _ | exact Nat.le_succ _) _)⟩
        · have q2 : decide (1000000000 < u) = false := by simpa using q3
          have HJ2 : Hid (∀ (k : Nat) (h : k < ws.length), k < j + 1 → 0 ≤ ws[k] ∧ ws[k] ≤ 1000000000) := fun k h h1 => by
            by_cases e : k = j
            · subst e; rw [hu]; omega
            · exact HJ.out k h (by omega)
          clear hu hrow hm hc ca0 cz0 da0 df0 ca1 cz1 da1 df1 ca2 cz2 da2 df2 ca3 cz3 da3 df3 ca4 cz4 da4 df4 ca5 cz5 da5 df5
          go_wp2
          go_round
          case rel => exact ⟨j + 1, by omega, by go_num, HJ2⟩
          case measure => simp [intOf]; omega
    · exact (HW.out (fun k h => HJ.out k h (by omega))).elim

set_option maxHeartbeats 4000000 in
theorem all_bad (x0 x1 x2 : Int) (x3 : Bool) (x4 x5 now : Int) (a : Option Addr) (cap : Nat) (ws : List Int) (w : World) (ho : Own 3 1 IntKit.cells w a ws) (hm : ws.length ≤ 1048576) (hc : ws.length ≤ cap) (hw : WaitsOk ws) (hok : codOk ⟨x0, x1, x2, x3, x4, x5⟩ = false) :
    Calls Try.prog 18 #[.agg #[.int .i64 x0, .int .i64 x1, .int .i64 x2, .bool x3, .int .i64 x4, .int .i64 x5], .int .i64 now, .slice a ws.length cap] w fun e w' => e = .returned (.tuple #[.agg #[.int .i64 0, .int .i64 0, .int .i64 0, .bool false, .int .i64 0, .int .i64 0], .int .i64 0]) ∧ Below w.heap.size w w' := by
  have hC := fun (W : World) => spec_codelok x0 x1 x2 x3 x4 x5 W
  rw [hok] at hC
  have HW : Hid (WaitsOk ws) := hw

  clear hok hw
  have H0 : Hid (Bel w ((w.alloc (.cells #[.int .i64 x0, .int .i64 x1, .int .i64 x2, .bool x3, .int .i64 x4, .int .i64 x5] 25)).alloc (.cells #[.int .i64 0, .int .i64 0, .int .i64 0, .bool false, .int .i64 0, .int .i64 0] 25)) ∧ boxB ((w.alloc (.cells #[.int .i64 x0, .int .i64 x1, .int .i64 x2, .bool x3, .int .i64 x4, .int .i64 x5] 25)).alloc (.cells #[.int .i64 0, .int .i64 0, .int .i64 0, .bool false, .int .i64 0, .int .i64 0] 25)) w.heap.size #[.int .i64 x0, .int .i64 x1, .int .i64 x2, .bool x3, .int .i64 x4, .int .i64 x5] 25 ∧ boxB ((w.alloc (.cells #[.int .i64 x0, .int .i64 x1, .int .i64 x2, .bool x3, .int .i64 x4, .int .i64 x5] 25)).alloc (.cells #[.int .i64 0, .int .i64 0, .int .i64 0, .bool false, .int .i64 0, .int .i64 0] 25)) (w.heap.size + 1) #[.int .i64 0, .int .i64 0, .int .i64 0, .bool false, .int .i64 0, .int .i64 0] 25 ∧ Own 3 1 IntKit.cells ((w.alloc (.cells #[.int .i64 x0, .int .i64 x1, .int .i64 x2, .bool x3, .int .i64 x4, .int .i64 x5] 25)).alloc (.cells #[.int .i64 0, .int .i64 0, .int .i64 0, .bool false, .int .i64 0, .int .i64 0] 25)) a ws) := ⟨n2 w _ _, (boxB.new w #[.int .i64 x0, .int .i64 x1, .int .i64 x2, .bool x3, .int .i64 x4, .int .i64 x5] 25).below (n1 _ _), new2 w _ _ _, ho.below (n2 w _ _)⟩
  have hoff : Hid (∀ b, blkL a ws = some b → b < w.heap.size) := ho.lt
  clear ho
  go_enter Try.func18, Try.ntmps18
  go_upto_region 2 with fail
  generalize ((w.alloc (.cells #[.int .i64 x0, .int .i64 x1, .int .i64 x2, .bool x3, .int .i64 x4, .int .i64 x5] 25)).alloc (.cells #[.int .i64 0, .int .i64 0, .int .i64 0, .bool false, .int .i64 0, .int .i64 0] 25)) = v at *
  go_loop [9, 16] (fun _ i => ∃ j : Nat, j ≤ ws.length ∧ i = .int .i64 (j : Int)) (fun _ i => ws.length - (intOf i).toNat)
  case atStart => exact ⟨0, Nat.zero_le _, rfl⟩
  case round =>
    obtain ⟨j, hj, rfl⟩ := hrel
    by_cases hlt : j < ws.length
    · obtain ⟨g, o, rfl, hrow⟩ := H0.out.2.2.2.resolve_left (fun e => by rw [e] at hlt; simp at hlt)
      have r0 : v.cell? ⟨g, o + j, none⟩ = some (.int .i64 ws[j]) := by have := hrow.cell j hlt 0 (by omega); simpa [IntKit.cells] using this
      have h0j : (0 : Int) ≤ (j : Int) := by omega
      have hjl : (j : Int) < (ws.length : Int) := by omega
      have wj : IntKind.i64.wrap ((j : Int) + 1) = ((j + 1 : Nat) : Int) := by rw [IntKind.wrap_i64]; omega
      have q := HW.out j hlt
      have q1 : decide (ws[j] < 0) = false := by simp; omega
      have q2 : decide (1000000000 < ws[j]) = false := by simp; omega
      obtain ⟨u, hu⟩ : ∃ u, ws[j] = u := ⟨_, rfl⟩
      rw [hu] at r0 q1 q2
      clear q hu hrow hm hc
      go_wp2
      go_round
      case rel => exact ⟨j + 1, by omega, by go_num⟩
      case measure => simp [intOf]; omega
    · have hjl : ¬ (j : Int) < (ws.length : Int) := by omega
      clear hlt hj
      have ca0 := H0.out.2.2.1.cell 0
      have cz0 := fzB H0.out.2.2.1 0
      have da0 := H0.out.2.1.cell 0
      have df0 := fzB H0.out.2.1 0
      have ca1 := H0.out.2.2.1.cell 1
      have cz1 := fzB H0.out.2.2.1 1
      have da1 := H0.out.2.1.cell 1
      have df1 := fzB H0.out.2.1 1
      have ca2 := H0.out.2.2.1.cell 2
      have cz2 := fzB H0.out.2.2.1 2
      have da2 := H0.out.2.1.cell 2
      have df2 := fzB H0.out.2.1 2
      have ca3 := H0.out.2.2.1.cell 3
      have cz3 := fzB H0.out.2.2.1 3
      have da3 := H0.out.2.1.cell 3
      have df3 := fzB H0.out.2.1 3
      have ca4 := H0.out.2.2.1.cell 4
      have cz4 := fzB H0.out.2.2.1 4
      have da4 := H0.out.2.1.cell 4
      have df4 := fzB H0.out.2.1 4
      have ca5 := H0.out.2.2.1.cell 5
      have cz5 := fzB H0.out.2.2.1 5
      have da5 := H0.out.2.1.cell 5
      have df5 := fzB H0.out.2.1 5
      go_wp2_with (first | (go_at_call 8; refine (hC _).mono ?_; rintro e' w1 ⟨rfl, hb⟩; have H1 : Hid (Bel w w1 ∧ boxB w1 w.heap.size #[.int .i64 x0, .int .i64 x1, .int .i64 x2, .bool x3, .int .i64 x4, .int .i64 x5] 25 ∧ boxB w1 (w.heap.size + 1) #[.int .i64 0, .int .i64 0, .int .i64 0, .bool false, .int .i64 0, .int .i64 0] 25 ∧ Own 3 1 IntKit.cells w1 a ws) := ⟨Bel.below H0.out.1 hb, H0.out.2.1.below hb, H0.out.2.2.1.below hb, H0.out.2.2.2.below hb⟩; clear hb hC H0 ca0 cz0 da0 df0 ca1 cz1 da1 df1 ca2 cz2 da2 df2 ca3 cz3 da3 df3 ca4 cz4 da4 df4 ca5 cz5 da5 df5; have ca0 := H1.out.2.2.1.cell 0; have cz0 := fzB H1.out.2.2.1 0; have da0 := H1.out.2.1.cell 0; have df0 := fzB H1.out.2.1 0; have ca1 := H1.out.2.2.1.cell 1; have cz1 := fzB H1.out.2.2.1 1; have da1 := H1.out.2.1.cell 1; have df1 := fzB H1.out.2.1 1; have ca2 := H1.out.2.2.1.cell 2; have cz2 := fzB H1.out.2.2.1 2; have da2 := H1.out.2.1.cell 2; have df2 := fzB H1.out.2.1 2; have ca3 := H1.out.2.2.1.cell 3; have cz3 := fzB H1.out.2.2.1 3; have da3 := H1.out.2.1.cell 3; have df3 := fzB H1.out.2.1 3; have ca4 := H1.out.2.2.1.cell 4; have cz4 := fzB H1.out.2.2.1 4; have da4 := H1.out.2.1.cell 4; have df4 := fzB H1.out.2.1 4; have ca5 := H1.out.2.2.1.cell 5; have cz5 := fzB H1.out.2.2.1 5; have da5 := H1.out.2.1.cell 5; have df5 := fzB H1.out.2.1 5; have HB : Hid (Below w.heap.size w w1) := H1.out.1.out) | (go_at_call 23; go_in))
      exact bodyPost_ret (v := .tuple #[.agg #[.int .i64 0, .int .i64 0, .int .i64 0, .bool false, .int .i64 0, .int .i64 0], .int .i64 0]) (by simp [results, Try.results18, go_sem, ca0, cz0, da0, df0, ca1, cz1, da1, df1, ca2, cz2, da2, df2, ca3, cz3, da3, df3, ca4, cz4, da4, df4, ca5, cz5, da5, df5]) rfl ⟨rfl, (Below.setCell (Below.setCell (Below.setCell (Below.setCell (Below.setCell (Below.setCell HB.out (by first | exact Nat.le_refl _ | exact Nat.le_succ _) _) (by first | exact Nat.le_refl _ | exact Nat.le_succ _) _) (by first | exact Nat.le_refl _ | exact Nat.le_succ _) _) (by first | exact Nat.le_refl _ | exact Nat.le_succ _) _) (by first | exact Nat.le_refl _ | exact Nat.le_succ _) _) (by first | exact Nat.le_refl _ | exact Nat.le_succ _) _)⟩

set_option maxHeartbeats 4000000 in
theorem all_now0 (x0 x1 x2 : Int) (x3 : Bool) (x4 x5 now : Int) (a : Option Addr) (cap : Nat) (ws : List Int) (w : World) (ho : Own 3 1 IntKit.cells w a ws) (hm : ws.length ≤ 1048576) (hc : ws.length ≤ cap) (hw : WaitsOk ws) (hok : codOk ⟨x0, x1, x2, x3, x4, x5⟩ = true) (h : now < 0) :
    Calls Try.prog 18 #[.agg #[.int .i64 x0, .int .i64 x1, .int .i64 x2, .bool x3, .int .i64 x4, .int .i64 x5], .int .i64 now, .slice a ws.length cap] w fun e w' => e = .returned (.tuple #[.agg #[.int .i64 0, .int .i64 0, .int .i64 0, .bool false, .int .i64 0, .int .i64 0], .int .i64 0]) ∧ Below w.heap.size w w' := by
  have hC := fun (W : World) => spec_codelok x0 x1 x2 x3 x4 x5 W
  rw [hok] at hC
  have HW : Hid (WaitsOk ws) := hw
  have p1 : decide (0 ≤ now) = false := by simpa using h
  clear h
  clear hok hw
  have H0 : Hid (Bel w ((w.alloc (.cells #[.int .i64 x0, .int .i64 x1, .int .i64 x2, .bool x3, .int .i64 x4, .int .i64 x5] 25)).alloc (.cells #[.int .i64 0, .int .i64 0, .int .i64 0, .bool false, .int .i64 0, .int .i64 0] 25)) ∧ boxB ((w.alloc (.cells #[.int .i64 x0, .int .i64 x1, .int .i64 x2, .bool x3, .int .i64 x4, .int .i64 x5] 25)).alloc (.cells #[.int .i64 0, .int .i64 0, .int .i64 0, .bool false, .int .i64 0, .int .i64 0] 25)) w.heap.size #[.int .i64 x0, .int .i64 x1, .int .i64 x2, .bool x3, .int .i64 x4, .int .i64 x5] 25 ∧ boxB ((w.alloc (.cells #[.int .i64 x0, .int .i64 x1, .int .i64 x2, .bool x3, .int .i64 x4, .int .i64 x5] 25)).alloc (.cells #[.int .i64 0, .int .i64 0, .int .i64 0, .bool false, .int .i64 0, .int .i64 0] 25)) (w.heap.size + 1) #[.int .i64 0, .int .i64 0, .int .i64 0, .bool false, .int .i64 0, .int .i64 0] 25 ∧ Own 3 1 IntKit.cells ((w.alloc (.cells #[.int .i64 x0, .int .i64 x1, .int .i64 x2, .bool x3, .int .i64 x4, .int .i64 x5] 25)).alloc (.cells #[.int .i64 0, .int .i64 0, .int .i64 0, .bool false, .int .i64 0, .int .i64 0] 25)) a ws) := ⟨n2 w _ _, (boxB.new w #[.int .i64 x0, .int .i64 x1, .int .i64 x2, .bool x3, .int .i64 x4, .int .i64 x5] 25).below (n1 _ _), new2 w _ _ _, ho.below (n2 w _ _)⟩
  have hoff : Hid (∀ b, blkL a ws = some b → b < w.heap.size) := ho.lt
  clear ho
  go_enter Try.func18, Try.ntmps18
  go_upto_region 2 with fail
  generalize ((w.alloc (.cells #[.int .i64 x0, .int .i64 x1, .int .i64 x2, .bool x3, .int .i64 x4, .int .i64 x5] 25)).alloc (.cells #[.int .i64 0, .int .i64 0, .int .i64 0, .bool false, .int .i64 0, .int .i64 0] 25)) = v at *
  go_loop [9, 16] (fun _ i => ∃ j : Nat, j ≤ ws.length ∧ i = .int .i64 (j : Int)) (fun _ i => ws.length - (intOf i).toNat)
  case atStart => exact ⟨0, Nat.zero_le _, rfl⟩
  case round =>
    obtain ⟨j, hj, rfl⟩ := hrel
    by_cases hlt : j < ws.length
    · obtain ⟨g, o, rfl, hrow⟩ := H0.out.2.2.2.resolve_left (fun e => by rw [e] at hlt; simp at hlt)
      have r0 : v.cell? ⟨g, o + j, none⟩ = some (.int .i64 ws[j]) := by have := hrow.cell j hlt 0 (by omega); simpa [IntKit.cells] using this
      have h0j : (0 : Int) ≤ (j : Int) := by omega
      have hjl : (j : Int) < (ws.length : Int) := by omega
      have wj : IntKind.i64.wrap ((j : Int) + 1) = ((j + 1 : Nat) : Int) := by rw [IntKind.wrap_i64]; omega
      have q := HW.out j hlt
      have q1 : decide (ws[j] < 0) = false := by simp; omega
      have q2 : decide (1000000000 < ws[j]) = false := by simp; omega
      obtain ⟨u, hu⟩ : ∃ u, ws[j] = u := ⟨_, rfl⟩
      rw [hu] at r0 q1 q2
      clear q hu hrow hm hc
      go_wp2
      go_round
      case rel => exact ⟨j + 1, by omega, by go_num⟩
      case measure => simp [intOf]; omega
    · have hjl : ¬ (j : Int) < (ws.length : Int) := by omega
      clear hlt hj
      have ca0 := H0.out.2.2.1.cell 0
      have cz0 := fzB H0.out.2.2.1 0
      have da0 := H0.out.2.1.cell 0
      have df0 := fzB H0.out.2.1 0
      have ca1 := H0.out.2.2.1.cell 1
      have cz1 := fzB H0.out.2.2.1 1
      have da1 := H0.out.2.1.cell 1
      have df1 := fzB H0.out.2.1 1
      have ca2 := H0.out.2.2.1.cell 2
      have cz2 := fzB H0.out.2.2.1 2
      have da2 := H0.out.2.1.cell 2
      have df2 := fzB H0.out.2.1 2
      have ca3 := H0.out.2.2.1.cell 3
      have cz3 := fzB H0.out.2.2.1 3
      have da3 := H0.out.2.1.cell 3
      have df3 := fzB H0.out.2.1 3
      have ca4 := H0.out.2.2.1.cell 4
      have cz4 := fzB H0.out.2.2.1 4
      have da4 := H0.out.2.1.cell 4
      have df4 := fzB H0.out.2.1 4
      have ca5 := H0.out.2.2.1.cell 5
      have cz5 := fzB H0.out.2.2.1 5
      have da5 := H0.out.2.1.cell 5
      have df5 := fzB H0.out.2.1 5
      go_wp2_with (first | (go_at_call 8; refine (hC _).mono ?_; rintro e' w1 ⟨rfl, hb⟩; have H1 : Hid (Bel w w1 ∧ boxB w1 w.heap.size #[.int .i64 x0, .int .i64 x1, .int .i64 x2, .bool x3, .int .i64 x4, .int .i64 x5] 25 ∧ boxB w1 (w.heap.size + 1) #[.int .i64 0, .int .i64 0, .int .i64 0, .bool false, .int .i64 0, .int .i64 0] 25 ∧ Own 3 1 IntKit.cells w1 a ws) := ⟨Bel.below H0.out.1 hb, H0.out.2.1.below hb, H0.out.2.2.1.below hb, H0.out.2.2.2.below hb⟩; clear hb hC H0 ca0 cz0 da0 df0 ca1 cz1 da1 df1 ca2 cz2 da2 df2 ca3 cz3 da3 df3 ca4 cz4 da4 df4 ca5 cz5 da5 df5; have ca0 := H1.out.2.2.1.cell 0; have cz0 := fzB H1.out.2.2.1 0; have da0 := H1.out.2.1.cell 0; have df0 := fzB H1.out.2.1 0; have ca1 := H1.out.2.2.1.cell 1; have cz1 := fzB H1.out.2.2.1 1; have da1 := H1.out.2.1.cell 1; have df1 := fzB H1.out.2.1 1; have ca2 := H1.out.2.2.1.cell 2; have cz2 := fzB H1.out.2.2.1 2; have da2 := H1.out.2.1.cell 2; have df2 := fzB H1.out.2.1 2; have ca3 := H1.out.2.2.1.cell 3; have cz3 := fzB H1.out.2.2.1 3; have da3 := H1.out.2.1.cell 3; have df3 := fzB H1.out.2.1 3; have ca4 := H1.out.2.2.1.cell 4; have cz4 := fzB H1.out.2.2.1 4; have da4 := H1.out.2.1.cell 4; have df4 := fzB H1.out.2.1 4; have ca5 := H1.out.2.2.1.cell 5; have cz5 := fzB H1.out.2.2.1 5; have da5 := H1.out.2.1.cell 5; have df5 := fzB H1.out.2.1 5; have HB : Hid (Below w.heap.size w w1) := H1.out.1.out) | (go_at_call 23; go_in))
      exact bodyPost_ret (v := .tuple #[.agg #[.int .i64 0, .int .i64 0, .int .i64 0, .bool false, .int .i64 0, .int .i64 0], .int .i64 0]) (by simp [results, Try.results18, go_sem, ca0, cz0, da0, df0, ca1, cz1, da1, df1, ca2, cz2, da2, df2, ca3, cz3, da3, df3, ca4, cz4, da4, df4, ca5, cz5, da5, df5]) rfl ⟨rfl, (Below.setCell (Below.setCell (Below.setCell (Below.setCell (Below.setCell (Below.setCell HB.out (by first | exact Nat.le_refl _ | exact Nat.le_succ _) _) (by first | exact Nat.le_refl _ | exact Nat.le_succ _) _) (by first | exact Nat.le_refl _ | exact Nat.le_succ _) _) (by first | exact Nat.le_refl _ | exact Nat.le_succ _) _) (by first | exact Nat.le_refl _ | exact Nat.le_succ _) _) (by first | exact Nat.le_refl _ | exact Nat.le_succ _) _)⟩

set_option maxHeartbeats 4000000 in
theorem all_now1 (x0 x1 x2 : Int) (x3 : Bool) (x4 x5 now : Int) (a : Option Addr) (cap : Nat) (ws : List Int) (w : World) (ho : Own 3 1 IntKit.cells w a ws) (hm : ws.length ≤ 1048576) (hc : ws.length ≤ cap) (hw : WaitsOk ws) (hok : codOk ⟨x0, x1, x2, x3, x4, x5⟩ = true) (h : 1000000000 < now) :
    Calls Try.prog 18 #[.agg #[.int .i64 x0, .int .i64 x1, .int .i64 x2, .bool x3, .int .i64 x4, .int .i64 x5], .int .i64 now, .slice a ws.length cap] w fun e w' => e = .returned (.tuple #[.agg #[.int .i64 0, .int .i64 0, .int .i64 0, .bool false, .int .i64 0, .int .i64 0], .int .i64 0]) ∧ Below w.heap.size w w' := by
  have hC := fun (W : World) => spec_codelok x0 x1 x2 x3 x4 x5 W
  rw [hok] at hC
  have HW : Hid (WaitsOk ws) := hw
  have p1 : decide (0 ≤ now) = true := by simp; omega
  have p2 : decide (now ≤ 1000000000) = false := by simpa using h
  clear h
  clear hok hw
  have H0 : Hid (Bel w ((w.alloc (.cells #[.int .i64 x0, .int .i64 x1, .int .i64 x2, .bool x3, .int .i64 x4, .int .i64 x5] 25)).alloc (.cells #[.int .i64 0, .int .i64 0, .int .i64 0, .bool false, .int .i64 0, .int .i64 0] 25)) ∧ boxB ((w.alloc (.cells #[.int .i64 x0, .int .i64 x1, .int .i64 x2, .bool x3, .int .i64 x4, .int .i64 x5] 25)).alloc (.cells #[.int .i64 0, .int .i64 0, .int .i64 0, .bool false, .int .i64 0, .int .i64 0] 25)) w.heap.size #[.int .i64 x0, .int .i64 x1, .int .i64 x2, .bool x3, .int .i64 x4, .int .i64 x5] 25 ∧ boxB ((w.alloc (.cells #[.int .i64 x0, .int .i64 x1, .int .i64 x2, .bool x3, .int .i64 x4, .int .i64 x5] 25)).alloc (.cells #[.int .i64 0, .int .i64 0, .int .i64 0, .bool false, .int .i64 0, .int .i64 0] 25)) (w.heap.size + 1) #[.int .i64 0, .int .i64 0, .int .i64 0, .bool false, .int .i64 0, .int .i64 0] 25 ∧ Own 3 1 IntKit.cells ((w.alloc (.cells #[.int .i64 x0, .int .i64 x1, .int .i64 x2, .bool x3, .int .i64 x4, .int .i64 x5] 25)).alloc (.cells #[.int .i64 0, .int .i64 0, .int .i64 0, .bool false, .int .i64 0, .int .i64 0] 25)) a ws) := ⟨n2 w _ _, (boxB.new w #[.int .i64 x0, .int .i64 x1, .int .i64 x2, .bool x3, .int .i64 x4, .int .i64 x5] 25).below (n1 _ _), new2 w _ _ _, ho.below (n2 w _ _)⟩
  have hoff : Hid (∀ b, blkL a ws = some b → b < w.heap.size) := ho.lt
  clear ho
  go_enter Try.func18, Try.ntmps18
  go_upto_region 2 with fail
  generalize ((w.alloc (.cells #[.int .i64 x0, .int .i64 x1, .int .i64 x2, .bool x3, .int .i64 x4, .int .i64 x5] 25)).alloc (.cells #[.int .i64 0, .int .i64 0, .int .i64 0, .bool false, .int .i64 0, .int .i64 0] 25)) = v at *
  go_loop [9, 16] (fun _ i => ∃ j : Nat, j ≤ ws.length ∧ i = .int .i64 (j : Int)) (fun _ i => ws.length - (intOf i).toNat)
  case atStart => exact ⟨0, Nat.zero_le _, rfl⟩
  case round =>
    obtain ⟨j, hj, rfl⟩ := hrel
    by_cases hlt : j < ws.length
    · obtain ⟨g, o, rfl, hrow⟩ := H0.out.2.2.2.resolve_left (fun e => by rw [e] at hlt; simp at hlt)
      have r0 : v.cell? ⟨g, o + j, none⟩ = some (.int .i64 ws[j]) := by have := hrow.cell j hlt 0 (by omega); simpa [IntKit.cells] using this
      have h0j : (0 : Int) ≤ (j : Int) := by omega
      have hjl : (j : Int) < (ws.length : Int) := by omega
      have wj : IntKind.i64.wrap ((j : Int) + 1) = ((j + 1 : Nat) : Int) := by rw [IntKind.wrap_i64]; omega
      have q := HW.out j hlt
      have q1 : decide (ws[j] < 0) = false := by simp; omega
      have q2 : decide (1000000000 < ws[j]) = false := by simp; omega
      obtain ⟨u, hu⟩ : ∃ u, ws[j] = u := ⟨_, rfl⟩
      rw [hu] at r0 q1 q2
      clear q hu hrow hm hc
      go_wp2
      go_round
      case rel => exact ⟨j + 1, by omega, by go_num⟩
      case measure => simp [intOf]; omega
    · have hjl : ¬ (j : Int) < (ws.length : Int) := by omega
      clear hlt hj
      have ca0 := H0.out.2.2.1.cell 0
      have cz0 := fzB H0.out.2.2.1 0
      have da0 := H0.out.2.1.cell 0
      have df0 := fzB H0.out.2.1 0
      have ca1 := H0.out.2.2.1.cell 1
      have cz1 := fzB H0.out.2.2.1 1
      have da1 := H0.out.2.1.cell 1
      have df1 := fzB H0.out.2.1 1
      have ca2 := H0.out.2.2.1.cell 2
      have cz2 := fzB H0.out.2.2.1 2
      have da2 := H0.out.2.1.cell 2
      have df2 := fzB H0.out.2.1 2
      have ca3 := H0.out.2.2.1.cell 3
      have cz3 := fzB H0.out.2.2.1 3
      have da3 := H0.out.2.1.cell 3
      have df3 := fzB H0.out.2.1 3
      have ca4 := H0.out.2.2.1.cell 4
      have cz4 := fzB H0.out.2.2.1 4
      have da4 := H0.out.2.1.cell 4
      have df4 := fzB H0.out.2.1 4
      have ca5 := H0.out.2.2.1.cell 5
      have cz5 := fzB H0.out.2.2.1 5
      have da5 := H0.out.2.1.cell 5
      have df5 := fzB H0.out.2.1 5
      go_wp2_with (first | (go_at_call 8; refine (hC _).mono ?_; rintro e' w1 ⟨rfl, hb⟩; have H1 : Hid (Bel w w1 ∧ boxB w1 w.heap.size #[.int .i64 x0, .int .i64 x1, .int .i64 x2, .bool x3, .int .i64 x4, .int .i64 x5] 25 ∧ boxB w1 (w.heap.size + 1) #[.int .i64 0, .int .i64 0, .int .i64 0, .bool false, .int .i64 0, .int .i64 0] 25 ∧ Own 3 1 IntKit.cells w1 a ws) := ⟨Bel.below H0.out.1 hb, H0.out.2.1.below hb, H0.out.2.2.1.below hb, H0.out.2.2.2.below hb⟩; clear hb hC H0 ca0 cz0 da0 df0 ca1 cz1 da1 df1 ca2 cz2 da2 df2 ca3 cz3 da3 df3 ca4 cz4 da4 df4 ca5 cz5 da5 df5; have ca0 := H1.out.2.2.1.cell 0; have cz0 := fzB H1.out.2.2.1 0; have da0 := H1.out.2.1.cell 0; have df0 := fzB H1.out.2.1 0; have ca1 := H1.out.2.2.1.cell 1; have cz1 := fzB H1.out.2.2.1 1; have da1 := H1.out.2.1.cell 1; have df1 := fzB H1.out.2.1 1; have ca2 := H1.out.2.2.1.cell 2; have cz2 := fzB H1.out.2.2.1 2; have da2 := H1.out.2.1.cell 2; have df2 := fzB H1.out.2.1 2; have ca3 := H1.out.2.2.1.cell 3; have cz3 := fzB H1.out.2.2.1 3; have da3 := H1.out.2.1.cell 3; have df3 := fzB H1.out.2.1 3; have ca4 := H1.out.2.2.1.cell 4; have cz4 := fzB H1.out.2.2.1 4; have da4 := H1.out.2.1.cell 4; have df4 := fzB H1.out.2.1 4; have ca5 := H1.out.2.2.1.cell 5; have cz5 := fzB H1.out.2.2.1 5; have da5 := H1.out.2.1.cell 5; have df5 := fzB H1.out.2.1 5; have HB : Hid (Below w.heap.size w w1) := H1.out.1.out) | (go_at_call 23; go_in))
      exact bodyPost_ret (v := .tuple #[.agg #[.int .i64 0, .int .i64 0, .int .i64 0, .bool false, .int .i64 0, .int .i64 0], .int .i64 0]) (by simp [results, Try.results18, go_sem, ca0, cz0, da0, df0, ca1, cz1, da1, df1, ca2, cz2, da2, df2, ca3, cz3, da3, df3, ca4, cz4, da4, df4, ca5, cz5, da5, df5]) rfl ⟨rfl, (Below.setCell (Below.setCell (Below.setCell (Below.setCell (Below.setCell (Below.setCell HB.out (by first | exact Nat.le_refl _ | exact Nat.le_succ _) _) (by first | exact Nat.le_refl _ | exact Nat.le_succ _) _) (by first | exact Nat.le_refl _ | exact Nat.le_succ _) _) (by first | exact Nat.le_refl _ | exact Nat.le_succ _) _) (by first | exact Nat.le_refl _ | exact Nat.le_succ _) _) (by first | exact Nat.le_refl _ | exact Nat.le_succ _) _)⟩

/-- All that SeeAll is told is right. -/
def AllOk (s : Cod) (now : Int) (ws : List Int) : Prop := WaitsOk ws ∧ codOk s = true ∧ 0 ≤ now ∧ now ≤ 1000000000
theorem spec_seeall (x0 x1 x2 : Int) (x3 : Bool) (x4 x5 now : Int) (a : Option Addr) (cap : Nat) (ws : List Int) (w : World) (ho : Own 3 1 IntKit.cells w a ws) (hm : ws.length ≤ 1048576) (hc : ws.length ≤ cap) (B : Bool) (hB : B = true ↔ AllOk ⟨x0, x1, x2, x3, x4, x5⟩ now ws) :
    Calls Try.prog 18 #[.agg #[.int .i64 x0, .int .i64 x1, .int .i64 x2, .bool x3, .int .i64 x4, .int .i64 x5], .int .i64 now, .slice a ws.length cap] w fun e w' => ∃ (z0 z1 z2 : Int) (z3 : Bool) (z4 z5 : Int), e = .returned (.tuple #[.agg #[.int .i64 z0, .int .i64 z1, .int .i64 z2, .bool z3, .int .i64 z4, .int .i64 z5], .int .i64 (if B = true then ((looks now ⟨x0, x1, x2, x3, x4, x5⟩ ws).2 : Int) else 0)]) ∧ (if B = true then (looks now ⟨x0, x1, x2, x3, x4, x5⟩ ws).1 else zero) = ⟨z0, z1, z2, z3, z4, z5⟩ ∧ Below w.heap.size w w' := by
  cases B
  · have hno : ¬ AllOk ⟨x0, x1, x2, x3, x4, x5⟩ now ws := fun h => by have := hB.2 h; simp at this
    have key : Calls Try.prog 18 #[.agg #[.int .i64 x0, .int .i64 x1, .int .i64 x2, .bool x3, .int .i64 x4, .int .i64 x5], .int .i64 now, .slice a ws.length cap] w fun e w' => e = .returned (.tuple #[.agg #[.int .i64 0, .int .i64 0, .int .i64 0, .bool false, .int .i64 0, .int .i64 0], .int .i64 0]) ∧ Below w.heap.size w w' := by
      by_cases hw : WaitsOk ws
      · cases hok : codOk ⟨x0, x1, x2, x3, x4, x5⟩
        · exact all_bad x0 x1 x2 x3 x4 x5 now a cap ws w ho hm hc hw hok
        · by_cases h0 : now < 0
          · exact all_now0 x0 x1 x2 x3 x4 x5 now a cap ws w ho hm hc hw hok h0
          · by_cases h1 : 1000000000 < now
            · exact all_now1 x0 x1 x2 x3 x4 x5 now a cap ws w ho hm hc hw hok h1
            · exact (hno ⟨hw, hok, by omega, by omega⟩).elim
      · exact all_wrong x0 x1 x2 x3 x4 x5 now a cap ws w ho hm hc hw
    refine key.mono fun e w' h => ?_
    exact ⟨0, 0, 0, false, 0, 0, by rw [if_neg (by simp)]; exact h.1, by rw [if_neg (by simp)]; rfl, h.2⟩
  · have h := hB.1 rfl
    refine (all_good x0 x1 x2 x3 x4 x5 now a cap ws w ho hm hc h.1 h.2.1 h.2.2).mono fun e w' h => ?_
    obtain ⟨z0, z1, z2, z3, z4, z5, h1, h2, h3⟩ := h
    exact ⟨z0, z1, z2, z3, z4, z5, by rw [if_pos rfl]; exact h1, by rw [if_pos rfl]; exact h2, h3⟩
end Go.Proofs.Ytflngiakbhjnaaa.CodAllS
