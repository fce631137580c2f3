/- What the model's Trim answers at every window of at most 2 to the 20 samples: the young ones, in a list of the call's own, and nothing else turns. -/
import Derived.Test.YtbdkepnjhcdpnaaRows
import Derived.Test.YtbdkepnjhcdpnaaPairWalks
import Derived.Test.YtbdkepnjhcdpnaaWinOk
import Derived.WalkKit
import Derived.WalkSmall
import Derived.BigQuiet
import Derived.Deep.RegionWith
import Derived.Laws.AppendOwn
namespace Go.Proofs.Ytbdkepnjhcdpnaa.TrimWalks
open Go.RowKit PairWalks WinOk

/-- Samples as cells. -/
def flat (L : List (Int × Int)) : List Value := L.flatMap fun p => [.int .i64 p.1, .int .i64 p.2]

/-- Those that are younger than span. -/
def young (span now : Int) (L : List (Int × Int)) : List (Int × Int) := L.filter fun p => decide (now - span < p.1)

/-- The young ones of a right window at a time; else none. -/
def trimmed (span : Int) (L : List (Int × Int)) (now : Int) : List (Int × Int) := @ite _ (winOk span L ∧ 0 ≤ now ∧ now ≤ 1000000000) (@instDecidableAnd _ _ (winOkD span L) inferInstance) (young span now L) []
def trimSpan (span : Int) (L : List (Int × Int)) (now : Int) : Int := @ite _ (winOk span L ∧ 0 ≤ now ∧ now ≤ 1000000000) (@instDecidableAnd _ _ (winOkD span L) inferInstance) span 0

theorem trimmed_bad {span now : Int} {L : List (Int × Int)} (h : ¬ (winOk span L ∧ 0 ≤ now ∧ now ≤ 1000000000)) : trimmed span L now = [] ∧ trimSpan span L now = 0 := by
  unfold trimmed trimSpan
  exact ⟨if_neg h, if_neg h⟩

theorem trimmed_good {span now : Int} {L : List (Int × Int)} (h : winOk span L ∧ 0 ≤ now ∧ now ≤ 1000000000) : trimmed span L now = young span now L ∧ trimSpan span L now = span := by
  unfold trimmed trimSpan
  exact ⟨if_pos h, if_pos h⟩

theorem flag (p : Prop) : ∃ B : Bool, Hid (B = true ↔ p) := by
  by_cases h : p
  · refine ⟨true, ?_⟩
    show true = true ↔ p
    exact ⟨fun _ => h, fun _ => rfl⟩
  · refine ⟨false, ?_⟩
    show false = true ↔ p
    exact ⟨fun e => by simp at e, fun e => absurd e h⟩

/-- Two boxes laid one behind the other, and what is left of them behind a call that turns nothing below. -/
theorem boxes {w w1 : World} {x0 x1 y0 y1 : Value} {s t : TypeId} (hb : Below ((w.alloc (.cells #[x0, x1] s)).alloc (.cells #[y0, y1] t)).heap.size ((w.alloc (.cells #[x0, x1] s)).alloc (.cells #[y0, y1] t)) w1) :
    (w1.cell? ⟨w.heap.size, 0, none⟩ = some x0 ∧ w1.cell? ⟨w.heap.size, 1, none⟩ = some x1) ∧ (w1.cell? ⟨w.heap.size + 1, 0, none⟩ = some y0 ∧ w1.cell? ⟨w.heap.size + 1, 1, none⟩ = some y1) ∧ (∀ j, w1.frozen? ⟨w.heap.size + 1, j, none⟩ = false) ∧ w.heap.size + 2 ≤ w1.heap.size := by
  have hs := hb.size
  simp at hs
  have e0 : w1.heap[w.heap.size]? = some (.cells #[x0, x1] s (0, 0)) := by
    rw [hb.block _ (by simp; omega), Below.heap_alloc _ _ _ (by simp)]
    exact heap_alloc_new w _
  have e1 : w1.heap[w.heap.size + 1]? = some (.cells #[y0, y1] t (0, 0)) := by
    rw [hb.block _ (by simp)]
    have := heap_alloc_new (w.alloc (.cells #[x0, x1] s)) (.cells #[y0, y1] t)
    simpa using this
  refine ⟨⟨?_, ?_⟩, ⟨?_, ?_⟩, fun j => ?_, by omega⟩ <;> simp [World.cell?, World.frozen?, e0, e1]

theorem info31s : (Try.prog.info? 64).map (fun i => (i.zero, i.size, i.bytes)) = some (some (.agg #[.int .i64 0, .int .i64 0]), 2, 16) := by kernel_rfl

theorem flat_snoc (D : List (Int × Int)) (x y : Int) : flat (D ++ [(x, y)]) = flat D ++ [.int .i64 x, .int .i64 y] := by simp [flat]

/-- One sample more in the list that grows, and its variable. -/
theorem trim_step {w1 wr w2 : World} {span x y : Int} {v v' : Value} {D : List (Int × Int)} {A B : Obj} {t : TypeId} (hown : wr.ownsRow (w1.heap.size + 1) 64 2 v D.length (flat D)) (hv : wr.heap[w1.heap.size]? = some (.cells #[.int .i64 span, v] t (0, 0))) (hb : Below w1.heap.size w1 wr)
    (h1 : w2.ownsRow (w1.heap.size + 1) 64 2 v' (D.length + 1) (flat D ++ [.int .i64 x, .int .i64 y])) (hg : ((wr.alloc A).alloc B).grownBy w2 v.ownBlock) :
    w2.heap[w1.heap.size]? = some (.cells #[.int .i64 span, v] t (0, 0)) ∧ (w2.setCell ⟨w1.heap.size, 1, none⟩ v').heap[w1.heap.size]? = some (.cells #[.int .i64 span, v'] t (0, 0)) ∧
    (w2.setCell ⟨w1.heap.size, 1, none⟩ v').ownsRow (w1.heap.size + 1) 64 2 v' (D ++ [(x, y)]).length (flat (D ++ [(x, y)])) ∧ Below w1.heap.size w1 (w2.setCell ⟨w1.heap.size, 1, none⟩ v') := by
  have hlt : w1.heap.size < wr.heap.size := (Array.getElem?_eq_some_iff.1 hv).1
  have hne : some w1.heap.size ≠ v.ownBlock := fun e => by have := (hown.lt _ e.symm).1; omega
  have e2 : w2.heap[w1.heap.size]? = some (.cells #[.int .i64 span, v] t (0, 0)) := by
    rw [hg.block _ (by simp; omega) hne, Below.heap_alloc _ _ _ (by simp; omega), Below.heap_alloc _ _ _ hlt]
    exact hv
  refine ⟨e2, ?_, ?_, ?_⟩
  · have := heap_setCell_at e2 1 v'
    simpa using this
  · rw [flat_snoc, List.length_append]
    refine h1.kept (row := some w1.heap.size) ⟨rfl, rfl, rfl, by simp, fun k hk hne => Below.heap_setCell _ _ _ _ (fun e => hne (by rw [e]))⟩ (Or.inr fun e => ?_)
    have := (h1.lt _ e).1
    omega
  · exact (((hb.alloc hb.size A).alloc (by simp; omega) B).grown hg (by simp; omega) (fun j hj => by have := (hown.lt j hj).1; omega)).setCell (Nat.le_refl _) _

theorem own_below {w : World} {b B n size : Nat} {e : TypeId} {v : Value} {xs : List Value} (hb : b ≤ B) (h : w.ownsRow B e size v n xs) : w.ownsRow b e size v n xs := by
  refine ⟨h.1, ?_⟩
  rcases h.2 with h0 | ⟨g, cap, cur, h1, h2, h3⟩
  · exact Or.inl h0
  · exact Or.inr ⟨g, cap, cur, h1, by omega, h3⟩

theorem spec_time (now : Int) (w : World) (h0 : ¬ now < 0) (h1 : ¬ 1000000000 < now) : Calls Try.prog 33 #[.int .i64 now] w fun e w' => e = .returned (.bool true) ∧ w' = w := by
  have d1 : decide (now ≤ 1000000000) = true := by simp; omega
  go_enter Try.func33, Try.ntmps33
  go_wp2
  go_ret
  exact ⟨rfl, rfl⟩

set_option maxHeartbeats 2000000 in
set_option maxRecDepth 8000 in
theorem spec_trim (span now : Int) (a : Option Addr) (c : Nat) (L : List (Int × Int)) (w : World) (ha : WOk w a L) (hl : (L.length : Int) ≤ 1048577) :
    Calls Try.prog 49 #[.agg #[.int .i64 span, .slice a L.length c], .int .i64 now] w fun e w' => ∃ v, e = .returned (.agg #[.int .i64 (trimSpan span L now), v]) ∧ w'.ownsRow w.heap.size 64 2 v (trimmed span L now).length (flat (trimmed span L now)) ∧ Below w.heap.size w w' := by
  obtain ⟨i0, hi, hz0, hz1, hz2⟩ := info_parts info31s
  obtain ⟨B, HB⟩ := flag (winOk span L)
  have hbw : Below w.heap.size w ((w.alloc (.cells #[.int .i64 span, .slice a L.length c] 27)).alloc (.cells #[.int .i64 0, .slice none 0 0] 27)) := ((Below.refl _ _).alloc (Nat.le_refl _) _).alloc (by simp) _
  have HO := spec_ok span a c L B ((w.alloc (.cells #[.int .i64 span, .slice a L.length c] 27)).alloc (.cells #[.int .i64 0, .slice none 0 0] 27)) (ha.below hbw) hl HB
  have HA : Hid (WOk w a L) := ha
  have HBW : Hid (Below w.heap.size w ((w.alloc (.cells #[.int .i64 span, .slice a L.length c] 27)).alloc (.cells #[.int .i64 0, .slice none 0 0] 27))) := hbw
  clear ha hbw
  obtain ⟨n, hn⟩ : ∃ n, L.length = n := ⟨_, rfl⟩
  have HN : Hid (L.length = n) := hn
  rw [hn] at hl HO HBW ⊢
  clear hn
  cases B with
  | false =>
    obtain ⟨e1, e2⟩ := trimmed_bad (span := span) (now := now) (L := L) (fun h => by have := HB.out.2 h.1; simp at this)
    rw [e1, e2]
    go_enter Try.func49, Try.ntmps49
    go_wp2_with (first | (go_at_call 41; refine HO.mono ?_; rintro e w1 ⟨rfl, hb⟩; obtain ⟨⟨c0, c1⟩, ⟨c2, c3⟩, c4, c5⟩ := boxes hb; have f0 := c4 0; have f1 := c4 1) | (go_at_call 33; go_in))
    refine bodyPost_ret (v := .agg #[.int .i64 0, .slice none 0 0]) (by simp [results, Try.results49, go_sem, c2, c3]) rfl ⟨.slice none 0 0, rfl, World.ownsRow_nil _ _ _ _, ?_⟩
    exact ((HBW.out.trans (hb.mono (by simp; omega))).setCell (by show w.heap.size ≤ w.heap.size + 1; omega) _).setCell (by show w.heap.size ≤ w.heap.size + 1; omega) _
  | true =>
    by_cases t0 : now < 0
    · obtain ⟨e1, e2⟩ := trimmed_bad (span := span) (now := now) (L := L) (fun h => by omega)
      rw [e1, e2]
      go_enter Try.func49, Try.ntmps49
      go_wp2_with (first | (go_at_call 41; refine HO.mono ?_; rintro e w1 ⟨rfl, hb⟩; obtain ⟨⟨c0, c1⟩, ⟨c2, c3⟩, c4, c5⟩ := boxes hb; have f0 := c4 0; have f1 := c4 1) | (go_at_call 33; go_in))
      refine bodyPost_ret (v := .agg #[.int .i64 0, .slice none 0 0]) (by simp [results, Try.results49, go_sem, c2, c3]) rfl ⟨.slice none 0 0, rfl, World.ownsRow_nil _ _ _ _, ?_⟩
      exact ((HBW.out.trans (hb.mono (by simp; omega))).setCell (by show w.heap.size ≤ w.heap.size + 1; omega) _).setCell (by show w.heap.size ≤ w.heap.size + 1; omega) _
    · by_cases t1 : 1000000000 < now
      · obtain ⟨e1, e2⟩ := trimmed_bad (span := span) (now := now) (L := L) (fun h => by omega)
        rw [e1, e2]
        have d1 : decide (now ≤ 1000000000) = false := by simp; omega
        go_enter Try.func49, Try.ntmps49
        go_wp2_with (first | (go_at_call 41; refine HO.mono ?_; rintro e w1 ⟨rfl, hb⟩; obtain ⟨⟨c0, c1⟩, ⟨c2, c3⟩, c4, c5⟩ := boxes hb; have f0 := c4 0; have f1 := c4 1) | (go_at_call 33; go_in))
        refine bodyPost_ret (v := .agg #[.int .i64 0, .slice none 0 0]) (by simp [results, Try.results49, go_sem, c2, c3]) rfl ⟨.slice none 0 0, rfl, World.ownsRow_nil _ _ _ _, ?_⟩
        exact ((HBW.out.trans (hb.mono (by simp; omega))).setCell (by show w.heap.size ≤ w.heap.size + 1; omega) _).setCell (by show w.heap.size ≤ w.heap.size + 1; omega) _
      · have HW := HB.out.1 rfl
        obtain ⟨e1, e2⟩ := trimmed_good (span := span) (now := now) (L := L) ⟨HW, by omega, by omega⟩
        rw [e1, e2]
        have s1 := HW.1
        have s2 := HW.2.1
        have d1 : decide (now ≤ 1000000000) = true := by simp; omega
        clear e1 e2
        have HWI : Hid (winOk span L) := HW
        clear HW
        go_enter Try.func49, Try.ntmps49
        go_wp2_with (first | (go_at_call 41; refine HO.mono ?_; rintro e w1 ⟨rfl, hb⟩; obtain ⟨⟨c0, c1⟩, ⟨c2, c3⟩, c4, c5⟩ := boxes hb; have f0 := c4 0; have f1 := c4 1; have c6 : (w1.alloc (.cells #[.int .i64 span, .slice none 0 0] 27)).cell? ⟨w.heap.size, 1, none⟩ = some (.slice a n c) := (by rw [World.cell?_alloc_past _ _ _ (by show w.heap.size < w1.heap.size; omega)]; exact c1)) | (go_at_call 33; refine (spec_time now _ (by omega) (by omega)).mono ?_; rintro e w9 ⟨rfl, hw9⟩; rw [hw9]; clear hw9 w9))
        go_loopw [23] (fun i wr => ∃ (k : Nat) (v : Value), k ≤ n ∧ i = .int .i64 k ∧ Hid (wr.heap[w1.heap.size]? = some (.cells #[.int .i64 span, v] 27 (0, 0))) ∧ wr.ownsRow (w1.heap.size + 1) 64 2 v (young span now (L.take k)).length (flat (young span now (L.take k))) ∧ Hid (Below w1.heap.size w1 wr)) (fun i _ => n - (intOf i).toNat)
        case atStart => exact ⟨0, .slice none 0 0, by omega, rfl, heap_alloc_new w1 _, by simpa [young, flat] using World.ownsRow_nil _ _ _ _, (Below.refl _ _).alloc (Nat.le_refl _) _⟩
        case round =>
          obtain ⟨k, v, hk, rfl, HV, hown, HBR⟩ := hrel
          by_cases hlt : k < n
          · have hlt2 : k < L.length := by rw [HN.out]; exact hlt
            rcases HA.out with hnil | ⟨g, o, rfl, hr⟩
            · rw [hnil] at hlt2; simp at hlt2
            · have hg := hr.lt
              have hr1 : PRow wr g o L := (hr.below (HBW.out.trans (hb.mono (by simp; omega)))).same (HBR.out.block g (by omega))
              have q0 := hr1.c0 k hlt2
              have q1 := hr1.c1 k hlt2
              obtain ⟨x, hx⟩ : ∃ x, L[k].1 = x := ⟨_, rfl⟩
              obtain ⟨y, hy⟩ : ∃ y, L[k].2 = y := ⟨_, rfl⟩
              rw [hx] at q0
              rw [hy] at q1
              have hli : (k : Int) < (n : Int) := by omega
              have hsz := HBR.out.size
              have r0 : (wr.alloc (.cells #[.int .i64 x, .int .i64 y] 64)).cell? ⟨w.heap.size, 0, none⟩ = some (.int .i64 span) := by
                rw [World.cell?_alloc_past _ _ _ (by show w.heap.size < wr.heap.size; omega), HBR.out.cell (by show w.heap.size < w1.heap.size; omega)]
                exact c0
              have e1 : IntKind.i64.wrap (now - span) = now - span := by rw [IntKind.wrap_i64]; omega
              by_cases hyg : now - span < x
              · have r1 : (wr.alloc (.cells #[.int .i64 x, .int .i64 y] 64)).cell? ⟨w1.heap.size, 1, none⟩ = some v := by
                  rw [World.cell?_alloc_past _ _ _ (by show w1.heap.size < wr.heap.size; exact (Array.getElem?_eq_some_iff.1 HV.out).1)]
                  simp [World.cell?, HV.out]
                have HT : Hid (young span now (L.take (k + 1)) = young span now (L.take k) ++ [(x, y)]) := by
                  show young _ _ _ = _
                  unfold young
                  rw [List.take_succ_eq_append_getElem hlt2, List.filter_append]
                  have hp : L[k] = (x, y) := by rw [← hx, ← hy]
                  simp [hp, hyg]
                have hlen : (young span now (L.take k)).length ≤ k := by
                  have h1 := List.length_filter_le (fun p : Int × Int => decide (now - span < p.1)) (L.take k)
                  have h2 := List.length_take_le k L
                  exact Nat.le_trans h1 h2
                generalize hD : young span now (L.take k) = D at *
                clear hD
                go_wp2_with (at_builtin; refine wpList_append_own _ rfl (.tmp 35) (.tmp 37) 25 rfl (w1.heap.size + 1) 64 i0 (.agg #[.int .i64 0, .int .i64 0]) 2 16 Try.underlying25 hi hz0 hz1 hz2 rfl (by decide) _ _ _ rfl ((hown.alloc _).alloc _) ⟨wr.heap.size + 1, 0, none⟩ 1 1 [.int .i64 x, .int .i64 y] rfl rfl ?c1 ?c2 ?c3 ?c4 ?c5 ?_)
                case c1 =>
                  intro j u hj
                  match j, hj with
                  | 0, hj => simp at hj; subst hj; simp [Addr.add]
                  | 1, hj => simp at hj; subst hj; simp [Addr.add]
                case c2 => intro u hu; simp at hu; rcases hu with rfl | rfl <;> rfl
                case c3 => unfold maxLen; omega
                case c4 => omega
                case c5 => simp; omega
                · intro v' w2 hown1 hgrow _
                  obtain ⟨g2, cap2, hv2⟩ : ∃ g2 cap2, v' = .slice (some ⟨g2, 0, none⟩) (D.length + 1) cap2 := by
                    rcases hown1.2 with ⟨_, h0⟩ | ⟨g2, cap2, _, h2, _⟩
                    · omega
                    · exact ⟨g2, cap2, h2⟩
                  subst hv2
                  obtain ⟨b2, R1, R2, R3⟩ := trim_step hown HV.out HBR.out hown1 hgrow
                  have c7 := cell_blk b2 1
                  have f7 := fz_blk b2 1
                  simp only [List.getElem?_toArray, List.getElem?_cons_zero, List.getElem?_cons_succ] at c7
                  have HR : Hid ((w2.setCell ⟨w1.heap.size, 1, none⟩ (.slice (some ⟨g2, 0, none⟩) (D.length + 1) cap2)).heap[w1.heap.size]? = some (.cells #[.int .i64 span, .slice (some ⟨g2, 0, none⟩) (D.length + 1) cap2] 27 (0, 0)) ∧ (w2.setCell ⟨w1.heap.size, 1, none⟩ (.slice (some ⟨g2, 0, none⟩) (D.length + 1) cap2)).ownsRow (w1.heap.size + 1) 64 2 (.slice (some ⟨g2, 0, none⟩) (D.length + 1) cap2) (D ++ [(x, y)]).length (flat (D ++ [(x, y)])) ∧ Below w1.heap.size w1 (w2.setCell ⟨w1.heap.size, 1, none⟩ (.slice (some ⟨g2, 0, none⟩) (D.length + 1) cap2))) := ⟨R1, R2, R3⟩
                  clear hown1 hgrow hown R1 R2 R3 b2
                  go_wp2
                  go_roundw
                  case rel => exact ⟨k + 1, .slice (some ⟨g2, 0, none⟩) (D.length + 1) cap2, by omega, by go_num, HR.out.1, by rw [HT.out]; exact HR.out.2.1, HR.out.2.2⟩
                  case measure => simp [intOf]; omega
              · have f2 : decide (now - span < x) = false := by simp; omega
                have HO2 : Hid (wr.ownsRow (w1.heap.size + 1) 64 2 v (young span now (L.take k)).length (flat (young span now (L.take k)))) := hown
                clear hown
                have HT : Hid (young span now (L.take (k + 1)) = young span now (L.take k)) := by
                  show young _ _ _ = _
                  unfold young
                  rw [List.take_succ_eq_append_getElem hlt2, List.filter_append]
                  simp [hx]
                  omega
                go_wp2
                go_roundw
                case rel => exact ⟨k + 1, v, by omega, by go_num, (Below.heap_alloc _ _ _ (Array.getElem?_eq_some_iff.1 HV.out).1).trans HV.out, by rw [HT.out]; exact HO2.out.alloc _, HBR.out.alloc hsz _⟩
                case measure => simp [intOf]; omega
          · obtain rfl : k = n := by omega
            have HT : L.take k = L := List.take_of_length_le (by rw [HN.out]; exact Nat.le_refl _)
            rw [HT] at hown
            obtain ⟨g2, cap2, hv2⟩ : ∃ g2 cap2, v = .slice g2 (young span now L).length cap2 := by
              rcases hown.2 with ⟨h1, h0⟩ | ⟨g2, cap2, _, h2, _⟩
              · exact ⟨none, 0, by rw [h1, h0]⟩
              · exact ⟨_, cap2, h2⟩
            subst hv2
            generalize hD : young span now L = D at *
            have HD : Hid (young span now L = D) := hD
            clear hD HT
            have hsz := HBR.out.size
            have hlt : w1.heap.size < wr.heap.size := (Array.getElem?_eq_some_iff.1 HV.out).1
            have r0 := cell_blk HV.out 0
            have r1 := cell_blk HV.out 1
            simp only [List.getElem?_toArray, List.getElem?_cons_zero, List.getElem?_cons_succ] at r0 r1
            have r2 : wr.cell? ⟨w.heap.size + 1, 0, none⟩ = some (.int .i64 0) := (HBR.out.cell (p := ⟨w.heap.size + 1, 0, none⟩) (by show w.heap.size + 1 < w1.heap.size; omega)).trans c2
            have r3 : wr.cell? ⟨w.heap.size + 1, 1, none⟩ = some (.slice none 0 0) := (HBR.out.cell (p := ⟨w.heap.size + 1, 1, none⟩) (by show w.heap.size + 1 < w1.heap.size; omega)).trans c3
            have r4 : wr.frozen? ⟨w.heap.size + 1, 0, none⟩ = false := (HBR.out.frozen (p := ⟨w.heap.size + 1, 0, none⟩) (by show w.heap.size + 1 < w1.heap.size; omega)).trans f0
            have r5 : wr.frozen? ⟨w.heap.size + 1, 1, none⟩ = false := (HBR.out.frozen (p := ⟨w.heap.size + 1, 1, none⟩) (by show w.heap.size + 1 < w1.heap.size; omega)).trans f1
            have HOW : Hid (wr.ownsRow (w1.heap.size + 1) 64 2 (.slice g2 D.length cap2) D.length (flat D)) := hown
            clear hown c0 c1 c2 c3 c4 c6 f0 f1
            go_wp2
            refine bodyPost_ret (v := .agg #[.int .i64 span, .slice g2 D.length cap2]) (by simp [results, Try.results49, go_sem, r2, r3]) rfl ⟨.slice g2 D.length cap2, rfl, ?_, ?_⟩
            · rw [HD.out]
              refine own_below (B := w1.heap.size + 1) (by omega) (HOW.out.kept (row := some (w.heap.size + 1)) ⟨rfl, rfl, rfl, by simp, fun k hk hne => ?_⟩ (Or.inr fun e => ?_))
              · have hk2 : k ≠ w.heap.size + 1 := fun e => hne (by rw [e])
                rw [Below.heap_setCell _ _ _ _ hk2, Below.heap_setCell _ _ _ _ hk2]
              · have := (HOW.out.lt _ e).1
                omega
            · exact (((HBW.out.trans (hb.mono (by simp; omega))).trans (HBR.out.mono (by omega))).setCell (by show w.heap.size ≤ w.heap.size + 1; omega) _).setCell (by show w.heap.size ≤ w.heap.size + 1; omega) _
end Go.Proofs.Ytbdkepnjhcdpnaa.TrimWalks
