/- What the model's Push answers at every window of at most 2 to the 20 samples: those that are less, and the new one behind them, in a list of the call's own, and nothing else turns. -/
import Derived.Test.YtbdkepnjhcdpnaaRows
import Derived.Test.YtbdkepnjhcdpnaaPairWalks
import Derived.Test.YtbdkepnjhcdpnaaWinOk
import Derived.Test.YtbdkepnjhcdpnaaTrimWalks
import Derived.WalkKit
import Derived.WalkSmall
import Derived.BigQuiet
import Derived.Deep.RegionWith
import Derived.Laws.AppendOwn
namespace Go.Proofs.Ytbdkepnjhcdpnaa.PushWalks
open Go.RowKit PairWalks WinOk TrimWalks
set_option maxRecDepth 8000

/-- Those whose latency is less. -/
def less (lat : Int) (T : List (Int × Int)) : List (Int × Int) := T.filter fun p => decide (p.2 < lat)

/-- The last one is no earlier than now. -/
def lastLate (now : Int) (D : List (Int × Int)) : Bool := match D.getLast? with
  | some p => decide (now ≤ p.1)
  | none => false

def put (now lat : Int) (D : List (Int × Int)) : List (Int × Int) := if lastLate now D then D else D ++ [(now, lat)]
def cutOne (D : List (Int × Int)) : List (Int × Int) := if 200 < D.length then D.drop 1 else D

def pushOk (span now lat : Int) (L : List (Int × Int)) : Prop := winOk span L ∧ (0 ≤ now ∧ now ≤ 1000000000) ∧ 0 ≤ lat ∧ lat ≤ 1000000
def pushOkD (span now lat : Int) (L : List (Int × Int)) : Decidable (pushOk span now lat L) := by
  unfold pushOk
  exact @instDecidableAnd _ _ (winOkD span L) inferInstance
def pushed (span now lat : Int) (L : List (Int × Int)) : List (Int × Int) := @ite _ (pushOk span now lat L) (pushOkD span now lat L) (cutOne (put now lat (less lat (young span now L)))) []
def pushSpan (span now lat : Int) (L : List (Int × Int)) : Int := @ite _ (pushOk span now lat L) (pushOkD span now lat L) span 0

theorem pushed_bad {span now lat : Int} {L : List (Int × Int)} (h : ¬ pushOk span now lat L) : pushed span now lat L = [] ∧ pushSpan span now lat L = 0 := by
  unfold pushed pushSpan
  exact ⟨if_neg h, if_neg h⟩

theorem pushed_good {span now lat : Int} {L : List (Int × Int)} (h : pushOk span now lat L) : pushed span now lat L = cutOne (put now lat (less lat (young span now L))) ∧ pushSpan span now lat L = span := by
  unfold pushed pushSpan
  exact ⟨if_pos h, if_pos h⟩

theorem flat_get (D : List (Int × Int)) (i : Nat) (h : i < D.length) : (flat D)[i * 2]? = some (.int .i64 D[i].1) ∧ (flat D)[i * 2 + 1]? = some (.int .i64 D[i].2) := by
  induction D generalizing i with
  | nil => simp at h
  | cons p D ih =>
    cases i with
    | zero => simp [flat]
    | succ i =>
      have h2 := ih i (by simpa using h)
      have e : flat (p :: D) = .int .i64 p.1 :: .int .i64 p.2 :: flat D := by simp [flat]
      rw [e, show (i + 1) * 2 = i * 2 + 1 + 1 from by omega]
      simpa using h2

/-- A list that the call owns is a list of samples at its front. -/
theorem owns_row {w : World} {base : Nat} {v : Value} {D : List (Int × Int)} (h : w.ownsRow base 64 2 v D.length (flat D)) :
    ∃ a cap, v = .slice a D.length cap ∧ WOk w a D ∧ (∀ b, blk a = some b → base ≤ b) ∧ (D = [] ∨ ∃ g, a = some ⟨g, 0, none⟩ ∧ base ≤ g ∧ PRow w g 0 D) ∧ D.length ≤ cap := by
  rcases h.2 with ⟨hv, h0⟩ | ⟨g, cap, cur, hv, hb, hg, hnc, hm, hs, ht⟩
  · have hD : D = [] := List.length_eq_zero_iff.1 h0
    subst hD
    exact ⟨none, 0, hv, Or.inl rfl, fun b hb => by simp [blk] at hb, Or.inl rfl, Nat.le_refl _⟩
  · have hr : PRow w g 0 D := by
      refine ⟨cur, hg, by omega, fun i hi => ?_⟩
      obtain ⟨h1, h2⟩ := flat_get D i hi
      rw [← ht] at h1 h2
      rw [List.getElem?_take_of_lt (by omega)] at h1 h2
      simp only [Array.getElem?_toList] at h1 h2
      exact ⟨by simpa using h1, by simpa using h2⟩
    refine ⟨some ⟨g, 0, none⟩, cap, hv, Or.inr ⟨g, 0, rfl, hr⟩, fun b hb2 => ?_, Or.inr ⟨g, rfl, hb, hr⟩, hnc⟩
    simp [blk] at hb2
    omega

/-- One sample more in the list that grows, and its variable. -/
theorem push_step {w2 wr W w3 : World} {bo : Nat} {x y : Int} {s v v' : Value} {D : List (Int × Int)} {t : TypeId} (hbo : bo < w2.heap.size) (hown : wr.ownsRow w2.heap.size 64 2 v D.length (flat D)) (hv : wr.heap[bo]? = some (.cells #[s, v] t (0, 0))) (h0 : w2.grownBy wr (some bo))
    (hW : Below wr.heap.size wr W) (h1 : w3.ownsRow w2.heap.size 64 2 v' (D.length + 1) (flat D ++ [.int .i64 x, .int .i64 y])) (hg : W.grownBy w3 v.ownBlock) :
    w3.heap[bo]? = some (.cells #[s, v] t (0, 0)) ∧ (w3.setCell ⟨bo, 1, none⟩ v').heap[bo]? = some (.cells #[s, v'] t (0, 0)) ∧
    (w3.setCell ⟨bo, 1, none⟩ v').ownsRow w2.heap.size 64 2 v' (D ++ [(x, y)]).length (flat (D ++ [(x, y)])) ∧ w2.grownBy (w3.setCell ⟨bo, 1, none⟩ v') (some bo) := by
  have hlt : bo < wr.heap.size := (Array.getElem?_eq_some_iff.1 hv).1
  have hs1 := hW.size
  have hs2 := hg.size
  have hs0 := h0.size
  have hne : some bo ≠ v.ownBlock := fun e => by have := (hown.lt _ e.symm).1; omega
  have e2 : w3.heap[bo]? = some (.cells #[s, v] t (0, 0)) := by
    rw [hg.block _ (by omega) hne, hW.block _ hlt]
    exact hv
  refine ⟨e2, ?_, ?_, ?_⟩
  · have := heap_setCell_at e2 1 v'
    simpa using this
  · rw [flat_snoc, List.length_append]
    refine h1.kept (row := some bo) ⟨rfl, rfl, rfl, by simp, fun k hk hne => Below.heap_setCell _ _ _ _ (fun e => hne (by rw [e]))⟩ (Or.inr fun e => ?_)
    have := (h1.lt _ e).1
    omega
  · refine ⟨hg.os.trans (hW.os.trans h0.os), hg.tape.trans (hW.tape.trans h0.tape), hg.output.trans (hW.output.trans h0.output), by simp; omega, fun k hk hne2 => ?_⟩
    rw [Below.heap_setCell _ _ _ _ (fun e => hne2 (by rw [e])), hg.block k (by omega) (fun e => by have := (hown.lt _ e.symm).1; omega), hW.block k (by omega)]
    exact h0.block k hk hne2

theorem spec_lat (n : Int) (w : World) (h0 : ¬ n < 0) (h1 : ¬ 1000000 < n) : Calls Try.prog 34 #[.int .i64 n] w fun e w' => e = .returned (.bool true) ∧ w' = w := by
  have d1 : decide (n ≤ 1000000) = true := by simp; omega
  go_enter Try.func34, Try.ntmps34
  go_wp2
  go_ret
  exact ⟨rfl, rfl⟩

theorem grown_alloc {w w1 : World} {r : Option Nat} (h : w.grownBy w1 r) (o : Obj) : w.grownBy (w1.alloc o) r :=
  ⟨h.os, h.tape, h.output, by have := h.size; simp; omega, fun k hk hne => (Below.heap_alloc _ _ _ (by have := h.size; omega)).trans (h.block k hk hne)⟩

theorem field_items (x : Value) (a : Option Addr) (n c : Nat) (w : World) : (Instr.field 27 (.agg #[x, .slice a n c]) 1).run Try.prog w = .ok (.slice a n c) w := by
  simp [Instr.field, run_underlying Try.underlying27, part, asAgg, go_sem]

/-- A variable for a window, empty as it was laid. -/
def BoxNew (w : World) (b : Nat) : Prop := w.cell? ⟨b, 0, none⟩ = some (.int .i64 0) ∧ w.cell? ⟨b, 1, none⟩ = some (.slice none 0 0) ∧ w.frozen? ⟨b, 0, none⟩ = false ∧ w.frozen? ⟨b, 1, none⟩ = false

/-- Behind the loop: the list that grew and its variable. -/
def EndAt (w2 W : World) (bo : Nat) (span : Int) (g cap : Nat) (P : List (Int × Int)) : Prop :=
  W.heap[bo]? = some (.cells #[.int .i64 span, .slice (some ⟨g, 0, none⟩) P.length cap] 27 (0, 0)) ∧ W.ownsRow w2.heap.size 64 2 (.slice (some ⟨g, 0, none⟩) P.length cap) P.length (flat P) ∧ w2.grownBy W (some bo)

theorem EndAt.facts {w2 W : World} {bo rb : Nat} {span : Int} {g cap : Nat} {P : List (Int × Int)} (h : EndAt w2 W bo span g cap P) (hn : BoxNew w2 rb) (h1 : rb < bo) (h2 : bo < w2.heap.size) :
    W.cell? ⟨bo, 0, none⟩ = some (.int .i64 span) ∧ W.cell? ⟨bo, 1, none⟩ = some (.slice (some ⟨g, 0, none⟩) P.length cap) ∧ W.frozen? ⟨bo, 1, none⟩ = false ∧ W.cell? ⟨rb, 0, none⟩ = some (.int .i64 0) ∧ W.cell? ⟨rb, 1, none⟩ = some (.slice none 0 0) ∧ W.frozen? ⟨rb, 0, none⟩ = false ∧ W.frozen? ⟨rb, 1, none⟩ = false := by
  obtain ⟨hv, _, hg⟩ := h
  obtain ⟨n0, n1, n2, n3⟩ := hn
  have e : W.heap[rb]? = w2.heap[rb]? := hg.block rb (by omega) (by simp; omega)
  refine ⟨by simp [World.cell?, hv], by simp [World.cell?, hv], by simp [World.frozen?, hv], ?_, ?_, ?_, ?_⟩
  · exact (World.cell?_of_block (a := ⟨rb, 0, none⟩) e).trans n0
  · exact (World.cell?_of_block (a := ⟨rb, 1, none⟩) e).trans n1
  · exact (World.frozen?_of_block (a := ⟨rb, 0, none⟩) e).trans n2
  · exact (World.frozen?_of_block (a := ⟨rb, 1, none⟩) e).trans n3

/-- A window of the call's own is answered, and nothing else turns. -/
def Answers (w : World) (s : Int) (P : List (Int × Int)) (e : Ending) (w' : World) : Prop :=
  ∃ a2 c2, e = .returned (.agg #[.int .i64 s, .slice a2 P.length c2]) ∧ WOk w' a2 P ∧ (∀ b, blk a2 = some b → w.heap.size ≤ b) ∧ Below w.heap.size w w'

theorem EndAt.cap {w2 W : World} {bo : Nat} {span : Int} {g cap : Nat} {P : List (Int × Int)} (h : EndAt w2 W bo span g cap P) : P.length ≤ cap := by
  rcases h.2.1.2 with ⟨h1, _⟩ | ⟨g2, cap2, _, h1, _, _, h2, _⟩
  · simp at h1
  · injection h1 with _ _ h3
    omega

theorem EndAt.row {w2 W : World} {bo : Nat} {span : Int} {g cap : Nat} {P : List (Int × Int)} (h : EndAt w2 W bo span g cap P) : PRow W g 0 P ∧ w2.heap.size ≤ g := by
  obtain ⟨a, cp, hv, _, _, h2, _⟩ := owns_row h.2.1
  injection hv with h3 _ h4
  subst h3
  rcases h2 with h2 | ⟨g2, e, h5, h6⟩
  · subst h2
    rcases h.2.1.2 with ⟨h1, _⟩ | ⟨g2, cap2, cur, h1, h7, h8, _⟩
    · simp at h1
    · injection h1 with h9 _ _
      injection h9 with h9
      injection h9 with h9 _ _
      subst h9
      exact ⟨⟨cur, h8, by simp, fun i hi => by simp at hi⟩, h7⟩
  · injection e with e
    injection e with e _ _
    subst e
    exact ⟨h6, h5⟩

theorem grown_below {w w2 W : World} {bo : Nat} (hb : Below w.heap.size w w2) (hg : w2.grownBy W (some bo)) (hbo : w.heap.size ≤ bo) : Below w.heap.size w W :=
  hb.grown hg hb.size (fun k hk => by injection hk with hk; omega)

theorem EndAt.plain {w w2 W : World} {bo : Nat} {span : Int} {g cap : Nat} {P : List (Int × Int)} (h : EndAt w2 W bo span g cap P) (hb : Below w.heap.size w w2) (h1 : w.heap.size + 1 < bo) (h2 : bo < w2.heap.size) {x y : Value} :
    Answers w span P (.returned (.agg #[.int .i64 span, .slice (some ⟨g, 0, none⟩) P.length cap])) ((W.setCell ⟨w.heap.size + 1, 0, none⟩ x).setCell ⟨w.heap.size + 1, 1, none⟩ y) := by
  obtain ⟨hr, hg⟩ := h.row
  refine ⟨some ⟨g, 0, none⟩, cap, rfl, Or.inr ⟨g, 0, rfl, hr.same ?_⟩, fun b hb2 => ?_, ?_⟩
  · rw [Below.heap_setCell _ _ _ _ (by show g ≠ w.heap.size + 1; omega), Below.heap_setCell _ _ _ _ (by show g ≠ w.heap.size + 1; omega)]
  · simp [blk] at hb2
    omega
  · exact ((grown_below hb h.2.2 (by omega)).setCell (by show w.heap.size ≤ w.heap.size + 1; omega) _).setCell (by show w.heap.size ≤ w.heap.size + 1; omega) _

theorem EndAt.cut {w w2 W : World} {bo : Nat} {span : Int} {g cap : Nat} {P : List (Int × Int)} (h : EndAt w2 W bo span g cap P) (hb : Below w.heap.size w w2) (h1 : w.heap.size + 1 < bo) (h2 : bo < w2.heap.size) (hp : 1 ≤ P.length) {x y z : Value} :
    Answers w span (P.drop 1) (.returned (.agg #[.int .i64 span, .slice (some ⟨g, 2, none⟩) (P.length - 1) (cap - 1)])) (((W.setCell ⟨bo, 1, none⟩ z).setCell ⟨w.heap.size + 1, 0, none⟩ x).setCell ⟨w.heap.size + 1, 1, none⟩ y) := by
  obtain ⟨hr, hg⟩ := h.row
  have hr2 : PRow W g 2 (P.drop 1) := by
    obtain ⟨cur, hc, hl, hi⟩ := hr
    refine ⟨cur, hc, by rw [List.length_drop]; omega, fun i hi2 => ?_⟩
    rw [List.length_drop] at hi2
    have := hi (i + 1) (by omega)
    rw [List.getElem_drop]
    simp only [show 2 + i * 2 = 0 + (i + 1) * 2 from by omega, show 1 + i = i + 1 from by omega]
    exact this
  refine ⟨some ⟨g, 2, none⟩, cap - 1, by rw [List.length_drop], Or.inr ⟨g, 2, rfl, hr2.same ?_⟩, fun b hb2 => ?_, ?_⟩
  · rw [Below.heap_setCell _ _ _ _ (by show g ≠ w.heap.size + 1; omega), Below.heap_setCell _ _ _ _ (by show g ≠ w.heap.size + 1; omega), Below.heap_setCell _ _ _ _ (by show g ≠ bo; omega)]
  · simp [blk] at hb2
    omega
  · exact (((grown_below hb h.2.2 (by omega)).setCell (by show w.heap.size ≤ bo; omega) _).setCell (by show w.heap.size ≤ w.heap.size + 1; omega) _).setCell (by show w.heap.size ≤ w.heap.size + 1; omega) _

set_option maxHeartbeats 2000000 in
theorem spec_push (span now lat : Int) (a : Option Addr) (c : Nat) (L : List (Int × Int)) (w : World) (ha : WOk w a L) (hl : (L.length : Int) ≤ 1048577) :
    Calls Try.prog 44 #[.agg #[.int .i64 span, .slice a L.length c], .int .i64 now, .int .i64 lat] w (Answers w (pushSpan span now lat L) (pushed span now lat L)) := by
  obtain ⟨i0, hi, hz0, hz1, hz2⟩ := info_parts info31s
  obtain ⟨B, HB⟩ := flag (winOk span L)
  have hbw : Below w.heap.size w ((w.alloc (.cells #[.int .i64 span, .slice a L.length c] 27)).alloc (.cells #[.int .i64 0, .slice none 0 0] 27)) := ((Below.refl _ _).alloc (Nat.le_refl _) _).alloc (by simp) _
  have HO := spec_ok span a c L B ((w.alloc (.cells #[.int .i64 span, .slice a L.length c] 27)).alloc (.cells #[.int .i64 0, .slice none 0 0] 27)) (ha.below hbw) hl HB
  have HTR := fun W h => spec_trim span now a c L W h hl
  have HA : Hid (WOk w a L) := ha
  have HBW : Hid (Below w.heap.size w ((w.alloc (.cells #[.int .i64 span, .slice a L.length c] 27)).alloc (.cells #[.int .i64 0, .slice none 0 0] 27))) := hbw
  clear ha hbw
  obtain ⟨n, hn⟩ : ∃ n, L.length = n := ⟨_, rfl⟩
  have HN : Hid (L.length = n) := hn
  rw [hn] at hl HO HBW HTR ⊢
  clear hn
  cases B with
  | false =>
    obtain ⟨e1, e2⟩ := pushed_bad (span := span) (now := now) (lat := lat) (L := L) (fun h => by have := HB.out.2 h.1; simp at this)
    rw [e1, e2]
    go_enter Try.func44, Try.ntmps44
    go_wp2_with (first | (go_at_call 41; refine HO.mono ?_; rintro e w1 ⟨rfl, hb⟩; obtain ⟨⟨c0, c1⟩, ⟨c2, c3⟩, c4, c5⟩ := boxes hb; have f0 := c4 0; have f1 := c4 1) | (go_at_call 33; go_in) | (go_at_call 34; go_in))
    refine bodyPost_ret (v := .agg #[.int .i64 0, .slice none 0 0]) (by simp [results, Try.results44, go_sem, c2, c3]) rfl ⟨none, 0, rfl, Or.inl rfl, fun b hb => by simp [blk] at hb, ?_⟩
    exact ((HBW.out.trans (hb.mono (by simp; omega))).setCell (by show w.heap.size ≤ w.heap.size + 1; omega) _).setCell (by show w.heap.size ≤ w.heap.size + 1; omega) _
  | true =>
    have bad : ∀ (h : now < 0 ∨ 1000000000 < now ∨ lat < 0 ∨ 1000000 < lat), ¬ pushOk span now lat L := fun h hp => by
      have h1 := hp.2
      omega
    by_cases t0 : now < 0
    · obtain ⟨e1, e2⟩ := pushed_bad (bad (by omega))
      rw [e1, e2]
      clear bad HTR
      go_enter Try.func44, Try.ntmps44
      go_wp2_with (first | (go_at_call 41; refine HO.mono ?_; rintro e w1 ⟨rfl, hb⟩; obtain ⟨⟨c0, c1⟩, ⟨c2, c3⟩, c4, c5⟩ := boxes hb; have f0 := c4 0; have f1 := c4 1) | (go_at_call 33; go_in) | (go_at_call 34; go_in))
      refine bodyPost_ret (v := .agg #[.int .i64 0, .slice none 0 0]) (by simp [results, Try.results44, go_sem, c2, c3]) rfl ⟨none, 0, rfl, Or.inl rfl, fun b hb => by simp [blk] at hb, ?_⟩
      exact ((HBW.out.trans (hb.mono (by simp; omega))).setCell (by show w.heap.size ≤ w.heap.size + 1; omega) _).setCell (by show w.heap.size ≤ w.heap.size + 1; omega) _
    · by_cases t1 : 1000000000 < now
      · obtain ⟨e1, e2⟩ := pushed_bad (bad (by omega))
        rw [e1, e2]
        clear bad HTR
        have d1 : decide (now ≤ 1000000000) = false := by simp; omega
        go_enter Try.func44, Try.ntmps44
        go_wp2_with (first | (go_at_call 41; refine HO.mono ?_; rintro e w1 ⟨rfl, hb⟩; obtain ⟨⟨c0, c1⟩, ⟨c2, c3⟩, c4, c5⟩ := boxes hb; have f0 := c4 0; have f1 := c4 1) | (go_at_call 33; go_in) | (go_at_call 34; go_in))
        refine bodyPost_ret (v := .agg #[.int .i64 0, .slice none 0 0]) (by simp [results, Try.results44, go_sem, c2, c3]) rfl ⟨none, 0, rfl, Or.inl rfl, fun b hb => by simp [blk] at hb, ?_⟩
        exact ((HBW.out.trans (hb.mono (by simp; omega))).setCell (by show w.heap.size ≤ w.heap.size + 1; omega) _).setCell (by show w.heap.size ≤ w.heap.size + 1; omega) _
      · have d1 : decide (now ≤ 1000000000) = true := by simp; omega
        by_cases t2 : lat < 0
        · obtain ⟨e1, e2⟩ := pushed_bad (bad (by omega))
          rw [e1, e2]
          clear bad HTR
          go_enter Try.func44, Try.ntmps44
          go_wp2_with (first | (go_at_call 41; refine HO.mono ?_; rintro e w1 ⟨rfl, hb⟩; obtain ⟨⟨c0, c1⟩, ⟨c2, c3⟩, c4, c5⟩ := boxes hb; have f0 := c4 0; have f1 := c4 1) | (go_at_call 33; go_in) | (go_at_call 34; go_in))
          refine bodyPost_ret (v := .agg #[.int .i64 0, .slice none 0 0]) (by simp [results, Try.results44, go_sem, c2, c3]) rfl ⟨none, 0, rfl, Or.inl rfl, fun b hb => by simp [blk] at hb, ?_⟩
          exact ((HBW.out.trans (hb.mono (by simp; omega))).setCell (by show w.heap.size ≤ w.heap.size + 1; omega) _).setCell (by show w.heap.size ≤ w.heap.size + 1; omega) _
        · by_cases t3 : 1000000 < lat
          · obtain ⟨e1, e2⟩ := pushed_bad (bad (by omega))
            rw [e1, e2]
            clear bad HTR
            have d2 : decide (lat ≤ 1000000) = false := by simp; omega
            go_enter Try.func44, Try.ntmps44
            go_wp2_with (first | (go_at_call 41; refine HO.mono ?_; rintro e w1 ⟨rfl, hb⟩; obtain ⟨⟨c0, c1⟩, ⟨c2, c3⟩, c4, c5⟩ := boxes hb; have f0 := c4 0; have f1 := c4 1) | (go_at_call 33; go_in) | (go_at_call 34; go_in))
            refine bodyPost_ret (v := .agg #[.int .i64 0, .slice none 0 0]) (by simp [results, Try.results44, go_sem, c2, c3]) rfl ⟨none, 0, rfl, Or.inl rfl, fun b hb => by simp [blk] at hb, ?_⟩
            exact ((HBW.out.trans (hb.mono (by simp; omega))).setCell (by show w.heap.size ≤ w.heap.size + 1; omega) _).setCell (by show w.heap.size ≤ w.heap.size + 1; omega) _
          · have d2 : decide (lat ≤ 1000000) = true := by simp; omega
            have HW := HB.out.1 rfl
            obtain ⟨e1, e2⟩ := pushed_good (span := span) (now := now) (lat := lat) (L := L) ⟨HW, ⟨by omega, by omega⟩, by omega, by omega⟩
            obtain ⟨e3, e4⟩ := trimmed_good (span := span) (now := now) (L := L) ⟨HW, by omega, by omega⟩
            rw [e1, e2]
            rw [e3, e4] at HTR
            clear e1 e2 e3 e4 bad HW
            generalize hT : young span now L = T at *
            have HTT : Hid (T.length ≤ L.length) := by
              show T.length ≤ L.length
              rw [← hT]
              exact List.length_filter_le _ _
            clear hT
            go_enter Try.func44, Try.ntmps44
            go_wp2_with (first | (go_at_call 41; refine HO.mono ?_; rintro e w1 ⟨rfl, hb⟩; obtain ⟨⟨c0, c1⟩, ⟨c2, c3⟩, c4, c5⟩ := boxes hb; have f0 := c4 0; have f1 := c4 1; have c6 : (w1.alloc (.cells #[.int .i64 span, .slice none 0 0] 27)).cell? ⟨w.heap.size, 0, none⟩ = some (.int .i64 span) := (by rw [World.cell?_alloc_past _ _ _ (by show w.heap.size < w1.heap.size; omega)]; exact c0); have c7 : (w1.alloc (.cells #[.int .i64 span, .slice none 0 0] 27)).cell? ⟨w.heap.size, 1, none⟩ = some (.slice a n c) := (by rw [World.cell?_alloc_past _ _ _ (by show w.heap.size < w1.heap.size; omega)]; exact c1)) | (go_at_call 33; refine (spec_time now _ (by omega) (by omega)).mono ?_; rintro e w9 ⟨rfl, hw9⟩; rw [hw9]; clear hw9 w9) | (go_at_call 34; refine (spec_lat lat _ (by omega) (by omega)).mono ?_; rintro e w9 ⟨rfl, hw9⟩; rw [hw9]; clear hw9 w9))
            have hbb : Below w.heap.size w w1 := HBW.out.trans (hb.mono (by simp; omega))
            refine (HTR _ (HA.out.below (hbb.alloc (by omega) _))).mono ?_
            rintro e w2 ⟨v, rfl, hvo, hb2⟩
            obtain ⟨a2, k2, rfl, hrow, hbase, hrow2, hcap⟩ := owns_row hvo
            have hs2 := hb2.size
            simp at hs2
            have b2 : w2.heap[w1.heap.size]? = some (.cells #[.int .i64 span, .slice none 0 0] 27 (0, 0)) := by
              rw [hb2.block _ (by simp)]
              exact heap_alloc_new w1 _
            have fi := field_items (.int .i64 span) a2 T.length k2 w2
            have HTL : (T.length : Int) ≤ 1048577 := by have := HTT.out; rw [HN.out] at this; omega
            have HR2 : Hid (T = [] ∨ ∃ g, a2 = some ⟨g, 0, none⟩ ∧ w1.heap.size + 1 ≤ g ∧ PRow w2 g 0 T) := by
              rcases hrow2 with h | ⟨g, h1, h2, h3⟩
              · exact Or.inl h
              · exact Or.inr ⟨g, h1, by simpa using h2, h3⟩
            have HBB : Hid (Below w.heap.size w w2) := (hbb.alloc (by omega) _).trans (hb2.mono (by simp; omega))
            have HBX : Hid ((∀ j, w2.cell? ⟨w.heap.size + 1, j, none⟩ = w1.cell? ⟨w.heap.size + 1, j, none⟩) ∧ ∀ j, w2.frozen? ⟨w.heap.size + 1, j, none⟩ = w1.frozen? ⟨w.heap.size + 1, j, none⟩) := by
              have e : w2.heap[w.heap.size + 1]? = w1.heap[w.heap.size + 1]? := by
                rw [hb2.block _ (by simp; omega), Below.heap_alloc _ _ _ (by omega)]
              exact ⟨fun j => World.cell?_of_block e, fun j => World.frozen?_of_block e⟩
            clear hrow2 hrow hbase hvo hcap HTR HO
            go_wp2
            obtain ⟨m, hm⟩ : ∃ m, T.length = m := ⟨_, rfl⟩
            have HM : Hid (T.length = m) := hm
            rw [hm] at HTL fi ⊢
            clear hm
            go_loopw [8, 33] (fun l i wr => ∃ (k : Nat) (v : Value), k ≤ m ∧ i = .int .i64 k ∧ l = .bool (lastLate now (less lat (T.take k))) ∧ Hid (wr.heap[w1.heap.size]? = some (.cells #[.int .i64 span, v] 27 (0, 0))) ∧ wr.ownsRow w2.heap.size 64 2 v (less lat (T.take k)).length (flat (less lat (T.take k))) ∧ Hid (w2.grownBy wr (some w1.heap.size))) (fun _ i _ => m - (intOf i).toNat)
            case atStart => exact ⟨0, .slice none 0 0, by omega, rfl, by simp [less, lastLate], b2, by simpa [less, flat] using World.ownsRow_nil _ _ _ _, ⟨rfl, rfl, rfl, Nat.le_refl _, fun _ _ _ => rfl⟩⟩
            case round =>
              obtain ⟨k, v, hk, rfl, rfl, HV, hown, HG⟩ := hrel
              have hvlt : w1.heap.size < wr.heap.size := (Array.getElem?_eq_some_iff.1 HV.out).1
              by_cases hlt : k < m
              · have hlt2 : k < T.length := by rw [HM.out]; exact hlt
                rcases HR2.out with hnil | ⟨g, rfl, hgb, hr⟩
                · rw [hnil] at hlt2; simp at hlt2
                · have hg := hr.lt
                  have hr1 : PRow wr g 0 T := hr.same (HG.out.block g hg (by simp; omega))
                  have q0 := hr1.c0 k hlt2
                  have q1 := hr1.c1 k hlt2
                  obtain ⟨x, hx⟩ : ∃ x, T[k].1 = x := ⟨_, rfl⟩
                  obtain ⟨y, hy⟩ : ∃ y, T[k].2 = y := ⟨_, rfl⟩
                  rw [hx] at q0
                  rw [hy] at q1
                  simp only [Nat.zero_add] at q0 q1
                  have hli : (k : Int) < (m : Int) := by omega
                  have hp : T[k] = (x, y) := by rw [← hx, ← hy]
                  by_cases hyl : y < lat
                  · have r1 : (wr.alloc (.cells #[.int .i64 x, .int .i64 y] 64)).cell? ⟨w1.heap.size, 1, none⟩ = some v := by
                      rw [World.cell?_alloc_past _ _ _ (by show w1.heap.size < wr.heap.size; exact hvlt)]
                      simp [World.cell?, HV.out]
                    have HT : Hid (less lat (T.take (k + 1)) = less lat (T.take k) ++ [(x, y)]) := by
                      show less _ _ = _
                      unfold less
                      rw [List.take_succ_eq_append_getElem hlt2, List.filter_append]
                      simp [hp, hyl]
                    have hlen : (less lat (T.take k)).length ≤ k := by
                      have h1 := List.length_filter_le (fun p : Int × Int => decide (p.2 < lat)) (T.take k)
                      have h2 := List.length_take_le k T
                      exact Nat.le_trans h1 h2
                    have hw2 : w2.heap.size ≤ wr.heap.size := HG.out.size
                    generalize hD : less lat (T.take k) = D at *
                    clear hD
                    go_wp2_with (at_builtin; refine wpList_append_own _ rfl (.tmp 42) (.tmp 44) 25 rfl w2.heap.size 64 i0 (.agg #[.int .i64 0, .int .i64 0]) 2 16 Try.underlying25 hi hz0 hz1 hz2 rfl (by decide) _ _ _ rfl ((hown.alloc _).alloc _) ⟨wr.heap.size + 1, 0, none⟩ 1 1 [.int .i64 x, .int .i64 y] rfl rfl ?c1 ?c2 ?c3 ?c4 ?c5 ?_)
                    case c1 =>
                      intro j u hj
                      match j, hj with
                      | 0, hj => simp at hj; subst hj; simp [Addr.add]
                      | 1, hj => simp at hj; subst hj; simp [Addr.add]
                    case c2 => intro u hu; simp at hu; rcases hu with rfl | rfl <;> rfl
                    case c3 => unfold maxLen; omega
                    case c4 => omega
                    case c5 => simp; omega
                    · intro v' w3 hown1 hgrow _
                      obtain ⟨g2, cap2, hv2⟩ : ∃ g2 cap2, v' = .slice (some ⟨g2, 0, none⟩) (D.length + 1) cap2 := by
                        rcases hown1.2 with ⟨_, h0⟩ | ⟨g2, cap2, _, h2, _⟩
                        · omega
                        · exact ⟨g2, cap2, h2⟩
                      subst hv2
                      obtain ⟨b3, R1, R2, R3⟩ := push_step (by omega) hown HV.out HG.out (((Below.refl _ _).alloc (Nat.le_refl _) _).alloc (by simp) _) hown1 hgrow
                      have c7 := cell_blk b3 1
                      have f7 := fz_blk b3 1
                      simp only [List.getElem?_toArray, List.getElem?_cons_zero, List.getElem?_cons_succ] at c7
                      have hx3 : w3.cell? ⟨wr.heap.size, 0, none⟩ = some (.int .i64 x) := by
                        refine hgrow.cell ?_ (fun e => by have := (hown.lt _ e.symm).2; simp at this)
                        rw [World.cell?_alloc_past _ _ _ (by simp)]
                        simp
                      have hne : wr.heap.size ≠ w1.heap.size := by omega
                      have hLL : lastLate now (D ++ [(x, y)]) = decide (now ≤ x) := by simp [lastLate]
                      have HLL : Hid (lastLate now (D ++ [(x, y)]) = decide (now ≤ x)) := hLL
                      have HR : Hid ((w3.setCell ⟨w1.heap.size, 1, none⟩ (.slice (some ⟨g2, 0, none⟩) (D.length + 1) cap2)).heap[w1.heap.size]? = some (.cells #[.int .i64 span, .slice (some ⟨g2, 0, none⟩) (D.length + 1) cap2] 27 (0, 0)) ∧ (w3.setCell ⟨w1.heap.size, 1, none⟩ (.slice (some ⟨g2, 0, none⟩) (D.length + 1) cap2)).ownsRow w2.heap.size 64 2 (.slice (some ⟨g2, 0, none⟩) (D.length + 1) cap2) (D ++ [(x, y)]).length (flat (D ++ [(x, y)])) ∧ w2.grownBy (w3.setCell ⟨w1.heap.size, 1, none⟩ (.slice (some ⟨g2, 0, none⟩) (D.length + 1) cap2)) (some w1.heap.size)) := ⟨R1, R2, R3⟩
                      clear hown1 hgrow hown R1 R2 R3 b3 hLL
                      go_wp2
                      go_roundw
                      case rel => exact ⟨k + 1, .slice (some ⟨g2, 0, none⟩) (D.length + 1) cap2, by omega, by go_num, by rw [HT.out, HLL.out], HR.out.1, by rw [HT.out]; exact HR.out.2.1, HR.out.2.2⟩
                      case measure => simp [intOf]; omega
                  · have f2 : decide (y < lat) = false := by simp; omega
                    have HO2 : Hid (wr.ownsRow w2.heap.size 64 2 v (less lat (T.take k)).length (flat (less lat (T.take k)))) := hown
                    clear hown
                    have HT : less lat (T.take (k + 1)) = less lat (T.take k) := by
                      unfold less
                      rw [List.take_succ_eq_append_getElem hlt2, List.filter_append]
                      simp [hp]
                      omega
                    have HT2 : Hid (less lat (T.take (k + 1)) = less lat (T.take k)) := HT
                    clear HT
                    go_wp2
                    go_roundw
                    case rel => exact ⟨k + 1, v, by omega, by go_num, by rw [HT2.out], (Below.heap_alloc _ _ _ hvlt).trans HV.out, by rw [HT2.out]; exact HO2.out.alloc _, grown_alloc HG.out _⟩
                    case measure => simp [intOf]; omega
              · obtain rfl : k = m := by omega
                have HTK : T.take k = T := List.take_of_length_le (by rw [HM.out]; exact Nat.le_refl _)
                rw [HTK] at hown ⊢
                have hlen : (less lat T).length ≤ k := by rw [← HM.out]; exact List.length_filter_le _ _
                generalize hD : less lat T = D at *
                have HD : Hid (less lat T = D) := hD
                clear hD HTK
                have hw2 : w2.heap.size ≤ wr.heap.size := HG.out.size
                have x2 : w2.cell? ⟨w.heap.size + 1, 0, none⟩ = some (.int .i64 0) := (HBX.out.1 0).trans c2
                have x3 : w2.cell? ⟨w.heap.size + 1, 1, none⟩ = some (.slice none 0 0) := (HBX.out.1 1).trans c3
                have x4 : w2.frozen? ⟨w.heap.size + 1, 0, none⟩ = false := (HBX.out.2 0).trans f0
                have x5 : w2.frozen? ⟨w.heap.size + 1, 1, none⟩ = false := (HBX.out.2 1).trans f1
                have HX : Hid (w.heap.size + 1 < w1.heap.size ∧ w1.heap.size < w2.heap.size) := ⟨by omega, by omega⟩
                have HXB : Hid (BoxNew w2 (w.heap.size + 1)) := ⟨x2, x3, x4, x5⟩
                clear x2 x3 x4 x5 c0 c1 c2 c3 c4 c6 c7 f0 f1 hb b2 hbb hb2 fi
                cases hll : lastLate now D with
                | true =>
                  have HP : Hid (put now lat D = D) := by
                    show put now lat D = D
                    unfold put
                    rw [if_pos hll]
                  obtain ⟨g2, cap2, hv2⟩ : ∃ g2 cap2, v = .slice (some ⟨g2, 0, none⟩) D.length cap2 := by
                    rcases hown.2 with ⟨_, h0⟩ | ⟨g2, cap2, _, h2, _⟩
                    · rw [List.length_eq_zero_iff.1 h0] at hll
                      simp [lastLate] at hll
                    · exact ⟨g2, cap2, h2⟩
                  subst hv2
                  have HE : Hid (EndAt w2 wr w1.heap.size span g2 cap2 D) := ⟨HV.out, hown, HG.out⟩
                  obtain ⟨y0, y1, y2, y3, y4, y5, y6⟩ := HE.out.facts HXB.out HX.out.1 HX.out.2
                  clear hown HV HG
                  have hcap : D.length ≤ cap2 := HE.out.cap
                  by_cases h200 : (200 : Int) < (D.length : Int)
                  · have HC : Hid (cutOne (put now lat D) = D.drop 1) := by
                      show cutOne (put now lat D) = _
                      rw [HP.out]
                      unfold cutOne
                      rw [if_pos (by omega)]
                    go_wp2
                    refine bodyPost_ret (v := .agg #[.int .i64 span, .slice (some ⟨g2, 2, none⟩) (D.length - 1) (cap2 - 1)]) (by simp [results, Try.results44, go_sem, y3, y4]) rfl ?_
                    rw [HC.out]
                    exact HE.out.cut HBB.out HX.out.1 HX.out.2 (by omega)
                  · have HC : Hid (cutOne (put now lat D) = D) := by
                      show cutOne (put now lat D) = D
                      rw [HP.out]
                      unfold cutOne
                      rw [if_neg (by omega)]
                    go_wp2
                    refine bodyPost_ret (v := .agg #[.int .i64 span, .slice (some ⟨g2, 0, none⟩) D.length cap2]) (by simp [results, Try.results44, go_sem, y3, y4]) rfl ?_
                    rw [HC.out]
                    exact HE.out.plain HBB.out HX.out.1 HX.out.2
                | false =>
                  have HP : Hid (put now lat D = D ++ [(now, lat)]) := by
                    show put now lat D = _
                    unfold put
                    rw [if_neg (by rw [hll]; simp)]
                  have r1 : wr.cell? ⟨w1.heap.size, 1, none⟩ = some v := by simp [World.cell?, HV.out]
                  go_wp2_with (at_builtin; refine wpList_append_own _ rfl (.tmp 55) (.tmp 59) 25 rfl w2.heap.size 64 i0 (.agg #[.int .i64 0, .int .i64 0]) 2 16 Try.underlying25 hi hz0 hz1 hz2 rfl (by decide) _ _ _ rfl (hown.alloc _) ⟨wr.heap.size, 0, none⟩ 1 1 [.int .i64 now, .int .i64 lat] rfl rfl ?c1 ?c2 ?c3 ?c4 ?c5 ?_)
                  case c1 =>
                    intro j u hj
                    match j, hj with
                    | 0, hj => simp at hj; subst hj; simp [Addr.add]
                    | 1, hj => simp at hj; subst hj; simp [Addr.add]
                  case c2 => intro u hu; simp at hu; rcases hu with rfl | rfl <;> rfl
                  case c3 => unfold maxLen; omega
                  case c4 => omega
                  case c5 => simp; omega
                  · intro v' w3 hown1 hgrow _
                    obtain ⟨g2, cap2, hv2⟩ : ∃ g2 cap2, v' = .slice (some ⟨g2, 0, none⟩) (D.length + 1) cap2 := by
                      rcases hown1.2 with ⟨_, h0⟩ | ⟨g2, cap2, _, h2, _⟩
                      · omega
                      · exact ⟨g2, cap2, h2⟩
                    subst hv2
                    obtain ⟨b3, R1, R2, R3⟩ := push_step (by omega) hown HV.out HG.out ((Below.refl _ _).alloc (Nat.le_refl _) _) hown1 hgrow
                    have z7 := cell_blk b3 1
                    have fz7 := fz_blk b3 1
                    simp only [List.getElem?_toArray, List.getElem?_cons_zero, List.getElem?_cons_succ] at z7
                    have hPl : D.length + 1 = (D ++ [(now, lat)]).length := by simp
                    have HPl : Hid (D.length + 1 = (D ++ [(now, lat)]).length) := hPl
                    have HE : Hid (EndAt w2 (w3.setCell ⟨w1.heap.size, 1, none⟩ (.slice (some ⟨g2, 0, none⟩) (D.length + 1) cap2)) w1.heap.size span g2 cap2 (D ++ [(now, lat)])) := by
                      show EndAt _ _ _ _ _ _ _
                      refine ⟨?_, ?_, R3⟩
                      · rw [R1, hPl]
                      · rw [← hPl]; rw [← hPl] at R2; exact R2
                    obtain ⟨y0, y1, y2, y3, y4, y5, y6⟩ := HE.out.facts HXB.out HX.out.1 HX.out.2
                    have eb : w3.heap[w.heap.size + 1]? = (w3.setCell ⟨w1.heap.size, 1, none⟩ (.slice (some ⟨g2, 0, none⟩) (D.length + 1) cap2)).heap[w.heap.size + 1]? := (Below.heap_setCell _ _ _ _ (by show w.heap.size + 1 ≠ w1.heap.size; omega)).symm
                    have z0 := cell_blk b3 0
                    simp only [List.getElem?_toArray, List.getElem?_cons_zero] at z0
                    have z3 := (World.cell?_of_block (a := ⟨w.heap.size + 1, 0, none⟩) eb).trans y3
                    have z4 := (World.cell?_of_block (a := ⟨w.heap.size + 1, 1, none⟩) eb).trans y4
                    have z5 := (World.frozen?_of_block (a := ⟨w.heap.size + 1, 0, none⟩) eb).trans y5
                    have z6 := (World.frozen?_of_block (a := ⟨w.heap.size + 1, 1, none⟩) eb).trans y6
                    have hcap : D.length + 1 ≤ cap2 := by rw [hPl]; exact HE.out.cap
                    have hne1 : w1.heap.size ≠ w.heap.size + 1 := by omega
                    have hne2 : w.heap.size + 1 ≠ w1.heap.size := by omega
                    clear hown1 hgrow hown R1 R2 R3 b3 hPl HV HG y0 y1 y2 y3 y4 y5 y6 eb
                    by_cases h200 : (200 : Int) < (D.length : Int) + 1
                    · have HC : Hid (cutOne (put now lat D) = (D ++ [(now, lat)]).drop 1) := by
                        show cutOne (put now lat D) = _
                        rw [HP.out]
                        unfold cutOne
                        rw [if_pos (by simp; omega)]
                      go_wp2
                      refine bodyPost_ret (v := .agg #[.int .i64 span, .slice (some ⟨g2, 2, none⟩) D.length (cap2 - 1)]) (by simp [results, Try.results44, go_sem, z3, z4]) rfl ?_
                      rw [HC.out]
                      have hfin := fun x y z => HE.out.cut (x := x) (y := y) (z := z) HBB.out HX.out.1 HX.out.2 (by rw [← HPl.out]; omega)
                      rw [← HPl.out, Nat.add_sub_cancel] at hfin
                      exact hfin _ _ _
                    · have HC : Hid (cutOne (put now lat D) = D ++ [(now, lat)]) := by
                        show cutOne (put now lat D) = _
                        rw [HP.out]
                        unfold cutOne
                        rw [if_neg (by simp; omega)]
                      go_wp2
                      refine bodyPost_ret (v := .agg #[.int .i64 span, .slice (some ⟨g2, 0, none⟩) (D.length + 1) cap2]) (by simp [results, Try.results44, go_sem, z3, z4]) rfl ?_
                      rw [HC.out]
                      have hfin := fun x y => HE.out.plain (x := x) (y := y) HBB.out HX.out.1 HX.out.2
                      rw [← HPl.out] at hfin
                      exact hfin _ _
end Go.Proofs.Ytbdkepnjhcdpnaa.PushWalks
