/- What the model's Push answers at every window of at most 2 to the 20 samples: those that are less, and the new one behind them, in a list of the call's own, and nothing else turns. -/
import Derived.Test.YtnjjpfdhadmndaaRows
import Derived.Test.YtnjjpfdhadmndaaPairWalks
import Derived.Test.YtnjjpfdhadmndaaWinOk
import Derived.Test.YtnjjpfdhadmndaaTrimWalks
import Derived.WalkKit
import Derived.WalkSmall
import Derived.BigQuiet
import Derived.Deep.RegionWith
import Derived.Laws.AppendOwn
namespace Go.Proofs.Ytnjjpfdhadmndaa.PushWalks
open Go.RowKit PairWalks WinOk TrimWalks
set_option maxRecDepth 8000

/-- Those whose latency is less. -/
def less (lat : Int) (T : List (Int × Int)) : List (Int × Int) := T.filter fun p => decide (p.2 < lat)

/-- The last one is no earlier than now. -/
def lastLate (now : Int) (D : List (Int × Int)) : Bool := match D.getLast? with
  | some p => decide (now ≤ p.1)
  | none => false

def put (now lat : Int) (D : List (Int × Int)) : List (Int × Int) := if lastLate now D then D else D ++ [(now, lat)]
def cutOne (D : List (Int × Int)) : List (Int × Int) := if 200 < D.length then D.drop 1 else D

def pushOk (span now lat : Int) (L : List (Int × Int)) : Prop := winOk span L ∧ (0 ≤ now ∧ now ≤ 1000000000) ∧ 0 ≤ lat ∧ lat ≤ 1000000
def pushOkD (span now lat : Int) (L : List (Int × Int)) : Decidable (pushOk span now lat L) := by
  unfold pushOk
  exact @instDecidableAnd _ _ (winOkD span L) inferInstance
def pushed (span now lat : Int) (L : List (Int × Int)) : List (Int × Int) := @ite _ (pushOk span now lat L) (pushOkD span now lat L) (cutOne (put now lat (less lat (young span now L)))) []
def pushSpan (span now lat : Int) (L : List (Int × Int)) : Int := @ite _ (pushOk span now lat L) (pushOkD span now lat L) span 0

theorem pushed_bad {span now lat : Int} {L : List (Int × Int)} (h : ¬ pushOk span now lat L) : pushed span now lat L = [] ∧ pushSpan span now lat L = 0 := by
  unfold pushed pushSpan
  exact ⟨if_neg h, if_neg h⟩

theorem pushed_good {span now lat : Int} {L : List (Int × Int)} (h : pushOk span now lat L) : pushed span now lat L = cutOne (put now lat (less lat (young span now L))) ∧ pushSpan span now lat L = span := by
  unfold pushed pushSpan
  exact ⟨if_pos h, if_pos h⟩

theorem flat_get (D : List (Int × Int)) (i : Nat) (h : i < D.length) : (flat D)[i * 2]? = some (.int .i64 D[i].1) ∧ (flat D)[i * 2 + 1]? = some (.int .i64 D[i].2) := by
  induction D generalizing i with
  | nil => simp at h
  | cons p D ih =>
    cases i with
    | zero => simp [flat]
    | succ i =>
      have h2 := ih i (by simpa using h)
      have e : flat (p :: D) = .int .i64 p.1 :: .int .i64 p.2 :: flat D := by simp [flat]
      rw [e, show (i + 1) * 2 = i * 2 + 1 + 1 from by omega]
      simpa using h2

/-- A list that the call owns is a list of samples at its front. -/
theorem owns_row {w : World} {base : Nat} {v : Value} {D : List (Int × Int)} (h : w.ownsRow base 31 2 v D.length (flat D)) :
    ∃ a cap, v = .slice a D.length cap ∧ WOk w a D ∧ (∀ b, blk a = some b → base ≤ b) ∧ (D = [] ∨ ∃ g, a = some ⟨g, 0, none⟩ ∧ base ≤ g ∧ PRow w g 0 D) ∧ D.length ≤ cap := by
  rcases h.2 with ⟨hv, h0⟩ | ⟨g, cap, cur, hv, hb, hg, hnc, hm, hs, ht⟩
  · have hD : D = [] := List.length_eq_zero_iff.1 h0
    subst hD
    exact ⟨none, 0, hv, Or.inl rfl, fun b hb => by simp [blk] at hb, Or.inl rfl, Nat.le_refl _⟩
  · have hr : PRow w g 0 D := by
      refine ⟨cur, hg, by omega, fun i hi => ?_⟩
      obtain ⟨h1, h2⟩ := flat_get D i hi
      rw [← ht] at h1 h2
      rw [List.getElem?_take_of_lt (by omega)] at h1 h2
      simp only [Array.getElem?_toList] at h1 h2
      exact ⟨by simpa using h1, by simpa using h2⟩
    refine ⟨some ⟨g, 0, none⟩, cap, hv, Or.inr ⟨g, 0, rfl, hr⟩, fun b hb2 => ?_, Or.inr ⟨g, rfl, hb, hr⟩, hnc⟩
    simp [blk] at hb2
    omega

/-- One sample more in the list that grows, and its variable. -/
theorem push_step {w2 wr W w3 : World} {bo : Nat} {x y : Int} {s v v' : Value} {D : List (Int × Int)} {t : TypeId} (hbo : bo < w2.heap.size) (hown : wr.ownsRow w2.heap.size 31 2 v D.length (flat D)) (hv : wr.heap[bo]? = some (.cells #[s, v] t (0, 0))) (h0 : w2.grownBy wr (some bo))
    (hW : Below wr.heap.size wr W) (h1 : w3.ownsRow w2.heap.size 31 2 v' (D.length + 1) (flat D ++ [.int .i64 x, .int .i64 y])) (hg : W.grownBy w3 v.ownBlock) :
    w3.heap[bo]? = some (.cells #[s, v] t (0, 0)) ∧ (w3.setCell ⟨bo, 1, none⟩ v').heap[bo]? = some (.cells #[s, v'] t (0, 0)) ∧
    (w3.setCell ⟨bo, 1, none⟩ v').ownsRow w2.heap.size 31 2 v' (D ++ [(x, y)]).length (flat (D ++ [(x, y)])) ∧ w2.grownBy (w3.setCell ⟨bo, 1, none⟩ v') (some bo) := by
  have hlt : bo < wr.heap.size := (Array.getElem?_eq_some_iff.1 hv).1
  have hs1 := hW.size
  have hs2 := hg.size
  have hs0 := h0.size
  have hne : some bo ≠ v.ownBlock := fun e => by have := (hown.lt _ e.symm).1; omega
  have e2 : w3.heap[bo]? = some (.cells #[s, v] t (0, 0)) := by
    rw [hg.block _ (by omega) hne, hW.block _ hlt]
    exact hv
  refine ⟨e2, ?_, ?_, ?_⟩
  · have := heap_setCell_at e2 1 v'
    simpa using this
  · rw [flat_snoc, List.length_append]
    refine h1.kept (row := some bo) ⟨rfl, rfl, rfl, by simp, fun k hk hne => Below.heap_setCell _ _ _ _ (fun e => hne (by rw [e]))⟩ (Or.inr fun e => ?_)
    have := (h1.lt _ e).1
    omega
  · refine ⟨hg.os.trans (hW.os.trans h0.os), hg.tape.trans (hW.tape.trans h0.tape), hg.output.trans (hW.output.trans h0.output), by simp; omega, fun k hk hne2 => ?_⟩
    rw [Below.heap_setCell _ _ _ _ (fun e => hne2 (by rw [e])), hg.block k (by omega) (fun e => by have := (hown.lt _ e.symm).1; omega), hW.block k (by omega)]
    exact h0.block k hk hne2

theorem grown_alloc {w w1 : World} {r : Option Nat} (h : w.grownBy w1 r) (o : Obj) : w.grownBy (w1.alloc o) r :=
  ⟨h.os, h.tape, h.output, by have := h.size; simp; omega, fun k hk hne => (Below.heap_alloc _ _ _ (by have := h.size; omega)).trans (h.block k hk hne)⟩

theorem field_items (x : Value) (a : Option Addr) (n c : Nat) (w : World) : (Instr.field 26 (.agg #[x, .slice a n c]) 1).run Try.prog w = .ok (.slice a n c) w := by
  simp [Instr.field, run_underlying Try.underlying26, part, asAgg, go_sem]

/-- A variable for a window, empty as it was laid. -/
def BoxNew (w : World) (b : Nat) : Prop := w.cell? ⟨b, 0, none⟩ = some (.int .i64 0) ∧ w.cell? ⟨b, 1, none⟩ = some (.slice none 0 0) ∧ w.frozen? ⟨b, 0, none⟩ = false ∧ w.frozen? ⟨b, 1, none⟩ = false

/-- Behind the loop: the list that grew and its variable. -/
def EndAt (w2 W : World) (bo : Nat) (span : Int) (g cap : Nat) (P : List (Int × Int)) : Prop :=
  W.heap[bo]? = some (.cells #[.int .i64 span, .slice (some ⟨g, 0, none⟩) P.length cap] 26 (0, 0)) ∧ W.ownsRow w2.heap.size 31 2 (.slice (some ⟨g, 0, none⟩) P.length cap) P.length (flat P) ∧ w2.grownBy W (some bo)

theorem EndAt.facts {w2 W : World} {bo rb : Nat} {span : Int} {g cap : Nat} {P : List (Int × Int)} (h : EndAt w2 W bo span g cap P) (hn : BoxNew w2 rb) (h1 : rb < bo) (h2 : bo < w2.heap.size) :
    W.cell? ⟨bo, 0, none⟩ = some (.int .i64 span) ∧ W.cell? ⟨bo, 1, none⟩ = some (.slice (some ⟨g, 0, none⟩) P.length cap) ∧ W.frozen? ⟨bo, 1, none⟩ = false ∧ W.cell? ⟨rb, 0, none⟩ = some (.int .i64 0) ∧ W.cell? ⟨rb, 1, none⟩ = some (.slice none 0 0) ∧ W.frozen? ⟨rb, 0, none⟩ = false ∧ W.frozen? ⟨rb, 1, none⟩ = false := by
  obtain ⟨hv, _, hg⟩ := h
  obtain ⟨n0, n1, n2, n3⟩ := hn
  have e : W.heap[rb]? = w2.heap[rb]? := hg.block rb (by omega) (by simp; omega)
  refine ⟨by simp [World.cell?, hv], by simp [World.cell?, hv], by simp [World.frozen?, hv], ?_, ?_, ?_, ?_⟩
  · exact (World.cell?_of_block (a := ⟨rb, 0, none⟩) e).trans n0
  · exact (World.cell?_of_block (a := ⟨rb, 1, none⟩) e).trans n1
  · exact (World.frozen?_of_block (a := ⟨rb, 0, none⟩) e).trans n2
  · exact (World.frozen?_of_block (a := ⟨rb, 1, none⟩) e).trans n3

/-- A window of the call's own is answered, and nothing else turns. -/
def Answers (w : World) (s : Int) (P : List (Int × Int)) (e : Ending) (w' : World) : Prop :=
  ∃ a2 c2, e = .returned (.agg #[.int .i64 s, .slice a2 P.length c2]) ∧ WOk w' a2 P ∧ (∀ b, blk a2 = some b → w.heap.size ≤ b) ∧ Below w.heap.size w w'

theorem EndAt.cap {w2 W : World} {bo : Nat} {span : Int} {g cap : Nat} {P : List (Int × Int)} (h : EndAt w2 W bo span g cap P) : P.length ≤ cap := by
  rcases h.2.1.2 with ⟨h1, _⟩ | ⟨g2, cap2, _, h1, _, _, h2, _⟩
  · simp at h1
  · injection h1 with _ _ h3
    omega

theorem EndAt.row {w2 W : World} {bo : Nat} {span : Int} {g cap : Nat} {P : List (Int × Int)} (h : EndAt w2 W bo span g cap P) : PRow W g 0 P ∧ w2.heap.size ≤ g := by
  obtain ⟨a, cp, hv, _, _, h2, _⟩ := owns_row h.2.1
  injection hv with h3 _ h4
  subst h3
  rcases h2 with h2 | ⟨g2, e, h5, h6⟩
  · subst h2
    rcases h.2.1.2 with ⟨h1, _⟩ | ⟨g2, cap2, cur, h1, h7, h8, _⟩
    · simp at h1
    · injection h1 with h9 _ _
      injection h9 with h9
      injection h9 with h9 _ _
      subst h9
      exact ⟨⟨cur, h8, by simp, fun i hi => by simp at hi⟩, h7⟩
  · injection e with e
    injection e with e _ _
    subst e
    exact ⟨h6, h5⟩

theorem grown_below {w w2 W : World} {bo : Nat} (hb : Below w.heap.size w w2) (hg : w2.grownBy W (some bo)) (hbo : w.heap.size ≤ bo) : Below w.heap.size w W :=
  hb.grown hg hb.size (fun k hk => by injection hk with hk; omega)

theorem EndAt.plain {w w2 W : World} {bo : Nat} {span : Int} {g cap : Nat} {P : List (Int × Int)} (h : EndAt w2 W bo span g cap P) (hb : Below w.heap.size w w2) (h1 : w.heap.size + 1 < bo) (h2 : bo < w2.heap.size) {x y : Value} :
    Answers w span P (.returned (.agg #[.int .i64 span, .slice (some ⟨g, 0, none⟩) P.length cap])) ((W.setCell ⟨w.heap.size + 1, 0, none⟩ x).setCell ⟨w.heap.size + 1, 1, none⟩ y) := by
  obtain ⟨hr, hg⟩ := h.row
  refine ⟨some ⟨g, 0, none⟩, cap, rfl, Or.inr ⟨g, 0, rfl, hr.same ?_⟩, fun b hb2 => ?_, ?_⟩
  · rw [Below.heap_setCell _ _ _ _ (by show g ≠ w.heap.size + 1; omega), Below.heap_setCell _ _ _ _ (by show g ≠ w.heap.size + 1; omega)]
  · simp [blk] at hb2
    omega
  · exact ((grown_below hb h.2.2 (by omega)).setCell (by show w.heap.size ≤ w.heap.size + 1; omega) _).setCell (by show w.heap.size ≤ w.heap.size + 1; omega) _

theorem EndAt.cut {w w2 W : World} {bo : Nat} {span : Int} {g cap : Nat} {P : List (Int × Int)} (h : EndAt w2 W bo span g cap P) (hb : Below w.heap.size w w2) (h1 : w.heap.size + 1 < bo) (h2 : bo < w2.heap.size) (hp : 1 ≤ P.length) {x y z : Value} :
    Answers w span (P.drop 1) (.returned (.agg #[.int .i64 span, .slice (some ⟨g, 2, none⟩) (P.length - 1) (cap - 1)])) (((W.setCell ⟨bo, 1, none⟩ z).setCell ⟨w.heap.size + 1, 0, none⟩ x).setCell ⟨w.heap.size + 1, 1, none⟩ y) := by
  obtain ⟨hr, hg⟩ := h.row
  have hr2 : PRow W g 2 (P.drop 1) := by
    obtain ⟨cur, hc, hl, hi⟩ := hr
    refine ⟨cur, hc, by rw [List.length_drop]; omega, fun i hi2 => ?_⟩
    rw [List.length_drop] at hi2
    have := hi (i + 1) (by omega)
    rw [List.getElem_drop]
    simp only [show 2 + i * 2 = 0 + (i + 1) * 2 from by omega, show 1 + i = i + 1 from by omega]
    exact this
  refine ⟨some ⟨g, 2, none⟩, cap - 1, by rw [List.length_drop], Or.inr ⟨g, 2, rfl, hr2.same ?_⟩, fun b hb2 => ?_, ?_⟩
  · rw [Below.heap_setCell _ _ _ _ (by show g ≠ w.heap.size + 1; omega), Below.heap_setCell _ _ _ _ (by show g ≠ w.heap.size + 1; omega), Below.heap_setCell _ _ _ _ (by show g ≠ bo; omega)]
  · simp [blk] at hb2
    omega
  · exact (((grown_below hb h.2.2 (by omega)).setCell (by show w.heap.size ≤ bo; omega) _).setCell (by show w.heap.size ≤ w.heap.size + 1; omega) _).setCell (by show w.heap.size ≤ w.heap.size + 1; omega) _

end Go.Proofs.Ytnjjpfdhadmndaa.PushWalks
