/- What the program's queue of samples does: its first and its last one, and what is left behind each of them; nothing ahead of the queue's own memory turns. -/
import Derived.Test.YtbdkepnjhcdpnaaRows
import Derived.Test.YtbdkepnjhcdpnaaPairWalks
import Derived.Test.YtbdkepnjhcdpnaaWinOk
import Derived.Test.YtbdkepnjhcdpnaaTrimWalks
import Derived.WalkKit
import Derived.WalkSmall
import Derived.BigQuiet
import Derived.Deep.RegionWith
import Derived.Laws.AppendOwn
import Derived.Deep.RegionLawGrows
namespace Go.Proofs.Ytbdkepnjhcdpnaa.Queue
open Go.RowKit PairWalks WinOk TrimWalks
set_option maxRecDepth 8000

/-- A list of samples in a block behind base, from place o of it on. -/
def QV (w : World) (base : Nat) (a : Option Addr) (c : Nat) (D : List (Int × Int)) : Prop :=
  D.length ≤ c ∧ c ≤ maxLen ∧ ((a = none ∧ c = 0) ∨ ∃ g o cur, a = some ⟨g, o, none⟩ ∧ base ≤ g ∧ w.heap[g]? = some (.cells cur 64 (0, 0)) ∧ o + c * 2 ≤ cur.size ∧ ∀ (i : Nat) (h : i < D.length), cur[o + i * 2]? = some (.int .i64 D[i].1) ∧ cur[o + i * 2 + 1]? = some (.int .i64 D[i].2))

/-- A queue at p that holds these samples. -/
def QAt (w : World) (base p : Nat) (D : List (Int × Int)) : Prop :=
  base ≤ p ∧ ∃ a c, w.heap[p]? = some (.cells #[.slice a D.length c] 101 (0, 0)) ∧ QV w base a c D

theorem QV.row {w : World} {base c : Nat} {a : Option Addr} {D : List (Int × Int)} (h : QV w base a c D) : WOk w a D := by
  obtain ⟨hl, _, h⟩ := h
  rcases h with ⟨_, h0⟩ | ⟨g, o, cur, ha, hb, hg, hs, hc⟩
  · exact Or.inl (List.length_eq_zero_iff.1 (by omega))
  · exact Or.inr ⟨g, o, ha, cur, hg, by omega, hc⟩

theorem QV.same {w w' : World} {base c : Nat} {a : Option Addr} {D : List (Int × Int)} (h : QV w base a c D) (e : ∀ g, blk a = some g → w'.heap[g]? = w.heap[g]?) : QV w' base a c D := by
  obtain ⟨hl, hm, h⟩ := h
  refine ⟨hl, hm, ?_⟩
  rcases h with h0 | ⟨g, o, cur, ha, hb, hg, hs, hc⟩
  · exact Or.inl h0
  · exact Or.inr ⟨g, o, cur, ha, hb, by rw [e g (by rw [ha]; rfl)]; exact hg, hs, hc⟩

theorem QV.lt {w : World} {base c : Nat} {a : Option Addr} {D : List (Int × Int)} (h : QV w base a c D) : ∀ g, blk a = some g → base ≤ g ∧ g < w.heap.size ∧ ∃ cur, w.heap[g]? = some (.cells cur 64 (0, 0)) := by
  obtain ⟨hl, hm, h⟩ := h
  intro g hg
  rcases h with ⟨h0, _⟩ | ⟨g2, o, cur, ha, hb, hg2, hs, hc⟩
  · subst h0; simp [blk] at hg
  · subst ha
    simp [blk] at hg
    subst hg
    exact ⟨hb, (Array.getElem?_eq_some_iff.1 hg2).1, cur, hg2⟩

theorem QAt.lt {w : World} {base p : Nat} {D : List (Int × Int)} (h : QAt w base p D) : base ≤ p ∧ p < w.heap.size := by
  obtain ⟨hb, a, c, hp, _⟩ := h
  exact ⟨hb, (Array.getElem?_eq_some_iff.1 hp).1⟩

theorem QAt.below {w w' : World} {base p : Nat} {D : List (Int × Int)} (h : QAt w base p D) (hb : Below w.heap.size w w') : QAt w' base p D := by
  obtain ⟨h0, a, c, hp, hv⟩ := h
  refine ⟨h0, a, c, ?_, hv.same fun g hg => hb.block g (hv.lt g hg).2.1⟩
  rw [hb.block p (Array.getElem?_eq_some_iff.1 hp).1]
  exact hp

theorem QAt.mono {w : World} {base b2 p : Nat} {D : List (Int × Int)} (h : QAt w base p D) (hb : b2 ≤ base) : QAt w b2 p D := by
  obtain ⟨h0, a, c, hp, hl, hm, hv⟩ := h
  refine ⟨by omega, a, c, hp, hl, hm, ?_⟩
  rcases hv with hv | ⟨g, o, cur, ha, hb2, rest⟩
  · exact Or.inl hv
  · exact Or.inr ⟨g, o, cur, ha, by omega, rest⟩

/-- The list's own cell takes another part of the same block. -/
theorem QAt.turn {w : World} {base p c c2 n : Nat} {a a2 : Option Addr} {D D2 : List (Int × Int)} (h0 : base ≤ p) (hp : w.heap[p]? = some (.cells #[.slice a D.length c] 101 (0, 0))) (hv2 : QV w base a2 c2 D2) (hn : n = D2.length) :
    QAt (w.setCell ⟨p, 0, none⟩ (.slice a2 n c2)) base p D2 ∧ w.grownBy (w.setCell ⟨p, 0, none⟩ (.slice a2 n c2)) (some p) := by
  subst hn
  refine ⟨⟨h0, a2, c2, ?_, hv2.same fun g hg => Below.heap_setCell _ _ _ _ ?_⟩, ?_⟩
  · have := heap_setCell_at hp 0 (.slice a2 D2.length c2)
    simpa using this
  · intro e
    obtain ⟨_, _, cur, hcur⟩ := hv2.lt g hg
    rw [e] at hcur
    have := hp.symm.trans hcur
    simp at this
  · exact grown_store (grown_refl _ _) _ _

theorem QV.tail {w : World} {base c : Nat} {a : Option Addr} {x y : Int} {D : List (Int × Int)} (h : QV w base a c ((x, y) :: D)) : ∃ g o, a = some ⟨g, o, none⟩ ∧ QV w base (if c = 1 then some ⟨g, o, none⟩ else some ⟨g, o + 2, none⟩) (c - 1) D ∧ w.cell? ⟨g, o, none⟩ = some (.int .i64 x) ∧ w.cell? ⟨g, o + 1, none⟩ = some (.int .i64 y) ∧ D.length + 1 ≤ c := by
  obtain ⟨hl, hm, h⟩ := h
  simp at hl
  rcases h with ⟨_, h0⟩ | ⟨g, o, cur, ha, hb, hg, hs, hc⟩
  · omega
  · have h0 := hc 0 (by simp)
    simp at h0
    refine ⟨g, o, ha, ⟨by omega, by omega, Or.inr ?_⟩, by simp [World.cell?, hg, h0], by simp [World.cell?, hg, h0], hl⟩
    by_cases h1 : c = 1
    · rw [if_pos h1]
      exact ⟨g, o, cur, rfl, hb, hg, by omega, fun i hi => by omega⟩
    · rw [if_neg h1]
      refine ⟨g, o + 2, cur, rfl, hb, hg, by omega, fun i hi => ?_⟩
      have := hc (i + 1) (by simp; omega)
      simp only [List.getElem_cons_succ] at this
      rw [show o + 2 + i * 2 = o + (i + 1) * 2 from by omega]
      exact this

theorem QV.init {w : World} {base c : Nat} {a : Option Addr} {x y : Int} {D : List (Int × Int)} (h : QV w base a c (D ++ [(x, y)])) : ∃ g o, a = some ⟨g, o, none⟩ ∧ QV w base (some ⟨g, o, none⟩) c D ∧ w.cell? ⟨g, o + D.length * 2, none⟩ = some (.int .i64 x) ∧ w.cell? ⟨g, o + D.length * 2 + 1, none⟩ = some (.int .i64 y) ∧ D.length + 1 ≤ c := by
  obtain ⟨hl, hm, h⟩ := h
  simp at hl
  rcases h with ⟨_, h0⟩ | ⟨g, o, cur, ha, hb, hg, hs, hc⟩
  · omega
  · have h0 := hc D.length (by simp)
    simp at h0
    refine ⟨g, o, ha, ⟨by omega, by omega, Or.inr ⟨g, o, cur, rfl, hb, hg, by omega, fun i hi => ?_⟩⟩, by simp [World.cell?, hg, h0], by simp [World.cell?, hg, h0], hl⟩
    have := hc i (by simp; omega)
    rw [List.getElem_append_left hi] at this
    exact this

theorem cell_past {w : World} {p i : Nat} {v : Value} {o : Obj} (h : w.cell? ⟨p, i, none⟩ = some v) : (w.alloc o).cell? ⟨p, i, none⟩ = some v := by
  rw [World.cell?_alloc_past _ _ _ (World.block_lt_of_cell? w _ h)]
  exact h

theorem first_some (base p : Nat) (x y : Int) (D : List (Int × Int)) (w : World) (h : QAt w base p ((x, y) :: D)) :
    Calls Try.prog 84 #[.pointer (some ⟨p, 0, none⟩)] w fun e w' => e = .returned (.tuple #[.agg #[.int .i64 x, .int .i64 y], .bool true]) ∧ Below w.heap.size w w' := by
  obtain ⟨h0, a, c, hp, hv⟩ := h
  obtain ⟨g, o, rfl, hv2, c0, c1, hl⟩ := hv.tail
  have q0 := cell_past (o := .cells #[.int .i64 0, .int .i64 0] 64) (cell_blk hp 0)
  have q1 := cell_past (o := .cells #[.int .i64 0, .int .i64 0] 64) c0
  have q2 := cell_past (o := .cells #[.int .i64 0, .int .i64 0] 64) c1
  clear hv2 hv hp c0 c1
  go_enter Try.func84, Try.ntmps84
  go_wp2
  exact bodyPost_ret (v := .tuple #[.agg #[.int .i64 x, .int .i64 y], .bool true]) (by simp [results, Try.results84, go_sem]) rfl ⟨rfl, (Below.refl _ _).alloc (Nat.le_refl _) _⟩

theorem first_none (base p : Nat) (w : World) (h : QAt w base p []) :
    Calls Try.prog 84 #[.pointer (some ⟨p, 0, none⟩)] w fun e w' => e = .returned (.tuple #[.agg #[.int .i64 0, .int .i64 0], .bool false]) ∧ Below w.heap.size w w' := by
  obtain ⟨h0, a, c, hp, hv⟩ := h
  have q0 := cell_past (o := .cells #[.int .i64 0, .int .i64 0] 64) (cell_blk hp 0)
  clear hv hp
  go_enter Try.func84, Try.ntmps84
  go_wp2
  exact bodyPost_ret (v := .tuple #[.agg #[.int .i64 0, .int .i64 0], .bool false]) (by simp [results, Try.results84, go_sem]) rfl ⟨rfl, ((Below.refl _ _).alloc (Nat.le_refl _) _).alloc (by simp) _⟩

theorem drop_first (base p : Nat) (x y : Int) (D : List (Int × Int)) (w : World) (h : QAt w base p ((x, y) :: D)) :
    Calls Try.prog 79 #[.pointer (some ⟨p, 0, none⟩)] w fun e w' => e = .returned (.tuple #[]) ∧ QAt w' base p D ∧ w.grownBy w' (some p) := by
  obtain ⟨h0, a, c, hp, hv⟩ := h
  obtain ⟨g, o, rfl, hv2, _, _, hl⟩ := hv.tail
  have H := QAt.turn (n := D.length) h0 hp hv2 rfl
  have q0 := cell_blk hp 0
  have f0 := fz_blk hp 0
  have hl2 : D.length + 1 ≤ c := hl
  by_cases h1 : c = 1
  · rw [if_pos h1] at H
    subst h1
    obtain rfl : D = [] := List.length_eq_zero_iff.1 (by omega)
    have HH : Hid (QAt (w.setCell ⟨p, 0, none⟩ (.slice (some ⟨g, o, none⟩) 0 0)) base p [] ∧ w.grownBy (w.setCell ⟨p, 0, none⟩ (.slice (some ⟨g, o, none⟩) 0 0)) (some p)) := H
    clear hv2 hv hp H
    go_enter Try.func79, Try.ntmps79
    go_wp2
    exact bodyPost_end (v := .tuple #[]) (by simp [results, Try.results79]) rfl ⟨rfl, HH.out.1, HH.out.2⟩
  · rw [if_neg h1] at H
    have HH : Hid (QAt (w.setCell ⟨p, 0, none⟩ (.slice (some ⟨g, o + 2, none⟩) D.length (c - 1))) base p D ∧ w.grownBy (w.setCell ⟨p, 0, none⟩ (.slice (some ⟨g, o + 2, none⟩) D.length (c - 1))) (some p)) := H
    clear hv2 hv hp H
    go_enter Try.func79, Try.ntmps79
    go_wp2
    exact bodyPost_end (v := .tuple #[]) (by simp [results, Try.results79]) rfl ⟨rfl, HH.out.1, HH.out.2⟩

theorem QAt.drew {w : World} {base p : Nat} {D : List (Int × Int)} (h : QAt w base p D) : QAt w.drew base p D := h

theorem drop_last (base p : Nat) (x y : Int) (D : List (Int × Int)) (w : World) (h : QAt w base p (D ++ [(x, y)])) :
    Calls Try.prog 88 #[.pointer (some ⟨p, 0, none⟩)] w fun e w' => e = .returned (.tuple #[]) ∧ QAt w' base p D ∧ w.grownBy w' (some p) := by
  obtain ⟨h0, a, c, hp, hv⟩ := h
  obtain ⟨g, o, rfl, hv2, _, _, hl⟩ := hv.init
  have hm : c ≤ maxLen := hv.2.1
  unfold maxLen at hm
  have H := QAt.turn (n := D.length) h0 hp hv2 rfl
  have HH : Hid (QAt (w.setCell ⟨p, 0, none⟩ (.slice (some ⟨g, o, none⟩) D.length c)) base p D ∧ w.grownBy (w.setCell ⟨p, 0, none⟩ (.slice (some ⟨g, o, none⟩) D.length c)) (some p)) := H
  have q0 := cell_blk hp 0
  have f0 := fz_blk hp 0
  have hl2 : D.length + 1 ≤ c := hl
  have e1 : IntKind.i64.wrap (D.length : Int) = (D.length : Int) := by rw [IntKind.wrap_i64]; omega
  have e2 : wrap64 (D.length : Int) = (D.length : Int) := by unfold wrap64; omega
  clear hv2 hv hp H hm
  go_enter Try.func88, Try.ntmps88
  go_wp2
  go_region
  exact bodyPost_end (v := .tuple #[]) (by simp [results, Try.results88]) rfl ⟨rfl, HH.out.1.drew, ⟨HH.out.2.os, HH.out.2.tape, HH.out.2.output, HH.out.2.size, HH.out.2.block⟩⟩

theorem last_none (base p : Nat) (w : World) (h : QAt w base p []) :
    Calls Try.prog 77 #[.pointer (some ⟨p, 0, none⟩)] w fun e w' => e = .returned (.tuple #[.agg #[.int .i64 0, .int .i64 0], .bool false]) ∧ Below w.heap.size w w' := by
  obtain ⟨h0, a, c, hp, hv⟩ := h
  have q0 := cell_past (o := .cells #[.int .i64 0, .int .i64 0] 64) (cell_blk hp 0)
  clear hv hp
  go_enter Try.func77, Try.ntmps77
  go_wp2
  exact bodyPost_ret (v := .tuple #[.agg #[.int .i64 0, .int .i64 0], .bool false]) (by simp [results, Try.results77, go_sem]) rfl ⟨rfl, ((Below.refl _ _).alloc (Nat.le_refl _) _).alloc (by simp) _⟩

theorem last_some (base p : Nat) (x y : Int) (D : List (Int × Int)) (w : World) (h : QAt w base p (D ++ [(x, y)])) :
    Calls Try.prog 77 #[.pointer (some ⟨p, 0, none⟩)] w fun e w' => e = .returned (.tuple #[.agg #[.int .i64 x, .int .i64 y], .bool true]) ∧ Below w.heap.size w w' := by
  obtain ⟨h0, a, c, hp, hv⟩ := h
  obtain ⟨g, o, rfl, hv2, c0, c1, hl⟩ := hv.init
  have hm : c ≤ maxLen := hv.2.1
  unfold maxLen at hm
  have q0 := cell_past (o := .cells #[.int .i64 0, .int .i64 0] 64) (cell_blk hp 0)
  have q1 := cell_past (o := .cells #[.int .i64 0, .int .i64 0] 64) c0
  have q2 := cell_past (o := .cells #[.int .i64 0, .int .i64 0] 64) c1
  have e1 : IntKind.i64.wrap (D.length : Int) = (D.length : Int) := by rw [IntKind.wrap_i64]; omega
  have e2 : wrap64 (D.length : Int) = (D.length : Int) := by unfold wrap64; omega
  clear hv2 hv hp c0 c1 hm
  go_enter Try.func77, Try.ntmps77
  go_wp2
  go_region
  go_wp2
  exact bodyPost_ret (v := .tuple #[.agg #[.int .i64 x, .int .i64 y], .bool true]) (by simp [results, Try.results77, go_sem]) rfl ⟨rfl, ((Below.refl _ _).alloc (Nat.le_refl _) _).drew⟩

theorem flat_get (D : List (Int × Int)) (i : Nat) (h : i < D.length) : (flat D)[i * 2]? = some (.int .i64 D[i].1) ∧ (flat D)[i * 2 + 1]? = some (.int .i64 D[i].2) := by
  induction D generalizing i with
  | nil => simp at h
  | cons p D ih =>
    cases i with
    | zero => simp [flat]
    | succ i =>
      have h2 := ih i (by simpa using h)
      have e : flat (p :: D) = .int .i64 p.1 :: .int .i64 p.2 :: flat D := by simp [flat]
      rw [e, show (i + 1) * 2 = i * 2 + 1 + 1 from by omega]
      simpa using h2

theorem flat_len (D : List (Int × Int)) : (flat D).length = D.length * 2 := by
  induction D with
  | nil => rfl
  | cons p D ih =>
    have e : flat (p :: D) = .int .i64 p.1 :: .int .i64 p.2 :: flat D := by simp [flat]
    rw [e]
    simp [ih]
    omega

/-- The first one of a list, and whether there is one. -/
def HeadIs (E : List (Int × Int)) (x y : Int) (B : Bool) : Prop := (E = [] ∧ B = false) ∨ ∃ E', E = (x, y) :: E' ∧ B = true
def LastIs (E : List (Int × Int)) (x y : Int) (B : Bool) : Prop := (E = [] ∧ B = false) ∨ ∃ E', E = E' ++ [(x, y)] ∧ B = true

theorem first_any (base p : Nat) (E : List (Int × Int)) (w : World) (h : QAt w base p E) :
    Calls Try.prog 84 #[.pointer (some ⟨p, 0, none⟩)] w fun e w' => ∃ x y B, e = .returned (.tuple #[.agg #[.int .i64 x, .int .i64 y], .bool B]) ∧ HeadIs E x y B ∧ Below w.heap.size w w' := by
  cases E with
  | nil => exact (first_none base p w h).mono fun e w' ⟨he, hb⟩ => ⟨0, 0, false, he, Or.inl ⟨rfl, rfl⟩, hb⟩
  | cons q E => exact (first_some base p q.1 q.2 E w h).mono fun e w' ⟨he, hb⟩ => ⟨q.1, q.2, true, he, Or.inr ⟨E, rfl, rfl⟩, hb⟩

theorem last_any (base p : Nat) (E : List (Int × Int)) (w : World) (h : QAt w base p E) :
    Calls Try.prog 77 #[.pointer (some ⟨p, 0, none⟩)] w fun e w' => ∃ x y B, e = .returned (.tuple #[.agg #[.int .i64 x, .int .i64 y], .bool B]) ∧ LastIs E x y B ∧ Below w.heap.size w w' := by
  rcases List.eq_nil_or_concat E with rfl | ⟨E', q, rfl⟩
  · exact (last_none base p w h).mono fun e w' ⟨he, hb⟩ => ⟨0, 0, false, he, Or.inl ⟨rfl, rfl⟩, hb⟩
  · rw [List.concat_eq_append] at h ⊢
    exact (last_some base p q.1 q.2 E' w h).mono fun e w' ⟨he, hb⟩ => ⟨q.1, q.2, true, he, Or.inr ⟨E', rfl, rfl⟩, hb⟩

/-- What came out of an append in new memory, as a list from its front on. -/
theorem QV.ofOwn {w : World} {base c : Nat} {a : Option Addr} {D : List (Int × Int)} (h : w.ownsRow base 64 2 (.slice a D.length c) D.length (flat D)) : QV w base a c D := by
  rcases h.2 with ⟨hv, h0⟩ | ⟨g, cap, cur, hv, hb, hg, hnc, hm, hs, ht⟩
  · injection hv with h1 _ h3
    subst h1; subst h3
    exact ⟨by omega, by unfold maxLen; omega, Or.inl ⟨rfl, rfl⟩⟩
  · injection hv with h1 _ h3
    subst h1; subst h3
    refine ⟨hnc, hm, Or.inr ⟨g, 0, cur, rfl, hb, hg, by omega, fun i hi => ?_⟩⟩
    obtain ⟨h1, h2⟩ := flat_get D i hi
    rw [← ht] at h1 h2
    rw [List.getElem?_take_of_lt (by omega)] at h1 h2
    simp only [Array.getElem?_toList] at h1 h2
    exact ⟨by simpa using h1, by simpa using h2⟩

theorem QV.put {w : World} {base g o c : Nat} {D : List (Int × Int)} {x y : Int} (h : QV w base (some ⟨g, o, none⟩) c D) (hr : D.length + 1 ≤ c) :
    QV (w.setCells g (o + D.length * 2) [.int .i64 x, .int .i64 y]) base (some ⟨g, o, none⟩) c (D ++ [(x, y)]) ∧ w.grownBy (w.setCells g (o + D.length * 2) [.int .i64 x, .int .i64 y]) (some g) := by
  obtain ⟨hl, hm, h⟩ := h
  rcases h with ⟨h0, _⟩ | ⟨g2, o2, cur, ha, hb, hg, hs, hc⟩
  · simp at h0
  · injection ha with ha
    injection ha with h1 h2 _
    subst h1; subst h2
    simp only [World.setCells]
    refine ⟨⟨by simp; omega, hm, Or.inr ⟨g, o, _, rfl, hb, heap_setCell_at (heap_setCell_at hg _ _) _ _, by simpa using hs, fun i hi => ?_⟩⟩, ?_⟩
    · by_cases e : i = D.length
      · subst e
        have e1 : (D ++ [(x, y)])[D.length]'hi = (x, y) := by simp
        rw [e1]
        refine ⟨?_, ?_⟩
        · rw [Array.getElem?_setIfInBounds_ne (by omega)]
          simp [show o + D.length * 2 < cur.size from by omega]
        · simp [show o + D.length * 2 + 1 < cur.size from by omega]
      · have hi2 : i < D.length := by simp at hi; omega
        obtain ⟨h1, h2⟩ := hc i hi2
        rw [List.getElem_append_left hi2]
        refine ⟨?_, ?_⟩
        · rw [Array.getElem?_setIfInBounds_ne (by omega), Array.getElem?_setIfInBounds_ne (by omega)]; exact h1
        · rw [Array.getElem?_setIfInBounds_ne (by omega), Array.getElem?_setIfInBounds_ne (by omega)]; exact h2
    · exact grown_store (grown_store (grown_refl _ _) _ _) _ _

/-- One sample more, as a step of a region that draws its order. -/
theorem step_append_q {P : Program} {ops : Array Oper} {o : Oper} {a : Act} {w : World} {K : Act → World → Prop} {Q : Exit → Act → World → Prop} {E : Prop}
    (hg : o.guard = none) (s x : Operand) (t : TypeId) (hop : o.op = Op.call { callee := Callee.builtin Builtin.append, args := #[s, x], argTypes := #[t, t] })
    (i : TypeInfo) (z : Value) (h1 : P.underlying t = some (.slice 64)) (h2 : P.info? 64 = some i) (h3 : i.zero = some z) (h4 : i.size = 2) (h5 : i.bytes = 16) (h6 : z.cells.size = 2)
    (base : Nat) (ao : Option Addr) (c : Nat) (D : List (Int × Int)) (hs : a.eval s = .slice ao D.length c) (hq : QV w base ao c D) (hbase : base ≤ w.heap.size) (hD : D.length ≤ 1048576)
    (ad : Addr) (X Y : Int) (hx : a.eval x = .slice (some ad) 1 1) (hc : ∀ j u, [Value.int .i64 X, .int .i64 Y][j]? = some u → w.cell? (ad.add j) = some u)
    (hK : ∀ ao' c' w', QV w' base ao' c' (D ++ [(X, Y)]) → w.grownBy w' (blk ao) → K (a.put o.dst (.slice ao' (D.length + 1) c')) w') :
    if Region.wanted o (yielded ops a.tmps) = true then Oper.wp P o a w K Q else E := by
  have hone : ∀ u ∈ [Value.int .i64 X, .int .i64 Y], u.oneCell' = true := by
    intro u hu
    simp at hu
    rcases hu with rfl | rfl <;> rfl
  by_cases hr : D.length + 1 ≤ c
  · obtain ⟨g, of, rfl⟩ : ∃ g of, ao = some ⟨g, of, none⟩ := by
      rcases hq.2.2 with ⟨_, h0⟩ | ⟨g, of, _, h0, _⟩
      · omega
      · exact ⟨g, of, h0⟩
    obtain ⟨r1, r2⟩ := hq.put (x := X) (y := Y) hr
    refine step_append_room hg s x t hop 64 i 2 h1 h2 h4 g of D.length c hs ad 1 1 [.int .i64 X, .int .i64 Y] hx rfl hc hone hr (fun j hj => ?_) (hK _ _ _ r1 r2)
    rcases hq.2.2 with ⟨_, h0⟩ | ⟨g2, of2, cur, h0, _, hg2, hs2, _⟩
    · omega
    · injection h0 with h0
      injection h0 with e1 e2 _
      subst e1; subst e2
      simp at hj
      simp [World.cell?, World.frozen?, hg2]
      omega
  · refine step_append_grows hg s x t hop 64 i z 2 16 h1 h2 h3 h4 h5 h6 (by decide) ao D.length c (flat D) hs (fun h => ?_) (by rw [flat_len]) (fun b hb j u hj => ?_) ad 1 1 [.int .i64 X, .int .i64 Y] hx rfl hc hone (by omega) (by unfold maxLen; omega) (by omega) fun v' w' hown hgr => ?_
    · rcases hq.2.2 with ⟨_, h0⟩ | ⟨g2, of2, cur, h0, _⟩
      · have := hq.1
        omega
      · rw [h] at h0; simp at h0
    · rcases hq.2.2 with ⟨h0, _⟩ | ⟨g2, of2, cur, h0, _, hg2, hs2, hcc⟩
      · rw [h0] at hb; simp at hb
      · rw [h0] at hb
        injection hb with hb
        subst hb
        have hjl : j < (flat D).length := (List.getElem?_eq_some_iff.1 hj).1
        rw [flat_len] at hjl
        obtain ⟨f0, f1⟩ := flat_get D (j / 2) (by omega)
        obtain ⟨k0, k1⟩ := hcc (j / 2) (by omega)
        rcases Nat.mod_two_eq_zero_or_one j with hm | hm
        · rw [show j = j / 2 * 2 from by omega, f0] at hj
          rw [show j = j / 2 * 2 from by omega, Addr.add_lit]
          simp [World.cell?, hg2, k0]
          simpa using hj
        · rw [show j = j / 2 * 2 + 1 from by omega, f1] at hj
          rw [show j = j / 2 * 2 + 1 from by omega, Addr.add_lit, ← Nat.add_assoc]
          simp [World.cell?, hg2, k1]
          simpa using hj
    · have hown2 : w'.ownsRow w.heap.size 64 2 v' (D ++ [(X, Y)]).length (flat (D ++ [(X, Y)])) := by
        rw [flat_snoc]
        simpa using hown
      obtain ⟨a2, c2, rfl⟩ : ∃ a2 c2, v' = .slice a2 (D.length + 1) c2 := by
        rcases hown.2 with ⟨_, h0⟩ | ⟨g2, cap2, _, h0, _⟩
        · omega
        · exact ⟨_, _, h0⟩
      refine hK a2 c2 w' (QV.ofOwn (by simpa using own_below hbase hown2)) ⟨hgr.os, hgr.tape, hgr.output, hgr.size, fun k hk _ => hgr.block k hk (by simp)⟩

/-- The queue's own cell behind an append. -/
theorem QAt.kept {w w2 : World} {base p c : Nat} {a : Option Addr} {v : Value} {D : List (Int × Int)} (hp : w.heap[p]? = some (.cells #[v] 101 (0, 0))) (hv : QV w base a c D) {W : World} (hW : Below w.heap.size w W) (hg : W.grownBy w2 (blk a)) : w2.heap[p]? = some (.cells #[v] 101 (0, 0)) := by
  have hlt := (Array.getElem?_eq_some_iff.1 hp).1
  have hs := hW.size
  rw [hg.block p (by omega) (fun e => ?_), hW.block p hlt]
  · exact hp
  · obtain ⟨_, _, cur, hc⟩ := hv.lt p e.symm
    have := hp.symm.trans hc
    simp at this

theorem add_last (base p : Nat) (x y : Int) (D : List (Int × Int)) (w : World) (h : QAt w base p D) (hbase : base ≤ w.heap.size) (hD : D.length ≤ 1048576) :
    Calls Try.prog 78 #[.pointer (some ⟨p, 0, none⟩), .agg #[.int .i64 x, .int .i64 y]] w fun e w' => e = .returned (.tuple #[]) ∧ QAt w' base p (D ++ [(x, y)]) ∧ Below base w w' := by
  obtain ⟨i0, hi, hz0, hz1, hz2⟩ := info_parts info31s
  obtain ⟨h0, a, c, hp, hv⟩ := h
  have hplt := (Array.getElem?_eq_some_iff.1 hp).1
  have q0 := cell_past (o := .cells #[.int .i64 x, .int .i64 y] 64) (cell_blk hp 0)
  have q1 := cell_past (o := .cells #[.int .i64 x, .int .i64 y] 64) q0
  have hB : Below w.heap.size w ((w.alloc (.cells #[.int .i64 x, .int .i64 y] 64)).alloc (.cells #[.int .i64 x, .int .i64 y] 64)).drew := (((Below.refl _ _).alloc (Nat.le_refl _) _).alloc (by simp) _).drew
  have hq : QV ((w.alloc (.cells #[.int .i64 x, .int .i64 y] 64)).alloc (.cells #[.int .i64 x, .int .i64 y] 64)).drew base a c D := hv.same fun g hg => hB.block g (hv.lt g hg).2.1
  have hn : ∀ j u, [Value.int .i64 x, .int .i64 y][j]? = some u → ((w.alloc (.cells #[.int .i64 x, .int .i64 y] 64)).alloc (.cells #[.int .i64 x, .int .i64 y] 64)).drew.cell? ((⟨w.heap.size + 1, 0, none⟩ : Addr).add j) = some u := by
    intro j u hj
    match j, hj with
    | 0, hj => simp at hj; subst hj; simp [Addr.add]
    | 1, hj => simp at hj; subst hj; simp [Addr.add]
  have hb2 : base ≤ ((w.alloc (.cells #[.int .i64 x, .int .i64 y] 64)).alloc (.cells #[.int .i64 x, .int .i64 y] 64)).drew.heap.size := by simp; omega
  have HV : Hid (QV w base a c D) := hv
  have HP : Hid (w.heap[p]? = some (.cells #[.slice a D.length c] 101 (0, 0))) := hp
  have HB : Hid (Below w.heap.size w ((w.alloc (.cells #[.int .i64 x, .int .i64 y] 64)).alloc (.cells #[.int .i64 x, .int .i64 y] 64)).drew) := hB
  have HQ : Hid (QV ((w.alloc (.cells #[.int .i64 x, .int .i64 y] 64)).alloc (.cells #[.int .i64 x, .int .i64 y] 64)).drew base a c D) := hq
  clear hp hv hB hq
  go_enter Try.func78, Try.ntmps78
  go_wp2
  go_region_law (refine step_append_q rfl (.tmp 8) (.tmp 10) 25 rfl i0 (.agg #[.int .i64 0, .int .i64 0]) Try.underlying25 hi hz0 hz1 hz2 rfl base a c D rfl HQ.out hb2 hD ⟨w.heap.size + 1, 0, none⟩ x y rfl hn (fun a2 c2 w2 hq2 hg2 => ?_); have b2 := QAt.kept HP.out HV.out HB.out hg2; have d0 := cell_blk b2 0; have f0 := fz_blk b2 0; have H2 : Hid (QV w2 base a2 c2 (D ++ [(x, y)])) := hq2; have G2 : Hid (w2.heap[p]? = some (.cells #[.slice a D.length c] 101 (0, 0)) ∧ World.grownBy ((w.alloc (.cells #[.int .i64 x, .int .i64 y] 64)).alloc (.cells #[.int .i64 x, .int .i64 y] 64)).drew w2 (blk a)) := ⟨b2, hg2⟩; clear hq2 hg2 b2)
  all_goals
    have hT := QAt.turn (n := D.length + 1) h0 G2.out.1 H2.out (by simp)
    refine bodyPost_end (v := .tuple #[]) (by simp [results, Try.results78]) rfl ⟨rfl, hT.1, ?_⟩
    refine Below.trans ?_ ((Below.refl _ _).setCell h0 _)
    exact (HB.out.mono hbase).grown G2.out.2 hb2 (fun k hk => (HV.out.lt k hk).1)

theorem wok_none {w : World} {L : List (Int × Int)} (h : WOk w none L) : L = [] := by
  rcases h with h | ⟨g, o, h, _⟩
  · exact h
  · simp at h

theorem wok_cells {w : World} {ad : Addr} {L : List (Int × Int)} (h : WOk w (some ad) L) : ∀ j u, (flat L)[j]? = some u → w.cell? (ad.add j) = some u := by
  intro j u hj
  rcases h with h | ⟨g, o, h, hr⟩
  · subst h; simp [flat] at hj
  · injection h with h
    subst h
    have hjl : j < (flat L).length := (List.getElem?_eq_some_iff.1 hj).1
    rw [flat_len] at hjl
    obtain ⟨f0, f1⟩ := flat_get L (j / 2) (by omega)
    have k0 := hr.c0 (j / 2) (by omega)
    have k1 := hr.c1 (j / 2) (by omega)
    rcases Nat.mod_two_eq_zero_or_one j with hm | hm
    · rw [show j = j / 2 * 2 from by omega, f0] at hj
      rw [show j = j / 2 * 2 from by omega, Addr.add_lit, k0]
      exact hj
    · rw [show j = j / 2 * 2 + 1 from by omega, f1] at hj
      rw [show j = j / 2 * 2 + 1 from by omega, Addr.add_lit, ← Nat.add_assoc, k1]
      exact hj

end Go.Proofs.Ytbdkepnjhcdpnaa.Queue
