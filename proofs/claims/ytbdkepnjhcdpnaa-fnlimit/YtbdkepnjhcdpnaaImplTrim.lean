/- What the program's Trim and Least answer at every window of at most 2 to the 20 samples: the young ones in a list of the call's own, and the least of them; nothing else turns. -/
import Derived.Test.YtbdkepnjhcdpnaaRows
import Derived.Test.YtbdkepnjhcdpnaaPairWalks
import Derived.Test.YtbdkepnjhcdpnaaWinOk
import Derived.Test.YtbdkepnjhcdpnaaTrimWalks
import Derived.Test.YtbdkepnjhcdpnaaPushWalks
import Derived.Test.YtbdkepnjhcdpnaaQueue
import Derived.Test.YtbdkepnjhcdpnaaQueueOf
import Derived.Test.YtbdkepnjhcdpnaaImplOk
import Derived.WalkKit
import Derived.WalkSmall
import Derived.BigQuiet
import Derived.Deep.RegionWith
namespace Go.Proofs.Ytbdkepnjhcdpnaa.ImplTrim
open Go.RowKit PairWalks WinOk TrimWalks PushWalks ImplOk
set_option maxRecDepth 8000
open Queue (QV QAt)
open QueueOf (young_of dropBack dropBack_pos dropBack_neg)

theorem rises {span : Int} {L : List (Int × Int)} (h : winOk span L) : L.Pairwise fun p q => p.1 < q.1 ∧ p.2 < q.2 := by
  rw [List.pairwise_iff_getElem]
  intro i j hi hj hij
  induction j with
  | zero => omega
  | succ j ih =>
    have h2 := (h.2.2.2 (j + 1) hj).2 (by omega)
    simp only [Nat.add_sub_cancel] at h2
    by_cases e : i = j
    · subst e; exact h2
    · have h1 := ih (by omega) (by omega)
      exact ⟨by omega, by omega⟩

theorem dropWhile_young {T : Int} {L : List (Int × Int)} (h : L.Pairwise fun p q => p.1 < q.1) : (L.dropWhile fun q => decide (q.1 ≤ T)) = L.filter fun q => decide (T < q.1) := by
  induction L with
  | nil => rfl
  | cons p L ih =>
    rw [List.pairwise_cons] at h
    by_cases hp : p.1 ≤ T
    · rw [List.dropWhile_cons_of_pos (by simpa using hp), ih h.2, List.filter_cons_of_neg (by simp; omega)]
    · rw [List.dropWhile_cons_of_neg (by simpa using hp)]
      refine (List.filter_eq_self.2 fun q hq => ?_).symm
      simp only [decide_eq_true_eq]
      rcases List.mem_cons.1 hq with rfl | hq
      · omega
      · have := h.1 q hq
        omega

theorem young_drop {span now : Int} {L : List (Int × Int)} (h : winOk span L) : (L.dropWhile fun q => decide (q.1 ≤ now - span)) = young span now L := dropWhile_young ((rises h).imp fun h => h.1)

theorem young_rises {span now : Int} {L : List (Int × Int)} (h : winOk span L) : (young span now L).Pairwise fun p q => p.1 < q.1 ∧ p.2 < q.2 := (rises h).filter _

theorem dropBack_less {lat : Int} {D : List (Int × Int)} (h : D.Pairwise fun p q => p.2 < q.2) : dropBack lat D = less lat D := by
  suffices H : ∀ R : List (Int × Int), R.reverse.Pairwise (fun p q => p.2 < q.2) → dropBack lat R.reverse = less lat R.reverse by
    have := H D.reverse
    rw [List.reverse_reverse] at this
    exact this h
  intro R
  induction R with
  | nil => intro _; rfl
  | cons q R ih =>
    intro h
    obtain ⟨x, y⟩ := q
    rw [List.reverse_cons] at h ⊢
    rw [List.pairwise_append] at h
    by_cases hq : lat ≤ y
    · rw [dropBack_pos hq, ih h.1]
      unfold less
      rw [List.filter_append]
      simp
      omega
    · rw [dropBack_neg (by omega)]
      unfold less
      refine (List.filter_eq_self.2 fun p hp => ?_).symm
      simp only [decide_eq_true_eq]
      rcases List.mem_append.1 hp with hp | hp
      · have := h.2.2 p hp (x, y) (by simp)
        simp at this
        omega
      · simp at hp
        subst hp
        simp
        omega

theorem answer_of {w w3 : World} {base c3 : Nat} {a3 : Option Addr} {D : List (Int × Int)} {span : Int} (hv : QV w3 base a3 c3 D) (hbase : w.heap.size + 2 ≤ base) (hB : Below w.heap.size w w3) {x y : Value} :
    Answers w span D (.returned (.agg #[.int .i64 span, .slice a3 D.length c3])) ((w3.setCell ⟨w.heap.size + 1, 0, none⟩ x).setCell ⟨w.heap.size + 1, 1, none⟩ y) := by
  refine ⟨a3, c3, rfl, ?_, fun b hb => by have := (hv.lt b hb).1; omega, (hB.setCell (by show w.heap.size ≤ w.heap.size + 1; omega) _).setCell (by show w.heap.size ≤ w.heap.size + 1; omega) _⟩
  refine (hv.same fun g hg => ?_).row
  have := (hv.lt g hg).1
  have hne : g ≠ w.heap.size + 1 := by omega
  rw [Below.heap_setCell _ _ _ _ hne, Below.heap_setCell _ _ _ _ hne]

/-- The least of the young ones of a right window at a time; else -1. -/
def leastOf (span : Int) (L : List (Int × Int)) (now : Int) : Int := match TrimWalks.trimmed span L now with
  | [] => -1
  | p :: _ => p.2

set_option maxHeartbeats 2000000 in
theorem impl_least (span now : Int) (a : Option Addr) (c : Nat) (L : List (Int × Int)) (w : World) (ha : WOk w a L) (hl : (L.length : Int) ≤ 1048577) :
    Calls Try.prog 72 #[.agg #[.int .i64 span, .slice a L.length c], .int .i64 now] w fun e w' => e = .returned (.int .i64 (leastOf span L now)) ∧ Below w.heap.size w w' := by
  obtain ⟨B, HB⟩ := flag (winOk span L)
  have hbw : Below w.heap.size w (w.alloc (.cells #[.int .i64 span, .slice a L.length c] 27)) := (Below.refl _ _).alloc (Nat.le_refl _) _
  have HO := impl_ok span a c L B (w.alloc (.cells #[.int .i64 span, .slice a L.length c] 27)) (ha.below hbw) hl HB
  have HA : Hid (WOk w a L) := ha
  have HBW : Hid (Below w.heap.size w (w.alloc (.cells #[.int .i64 span, .slice a L.length c] 27))) := hbw
  have HY := fun W h ht hs => young_of span now a c L W h (by omega) ht hs
  clear ha hbw
  have hbox : ∀ (w1 : World) (A : Value), Below (w.alloc (.cells #[.int .i64 span, A] 27)).heap.size (w.alloc (.cells #[.int .i64 span, A] 27)) w1 → w1.cell? ⟨w.heap.size, 0, none⟩ = some (.int .i64 span) ∧ w1.cell? ⟨w.heap.size, 1, none⟩ = some A ∧ w.heap.size + 1 ≤ w1.heap.size := fun w1 A hb => by
    have hs := hb.size
    have e := (hb.block w.heap.size (by simp)).trans (heap_alloc_new w _)
    exact ⟨by simp [World.cell?, e], by simp [World.cell?, e], by simpa using hs⟩
  obtain ⟨n, hn⟩ : ∃ n, L.length = n := ⟨_, rfl⟩
  have HN : Hid (L.length = n) := hn
  rw [hn] at hl HO HBW HY ⊢
  clear hn
  cases B with
  | false =>
    have e1 : leastOf span L now = -1 := by
      unfold leastOf
      rw [(trimmed_bad (span := span) (now := now) (L := L) (fun h => by have := HB.out.2 h.1; simp at this)).1]
    rw [e1]
    clear HY
    go_enter Try.func72, Try.ntmps72
    go_wp2_with (go_at_call 18; refine HO.mono ?_; rintro e w1 ⟨rfl, hb⟩)
    go_ret
    exact ⟨rfl, HBW.out.trans (hb.mono (by simp))⟩
  | true =>
    by_cases t0 : now < 0 ∨ 1000000000 < now
    · have e1 : leastOf span L now = -1 := by
        unfold leastOf
        rw [(trimmed_bad (span := span) (now := now) (L := L) (fun h => by omega)).1]
      rw [e1]
      clear HY
      go_enter Try.func72, Try.ntmps72
      go_wp2_with (first | (go_at_call 18; refine HO.mono ?_; rintro e w1 ⟨rfl, hb⟩) | (go_at_call 27; refine (time_no now _ (by omega)).mono ?_; rintro e w9 ⟨rfl, hw9⟩; rw [hw9]; clear hw9 w9))
      go_ret
      exact ⟨rfl, HBW.out.trans (hb.mono (by simp))⟩
    · have hW := HB.out.1 rfl
      obtain ⟨e1, _⟩ := trimmed_good (span := span) (now := now) (L := L) ⟨hW, by omega, by omega⟩
      have hyd := young_drop (now := now) hW
      have hs : 1 ≤ span ∧ span ≤ 100000 := ⟨hW.1, hW.2.1⟩
      have ht : 0 ≤ now ∧ now ≤ 1000000000 := by omega
      rw [hyd, ← e1] at HY
      clear e1 hW hyd
      have n0 : 0 ≤ now := by omega
      have n1 : now ≤ 1000000000 := by omega
      clear t0
      have HL : Hid (leastOf span L now = match TrimWalks.trimmed span L now with
        | [] => -1
        | p :: _ => p.2) := rfl
      obtain ⟨D, hD⟩ : ∃ D, TrimWalks.trimmed span L now = D := ⟨_, rfl⟩
      rw [hD] at HY HL
      clear hD
      obtain ⟨r, hr⟩ : ∃ r, leastOf span L now = r := ⟨_, rfl⟩
      rw [hr] at HL ⊢
      clear hr
      have HYH : Hid (∀ W, WOk W a L → Calls Try.prog 74 #[.agg #[.int .i64 span, .slice a n c], .int .i64 now] W fun e w' => ∃ p, e = .returned (.pointer (some ⟨p, 0, none⟩)) ∧ QAt w' W.heap.size p D ∧ Below W.heap.size W w') := fun W h => HY W h ht hs
      clear HY
      have HBX : Hid (∀ (w1 : World) (A : Value), Below (w.alloc (.cells #[.int .i64 span, A] 27)).heap.size (w.alloc (.cells #[.int .i64 span, A] 27)) w1 → w1.cell? ⟨w.heap.size, 0, none⟩ = some (.int .i64 span) ∧ w1.cell? ⟨w.heap.size, 1, none⟩ = some A ∧ w.heap.size + 1 ≤ w1.heap.size) := hbox
      clear hbox
      go_enter Try.func72, Try.ntmps72
      go_wp2_with (first | (go_at_call 18; refine HO.mono ?_; rintro e w1 ⟨rfl, hb⟩; obtain ⟨c0, c1, c5⟩ := HBX.out _ _ hb; have HA1 : Hid (WOk w1 a L) := HA.out.below (HBW.out.trans (hb.mono (by simp)))) | (go_at_call 27; refine (time_yes now _ (by omega) (by omega)).mono ?_; rintro e w9 ⟨rfl, hw9⟩; rw [hw9]; clear hw9 w9) | (go_at_call 74; refine (HYH.out _ HA1.out).mono ?_; rintro e w3 ⟨p, rfl, hq, hb3⟩) | (go_at_call 84; refine (Queue.first_any _ p D _ hq).mono ?_; rintro e w4 ⟨x, y, Bk, rfl, hh, hb4⟩))
      · rename_i hx
        have hB4 : Below w.heap.size w w4 := ((HBW.out.trans (hb.mono (by simp))).trans (hb3.mono (by omega))).trans (hb4.mono (by have := hb3.size; omega))
        rcases hh with ⟨hD, hk⟩ | ⟨E', hD, hk⟩
        · have e : r = -1 := by rw [HL.out, hD]
          rw [e]
          go_ret
          exact ⟨rfl, hB4.alloc (by have := hb3.size; have := hb4.size; omega) _⟩
        · rw [hk] at hx
          simp at hx
      · rename_i hx
        have hB4 : Below w.heap.size w w4 := ((HBW.out.trans (hb.mono (by simp))).trans (hb3.mono (by omega))).trans (hb4.mono (by have := hb3.size; omega))
        rcases hh with ⟨hD, hk⟩ | ⟨E', hD, hk⟩
        · rw [hk] at hx
          simp at hx
        · have e : r = y := by rw [HL.out, hD]
          rw [e]
          go_ret
          exact ⟨rfl, hB4.alloc (by have := hb3.size; have := hb4.size; omega) _⟩
end Go.Proofs.Ytbdkepnjhcdpnaa.ImplTrim
