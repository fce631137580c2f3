/- What the model's Least answers at every window of at most 2 to the 20 samples: the least of the young ones; nothing else turns. -/
import Derived.Test.YtbdkepnjhcdpnaaRows
import Derived.Test.YtbdkepnjhcdpnaaPairWalks
import Derived.Test.YtbdkepnjhcdpnaaWinOk
import Derived.Test.YtbdkepnjhcdpnaaTrimWalks
import Derived.Test.YtbdkepnjhcdpnaaPushWalks
import Derived.Test.YtbdkepnjhcdpnaaQueue
import Derived.Test.YtbdkepnjhcdpnaaQueueOf
import Derived.Test.YtbdkepnjhcdpnaaImplOk
import Derived.Test.YtbdkepnjhcdpnaaImplTrim
import Derived.WalkKit
import Derived.WalkSmall
import Derived.BigQuiet
import Derived.Deep.RegionWith
namespace Go.Proofs.Ytbdkepnjhcdpnaa.LeastWalks
open Go.RowKit PairWalks WinOk TrimWalks PushWalks ImplTrim
set_option maxRecDepth 8000

theorem spec_time_no (now : Int) (w : World) (h : now < 0 ∨ 1000000000 < now) : Calls Try.prog 33 #[.int .i64 now] w fun e w' => e = .returned (.bool false) ∧ w' = w := by
  by_cases h0 : now < 0
  · go_enter Try.func33, Try.ntmps33
    go_wp2
    go_ret
    exact ⟨rfl, rfl⟩
  · have d1 : decide (now ≤ 1000000000) = false := by simp; omega
    go_enter Try.func33, Try.ntmps33
    go_wp2
    go_ret
    exact ⟨rfl, rfl⟩

set_option maxHeartbeats 2000000 in
theorem spec_least (span now : Int) (a : Option Addr) (c : Nat) (L : List (Int × Int)) (w : World) (ha : WOk w a L) (hl : (L.length : Int) ≤ 1048577) :
    Calls Try.prog 47 #[.agg #[.int .i64 span, .slice a L.length c], .int .i64 now] w fun e w' => e = .returned (.int .i64 (leastOf span L now)) ∧ Below w.heap.size w w' := by
  obtain ⟨B, HB⟩ := flag (winOk span L)
  have hbw : Below w.heap.size w (w.alloc (.cells #[.int .i64 span, .slice a L.length c] 27)) := (Below.refl _ _).alloc (Nat.le_refl _) _
  have HO := spec_ok span a c L B (w.alloc (.cells #[.int .i64 span, .slice a L.length c] 27)) (ha.below hbw) hl HB
  have HA : Hid (WOk w a L) := ha
  have HBW : Hid (Below w.heap.size w (w.alloc (.cells #[.int .i64 span, .slice a L.length c] 27))) := hbw
  have HT : Hid (∀ W, WOk W a L → Calls Try.prog 49 #[.agg #[.int .i64 span, .slice a L.length c], .int .i64 now] W fun e w' => ∃ v, e = .returned (.agg #[.int .i64 (trimSpan span L now), v]) ∧ w'.ownsRow W.heap.size 64 2 v (TrimWalks.trimmed span L now).length (flat (TrimWalks.trimmed span L now)) ∧ Below W.heap.size W w') := fun W h => spec_trim span now a c L W h hl
  clear ha hbw
  have hbox : ∀ (w1 : World) (A : Value), Below (w.alloc (.cells #[.int .i64 span, A] 27)).heap.size (w.alloc (.cells #[.int .i64 span, A] 27)) w1 → w1.cell? ⟨w.heap.size, 0, none⟩ = some (.int .i64 span) ∧ w1.cell? ⟨w.heap.size, 1, none⟩ = some A ∧ w.heap.size + 1 ≤ w1.heap.size := fun w1 A hb => by
    have hs := hb.size
    have e := (hb.block w.heap.size (by simp)).trans (heap_alloc_new w _)
    exact ⟨by simp [World.cell?, e], by simp [World.cell?, e], by simpa using hs⟩
  obtain ⟨n, hn⟩ : ∃ n, L.length = n := ⟨_, rfl⟩
  have HN : Hid (L.length = n) := hn
  rw [hn] at hl HO HBW HT ⊢
  clear hn
  have HBX : Hid (∀ (w1 : World) (A : Value), Below (w.alloc (.cells #[.int .i64 span, A] 27)).heap.size (w.alloc (.cells #[.int .i64 span, A] 27)) w1 → w1.cell? ⟨w.heap.size, 0, none⟩ = some (.int .i64 span) ∧ w1.cell? ⟨w.heap.size, 1, none⟩ = some A ∧ w.heap.size + 1 ≤ w1.heap.size) := hbox
  clear hbox
  cases B with
  | false =>
    have e1 : leastOf span L now = -1 := by
      unfold leastOf
      rw [(trimmed_bad (span := span) (now := now) (L := L) (fun h => by have := HB.out.2 h.1; simp at this)).1]
    rw [e1]
    go_enter Try.func47, Try.ntmps47
    go_wp2_with (go_at_call 41; refine HO.mono ?_; rintro e w1 ⟨rfl, hb⟩)
    go_ret
    exact ⟨rfl, HBW.out.trans (hb.mono (by simp))⟩
  | true =>
    by_cases t0 : now < 0 ∨ 1000000000 < now
    · have e1 : leastOf span L now = -1 := by
        unfold leastOf
        rw [(trimmed_bad (span := span) (now := now) (L := L) (fun h => by omega)).1]
      rw [e1]
      go_enter Try.func47, Try.ntmps47
      go_wp2_with (first | (go_at_call 41; refine HO.mono ?_; rintro e w1 ⟨rfl, hb⟩) | (go_at_call 33; refine (spec_time_no now _ (by omega)).mono ?_; rintro e w9 ⟨rfl, hw9⟩; rw [hw9]; clear hw9 w9))
      go_ret
      exact ⟨rfl, HBW.out.trans (hb.mono (by simp))⟩
    · have n0 : 0 ≤ now := by omega
      have n1 : now ≤ 1000000000 := by omega
      clear t0
      have HL : Hid (leastOf span L now = match TrimWalks.trimmed span L now with
        | [] => -1
        | p :: _ => p.2) := rfl
      obtain ⟨D, hD⟩ : ∃ D, TrimWalks.trimmed span L now = D := ⟨_, rfl⟩
      rw [hD] at HT HL
      clear hD
      obtain ⟨r, hr⟩ : ∃ r, leastOf span L now = r := ⟨_, rfl⟩
      rw [hr] at HL ⊢
      clear hr
      obtain ⟨ts, hts⟩ : ∃ ts, trimSpan span L now = ts := ⟨_, rfl⟩
      rw [hts] at HT
      clear hts
      go_enter Try.func47, Try.ntmps47
      go_wp2_with (first | (go_at_call 41; refine HO.mono ?_; rintro e w1 ⟨rfl, hb⟩; obtain ⟨c0, c1, c5⟩ := HBX.out _ _ hb; have HA1 : Hid (WOk w1 a L ∧ Below w.heap.size w w1) := ⟨HA.out.below (HBW.out.trans (hb.mono (by simp))), HBW.out.trans (hb.mono (by simp))⟩; clear hb) | (go_at_call 33; refine (spec_time now _ (by omega) (by omega)).mono ?_; rintro e w9 ⟨rfl, hw9⟩; rw [hw9]; clear hw9 w9))
      refine (HT.out _ HA1.out.1).mono ?_
      rintro e w3 ⟨v, rfl, hown, hb3⟩
      obtain ⟨a3, k3, rfl, hw3, _, _, _⟩ := owns_row hown
      have HB3 : Hid (Below w.heap.size w w3) := HA1.out.2.trans (hb3.mono (by omega))
      have HB4 : Hid (Below w.heap.size w (w3.alloc (.cells #[.int .i64 ts, .slice a3 D.length k3] 27))) := HB3.out.alloc HB3.out.size _
      clear hown hb3 c0 c1
      cases D with
      | nil =>
        have E : Hid (r = -1) := HL.out
        clear hw3 HL
        go_wp2
        go_ret
        exact ⟨by rw [E.out]; rfl, HB4.out⟩
      | cons q D =>
        obtain ⟨x, y⟩ := q
        have E : Hid (r = y) := HL.out
        clear HL
        rcases hw3 with h | ⟨g, o, rfl, hr⟩
        · simp at h
        · have q1 := (hr.below ((Below.refl _ _).alloc (Nat.le_refl _) (.cells #[.int .i64 ts, .slice (some ⟨g, o, none⟩) ((x, y) :: D).length k3] 27))).c1 0 (by simp)
          simp only [Nat.zero_mul, Nat.add_zero, List.getElem_cons_zero, List.length_cons] at q1
          clear hr
          go_wp2
          go_ret
          exact ⟨by rw [E.out]; rfl, HB4.out⟩
end Go.Proofs.Ytbdkepnjhcdpnaa.LeastWalks
