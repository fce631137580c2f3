/- What the law's drawing of samples does: at every list of at most 2 to the 20 bytes it gives at most 13 samples whose times don't fall, in memory of its own, and nothing else turns. -/
import Derived.Test.YtnjjpfdhadmndaaRows
import Derived.Test.YtnjjpfdhadmndaaPairWalks
import Derived.Test.YtnjjpfdhadmndaaTrimWalks
import Derived.Test.YtnjjpfdhadmndaaPushWalks
import Derived.Test.YtnjjpfdhadmndaaDrawWalks
import Derived.Test.YtnjjpfdhadmndaaCodeArg
import Derived.Test.YtnjjpfdhadmndaaWinMath
import Derived.WalkKit
import Derived.WalkSmall
import Derived.BigQuiet
import Derived.Laws.AppendOwn
namespace Go.Proofs.Ytnjjpfdhadmndaa.SampleWalks
open Go.RowKit TrimWalks CodeArg
open DrawWalks (Cur CodeOk Drawn new_any)
open PairWalks (WOk blk)
open PushWalks (owns_row)
open WinMath (Drawable)

/-- The bytes, seen from the cursor's block, in a later world. -/
theorem code_at {w w' : World} {a : Option Addr} {n : Nat} (h : CodeOk w w.heap.size a n) (hb : Below w.heap.size w w') : CodeOk w' w.heap.size a n := by
  rcases h with h | ⟨b, o, ha, hne, hB⟩
  · exact Or.inl h
  · by_cases hz : n = 0
    · exact Or.inl hz
    · obtain ⟨x, _, _, hc⟩ := hB 0 (by omega)
      exact Or.inr ⟨b, o, ha, hne, hB.same (hb.block b (World.block_lt_of_cell? w _ hc))⟩

/-- Samples so far, and how many are to come. -/
def SoFar (D : List (Int × Int)) (now k : Int) : Prop := (D.length : Int) + k ≤ 13 ∧ 0 ≤ k ∧ 0 ≤ now ∧ now ≤ 20 * (D.length : Int) ∧ (∀ p ∈ D, 0 ≤ p.1 ∧ p.1 ≤ now ∧ 0 ≤ p.2 ∧ p.2 < 50) ∧ D.Pairwise fun p q => p.1 ≤ q.1

theorem SoFar.next {D : List (Int × Int)} {now k y z : Int} (h : SoFar D now k) (hk : 0 < k) (hy : 0 ≤ y ∧ y < 20) (hz : 0 ≤ z ∧ z < 50) : SoFar (D ++ [(now + y, z)]) (now + y) (k - 1) := by
  obtain ⟨h1, h2, h3, h4, h5, h6⟩ := h
  refine ⟨by simp; omega, by omega, by omega, by simp; omega, fun p hp => ?_, ?_⟩
  · rcases List.mem_append.1 hp with hp | hp
    · have := h5 p hp
      omega
    · simp at hp
      subst hp
      simp
      omega
  · rw [List.pairwise_append]
    refine ⟨h6, List.pairwise_singleton _ _, fun p hp q hq => ?_⟩
    simp at hq
    subst hq
    have := h5 p hp
    show p.1 ≤ now + y
    omega

theorem SoFar.good {D : List (Int × Int)} {now k : Int} (h : SoFar D now k) : Drawable D := by
  obtain ⟨h1, h2, h3, h4, h5, h6⟩ := h
  exact ⟨by omega, fun p hp => by have := h5 p hp; omega, h6⟩

set_option maxHeartbeats 2000000 in
theorem make_list (n : Nat) (a : Option Addr) (cap : Nat) (w : World) (hn : (n : Int) ≤ 1048576) (hok : CodeOk w w.heap.size a n) :
    Calls Try.prog 5 #[.slice a n cap] w fun e w' => ∃ al cl L, e = .returned (.slice al L.length cl) ∧ WOk w' al L ∧ Drawable L ∧ Below w.heap.size w w' := by
  obtain ⟨i0, hi, hz0, hz1, hz2⟩ := info_parts info31s
  have HO : Hid (CodeOk w w.heap.size a n) := hok
  clear hok
  go_enter Try.func5, Try.ntmps5
  go_wp2_with fail
  refine (new_any n a cap _ hn HO.out).mono ?_
  rintro e w1 ⟨h, rfl, h0, h1, rfl⟩
  have W2 : Hid (Below w.heap.size w ((w.alloc (.cells #[.slice a n cap, .int .i64 0, .int .i64 h] 43)).alloc (.cells #[] 31))) := ((Below.refl _ _).alloc (Nat.le_refl _) _).alloc (by simp) _
  have HC : Hid (Cur ((w.alloc (.cells #[.slice a n cap, .int .i64 0, .int .i64 h] 43)).alloc (.cells #[] 31)) w.heap.size (.slice a n cap) 0 h) := by
    show _ = _
    rw [Below.heap_alloc _ _ _ (by simp)]
    exact heap_alloc_new w _
  have hown := World.ownsRow_made (e := 31) (size := 2) (base := w.heap.size + 1) (w.alloc (.cells #[.slice a n cap, .int .i64 0, .int .i64 h] 43)) #[] 0 (by simp) (by unfold maxLen; omega) rfl
  have HOW : Hid (((w.alloc (.cells #[.slice a n cap, .int .i64 0, .int .i64 h] 43)).alloc (.cells #[] 31)).ownsRow (w.heap.size + 1) 31 2 (.slice (some ⟨w.heap.size + 1, 0, none⟩) 0 0) 0 []) := by
    show World.ownsRow _ _ _ _ _ _ _
    simpa using hown
  clear hown
  go_wp2_with fail
  refine (below_small w.heap.size n 0 h 14 a cap _ (by omega) (by omega) hn (by omega) (by omega) HC.out (code_at HO.out W2.out)).mono ?_
  rintro e w3 ⟨k0, rfl, k0a, k0b, i3, h3, i3a, i3b, c3, g3⟩
  have HB3 : Hid (Below w.heap.size w w3) := W2.out.grown g3 (by simp; omega) (fun k hk => by injection hk with hk; omega)
  have HC3 : Hid (Cur w3 w.heap.size (.slice a n cap) i3 h3) := c3
  have HO3 : Hid (w3.ownsRow (w.heap.size + 1) 31 2 (.slice (some ⟨w.heap.size + 1, 0, none⟩) 0 0) 0 []) := HOW.out.kept g3 (Or.inr (by simp [Value.ownBlock]))
  clear c3 g3 HC HOW W2
  go_wp2_with fail
  go_loopw [4, 5, 6] (fun l nw m wr => ∃ (v : Value) (D : List (Int × Int)) (now k : Int) (i h : Int), v = l ∧ nw = .int .i64 now ∧ m = .int .i64 k ∧ Hid (SoFar D now k) ∧ 0 ≤ k ∧ k ≤ 13 ∧ 0 ≤ now ∧ now ≤ 260 ∧ 0 ≤ i ∧ i ≤ n ∧ Hid (Cur wr w.heap.size (.slice a n cap) i h) ∧ Hid (wr.ownsRow (w.heap.size + 1) 31 2 v D.length (flat D)) ∧ Hid (Below w.heap.size w wr)) (fun _ _ m _ => (intOf m).toNat)
  case atStart => exact ⟨_, [], 0, k0, i3, h3, rfl, rfl, rfl, ⟨by simp; omega, k0a, by omega, by simp, fun p hp => by simp at hp, List.Pairwise.nil⟩, k0a, by omega, by omega, by omega, i3a, i3b, HC3, HO3, HB3⟩
  case round =>
    clear HC3 HO3 HB3 i3a i3b k0a k0b
    obtain ⟨v, D, now, k, i, h, rfl, rfl, rfl, HS, ka, kb, na, nb, ia, ib, HC, HW, HB⟩ := hrel
    by_cases hk : 0 < k
    · go_wp2_with fail
      refine (below_small w.heap.size n i h 20 a cap _ ia ib hn (by omega) (by omega) HC.out (code_at HO.out HB.out)).mono ?_
      rintro e w4 ⟨y, rfl, ya, yb, i4, h4, i4a, i4b, c4, g4⟩
      have HC4 : Hid (Cur w4 w.heap.size (.slice a n cap) i4 h4) := c4
      have HB4 : Hid (Below w.heap.size w w4) := HB.out.grown g4 HB.out.size (fun k hk => by injection hk with hk; omega)
      have HW4 : Hid (w4.ownsRow (w.heap.size + 1) 31 2 v D.length (flat D)) := HW.out.kept g4 (Or.inr (fun e => by have := (HW.out.lt _ e).1; omega))
      have nc : now + y ≤ 260 := by have := HS.out; unfold SoFar at this; omega
      clear c4 g4 HC HB HW
      go_wp2_with fail
      refine (below_small w.heap.size n i4 h4 50 a cap _ i4a i4b hn (by omega) (by omega) HC4.out (code_at HO.out HB4.out)).mono ?_
      rintro e w5 ⟨z, rfl, za, zb, i5, h5, i5a, i5b, c5, g5⟩
      have HC5 : Hid (Cur w5 w.heap.size (.slice a n cap) i5 h5) := c5
      have HB5 : Hid (Below w.heap.size w w5) := HB4.out.grown g5 HB4.out.size (fun k hk => by injection hk with hk; omega)
      have hw5 : w5.ownsRow (w.heap.size + 1) 31 2 v D.length (flat D) := HW4.out.kept g5 (Or.inr (fun e => by have := (HW4.out.lt _ e).1; omega))
      have hlt5 : w.heap.size < w5.heap.size := HC5.out.lt
      have hDl : (D.length : Int) ≤ 13 := by have := HS.out; unfold SoFar at this; omega
      clear c5 g5 HC4 HB4 HW4
      go_wp2_with (at_builtin; refine wpList_append_own _ rfl (.tmp 20) (.tmp 25) 23 rfl (w.heap.size + 1) 31 i0 (.agg #[.int .i64 0, .int .i64 0]) 2 16 Try.underlying23 hi hz0 hz1 hz2 rfl (by decide) _ _ _ rfl (hw5.alloc _) ⟨w5.heap.size, 0, none⟩ 1 1 [.int .i64 (now + y), .int .i64 z] rfl rfl ?c1 ?c2 ?c3 ?c4 ?c5 ?_)
      case c1 =>
        intro j u hj
        match j, hj with
        | 0, hj => simp at hj; subst hj; simp [Addr.add]
        | 1, hj => simp at hj; subst hj; simp [Addr.add]
      case c2 => intro u hu; simp at hu; rcases hu with rfl | rfl <;> rfl
      case c3 => unfold maxLen; omega
      case c4 => omega
      case c5 => simp; omega
      · intro v' w6 hown6 g6 _
        have HB6 : Hid (Below w.heap.size w w6) := (HB5.out.alloc HB5.out.size _).grown g6 (by simp; omega) (fun k hk => by have := (hw5.lt k hk).1; omega)
        have HC6 : Hid (Cur w6 w.heap.size (.slice a n cap) i5 h5) := by
          show _ = _
          rw [g6.block _ (by simp; omega) (fun e => by have := (hw5.lt _ e.symm).1; omega), Below.heap_alloc _ _ _ hlt5]
          exact HC5.out
        have HW6 : Hid (w6.ownsRow (w.heap.size + 1) 31 2 v' (D ++ [(now + y, z)]).length (flat (D ++ [(now + y, z)]))) := by
          show World.ownsRow _ _ _ _ _ _ _
          rw [flat_snoc]
          simpa using hown6
        have HS6 : Hid (SoFar (D ++ [(now + y, z)]) (now + y) (k - 1)) := HS.out.next hk ⟨ya, yb⟩ ⟨za, zb⟩
        clear hown6 g6 hw5 HB5 HC5 HS
        go_wp2
        go_roundw
        case rel => exact ⟨v', D ++ [(now + y, z)], now + y, k - 1, i5, h5, rfl, rfl, rfl, HS6, by omega, by omega, by omega, nc, i5a, i5b, HC6, HW6, HB6⟩
        case measure => simp [intOf]; omega
    · have hw := HW.out
      obtain ⟨al, cl, rfl, hok, _, _, _⟩ := owns_row hw
      have HR : Hid (WOk wr al D ∧ Drawable D) := ⟨hok, HS.out.good⟩
      clear hw hok HW
      go_wp2
      go_ret
      exact ⟨al, cl, D, rfl, HR.out.1, HR.out.2, HB.out⟩
end Go.Proofs.Ytnjjpfdhadmndaa.SampleWalks
