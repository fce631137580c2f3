/- What the laws on windows lean on: marks in a list of the call's own leave every other list and every variable as they were; no condition but those written in each. -/
import Derived.Test.YtjopeogdebepmaaRows
import Derived.Test.YtjopeogdebepmaaPairWalks
import Derived.Test.YtjopeogdebepmaaWinOk
import Derived.Test.YtjopeogdebepmaaTrimWalks
import Derived.Test.YtjopeogdebepmaaPushWalks
import Derived.Test.YtjopeogdebepmaaWinArg
import Derived.WalkKit
import Derived.WalkSmall
namespace Go.Proofs.Ytjopeogdebepmaa.LawKit
open Go.RowKit PairWalks WinOk TrimWalks PushWalks WinArg

/-- The block of a list that has a sample. -/
def blkL (a : Option Addr) (L : List (Int × Int)) : Option Nat := match L with
  | [] => none
  | _ :: _ => blk a

theorem blkL_lt {w : World} {a : Option Addr} {L : List (Int × Int)} (h : WOk w a L) : ∀ g, blkL a L = some g → g < w.heap.size := by
  intro g hg
  cases L with
  | nil => simp [blkL] at hg
  | cons q L =>
    rcases h with h | ⟨g2, o, rfl, hr⟩
    · simp at h
    · simp [blkL, blk] at hg
      subst hg
      exact hr.lt

theorem blkL_ge {a : Option Addr} {L : List (Int × Int)} {n : Nat} (h : ∀ b, blk a = some b → n ≤ b) : ∀ g, blkL a L = some g → n ≤ g := by
  intro g hg
  cases L with
  | nil => simp [blkL] at hg
  | cons q L => exact h g hg

theorem wok_grown {w w' : World} {a : Option Addr} {L : List (Int × Int)} {r : Option Nat} (h : WOk w a L) (hg : w.grownBy w' r) (hne : ∀ g, blkL a L = some g → some g ≠ r) : WOk w' a L := by
  cases L with
  | nil => exact Or.inl rfl
  | cons q L =>
    rcases h with h | ⟨g2, o, rfl, hr⟩
    · simp at h
    · exact Or.inr ⟨g2, o, rfl, hr.same (hg.block g2 hr.lt (hne g2 rfl))⟩

theorem pmarks_blk (a : Option Addr) (L : List (Int × Int)) : blkL a (pmarks 1 L.length) = blkL a L := by
  cases L with
  | nil => rfl
  | cons q L =>
    have : ∃ u T, pmarks 1 (q :: L).length = u :: T := by
      cases h : pmarks 1 (q :: L).length with
      | nil => have := pmarks_length 1 (q :: L).length; rw [h] at this; simp at this
      | cons u T => exact ⟨u, T, rfl⟩
    obtain ⟨u, T, e⟩ := this
    rw [e]
    rfl

theorem mark_list (span : Int) (a : Option Addr) (c : Nat) (L : List (Int × Int)) (w : World) (h : WOk w a L) (hl : L.length ≤ 1048577) :
    Calls Try.prog 12 #[.agg #[.int .i64 span, .slice a L.length c], .int .i64 1] w fun e w' => e = .returned (.int .i64 (1 + 2 * (L.length : Int))) ∧ WOk w' a (pmarks 1 L.length) ∧ w.grownBy w' (blkL a L) := by
  cases L with
  | cons q L => exact mark_window span a c (q :: L) w h hl
  | nil =>
    have B1 : ∀ A : Obj, w.grownBy (w.alloc A) none := fun A => World.grownBy_alloc w A _
    go_enter Try.func12, Try.ntmps12
    go_wp2_with fail
    refine (mark_none a c 1 _).mono ?_
    rintro e w1 ⟨rfl, rfl⟩
    go_wp2
    go_ret
    exact ⟨rfl, Or.inl rfl, B1 _⟩

theorem spec_trimA (span now : Int) (a : Option Addr) (c : Nat) (L : List (Int × Int)) (w : World) (ha : WOk w a L) (hl : (L.length : Int) ≤ 1048577) :
    Calls Try.prog 8 #[.agg #[.int .i64 span, .slice a L.length c], .int .i64 now] w (Answers w (trimSpan span L now) (TrimWalks.trimmed span L now)) :=
  (spec_trim span now a c L w ha hl).mono fun e w' ⟨v, he, hown, hb⟩ => by
    obtain ⟨a2, cap, rfl, hw, hblk, _, _⟩ := owns_row hown
    exact ⟨a2, cap, he, hw, hblk, hb⟩

theorem trimmed_len (span now : Int) (L : List (Int × Int)) : (TrimWalks.trimmed span L now).length ≤ L.length := by
  by_cases h : winOk span L ∧ 0 ≤ now ∧ now ≤ 1000000000
  · rw [(trimmed_good h).1]
    exact List.length_filter_le _ _
  · rw [(trimmed_bad h).1]
    exact Nat.zero_le _

theorem pushed_len (span now lat : Int) (L : List (Int × Int)) : (pushed span now lat L).length ≤ 201 := by
  by_cases h : pushOk span now lat L
  · rw [(pushed_good h).1]
    have h1 : (less lat (young span now L)).length ≤ 200 := Nat.le_trans (List.length_filter_le _ _) (Nat.le_trans (List.length_filter_le _ _) h.1.2.2.1)
    have h2 : (put now lat (less lat (young span now L))).length ≤ 201 := by
      unfold put
      split
      · omega
      · simp; omega
    unfold cutOne
    split
    · rw [List.length_drop]; omega
    · exact h2
  · rw [(pushed_bad h).1]
    exact Nat.zero_le _
end Go.Proofs.Ytjopeogdebepmaa.LawKit
