/- What the laws on lists of samples lean on: marks in a list of the call's own leave every other list and every variable as they were; no condition but those written in each. -/
import Derived.Test.YtbdkepnjhcdpnaaRows
import Derived.Test.YtbdkepnjhcdpnaaPairWalks
import Derived.WalkKit
import Derived.WalkSmall
namespace Go.Proofs.Ytbdkepnjhcdpnaa.MarkKit
open Go.RowKit PairWalks

/-- The block of a list that has a sample. -/
def blkL (a : Option Addr) (L : List (Int × Int)) : Option Nat := match L with
  | [] => none
  | _ :: _ => blk a

theorem blkL_lt {w : World} {a : Option Addr} {L : List (Int × Int)} (h : WOk w a L) : ∀ g, blkL a L = some g → g < w.heap.size := by
  intro g hg
  cases L with
  | nil => simp [blkL] at hg
  | cons q L =>
    rcases h with h | ⟨g2, o, rfl, hr⟩
    · simp at h
    · simp [blkL, blk] at hg
      subst hg
      exact hr.lt

theorem blkL_ge {a : Option Addr} {L : List (Int × Int)} {n : Nat} (h : ∀ b, blk a = some b → n ≤ b) : ∀ g, blkL a L = some g → n ≤ g := by
  intro g hg
  cases L with
  | nil => simp [blkL] at hg
  | cons q L => exact h g hg

theorem wok_grown {w w' : World} {a : Option Addr} {L : List (Int × Int)} {r : Option Nat} (h : WOk w a L) (hg : w.grownBy w' r) (hne : ∀ g, blkL a L = some g → some g ≠ r) : WOk w' a L := by
  cases L with
  | nil => exact Or.inl rfl
  | cons q L =>
    rcases h with h | ⟨g2, o, rfl, hr⟩
    · simp at h
    · exact Or.inr ⟨g2, o, rfl, hr.same (hg.block g2 hr.lt (hne g2 rfl))⟩

theorem pmarks_blk (a : Option Addr) (L : List (Int × Int)) : blkL a (pmarks 1 L.length) = blkL a L := by
  cases L with
  | nil => rfl
  | cons q L =>
    have : ∃ u T, pmarks 1 (q :: L).length = u :: T := by
      cases h : pmarks 1 (q :: L).length with
      | nil => have := pmarks_length 1 (q :: L).length; rw [h] at this; simp at this
      | cons u T => exact ⟨u, T, rfl⟩
    obtain ⟨u, T, e⟩ := this
    rw [e]
    rfl

end Go.Proofs.Ytbdkepnjhcdpnaa.MarkKit
