/- What is learnt leaves a right limit right; what is fast and steady never lowers it, and raises it by a root at most; no condition but those written in each. -/
import Derived.Test.YtbdkepnjhcdpnaaRows
import Derived.Test.YtbdkepnjhcdpnaaRootMath
import Derived.Test.YtbdkepnjhcdpnaaShareMath
import Derived.Test.YtbdkepnjhcdpnaaMeanWalks
import Derived.Test.YtbdkepnjhcdpnaaWinOk
import Derived.Test.YtbdkepnjhcdpnaaTrimWalks
import Derived.Test.YtbdkepnjhcdpnaaPushWalks
import Derived.Test.YtbdkepnjhcdpnaaImplTrim
import Derived.Test.YtbdkepnjhcdpnaaWinMath
import Derived.Test.YtbdkepnjhcdpnaaLimSpec
import Derived.Test.YtbdkepnjhcdpnaaLimBack
import Derived.Test.YtbdkepnjhcdpnaaLimSteps
import Derived.Test.YtbdkepnjhcdpnaaLimMath
namespace Go.Proofs.Ytbdkepnjhcdpnaa.LimInv
open Go.RowKit RootMath ShareMath MeanWalks WinOk TrimWalks PushWalks ImplTrim WinMath LimBack LimMath
open LimSpec (limOk cfgOk)
open LimSteps (isLat)
set_option linter.unusedVariables false

theorem pushed_ok {span now lat : Int} {L : List (Int × Int)} (h : pushOk span now lat L) : winOk span (pushed span now lat L) := by
  rw [(pushed_good h).1]
  obtain ⟨hw, ht, hl⟩ := h
  have hD : ∀ p ∈ less lat (young span now L), p ∈ L ∧ p.2 < lat := fun p hp => by
    have h1 := List.mem_filter.1 hp
    exact ⟨(List.mem_filter.1 h1.1).1, by simpa using h1.2⟩
  have hr : (less lat (young span now L)).Pairwise fun p q => p.1 < q.1 ∧ p.2 < q.2 := (young_rises hw).filter _
  have hlen : (less lat (young span now L)).length ≤ 200 := Nat.le_trans (List.length_filter_le _ _) (Nat.le_trans (List.length_filter_le _ _) hw.2.2.1)
  generalize less lat (young span now L) = D at *
  have hb : ∀ p ∈ D, inB p := fun p hp => winOk_in hw p (hD p hp).1
  have hput : (put now lat D).length ≤ 201 ∧ (∀ p ∈ put now lat D, inB p) ∧ (put now lat D).Pairwise fun p q => p.1 < q.1 ∧ p.2 < q.2 := by
    unfold put
    split
    · exact ⟨by omega, hb, hr⟩
    · rename_i hnot
      refine ⟨by simp; omega, fun p hp => ?_, ?_⟩
      · rcases List.mem_append.1 hp with hp | hp
        · exact hb p hp
        · obtain rfl : p = (now, lat) := by simpa using hp
          exact ⟨ht.1, ht.2, hl.1, hl.2⟩
      · rw [List.pairwise_append]
        refine ⟨hr, List.pairwise_singleton _ _, fun p hp q hq => ?_⟩
        obtain rfl : q = (now, lat) := by simpa using hq
        refine ⟨?_, (hD p hp).2⟩
        cases hlast : D.getLast? with
        | none =>
          have : D = [] := List.getLast?_eq_none_iff.1 hlast
          rw [this] at hp
          cases hp
        | some z =>
          have hz : z.1 < now := by
            unfold lastLate at hnot
            rw [hlast] at hnot
            simpa using hnot
          obtain ⟨E, rfl⟩ := last_of hlast
          rcases List.mem_append.1 hp with hp | hp
          · have := (List.pairwise_append.1 hr).2.2 p hp z (by simp)
            show p.1 < now
            omega
          · obtain rfl : p = z := by simpa using hp
            exact hz
  unfold cutOne
  split
  · refine winOk_of hw.1 hw.2.1 (by rw [List.length_drop]; omega) (fun p hp => hput.2.1 p (List.mem_of_mem_drop hp)) (hput.2.2.sublist (List.drop_sublist _ _))
  · exact winOk_of hw.1 hw.2.1 (by omega) hput.2.1 hput.2.2

section
variable {k mn mx sp sl li gd av ws now lat r : Int} {L : List (Int × Int)}

theorem ok_back (h : limOk k mn mx sp sl li gd av ws L) : limOk k mn mx sp sl (clampI (li * 9 / 10) mn mx) 0 av ws L := by
  have hb := clampI_bounds (li * 9 / 10) h.1.2.2.1
  exact ⟨h.1, hb.1, hb.2, by omega, by omega, h.2.2.2.2.2⟩
theorem ok_up (h : limOk k mn mx sp sl li gd av ws L) : limOk k mn mx sp sl (clampI (li + 1) mn mx) 0 av ws L := by
  have hb := clampI_bounds (li + 1) h.1.2.2.1
  exact ⟨h.1, hb.1, hb.2, by omega, by omega, h.2.2.2.2.2⟩
theorem ok_same (h : limOk k mn mx sp sl li gd av ws L) (hg : ¬ li ≤ gd + 1) : limOk k mn mx sp sl li (gd + 1) av ws L := by
  have h1 := h.1.2.2.2.1
  have h2 := h.2.2.1
  have h3 := h.2.2.2.1
  exact ⟨h.1, h.2.1, h.2.2.1, by omega, by omega, h.2.2.2.2.2⟩
theorem ok_slope (g : Int) (h : limOk k mn mx sp sl li gd av ws L) (ht : isT now) (hl : isLat lat) : limOk k mn mx sp sl (slopeLim li mn mx g r) gd (newAvg av lat) ws (pushed ws now lat L) := by
  have hb := clampI_bounds ((7 * li + (shareI li g 65536 + r)) / 8) h.1.2.2.1
  have ha := newAvg_bounds h.2.2.2.2.2.1 h.2.2.2.2.2.2.1 hl.1 hl.2
  exact ⟨h.1, hb.1, hb.2, h.2.2.2.1, h.2.2.2.2.1, ha.1, ha.2, pushed_ok ⟨h.2.2.2.2.2.2.2.1, ht, hl⟩, h.2.2.2.2.2.2.2.2⟩

/-- A limit that has seen the one latency sl alone. -/
def Calm (sl av : Int) (L : List (Int × Int)) : Prop := (av = 0 ∨ av = sl * 65536) ∧ ∀ p ∈ L, p.2 = sl

theorem calm_avg (h0 : 0 ≤ sl) (h1 : sl ≤ 1000000) (h : Calm sl av L) : newAvg av sl = sl * 65536 := by
  unfold newAvg
  split
  · rfl
  · rename_i hne
    have e : av = sl * 65536 := h.1.resolve_left hne
    have hm : meanOf av sl 8192 = moved av sl 8192 := if_pos ⟨by omega, by omega, by omega, by omega, by omega, by omega⟩
    rw [hm, e]
    unfold moved
    rw [show sl * 65536 - sl * 65536 = 0 by omega]
    simp

theorem calm_pushed (hp : pushOk ws now sl L) (h : Calm sl av L) : pushed ws now sl L = [(now, sl)] := by
  rw [(pushed_good hp).1]
  have hD : less sl (young ws now L) = [] := by
    apply List.filter_eq_nil_iff.2
    intro p hp
    have := h.2 p (List.mem_filter.1 hp).1
    simp [this]
  rw [hD]
  rfl

theorem least_one (h1 : 1 ≤ ws) (h2 : ws ≤ 100000) (ht : isT now) (hl : isLat lat) : leastOf ws [(now, lat)] now = lat := by
  have hw : winOk ws [(now, lat)] := winOk_of h1 h2 (by simp) (fun p hp => by
    obtain rfl : p = (now, lat) := by simpa using hp
    exact ⟨ht.1, ht.2, hl.1, hl.2⟩) (List.pairwise_singleton _ _)
  unfold leastOf
  rw [(trimmed_good ⟨hw, ht.1, ht.2⟩).1]
  have : young ws now [(now, lat)] = [(now, lat)] := by
    unfold young
    rw [List.filter_cons_of_pos (by simp; omega)]
    rfl
  rw [this]

theorem grad_calm (h0 : 0 ≤ sl) (h1 : sl ≤ 1000000) : grad sl (sl * 65536) = 65536 := by
  unfold grad
  have e : sl * 65536 / 65536 = sl := by omega
  rw [e]
  have hs : shareI (sl + 1) 65536 (sl + 1) = 65536 := by
    obtain ⟨m, rfl⟩ := Int.eq_ofNat_of_zero_le h0
    have : shareI ((m : Int) + 1) 65536 ((m : Int) + 1) = shareI ((m + 1 : Nat) : Int) ((65536 : Nat) : Int) ((m + 1 : Nat) : Int) := by simp
    rw [this, shareI_nat]
    unfold share
    rw [Nat.mul_div_cancel_left _ (by omega)]
    rw [if_pos (by omega)]
    rfl
  rw [hs]
  rfl

theorem share_whole (h0 : 0 ≤ li) : shareI li 65536 65536 = li ∨ 9223372036854775807 < li := by
  by_cases hb : li ≤ 9223372036854775807
  · left
    obtain ⟨m, rfl⟩ := Int.eq_ofNat_of_zero_le h0
    have : shareI (m : Int) 65536 65536 = shareI (m : Int) ((65536 : Nat) : Int) ((65536 : Nat) : Int) := rfl
    rw [this, shareI_nat]
    unfold share
    rw [Nat.mul_div_cancel _ (by omega), if_pos (by omega)]
  · right
    omega

/-- The slope of the calm: up by a root at most, and never down. -/
theorem slope_calm (h : limOk k mn mx sp sl li gd av ws L) (ht : isT now) (hc : Calm sl av L) (hr : isRoot li r) :
    li ≤ slopeLim li mn mx (grad (leastOf ws (pushed ws now sl L) now) (newAvg av sl)) r ∧ slopeLim li mn mx (grad (leastOf ws (pushed ws now sl L) now) (newAvg av sl)) r ≤ li + r ∧ Calm sl (newAvg av sl) (pushed ws now sl L) := by
  have s0 : 0 ≤ sl := h.1.2.2.2.2.2.2.1
  have s1 : sl ≤ 1000000 := h.1.2.2.2.2.2.2.2
  have hw := h.2.2.2.2.2.2.2.1
  have hm0 := h.1.2.1
  have hm1 := h.2.1
  have hm2 := h.2.2.1
  have hm3 := h.1.2.2.2.1
  rw [calm_pushed ⟨hw, ht, s0, s1⟩ hc, calm_avg s0 s1 hc, least_one hw.1 hw.2.1 ht ⟨s0, s1⟩, grad_calm s0 s1]
  have hs := (share_whole (li := li) (by omega)).resolve_right (by omega)
  have hrb := root_small hr (by omega)
  unfold slopeLim
  rw [hs]
  refine ⟨?_, ?_, Or.inr rfl, fun p hp => by obtain rfl : p = (now, sl) := by simpa using hp
                                             rfl⟩
  · unfold clampI
    split
    · omega
    · split
      · omega
      · omega
  · unfold clampI
    split
    · omega
    · split
      · omega
      · omega
end
end Go.Proofs.Ytbdkepnjhcdpnaa.LimInv
