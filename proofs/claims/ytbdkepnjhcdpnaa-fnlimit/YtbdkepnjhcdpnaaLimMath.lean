/- Numbers of limits that learn by slope: shares, means, roots and the least stay in their bounds; no condition but those written in each. -/
import Derived.Test.YtbdkepnjhcdpnaaRows
import Derived.Test.YtbdkepnjhcdpnaaRootMath
import Derived.Test.YtbdkepnjhcdpnaaRootWalks
import Derived.Test.YtbdkepnjhcdpnaaShareMath
import Derived.Test.YtbdkepnjhcdpnaaShareWalks
import Derived.Test.YtbdkepnjhcdpnaaMeanWalks
import Derived.Test.YtbdkepnjhcdpnaaWinOk
import Derived.Test.YtbdkepnjhcdpnaaTrimWalks
import Derived.Test.YtbdkepnjhcdpnaaPushWalks
import Derived.Test.YtbdkepnjhcdpnaaImplTrim
import Derived.Test.YtbdkepnjhcdpnaaLimBack
namespace Go.Proofs.Ytbdkepnjhcdpnaa.LimMath
open Go.RowKit RootMath ShareMath MeanWalks WinOk TrimWalks PushWalks ImplTrim LimBack

def isT (n : Int) : Prop := 0 ≤ n ∧ n ≤ 1000000000

/-- A share of whole numbers. -/
def shareI (n a b : Int) : Int := ((share n.toNat a.toNat b.toNat : Nat) : Int)
theorem shareI_nat (n a b : Nat) : shareI n a b = ((share n a b : Nat) : Int) := by simp [shareI]

theorem spec_shareI (n a b : Int) (w : World) (hn0 : 0 ≤ n) (hn : n ≤ 1000000000000) (ha0 : 0 ≤ a) (ha : a ≤ 1000000000000) (hb0 : 0 < b) (hb : b ≤ 1000000000000) :
    Calls Try.prog 46 #[.int .i64 n, .int .i64 a, .int .i64 b] w fun e w' => e = .returned (.int .i64 (shareI n a b)) ∧ w' = w := by
  obtain ⟨x, rfl⟩ := Int.eq_ofNat_of_zero_le hn0
  obtain ⟨y, rfl⟩ := Int.eq_ofNat_of_zero_le ha0
  obtain ⟨z, rfl⟩ := Int.eq_ofNat_of_zero_le (Int.le_of_lt hb0)
  rw [shareI_nat]
  exact ShareWalks.spec_share x y z w (by omega) (by omega) (by omega) (by omega)

theorem impl_shareI (n a b : Int) (w : World) (hn0 : 0 ≤ n) (hn : n ≤ 1000000000000) (ha0 : 0 ≤ a) (ha : a ≤ 1000000000000) (hb0 : 0 < b) (hb : b ≤ 1000000000000) :
    Calls Try.prog 70 #[.int .i64 n, .int .i64 a, .int .i64 b] w fun e w' => e = .returned (.int .i64 (shareI n a b)) ∧ Below w.heap.size w w' := by
  obtain ⟨x, rfl⟩ := Int.eq_ofNat_of_zero_le hn0
  obtain ⟨y, rfl⟩ := Int.eq_ofNat_of_zero_le ha0
  obtain ⟨z, rfl⟩ := Int.eq_ofNat_of_zero_le (Int.le_of_lt hb0)
  rw [shareI_nat]
  exact ShareWalks.impl_share x y z w (by omega) (by omega) (by omega) (by omega)

theorem shareI_bounds (n a b : Int) : 0 ≤ shareI n a b ∧ shareI n a b ≤ 9223372036854775807 := by
  have := share_le n.toNat a.toNat b.toNat
  unfold shareI
  omega

theorem share_unit (n a : Nat) (ha : a ≤ 65536) : share n a 65536 ≤ n := by
  have h1 : n * a / 65536 ≤ n := by
    have h2 : n * a ≤ n * 65536 := Nat.mul_le_mul_left n ha
    exact Nat.div_le_of_le_mul (by rw [Nat.mul_comm 65536 n]; exact h2)
  unfold share
  split
  · exact h1
  · omega

theorem shareI_unit (n a : Int) (hn0 : 0 ≤ n) (ha0 : 0 ≤ a) (ha : a ≤ 65536) : 0 ≤ shareI n a 65536 ∧ shareI n a 65536 ≤ n := by
  have := share_unit n.toNat a.toNat (by omega)
  unfold shareI
  have e : (65536 : Int).toNat = 65536 := rfl
  rw [e]
  omega

theorem root_small {n r : Int} (h : isRoot n r) (hn : n ≤ 1000) : 0 ≤ r ∧ r ≤ 31 := by
  refine ⟨h.1, ?_⟩
  by_cases hr : r ≤ 31
  · exact hr
  · have := sq_le (a := 32) (b := r) (by omega) (by omega)
    have := h.2.2.1
    omega

theorem root_nat (n : Nat) : ∃ r : Nat, r * r ≤ n ∧ n < (r + 1) * (r + 1) := by
  induction n with
  | zero => exact ⟨0, by omega, by omega⟩
  | succ n ih =>
    obtain ⟨r, h1, h2⟩ := ih
    by_cases h : n + 1 < (r + 1) * (r + 1)
    · exact ⟨r, by omega, h⟩
    · refine ⟨r + 1, by omega, ?_⟩
      have : (r + 1) * (r + 1) < (r + 1 + 1) * (r + 1 + 1) := Nat.mul_lt_mul_of_lt_of_lt (by omega) (by omega)
      omega

theorem root_is {n : Int} (h0 : 1 ≤ n) (h1 : n ≤ 1000) : ∃ r, isRoot n r := by
  obtain ⟨m, rfl⟩ := Int.eq_ofNat_of_zero_le (by omega : 0 ≤ n)
  obtain ⟨r, h2, h3⟩ := root_nat m
  have hr : r ≤ m := by
    cases r with
    | zero => omega
    | succ r => exact Nat.le_trans (Nat.le_mul_of_pos_left _ (by omega)) h2
  refine ⟨r, by omega, by omega, ?_, ?_⟩
  · rw [← Int.natCast_mul]; omega
  · have : ((r : Int) + 1) * ((r : Int) + 1) = (((r + 1) * (r + 1) : Nat) : Int) := by simp
    rw [this]
    omega

/-- The mean that a limit takes next. -/
def newAvg (av lat : Int) : Int := if av = 0 then lat * 65536 else meanOf av lat 8192

theorem newAvg_bounds {av lat : Int} (h0 : 0 ≤ av) (h1 : av ≤ 65536000000) (h2 : 0 ≤ lat) (h3 : lat ≤ 1000000) : 0 ≤ newAvg av lat ∧ newAvg av lat ≤ 65536000000 := by
  unfold newAvg
  split
  · omega
  · have e : meanOf av lat 8192 = moved av lat 8192 := if_pos ⟨h0, h1, h2, h3, by omega, by omega⟩
    rw [e]
    unfold moved
    by_cases hm : 0 ≤ (lat * 65536 - av) * 8192
    · rw [Int.tdiv_eq_ediv_of_nonneg hm]
      omega
    · have e : ((lat * 65536 - av) * 8192).tdiv 65536 = -((-((lat * 65536 - av) * 8192)) / 65536) := by
        rw [← Int.tdiv_eq_ediv_of_nonneg (by omega : 0 ≤ -((lat * 65536 - av) * 8192)), Int.neg_tdiv, Int.neg_neg]
      rw [e]
      omega

theorem least_bounds (ws : Int) (P : List (Int × Int)) (now : Int) : -1 ≤ leastOf ws P now ∧ leastOf ws P now ≤ 1000000 := by
  by_cases h : winOk ws P ∧ 0 ≤ now ∧ now ≤ 1000000000
  · obtain ⟨e, _⟩ := trimmed_good h
    unfold leastOf
    rw [e]
    cases hy : young ws now P with
    | nil => simp
    | cons q T =>
      have hq : q ∈ P := (List.mem_filter.1 (show q ∈ young ws now P from by rw [hy]; simp)).1
      obtain ⟨i, hi, rfl⟩ := List.getElem_of_mem hq
      have := (h.1.2.2.2 i hi).1
      unfold inB at this
      simp only
      omega
  · obtain ⟨e, _⟩ := trimmed_bad h
    unfold leastOf
    rw [e]
    simp

/-- How steep: the least against the mean. -/
def grad (least av : Int) : Int := clampI (shareI (least + 1) 65536 (av / 65536 + 1)) 32768 65536

theorem clampI_bounds (n : Int) {lo hi : Int} (h : lo ≤ hi) : lo ≤ clampI n lo hi ∧ clampI n lo hi ≤ hi := by
  unfold clampI
  split
  · omega
  · split
    · omega
    · omega

theorem grad_bounds (least av : Int) : 32768 ≤ grad least av ∧ grad least av ≤ 65536 := clampI_bounds _ (by omega)

/-- What the slope makes of a limit. -/
def slopeLim (li mn mx g r : Int) : Int := clampI ((7 * li + (shareI li g 65536 + r)) / 8) mn mx
theorem pushed_len (span now lat : Int) (L : List (Int × Int)) : (pushed span now lat L).length ≤ 201 := by
  by_cases h : pushOk span now lat L
  · rw [(pushed_good h).1]
    have h1 : (less lat (young span now L)).length ≤ 200 := Nat.le_trans (List.length_filter_le _ _) (Nat.le_trans (List.length_filter_le _ _) h.1.2.2.1)
    have h2 : (put now lat (less lat (young span now L))).length ≤ 201 := by
      unfold put
      split
      · omega
      · simp; omega
    unfold cutOne
    split
    · rw [List.length_drop]; omega
    · exact h2
  · rw [(pushed_bad h).1]
    exact Nat.zero_le _
end Go.Proofs.Ytbdkepnjhcdpnaa.LimMath
