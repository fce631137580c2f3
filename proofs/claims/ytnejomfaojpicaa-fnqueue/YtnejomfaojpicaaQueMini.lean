/- Plain facts that the law on queues leans on: a request held against itself; how many requests the first tiers have; the tier of a head; no condition but those written in each. -/
import Derived.Laws.StructEq
import Derived.Test.YtnejomfaojpicaaRows
import Derived.WalkKit
import Derived.WalkSmall
import Derived.Test.YtnejomfaojpicaaListKit
import Derived.Test.YtnejomfaojpicaaHoldKit
import Derived.Test.YtnejomfaojpicaaReqKit
import Derived.Test.YtnejomfaojpicaaReqOks
import Derived.Test.YtnejomfaojpicaaQueMath
import Derived.Test.YtnejomfaojpicaaQueMiscS
import Derived.Test.YtnejomfaojpicaaQueTierS
import Derived.Test.YtnejomfaojpicaaQueHeadS
import Derived.Test.YtnejomfaojpicaaQueGood
import Derived.Test.YtnejomfaojpicaaQueLaw
namespace Go.Proofs.Ytnejomfaojpicaa.QueMini
open Go.RowKit ListKit HoldKit QueMath QueMiscS QueTierS QueHeadS QueLaw
set_option linter.unusedVariables false
set_option linter.unusedSimpArgs false

theorem eq_self (x0 x1 x2 x3 x4 x5 : Int) (w : World) : (binOp .eql 27 (.agg #[.int .i64 x0, .int .i64 x1, .int .i64 x2, .int .i64 x3, .int .i64 x4, .int .i64 x5]) (.agg #[.int .i64 x0, .int .i64 x1, .int .i64 x2, .int .i64 x3, .int .i64 x4, .int .i64 x5])).run Try.prog w = .ok (.bool true) w := by
  have u3 := Try.underlying3
  have a3 := Try.isAgg3
  have z3 := Try.sizeOf3
  have hS : Try.prog.underlying 27 = some (.struct (Try.prog.fieldsOf 27)) := by kernel_rfl
  have hp : Try.prog.stoodInHeld 27 = false := by kernel_rfl
  rw [run_eql_struct, show (10000 : Nat) = 9999 + 1 from rfl, run_equalIn_agg w 9999 27 _ _ hS hp]
  simp only [Program.fieldsOf, Try.underlying27]
  go_simp
theorem neq_self (x0 x1 x2 x3 x4 x5 : Int) (w : World) : (binOp .neq 27 (.agg #[.int .i64 x0, .int .i64 x1, .int .i64 x2, .int .i64 x3, .int .i64 x4, .int .i64 x5]) (.agg #[.int .i64 x0, .int .i64 x1, .int .i64 x2, .int .i64 x3, .int .i64 x4, .int .i64 x5])).run Try.prog w = .ok (.bool false) w := by
  have u3 := Try.underlying3
  have a3 := Try.isAgg3
  have z3 := Try.sizeOf3
  have hS : Try.prog.underlying 27 = some (.struct (Try.prog.fieldsOf 27)) := by kernel_rfl
  have hp : Try.prog.stoodInHeld 27 = false := by kernel_rfl
  rw [run_neq_struct, show (10000 : Nat) = 9999 + 1 from rfl, run_equalIn_agg w 9999 27 _ _ hS hp]
  simp only [Program.fieldsOf, Try.underlying27]
  go_simp

/-- How many requests the tiers ahead of t have. -/
def upTo (M : List ReqKit.Req) : Nat → Nat
  | 0 => 0
  | t + 1 => upTo M t + (tierOf M (t : Int) true).length
theorem upTo_step (M : List ReqKit.Req) (t : Nat) : upTo M (t + 1) = upTo M t + (tierOf M (t : Int) true).length := rfl
theorem tier_le (M : List ReqKit.Req) (t : Int) : (tierOf M t true).length ≤ M.length := List.length_filter_le _ _
theorem upTo_le (M : List ReqKit.Req) : ∀ t, upTo M t ≤ t * M.length
  | 0 => by simp [upTo]
  | t + 1 => by have := upTo_le M t; have := tier_le M (t : Int); rw [upTo_step, Nat.succ_mul]; omega
theorem upTo_all {M : List ReqKit.Req} (h : ∀ s ∈ M, 0 ≤ s.x1 ∧ s.x1 < 4) : upTo M 4 = M.length := by
  have := tiers_sum M h
  simp only [upTo]
  simpa using this
theorem head_tier {M : List ReqKit.Req} {h : ReqKit.Req} (hm : h ∈ headsTo M true 4) : 0 ≤ h.x1 ∧ h.x1 < 4 := by
  unfold headsTo at hm
  obtain ⟨l, hl, hh⟩ := List.mem_flatten.1 hm
  obtain ⟨t, ht, rfl⟩ := List.mem_map.1 hl
  have h2 : h ∈ tierOf M (t : Int) true := List.mem_of_mem_take hh
  unfold tierOf at h2
  have h3 : h.x1 = (t : Int) := by
    have := (List.mem_filter.1 h2).2
    simpa [ofTier] using this
  have := List.mem_range.1 ht
  omega
theorem ok_tier {s : ReqKit.Req} (h : ReqOks.reqOk s = true) : 0 ≤ s.x1 ∧ s.x1 < 4 := by
  unfold ReqOks.reqOk at h
  have := of_decide_eq_true h
  omega
theorem fit_of {x x1 x2 x3 x5 : Int} {L : List ReqKit.Req} (hq : QueOk x L) (hx : x ≤ 6) (hs : ∀ s ∈ L, s.x0 ≤ 30 ∧ s.x4 ≤ 160) (hr : ReqOks.reqOk ⟨500, x1, x2, x3, 300, x5⟩ = true) : Fit L x1 x2 x3 x5 :=
  ⟨QueGood.ok_good hq, by have := hq.2.2.1; omega, hs, hr⟩
section
variable {L : List ReqKit.Req} {x1 x2 x3 x5 : Int}
theorem fit_sum (h : Fit L x1 x2 x3 x5) : upTo (L ++ [⟨500, x1, x2, x3, 300, x5⟩]) 4 = L.length + 1 := by
  rw [upTo_all (fun s hs => ok_tier (h.good2.1 s hs)), h.len2]
theorem fit_some (h : Fit L x1 x2 x3 x5) : ∃ f0 f1 f2 f3 f4 f5 l, headsTo (L ++ [⟨500, x1, x2, x3, 300, x5⟩]) true 4 = (⟨f0, f1, f2, f3, f4, f5⟩ : ReqKit.Req) :: l := by
  have hn := heads_some (M := L ++ [⟨500, x1, x2, x3, 300, x5⟩]) (s := ⟨500, x1, x2, x3, 300, x5⟩) (by simp) (ok_tier h.ok).1 (ok_tier h.ok).2
  cases e : headsTo (L ++ [⟨500, x1, x2, x3, 300, x5⟩]) true 4 with
  | nil => rw [e] at hn; simp at hn
  | cons a l => exact ⟨a.x0, a.x1, a.x2, a.x3, a.x4, a.x5, l, rfl⟩
end
end Go.Proofs.Ytnejomfaojpicaa.QueMini
