/- What the program's OfTier answers, at every queue and tier: its requests, in a list of its own; nothing else turns. -/
import Derived.Test.YtnejomfaojpicaaRows
import Derived.WalkKit
import Derived.WalkSmall
import Derived.BigQuiet
import Derived.Deep.RegionWith
import Derived.Deep.DeepCutAuto
import Derived.Test.YtnejomfaojpicaaListKit
import Derived.Test.YtnejomfaojpicaaHoldKit
import Derived.Test.YtnejomfaojpicaaGrowKit
import Derived.Test.YtnejomfaojpicaaMapKit
import Derived.Test.YtnejomfaojpicaaReqKit
import Derived.Test.YtnejomfaojpicaaReqOks
import Derived.Test.YtnejomfaojpicaaQueMath
import Derived.Test.YtnejomfaojpicaaQueStandI
import Derived.Test.YtnejomfaojpicaaQueTierS
import Derived.Test.YtnejomfaojpicaaQueMapI
namespace Go.Proofs.Ytnejomfaojpicaa.QueTierI
open Go.RowKit ListKit HoldKit GrowKit MapKit QueMath QueTierS QueMapI
set_option maxRecDepth 8000
set_option linter.unusedVariables false
set_option linter.unusedSimpArgs false

theorem tier_no (L : List ReqKit.Req) (t : Int) : tierOf L t false = [] := by
  unfold tierOf
  rw [List.filter_eq_nil_iff]
  intro s _ h
  simp [ofTier] at h
theorem tier_wf {x : Int} {L : List ReqKit.Req} (h : QueOk x L) (k : Nat) (hk : k < L.length) : 0 ≤ L[k].x1 ∧ L[k].x1 < 4 ∧ 0 ≤ L[k].x2 ∧ L[k].x2 ≤ 1000 := by
  have h1 := (h.2.2.2 k hk).1
  generalize L[k] = s at h1 ⊢
  obtain ⟨x0, x1, x2, x3, x4, x5⟩ := s
  have h2 : 1 ≤ x0 ∧ x0 ≤ 1000000 ∧ 0 ≤ x1 ∧ x1 < 4 ∧ 0 ≤ x2 ∧ x2 ≤ 1000 ∧ 0 ≤ x3 ∧ x3 ≤ 1000000000 ∧ 0 ≤ x4 ∧ x4 ≤ 1000000000 ∧ 0 ≤ x5 ∧ x5 ≤ 20 := by simpa [ReqOks.reqOk] using h1
  show 0 ≤ x1 ∧ x1 < 4 ∧ 0 ≤ x2 ∧ x2 ≤ 1000
  omega
set_option maxHeartbeats 4000000 in
theorem impl_oftier (x : Int) (a : Option Addr) (c : Nat) (L : List ReqKit.Req) (tn : Int) (B : Bool) (w : World) (h : Own 27 6 ReqKit.cells w a L) (hl : L.length ≤ 1048577) (hc : L.length ≤ c) (hw : wf tn) (bf : Hid (B = true ↔ QueOk x L)) :
    Calls Try.prog 7 #[.agg #[.int .i64 x, .slice a L.length c], .int .i64 tn] w fun e w' => ∃ a2 c2, e = .returned (.slice a2 (tierOf L tn B).length c2) ∧ (tierOf L tn B).length ≤ c2 ∧ Holds w' w.heap.size [⟨a2, 27, 6, (tierOf L tn B).map ReqKit.cells⟩] ∧ Below w.heap.size w w' := by
  have HA : Hid (Own 27 6 ReqKit.cells w a L) := h
  have HQ := fun W h => QueStandI.impl_queueok x a c L B W h hl hc bf
  clear h
  obtain ⟨n, hn⟩ : ∃ n, L.length = n := ⟨_, rfl⟩
  have b0 : Hid (boxB (w.alloc (.cells #[.int .i64 x, .slice a n c] 25)) w.heap.size #[.int .i64 x, .slice a n c] 25 ∧ Below w.heap.size w (w.alloc (.cells #[.int .i64 x, .slice a n c] 25))) := ⟨boxB.new _ _ _, n1 _ _⟩
  cases B with
  | false =>
    rw [tier_no]
    rw [hn] at hl hc HQ ⊢
    clear hn
    go_enter Try.func7, Try.ntmps7
    go_wp2_with fail
    refine (HQ _ (HA.out.below b0.out.2)).mono ?_
    rintro e w1 ⟨rfl, b1⟩
    have B1 : Hid (Below w.heap.size w w1) := b0.out.2.trans (b1.mono b0.out.2.size)
    have G1 : Hid (Holds w1 w.heap.size [⟨none, 27, 6, ([] : List ReqKit.Req).map ReqKit.cells⟩]) := Holds.own (f := ReqKit.cells) (L := []) (Or.inl rfl) (fun b hb => by simp [blkL] at hb)
    clear b1 HQ bf
    go_wp2
    go_ret
    exact ⟨none, 0, rfl, Nat.le_refl _, G1.out, B1.out⟩
  | true =>
    have HT := fun W h => by_tier a c L W h hl hc (fun k hk => wf_of (by have := tier_wf (bf.out.1 rfl) k hk; omega) (by have := tier_wf (bf.out.1 rfl) k hk; omega))
    rw [hn] at hl hc HQ HT ⊢
    clear hn
    go_enter Try.func7, Try.ntmps7
    go_wp2_with fail
    refine (HQ _ (HA.out.below b0.out.2)).mono ?_
    rintro e w1 ⟨rfl, b1⟩
    have B1 : Hid (boxB w1 w.heap.size #[.int .i64 x, .slice a n c] 25 ∧ Below w.heap.size w w1) := ⟨b0.out.1.below b1, b0.out.2.trans (b1.mono b0.out.2.size)⟩
    have l1 := B1.out.1.cell 1
    clear b1 HQ bf b0
    go_wp2_with fail
    refine (HT _ (HA.out.below B1.out.2)).mono ?_
    rintro e w2 ⟨V, rfl, hg, b2⟩
    have hlk := hg.look hw
    obtain ⟨a2, c2, hv, hc2, hh⟩ := Cp.shape (t := 27) (m := 6) (f := ReqKit.cells) (fun _ => rfl) (hg.own tn hw)
    rw [hv] at hlk
    have HH : Hid ((tierOf L tn true).length ≤ c2 ∧ Holds w2 (w1.heap.size + 1) [⟨a2, 27, 6, (tierOf L tn true).map ReqKit.cells⟩] ∧ Below w.heap.size w w2 ∧ w.heap.size ≤ w1.heap.size) := ⟨hc2, hh, B1.out.2.trans (b2.mono B1.out.2.size), B1.out.2.size⟩
    clear hg b2 hv hc2 hh B1 l1
    obtain ⟨q, hq⟩ : ∃ q, (tierOf L tn true).length = q := ⟨_, rfl⟩
    rw [hq] at hlk
    go_wp2
    go_ret
    exact ⟨a2, c2, by rw [hq]; rfl, HH.out.1, HH.out.2.1.low (by have := HH.out.2.2.2; omega), HH.out.2.2.1⟩
end Go.Proofs.Ytnejomfaojpicaa.QueTierI
