/- The program's Grant and the model's answer the same, each in memory of its own; nothing else turns; at every ledger of at most 2 to the 20 slots. -/
import Derived.Test.YtacpblhajoblmaaDoorRows
import Derived.WalkKit
import Derived.WalkSmall
import Derived.Test.YtacpblhajoblmaaDoorListKit
import Derived.Test.YtacpblhajoblmaaDoorSlotKit
import Derived.Test.YtacpblhajoblmaaDoorSlotOks
import Derived.Test.YtacpblhajoblmaaDoorLedFind
import Derived.Test.YtacpblhajoblmaaDoorLedOk
import Derived.Test.YtacpblhajoblmaaDoorLedPermit
import Derived.Test.YtacpblhajoblmaaDoorLedCopy
import Derived.Test.YtacpblhajoblmaaDoorLedGrant
import Derived.Test.YtacpblhajoblmaaDoorLedMath
import Derived.Test.YtacpblhajoblmaaDoorLedGrantS
namespace Go.Proofs.YtacpblhajoblmaaDoor.LedBoth
open Go.RowKit ListKit SlotKit SlotOks LedFind LedOk LedPermit LedCopy LedGrant LedMath LedGrantS
set_option linter.unusedVariables false

theorem spec_grant (a : Option Addr) (c : Nat) (L L2 : List Slot) (req cl now P G : Int) (B : Bool) (w : World) (h : Own 35 5 cells w a L) (hl : (L.length : Int) ≤ 1048576) (hc : L.length ≤ c) (HG : Gr L req cl now L2 P G B) :
    Calls Tryd.prog 24 #[.agg #[.slice a L.length c], .int .i64 req, .int .i64 cl, .int .i64 now] w (GAns w L2 P G B) := by
  obtain ⟨P1, G1, B1, HP⟩ := perm_ex L req
  obtain ⟨BB, HB⟩ := flag (ledOk L)
  obtain ⟨v, hv⟩ : ∃ v, slotOk ⟨0, true, req, cl, now⟩ = v := ⟨_, rfl⟩
  cases hno : (BB && v && !B1) with
  | false =>
    have hcan : ¬ can L req cl now := by
      rintro ⟨h1, h2, h3⟩
      have e1 : BB = true := HB.out.2 h1
      have e2 : v = true := hv.symm.trans h2
      have e3 : B1 = false := by
        rcases HP with ⟨h4, _⟩ | ⟨h4, _⟩ | ⟨_, _, k, _, hk, h4, _⟩
        · exact h4
        · exact h4
        · rw [h3 k hk] at h4; cases h4
      rw [e1, e2, e3] at hno
      cases hno
    rcases HG with ⟨rfl, rfl, rfl, rfl, _⟩ | ⟨_, h3, _⟩ | ⟨_, h3, _⟩
    · exact spec_grant_bad a c L req cl now P1 G1 B1 BB v HP HB hv hno w h hl hc
    · exact absurd h3 hcan
    · exact absurd h3 hcan
  | true =>
    cases BB with
    | false => cases hno
    | true =>
      cases v with
      | false => cases hno
      | true =>
        cases B1 with
        | true => cases hno
        | false => exact spec_grant_ok a c L req cl now P1 G1 HP HB hv L2 P G B HG w h hl hc
theorem both_grant (L : List Slot) (req cl now : Int) (hl : (L.length : Int) ≤ 1048576) : ∃ (L2 : List Slot) (P G : Int) (B : Bool),
    (∀ (a : Option Addr) (c : Nat) (W : World), Own 35 5 cells W a L → L.length ≤ c → Calls Tryd.prog 24 #[.agg #[.slice a L.length c], .int .i64 req, .int .i64 cl, .int .i64 now] W (GAns W L2 P G B)) ∧
    (∀ (a : Option Addr) (c : Nat) (W : World), Own 35 5 cells W a L → L.length ≤ c → Calls Tryd.prog 5 #[.agg #[.slice a L.length c], .int .i64 req, .int .i64 cl, .int .i64 now] W (GAns W L2 P G B)) ∧
    L2.length ≤ 1048577 := by
  obtain ⟨L2, P, G, B, h⟩ := gr_ex L req cl now
  exact ⟨L2, P, G, B, fun a c W ho hc => spec_grant a c L L2 req cl now P G B W ho hl hc h, fun a c W ho hc => impl_grant a c L L2 req cl now P G B W ho hl hc h, by have := gr_len h; omega⟩
end Go.Proofs.YtacpblhajoblmaaDoor.LedBoth
