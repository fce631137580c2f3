/- The program's Release and the model's answer the same, each in memory of its own; nothing else turns; at every ledger of at most 2 to the 20 slots and every permit, where the program's two errors lie apart. -/
import Derived.Test.YtacpblhajoblmaaDoorRows
import Derived.WalkKit
import Derived.WalkSmall
import Derived.Test.YtacpblhajoblmaaDoorListKit
import Derived.Test.YtacpblhajoblmaaDoorSlotKit
import Derived.Test.YtacpblhajoblmaaDoorSlotOks
import Derived.Test.YtacpblhajoblmaaDoorLedFind
import Derived.Test.YtacpblhajoblmaaDoorLedOk
import Derived.Test.YtacpblhajoblmaaDoorLedPermit
import Derived.Test.YtacpblhajoblmaaDoorLedCopy
import Derived.Test.YtacpblhajoblmaaDoorLedGrant
import Derived.Test.YtacpblhajoblmaaDoorLedFour
import Derived.Test.YtacpblhajoblmaaDoorLedHeld
import Derived.Test.YtacpblhajoblmaaDoorLedRel
import Derived.Test.YtacpblhajoblmaaDoorLedRelS
namespace Go.Proofs.YtacpblhajoblmaaDoor.LedBothR
open Go.RowKit ListKit SlotKit SlotOks LedFind LedOk LedPermit LedCopy LedGrant LedFour LedHeld LedRel LedRelS
set_option linter.unusedVariables false

theorem spec_release (a : Option Addr) (c : Nat) (L L2 : List Slot) (x y : Int) (s : Slot) (B : Bool) (w : World) (h : Own 35 5 cells w a L) (hl : (L.length : Int) ≤ 1048577) (hc : L.length ≤ c) (HR : Rl L x y L2 s B) :
    Calls Tryd.prog 23 #[.agg #[.slice a L.length c], .agg #[.int .i64 x, .int .i64 y]] w (RAns w L2 s B) := by
  rcases HR with ⟨rfl, ho, rfl, rfl⟩ | ⟨rfl, ho, hg, rfl, rfl⟩ | ⟨rfl, ho, k, hk, hx, h1, h2, rfl, rfl⟩
  · exact spec_rel_bad a c L x y w h hl hc ho
  · by_cases h1 : x < 0 ∨ (L2.length : Int) ≤ x
    · exact spec_rel_out a c L2 x y w h hl hc ho h1
    · obtain ⟨k, hk⟩ : ∃ k : Nat, x = (k : Int) := ⟨x.toNat, by omega⟩
      have hkl : k < L2.length := by omega
      exact spec_rel_gone a c L2 x y w h hl hc ho k hkl hk (hg k hkl hk)
  · exact spec_rel_ok a c L x y w h hl hc ho k hk hx h1 h2
theorem impl_release (a : Option Addr) (c : Nat) (L L2 : List Slot) (x y : Int) (s : Slot) (B : Bool) (p q : Addr) (w : World) (h : Own 35 5 cells w a L) (hl : (L.length : Int) ≤ 1048577) (hc : L.length ≤ c) (he : Errs w p q) (HR : Rl L x y L2 s B) :
    Calls Tryd.prog 10 #[.agg #[.slice a L.length c], .agg #[.int .i64 x, .int .i64 y]] w (RAns w L2 s B) := by
  rcases HR with ⟨rfl, ho, rfl, rfl⟩ | ⟨rfl, ho, hg, rfl, rfl⟩ | ⟨rfl, ho, k, hk, hx, h1, h2, rfl, rfl⟩
  · exact impl_rel_bad a c L x y p q w h hl hc he ho
  · exact impl_rel_gone a c L2 x y p q w h hl hc he ho hg
  · exact impl_rel_ok a c L x y p q w h hl hc he ho k hk hx h1 h2
theorem both_release (L : List Slot) (x y : Int) (p q : Addr) (hl : (L.length : Int) ≤ 1048576) : ∃ (L2 : List Slot) (s : Slot) (B : Bool),
    (∀ (a : Option Addr) (c : Nat) (W : World), Own 35 5 cells W a L → L.length ≤ c → Calls Tryd.prog 23 #[.agg #[.slice a L.length c], .agg #[.int .i64 x, .int .i64 y]] W (RAns W L2 s B)) ∧
    (∀ (a : Option Addr) (c : Nat) (W : World), Own 35 5 cells W a L → L.length ≤ c → Errs W p q → Calls Tryd.prog 10 #[.agg #[.slice a L.length c], .agg #[.int .i64 x, .int .i64 y]] W (RAns W L2 s B)) ∧
    L2.length ≤ 1048577 := by
  obtain ⟨L2, s, B, h⟩ := rl_ex L x y
  exact ⟨L2, s, B, fun a c W ho hc => spec_release a c L L2 x y s B W ho (by omega) hc h, fun a c W ho hc he => impl_release a c L L2 x y s B p q W ho (by omega) hc he h, by have := rl_len h; omega⟩
end Go.Proofs.YtacpblhajoblmaaDoor.LedBothR
