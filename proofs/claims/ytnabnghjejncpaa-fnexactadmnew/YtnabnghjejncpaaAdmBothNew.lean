/- The model's and the program's AdmNew answer the same, at all configurations; nothing that was there turns. -/
import Derived.Test.YtnabnghjejncpaaRows
import Derived.WalkKit
import Derived.Test.YtnabnghjejncpaaListKit
import Derived.Test.YtnabnghjejncpaaHoldKit
import Derived.Test.YtnabnghjejncpaaIntKit
import Derived.Test.YtnabnghjejncpaaSlotKit
import Derived.Test.YtnabnghjejncpaaSampleKit
import Derived.Test.YtnabnghjejncpaaReqKit
import Derived.Test.YtnabnghjejncpaaCodelKit
import Derived.Test.YtnabnghjejncpaaAdmKit
import Derived.Test.YtnabnghjejncpaaAdmNewS
import Derived.Test.YtnabnghjejncpaaAdmNewI
namespace Go.Proofs.Ytnabnghjejncpaa.AdmBothNew
open Go.RowKit ListKit HoldKit
set_option maxRecDepth 8000
set_option linter.unusedVariables false
set_option linter.unusedSimpArgs false

theorem holds_front {w : World} {lo : Nat} {l : List It} (h : Holds w lo l) (a : Option Addr) (t : TypeId) (m : Nat) : Holds w lo (⟨a, t, m, []⟩ :: l) :=
  ⟨fun i hi => by
    rcases List.mem_cons.1 hi with rfl | hi
    · exact ⟨Or.inl rfl, fun b e => by cases e⟩
    · exact h.1 i hi, List.pairwise_cons.2 ⟨fun j _ b e => (by cases e), h.2⟩⟩
theorem holds_back {w : World} {lo : Nat} {i : It} (h : Holds w lo [i]) (a : Option Addr) (t : TypeId) (m : Nat) : Holds w lo [i, ⟨a, t, m, []⟩] :=
  ⟨fun j hj => by
    rcases List.mem_cons.1 hj with rfl | hj
    · exact h.1 j (List.mem_singleton.2 rfl)
    · rw [List.mem_singleton] at hj
      subst hj
      exact ⟨Or.inl rfl, fun b e => by cases e⟩, List.pairwise_cons.2 ⟨fun j hj b _ e => (by
    rw [List.mem_singleton] at hj
    subst hj
    cases e), List.pairwise_singleton _ _⟩⟩
set_option maxHeartbeats 4000000 in
theorem both_admnew (pa0 : Int) (pa1 : Int) (pa2 : Int) (pa3 : Int) (pa4 : Int) (pa5 : Int) (pa6 : Int) (pa7 : Int) (pa8 : Int) (pa9 : Int) (pa10 : Int) (pa11 : Int) (pa12 : Int) (pa13 : Int)  : ∃ (qa0 : Int) (qa1 : Int) (qa2 : Int) (qa3 : Int) (qa4 : Int) (qa5 : Int) (qa6 : Int) (qa7 : Int) (qa8 : Int) (qa9 : Int) (qa10 : Int) (qa11 : Int) (qa12 : Int) (qa13 : Int) (qa14 : Int) (qa15 : Int) (qa16 : Int) (qa17 : Int) (qa18 : Int) (qa19 : Int) (qa20 : Int) (qa21 : Int) (qa22 : Int) (qa23 : Int) (qaL24 : List SampleKit.Sample) (qaL25 : List SlotKit.Slot) (qa26 : Int) (qaL27 : List ReqKit.Req) (qaL28 : List CodelKit.Codel) (qa29 : Int) (qa30 : Int) (qa31 : Int) (qa32 : Int) (qaL33 : List Int) (qb : Bool),
    (∀ w, Calls Try.prog 11 #[.agg #[.int .i64 pa0, .int .i64 pa1, .int .i64 pa2, .int .i64 pa3, .int .i64 pa4, .int .i64 pa5, .int .i64 pa6, .int .i64 pa7, .int .i64 pa8, .int .i64 pa9, .int .i64 pa10, .int .i64 pa11, .int .i64 pa12, .int .i64 pa13]] w fun e w' => ∃ qaA24 qaC24 qaA25 qaC25 qaA27 qaC27 qaA28 qaC28 qaA33 qaC33, e = .returned (.tuple #[.agg #[.int .i64 qa0, .int .i64 qa1, .int .i64 qa2, .int .i64 qa3, .int .i64 qa4, .int .i64 qa5, .int .i64 qa6, .int .i64 qa7, .int .i64 qa8, .int .i64 qa9, .int .i64 qa10, .int .i64 qa11, .int .i64 qa12, .int .i64 qa13, .int .i64 qa14, .int .i64 qa15, .int .i64 qa16, .int .i64 qa17, .int .i64 qa18, .int .i64 qa19, .int .i64 qa20, .int .i64 qa21, .int .i64 qa22, .int .i64 qa23, .slice qaA24 qaL24.length qaC24, .slice qaA25 qaL25.length qaC25, .int .i64 qa26, .slice qaA27 qaL27.length qaC27, .slice qaA28 qaL28.length qaC28, .int .i64 qa29, .int .i64 qa30, .int .i64 qa31, .int .i64 qa32, .slice qaA33 qaL33.length qaC33], .bool qb]) ∧ qaL24.length ≤ qaC24 ∧ qaL25.length ≤ qaC25 ∧ qaL27.length ≤ qaC27 ∧ qaL28.length ≤ qaC28 ∧ qaL33.length ≤ qaC33 ∧ Holds w' w.heap.size [⟨qaA24, 170, 2, (qaL24).map SampleKit.cells⟩, ⟨qaA25, 105, 5, (qaL25).map SlotKit.cells⟩, ⟨qaA27, 161, 6, (qaL27).map ReqKit.cells⟩, ⟨qaA28, 87, 6, (qaL28).map CodelKit.cells⟩, ⟨qaA33, 3, 1, (qaL33).map IntKit.cells⟩] ∧ Below w.heap.size w w') ∧
    (∀ w, Calls Try.prog 12 #[.agg #[.int .i64 pa0, .int .i64 pa1, .int .i64 pa2, .int .i64 pa3, .int .i64 pa4, .int .i64 pa5, .int .i64 pa6, .int .i64 pa7, .int .i64 pa8, .int .i64 pa9, .int .i64 pa10, .int .i64 pa11, .int .i64 pa12, .int .i64 pa13]] w fun e w' => ∃ qaA24 qaC24 qaA25 qaC25 qaA27 qaC27 qaA28 qaC28 qaA33 qaC33, e = .returned (.tuple #[.agg #[.int .i64 qa0, .int .i64 qa1, .int .i64 qa2, .int .i64 qa3, .int .i64 qa4, .int .i64 qa5, .int .i64 qa6, .int .i64 qa7, .int .i64 qa8, .int .i64 qa9, .int .i64 qa10, .int .i64 qa11, .int .i64 qa12, .int .i64 qa13, .int .i64 qa14, .int .i64 qa15, .int .i64 qa16, .int .i64 qa17, .int .i64 qa18, .int .i64 qa19, .int .i64 qa20, .int .i64 qa21, .int .i64 qa22, .int .i64 qa23, .slice qaA24 qaL24.length qaC24, .slice qaA25 qaL25.length qaC25, .int .i64 qa26, .slice qaA27 qaL27.length qaC27, .slice qaA28 qaL28.length qaC28, .int .i64 qa29, .int .i64 qa30, .int .i64 qa31, .int .i64 qa32, .slice qaA33 qaL33.length qaC33], .bool qb]) ∧ qaL24.length ≤ qaC24 ∧ qaL25.length ≤ qaC25 ∧ qaL27.length ≤ qaC27 ∧ qaL28.length ≤ qaC28 ∧ qaL33.length ≤ qaC33 ∧ Holds w' w.heap.size [⟨qaA24, 170, 2, (qaL24).map SampleKit.cells⟩, ⟨qaA25, 105, 5, (qaL25).map SlotKit.cells⟩, ⟨qaA27, 161, 6, (qaL27).map ReqKit.cells⟩, ⟨qaA28, 87, 6, (qaL28).map CodelKit.cells⟩, ⟨qaA33, 3, 1, (qaL33).map IntKit.cells⟩] ∧ Below w.heap.size w w') ∧ qaL24.length ≤ 1048577 ∧ qaL25.length ≤ 1048577 ∧ qaL27.length ≤ 1048577 ∧ qaL28.length ≤ 1048577 ∧ qaL33.length ≤ 1048577 := by
  by_cases h : AdmKit.cfgGood pa0 pa1 pa2 pa3 pa4 pa5 pa6 pa7 pa8 pa9 pa10 pa11 pa12 pa13
  · obtain ⟨k, hk⟩ : ∃ k : Nat, pa7 = (k : Int) := ⟨pa7.toNat, by have := h.2.2.2.2.2.2; omega⟩
    have hk4 : k ≤ 4 := by have := h.2.2.2.2.2.2; omega
    refine ⟨pa0, pa1, pa2, pa3, pa4, pa5, pa6, pa7, pa8, pa9, pa10, pa11, pa12, pa13, 0, pa0, pa1, pa2, pa3, pa4, pa5, 0, 0, pa3, [], [], pa8, [], (List.replicate k ⟨pa10, pa11, 0, false, 0, 0⟩), pa12, pa13, (1000 * pa12), 0, [], true, fun w => (AdmNewS.spec_yes pa0 pa1 pa2 pa3 pa4 pa5 pa6 pa7 pa8 pa9 pa10 pa11 pa12 pa13 k w h hk).mono ?_, fun w => (AdmNewI.impl_yes pa0 pa1 pa2 pa3 pa4 pa5 pa6 pa7 pa8 pa9 pa10 pa11 pa12 pa13 k w h hk).mono ?_, Nat.zero_le _, Nat.zero_le _, Nat.zero_le _, by rw [List.length_replicate]; omega, Nat.zero_le _⟩
    all_goals
      rintro e w' ⟨a2, c2, a28, c28, rfl, hc, hh, hb⟩
      refine ⟨none, 0, none, 0, a2, c2, a28, c28, none, 0, by rw [List.length_replicate]; rfl, Nat.zero_le _, Nat.zero_le _, Nat.zero_le _, by rw [List.length_replicate]; exact hc, Nat.zero_le _, ?_, hb⟩
      rw [List.map_replicate]
      exact holds_front (holds_front (holds_front (holds_back hh none _ _) _ _ _) _ _ _) _ _ _
  · refine ⟨0, 0, 0, 0, 0, 0, 0, 0, 0, 0, 0, 0, 0, 0, 0, 0, 0, 0, 0, 0, 0, 0, 0, 0, [], [], 0, [], [], 0, 0, 0, 0, [], false, fun w => (AdmNewS.spec_no pa0 pa1 pa2 pa3 pa4 pa5 pa6 pa7 pa8 pa9 pa10 pa11 pa12 pa13 w h).mono ?_, fun w => (AdmNewI.impl_no pa0 pa1 pa2 pa3 pa4 pa5 pa6 pa7 pa8 pa9 pa10 pa11 pa12 pa13 w h).mono ?_, Nat.zero_le _, Nat.zero_le _, Nat.zero_le _, Nat.zero_le _, Nat.zero_le _⟩
    all_goals
      rintro e w' ⟨rfl, hb⟩
      exact ⟨none, 0, none, 0, none, 0, none, 0, none, 0, rfl, Nat.zero_le _, Nat.zero_le _, Nat.zero_le _, Nat.zero_le _, Nat.zero_le _, holds_front (holds_front (holds_front (holds_front (holds_front (Holds.nil _ _) _ _ _) _ _ _) _ _ _) _ _ _) _ _ _, hb⟩
end Go.Proofs.Ytnabnghjejncpaa.AdmBothNew
