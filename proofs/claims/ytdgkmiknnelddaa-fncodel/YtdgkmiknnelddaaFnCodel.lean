/- A queue that isn't slow drops nobody and forgets; one that is drops nobody ahead of its time; the more it drops, the sooner the next one goes (the law FnCodel returns true); no condition. -/
import Derived.Test.YtdgkmiknnelddaaRows
import Derived.WalkKit
import Derived.WalkSmall
import Derived.BigQuiet
import Derived.ProofKit
import Derived.OpenShut
import Derived.ChangeSlices
import Derived.Deep.RegionWith
import Derived.Deep.DeepCutAuto
import Derived.Lay
import Derived.HandedShaped
import Derived.Test.YtdgkmiknnelddaaListKit
import Derived.Test.YtdgkmiknnelddaaHoldKit
import Derived.Test.YtdgkmiknnelddaaIntKit
import Derived.Test.YtdgkmiknnelddaaCodKit
import Derived.Test.YtdgkmiknnelddaaCodOks
import Derived.Test.YtdgkmiknnelddaaCodPaceS
import Derived.Test.YtdgkmiknnelddaaCodMath
import Derived.Test.YtdgkmiknnelddaaCodFacts
import Derived.Test.YtdgkmiknnelddaaCodOkI
import Derived.Test.YtdgkmiknnelddaaCodPaceI
import Derived.Test.YtdgkmiknnelddaaCodSeeI
import Derived.Test.YtdgkmiknnelddaaCodAllS
import Derived.Test.YtdgkmiknnelddaaCodAllI
import Derived.Test.YtdgkmiknnelddaaDrawWalks
import Derived.Test.YtdgkmiknnelddaaCodeArg
import Derived.Test.YtdgkmiknnelddaaDrawKit
import Derived.Test.YtdgkmiknnelddaaCodDraw
namespace Go.Proofs.Ytdgkmiknnelddaa.fnCodel
open Go.ChangeShapes Go.WideShapes Go.ChangeAt Go.RowKit ListKit HoldKit CodKit CodPaceS CodMath CodFacts CodOkI CodPaceI CodSeeI CodAllS CodAllI CodeArg CodDraw
open DrawWalks (CodeOk)
set_option linter.unusedVariables false
set_option linter.unusedSimpArgs false
set_option maxRecDepth 8000

set_option maxHeartbeats 16000000 in
theorem walk_in (a : Option Addr) (len cap : Nat) (W : World) (hlen : (len : Int) ≤ 1048576) (hok : CodeOk W W.heap.size a len) :
    Calls Try.prog 3 #[.slice a len cap] W fun e w' => e = .returned (.bool true) ∧ Below W.heap.size W w' := by
  have HO : Hid (CodeOk W W.heap.size a len) := hok
  have HM := fun (X : World) (m : Int) h1 h2 (hb : Below W.heap.size W X) => DrawWalks.make_num len m a cap X hlen h1 h2 (code_below HO.out hb)
  clear hok
  go_enter Try.func3, Try.ntmps3
  go_wp2_with fail
  refine (make_cod len a cap W hlen HO.out).mono ?_
  rintro e w1 ⟨x0, x1, x2, x3, x4, x5, rfl, hk, ht, hv, b1⟩
  have hp := ok_parts hk
  dsimp only at hp
  have HT : Hid (0 ≤ x0 ∧ x0 < 30 ∧ 1 ≤ x1 ∧ x1 ≤ 50) := ⟨hp.1, ht, hp.2.2.1, hv⟩
  have HK : Hid (codOk ⟨x0, x1, x2, x3, x4, x5⟩ = true) := hk
  clear hk hp ht hv
  have H0 : Hid (Bel W (w1.alloc (.cells #[.int .i64 x0, .int .i64 x1, .int .i64 x2, .bool x3, .int .i64 x4, .int .i64 x5] 24)) ∧ boxB (w1.alloc (.cells #[.int .i64 x0, .int .i64 x1, .int .i64 x2, .bool x3, .int .i64 x4, .int .i64 x5] 24)) w1.heap.size #[.int .i64 x0, .int .i64 x1, .int .i64 x2, .bool x3, .int .i64 x4, .int .i64 x5] 24) := ⟨Bel.below b1 (n1 w1 _), boxB.new _ _ _⟩
  clear b1 HO hlen
  go_upto_region 4 with fail
  obtain ⟨n3, hn3⟩ : ∃ n3, w1.heap.size = n3 := ⟨_, rfl⟩
  generalize (w1.alloc (.cells #[.int .i64 x0, .int .i64 x1, .int .i64 x2, .bool x3, .int .i64 x4, .int .i64 x5] 24)) = v1 at *
  rw [hn3] at H0 ⊢
  clear hn3
  go_wp2_with fail
  refine (HM _ 400 (by omega) (by omega) H0.out.1).mono ?_
  rintro e w2 ⟨now, rfl, na, nb, b2⟩
  have H1 : Hid (Bel W w2 ∧ boxB w2 n3 #[.int .i64 x0, .int .i64 x1, .int .i64 x2, .bool x3, .int .i64 x4, .int .i64 x5] 24) := ⟨H0.out.1.below b2, H0.out.2.below b2⟩
  clear b2 H0
  have HN : Hid (0 ≤ now ∧ now < 400) := ⟨na, nb⟩
  clear na nb
  have v0 : IntKind.i64.wrap (x0 - 1) = x0 - 1 := by have := HT.out; rw [IntKind.wrap_i64]; omega
  have v1' : IntKind.i64.wrap (now + x1) = now + x1 := by have := HT.out; have := HN.out; rw [IntKind.wrap_i64]; omega
  have v2' : IntKind.i64.wrap (now + x1 - 1) = now + x1 - 1 := by have := HT.out; have := HN.out; rw [IntKind.wrap_i64]; omega
  have v3' : IntKind.i64.wrap (3 * x1) = 3 * x1 := by have := HT.out; have := HN.out; rw [IntKind.wrap_i64]; omega
  have v4' : IntKind.i64.wrap (now + 3 * x1) = now + 3 * x1 := by have := HT.out; have := HN.out; rw [IntKind.wrap_i64]; omega
  have HS1 : ∀ X : World, Calls Try.prog 6 #[.agg #[.int .i64 x0, .int .i64 x1, .int .i64 x2, .bool x3, .int .i64 x4, .int .i64 x5], .int .i64 now, .int .i64 (x0 - 1)] X fun e w' => e = .returned (.tuple #[.agg #[.int .i64 x0, .int .i64 x1, .int .i64 0, .bool false, .int .i64 0, .int .i64 0], .bool false]) ∧ Below X.heap.size X w' := fun X => by
    have h9 := impl_see x0 x1 x2 x3 x4 x5 now (x0 - 1) X
    rw [see_ok (s := ⟨x0, x1, x2, x3, x4, x5⟩) HK.out (by have := HT.out; have := HN.out; omega) (by have := HT.out; have := HN.out; omega), if_pos rfl, Bool.true_and] at h9
    have h8 : see ⟨x0, x1, x2, x3, x4, x5⟩ now (x0 - 1) = (⟨x0, x1, 0, false, 0, 0⟩, false) := see_under ⟨x0, x1, x2, x3, x4, x5⟩ now
    rw [h8] at h9
    exact h9
  have HS2 : ∀ X : World, Calls Try.prog 6 #[.agg #[.int .i64 x0, .int .i64 x1, .int .i64 0, .bool false, .int .i64 0, .int .i64 0], .int .i64 now, .int .i64 x0] X fun e w' => e = .returned (.tuple #[.agg #[.int .i64 x0, .int .i64 x1, .int .i64 (now + x1), .bool false, .int .i64 0, .int .i64 0], .bool false]) ∧ Below X.heap.size X w' := fun X => by
    have h9 := impl_see x0 x1 0 false 0 0 now x0 X
    rw [see_ok (s := ⟨x0, x1, 0, false, 0, 0⟩) (calm_ok (by have := HT.out; have := HN.out; omega) (by have := HT.out; have := HN.out; omega)) (by have := HT.out; have := HN.out; omega) (by have := HT.out; have := HN.out; omega), if_pos rfl, Bool.true_and] at h9
    have h8 : see ⟨x0, x1, 0, false, 0, 0⟩ now x0 = (⟨x0, x1, now + x1, false, 0, 0⟩, false) := see_start (by have := HT.out; have := HN.out; omega) (by have := HT.out; have := HN.out; omega)
    rw [h8] at h9
    exact h9
  have HS3 : ∀ X : World, Calls Try.prog 6 #[.agg #[.int .i64 x0, .int .i64 x1, .int .i64 (now + x1), .bool false, .int .i64 0, .int .i64 0], .int .i64 (now + x1 - 1), .int .i64 x0] X fun e w' => e = .returned (.tuple #[.agg #[.int .i64 x0, .int .i64 x1, .int .i64 (now + x1), .bool false, .int .i64 0, .int .i64 0], .bool false]) ∧ Below X.heap.size X w' := fun X => by
    have h9 := impl_see x0 x1 (now + x1) false 0 0 (now + x1 - 1) x0 X
    rw [see_ok (s := ⟨x0, x1, now + x1, false, 0, 0⟩) (slow_ok (by have := HT.out; have := HN.out; omega) (by have := HT.out; have := HN.out; omega) (by have := HT.out; have := HN.out; omega) (by have := HT.out; have := HN.out; omega)) (by have := HT.out; have := HN.out; omega) (by have := HT.out; have := HN.out; omega), if_pos rfl, Bool.true_and] at h9
    have h8 : see ⟨x0, x1, now + x1, false, 0, 0⟩ (now + x1 - 1) x0 = (⟨x0, x1, now + x1, false, 0, 0⟩, false) := see_soon (by have := HT.out; have := HN.out; omega) (by have := HT.out; have := HN.out; omega) (by have := HT.out; have := HN.out; omega)
    rw [h8] at h9
    exact h9
  have HS4 : ∀ X : World, Calls Try.prog 6 #[.agg #[.int .i64 x0, .int .i64 x1, .int .i64 (now + x1), .bool false, .int .i64 0, .int .i64 0], .int .i64 (now + x1), .int .i64 x0] X fun e w' => e = .returned (.tuple #[.agg #[.int .i64 x0, .int .i64 x1, .int .i64 (now + x1), .bool true, .int .i64 (now + x1 + x1), .int .i64 1], .bool true]) ∧ Below X.heap.size X w' := fun X => by
    have h9 := impl_see x0 x1 (now + x1) false 0 0 (now + x1) x0 X
    rw [see_ok (s := ⟨x0, x1, now + x1, false, 0, 0⟩) (slow_ok (by have := HT.out; have := HN.out; omega) (by have := HT.out; have := HN.out; omega) (by have := HT.out; have := HN.out; omega) (by have := HT.out; have := HN.out; omega)) (by have := HT.out; have := HN.out; omega) (by have := HT.out; have := HN.out; omega), if_pos rfl, Bool.true_and] at h9
    have h8 : see ⟨x0, x1, now + x1, false, 0, 0⟩ (now + x1) x0 = (⟨x0, x1, now + x1, true, now + x1 + x1, 1⟩, true) := see_then (by have := HT.out; have := HN.out; omega) (by have := HT.out; have := HN.out; omega) (by have := HT.out; have := HN.out; omega) (by have := HT.out; have := HN.out; omega)
    rw [h8] at h9
    exact h9
  have HC1 : ∀ X : World, Calls Try.prog 7 #[.agg #[.int .i64 x0, .int .i64 x1, .int .i64 0, .bool false, .int .i64 0, .int .i64 0]] X fun e w' => e = .returned (.bool true) ∧ Below X.heap.size X w' := fun X => by
    have h9 := impl_codelok x0 x1 0 false 0 0 X
    rw [show codOk ⟨x0, x1, 0, false, 0, 0⟩ = true from calm_ok (by have := HT.out; have := HN.out; omega) (by have := HT.out; have := HN.out; omega)] at h9
    exact h9
  have HC2 : ∀ X : World, Calls Try.prog 7 #[.agg #[.int .i64 x0, .int .i64 x1, .int .i64 (now + x1), .bool true, .int .i64 (now + x1 + x1), .int .i64 1]] X fun e w' => e = .returned (.bool true) ∧ Below X.heap.size X w' := fun X => by
    have h9 := impl_codelok x0 x1 (now + x1) true (now + x1 + x1) 1 X
    rw [show codOk ⟨x0, x1, now + x1, true, now + x1 + x1, 1⟩ = true from drop_ok (by have := HT.out; have := HN.out; omega) (by have := HT.out; have := HN.out; omega) (by have := HT.out; have := HN.out; omega) (by have := HT.out; have := HN.out; omega)] at h9
    exact h9
  have c0 := H1.out.2.cell 0
  have c1 := H1.out.2.cell 1
  have c2 := H1.out.2.cell 2
  have c3 := H1.out.2.cell 3
  have c4 := H1.out.2.cell 4
  have c5 := H1.out.2.cell 5
  go_wp2_with fail
  refine (HS1 _).mono ?_
  rintro e w3 ⟨rfl, bb⟩
  have H2 : Hid (Bel W (w3.alloc (.cells #[.int .i64 x0, .int .i64 x1, .int .i64 0, .bool false, .int .i64 0, .int .i64 0] 24)) ∧ boxB (w3.alloc (.cells #[.int .i64 x0, .int .i64 x1, .int .i64 0, .bool false, .int .i64 0, .int .i64 0] 24)) n3 #[.int .i64 x0, .int .i64 x1, .int .i64 x2, .bool x3, .int .i64 x4, .int .i64 x5] 24 ∧ boxB (w3.alloc (.cells #[.int .i64 x0, .int .i64 x1, .int .i64 0, .bool false, .int .i64 0, .int .i64 0] 24)) w3.heap.size #[.int .i64 x0, .int .i64 x1, .int .i64 0, .bool false, .int .i64 0, .int .i64 0] 24) := ⟨H1.out.1.below (bb.trans ((n1 w3 _).mono bb.size)), H1.out.2.below (bb.trans ((n1 w3 _).mono bb.size)), boxB.new _ _ _⟩
  clear c0 c1 c2 c3 c4 c5 bb H1
  go_upto_region 6 with fail
  obtain ⟨n5, hn5⟩ : ∃ n5, w3.heap.size = n5 := ⟨_, rfl⟩
  generalize (w3.alloc (.cells #[.int .i64 x0, .int .i64 x1, .int .i64 0, .bool false, .int .i64 0, .int .i64 0] 24)) = w3x at *
  rw [hn5] at H2 ⊢
  clear hn5
  have c0 := H2.out.2.2.cell 0
  have c1 := H2.out.2.2.cell 1
  have c2 := H2.out.2.2.cell 2
  have c3 := H2.out.2.2.cell 3
  have c4 := H2.out.2.2.cell 4
  have c5 := H2.out.2.2.cell 5
  have d0 := H2.out.2.1.cell 0
  have d1 := H2.out.2.1.cell 1
  have d2 := H2.out.2.1.cell 2
  have d3 := H2.out.2.1.cell 3
  have d4 := H2.out.2.1.cell 4
  have d5 := H2.out.2.1.cell 5
  go_upto_region 8 with (go_at_call 7; refine (HC1 _).mono ?_; rintro e w4 ⟨rfl, bb⟩; have H3 : Hid (Bel W w4 ∧ boxB w4 n3 #[.int .i64 x0, .int .i64 x1, .int .i64 x2, .bool x3, .int .i64 x4, .int .i64 x5] 24 ∧ boxB w4 n5 #[.int .i64 x0, .int .i64 x1, .int .i64 0, .bool false, .int .i64 0, .int .i64 0] 24) := ⟨H2.out.1.below bb, H2.out.2.1.below bb, H2.out.2.2.below bb⟩; clear bb H2 c0 c1 c2 c3 c4 c5 d0 d1 d2 d3 d4 d5)
  have c0 := H3.out.2.2.cell 0
  have c1 := H3.out.2.2.cell 1
  have c2 := H3.out.2.2.cell 2
  have c3 := H3.out.2.2.cell 3
  have c4 := H3.out.2.2.cell 4
  have c5 := H3.out.2.2.cell 5
  have d0 := H3.out.2.1.cell 0
  have d1 := H3.out.2.1.cell 1
  have d2 := H3.out.2.1.cell 2
  have d3 := H3.out.2.1.cell 3
  have d4 := H3.out.2.1.cell 4
  have d5 := H3.out.2.1.cell 5
  go_wp2_with fail
  refine (HS2 _).mono ?_
  rintro e w5 ⟨rfl, bb⟩
  have H4 : Hid (Bel W (w5.alloc (.cells #[.int .i64 x0, .int .i64 x1, .int .i64 (now + x1), .bool false, .int .i64 0, .int .i64 0] 24)) ∧ boxB (w5.alloc (.cells #[.int .i64 x0, .int .i64 x1, .int .i64 (now + x1), .bool false, .int .i64 0, .int .i64 0] 24)) n3 #[.int .i64 x0, .int .i64 x1, .int .i64 x2, .bool x3, .int .i64 x4, .int .i64 x5] 24 ∧ boxB (w5.alloc (.cells #[.int .i64 x0, .int .i64 x1, .int .i64 (now + x1), .bool false, .int .i64 0, .int .i64 0] 24)) n5 #[.int .i64 x0, .int .i64 x1, .int .i64 0, .bool false, .int .i64 0, .int .i64 0] 24 ∧ boxB (w5.alloc (.cells #[.int .i64 x0, .int .i64 x1, .int .i64 (now + x1), .bool false, .int .i64 0, .int .i64 0] 24)) w5.heap.size #[.int .i64 x0, .int .i64 x1, .int .i64 (now + x1), .bool false, .int .i64 0, .int .i64 0] 24) := ⟨H3.out.1.below (bb.trans ((n1 w5 _).mono bb.size)), H3.out.2.1.below (bb.trans ((n1 w5 _).mono bb.size)), H3.out.2.2.below (bb.trans ((n1 w5 _).mono bb.size)), boxB.new _ _ _⟩
  clear c0 c1 c2 c3 c4 c5 d0 d1 d2 d3 d4 d5 bb H3
  go_upto_region 9 with fail
  obtain ⟨n7, hn7⟩ : ∃ n7, w5.heap.size = n7 := ⟨_, rfl⟩
  generalize (w5.alloc (.cells #[.int .i64 x0, .int .i64 x1, .int .i64 (now + x1), .bool false, .int .i64 0, .int .i64 0] 24)) = w5x at *
  rw [hn7] at H4 ⊢
  clear hn7
  have c0 := H4.out.2.2.2.cell 0
  have c1 := H4.out.2.2.2.cell 1
  have c2 := H4.out.2.2.2.cell 2
  have c3 := H4.out.2.2.2.cell 3
  have c4 := H4.out.2.2.2.cell 4
  have c5 := H4.out.2.2.2.cell 5
  have d0 := H4.out.2.1.cell 0
  have d1 := H4.out.2.1.cell 1
  have d2 := H4.out.2.1.cell 2
  have d3 := H4.out.2.1.cell 3
  have d4 := H4.out.2.1.cell 4
  have d5 := H4.out.2.1.cell 5
  go_wp2_with fail
  refine (HS3 _).mono ?_
  rintro e w6 ⟨rfl, bb⟩
  have H5 : Hid (Bel W (w6.alloc (.cells #[.int .i64 x0, .int .i64 x1, .int .i64 (now + x1), .bool false, .int .i64 0, .int .i64 0] 24)) ∧ boxB (w6.alloc (.cells #[.int .i64 x0, .int .i64 x1, .int .i64 (now + x1), .bool false, .int .i64 0, .int .i64 0] 24)) n3 #[.int .i64 x0, .int .i64 x1, .int .i64 x2, .bool x3, .int .i64 x4, .int .i64 x5] 24 ∧ boxB (w6.alloc (.cells #[.int .i64 x0, .int .i64 x1, .int .i64 (now + x1), .bool false, .int .i64 0, .int .i64 0] 24)) n5 #[.int .i64 x0, .int .i64 x1, .int .i64 0, .bool false, .int .i64 0, .int .i64 0] 24 ∧ boxB (w6.alloc (.cells #[.int .i64 x0, .int .i64 x1, .int .i64 (now + x1), .bool false, .int .i64 0, .int .i64 0] 24)) n7 #[.int .i64 x0, .int .i64 x1, .int .i64 (now + x1), .bool false, .int .i64 0, .int .i64 0] 24 ∧ boxB (w6.alloc (.cells #[.int .i64 x0, .int .i64 x1, .int .i64 (now + x1), .bool false, .int .i64 0, .int .i64 0] 24)) w6.heap.size #[.int .i64 x0, .int .i64 x1, .int .i64 (now + x1), .bool false, .int .i64 0, .int .i64 0] 24) := ⟨H4.out.1.below (bb.trans ((n1 w6 _).mono bb.size)), H4.out.2.1.below (bb.trans ((n1 w6 _).mono bb.size)), H4.out.2.2.1.below (bb.trans ((n1 w6 _).mono bb.size)), H4.out.2.2.2.below (bb.trans ((n1 w6 _).mono bb.size)), boxB.new _ _ _⟩
  clear c0 c1 c2 c3 c4 c5 d0 d1 d2 d3 d4 d5 bb H4
  go_upto_region 10 with fail
  obtain ⟨n9, hn9⟩ : ∃ n9, w6.heap.size = n9 := ⟨_, rfl⟩
  generalize (w6.alloc (.cells #[.int .i64 x0, .int .i64 x1, .int .i64 (now + x1), .bool false, .int .i64 0, .int .i64 0] 24)) = w6x at *
  rw [hn9] at H5 ⊢
  clear hn9
  have c0 := H5.out.2.2.2.1.cell 0
  have c1 := H5.out.2.2.2.1.cell 1
  have c2 := H5.out.2.2.2.1.cell 2
  have c3 := H5.out.2.2.2.1.cell 3
  have c4 := H5.out.2.2.2.1.cell 4
  have c5 := H5.out.2.2.2.1.cell 5
  have d0 := H5.out.2.1.cell 0
  have d1 := H5.out.2.1.cell 1
  have d2 := H5.out.2.1.cell 2
  have d3 := H5.out.2.1.cell 3
  have d4 := H5.out.2.1.cell 4
  have d5 := H5.out.2.1.cell 5
  go_wp2_with fail
  refine (HS4 _).mono ?_
  rintro e w7 ⟨rfl, bb⟩
  have H6 : Hid (Bel W (w7.alloc (.cells #[.int .i64 x0, .int .i64 x1, .int .i64 (now + x1), .bool true, .int .i64 (now + x1 + x1), .int .i64 1] 24)) ∧ boxB (w7.alloc (.cells #[.int .i64 x0, .int .i64 x1, .int .i64 (now + x1), .bool true, .int .i64 (now + x1 + x1), .int .i64 1] 24)) n3 #[.int .i64 x0, .int .i64 x1, .int .i64 x2, .bool x3, .int .i64 x4, .int .i64 x5] 24 ∧ boxB (w7.alloc (.cells #[.int .i64 x0, .int .i64 x1, .int .i64 (now + x1), .bool true, .int .i64 (now + x1 + x1), .int .i64 1] 24)) n5 #[.int .i64 x0, .int .i64 x1, .int .i64 0, .bool false, .int .i64 0, .int .i64 0] 24 ∧ boxB (w7.alloc (.cells #[.int .i64 x0, .int .i64 x1, .int .i64 (now + x1), .bool true, .int .i64 (now + x1 + x1), .int .i64 1] 24)) n7 #[.int .i64 x0, .int .i64 x1, .int .i64 (now + x1), .bool false, .int .i64 0, .int .i64 0] 24 ∧ boxB (w7.alloc (.cells #[.int .i64 x0, .int .i64 x1, .int .i64 (now + x1), .bool true, .int .i64 (now + x1 + x1), .int .i64 1] 24)) n9 #[.int .i64 x0, .int .i64 x1, .int .i64 (now + x1), .bool false, .int .i64 0, .int .i64 0] 24 ∧ boxB (w7.alloc (.cells #[.int .i64 x0, .int .i64 x1, .int .i64 (now + x1), .bool true, .int .i64 (now + x1 + x1), .int .i64 1] 24)) w7.heap.size #[.int .i64 x0, .int .i64 x1, .int .i64 (now + x1), .bool true, .int .i64 (now + x1 + x1), .int .i64 1] 24) := ⟨H5.out.1.below (bb.trans ((n1 w7 _).mono bb.size)), H5.out.2.1.below (bb.trans ((n1 w7 _).mono bb.size)), H5.out.2.2.1.below (bb.trans ((n1 w7 _).mono bb.size)), H5.out.2.2.2.1.below (bb.trans ((n1 w7 _).mono bb.size)), H5.out.2.2.2.2.below (bb.trans ((n1 w7 _).mono bb.size)), boxB.new _ _ _⟩
  clear c0 c1 c2 c3 c4 c5 d0 d1 d2 d3 d4 d5 bb H5
  go_upto_region 11 with fail
  obtain ⟨n11, hn11⟩ : ∃ n11, w7.heap.size = n11 := ⟨_, rfl⟩
  generalize (w7.alloc (.cells #[.int .i64 x0, .int .i64 x1, .int .i64 (now + x1), .bool true, .int .i64 (now + x1 + x1), .int .i64 1] 24)) = w7x at *
  rw [hn11] at H6 ⊢
  clear hn11
  have nt : ((now + x1) != (now + x1)) = false := by simp
  have c0 := H6.out.2.2.2.1.cell 0
  have c1 := H6.out.2.2.2.1.cell 1
  have c2 := H6.out.2.2.2.1.cell 2
  have c3 := H6.out.2.2.2.1.cell 3
  have c4 := H6.out.2.2.2.1.cell 4
  have c5 := H6.out.2.2.2.1.cell 5
  have d0 := H6.out.2.1.cell 0
  have d1 := H6.out.2.1.cell 1
  have d2 := H6.out.2.1.cell 2
  have d3 := H6.out.2.1.cell 3
  have d4 := H6.out.2.1.cell 4
  have d5 := H6.out.2.1.cell 5
  have e0 := H6.out.2.2.2.2.2.cell 0
  have e1 := H6.out.2.2.2.2.2.cell 1
  have e2 := H6.out.2.2.2.2.2.cell 2
  have e3 := H6.out.2.2.2.2.2.cell 3
  have e4 := H6.out.2.2.2.2.2.cell 4
  have e5 := H6.out.2.2.2.2.2.cell 5
  go_upto_region 13 with (go_at_call 7; refine (HC2 _).mono ?_; rintro e w8 ⟨rfl, bb⟩; have H7 : Hid (Bel W w8 ∧ boxB w8 n3 #[.int .i64 x0, .int .i64 x1, .int .i64 x2, .bool x3, .int .i64 x4, .int .i64 x5] 24 ∧ boxB w8 n5 #[.int .i64 x0, .int .i64 x1, .int .i64 0, .bool false, .int .i64 0, .int .i64 0] 24 ∧ boxB w8 n7 #[.int .i64 x0, .int .i64 x1, .int .i64 (now + x1), .bool false, .int .i64 0, .int .i64 0] 24 ∧ boxB w8 n9 #[.int .i64 x0, .int .i64 x1, .int .i64 (now + x1), .bool false, .int .i64 0, .int .i64 0] 24 ∧ boxB w8 n11 #[.int .i64 x0, .int .i64 x1, .int .i64 (now + x1), .bool true, .int .i64 (now + x1 + x1), .int .i64 1] 24) := ⟨H6.out.1.below bb, H6.out.2.1.below bb, H6.out.2.2.1.below bb, H6.out.2.2.2.1.below bb, H6.out.2.2.2.2.1.below bb, H6.out.2.2.2.2.2.below bb⟩; clear bb H6 c0 c1 c2 c3 c4 c5 d0 d1 d2 d3 d4 d5 e0 e1 e2 e3 e4 e5)
  go_wp2_with fail
  refine (HM _ 900 (by omega) (by omega) H7.out.1).mono ?_
  rintro e w9 ⟨y, rfl, ya, yb, b9⟩
  have H8 : Hid (Bel W w9 ∧ boxB w9 n3 #[.int .i64 x0, .int .i64 x1, .int .i64 x2, .bool x3, .int .i64 x4, .int .i64 x5] 24 ∧ boxB w9 n5 #[.int .i64 x0, .int .i64 x1, .int .i64 0, .bool false, .int .i64 0, .int .i64 0] 24 ∧ boxB w9 n7 #[.int .i64 x0, .int .i64 x1, .int .i64 (now + x1), .bool false, .int .i64 0, .int .i64 0] 24 ∧ boxB w9 n9 #[.int .i64 x0, .int .i64 x1, .int .i64 (now + x1), .bool false, .int .i64 0, .int .i64 0] 24 ∧ boxB w9 n11 #[.int .i64 x0, .int .i64 x1, .int .i64 (now + x1), .bool true, .int .i64 (now + x1 + x1), .int .i64 1] 24) := ⟨H7.out.1.below b9, H7.out.2.1.below b9, H7.out.2.2.1.below b9, H7.out.2.2.2.1.below b9, H7.out.2.2.2.2.1.below b9, H7.out.2.2.2.2.2.below b9⟩
  clear b9 H7
  have wy : IntKind.i64.wrap (1 + y) = 1 + y := by rw [IntKind.wrap_i64]; omega
  have wy2 : IntKind.i64.wrap (1 + y + 1) = 1 + y + 1 := by rw [IntKind.wrap_i64]; omega
  have HP1 := fun (X : World) => impl_pace x1 (1 + y) X
  have HP2 := fun (X : World) => impl_pace x1 (1 + y + 1) X
  have g1 := pace_in (e := x1) (c := 1 + y) (by have := HT.out; omega)
  have g2 := pace_in (e := x1) (c := 1 + y + 1) (by have := HT.out; omega)
  have g3 := pace_down (e := x1) (c := 1 + y) (by have := HT.out; omega)
  obtain ⟨pa, hpa⟩ : ∃ pa, pace x1 (1 + y) = pa := ⟨_, rfl⟩
  obtain ⟨pb, hpb⟩ : ∃ pb, pace x1 (1 + y + 1) = pb := ⟨_, rfl⟩
  rw [hpa] at HP1 g1 g3
  rw [hpb] at HP2 g2 g3
  have G1 : Hid (pb ≤ pa ∧ 1 ≤ pb ∧ pa ≤ x1) := ⟨g3, g2.1, g1.2⟩
  clear g1 g2 g3 hpa hpb ya yb
  have d0 := H8.out.2.1.cell 0
  have d1 := H8.out.2.1.cell 1
  have d2 := H8.out.2.1.cell 2
  have d3 := H8.out.2.1.cell 3
  have d4 := H8.out.2.1.cell 4
  have d5 := H8.out.2.1.cell 5
  go_wp2_with fail
  refine (HP1 _).mono ?_
  rintro e w10 ⟨rfl, bb⟩
  have H9 : Hid (Bel W w10 ∧ boxB w10 n3 #[.int .i64 x0, .int .i64 x1, .int .i64 x2, .bool x3, .int .i64 x4, .int .i64 x5] 24 ∧ boxB w10 n5 #[.int .i64 x0, .int .i64 x1, .int .i64 0, .bool false, .int .i64 0, .int .i64 0] 24 ∧ boxB w10 n7 #[.int .i64 x0, .int .i64 x1, .int .i64 (now + x1), .bool false, .int .i64 0, .int .i64 0] 24 ∧ boxB w10 n9 #[.int .i64 x0, .int .i64 x1, .int .i64 (now + x1), .bool false, .int .i64 0, .int .i64 0] 24 ∧ boxB w10 n11 #[.int .i64 x0, .int .i64 x1, .int .i64 (now + x1), .bool true, .int .i64 (now + x1 + x1), .int .i64 1] 24) := ⟨H8.out.1.below bb, H8.out.2.1.below bb, H8.out.2.2.1.below bb, H8.out.2.2.2.1.below bb, H8.out.2.2.2.2.1.below bb, H8.out.2.2.2.2.2.below bb⟩
  clear d0 d1 d2 d3 d4 d5 bb H8 HP1
  have d0 := H9.out.2.1.cell 0
  have d1 := H9.out.2.1.cell 1
  have d2 := H9.out.2.1.cell 2
  have d3 := H9.out.2.1.cell 3
  have d4 := H9.out.2.1.cell 4
  have d5 := H9.out.2.1.cell 5
  go_wp2_with fail
  refine (HP2 _).mono ?_
  rintro e w11 ⟨rfl, bb⟩
  have H10 : Hid (Bel W w11 ∧ boxB w11 n3 #[.int .i64 x0, .int .i64 x1, .int .i64 x2, .bool x3, .int .i64 x4, .int .i64 x5] 24 ∧ boxB w11 n5 #[.int .i64 x0, .int .i64 x1, .int .i64 0, .bool false, .int .i64 0, .int .i64 0] 24 ∧ boxB w11 n7 #[.int .i64 x0, .int .i64 x1, .int .i64 (now + x1), .bool false, .int .i64 0, .int .i64 0] 24 ∧ boxB w11 n9 #[.int .i64 x0, .int .i64 x1, .int .i64 (now + x1), .bool false, .int .i64 0, .int .i64 0] 24 ∧ boxB w11 n11 #[.int .i64 x0, .int .i64 x1, .int .i64 (now + x1), .bool true, .int .i64 (now + x1 + x1), .int .i64 1] 24) := ⟨H9.out.1.below bb, H9.out.2.1.below bb, H9.out.2.2.1.below bb, H9.out.2.2.2.1.below bb, H9.out.2.2.2.2.1.below bb, H9.out.2.2.2.2.2.below bb⟩
  clear d0 d1 d2 d3 d4 d5 bb H9 HP2
  go_upto_region 16 with fail
  have d0 := H10.out.2.1.cell 0
  have d1 := H10.out.2.1.cell 1
  have d2 := H10.out.2.1.cell 2
  have d3 := H10.out.2.1.cell 3
  have d4 := H10.out.2.1.cell 4
  have d5 := H10.out.2.1.cell 5
  have c0 := H10.out.2.2.2.2.2.cell 0
  have c1 := H10.out.2.2.2.2.2.cell 1
  have c2 := H10.out.2.2.2.2.2.cell 2
  have c3 := H10.out.2.2.2.2.2.cell 3
  have c4 := H10.out.2.2.2.2.2.cell 4
  have c5 := H10.out.2.2.2.2.2.cell 5
  go_wp2_with fail
  have HX : 0 ≤ x0 ∧ x0 ≤ 1000000000 := (by have := HT.out; have := HN.out; omega)
  have hO : Own 3 1 IntKit.cells (w11.alloc (.cells #[.int .i64 x0, .int .i64 x0, .int .i64 x0, .int .i64 x0] 3)) (some ⟨w11.heap.size, 0, none⟩) ([x0, x0, x0, x0] : List Int) := Or.inr ⟨_, 0, rfl, _, heap_alloc_new w11 _, by simp, fun i hi j hj => by match i, hi with | 0, _ => (match j, hj with | 0, _ => rfl) | 1, _ => (match j, hj with | 0, _ => rfl) | 2, _ => (match j, hj with | 0, _ => rfl) | 3, _ => (match j, hj with | 0, _ => rfl)⟩
  have hAll : true = true ↔ AllOk ⟨x0, x1, now + x1, true, now + x1 + x1, 1⟩ (now + 3 * x1) [x0, x0, x0, x0] := ⟨fun _ => ⟨fun k hk => by match k, hk with | 0, _ => exact HX | 1, _ => exact HX | 2, _ => exact HX | 3, _ => exact HX, drop_ok (by have := HT.out; have := HN.out; omega) (by have := HT.out; have := HN.out; omega) (by have := HT.out; have := HN.out; omega) (by have := HT.out; have := HN.out; omega), (by have := HT.out; have := HN.out; omega), (by have := HT.out; have := HN.out; omega)⟩, fun _ => rfl⟩
  have hk9 := looks_keeps (now := now + 3 * x1) (by have := HT.out; have := HN.out; omega) ⟨x0, x1, now + x1, true, now + x1 + x1, 1⟩ [x0, x0, x0, x0] (drop_ok (by have := HT.out; have := HN.out; omega) (by have := HT.out; have := HN.out; omega) (by have := HT.out; have := HN.out; omega) (by have := HT.out; have := HN.out; omega))
  have hs9 := looks_some (t := x0) (v := x1) (now := now) (by have := HT.out; have := HN.out; omega) [x0, x0, x0] (by have := HT.out; have := HN.out; omega)
  have hl9 := looks_le (now + 3 * x1) ⟨x0, x1, now + x1, true, now + x1 + x1, 1⟩ [x0, x0, x0, x0]
  have HSA := impl_seeall x0 x1 (now + x1) true (now + x1 + x1) 1 (now + 3 * x1) (some ⟨w11.heap.size, 0, none⟩) 4 [x0, x0, x0, x0] _ hO (by simp) (by simp) true hAll
  simp only [↓reduceIte] at HSA
  obtain ⟨LK, hLK⟩ : ∃ LK, looks (now + 3 * x1) ⟨x0, x1, now + x1, true, now + x1 + x1, 1⟩ [x0, x0, x0, x0] = LK := ⟨_, rfl⟩
  rw [hLK] at hk9 hs9 hl9 HSA
  obtain ⟨lc, r⟩ := LK
  have HR : Hid (1 ≤ r ∧ r ≤ 4) := ⟨hs9, hl9⟩
  clear hs9 hl9 hLK hO hAll HX
  refine HSA.mono ?_
  rintro e w12 ⟨u0, u1, u2, u3, u4, u5, rfl, hu, b12⟩
  dsimp only at hu hk9
  rw [hu] at hk9
  clear hu HSA
  have H11 : Hid (Bel W (w12.alloc (.cells #[.int .i64 u0, .int .i64 u1, .int .i64 u2, .bool u3, .int .i64 u4, .int .i64 u5] 24)) ∧ boxB (w12.alloc (.cells #[.int .i64 u0, .int .i64 u1, .int .i64 u2, .bool u3, .int .i64 u4, .int .i64 u5] 24)) n3 #[.int .i64 x0, .int .i64 x1, .int .i64 x2, .bool x3, .int .i64 x4, .int .i64 x5] 24 ∧ boxB (w12.alloc (.cells #[.int .i64 u0, .int .i64 u1, .int .i64 u2, .bool u3, .int .i64 u4, .int .i64 u5] 24)) n5 #[.int .i64 x0, .int .i64 x1, .int .i64 0, .bool false, .int .i64 0, .int .i64 0] 24 ∧ boxB (w12.alloc (.cells #[.int .i64 u0, .int .i64 u1, .int .i64 u2, .bool u3, .int .i64 u4, .int .i64 u5] 24)) n7 #[.int .i64 x0, .int .i64 x1, .int .i64 (now + x1), .bool false, .int .i64 0, .int .i64 0] 24 ∧ boxB (w12.alloc (.cells #[.int .i64 u0, .int .i64 u1, .int .i64 u2, .bool u3, .int .i64 u4, .int .i64 u5] 24)) n9 #[.int .i64 x0, .int .i64 x1, .int .i64 (now + x1), .bool false, .int .i64 0, .int .i64 0] 24 ∧ boxB (w12.alloc (.cells #[.int .i64 u0, .int .i64 u1, .int .i64 u2, .bool u3, .int .i64 u4, .int .i64 u5] 24)) n11 #[.int .i64 x0, .int .i64 x1, .int .i64 (now + x1), .bool true, .int .i64 (now + x1 + x1), .int .i64 1] 24 ∧ boxB (w12.alloc (.cells #[.int .i64 u0, .int .i64 u1, .int .i64 u2, .bool u3, .int .i64 u4, .int .i64 u5] 24)) w12.heap.size #[.int .i64 u0, .int .i64 u1, .int .i64 u2, .bool u3, .int .i64 u4, .int .i64 u5] 24) := ⟨H10.out.1.below (((n1 w11 _).trans (b12.mono (n1 w11 _).size)).trans ((n1 w12 _).mono (((n1 w11 _).trans (b12.mono (n1 w11 _).size)).size))), H10.out.2.1.below (((n1 w11 _).trans (b12.mono (n1 w11 _).size)).trans ((n1 w12 _).mono (((n1 w11 _).trans (b12.mono (n1 w11 _).size)).size))), H10.out.2.2.1.below (((n1 w11 _).trans (b12.mono (n1 w11 _).size)).trans ((n1 w12 _).mono (((n1 w11 _).trans (b12.mono (n1 w11 _).size)).size))), H10.out.2.2.2.1.below (((n1 w11 _).trans (b12.mono (n1 w11 _).size)).trans ((n1 w12 _).mono (((n1 w11 _).trans (b12.mono (n1 w11 _).size)).size))), H10.out.2.2.2.2.1.below (((n1 w11 _).trans (b12.mono (n1 w11 _).size)).trans ((n1 w12 _).mono (((n1 w11 _).trans (b12.mono (n1 w11 _).size)).size))), H10.out.2.2.2.2.2.below (((n1 w11 _).trans (b12.mono (n1 w11 _).size)).trans ((n1 w12 _).mono (((n1 w11 _).trans (b12.mono (n1 w11 _).size)).size))), boxB.new _ _ _⟩
  clear d0 d1 d2 d3 d4 d5 c0 c1 c2 c3 c4 c5 b12 H10
  go_upto_region 17 with fail
  obtain ⟨n16, hn16⟩ : ∃ n16, w12.heap.size = n16 := ⟨_, rfl⟩
  generalize (w12.alloc (.cells #[.int .i64 u0, .int .i64 u1, .int .i64 u2, .bool u3, .int .i64 u4, .int .i64 u5] 24)) = w13 at *
  rw [hn16] at H11 ⊢
  clear hn16
  have HC3 : ∀ X : World, Calls Try.prog 7 #[.agg #[.int .i64 u0, .int .i64 u1, .int .i64 u2, .bool u3, .int .i64 u4, .int .i64 u5]] X fun e w' => e = .returned (.bool true) ∧ Below X.heap.size X w' := fun X => by
    have h9 := impl_codelok u0 u1 u2 u3 u4 u5 X
    rw [hk9] at h9
    exact h9
  clear hk9
  have t1 : decide (pb ≤ pa) = true := decide_eq_true G1.out.1
  have t2 : decide (1 ≤ pb) = true := decide_eq_true G1.out.2.1
  have t3 : decide (pa ≤ x1) = true := decide_eq_true G1.out.2.2
  have t4 : decide (1 ≤ (r : Int)) = true := decide_eq_true (by have := HR.out; omega)
  have t5 : decide ((r : Int) ≤ 4) = true := decide_eq_true (by have := HR.out; omega)
  have d0 := H11.out.2.1.cell 0
  have d1 := H11.out.2.1.cell 1
  have d2 := H11.out.2.1.cell 2
  have d3 := H11.out.2.1.cell 3
  have d4 := H11.out.2.1.cell 4
  have d5 := H11.out.2.1.cell 5
  have c0 := H11.out.2.2.2.2.2.2.cell 0
  have c1 := H11.out.2.2.2.2.2.2.cell 1
  have c2 := H11.out.2.2.2.2.2.2.cell 2
  have c3 := H11.out.2.2.2.2.2.2.cell 3
  have c4 := H11.out.2.2.2.2.2.2.cell 4
  have c5 := H11.out.2.2.2.2.2.2.cell 5
  go_wp2_with (go_at_call 7; refine (HC3 _).mono ?_; rintro e w14 ⟨rfl, b14⟩; have HE : Hid (Below W.heap.size W w14) := H11.out.1.below b14)
  go_ret
  exact ⟨rfl, HE.out⟩

theorem walk (W : World) (a : Option Addr) (len cap : Nat) (zs : List Int) (h : IsRow .u8 W a len cap zs) :
    Calls Try.prog 3 #[.slice a len cap] W fun e w' => e = .returned (.bool true) ∧ Below W.heap.size W w' := by
  have hm := row_len h
  by_cases hl : (len : Int) ≤ 1048576
  · exact walk_in a len cap W hl (code_of h)
  · clear h
    have hl2 : (1048576 : Int) < (len : Int) := by omega
    go_enter Try.func3, Try.ntmps3
    go_wp2
    go_ret
    exact ⟨rfl, Below.refl _ _⟩

theorem own : ownKnob Try.prog.godebug = none := by kernel_rfl
theorem laidOut : laidOutB Try.prog = true := by kernel_rfl

set_option maxRecDepth 100000 in
theorem lifted (os : Os) (started : os.Started) (H : Type) (enc : TypeId × Value → H) :
    ReturnsInHanded {} Try.checked os 3 .any (Rows.fnCodelSpec.pre6 enc Try.prog Try.f3 Rows.fnCodelRow.domain false) (Rows.fnCodelSpec.post enc Try.prog Try.f3 false true false false) := by
  refine returnsInHanded_of_change (C := Try.checked) own started (by kernel_rfl) Try.func3
    (ChangeSpec.witness6 (enc := enc) (C := Try.checked) false ⟨#[], #[.slice none 0 0], []⟩ 8 (by kernel_rfl) (by kernel_rfl) (by kernel_rfl) (by kernel_rfl)) ?_
  intro W base args ds gs before hval0 hW hcnd _
  have hval : ∀ (j : Nat) t v, Try.f3.params[j]? = some t → args[j]? = some v → Value.okWide Try.prog W .any base t v := hval0
  have hW' := hW
  obtain ⟨p, q, hA0, hV, rfl, hfz, hnd⟩ := hW
  have hA : DataW.TrodAll enc Try.prog W 0 (fun _ => true) true Try.f3.params.toList args.toList ds p := hA0
  rw [Try.params3] at hA hval
  obtain ⟨v0, vs0, d0, ds0, p0, q0, hargs, rfl, rfl, h0, r0⟩ := trodAll_cons hA
  obtain ⟨rfl, rfl, rfl⟩ := trodAll_nil r0
  obtain rfl : args = #[v0] := by cases args; simp_all
  obtain ⟨rfl, rfl⟩ := trodVars_none hV
  obtain ⟨a0, len0, cap0, rfl⟩ := okWide_slice Try.underlying22 (hval 0 22 v0 rfl rfl)
  have k0 := h0
  have lt0 : ∀ x ∈ p0, x.block < W.heap.size := by obtain ⟨m, hm⟩ := k0; exact DataW.trod_lt m _ _ _ hm
  obtain ⟨z0, w0⟩ : ∃ zs, IsRow .u8 W a0 len0 cap0 zs := by
    obtain ⟨fuel, hf⟩ := h0
    rcases open_ints Try.underlying22 Try.underlying5 (by kernel_rfl) hf with ⟨hcs, _⟩ | ⟨x, l, c, zs, hcs, _, hl, hm, hz, _, hcell, hwz⟩
    · simp [Value.cells] at hcs
      obtain ⟨rfl, rfl, rfl⟩ := hcs
      exact ⟨[], .inl ⟨rfl, rfl, rfl, rfl⟩⟩
    · simp [Value.cells] at hcs
      obtain ⟨rfl, rfl, rfl⟩ := hcs
      exact ⟨zs, .inr ⟨_, rfl, hl, hm, by simpa using hz, hcell, hwz⟩⟩
  clear hA0 hval0
  refine (walk W a0 len0 cap0 z0 w0).mono fun e W' ⟨he, hb⟩ => ?_
  subst he
  exact ⟨_, rfl, _, _, _, [], _, [], hW', trodAll_cons_mk (shut_bool Try.underlying4 _) trodAll_mk0, (trodAll_cons_mk (Below.trod laidOut (by kernel_rfl) (of_decide_eq_true (by kernel_rfl)) k0 hb lt0) trodAll_mk0), rfl, hb.frame _, fun h => by cases h⟩

theorem over : Rows.fnCodelRow.holds Try.pinned (OpenSpec.ofChange Rows.fnCodelSpec) :=
  OpenClaim.holds_of_wide 3 Try.f3 rfl rfl rfl rfl rfl rfl rfl ⟨rfl, rfl, rfl, rfl, rfl⟩ rfl rfl rfl rfl rfl (by kernel_rfl) Try.func3 (by kernel_rfl)
    (of_decide_eq_true (by kernel_rfl)) (by unfold Func.isWrapper; first | (rw [if_pos (by decide +kernel)]; kernel_rfl) | (rw [if_neg (by decide +kernel)]; exact ⟨rfl, rfl⟩))
    (fun os started H enc _ => lifted os started H enc)

theorem proved : Rows.FnCodelSaid :=
  over

end Go.Proofs.Ytdgkmiknnelddaa.fnCodel
