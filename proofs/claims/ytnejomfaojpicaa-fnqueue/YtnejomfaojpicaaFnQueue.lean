/- What one queue takes in it gives back, once, and its heads are the first of their tiers (the law FnQueue returns true); no condition. -/
import Derived.Test.YtnejomfaojpicaaRows
import Derived.WalkKit
import Derived.WalkSmall
import Derived.BigQuiet
import Derived.ProofKit
import Derived.OpenShut
import Derived.ChangeSlices
import Derived.Deep.RegionWith
import Derived.Deep.RegionHeld3
import Derived.Deep.DeepCutAuto
import Derived.Lay
import Derived.HandedShaped
import Derived.Test.YtnejomfaojpicaaListKit
import Derived.Test.YtnejomfaojpicaaHoldKit
import Derived.Test.YtnejomfaojpicaaGrowKit
import Derived.Test.YtnejomfaojpicaaReqKit
import Derived.Test.YtnejomfaojpicaaReqOks
import Derived.Test.YtnejomfaojpicaaNearKit
import Derived.Test.YtnejomfaojpicaaQueMath
import Derived.Test.YtnejomfaojpicaaQueMiscS
import Derived.Test.YtnejomfaojpicaaQueTierS
import Derived.Test.YtnejomfaojpicaaQueHeadS
import Derived.Test.YtnejomfaojpicaaQueGood
import Derived.Test.YtnejomfaojpicaaQueLaw
import Derived.Test.YtnejomfaojpicaaQueMini
import Derived.Test.YtnejomfaojpicaaDrawWalks
import Derived.Test.YtnejomfaojpicaaCodeArg
import Derived.Test.YtnejomfaojpicaaDrawKit
import Derived.Test.YtnejomfaojpicaaQueDraw
namespace Go.Proofs.Ytnejomfaojpicaa.fnQueue
open Go.ChangeShapes Go.WideShapes Go.ChangeAt Go.RowKit ListKit HoldKit NearKit QueMath QueMiscS QueTierS QueHeadS QueLaw QueMini CodeArg QueDraw
open DrawWalks (CodeOk)
set_option linter.unusedVariables false
set_option linter.unusedSimpArgs false
set_option maxRecDepth 8000

set_option maxHeartbeats 16000000 in
theorem walk_in (a : Option Addr) (len cap : Nat) (W : World) (hlen : (len : Int) ≤ 1048576) (hok : CodeOk W W.heap.size a len) :
    Calls Try.prog 3 #[.slice a len cap] W fun e w' => e = .returned (.bool true) ∧ Below W.heap.size W w' := by
  have HO : Hid (CodeOk W W.heap.size a len) := hok
  clear hok
  go_enter Try.func3, Try.ntmps3
  go_wp2_with fail
  refine (make_que len a cap W hlen HO.out).mono ?_
  rintro e w1 ⟨x, aL, cL, L, x1, x2, x3, x5, rfl, hcL, hx6, hqq, hsm, hrq, hoL, hfL, b1⟩
  have FT : Hid (Fit L x1 x2 x3 x5) := fit_of hqq hx6 hsm hrq
  clear hqq hsm hrq hx6 HO hlen
  obtain ⟨n3, hn3⟩ : ∃ n3, w1.heap.size = n3 := ⟨_, rfl⟩
  have hW3 : Hid (W.heap.size ≤ n3) := by have := b1.size; rw [hn3] at this; exact this
  have hoff : Hid (∀ b, blkL aL L = some b → b ≠ n3) := fun b hb e => by have := hoL.lt b hb; omega
  have H0 : Hid (Bel W ((w1.alloc (.cells #[.int .i64 x, .slice aL L.length cL] 25)).alloc (.cells #[.int .i64 500, .int .i64 x1, .int .i64 x2, .int .i64 x3, .int .i64 300, .int .i64 x5] 27)) ∧ Own 27 6 ReqKit.cells ((w1.alloc (.cells #[.int .i64 x, .slice aL L.length cL] 25)).alloc (.cells #[.int .i64 500, .int .i64 x1, .int .i64 x2, .int .i64 x3, .int .i64 300, .int .i64 x5] 27)) aL L ∧ boxB ((w1.alloc (.cells #[.int .i64 x, .slice aL L.length cL] 25)).alloc (.cells #[.int .i64 500, .int .i64 x1, .int .i64 x2, .int .i64 x3, .int .i64 300, .int .i64 x5] 27)) w1.heap.size #[.int .i64 x, .slice aL L.length cL] 25 ∧ boxB ((w1.alloc (.cells #[.int .i64 x, .slice aL L.length cL] 25)).alloc (.cells #[.int .i64 500, .int .i64 x1, .int .i64 x2, .int .i64 x3, .int .i64 300, .int .i64 x5] 27)) (w1.heap.size + 1) #[.int .i64 500, .int .i64 x1, .int .i64 x2, .int .i64 x3, .int .i64 300, .int .i64 x5] 27) := ⟨Bel.below b1 (n2 w1 _ _), hoL.below (n2 w1 _ _), (boxB.new _ _ _).below (n1 _ _), new2 _ _ _ _⟩
  clear b1 hoL hfL
  go_upto_region 4 with fail
  generalize ((w1.alloc (.cells #[.int .i64 x, .slice aL L.length cL] 25)).alloc (.cells #[.int .i64 500, .int .i64 x1, .int .i64 x2, .int .i64 x3, .int .i64 300, .int .i64 x5] 27)) = w2 at *
  rw [hn3] at H0
  clear hn3
  have c0 := H0.out.2.2.1.cell 0
  have z0 := fzB H0.out.2.2.1 0
  go_upto_region 5 with fail
  have H1 : Hid (Bel W (w2.setCell ⟨n3, 0, none⟩ (.int .i64 40)) ∧ Own 27 6 ReqKit.cells (w2.setCell ⟨n3, 0, none⟩ (.int .i64 40)) aL L ∧ boxB (w2.setCell ⟨n3, 0, none⟩ (.int .i64 40)) n3 #[.int .i64 40, .slice aL L.length cL] 25 ∧ boxB (w2.setCell ⟨n3, 0, none⟩ (.int .i64 40)) (n3 + 1) #[.int .i64 500, .int .i64 x1, .int .i64 x2, .int .i64 x3, .int .i64 300, .int .i64 x5] 27) := ⟨Below.setCell H0.out.1 (by show W.heap.size ≤ n3; exact hW3.out) _, Own.set H0.out.2.1 hoff.out _, H0.out.2.2.1.set 0 _, H0.out.2.2.2.else (by show n3 + 1 ≠ n3; omega) _⟩
  clear c0 z0 H0 hW3 hoff
  generalize (w2.setCell ⟨n3, 0, none⟩ (.int .i64 40)) = w3 at *
  have c0 := H1.out.2.2.1.cell 0
  have c1 := H1.out.2.2.1.cell 1
  have d0 := H1.out.2.2.2.cell 0
  have d1 := H1.out.2.2.2.cell 1
  have d2 := H1.out.2.2.2.cell 2
  have d3 := H1.out.2.2.2.cell 3
  have d4 := H1.out.2.2.2.cell 4
  have d5 := H1.out.2.2.2.cell 5
  go_wp2_with fail
  refine (que_offer FT.out aL cL _ H1.out.2.1 hcL).mono ?_
  rintro e w4 ⟨aM, cM, rfl, hcM, oM, b4⟩
  have H2 : Hid (Bel W ((w4.alloc (.cells #[.int .i64 40, .slice aM (L.length + 1) cM] 25)).alloc (.cells #[.int .i64 0, .int .i64 0, .int .i64 0, .int .i64 0, .int .i64 0, .int .i64 0] 27)) ∧ Own 27 6 ReqKit.cells ((w4.alloc (.cells #[.int .i64 40, .slice aM (L.length + 1) cM] 25)).alloc (.cells #[.int .i64 0, .int .i64 0, .int .i64 0, .int .i64 0, .int .i64 0, .int .i64 0] 27)) aL L ∧ boxB ((w4.alloc (.cells #[.int .i64 40, .slice aM (L.length + 1) cM] 25)).alloc (.cells #[.int .i64 0, .int .i64 0, .int .i64 0, .int .i64 0, .int .i64 0, .int .i64 0] 27)) n3 #[.int .i64 40, .slice aL L.length cL] 25 ∧ boxB ((w4.alloc (.cells #[.int .i64 40, .slice aM (L.length + 1) cM] 25)).alloc (.cells #[.int .i64 0, .int .i64 0, .int .i64 0, .int .i64 0, .int .i64 0, .int .i64 0] 27)) (n3 + 1) #[.int .i64 500, .int .i64 x1, .int .i64 x2, .int .i64 x3, .int .i64 300, .int .i64 x5] 27 ∧ Own 27 6 ReqKit.cells ((w4.alloc (.cells #[.int .i64 40, .slice aM (L.length + 1) cM] 25)).alloc (.cells #[.int .i64 0, .int .i64 0, .int .i64 0, .int .i64 0, .int .i64 0, .int .i64 0] 27)) aM (L ++ [⟨500, x1, x2, x3, 300, x5⟩]) ∧ boxB ((w4.alloc (.cells #[.int .i64 40, .slice aM (L.length + 1) cM] 25)).alloc (.cells #[.int .i64 0, .int .i64 0, .int .i64 0, .int .i64 0, .int .i64 0, .int .i64 0] 27)) w4.heap.size #[.int .i64 40, .slice aM (L.length + 1) cM] 25) := ⟨H1.out.1.below (b4.trans ((n2 w4 _ _).mono b4.size)), H1.out.2.1.below (b4.trans ((n2 w4 _ _).mono b4.size)), H1.out.2.2.1.below (b4.trans ((n2 w4 _ _).mono b4.size)), H1.out.2.2.2.below (b4.trans ((n2 w4 _ _).mono b4.size)), oM.below (n2 w4 _ _), (boxB.new _ _ _).below (n1 _ _)⟩
  clear c0 c1 d0 d1 d2 d3 d4 d5 b4 oM H1
  go_upto_region 6 with fail
  obtain ⟨n5, hn5⟩ : ∃ n5, w4.heap.size = n5 := ⟨_, rfl⟩
  generalize ((w4.alloc (.cells #[.int .i64 40, .slice aM (L.length + 1) cM] 25)).alloc (.cells #[.int .i64 0, .int .i64 0, .int .i64 0, .int .i64 0, .int .i64 0, .int .i64 0] 27)) = w5 at *
  rw [hn5] at H2 ⊢
  clear hn5
  have c0 := H2.out.2.2.2.2.2.cell 0
  have c1 := H2.out.2.2.2.2.2.cell 1
  have d0 := H2.out.2.2.2.1.cell 0
  have d1 := H2.out.2.2.2.1.cell 1
  have d2 := H2.out.2.2.2.1.cell 2
  have d3 := H2.out.2.2.2.1.cell 3
  have d4 := H2.out.2.2.2.1.cell 4
  have d5 := H2.out.2.2.2.1.cell 5
  go_wp2_with fail
  refine (que_pull1 FT.out aM cM _ H2.out.2.2.2.2.1 hcM).mono ?_
  rintro e w6 ⟨aY, cY, rfl, hcY, oY, b6⟩
  have H3 : Hid (Bel W ((w6.alloc (.cells #[.int .i64 40, .slice aY L.length cY] 25)).alloc (.cells #[.int .i64 500, .int .i64 x1, .int .i64 x2, .int .i64 x3, .int .i64 300, .int .i64 x5] 27)) ∧ Own 27 6 ReqKit.cells ((w6.alloc (.cells #[.int .i64 40, .slice aY L.length cY] 25)).alloc (.cells #[.int .i64 500, .int .i64 x1, .int .i64 x2, .int .i64 x3, .int .i64 300, .int .i64 x5] 27)) aL L ∧ boxB ((w6.alloc (.cells #[.int .i64 40, .slice aY L.length cY] 25)).alloc (.cells #[.int .i64 500, .int .i64 x1, .int .i64 x2, .int .i64 x3, .int .i64 300, .int .i64 x5] 27)) n3 #[.int .i64 40, .slice aL L.length cL] 25 ∧ boxB ((w6.alloc (.cells #[.int .i64 40, .slice aY L.length cY] 25)).alloc (.cells #[.int .i64 500, .int .i64 x1, .int .i64 x2, .int .i64 x3, .int .i64 300, .int .i64 x5] 27)) (n3 + 1) #[.int .i64 500, .int .i64 x1, .int .i64 x2, .int .i64 x3, .int .i64 300, .int .i64 x5] 27 ∧ Own 27 6 ReqKit.cells ((w6.alloc (.cells #[.int .i64 40, .slice aY L.length cY] 25)).alloc (.cells #[.int .i64 500, .int .i64 x1, .int .i64 x2, .int .i64 x3, .int .i64 300, .int .i64 x5] 27)) aM (L ++ [⟨500, x1, x2, x3, 300, x5⟩]) ∧ boxB ((w6.alloc (.cells #[.int .i64 40, .slice aY L.length cY] 25)).alloc (.cells #[.int .i64 500, .int .i64 x1, .int .i64 x2, .int .i64 x3, .int .i64 300, .int .i64 x5] 27)) n5 #[.int .i64 40, .slice aM (L.length + 1) cM] 25 ∧ Own 27 6 ReqKit.cells ((w6.alloc (.cells #[.int .i64 40, .slice aY L.length cY] 25)).alloc (.cells #[.int .i64 500, .int .i64 x1, .int .i64 x2, .int .i64 x3, .int .i64 300, .int .i64 x5] 27)) aY L ∧ boxB ((w6.alloc (.cells #[.int .i64 40, .slice aY L.length cY] 25)).alloc (.cells #[.int .i64 500, .int .i64 x1, .int .i64 x2, .int .i64 x3, .int .i64 300, .int .i64 x5] 27)) w6.heap.size #[.int .i64 40, .slice aY L.length cY] 25 ∧ boxB ((w6.alloc (.cells #[.int .i64 40, .slice aY L.length cY] 25)).alloc (.cells #[.int .i64 500, .int .i64 x1, .int .i64 x2, .int .i64 x3, .int .i64 300, .int .i64 x5] 27)) (w6.heap.size + 1) #[.int .i64 500, .int .i64 x1, .int .i64 x2, .int .i64 x3, .int .i64 300, .int .i64 x5] 27) := ⟨H2.out.1.below (b6.trans ((n2 w6 _ _).mono b6.size)), H2.out.2.1.below (b6.trans ((n2 w6 _ _).mono b6.size)), H2.out.2.2.1.below (b6.trans ((n2 w6 _ _).mono b6.size)), H2.out.2.2.2.1.below (b6.trans ((n2 w6 _ _).mono b6.size)), H2.out.2.2.2.2.1.below (b6.trans ((n2 w6 _ _).mono b6.size)), H2.out.2.2.2.2.2.below (b6.trans ((n2 w6 _ _).mono b6.size)), oY.below (n2 w6 _ _), (boxB.new _ _ _).below (n1 _ _), new2 _ _ _ _⟩
  clear c0 c1 d0 d1 d2 d3 d4 d5 b6 oY H2
  go_upto_region 7 with fail
  obtain ⟨n8, hn8⟩ : ∃ n8, w6.heap.size = n8 := ⟨_, rfl⟩
  generalize ((w6.alloc (.cells #[.int .i64 40, .slice aY L.length cY] 25)).alloc (.cells #[.int .i64 500, .int .i64 x1, .int .i64 x2, .int .i64 x3, .int .i64 300, .int .i64 x5] 27)) = w7 at *
  rw [hn8] at H3 ⊢
  clear hn8
  have c0 := H3.out.2.2.2.2.2.2.2.1.cell 0
  have c1 := H3.out.2.2.2.2.2.2.2.1.cell 1
  have d0 := H3.out.2.2.2.1.cell 0
  have d1 := H3.out.2.2.2.1.cell 1
  have d2 := H3.out.2.2.2.1.cell 2
  have d3 := H3.out.2.2.2.1.cell 3
  have d4 := H3.out.2.2.2.1.cell 4
  have d5 := H3.out.2.2.2.1.cell 5
  go_wp2_with fail
  refine (que_pull2 FT.out aY cY _ H3.out.2.2.2.2.2.2.1 hcY).mono ?_
  rintro e w8 ⟨aZ, cZ, rfl, b8⟩
  have H4 : Hid (Bel W ((w8.alloc (.cells #[.int .i64 40, .slice aZ L.length cZ] 25)).alloc (.cells #[.int .i64 0, .int .i64 0, .int .i64 0, .int .i64 0, .int .i64 0, .int .i64 0] 27)) ∧ Own 27 6 ReqKit.cells ((w8.alloc (.cells #[.int .i64 40, .slice aZ L.length cZ] 25)).alloc (.cells #[.int .i64 0, .int .i64 0, .int .i64 0, .int .i64 0, .int .i64 0, .int .i64 0] 27)) aL L ∧ boxB ((w8.alloc (.cells #[.int .i64 40, .slice aZ L.length cZ] 25)).alloc (.cells #[.int .i64 0, .int .i64 0, .int .i64 0, .int .i64 0, .int .i64 0, .int .i64 0] 27)) n3 #[.int .i64 40, .slice aL L.length cL] 25 ∧ boxB ((w8.alloc (.cells #[.int .i64 40, .slice aZ L.length cZ] 25)).alloc (.cells #[.int .i64 0, .int .i64 0, .int .i64 0, .int .i64 0, .int .i64 0, .int .i64 0] 27)) (n3 + 1) #[.int .i64 500, .int .i64 x1, .int .i64 x2, .int .i64 x3, .int .i64 300, .int .i64 x5] 27 ∧ Own 27 6 ReqKit.cells ((w8.alloc (.cells #[.int .i64 40, .slice aZ L.length cZ] 25)).alloc (.cells #[.int .i64 0, .int .i64 0, .int .i64 0, .int .i64 0, .int .i64 0, .int .i64 0] 27)) aM (L ++ [⟨500, x1, x2, x3, 300, x5⟩]) ∧ boxB ((w8.alloc (.cells #[.int .i64 40, .slice aZ L.length cZ] 25)).alloc (.cells #[.int .i64 0, .int .i64 0, .int .i64 0, .int .i64 0, .int .i64 0, .int .i64 0] 27)) n5 #[.int .i64 40, .slice aM (L.length + 1) cM] 25 ∧ Own 27 6 ReqKit.cells ((w8.alloc (.cells #[.int .i64 40, .slice aZ L.length cZ] 25)).alloc (.cells #[.int .i64 0, .int .i64 0, .int .i64 0, .int .i64 0, .int .i64 0, .int .i64 0] 27)) aY L ∧ boxB ((w8.alloc (.cells #[.int .i64 40, .slice aZ L.length cZ] 25)).alloc (.cells #[.int .i64 0, .int .i64 0, .int .i64 0, .int .i64 0, .int .i64 0, .int .i64 0] 27)) n8 #[.int .i64 40, .slice aY L.length cY] 25 ∧ boxB ((w8.alloc (.cells #[.int .i64 40, .slice aZ L.length cZ] 25)).alloc (.cells #[.int .i64 0, .int .i64 0, .int .i64 0, .int .i64 0, .int .i64 0, .int .i64 0] 27)) (n8 + 1) #[.int .i64 500, .int .i64 x1, .int .i64 x2, .int .i64 x3, .int .i64 300, .int .i64 x5] 27) := ⟨H3.out.1.below (b8.trans ((n2 w8 _ _).mono b8.size)), H3.out.2.1.below (b8.trans ((n2 w8 _ _).mono b8.size)), H3.out.2.2.1.below (b8.trans ((n2 w8 _ _).mono b8.size)), H3.out.2.2.2.1.below (b8.trans ((n2 w8 _ _).mono b8.size)), H3.out.2.2.2.2.1.below (b8.trans ((n2 w8 _ _).mono b8.size)), H3.out.2.2.2.2.2.1.below (b8.trans ((n2 w8 _ _).mono b8.size)), H3.out.2.2.2.2.2.2.1.below (b8.trans ((n2 w8 _ _).mono b8.size)), H3.out.2.2.2.2.2.2.2.1.below (b8.trans ((n2 w8 _ _).mono b8.size)), H3.out.2.2.2.2.2.2.2.2.below (b8.trans ((n2 w8 _ _).mono b8.size))⟩
  clear c0 c1 d0 d1 d2 d3 d4 d5 b8 H3
  go_upto_region 8 with fail
  generalize ((w8.alloc (.cells #[.int .i64 40, .slice aZ L.length cZ] 25)).alloc (.cells #[.int .i64 0, .int .i64 0, .int .i64 0, .int .i64 0, .int .i64 0, .int .i64 0] 27)) = w9 at *
  have c0 := H4.out.2.2.2.2.2.2.2.1.cell 0
  have c1 := H4.out.2.2.2.2.2.2.2.1.cell 1
  have d0 := H4.out.2.2.2.1.cell 0
  have d1 := H4.out.2.2.2.1.cell 1
  have d2 := H4.out.2.2.2.1.cell 2
  have d3 := H4.out.2.2.2.1.cell 3
  have d4 := H4.out.2.2.2.1.cell 4
  have d5 := H4.out.2.2.2.1.cell 5
  have e0 := H4.out.2.2.2.2.2.2.2.2.cell 0
  have e1 := H4.out.2.2.2.2.2.2.2.2.cell 1
  have e2 := H4.out.2.2.2.2.2.2.2.2.cell 2
  have e3 := H4.out.2.2.2.2.2.2.2.2.cell 3
  have e4 := H4.out.2.2.2.2.2.2.2.2.cell 4
  have e5 := H4.out.2.2.2.2.2.2.2.2.cell 5
  have f0 := H4.out.2.2.1.cell 0
  have f1 := H4.out.2.2.1.cell 1
  have ne := neq_self 500 x1 x2 x3 300 x5
  have nl : ((L.length : Int) != (L.length : Int)) = false := by simp
  go_upto_region 11 with fail
  clear c0 c1 d0 d1 d2 d3 d4 d5 e0 e1 e2 e3 e4 e5 f0 f1 ne nl
  go_loopw [14, 80] (fun _ i wr => ∃ j : Nat, j ≤ L.length ∧ i = .int .i64 (j : Int) ∧ Hid (Bel W wr ∧ Own 27 6 ReqKit.cells wr aL L ∧ boxB wr n3 #[.int .i64 40, .slice aL L.length cL] 25 ∧ boxB wr (n3 + 1) #[.int .i64 500, .int .i64 x1, .int .i64 x2, .int .i64 x3, .int .i64 300, .int .i64 x5] 27 ∧ Own 27 6 ReqKit.cells wr aM (L ++ [⟨500, x1, x2, x3, 300, x5⟩]) ∧ boxB wr n5 #[.int .i64 40, .slice aM (L.length + 1) cM] 25 ∧ Own 27 6 ReqKit.cells wr aY L ∧ boxB wr n8 #[.int .i64 40, .slice aY L.length cY] 25 ∧ boxB wr (n8 + 1) #[.int .i64 500, .int .i64 x1, .int .i64 x2, .int .i64 x3, .int .i64 300, .int .i64 x5] 27)) (fun _ i _ => L.length - (intOf i).toNat)
  case atStart => exact ⟨0, Nat.zero_le _, rfl, H4⟩
  case round =>
    clear H4
    obtain ⟨j, hj, rfl, HR⟩ := hrel
    by_cases hlt : j < L.length
    · obtain ⟨y0, y1, y2, y3, y4, y5, HS⟩ : ∃ y0 y1 y2 y3 y4 y5, Hid (L[j] = (⟨y0, y1, y2, y3, y4, y5⟩ : ReqKit.Req)) := ⟨_, _, _, _, _, _, (rfl : L[j] = _)⟩
      obtain ⟨g, o, rfl, hrow⟩ := HR.out.2.1.resolve_left (fun e => by rw [e] at hlt; simp at hlt)
      have u9 := fun k hk => hrow.cell j hlt k hk
      rw [HS.out] at u9
      have r0 : wr.cell? ⟨g, o + j * 6, none⟩ = some (.int .i64 y0) := u9 0 (by omega)
      have r1 : wr.cell? ⟨g, o + j * 6 + 1, none⟩ = some (.int .i64 y1) := u9 1 (by omega)
      have r2 : wr.cell? ⟨g, o + j * 6 + 2, none⟩ = some (.int .i64 y2) := u9 2 (by omega)
      have r3 : wr.cell? ⟨g, o + j * 6 + 3, none⟩ = some (.int .i64 y3) := u9 3 (by omega)
      have r4 : wr.cell? ⟨g, o + j * 6 + 4, none⟩ = some (.int .i64 y4) := u9 4 (by omega)
      have r5 : wr.cell? ⟨g, o + j * 6 + 5, none⟩ = some (.int .i64 y5) := u9 5 (by omega)
      clear u9 hrow
      obtain ⟨g2, o2, rfl, hrow⟩ := HR.out.2.2.2.2.2.2.1.resolve_left (fun e => by rw [e] at hlt; simp at hlt)
      have u9 := fun k hk => hrow.cell j hlt k hk
      rw [HS.out] at u9
      have q0 : wr.cell? ⟨g2, o2 + j * 6, none⟩ = some (.int .i64 y0) := u9 0 (by omega)
      have q1 : wr.cell? ⟨g2, o2 + j * 6 + 1, none⟩ = some (.int .i64 y1) := u9 1 (by omega)
      have q2 : wr.cell? ⟨g2, o2 + j * 6 + 2, none⟩ = some (.int .i64 y2) := u9 2 (by omega)
      have q3 : wr.cell? ⟨g2, o2 + j * 6 + 3, none⟩ = some (.int .i64 y3) := u9 3 (by omega)
      have q4 : wr.cell? ⟨g2, o2 + j * 6 + 4, none⟩ = some (.int .i64 y4) := u9 4 (by omega)
      have q5 : wr.cell? ⟨g2, o2 + j * 6 + 5, none⟩ = some (.int .i64 y5) := u9 5 (by omega)
      clear u9 hrow
      have h0j : (0 : Int) ≤ (j : Int) := by omega
      have hjl : (j : Int) < (L.length : Int) := by omega
      have wj : IntKind.i64.wrap ((j : Int) + 1) = ((j + 1 : Nat) : Int) := by have := FT.out.len; rw [IntKind.wrap_i64]; omega
      have ne := neq_self y0 y1 y2 y3 y4 y5
      have c0 := HR.out.2.2.2.2.2.2.2.1.cell 0
      have c1 := HR.out.2.2.2.2.2.2.2.1.cell 1
      have f0 := HR.out.2.2.1.cell 0
      have f1 := HR.out.2.2.1.cell 1
      go_upto_region 13 with fail
      have Xr0 := Near.cell r0
      clear r0
      have Xr1 := Near.cell r1
      clear r1
      have Xr2 := Near.cell r2
      clear r2
      have Xr3 := Near.cell r3
      clear r3
      have Xr4 := Near.cell r4
      clear r4
      have Xr5 := Near.cell r5
      clear r5
      have Xq0 := Near.cell q0
      clear q0
      have Xq1 := Near.cell q1
      clear q1
      have Xq2 := Near.cell q2
      clear q2
      have Xq3 := Near.cell q3
      clear q3
      have Xq4 := Near.cell q4
      clear q4
      have Xq5 := Near.cell q5
      clear q5
      have Xc1 := Near.cell c1
      clear c1
      have Xf1 := Near.cell f1
      clear f1
      clear c0 f0
      have near := Near.is wr
      refine wp_region_near (by kernel_rfl) (by kernel_rfl) ?_
      repeat (go_big_quiet_step (fail))
      refine wpQuiet_nil ?_
      intro wx hwx
      obtain ⟨y, hy⟩ := hwx
      subst hy
      have H5 : Hid (Bel W y.w ∧ Own 27 6 ReqKit.cells y.w (some ⟨g, o, none⟩) L ∧ boxB y.w n3 #[.int .i64 40, .slice (some ⟨g, o, none⟩) L.length cL] 25 ∧ boxB y.w (n3 + 1) #[.int .i64 500, .int .i64 x1, .int .i64 x2, .int .i64 x3, .int .i64 300, .int .i64 x5] 27 ∧ Own 27 6 ReqKit.cells y.w aM (L ++ [⟨500, x1, x2, x3, 300, x5⟩]) ∧ boxB y.w n5 #[.int .i64 40, .slice aM (L.length + 1) cM] 25 ∧ Own 27 6 ReqKit.cells y.w (some ⟨g2, o2, none⟩) L ∧ boxB y.w n8 #[.int .i64 40, .slice (some ⟨g2, o2, none⟩) L.length cY] 25 ∧ boxB y.w (n8 + 1) #[.int .i64 500, .int .i64 x1, .int .i64 x2, .int .i64 x3, .int .i64 300, .int .i64 x5] 27) := ⟨HR.out.1.below y.near, HR.out.2.1.below y.near, HR.out.2.2.1.below y.near, HR.out.2.2.2.1.below y.near, HR.out.2.2.2.2.1.below y.near, HR.out.2.2.2.2.2.1.below y.near, HR.out.2.2.2.2.2.2.1.below y.near, HR.out.2.2.2.2.2.2.2.1.below y.near, HR.out.2.2.2.2.2.2.2.2.below y.near⟩
      go_wp2
      go_roundw
      case rel => exact ⟨j + 1, by omega, by go_num, H5⟩
      case measure => simp [intOf]; omega
    · have hjl : ¬ (j : Int) < (L.length : Int) := by omega
      go_upto_region 18 with fail
      clear hj hlt hjl
      have HU : Hid (∀ t, upTo (L ++ [⟨500, x1, x2, x3, 300, x5⟩]) t ≤ t * (L.length + 1)) := fun t => by have := upTo_le (L ++ [⟨500, x1, x2, x3, 300, x5⟩]) t; rw [FT.out.len2] at this; exact this
      have HL6 : Hid (L.length ≤ 6) := FT.out.len
      go_loopw [15, 16] (fun n i wr2 => ∃ t : Nat, t ≤ 4 ∧ i = .int .i64 (t : Int) ∧ n = .int .i64 (upTo (L ++ [⟨500, x1, x2, x3, 300, x5⟩]) t : Int) ∧ Hid (Bel W wr2 ∧ Own 27 6 ReqKit.cells wr2 aL L ∧ boxB wr2 n3 #[.int .i64 40, .slice aL L.length cL] 25 ∧ boxB wr2 (n3 + 1) #[.int .i64 500, .int .i64 x1, .int .i64 x2, .int .i64 x3, .int .i64 300, .int .i64 x5] 27 ∧ Own 27 6 ReqKit.cells wr2 aM (L ++ [⟨500, x1, x2, x3, 300, x5⟩]) ∧ boxB wr2 n5 #[.int .i64 40, .slice aM (L.length + 1) cM] 25 ∧ Own 27 6 ReqKit.cells wr2 aY L ∧ boxB wr2 n8 #[.int .i64 40, .slice aY L.length cY] 25 ∧ boxB wr2 (n8 + 1) #[.int .i64 500, .int .i64 x1, .int .i64 x2, .int .i64 x3, .int .i64 300, .int .i64 x5] 27)) (fun _ i _ => 4 - (intOf i).toNat)
      case atStart => exact ⟨0, by omega, rfl, rfl, HR⟩
      case round =>
        clear HR
        obtain ⟨t, ht, rfl, rfl, HR2⟩ := hrel
        by_cases hlt : t < 4
        · have h0t : (0 : Int) ≤ (t : Int) := by omega
          have htl : (t : Int) < 4 := by omega
          have wt : IntKind.i64.wrap ((t : Int) + 1) = ((t + 1 : Nat) : Int) := by rw [IntKind.wrap_i64]; omega
          obtain ⟨u, hu⟩ : ∃ u, upTo (L ++ [⟨500, x1, x2, x3, 300, x5⟩]) t = u := ⟨_, rfl⟩
          obtain ⟨v, hv⟩ : ∃ v, (tierOf (L ++ [⟨500, x1, x2, x3, 300, x5⟩]) (t : Int) true).length = v := ⟨_, rfl⟩
          have huv : Hid (upTo (L ++ [⟨500, x1, x2, x3, 300, x5⟩]) (t + 1) = u + v) := by show _ = _; rw [upTo_step, hu, hv]
          have w15 : IntKind.i64.wrap ((u : Int) + (v : Int)) = ((u + v : Nat) : Int) := by
            have h9 := HU.out (t + 1)
            rw [huv.out] at h9
            have h8 : (t + 1) * (L.length + 1) ≤ 4 * 7 := Nat.mul_le_mul (by omega) (by have := HL6.out; omega)
            rw [IntKind.wrap_i64]; omega
          have HT1 := fun (W : World) h => que_tier FT.out aM cM (t : Int) h0t htl W h hcM
          rw [hv] at HT1
          rw [hu]
          clear hv hu
          have c0 := HR2.out.2.2.2.2.2.1.cell 0
          have c1 := HR2.out.2.2.2.2.2.1.cell 1
          go_wp2_with fail
          refine (HT1 _ HR2.out.2.2.2.2.1).mono ?_
          rintro e w7 ⟨a2, c2, rfl, hc2, o2, b7⟩
          have H6 : Hid (Bel W w7 ∧ Own 27 6 ReqKit.cells w7 aL L ∧ boxB w7 n3 #[.int .i64 40, .slice aL L.length cL] 25 ∧ boxB w7 (n3 + 1) #[.int .i64 500, .int .i64 x1, .int .i64 x2, .int .i64 x3, .int .i64 300, .int .i64 x5] 27 ∧ Own 27 6 ReqKit.cells w7 aM (L ++ [⟨500, x1, x2, x3, 300, x5⟩]) ∧ boxB w7 n5 #[.int .i64 40, .slice aM (L.length + 1) cM] 25 ∧ Own 27 6 ReqKit.cells w7 aY L ∧ boxB w7 n8 #[.int .i64 40, .slice aY L.length cY] 25 ∧ boxB w7 (n8 + 1) #[.int .i64 500, .int .i64 x1, .int .i64 x2, .int .i64 x3, .int .i64 300, .int .i64 x5] 27) := ⟨HR2.out.1.below b7, HR2.out.2.1.below b7, HR2.out.2.2.1.below b7, HR2.out.2.2.2.1.below b7, HR2.out.2.2.2.2.1.below b7, HR2.out.2.2.2.2.2.1.below b7, HR2.out.2.2.2.2.2.2.1.below b7, HR2.out.2.2.2.2.2.2.2.1.below b7, HR2.out.2.2.2.2.2.2.2.2.below b7⟩
          clear c0 c1 b7 o2 HT1
          go_wp2
          go_roundw
          case rel => exact ⟨t + 1, by omega, by go_num, by rw [huv.out]; exact congrArg (Value.int .i64) (by omega), H6⟩
          case measure => simp [intOf]; omega
        · obtain rfl : t = 4 := by omega
          have e4 := fit_sum FT.out
          rw [e4]
          clear e4 ht hlt
          have c0 := HR2.out.2.2.2.2.2.1.cell 0
          have c1 := HR2.out.2.2.2.2.2.1.cell 1
          go_wp2_with fail
          refine (que_heads FT.out aM cM _ HR2.out.2.2.2.2.1 hcM).mono ?_
          rintro e w8 ⟨aH, cH, rfl, hcH, oH, b8⟩
          have H7 : Hid (Bel W w8 ∧ Own 27 6 ReqKit.cells w8 aL L ∧ boxB w8 n3 #[.int .i64 40, .slice aL L.length cL] 25 ∧ boxB w8 (n3 + 1) #[.int .i64 500, .int .i64 x1, .int .i64 x2, .int .i64 x3, .int .i64 300, .int .i64 x5] 27 ∧ Own 27 6 ReqKit.cells w8 aM (L ++ [⟨500, x1, x2, x3, 300, x5⟩]) ∧ boxB w8 n5 #[.int .i64 40, .slice aM (L.length + 1) cM] 25 ∧ Own 27 6 ReqKit.cells w8 aY L ∧ boxB w8 n8 #[.int .i64 40, .slice aY L.length cY] 25 ∧ boxB w8 (n8 + 1) #[.int .i64 500, .int .i64 x1, .int .i64 x2, .int .i64 x3, .int .i64 300, .int .i64 x5] 27 ∧ Own 27 6 ReqKit.cells w8 aH (headsTo (L ++ [⟨500, x1, x2, x3, 300, x5⟩]) true 4)) := ⟨HR2.out.1.below b8, HR2.out.2.1.below b8, HR2.out.2.2.1.below b8, HR2.out.2.2.2.1.below b8, HR2.out.2.2.2.2.1.below b8, HR2.out.2.2.2.2.2.1.below b8, HR2.out.2.2.2.2.2.2.1.below b8, HR2.out.2.2.2.2.2.2.2.1.below b8, HR2.out.2.2.2.2.2.2.2.2.below b8, oH⟩
          clear c0 c1 b8 oH HR2
          obtain ⟨Hs, hHs⟩ : ∃ Hs, (headsTo (L ++ [⟨500, x1, x2, x3, 300, x5⟩]) true 4) = Hs := ⟨_, rfl⟩
          rw [hHs] at H7 hcH ⊢
          have HHS : Hid ((headsTo (L ++ [⟨500, x1, x2, x3, 300, x5⟩]) true 4) = Hs) := hHs
          have HH4 : Hid (Hs.length ≤ 4) := by have := heads_len (L ++ [⟨500, x1, x2, x3, 300, x5⟩]) true 4; rw [hHs] at this; exact this
          clear hHs
          go_upto_region 22 with fail
          go_loopw [18, 19, 108] (fun _ _ i wr => ∃ j : Nat, j ≤ Hs.length ∧ i = .int .i64 (j : Int) ∧ Hid (Bel W wr ∧ Own 27 6 ReqKit.cells wr aL L ∧ boxB wr n3 #[.int .i64 40, .slice aL L.length cL] 25 ∧ boxB wr (n3 + 1) #[.int .i64 500, .int .i64 x1, .int .i64 x2, .int .i64 x3, .int .i64 300, .int .i64 x5] 27 ∧ Own 27 6 ReqKit.cells wr aM (L ++ [⟨500, x1, x2, x3, 300, x5⟩]) ∧ boxB wr n5 #[.int .i64 40, .slice aM (L.length + 1) cM] 25 ∧ Own 27 6 ReqKit.cells wr aY L ∧ boxB wr n8 #[.int .i64 40, .slice aY L.length cY] 25 ∧ boxB wr (n8 + 1) #[.int .i64 500, .int .i64 x1, .int .i64 x2, .int .i64 x3, .int .i64 300, .int .i64 x5] 27 ∧ Own 27 6 ReqKit.cells wr aH Hs)) (fun _ _ i _ => Hs.length - (intOf i).toNat)
          case atStart => exact ⟨0, Nat.zero_le _, rfl, H7⟩
          case round =>
            clear H7
            obtain ⟨j, hj, rfl, HR3⟩ := hrel
            by_cases hlt : j < Hs.length
            · have hmem : Hs[j] ∈ (headsTo (L ++ [⟨500, x1, x2, x3, 300, x5⟩]) true 4) := by rw [HHS.out]; exact List.getElem_mem hlt
              have HT4 := head_tier hmem
              obtain ⟨l, hl⟩ := head_first hmem
              clear hmem
              obtain ⟨y0, y1, y2, y3, y4, y5, HS⟩ : ∃ y0 y1 y2 y3 y4 y5, Hid (Hs[j] = (⟨y0, y1, y2, y3, y4, y5⟩ : ReqKit.Req)) := ⟨_, _, _, _, _, _, (rfl : Hs[j] = _)⟩
              rw [HS.out] at HT4 hl
              obtain ⟨g, o, rfl, hrow⟩ := HR3.out.2.2.2.2.2.2.2.2.2.resolve_left (fun e => by rw [e] at hlt; simp at hlt)
              have u9 := fun k hk => hrow.cell j hlt k hk
              rw [HS.out] at u9
              have r0 : wr.cell? ⟨g, o + j * 6, none⟩ = some (.int .i64 y0) := u9 0 (by omega)
              have r1 : wr.cell? ⟨g, o + j * 6 + 1, none⟩ = some (.int .i64 y1) := u9 1 (by omega)
              have r2 : wr.cell? ⟨g, o + j * 6 + 2, none⟩ = some (.int .i64 y2) := u9 2 (by omega)
              have r3 : wr.cell? ⟨g, o + j * 6 + 3, none⟩ = some (.int .i64 y3) := u9 3 (by omega)
              have r4 : wr.cell? ⟨g, o + j * 6 + 4, none⟩ = some (.int .i64 y4) := u9 4 (by omega)
              have r5 : wr.cell? ⟨g, o + j * 6 + 5, none⟩ = some (.int .i64 y5) := u9 5 (by omega)
              clear u9 hrow
              have h0j : (0 : Int) ≤ (j : Int) := by omega
              have hjl : (j : Int) < (Hs.length : Int) := by omega
              have wj : IntKind.i64.wrap ((j : Int) + 1) = ((j + 1 : Nat) : Int) := by have := HH4.out; rw [IntKind.wrap_i64]; omega
              have ne := neq_self y0 y1 y2 y3 y4 y5
              have HT1 := fun (W : World) h => que_tier FT.out aM cM y1 HT4.1 HT4.2 W h hcM
              have hl2 : tierOf (L ++ [⟨500, x1, x2, x3, 300, x5⟩]) y1 true = (⟨y0, y1, y2, y3, y4, y5⟩ : ReqKit.Req) :: l := hl
              rw [hl2] at HT1
              clear HT4 hl hl2
              go_upto_region 24 with fail
              have H8 : Hid (Bel W (wr.alloc (.cells #[.int .i64 y0, .int .i64 y1, .int .i64 y2, .int .i64 y3, .int .i64 y4, .int .i64 y5] 27)) ∧ Own 27 6 ReqKit.cells (wr.alloc (.cells #[.int .i64 y0, .int .i64 y1, .int .i64 y2, .int .i64 y3, .int .i64 y4, .int .i64 y5] 27)) aL L ∧ boxB (wr.alloc (.cells #[.int .i64 y0, .int .i64 y1, .int .i64 y2, .int .i64 y3, .int .i64 y4, .int .i64 y5] 27)) n3 #[.int .i64 40, .slice aL L.length cL] 25 ∧ boxB (wr.alloc (.cells #[.int .i64 y0, .int .i64 y1, .int .i64 y2, .int .i64 y3, .int .i64 y4, .int .i64 y5] 27)) (n3 + 1) #[.int .i64 500, .int .i64 x1, .int .i64 x2, .int .i64 x3, .int .i64 300, .int .i64 x5] 27 ∧ Own 27 6 ReqKit.cells (wr.alloc (.cells #[.int .i64 y0, .int .i64 y1, .int .i64 y2, .int .i64 y3, .int .i64 y4, .int .i64 y5] 27)) aM (L ++ [⟨500, x1, x2, x3, 300, x5⟩]) ∧ boxB (wr.alloc (.cells #[.int .i64 y0, .int .i64 y1, .int .i64 y2, .int .i64 y3, .int .i64 y4, .int .i64 y5] 27)) n5 #[.int .i64 40, .slice aM (L.length + 1) cM] 25 ∧ Own 27 6 ReqKit.cells (wr.alloc (.cells #[.int .i64 y0, .int .i64 y1, .int .i64 y2, .int .i64 y3, .int .i64 y4, .int .i64 y5] 27)) aY L ∧ boxB (wr.alloc (.cells #[.int .i64 y0, .int .i64 y1, .int .i64 y2, .int .i64 y3, .int .i64 y4, .int .i64 y5] 27)) n8 #[.int .i64 40, .slice aY L.length cY] 25 ∧ boxB (wr.alloc (.cells #[.int .i64 y0, .int .i64 y1, .int .i64 y2, .int .i64 y3, .int .i64 y4, .int .i64 y5] 27)) (n8 + 1) #[.int .i64 500, .int .i64 x1, .int .i64 x2, .int .i64 x3, .int .i64 300, .int .i64 x5] 27 ∧ Own 27 6 ReqKit.cells (wr.alloc (.cells #[.int .i64 y0, .int .i64 y1, .int .i64 y2, .int .i64 y3, .int .i64 y4, .int .i64 y5] 27)) (some ⟨g, o, none⟩) Hs ∧ boxB (wr.alloc (.cells #[.int .i64 y0, .int .i64 y1, .int .i64 y2, .int .i64 y3, .int .i64 y4, .int .i64 y5] 27)) wr.heap.size #[.int .i64 y0, .int .i64 y1, .int .i64 y2, .int .i64 y3, .int .i64 y4, .int .i64 y5] 27) := ⟨HR3.out.1.below (n1 wr _), HR3.out.2.1.below (n1 wr _), HR3.out.2.2.1.below (n1 wr _), HR3.out.2.2.2.1.below (n1 wr _), HR3.out.2.2.2.2.1.below (n1 wr _), HR3.out.2.2.2.2.2.1.below (n1 wr _), HR3.out.2.2.2.2.2.2.1.below (n1 wr _), HR3.out.2.2.2.2.2.2.2.1.below (n1 wr _), HR3.out.2.2.2.2.2.2.2.2.1.below (n1 wr _), HR3.out.2.2.2.2.2.2.2.2.2.below (n1 wr _), boxB.new _ _ _⟩
              clear r0 r1 r2 r3 r4 r5 HR3
              obtain ⟨n18, hn18⟩ : ∃ n18, wr.heap.size = n18 := ⟨_, rfl⟩
              generalize (wr.alloc (.cells #[.int .i64 y0, .int .i64 y1, .int .i64 y2, .int .i64 y3, .int .i64 y4, .int .i64 y5] 27)) = w10 at *
              rw [hn18] at H8 ⊢
              clear hn18
              have c0 := H8.out.2.2.2.2.2.1.cell 0
              have c1 := H8.out.2.2.2.2.2.1.cell 1
              have d0 := H8.out.2.2.2.2.2.2.2.2.2.2.cell 0
              have d1 := H8.out.2.2.2.2.2.2.2.2.2.2.cell 1
              have d2 := H8.out.2.2.2.2.2.2.2.2.2.2.cell 2
              have d3 := H8.out.2.2.2.2.2.2.2.2.2.2.cell 3
              have d4 := H8.out.2.2.2.2.2.2.2.2.2.2.cell 4
              have d5 := H8.out.2.2.2.2.2.2.2.2.2.2.cell 5
              go_wp2_with fail
              refine (HT1 _ H8.out.2.2.2.2.1).mono ?_
              rintro e w11 ⟨a2, c2, rfl, hc2, o2, b11⟩
              have H9 : Hid (Bel W w11 ∧ Own 27 6 ReqKit.cells w11 aL L ∧ boxB w11 n3 #[.int .i64 40, .slice aL L.length cL] 25 ∧ boxB w11 (n3 + 1) #[.int .i64 500, .int .i64 x1, .int .i64 x2, .int .i64 x3, .int .i64 300, .int .i64 x5] 27 ∧ Own 27 6 ReqKit.cells w11 aM (L ++ [⟨500, x1, x2, x3, 300, x5⟩]) ∧ boxB w11 n5 #[.int .i64 40, .slice aM (L.length + 1) cM] 25 ∧ Own 27 6 ReqKit.cells w11 aY L ∧ boxB w11 n8 #[.int .i64 40, .slice aY L.length cY] 25 ∧ boxB w11 (n8 + 1) #[.int .i64 500, .int .i64 x1, .int .i64 x2, .int .i64 x3, .int .i64 300, .int .i64 x5] 27 ∧ Own 27 6 ReqKit.cells w11 (some ⟨g, o, none⟩) Hs ∧ boxB w11 n18 #[.int .i64 y0, .int .i64 y1, .int .i64 y2, .int .i64 y3, .int .i64 y4, .int .i64 y5] 27) := ⟨H8.out.1.below b11, H8.out.2.1.below b11, H8.out.2.2.1.below b11, H8.out.2.2.2.1.below b11, H8.out.2.2.2.2.1.below b11, H8.out.2.2.2.2.2.1.below b11, H8.out.2.2.2.2.2.2.1.below b11, H8.out.2.2.2.2.2.2.2.1.below b11, H8.out.2.2.2.2.2.2.2.2.1.below b11, H8.out.2.2.2.2.2.2.2.2.2.1.below b11, H8.out.2.2.2.2.2.2.2.2.2.2.below b11⟩
              obtain ⟨g3, o3, rfl, hrow⟩ := o2.resolve_left (by simp)
              have u9 := fun k hk => hrow.cell 0 (by simp) k hk
              have q0 : w11.cell? ⟨g3, o3, none⟩ = some (.int .i64 y0) := by have := u9 0 (by omega); simpa [ReqKit.cells] using this
              have q1 : w11.cell? ⟨g3, o3 + 1, none⟩ = some (.int .i64 y1) := by have := u9 1 (by omega); simpa [ReqKit.cells] using this
              have q2 : w11.cell? ⟨g3, o3 + 2, none⟩ = some (.int .i64 y2) := by have := u9 2 (by omega); simpa [ReqKit.cells] using this
              have q3 : w11.cell? ⟨g3, o3 + 3, none⟩ = some (.int .i64 y3) := by have := u9 3 (by omega); simpa [ReqKit.cells] using this
              have q4 : w11.cell? ⟨g3, o3 + 4, none⟩ = some (.int .i64 y4) := by have := u9 4 (by omega); simpa [ReqKit.cells] using this
              have q5 : w11.cell? ⟨g3, o3 + 5, none⟩ = some (.int .i64 y5) := by have := u9 5 (by omega); simpa [ReqKit.cells] using this
              obtain ⟨v, hv⟩ : ∃ v, ((⟨y0, y1, y2, y3, y4, y5⟩ : ReqKit.Req) :: l).length = v := ⟨_, rfl⟩
              have hv0 : (0 : Int) < (v : Int) := by rw [← hv]; simp
              have hv1 : ((v : Int) == 0) = false := by simp; omega
              rw [hv]
              clear c0 c1 d0 d1 d2 d3 d4 d5 b11 o2 H8 HT1 hv hc2 u9 hrow
              have d0 := H9.out.2.2.2.2.2.2.2.2.2.2.cell 0
              have d1 := H9.out.2.2.2.2.2.2.2.2.2.2.cell 1
              have d2 := H9.out.2.2.2.2.2.2.2.2.2.2.cell 2
              have d3 := H9.out.2.2.2.2.2.2.2.2.2.2.cell 3
              have d4 := H9.out.2.2.2.2.2.2.2.2.2.2.cell 4
              have d5 := H9.out.2.2.2.2.2.2.2.2.2.2.cell 5
              go_upto_region 25 with fail
              have Xq0 := Near.cell q0
              clear q0
              have Xq1 := Near.cell q1
              clear q1
              have Xq2 := Near.cell q2
              clear q2
              have Xq3 := Near.cell q3
              clear q3
              have Xq4 := Near.cell q4
              clear q4
              have Xq5 := Near.cell q5
              clear q5
              have Xd0 := Near.cell d0
              clear d0
              have Xd1 := Near.cell d1
              clear d1
              have Xd2 := Near.cell d2
              clear d2
              have Xd3 := Near.cell d3
              clear d3
              have Xd4 := Near.cell d4
              clear d4
              have Xd5 := Near.cell d5
              clear d5
              have near := Near.is w11
              refine wp_region_near (by kernel_rfl) (by kernel_rfl) ?_
              repeat (go_big_quiet_step (fail))
              refine wpQuiet_nil ?_
              intro wx hwx
              obtain ⟨y, hy⟩ := hwx
              subst hy
              have H10 : Hid (Bel W y.w ∧ Own 27 6 ReqKit.cells y.w aL L ∧ boxB y.w n3 #[.int .i64 40, .slice aL L.length cL] 25 ∧ boxB y.w (n3 + 1) #[.int .i64 500, .int .i64 x1, .int .i64 x2, .int .i64 x3, .int .i64 300, .int .i64 x5] 27 ∧ Own 27 6 ReqKit.cells y.w aM (L ++ [⟨500, x1, x2, x3, 300, x5⟩]) ∧ boxB y.w n5 #[.int .i64 40, .slice aM (L.length + 1) cM] 25 ∧ Own 27 6 ReqKit.cells y.w aY L ∧ boxB y.w n8 #[.int .i64 40, .slice aY L.length cY] 25 ∧ boxB y.w (n8 + 1) #[.int .i64 500, .int .i64 x1, .int .i64 x2, .int .i64 x3, .int .i64 300, .int .i64 x5] 27 ∧ Own 27 6 ReqKit.cells y.w (some ⟨g, o, none⟩) Hs) := ⟨H9.out.1.below y.near, H9.out.2.1.below y.near, H9.out.2.2.1.below y.near, H9.out.2.2.2.1.below y.near, H9.out.2.2.2.2.1.below y.near, H9.out.2.2.2.2.2.1.below y.near, H9.out.2.2.2.2.2.2.1.below y.near, H9.out.2.2.2.2.2.2.2.1.below y.near, H9.out.2.2.2.2.2.2.2.2.1.below y.near, H9.out.2.2.2.2.2.2.2.2.2.1.below y.near⟩
              go_wp2
              go_roundw
              case rel => exact ⟨j + 1, by omega, by go_num, H10⟩
              case measure => simp [intOf]; omega
            · have hjl : ¬ (j : Int) < (Hs.length : Int) := by omega
              obtain ⟨f0, f1, f2, f3, f4, f5, l, hf⟩ := fit_some FT.out
              have HF := fun (W : World) h => que_first FT.out aM cM W h hcM f0 f1 f2 f3 f4 f5 (by rw [hf]; rfl)
              have HHD := fun (W : World) h => que_heads FT.out aM cM W h hcM
              rw [hf] at HHD
              obtain ⟨v, hv⟩ : ∃ v, ((⟨f0, f1, f2, f3, f4, f5⟩ : ReqKit.Req) :: l).length = v := ⟨_, rfl⟩
              have hv0 : (0 : Int) < (v : Int) := by rw [← hv]; simp
              rw [hv] at HHD
              have eqs := eq_self f0 f1 f2 f3 f4 f5
              have HV : Hid (((⟨f0, f1, f2, f3, f4, f5⟩ : ReqKit.Req) :: l).length = v) := hv
              clear hf hv hj hlt
              have c0 := HR3.out.2.2.2.2.2.1.cell 0
              have c1 := HR3.out.2.2.2.2.2.1.cell 1
              go_upto_region 28 with fail
              go_wp2_with fail
              refine (HF _ HR3.out.2.2.2.2.1).mono ?_
              rintro e w12 ⟨rfl, b12⟩
              have H11 : Hid (Bel W (w12.alloc (.cells #[.int .i64 f0, .int .i64 f1, .int .i64 f2, .int .i64 f3, .int .i64 f4, .int .i64 f5] 27)) ∧ Own 27 6 ReqKit.cells (w12.alloc (.cells #[.int .i64 f0, .int .i64 f1, .int .i64 f2, .int .i64 f3, .int .i64 f4, .int .i64 f5] 27)) aL L ∧ boxB (w12.alloc (.cells #[.int .i64 f0, .int .i64 f1, .int .i64 f2, .int .i64 f3, .int .i64 f4, .int .i64 f5] 27)) n3 #[.int .i64 40, .slice aL L.length cL] 25 ∧ boxB (w12.alloc (.cells #[.int .i64 f0, .int .i64 f1, .int .i64 f2, .int .i64 f3, .int .i64 f4, .int .i64 f5] 27)) (n3 + 1) #[.int .i64 500, .int .i64 x1, .int .i64 x2, .int .i64 x3, .int .i64 300, .int .i64 x5] 27 ∧ Own 27 6 ReqKit.cells (w12.alloc (.cells #[.int .i64 f0, .int .i64 f1, .int .i64 f2, .int .i64 f3, .int .i64 f4, .int .i64 f5] 27)) aM (L ++ [⟨500, x1, x2, x3, 300, x5⟩]) ∧ boxB (w12.alloc (.cells #[.int .i64 f0, .int .i64 f1, .int .i64 f2, .int .i64 f3, .int .i64 f4, .int .i64 f5] 27)) n5 #[.int .i64 40, .slice aM (L.length + 1) cM] 25 ∧ Own 27 6 ReqKit.cells (w12.alloc (.cells #[.int .i64 f0, .int .i64 f1, .int .i64 f2, .int .i64 f3, .int .i64 f4, .int .i64 f5] 27)) aY L ∧ boxB (w12.alloc (.cells #[.int .i64 f0, .int .i64 f1, .int .i64 f2, .int .i64 f3, .int .i64 f4, .int .i64 f5] 27)) n8 #[.int .i64 40, .slice aY L.length cY] 25 ∧ boxB (w12.alloc (.cells #[.int .i64 f0, .int .i64 f1, .int .i64 f2, .int .i64 f3, .int .i64 f4, .int .i64 f5] 27)) (n8 + 1) #[.int .i64 500, .int .i64 x1, .int .i64 x2, .int .i64 x3, .int .i64 300, .int .i64 x5] 27 ∧ Own 27 6 ReqKit.cells (w12.alloc (.cells #[.int .i64 f0, .int .i64 f1, .int .i64 f2, .int .i64 f3, .int .i64 f4, .int .i64 f5] 27)) aH Hs ∧ boxB (w12.alloc (.cells #[.int .i64 f0, .int .i64 f1, .int .i64 f2, .int .i64 f3, .int .i64 f4, .int .i64 f5] 27)) w12.heap.size #[.int .i64 f0, .int .i64 f1, .int .i64 f2, .int .i64 f3, .int .i64 f4, .int .i64 f5] 27) := ⟨HR3.out.1.below (b12.trans ((n1 w12 _).mono b12.size)), HR3.out.2.1.below (b12.trans ((n1 w12 _).mono b12.size)), HR3.out.2.2.1.below (b12.trans ((n1 w12 _).mono b12.size)), HR3.out.2.2.2.1.below (b12.trans ((n1 w12 _).mono b12.size)), HR3.out.2.2.2.2.1.below (b12.trans ((n1 w12 _).mono b12.size)), HR3.out.2.2.2.2.2.1.below (b12.trans ((n1 w12 _).mono b12.size)), HR3.out.2.2.2.2.2.2.1.below (b12.trans ((n1 w12 _).mono b12.size)), HR3.out.2.2.2.2.2.2.2.1.below (b12.trans ((n1 w12 _).mono b12.size)), HR3.out.2.2.2.2.2.2.2.2.1.below (b12.trans ((n1 w12 _).mono b12.size)), HR3.out.2.2.2.2.2.2.2.2.2.below (b12.trans ((n1 w12 _).mono b12.size)), boxB.new _ _ _⟩
              clear c0 c1 b12 HR3 HF
              go_upto_region 29 with fail
              obtain ⟨n20, hn20⟩ : ∃ n20, w12.heap.size = n20 := ⟨_, rfl⟩
              generalize (w12.alloc (.cells #[.int .i64 f0, .int .i64 f1, .int .i64 f2, .int .i64 f3, .int .i64 f4, .int .i64 f5] 27)) = w13 at *
              rw [hn20] at H11 ⊢
              clear hn20 hjl
              have c0 := H11.out.2.2.2.2.2.1.cell 0
              have c1 := H11.out.2.2.2.2.2.1.cell 1
              have d0 := H11.out.2.2.2.2.2.2.2.2.2.2.cell 0
              have d1 := H11.out.2.2.2.2.2.2.2.2.2.2.cell 1
              have d2 := H11.out.2.2.2.2.2.2.2.2.2.2.cell 2
              have d3 := H11.out.2.2.2.2.2.2.2.2.2.2.cell 3
              have d4 := H11.out.2.2.2.2.2.2.2.2.2.2.cell 4
              have d5 := H11.out.2.2.2.2.2.2.2.2.2.2.cell 5
              have HB : Hid (Own 27 6 ReqKit.cells w13.drew aM (L ++ [⟨500, x1, x2, x3, 300, x5⟩]) ∧ Bel W w13.drew ∧ boxB w13.drew n20 #[.int .i64 f0, .int .i64 f1, .int .i64 f2, .int .i64 f3, .int .i64 f4, .int .i64 f5] 27 ∧ boxB w13.drew n5 #[.int .i64 40, .slice aM (L.length + 1) cM] 25) := ⟨Own.below H11.out.2.2.2.2.1 (Below.drew (Below.refl _ _)), Bel.below H11.out.1 (Below.drew (Below.refl _ _)), boxB.below H11.out.2.2.2.2.2.2.2.2.2.2 (Below.drew (Below.refl _ _)), boxB.below H11.out.2.2.2.2.2.1 (Below.drew (Below.refl _ _))⟩
              clear c0 c1 d0 d1 d2 d3 d4 d5
              have c0 := HB.out.2.2.2.cell 0
              have c1 := HB.out.2.2.2.cell 1
              have d0 := HB.out.2.2.1.cell 0
              have d1 := HB.out.2.2.1.cell 1
              have d2 := HB.out.2.2.1.cell 2
              have d3 := HB.out.2.2.1.cell 3
              have d4 := HB.out.2.2.1.cell 4
              have d5 := HB.out.2.2.1.cell 5
              have hl1 : ((((L.length + 1 : Nat) : Int)) == (((L.length + 1 : Nat) : Int))) = true := by simp
              go_region_with ((go_at_call 8; refine (HHD _ HB.out.1).mono ?_; rintro e w14 ⟨a2, c2, rfl, hc2, o2, b14⟩; have HE : Hid (Bel W w14) := HB.out.2.1.below b14; have h0 := (HB.out.2.2.1.below b14).cell 0; have h1 := (HB.out.2.2.1.below b14).cell 1; have h2 := (HB.out.2.2.1.below b14).cell 2; have h3 := (HB.out.2.2.1.below b14).cell 3; have h4 := (HB.out.2.2.1.below b14).cell 4; have h5 := (HB.out.2.2.1.below b14).cell 5; obtain ⟨g3, o3, rfl, hrow⟩ := o2.resolve_left (by simp); have u9 := fun k hk => hrow.cell 0 (by simp) k hk; have q0 : w14.cell? ⟨g3, o3, none⟩ = some (.int .i64 f0) := (by have := u9 0 (by omega); simpa [ReqKit.cells] using this); have q1 : w14.cell? ⟨g3, o3 + 1, none⟩ = some (.int .i64 f1) := (by have := u9 1 (by omega); simpa [ReqKit.cells] using this); have q2 : w14.cell? ⟨g3, o3 + 2, none⟩ = some (.int .i64 f2) := (by have := u9 2 (by omega); simpa [ReqKit.cells] using this); have q3 : w14.cell? ⟨g3, o3 + 3, none⟩ = some (.int .i64 f3) := (by have := u9 3 (by omega); simpa [ReqKit.cells] using this); have q4 : w14.cell? ⟨g3, o3 + 4, none⟩ = some (.int .i64 f4) := (by have := u9 4 (by omega); simpa [ReqKit.cells] using this); have q5 : w14.cell? ⟨g3, o3 + 5, none⟩ = some (.int .i64 f5) := (by have := u9 5 (by omega); simpa [ReqKit.cells] using this); clear u9 hrow b14 hc2))
              all_goals (go_wp2; go_ret; exact ⟨rfl, HE.out⟩)

theorem walk (W : World) (a : Option Addr) (len cap : Nat) (zs : List Int) (h : IsRow .u8 W a len cap zs) :
    Calls Try.prog 3 #[.slice a len cap] W fun e w' => e = .returned (.bool true) ∧ Below W.heap.size W w' := by
  have hm := row_len h
  by_cases hl : (len : Int) ≤ 1048576
  · exact walk_in a len cap W hl (code_of h)
  · clear h
    have hl2 : (1048576 : Int) < (len : Int) := by omega
    go_enter Try.func3, Try.ntmps3
    go_wp2
    go_ret
    exact ⟨rfl, Below.refl _ _⟩

theorem own : ownKnob Try.prog.godebug = none := by kernel_rfl
theorem laidOut : laidOutB Try.prog = true := by kernel_rfl

set_option maxRecDepth 100000 in
theorem lifted (os : Os) (started : os.Started) (H : Type) (enc : TypeId × Value → H) :
    ReturnsInHanded {} Try.checked os 3 .any (Rows.fnQueueSpec.pre6 enc Try.prog Try.f3 Rows.fnQueueRow.domain false) (Rows.fnQueueSpec.post enc Try.prog Try.f3 false true false false) := by
  refine returnsInHanded_of_change (C := Try.checked) own started (by kernel_rfl) Try.func3
    (ChangeSpec.witness6 (enc := enc) (C := Try.checked) false ⟨#[], #[.slice none 0 0], []⟩ 8 (by kernel_rfl) (by kernel_rfl) (by kernel_rfl) (by kernel_rfl)) ?_
  intro W base args ds gs before hval0 hW hcnd _
  have hval : ∀ (j : Nat) t v, Try.f3.params[j]? = some t → args[j]? = some v → Value.okWide Try.prog W .any base t v := hval0
  have hW' := hW
  obtain ⟨p, q, hA0, hV, rfl, hfz, hnd⟩ := hW
  have hA : DataW.TrodAll enc Try.prog W 0 (fun _ => true) true Try.f3.params.toList args.toList ds p := hA0
  rw [Try.params3] at hA hval
  obtain ⟨v0, vs0, d0, ds0, p0, q0, hargs, rfl, rfl, h0, r0⟩ := trodAll_cons hA
  obtain ⟨rfl, rfl, rfl⟩ := trodAll_nil r0
  obtain rfl : args = #[v0] := by cases args; simp_all
  obtain ⟨rfl, rfl⟩ := trodVars_none hV
  obtain ⟨a0, len0, cap0, rfl⟩ := okWide_slice Try.underlying22 (hval 0 22 v0 rfl rfl)
  have k0 := h0
  have lt0 : ∀ x ∈ p0, x.block < W.heap.size := by obtain ⟨m, hm⟩ := k0; exact DataW.trod_lt m _ _ _ hm
  obtain ⟨z0, w0⟩ : ∃ zs, IsRow .u8 W a0 len0 cap0 zs := by
    obtain ⟨fuel, hf⟩ := h0
    rcases open_ints Try.underlying22 Try.underlying5 (by kernel_rfl) hf with ⟨hcs, _⟩ | ⟨x, l, c, zs, hcs, _, hl, hm, hz, _, hcell, hwz⟩
    · simp [Value.cells] at hcs
      obtain ⟨rfl, rfl, rfl⟩ := hcs
      exact ⟨[], .inl ⟨rfl, rfl, rfl, rfl⟩⟩
    · simp [Value.cells] at hcs
      obtain ⟨rfl, rfl, rfl⟩ := hcs
      exact ⟨zs, .inr ⟨_, rfl, hl, hm, by simpa using hz, hcell, hwz⟩⟩
  clear hA0 hval0
  refine (walk W a0 len0 cap0 z0 w0).mono fun e W' ⟨he, hb⟩ => ?_
  subst he
  exact ⟨_, rfl, _, _, _, [], _, [], hW', trodAll_cons_mk (shut_bool Try.underlying4 _) trodAll_mk0, (trodAll_cons_mk (Below.trod laidOut (by kernel_rfl) (of_decide_eq_true (by kernel_rfl)) k0 hb lt0) trodAll_mk0), rfl, hb.frame _, fun h => by cases h⟩

theorem over : Rows.fnQueueRow.holds Try.pinned (OpenSpec.ofChange Rows.fnQueueSpec) :=
  OpenClaim.holds_of_wide 3 Try.f3 rfl rfl rfl rfl rfl rfl rfl ⟨rfl, rfl, rfl, rfl, rfl⟩ rfl rfl rfl rfl rfl (by kernel_rfl) Try.func3 (by kernel_rfl)
    (of_decide_eq_true (by kernel_rfl)) (by unfold Func.isWrapper; first | (rw [if_pos (by decide +kernel)]; kernel_rfl) | (rw [if_neg (by decide +kernel)]; exact ⟨rfl, rfl⟩))
    (fun os started H enc _ => lifted os started H enc)

theorem proved : Rows.FnQueueSaid :=
  over

end Go.Proofs.Ytnejomfaojpicaa.fnQueue
