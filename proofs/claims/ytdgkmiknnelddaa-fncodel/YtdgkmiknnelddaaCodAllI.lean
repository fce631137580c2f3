/- What the program's SeeAll answers, at all arguments; nothing that was there turns. -/
import Derived.Test.YtdgkmiknnelddaaRows
import Derived.WalkKit
import Derived.WalkSmall
import Derived.BigQuiet
import Derived.Deep.RegionWith
import Derived.Deep.DeepCutAuto
import Derived.Test.YtdgkmiknnelddaaListKit
import Derived.Test.YtdgkmiknnelddaaHoldKit
import Derived.Test.YtdgkmiknnelddaaIntKit
import Derived.Test.YtdgkmiknnelddaaCodKit
import Derived.Test.YtdgkmiknnelddaaCodMath
import Derived.Test.YtdgkmiknnelddaaCodAllS
import Derived.Test.YtdgkmiknnelddaaCodOkI
import Derived.Test.YtdgkmiknnelddaaCodOnly
import Derived.Test.YtdgkmiknnelddaaCodLookI
import Derived.Test.YtdgkmiknnelddaaCodWaitI
namespace Go.Proofs.Ytdgkmiknnelddaa.CodAllI
open Go.RowKit ListKit HoldKit CodKit CodMath CodOkI CodOnly CodLookI CodWaitI
open CodAllS (WaitsOk AllOk)
set_option maxRecDepth 8000
set_option linter.unusedVariables false
set_option linter.unusedSimpArgs false

set_option maxHeartbeats 4000000 in
theorem all_bad (x0 x1 x2 : Int) (x3 : Bool) (x4 x5 now : Int) (a : Option Addr) (cap : Nat) (ws : List Int) (w : World) (ho : Own 3 1 IntKit.cells w a ws) (hm : ws.length ≤ 1048576) (hok : codOk ⟨x0, x1, x2, x3, x4, x5⟩ = false) :
    Calls Try.prog 9 #[.agg #[.int .i64 x0, .int .i64 x1, .int .i64 x2, .bool x3, .int .i64 x4, .int .i64 x5], .int .i64 now, .slice a ws.length cap] w fun e w' => e = .returned (.tuple #[.agg #[.int .i64 0, .int .i64 0, .int .i64 0, .bool false, .int .i64 0, .int .i64 0], .int .i64 0]) ∧ Below w.heap.size w w' := by
  have hC := fun (W : World) => impl_codelok x0 x1 x2 x3 x4 x5 W
  rw [hok] at hC

  clear hok
  have H0 : Hid ((Bel w ((w.alloc (.cells #[.int .i64 x0, .int .i64 x1, .int .i64 x2, .bool x3, .int .i64 x4, .int .i64 x5] 24)).alloc (.cells #[.int .i64 0, .int .i64 0, .int .i64 0, .bool false, .int .i64 0, .int .i64 0] 24)) ∧ boxB ((w.alloc (.cells #[.int .i64 x0, .int .i64 x1, .int .i64 x2, .bool x3, .int .i64 x4, .int .i64 x5] 24)).alloc (.cells #[.int .i64 0, .int .i64 0, .int .i64 0, .bool false, .int .i64 0, .int .i64 0] 24)) w.heap.size #[.int .i64 x0, .int .i64 x1, .int .i64 x2, .bool x3, .int .i64 x4, .int .i64 x5] 24 ∧ boxB ((w.alloc (.cells #[.int .i64 x0, .int .i64 x1, .int .i64 x2, .bool x3, .int .i64 x4, .int .i64 x5] 24)).alloc (.cells #[.int .i64 0, .int .i64 0, .int .i64 0, .bool false, .int .i64 0, .int .i64 0] 24)) (w.heap.size + 1) #[.int .i64 0, .int .i64 0, .int .i64 0, .bool false, .int .i64 0, .int .i64 0] 24 ∧ Own 3 1 IntKit.cells ((w.alloc (.cells #[.int .i64 x0, .int .i64 x1, .int .i64 x2, .bool x3, .int .i64 x4, .int .i64 x5] 24)).alloc (.cells #[.int .i64 0, .int .i64 0, .int .i64 0, .bool false, .int .i64 0, .int .i64 0] 24)) a ws) ∧ ∀ b, blkL a ws = some b → b < w.heap.size) := ⟨⟨n2 w _ _, (boxB.new w #[.int .i64 x0, .int .i64 x1, .int .i64 x2, .bool x3, .int .i64 x4, .int .i64 x5] 24).below (n1 _ _), new2 w _ _ _, ho.below (n2 w _ _)⟩, ho.lt⟩
  clear ho
  go_enter Try.func9, Try.ntmps9
  go_upto_region 2 with fail
  generalize ((w.alloc (.cells #[.int .i64 x0, .int .i64 x1, .int .i64 x2, .bool x3, .int .i64 x4, .int .i64 x5] 24)).alloc (.cells #[.int .i64 0, .int .i64 0, .int .i64 0, .bool false, .int .i64 0, .int .i64 0] 24)) = v at *
  have ca0 := H0.out.1.2.2.1.cell 0
  have cz0 := fzB H0.out.1.2.2.1 0
  have da0 := H0.out.1.2.1.cell 0
  have df0 := fzB H0.out.1.2.1 0
  have ca1 := H0.out.1.2.2.1.cell 1
  have cz1 := fzB H0.out.1.2.2.1 1
  have da1 := H0.out.1.2.1.cell 1
  have df1 := fzB H0.out.1.2.1 1
  have ca2 := H0.out.1.2.2.1.cell 2
  have cz2 := fzB H0.out.1.2.2.1 2
  have da2 := H0.out.1.2.1.cell 2
  have df2 := fzB H0.out.1.2.1 2
  have ca3 := H0.out.1.2.2.1.cell 3
  have cz3 := fzB H0.out.1.2.2.1 3
  have da3 := H0.out.1.2.1.cell 3
  have df3 := fzB H0.out.1.2.1 3
  have ca4 := H0.out.1.2.2.1.cell 4
  have cz4 := fzB H0.out.1.2.2.1 4
  have da4 := H0.out.1.2.1.cell 4
  have df4 := fzB H0.out.1.2.1 4
  have ca5 := H0.out.1.2.2.1.cell 5
  have cz5 := fzB H0.out.1.2.2.1 5
  have da5 := H0.out.1.2.1.cell 5
  have df5 := fzB H0.out.1.2.1 5
  go_wp2_with (first | (go_at_call 7; refine (hC _).mono ?_; rintro e' w1 ⟨rfl, hb⟩; have H1 : Hid (Bel w w1 ∧ boxB w1 w.heap.size #[.int .i64 x0, .int .i64 x1, .int .i64 x2, .bool x3, .int .i64 x4, .int .i64 x5] 24 ∧ boxB w1 (w.heap.size + 1) #[.int .i64 0, .int .i64 0, .int .i64 0, .bool false, .int .i64 0, .int .i64 0] 24 ∧ Own 3 1 IntKit.cells w1 a ws) := ⟨Bel.below H0.out.1.1 hb, H0.out.1.2.1.below hb, H0.out.1.2.2.1.below hb, H0.out.1.2.2.2.below hb⟩; have HB : Hid (∀ b, blkL a ws = some b → b < w.heap.size) := H0.out.2; clear hb hC H0 ca0 cz0 da0 df0 ca1 cz1 da1 df1 ca2 cz2 da2 df2 ca3 cz3 da3 df3 ca4 cz4 da4 df4 ca5 cz5 da5 df5; have ca0 := H1.out.2.2.1.cell 0; have cz0 := fzB H1.out.2.2.1 0; have da0 := H1.out.2.1.cell 0; have df0 := fzB H1.out.2.1 0; have ca1 := H1.out.2.2.1.cell 1; have cz1 := fzB H1.out.2.2.1 1; have da1 := H1.out.2.1.cell 1; have df1 := fzB H1.out.2.1 1; have ca2 := H1.out.2.2.1.cell 2; have cz2 := fzB H1.out.2.2.1 2; have da2 := H1.out.2.1.cell 2; have df2 := fzB H1.out.2.1 2; have ca3 := H1.out.2.2.1.cell 3; have cz3 := fzB H1.out.2.2.1 3; have da3 := H1.out.2.1.cell 3; have df3 := fzB H1.out.2.1 3; have ca4 := H1.out.2.2.1.cell 4; have cz4 := fzB H1.out.2.2.1 4; have da4 := H1.out.2.1.cell 4; have df4 := fzB H1.out.2.1 4; have ca5 := H1.out.2.2.1.cell 5; have cz5 := fzB H1.out.2.2.1 5; have da5 := H1.out.2.1.cell 5; have df5 := fzB H1.out.2.1 5) | (go_at_call 13; go_in))
  exact bodyPost_ret (v := .tuple #[.agg #[.int .i64 0, .int .i64 0, .int .i64 0, .bool false, .int .i64 0, .int .i64 0], .int .i64 0]) (by simp [results, Try.results9, go_sem, ca0, cz0, da0, df0, ca1, cz1, da1, df1, ca2, cz2, da2, df2, ca3, cz3, da3, df3, ca4, cz4, da4, df4, ca5, cz5, da5, df5]) rfl ⟨rfl, (Below.setCell (Below.setCell (Below.setCell (Below.setCell (Below.setCell (Below.setCell H1.out.1.out (by first | exact Nat.le_refl _ | exact Nat.le_succ _) _) (by first | exact Nat.le_refl _ | exact Nat.le_succ _) _) (by first | exact Nat.le_refl _ | exact Nat.le_succ _) _) (by first | exact Nat.le_refl _ | exact Nat.le_succ _) _) (by first | exact Nat.le_refl _ | exact Nat.le_succ _) _) (by first | exact Nat.le_refl _ | exact Nat.le_succ _) _)⟩

set_option maxHeartbeats 4000000 in
theorem all_now0 (x0 x1 x2 : Int) (x3 : Bool) (x4 x5 now : Int) (a : Option Addr) (cap : Nat) (ws : List Int) (w : World) (ho : Own 3 1 IntKit.cells w a ws) (hm : ws.length ≤ 1048576) (hok : codOk ⟨x0, x1, x2, x3, x4, x5⟩ = true) (h : now < 0) :
    Calls Try.prog 9 #[.agg #[.int .i64 x0, .int .i64 x1, .int .i64 x2, .bool x3, .int .i64 x4, .int .i64 x5], .int .i64 now, .slice a ws.length cap] w fun e w' => e = .returned (.tuple #[.agg #[.int .i64 0, .int .i64 0, .int .i64 0, .bool false, .int .i64 0, .int .i64 0], .int .i64 0]) ∧ Below w.heap.size w w' := by
  have hC := fun (W : World) => impl_codelok x0 x1 x2 x3 x4 x5 W
  rw [hok] at hC
  have p1 : decide (0 ≤ now) = false := by simpa using h
  clear h
  clear hok
  have H0 : Hid ((Bel w ((w.alloc (.cells #[.int .i64 x0, .int .i64 x1, .int .i64 x2, .bool x3, .int .i64 x4, .int .i64 x5] 24)).alloc (.cells #[.int .i64 0, .int .i64 0, .int .i64 0, .bool false, .int .i64 0, .int .i64 0] 24)) ∧ boxB ((w.alloc (.cells #[.int .i64 x0, .int .i64 x1, .int .i64 x2, .bool x3, .int .i64 x4, .int .i64 x5] 24)).alloc (.cells #[.int .i64 0, .int .i64 0, .int .i64 0, .bool false, .int .i64 0, .int .i64 0] 24)) w.heap.size #[.int .i64 x0, .int .i64 x1, .int .i64 x2, .bool x3, .int .i64 x4, .int .i64 x5] 24 ∧ boxB ((w.alloc (.cells #[.int .i64 x0, .int .i64 x1, .int .i64 x2, .bool x3, .int .i64 x4, .int .i64 x5] 24)).alloc (.cells #[.int .i64 0, .int .i64 0, .int .i64 0, .bool false, .int .i64 0, .int .i64 0] 24)) (w.heap.size + 1) #[.int .i64 0, .int .i64 0, .int .i64 0, .bool false, .int .i64 0, .int .i64 0] 24 ∧ Own 3 1 IntKit.cells ((w.alloc (.cells #[.int .i64 x0, .int .i64 x1, .int .i64 x2, .bool x3, .int .i64 x4, .int .i64 x5] 24)).alloc (.cells #[.int .i64 0, .int .i64 0, .int .i64 0, .bool false, .int .i64 0, .int .i64 0] 24)) a ws) ∧ ∀ b, blkL a ws = some b → b < w.heap.size) := ⟨⟨n2 w _ _, (boxB.new w #[.int .i64 x0, .int .i64 x1, .int .i64 x2, .bool x3, .int .i64 x4, .int .i64 x5] 24).below (n1 _ _), new2 w _ _ _, ho.below (n2 w _ _)⟩, ho.lt⟩
  clear ho
  go_enter Try.func9, Try.ntmps9
  go_upto_region 2 with fail
  generalize ((w.alloc (.cells #[.int .i64 x0, .int .i64 x1, .int .i64 x2, .bool x3, .int .i64 x4, .int .i64 x5] 24)).alloc (.cells #[.int .i64 0, .int .i64 0, .int .i64 0, .bool false, .int .i64 0, .int .i64 0] 24)) = v at *
  have ca0 := H0.out.1.2.2.1.cell 0
  have cz0 := fzB H0.out.1.2.2.1 0
  have da0 := H0.out.1.2.1.cell 0
  have df0 := fzB H0.out.1.2.1 0
  have ca1 := H0.out.1.2.2.1.cell 1
  have cz1 := fzB H0.out.1.2.2.1 1
  have da1 := H0.out.1.2.1.cell 1
  have df1 := fzB H0.out.1.2.1 1
  have ca2 := H0.out.1.2.2.1.cell 2
  have cz2 := fzB H0.out.1.2.2.1 2
  have da2 := H0.out.1.2.1.cell 2
  have df2 := fzB H0.out.1.2.1 2
  have ca3 := H0.out.1.2.2.1.cell 3
  have cz3 := fzB H0.out.1.2.2.1 3
  have da3 := H0.out.1.2.1.cell 3
  have df3 := fzB H0.out.1.2.1 3
  have ca4 := H0.out.1.2.2.1.cell 4
  have cz4 := fzB H0.out.1.2.2.1 4
  have da4 := H0.out.1.2.1.cell 4
  have df4 := fzB H0.out.1.2.1 4
  have ca5 := H0.out.1.2.2.1.cell 5
  have cz5 := fzB H0.out.1.2.2.1 5
  have da5 := H0.out.1.2.1.cell 5
  have df5 := fzB H0.out.1.2.1 5
  go_wp2_with (first | (go_at_call 7; refine (hC _).mono ?_; rintro e' w1 ⟨rfl, hb⟩; have H1 : Hid (Bel w w1 ∧ boxB w1 w.heap.size #[.int .i64 x0, .int .i64 x1, .int .i64 x2, .bool x3, .int .i64 x4, .int .i64 x5] 24 ∧ boxB w1 (w.heap.size + 1) #[.int .i64 0, .int .i64 0, .int .i64 0, .bool false, .int .i64 0, .int .i64 0] 24 ∧ Own 3 1 IntKit.cells w1 a ws) := ⟨Bel.below H0.out.1.1 hb, H0.out.1.2.1.below hb, H0.out.1.2.2.1.below hb, H0.out.1.2.2.2.below hb⟩; have HB : Hid (∀ b, blkL a ws = some b → b < w.heap.size) := H0.out.2; clear hb hC H0 ca0 cz0 da0 df0 ca1 cz1 da1 df1 ca2 cz2 da2 df2 ca3 cz3 da3 df3 ca4 cz4 da4 df4 ca5 cz5 da5 df5; have ca0 := H1.out.2.2.1.cell 0; have cz0 := fzB H1.out.2.2.1 0; have da0 := H1.out.2.1.cell 0; have df0 := fzB H1.out.2.1 0; have ca1 := H1.out.2.2.1.cell 1; have cz1 := fzB H1.out.2.2.1 1; have da1 := H1.out.2.1.cell 1; have df1 := fzB H1.out.2.1 1; have ca2 := H1.out.2.2.1.cell 2; have cz2 := fzB H1.out.2.2.1 2; have da2 := H1.out.2.1.cell 2; have df2 := fzB H1.out.2.1 2; have ca3 := H1.out.2.2.1.cell 3; have cz3 := fzB H1.out.2.2.1 3; have da3 := H1.out.2.1.cell 3; have df3 := fzB H1.out.2.1 3; have ca4 := H1.out.2.2.1.cell 4; have cz4 := fzB H1.out.2.2.1 4; have da4 := H1.out.2.1.cell 4; have df4 := fzB H1.out.2.1 4; have ca5 := H1.out.2.2.1.cell 5; have cz5 := fzB H1.out.2.2.1 5; have da5 := H1.out.2.1.cell 5; have df5 := fzB H1.out.2.1 5) | (go_at_call 13; go_in))
  exact bodyPost_ret (v := .tuple #[.agg #[.int .i64 0, .int .i64 0, .int .i64 0, .bool false, .int .i64 0, .int .i64 0], .int .i64 0]) (by simp [results, Try.results9, go_sem, ca0, cz0, da0, df0, ca1, cz1, da1, df1, ca2, cz2, da2, df2, ca3, cz3, da3, df3, ca4, cz4, da4, df4, ca5, cz5, da5, df5]) rfl ⟨rfl, (Below.setCell (Below.setCell (Below.setCell (Below.setCell (Below.setCell (Below.setCell H1.out.1.out (by first | exact Nat.le_refl _ | exact Nat.le_succ _) _) (by first | exact Nat.le_refl _ | exact Nat.le_succ _) _) (by first | exact Nat.le_refl _ | exact Nat.le_succ _) _) (by first | exact Nat.le_refl _ | exact Nat.le_succ _) _) (by first | exact Nat.le_refl _ | exact Nat.le_succ _) _) (by first | exact Nat.le_refl _ | exact Nat.le_succ _) _)⟩

set_option maxHeartbeats 4000000 in
theorem all_now1 (x0 x1 x2 : Int) (x3 : Bool) (x4 x5 now : Int) (a : Option Addr) (cap : Nat) (ws : List Int) (w : World) (ho : Own 3 1 IntKit.cells w a ws) (hm : ws.length ≤ 1048576) (hok : codOk ⟨x0, x1, x2, x3, x4, x5⟩ = true) (h : 1000000000 < now) :
    Calls Try.prog 9 #[.agg #[.int .i64 x0, .int .i64 x1, .int .i64 x2, .bool x3, .int .i64 x4, .int .i64 x5], .int .i64 now, .slice a ws.length cap] w fun e w' => e = .returned (.tuple #[.agg #[.int .i64 0, .int .i64 0, .int .i64 0, .bool false, .int .i64 0, .int .i64 0], .int .i64 0]) ∧ Below w.heap.size w w' := by
  have hC := fun (W : World) => impl_codelok x0 x1 x2 x3 x4 x5 W
  rw [hok] at hC
  have p1 : decide (0 ≤ now) = true := by simp; omega
  have p2 : decide (now ≤ 1000000000) = false := by simpa using h
  clear h
  clear hok
  have H0 : Hid ((Bel w ((w.alloc (.cells #[.int .i64 x0, .int .i64 x1, .int .i64 x2, .bool x3, .int .i64 x4, .int .i64 x5] 24)).alloc (.cells #[.int .i64 0, .int .i64 0, .int .i64 0, .bool false, .int .i64 0, .int .i64 0] 24)) ∧ boxB ((w.alloc (.cells #[.int .i64 x0, .int .i64 x1, .int .i64 x2, .bool x3, .int .i64 x4, .int .i64 x5] 24)).alloc (.cells #[.int .i64 0, .int .i64 0, .int .i64 0, .bool false, .int .i64 0, .int .i64 0] 24)) w.heap.size #[.int .i64 x0, .int .i64 x1, .int .i64 x2, .bool x3, .int .i64 x4, .int .i64 x5] 24 ∧ boxB ((w.alloc (.cells #[.int .i64 x0, .int .i64 x1, .int .i64 x2, .bool x3, .int .i64 x4, .int .i64 x5] 24)).alloc (.cells #[.int .i64 0, .int .i64 0, .int .i64 0, .bool false, .int .i64 0, .int .i64 0] 24)) (w.heap.size + 1) #[.int .i64 0, .int .i64 0, .int .i64 0, .bool false, .int .i64 0, .int .i64 0] 24 ∧ Own 3 1 IntKit.cells ((w.alloc (.cells #[.int .i64 x0, .int .i64 x1, .int .i64 x2, .bool x3, .int .i64 x4, .int .i64 x5] 24)).alloc (.cells #[.int .i64 0, .int .i64 0, .int .i64 0, .bool false, .int .i64 0, .int .i64 0] 24)) a ws) ∧ ∀ b, blkL a ws = some b → b < w.heap.size) := ⟨⟨n2 w _ _, (boxB.new w #[.int .i64 x0, .int .i64 x1, .int .i64 x2, .bool x3, .int .i64 x4, .int .i64 x5] 24).below (n1 _ _), new2 w _ _ _, ho.below (n2 w _ _)⟩, ho.lt⟩
  clear ho
  go_enter Try.func9, Try.ntmps9
  go_upto_region 2 with fail
  generalize ((w.alloc (.cells #[.int .i64 x0, .int .i64 x1, .int .i64 x2, .bool x3, .int .i64 x4, .int .i64 x5] 24)).alloc (.cells #[.int .i64 0, .int .i64 0, .int .i64 0, .bool false, .int .i64 0, .int .i64 0] 24)) = v at *
  have ca0 := H0.out.1.2.2.1.cell 0
  have cz0 := fzB H0.out.1.2.2.1 0
  have da0 := H0.out.1.2.1.cell 0
  have df0 := fzB H0.out.1.2.1 0
  have ca1 := H0.out.1.2.2.1.cell 1
  have cz1 := fzB H0.out.1.2.2.1 1
  have da1 := H0.out.1.2.1.cell 1
  have df1 := fzB H0.out.1.2.1 1
  have ca2 := H0.out.1.2.2.1.cell 2
  have cz2 := fzB H0.out.1.2.2.1 2
  have da2 := H0.out.1.2.1.cell 2
  have df2 := fzB H0.out.1.2.1 2
  have ca3 := H0.out.1.2.2.1.cell 3
  have cz3 := fzB H0.out.1.2.2.1 3
  have da3 := H0.out.1.2.1.cell 3
  have df3 := fzB H0.out.1.2.1 3
  have ca4 := H0.out.1.2.2.1.cell 4
  have cz4 := fzB H0.out.1.2.2.1 4
  have da4 := H0.out.1.2.1.cell 4
  have df4 := fzB H0.out.1.2.1 4
  have ca5 := H0.out.1.2.2.1.cell 5
  have cz5 := fzB H0.out.1.2.2.1 5
  have da5 := H0.out.1.2.1.cell 5
  have df5 := fzB H0.out.1.2.1 5
  go_wp2_with (first | (go_at_call 7; refine (hC _).mono ?_; rintro e' w1 ⟨rfl, hb⟩; have H1 : Hid (Bel w w1 ∧ boxB w1 w.heap.size #[.int .i64 x0, .int .i64 x1, .int .i64 x2, .bool x3, .int .i64 x4, .int .i64 x5] 24 ∧ boxB w1 (w.heap.size + 1) #[.int .i64 0, .int .i64 0, .int .i64 0, .bool false, .int .i64 0, .int .i64 0] 24 ∧ Own 3 1 IntKit.cells w1 a ws) := ⟨Bel.below H0.out.1.1 hb, H0.out.1.2.1.below hb, H0.out.1.2.2.1.below hb, H0.out.1.2.2.2.below hb⟩; have HB : Hid (∀ b, blkL a ws = some b → b < w.heap.size) := H0.out.2; clear hb hC H0 ca0 cz0 da0 df0 ca1 cz1 da1 df1 ca2 cz2 da2 df2 ca3 cz3 da3 df3 ca4 cz4 da4 df4 ca5 cz5 da5 df5; have ca0 := H1.out.2.2.1.cell 0; have cz0 := fzB H1.out.2.2.1 0; have da0 := H1.out.2.1.cell 0; have df0 := fzB H1.out.2.1 0; have ca1 := H1.out.2.2.1.cell 1; have cz1 := fzB H1.out.2.2.1 1; have da1 := H1.out.2.1.cell 1; have df1 := fzB H1.out.2.1 1; have ca2 := H1.out.2.2.1.cell 2; have cz2 := fzB H1.out.2.2.1 2; have da2 := H1.out.2.1.cell 2; have df2 := fzB H1.out.2.1 2; have ca3 := H1.out.2.2.1.cell 3; have cz3 := fzB H1.out.2.2.1 3; have da3 := H1.out.2.1.cell 3; have df3 := fzB H1.out.2.1 3; have ca4 := H1.out.2.2.1.cell 4; have cz4 := fzB H1.out.2.2.1 4; have da4 := H1.out.2.1.cell 4; have df4 := fzB H1.out.2.1 4; have ca5 := H1.out.2.2.1.cell 5; have cz5 := fzB H1.out.2.2.1 5; have da5 := H1.out.2.1.cell 5; have df5 := fzB H1.out.2.1 5) | (go_at_call 13; go_in))
  exact bodyPost_ret (v := .tuple #[.agg #[.int .i64 0, .int .i64 0, .int .i64 0, .bool false, .int .i64 0, .int .i64 0], .int .i64 0]) (by simp [results, Try.results9, go_sem, ca0, cz0, da0, df0, ca1, cz1, da1, df1, ca2, cz2, da2, df2, ca3, cz3, da3, df3, ca4, cz4, da4, df4, ca5, cz5, da5, df5]) rfl ⟨rfl, (Below.setCell (Below.setCell (Below.setCell (Below.setCell (Below.setCell (Below.setCell H1.out.1.out (by first | exact Nat.le_refl _ | exact Nat.le_succ _) _) (by first | exact Nat.le_refl _ | exact Nat.le_succ _) _) (by first | exact Nat.le_refl _ | exact Nat.le_succ _) _) (by first | exact Nat.le_refl _ | exact Nat.le_succ _) _) (by first | exact Nat.le_refl _ | exact Nat.le_succ _) _) (by first | exact Nat.le_refl _ | exact Nat.le_succ _) _)⟩

set_option maxHeartbeats 4000000 in
theorem all_wrong (x0 x1 x2 : Int) (x3 : Bool) (x4 x5 now : Int) (a : Option Addr) (cap : Nat) (ws : List Int) (w : World) (ho : Own 3 1 IntKit.cells w a ws) (hm : ws.length ≤ 1048576) (hok : codOk ⟨x0, x1, x2, x3, x4, x5⟩ = true) (hn : 0 ≤ now ∧ now ≤ 1000000000) (hw : ¬ WaitsOk ws) :
    Calls Try.prog 9 #[.agg #[.int .i64 x0, .int .i64 x1, .int .i64 x2, .bool x3, .int .i64 x4, .int .i64 x5], .int .i64 now, .slice a ws.length cap] w fun e w' => e = .returned (.tuple #[.agg #[.int .i64 0, .int .i64 0, .int .i64 0, .bool false, .int .i64 0, .int .i64 0], .int .i64 0]) ∧ Below w.heap.size w w' := by
  have hC := fun (W : World) => impl_codelok x0 x1 x2 x3 x4 x5 W
  rw [hok] at hC
  have p1 : decide (0 ≤ now) = true := by simpa using hn.1
  have p2 : decide (now ≤ 1000000000) = true := by simpa using hn.2
  have HCF := fun (W : World) (h : Own 3 1 IntKit.cells W a ws) => impl_contains a cap ws true W h hm ⟨fun h => Bool.noConfusion h, fun h => (hw h).elim⟩
  clear hw hn
  clear hok
  have H0 : Hid ((Bel w ((w.alloc (.cells #[.int .i64 x0, .int .i64 x1, .int .i64 x2, .bool x3, .int .i64 x4, .int .i64 x5] 24)).alloc (.cells #[.int .i64 0, .int .i64 0, .int .i64 0, .bool false, .int .i64 0, .int .i64 0] 24)) ∧ boxB ((w.alloc (.cells #[.int .i64 x0, .int .i64 x1, .int .i64 x2, .bool x3, .int .i64 x4, .int .i64 x5] 24)).alloc (.cells #[.int .i64 0, .int .i64 0, .int .i64 0, .bool false, .int .i64 0, .int .i64 0] 24)) w.heap.size #[.int .i64 x0, .int .i64 x1, .int .i64 x2, .bool x3, .int .i64 x4, .int .i64 x5] 24 ∧ boxB ((w.alloc (.cells #[.int .i64 x0, .int .i64 x1, .int .i64 x2, .bool x3, .int .i64 x4, .int .i64 x5] 24)).alloc (.cells #[.int .i64 0, .int .i64 0, .int .i64 0, .bool false, .int .i64 0, .int .i64 0] 24)) (w.heap.size + 1) #[.int .i64 0, .int .i64 0, .int .i64 0, .bool false, .int .i64 0, .int .i64 0] 24 ∧ Own 3 1 IntKit.cells ((w.alloc (.cells #[.int .i64 x0, .int .i64 x1, .int .i64 x2, .bool x3, .int .i64 x4, .int .i64 x5] 24)).alloc (.cells #[.int .i64 0, .int .i64 0, .int .i64 0, .bool false, .int .i64 0, .int .i64 0] 24)) a ws) ∧ ∀ b, blkL a ws = some b → b < w.heap.size) := ⟨⟨n2 w _ _, (boxB.new w #[.int .i64 x0, .int .i64 x1, .int .i64 x2, .bool x3, .int .i64 x4, .int .i64 x5] 24).below (n1 _ _), new2 w _ _ _, ho.below (n2 w _ _)⟩, ho.lt⟩
  clear ho
  go_enter Try.func9, Try.ntmps9
  go_upto_region 2 with fail
  generalize ((w.alloc (.cells #[.int .i64 x0, .int .i64 x1, .int .i64 x2, .bool x3, .int .i64 x4, .int .i64 x5] 24)).alloc (.cells #[.int .i64 0, .int .i64 0, .int .i64 0, .bool false, .int .i64 0, .int .i64 0] 24)) = v at *
  have ca0 := H0.out.1.2.2.1.cell 0
  have cz0 := fzB H0.out.1.2.2.1 0
  have da0 := H0.out.1.2.1.cell 0
  have df0 := fzB H0.out.1.2.1 0
  have ca1 := H0.out.1.2.2.1.cell 1
  have cz1 := fzB H0.out.1.2.2.1 1
  have da1 := H0.out.1.2.1.cell 1
  have df1 := fzB H0.out.1.2.1 1
  have ca2 := H0.out.1.2.2.1.cell 2
  have cz2 := fzB H0.out.1.2.2.1 2
  have da2 := H0.out.1.2.1.cell 2
  have df2 := fzB H0.out.1.2.1 2
  have ca3 := H0.out.1.2.2.1.cell 3
  have cz3 := fzB H0.out.1.2.2.1 3
  have da3 := H0.out.1.2.1.cell 3
  have df3 := fzB H0.out.1.2.1 3
  have ca4 := H0.out.1.2.2.1.cell 4
  have cz4 := fzB H0.out.1.2.2.1 4
  have da4 := H0.out.1.2.1.cell 4
  have df4 := fzB H0.out.1.2.1 4
  have ca5 := H0.out.1.2.2.1.cell 5
  have cz5 := fzB H0.out.1.2.2.1 5
  have da5 := H0.out.1.2.1.cell 5
  have df5 := fzB H0.out.1.2.1 5
  go_wp2_with (first | (go_at_call 7; refine (hC _).mono ?_; rintro e' w1 ⟨rfl, hb⟩; have H1 : Hid (Bel w w1 ∧ boxB w1 w.heap.size #[.int .i64 x0, .int .i64 x1, .int .i64 x2, .bool x3, .int .i64 x4, .int .i64 x5] 24 ∧ boxB w1 (w.heap.size + 1) #[.int .i64 0, .int .i64 0, .int .i64 0, .bool false, .int .i64 0, .int .i64 0] 24 ∧ Own 3 1 IntKit.cells w1 a ws) := ⟨Bel.below H0.out.1.1 hb, H0.out.1.2.1.below hb, H0.out.1.2.2.1.below hb, H0.out.1.2.2.2.below hb⟩; have HB : Hid (∀ b, blkL a ws = some b → b < w.heap.size) := H0.out.2; clear hb hC H0 ca0 cz0 da0 df0 ca1 cz1 da1 df1 ca2 cz2 da2 df2 ca3 cz3 da3 df3 ca4 cz4 da4 df4 ca5 cz5 da5 df5; have ca0 := H1.out.2.2.1.cell 0; have cz0 := fzB H1.out.2.2.1 0; have da0 := H1.out.2.1.cell 0; have df0 := fzB H1.out.2.1 0; have ca1 := H1.out.2.2.1.cell 1; have cz1 := fzB H1.out.2.2.1 1; have da1 := H1.out.2.1.cell 1; have df1 := fzB H1.out.2.1 1; have ca2 := H1.out.2.2.1.cell 2; have cz2 := fzB H1.out.2.2.1 2; have da2 := H1.out.2.1.cell 2; have df2 := fzB H1.out.2.1 2; have ca3 := H1.out.2.2.1.cell 3; have cz3 := fzB H1.out.2.2.1 3; have da3 := H1.out.2.1.cell 3; have df3 := fzB H1.out.2.1 3; have ca4 := H1.out.2.2.1.cell 4; have cz4 := fzB H1.out.2.2.1 4; have da4 := H1.out.2.1.cell 4; have df4 := fzB H1.out.2.1 4; have ca5 := H1.out.2.2.1.cell 5; have cz5 := fzB H1.out.2.2.1 5; have da5 := H1.out.2.1.cell 5; have df5 := fzB H1.out.2.1 5) | (go_at_call 13; go_in) | (go_at_call 20; refine (HCF _ H1.out.2.2.2).mono ?_; rintro e' w3 ⟨rfl, hw3⟩; have hw3 := hw3.symm; subst hw3))
  exact bodyPost_ret (v := .tuple #[.agg #[.int .i64 0, .int .i64 0, .int .i64 0, .bool false, .int .i64 0, .int .i64 0], .int .i64 0]) (by simp [results, Try.results9, go_sem, ca0, cz0, da0, df0, ca1, cz1, da1, df1, ca2, cz2, da2, df2, ca3, cz3, da3, df3, ca4, cz4, da4, df4, ca5, cz5, da5, df5]) rfl ⟨rfl, (Below.setCell (Below.setCell (Below.setCell (Below.setCell (Below.setCell (Below.setCell H1.out.1.out (by first | exact Nat.le_refl _ | exact Nat.le_succ _) _) (by first | exact Nat.le_refl _ | exact Nat.le_succ _) _) (by first | exact Nat.le_refl _ | exact Nat.le_succ _) _) (by first | exact Nat.le_refl _ | exact Nat.le_succ _) _) (by first | exact Nat.le_refl _ | exact Nat.le_succ _) _) (by first | exact Nat.le_refl _ | exact Nat.le_succ _) _)⟩

set_option maxHeartbeats 8000000 in
theorem all_good (x0 x1 x2 : Int) (x3 : Bool) (x4 x5 now : Int) (a : Option Addr) (cap : Nat) (ws : List Int) (w : World) (ho : Own 3 1 IntKit.cells w a ws) (hm : ws.length ≤ 1048576) (hw : WaitsOk ws) (hok : codOk ⟨x0, x1, x2, x3, x4, x5⟩ = true) (hn : 0 ≤ now ∧ now ≤ 1000000000) :
    Calls Try.prog 9 #[.agg #[.int .i64 x0, .int .i64 x1, .int .i64 x2, .bool x3, .int .i64 x4, .int .i64 x5], .int .i64 now, .slice a ws.length cap] w fun e w' => ∃ (z0 z1 z2 : Int) (z3 : Bool) (z4 z5 : Int), e = .returned (.tuple #[.agg #[.int .i64 z0, .int .i64 z1, .int .i64 z2, .bool z3, .int .i64 z4, .int .i64 z5], .int .i64 ((looks now ⟨x0, x1, x2, x3, x4, x5⟩ ws).2 : Int)]) ∧ (looks now ⟨x0, x1, x2, x3, x4, x5⟩ ws).1 = ⟨z0, z1, z2, z3, z4, z5⟩ ∧ Below w.heap.size w w' := by
  have hC := fun (W : World) => impl_codelok x0 x1 x2 x3 x4 x5 W
  rw [hok] at hC
  have HK : Hid (codOk ⟨x0, x1, x2, x3, x4, x5⟩ = true) := hok
  have HN : Hid (0 ≤ now ∧ now ≤ 1000000000) := hn
  have p1 : decide (0 ≤ now) = true := by simpa using hn.1
  have p2 : decide (now ≤ 1000000000) = true := by simpa using hn.2
  have HCF := fun (W : World) (h : Own 3 1 IntKit.cells W a ws) => impl_contains a cap ws false W h hm ⟨fun _ => hw, fun _ => rfl⟩
  obtain ⟨LK, hLK⟩ : ∃ LK, looks now ⟨x0, x1, x2, x3, x4, x5⟩ ws = LK := ⟨_, rfl⟩
  have HLK : Hid (looks now ⟨x0, x1, x2, x3, x4, x5⟩ ws = LK) := hLK
  rw [hLK]
  clear hok hw hn hLK
  have H0 : Hid ((Bel w ((w.alloc (.cells #[.int .i64 x0, .int .i64 x1, .int .i64 x2, .bool x3, .int .i64 x4, .int .i64 x5] 24)).alloc (.cells #[.int .i64 0, .int .i64 0, .int .i64 0, .bool false, .int .i64 0, .int .i64 0] 24)) ∧ boxB ((w.alloc (.cells #[.int .i64 x0, .int .i64 x1, .int .i64 x2, .bool x3, .int .i64 x4, .int .i64 x5] 24)).alloc (.cells #[.int .i64 0, .int .i64 0, .int .i64 0, .bool false, .int .i64 0, .int .i64 0] 24)) w.heap.size #[.int .i64 x0, .int .i64 x1, .int .i64 x2, .bool x3, .int .i64 x4, .int .i64 x5] 24 ∧ boxB ((w.alloc (.cells #[.int .i64 x0, .int .i64 x1, .int .i64 x2, .bool x3, .int .i64 x4, .int .i64 x5] 24)).alloc (.cells #[.int .i64 0, .int .i64 0, .int .i64 0, .bool false, .int .i64 0, .int .i64 0] 24)) (w.heap.size + 1) #[.int .i64 0, .int .i64 0, .int .i64 0, .bool false, .int .i64 0, .int .i64 0] 24 ∧ Own 3 1 IntKit.cells ((w.alloc (.cells #[.int .i64 x0, .int .i64 x1, .int .i64 x2, .bool x3, .int .i64 x4, .int .i64 x5] 24)).alloc (.cells #[.int .i64 0, .int .i64 0, .int .i64 0, .bool false, .int .i64 0, .int .i64 0] 24)) a ws) ∧ ∀ b, blkL a ws = some b → b < w.heap.size) := ⟨⟨n2 w _ _, (boxB.new w #[.int .i64 x0, .int .i64 x1, .int .i64 x2, .bool x3, .int .i64 x4, .int .i64 x5] 24).below (n1 _ _), new2 w _ _ _, ho.below (n2 w _ _)⟩, ho.lt⟩
  clear ho
  go_enter Try.func9, Try.ntmps9
  go_upto_region 2 with fail
  generalize ((w.alloc (.cells #[.int .i64 x0, .int .i64 x1, .int .i64 x2, .bool x3, .int .i64 x4, .int .i64 x5] 24)).alloc (.cells #[.int .i64 0, .int .i64 0, .int .i64 0, .bool false, .int .i64 0, .int .i64 0] 24)) = v at *
  have ca0 := H0.out.1.2.2.1.cell 0
  have cz0 := fzB H0.out.1.2.2.1 0
  have da0 := H0.out.1.2.1.cell 0
  have df0 := fzB H0.out.1.2.1 0
  have ca1 := H0.out.1.2.2.1.cell 1
  have cz1 := fzB H0.out.1.2.2.1 1
  have da1 := H0.out.1.2.1.cell 1
  have df1 := fzB H0.out.1.2.1 1
  have ca2 := H0.out.1.2.2.1.cell 2
  have cz2 := fzB H0.out.1.2.2.1 2
  have da2 := H0.out.1.2.1.cell 2
  have df2 := fzB H0.out.1.2.1 2
  have ca3 := H0.out.1.2.2.1.cell 3
  have cz3 := fzB H0.out.1.2.2.1 3
  have da3 := H0.out.1.2.1.cell 3
  have df3 := fzB H0.out.1.2.1 3
  have ca4 := H0.out.1.2.2.1.cell 4
  have cz4 := fzB H0.out.1.2.2.1 4
  have da4 := H0.out.1.2.1.cell 4
  have df4 := fzB H0.out.1.2.1 4
  have ca5 := H0.out.1.2.2.1.cell 5
  have cz5 := fzB H0.out.1.2.2.1 5
  have da5 := H0.out.1.2.1.cell 5
  have df5 := fzB H0.out.1.2.1 5
  go_wp2_with (first | (go_at_call 7; refine (hC _).mono ?_; rintro e' w1 ⟨rfl, hb⟩; have H1 : Hid (Bel w w1 ∧ boxB w1 w.heap.size #[.int .i64 x0, .int .i64 x1, .int .i64 x2, .bool x3, .int .i64 x4, .int .i64 x5] 24 ∧ boxB w1 (w.heap.size + 1) #[.int .i64 0, .int .i64 0, .int .i64 0, .bool false, .int .i64 0, .int .i64 0] 24 ∧ Own 3 1 IntKit.cells w1 a ws) := ⟨Bel.below H0.out.1.1 hb, H0.out.1.2.1.below hb, H0.out.1.2.2.1.below hb, H0.out.1.2.2.2.below hb⟩; have HB : Hid (∀ b, blkL a ws = some b → b < w.heap.size) := H0.out.2; clear hb hC H0 ca0 cz0 da0 df0 ca1 cz1 da1 df1 ca2 cz2 da2 df2 ca3 cz3 da3 df3 ca4 cz4 da4 df4 ca5 cz5 da5 df5; have ca0 := H1.out.2.2.1.cell 0; have cz0 := fzB H1.out.2.2.1 0; have da0 := H1.out.2.1.cell 0; have df0 := fzB H1.out.2.1 0; have ca1 := H1.out.2.2.1.cell 1; have cz1 := fzB H1.out.2.2.1 1; have da1 := H1.out.2.1.cell 1; have df1 := fzB H1.out.2.1 1; have ca2 := H1.out.2.2.1.cell 2; have cz2 := fzB H1.out.2.2.1 2; have da2 := H1.out.2.1.cell 2; have df2 := fzB H1.out.2.1 2; have ca3 := H1.out.2.2.1.cell 3; have cz3 := fzB H1.out.2.2.1 3; have da3 := H1.out.2.1.cell 3; have df3 := fzB H1.out.2.1 3; have ca4 := H1.out.2.2.1.cell 4; have cz4 := fzB H1.out.2.2.1 4; have da4 := H1.out.2.1.cell 4; have df4 := fzB H1.out.2.1 4; have ca5 := H1.out.2.2.1.cell 5; have cz5 := fzB H1.out.2.2.1 5; have da5 := H1.out.2.1.cell 5; have df5 := fzB H1.out.2.1 5) | (go_at_call 13; go_in) | (go_at_call 20; refine (HCF _ H1.out.2.2.2).mono ?_; rintro e' w3 ⟨rfl, hw3⟩; have hw3 := hw3.symm; subst hw3))
  clear HCF ca0 cz0 da0 df0 ca1 cz1 da1 df1 ca2 cz2 da2 df2 ca3 cz3 da3 df3 ca4 cz4 da4 df4 ca5 cz5 da5 df5
  go_loopw [27] (fun i wr => ∃ (k : Nat) (y0 y1 y2 : Int) (y3 : Bool) (y4 y5 : Int), k ≤ ws.length ∧ i = .int .i64 (k : Int) ∧ Hid (codOk ⟨y0, y1, y2, y3, y4, y5⟩ = true ∧ looks now ⟨x0, x1, x2, x3, x4, x5⟩ ws = ((looks now ⟨y0, y1, y2, y3, y4, y5⟩ (ws.drop k)).1, k + (looks now ⟨y0, y1, y2, y3, y4, y5⟩ (ws.drop k)).2)) ∧ Hid (Bel w wr ∧ boxB wr w.heap.size #[.int .i64 y0, .int .i64 y1, .int .i64 y2, .bool y3, .int .i64 y4, .int .i64 y5] 24 ∧ boxB wr (w.heap.size + 1) #[.int .i64 0, .int .i64 0, .int .i64 0, .bool false, .int .i64 0, .int .i64 0] 24 ∧ Own 3 1 IntKit.cells wr a ws)) (fun i _ => ws.length - (intOf i).toNat)
  case atStart => exact ⟨0, x0, x1, x2, x3, x4, x5, Nat.zero_le _, rfl, ⟨HK.out, by simp⟩, H1⟩
  case round =>
    clear H1
    obtain ⟨k, y0, y1, y2, y3, y4, y5, hk, rfl, HS, HR⟩ := hrel
    have ca0 := HR.out.2.2.1.cell 0
    have cz0 := fzB HR.out.2.2.1 0
    have da0 := HR.out.2.1.cell 0
    have df0 := fzB HR.out.2.1 0
    have ca1 := HR.out.2.2.1.cell 1
    have cz1 := fzB HR.out.2.2.1 1
    have da1 := HR.out.2.1.cell 1
    have df1 := fzB HR.out.2.1 1
    have ca2 := HR.out.2.2.1.cell 2
    have cz2 := fzB HR.out.2.2.1 2
    have da2 := HR.out.2.1.cell 2
    have df2 := fzB HR.out.2.1 2
    have ca3 := HR.out.2.2.1.cell 3
    have cz3 := fzB HR.out.2.2.1 3
    have da3 := HR.out.2.1.cell 3
    have df3 := fzB HR.out.2.1 3
    have ca4 := HR.out.2.2.1.cell 4
    have cz4 := fzB HR.out.2.2.1 4
    have da4 := HR.out.2.1.cell 4
    have df4 := fzB HR.out.2.1 4
    have ca5 := HR.out.2.2.1.cell 5
    have cz5 := fzB HR.out.2.2.1 5
    have da5 := HR.out.2.1.cell 5
    have df5 := fzB HR.out.2.1 5
    by_cases hlt : k < ws.length
    · obtain ⟨g, o, rfl, hrow⟩ := HR.out.2.2.2.resolve_left (fun e => by rw [e] at hlt; simp at hlt)
      have r0 : wr.cell? ⟨g, o + k, none⟩ = some (.int .i64 ws[k]) := by have := hrow.cell k hlt 0 (by omega); simpa [IntKit.cells] using this
      have h0k : (0 : Int) ≤ (k : Int) := by omega
      have hkl : (k : Int) < (ws.length : Int) := by omega
      have wk : IntKind.i64.wrap ((k : Int) + 1) = ((k + 1 : Nat) : Int) := by rw [IntKind.wrap_i64]; omega
      have HLD := looks_drop now ⟨y0, y1, y2, y3, y4, y5⟩ ws k hlt
      obtain ⟨u, hu⟩ : ∃ u, ws[k] = u := ⟨_, rfl⟩
      rw [hu] at r0 HLD
      have HL := fun (W : World) (hb : codBox W w.heap.size ⟨y0, y1, y2, y3, y4, y5⟩) => impl_look w.heap.size ⟨y0, y1, y2, y3, y4, y5⟩ now u W hb HS.out.1 HN.out
      obtain ⟨⟨⟨z0, z1, z2, z3, z4, z5⟩, D⟩, hz⟩ : ∃ z, see ⟨y0, y1, y2, y3, y4, y5⟩ now u = z := ⟨_, rfl⟩
      rw [hz] at HL
      unfold codBox at HL
      dsimp only at HL
      have HZ : Hid (codOk ⟨z0, z1, z2, z3, z4, z5⟩ = true) := by have h9 := see_keeps (s := ⟨y0, y1, y2, y3, y4, y5⟩) (w := u) HS.out.1 HN.out; rw [hz] at h9; exact h9
      rw [hz] at HLD
      clear hz hu hrow
      cases D
      · have H5 : Hid (LK = (⟨z0, z1, z2, z3, z4, z5⟩, k)) := by
          show _ = _
          rw [← HLK.out, HS.out.2, HLD]
          simp
        clear HLD
        go_wp2_with (go_at_call 15; refine (HL _ HR.out.2.1).mono ?_; rintro e' w5 ⟨rfl, k5, o5⟩; have H4 : Hid (Bel w w5 ∧ boxB w5 w.heap.size #[.int .i64 z0, .int .i64 z1, .int .i64 z2, .bool z3, .int .i64 z4, .int .i64 z5] 24 ∧ boxB w5 (w.heap.size + 1) #[.int .i64 0, .int .i64 0, .int .i64 0, .bool false, .int .i64 0, .int .i64 0] 24 ∧ Own 3 1 IntKit.cells w5 (some ⟨g, o, none⟩) ws) := ⟨o5.bel HR.out.1 (Nat.le_refl _), k5, box_only HR.out.2.2.1 o5 (by omega), own_only HR.out.2.2.2 o5 (fun b h => by have := HB.out b h; omega)⟩; clear k5 o5 HL HR ca0 cz0 da0 df0 ca1 cz1 da1 df1 ca2 cz2 da2 df2 ca3 cz3 da3 df3 ca4 cz4 da4 df4 ca5 cz5 da5 df5; have ca0 := H4.out.2.2.1.cell 0; have cz0 := fzB H4.out.2.2.1 0; have da0 := H4.out.2.1.cell 0; have df0 := fzB H4.out.2.1 0; have ca1 := H4.out.2.2.1.cell 1; have cz1 := fzB H4.out.2.2.1 1; have da1 := H4.out.2.1.cell 1; have df1 := fzB H4.out.2.1 1; have ca2 := H4.out.2.2.1.cell 2; have cz2 := fzB H4.out.2.2.1 2; have da2 := H4.out.2.1.cell 2; have df2 := fzB H4.out.2.1 2; have ca3 := H4.out.2.2.1.cell 3; have cz3 := fzB H4.out.2.2.1 3; have da3 := H4.out.2.1.cell 3; have df3 := fzB H4.out.2.1 3; have ca4 := H4.out.2.2.1.cell 4; have cz4 := fzB H4.out.2.2.1 4; have da4 := H4.out.2.1.cell 4; have df4 := fzB H4.out.2.1 4; have ca5 := H4.out.2.2.1.cell 5; have cz5 := fzB H4.out.2.2.1 5; have da5 := H4.out.2.1.cell 5; have df5 := fzB H4.out.2.1 5)
        exact bodyPost_ret (v := .tuple #[.agg #[.int .i64 z0, .int .i64 z1, .int .i64 z2, .bool z3, .int .i64 z4, .int .i64 z5], .int .i64 (k : Int)]) (by simp [results, Try.results9, go_sem, ca0, cz0, da0, df0, ca1, cz1, da1, df1, ca2, cz2, da2, df2, ca3, cz3, da3, df3, ca4, cz4, da4, df4, ca5, cz5, da5, df5]) rfl ⟨z0, z1, z2, z3, z4, z5, by rw [H5.out], by rw [H5.out], (Below.setCell (Below.setCell (Below.setCell (Below.setCell (Below.setCell (Below.setCell H4.out.1.out (by first | exact Nat.le_refl _ | exact Nat.le_succ _) _) (by first | exact Nat.le_refl _ | exact Nat.le_succ _) _) (by first | exact Nat.le_refl _ | exact Nat.le_succ _) _) (by first | exact Nat.le_refl _ | exact Nat.le_succ _) _) (by first | exact Nat.le_refl _ | exact Nat.le_succ _) _) (by first | exact Nat.le_refl _ | exact Nat.le_succ _) _)⟩
      · have H5 : Hid (looks now ⟨x0, x1, x2, x3, x4, x5⟩ ws = ((looks now ⟨z0, z1, z2, z3, z4, z5⟩ (ws.drop (k + 1))).1, k + 1 + (looks now ⟨z0, z1, z2, z3, z4, z5⟩ (ws.drop (k + 1))).2)) := by
          show _ = _
          rw [HS.out.2, HLD]
          simp
          omega
        clear HLD
        go_wp2_with (go_at_call 15; refine (HL _ HR.out.2.1).mono ?_; rintro e' w5 ⟨rfl, k5, o5⟩; have H4 : Hid (Bel w w5 ∧ boxB w5 w.heap.size #[.int .i64 z0, .int .i64 z1, .int .i64 z2, .bool z3, .int .i64 z4, .int .i64 z5] 24 ∧ boxB w5 (w.heap.size + 1) #[.int .i64 0, .int .i64 0, .int .i64 0, .bool false, .int .i64 0, .int .i64 0] 24 ∧ Own 3 1 IntKit.cells w5 (some ⟨g, o, none⟩) ws) := ⟨o5.bel HR.out.1 (Nat.le_refl _), k5, box_only HR.out.2.2.1 o5 (by omega), own_only HR.out.2.2.2 o5 (fun b h => by have := HB.out b h; omega)⟩; clear k5 o5 HL HR ca0 cz0 da0 df0 ca1 cz1 da1 df1 ca2 cz2 da2 df2 ca3 cz3 da3 df3 ca4 cz4 da4 df4 ca5 cz5 da5 df5; have ca0 := H4.out.2.2.1.cell 0; have cz0 := fzB H4.out.2.2.1 0; have da0 := H4.out.2.1.cell 0; have df0 := fzB H4.out.2.1 0; have ca1 := H4.out.2.2.1.cell 1; have cz1 := fzB H4.out.2.2.1 1; have da1 := H4.out.2.1.cell 1; have df1 := fzB H4.out.2.1 1; have ca2 := H4.out.2.2.1.cell 2; have cz2 := fzB H4.out.2.2.1 2; have da2 := H4.out.2.1.cell 2; have df2 := fzB H4.out.2.1 2; have ca3 := H4.out.2.2.1.cell 3; have cz3 := fzB H4.out.2.2.1 3; have da3 := H4.out.2.1.cell 3; have df3 := fzB H4.out.2.1 3; have ca4 := H4.out.2.2.1.cell 4; have cz4 := fzB H4.out.2.2.1 4; have da4 := H4.out.2.1.cell 4; have df4 := fzB H4.out.2.1 4; have ca5 := H4.out.2.2.1.cell 5; have cz5 := fzB H4.out.2.2.1 5; have da5 := H4.out.2.1.cell 5; have df5 := fzB H4.out.2.1 5)
        go_roundw
        case rel => exact ⟨k + 1, z0, z1, z2, z3, z4, z5, by omega, by go_num, ⟨HZ.out, H5.out⟩, H4⟩
        case measure => simp [intOf]; omega
    · have hkl : ¬ (k : Int) < (ws.length : Int) := by omega
      have hkw : k = ws.length := by omega
      have HL := fun (W : World) (hb : codBox W w.heap.size ⟨y0, y1, y2, y3, y4, y5⟩) => impl_look w.heap.size ⟨y0, y1, y2, y3, y4, y5⟩ now (-1) W hb HS.out.1 HN.out
      obtain ⟨⟨⟨z0, z1, z2, z3, z4, z5⟩, D⟩, hz⟩ : ∃ z, see ⟨y0, y1, y2, y3, y4, y5⟩ now (-1) = z := ⟨_, rfl⟩
      rw [hz] at HL
      unfold codBox at HL
      dsimp only at HL
      have HZ : Hid (codOk ⟨z0, z1, z2, z3, z4, z5⟩ = true) := by have h9 := see_keeps (s := ⟨y0, y1, y2, y3, y4, y5⟩) (w := (-1)) HS.out.1 HN.out; rw [hz] at h9; exact h9
      have hD : D = false := by have h9 := see_none ⟨y0, y1, y2, y3, y4, y5⟩ now; rw [hz] at h9; exact h9
      have H5 : Hid (LK = (⟨z0, z1, z2, z3, z4, z5⟩, ws.length)) := by
        show _ = _
        rw [← HLK.out, HS.out.2, hkw, looks_end, hz]
        simp
      subst hD
      clear hz hkw hlt
      go_wp2_with (go_at_call 15; refine (HL _ HR.out.2.1).mono ?_; rintro e' w5 ⟨rfl, k5, o5⟩; have H4 : Hid (Bel w w5 ∧ boxB w5 w.heap.size #[.int .i64 z0, .int .i64 z1, .int .i64 z2, .bool z3, .int .i64 z4, .int .i64 z5] 24 ∧ boxB w5 (w.heap.size + 1) #[.int .i64 0, .int .i64 0, .int .i64 0, .bool false, .int .i64 0, .int .i64 0] 24 ∧ Own 3 1 IntKit.cells w5 a ws) := ⟨o5.bel HR.out.1 (Nat.le_refl _), k5, box_only HR.out.2.2.1 o5 (by omega), own_only HR.out.2.2.2 o5 (fun b h => by have := HB.out b h; omega)⟩; clear k5 o5 HL HR ca0 cz0 da0 df0 ca1 cz1 da1 df1 ca2 cz2 da2 df2 ca3 cz3 da3 df3 ca4 cz4 da4 df4 ca5 cz5 da5 df5; have ca0 := H4.out.2.2.1.cell 0; have cz0 := fzB H4.out.2.2.1 0; have da0 := H4.out.2.1.cell 0; have df0 := fzB H4.out.2.1 0; have ca1 := H4.out.2.2.1.cell 1; have cz1 := fzB H4.out.2.2.1 1; have da1 := H4.out.2.1.cell 1; have df1 := fzB H4.out.2.1 1; have ca2 := H4.out.2.2.1.cell 2; have cz2 := fzB H4.out.2.2.1 2; have da2 := H4.out.2.1.cell 2; have df2 := fzB H4.out.2.1 2; have ca3 := H4.out.2.2.1.cell 3; have cz3 := fzB H4.out.2.2.1 3; have da3 := H4.out.2.1.cell 3; have df3 := fzB H4.out.2.1 3; have ca4 := H4.out.2.2.1.cell 4; have cz4 := fzB H4.out.2.2.1 4; have da4 := H4.out.2.1.cell 4; have df4 := fzB H4.out.2.1 4; have ca5 := H4.out.2.2.1.cell 5; have cz5 := fzB H4.out.2.2.1 5; have da5 := H4.out.2.1.cell 5; have df5 := fzB H4.out.2.1 5)
      exact bodyPost_ret (v := .tuple #[.agg #[.int .i64 z0, .int .i64 z1, .int .i64 z2, .bool z3, .int .i64 z4, .int .i64 z5], .int .i64 (ws.length : Int)]) (by simp [results, Try.results9, go_sem, ca0, cz0, da0, df0, ca1, cz1, da1, df1, ca2, cz2, da2, df2, ca3, cz3, da3, df3, ca4, cz4, da4, df4, ca5, cz5, da5, df5]) rfl ⟨z0, z1, z2, z3, z4, z5, by rw [H5.out], by rw [H5.out], (Below.setCell (Below.setCell (Below.setCell (Below.setCell (Below.setCell (Below.setCell H4.out.1.out (by first | exact Nat.le_refl _ | exact Nat.le_succ _) _) (by first | exact Nat.le_refl _ | exact Nat.le_succ _) _) (by first | exact Nat.le_refl _ | exact Nat.le_succ _) _) (by first | exact Nat.le_refl _ | exact Nat.le_succ _) _) (by first | exact Nat.le_refl _ | exact Nat.le_succ _) _) (by first | exact Nat.le_refl _ | exact Nat.le_succ _) _)⟩

theorem impl_seeall (x0 x1 x2 : Int) (x3 : Bool) (x4 x5 now : Int) (a : Option Addr) (cap : Nat) (ws : List Int) (w : World) (ho : Own 3 1 IntKit.cells w a ws) (hm : ws.length ≤ 1048576) (hc : ws.length ≤ cap) (B : Bool) (hB : B = true ↔ AllOk ⟨x0, x1, x2, x3, x4, x5⟩ now ws) :
    Calls Try.prog 9 #[.agg #[.int .i64 x0, .int .i64 x1, .int .i64 x2, .bool x3, .int .i64 x4, .int .i64 x5], .int .i64 now, .slice a ws.length cap] w fun e w' => ∃ (z0 z1 z2 : Int) (z3 : Bool) (z4 z5 : Int), e = .returned (.tuple #[.agg #[.int .i64 z0, .int .i64 z1, .int .i64 z2, .bool z3, .int .i64 z4, .int .i64 z5], .int .i64 (if B = true then ((looks now ⟨x0, x1, x2, x3, x4, x5⟩ ws).2 : Int) else 0)]) ∧ (if B = true then (looks now ⟨x0, x1, x2, x3, x4, x5⟩ ws).1 else zero) = ⟨z0, z1, z2, z3, z4, z5⟩ ∧ Below w.heap.size w w' := by
  cases B
  · have hno : ¬ AllOk ⟨x0, x1, x2, x3, x4, x5⟩ now ws := fun h => by have := hB.2 h; simp at this
    have key : Calls Try.prog 9 #[.agg #[.int .i64 x0, .int .i64 x1, .int .i64 x2, .bool x3, .int .i64 x4, .int .i64 x5], .int .i64 now, .slice a ws.length cap] w fun e w' => e = .returned (.tuple #[.agg #[.int .i64 0, .int .i64 0, .int .i64 0, .bool false, .int .i64 0, .int .i64 0], .int .i64 0]) ∧ Below w.heap.size w w' := by
      cases hok : codOk ⟨x0, x1, x2, x3, x4, x5⟩
      · exact all_bad x0 x1 x2 x3 x4 x5 now a cap ws w ho hm hok
      · by_cases h0 : now < 0
        · exact all_now0 x0 x1 x2 x3 x4 x5 now a cap ws w ho hm hok h0
        · by_cases h1 : 1000000000 < now
          · exact all_now1 x0 x1 x2 x3 x4 x5 now a cap ws w ho hm hok h1
          · exact all_wrong x0 x1 x2 x3 x4 x5 now a cap ws w ho hm hok (by omega) (fun hw => hno ⟨hw, hok, by omega, by omega⟩)
    refine key.mono fun e w' h => ?_
    exact ⟨0, 0, 0, false, 0, 0, by rw [if_neg (by simp)]; exact h.1, by rw [if_neg (by simp)]; rfl, h.2⟩
  · have h := hB.1 rfl
    refine (all_good x0 x1 x2 x3 x4 x5 now a cap ws w ho hm h.1 h.2.1 h.2.2).mono fun e w' h => ?_
    obtain ⟨z0, z1, z2, z3, z4, z5, h1, h2, h3⟩ := h
    exact ⟨z0, z1, z2, z3, z4, z5, by rw [if_pos rfl]; exact h1, by rw [if_pos rfl]; exact h2, h3⟩
end Go.Proofs.Ytdgkmiknnelddaa.CodAllI
