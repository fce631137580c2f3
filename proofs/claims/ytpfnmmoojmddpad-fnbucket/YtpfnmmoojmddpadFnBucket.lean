/- At every list of bytes: a bucket never holds more than it may, and gives a token when it says that it will, not earlier (the law FnBucket returns true), and the list is left as it was; no condition. -/
import Derived.Test.YtpfnmmoojmddpadRows
import Derived.WalkKit
import Derived.WalkSmall
import Derived.BigQuiet
import Derived.ProofKit
import Derived.OpenShut
import Derived.ChangeSlices
import Derived.Test.YtpfnmmoojmddpadDrawWalks
import Derived.Test.YtpfnmmoojmddpadCodeArg
import Derived.Test.YtpfnmmoojmddpadBucketMath
import Derived.Test.YtpfnmmoojmddpadBucketLaw
import Derived.Test.YtpfnmmoojmddpadBucketDraw
import Derived.Test.YtpfnmmoojmddpadBucketImpl
namespace Go.Proofs.Ytpfnmmoojmddpad.fnBucket
open Go.ChangeShapes Go.WideShapes Go.ChangeAt Go.RowKit CodeArg BucketMath BucketLaw BucketImpl
open DrawWalks (CodeOk make_num)
open BucketDraw (make_bucket cell_blk fz_blk past1 store4 else4)
set_option linter.unusedVariables false

theorem kept {w w' : World} {g : Nat} {o : Obj} (h : w.heap[g]? = some o) (hb : Below w.heap.size w w') : w'.heap[g]? = some o := (hb.block g (Array.getElem?_eq_some_iff.1 h).1).trans h

set_option maxHeartbeats 4000000 in
set_option maxRecDepth 8000 in
theorem walk_in (a : Option Addr) (len cap : Nat) (w : World) (hlen : (len : Int) ≤ 1048576) (hok : CodeOk w w.heap.size a len) :
    Calls Try.prog 5 #[.slice a len cap] w fun e w' => e = .returned (.bool true) ∧ Below w.heap.size w w' := by
  have HO : Hid (CodeOk w w.heap.size a len) := hok
  clear hok
  go_enter Try.func5, Try.ntmps5
  go_wp2_with fail
  refine (make_bucket len a cap _ hlen HO.out).mono ?_
  rintro e w1 ⟨b, r, h, t, rfl, bok, b4, r2, t2, b1⟩
  have B1 : Hid (Below w.heap.size w (w1.alloc (.cells #[.int .i64 b, .int .i64 r, .int .i64 h, .int .i64 t] 39))) := b1.alloc b1.size _
  have X1 := heap_alloc_new w1 (.cells #[.int .i64 b, .int .i64 r, .int .i64 h, .int .i64 t] 39)
  have HK : Hid (bOk b r h t ∧ b ≤ 4 ∧ r ≤ 2000 ∧ t ≤ 199) := ⟨bok, b4, r2, t2⟩
  clear b1 bok b4 r2 t2
  go_wp2_with fail
  refine (make_num len 900 a cap _ hlen (by omega) (by omega) (code_below HO.out B1.out)).mono ?_
  rintro e w2 ⟨now, rfl, na, nb, b2⟩
  have B2 : Hid (Below w.heap.size w w2) := B1.out.trans (b2.mono B1.out.size)
  have X2 := kept X1 b2
  have c0 := cell_blk X2 0
  have c1 := cell_blk X2 1
  have c2 := cell_blk X2 2
  have c3 := cell_blk X2 3
  clear X1 b2
  have HSM : Hid (Small b r h t now) := ⟨HK.out.1, HK.out.2.1, HK.out.2.2.1, HK.out.2.2.2, na, nb⟩
  have HT : Hid (isT now) := ⟨na, by omega⟩
  obtain ⟨tw, htw⟩ : ∃ tw, whenOf b r h t now = tw := ⟨_, rfl⟩
  have HTW : Hid (whenOf b r h t now = tw) := htw
  clear htw
  go_wp2_with fail
  refine (impl_when_yes b r h t now _ HK.out.1 HT.out).mono ?_
  rintro e w3 ⟨rfl, b3⟩
  rw [HTW.out]
  have B3 : Hid (Below w.heap.size w w3) := B2.out.trans (b3.mono B2.out.size)
  have X3 := kept X2 b3
  clear X2 b3 c0 c1 c2 c3
  have c0 := cell_blk X3 0
  have c1 := cell_blk X3 1
  have c2 := cell_blk X3 2
  have c3 := cell_blk X3 3
  go_wp2_with fail
  refine (impl_fill_yes b r h t now _ HK.out.1 HT.out).mono ?_
  rintro e w4 ⟨rfl, b4⟩
  have hfo := fill_ok HK.out.1 HT.out
  have hfge : h ≤ fillH b r h t now := by
    have hk := HK.out.1
    unfold bOk at hk
    unfold fillH
    split
    · have := Int.mul_nonneg (show 0 ≤ r by omega) (show 0 ≤ now - t by omega)
      split <;> omega
    · omega
  obtain ⟨F, hF⟩ : ∃ F, fillH b r h t now = F := ⟨_, rfl⟩
  obtain ⟨T, hT⟩ : ∃ T, fillT t now = T := ⟨_, rfl⟩
  rw [hF, hT] at hfo ⊢
  rw [hF] at hfge
  have HFO : Hid (bOk b r F T) := hfo.1
  have X4 := past1 (q := .cells #[.int .i64 b, .int .i64 r, .int .i64 F, .int .i64 T] 39) (kept X3 b4)
  have B4 : Hid (Below w.heap.size w (w4.alloc (.cells #[.int .i64 b, .int .i64 r, .int .i64 F, .int .i64 T] 39))) := (B3.out.trans (b4.mono B3.out.size)).alloc (B3.out.trans (b4.mono B3.out.size)).size _
  have Y4 := heap_alloc_new w4 (.cells #[.int .i64 b, .int .i64 r, .int .i64 F, .int .i64 T] 39)
  clear X3 b4 c0 c1 c2 c3 hF hT
  have k0 : 0 ≤ b ∧ b ≤ 4 := by have h1 := HK.out; unfold bOk at h1; omega
  have k1 : F ≤ 1000 * b := by have h1 := hfo.1; unfold bOk at h1; omega
  clear hfo
  go_wp2_with fail
  refine (impl_bok b r F T true _ ⟨fun _ => HFO.out, fun _ => rfl⟩).mono ?_
  rintro e w5 ⟨rfl, b5⟩
  have X5 := kept X4 b5
  have Y5 := kept Y4 b5
  have B5 : Hid (Below w.heap.size w w5) := B4.out.trans (b5.mono B4.out.size)
  have c0 := cell_blk X5 0
  have c1 := cell_blk X5 1
  have c2 := cell_blk X5 2
  have c3 := cell_blk X5 3
  have d0 := cell_blk Y5 0
  have d1 := cell_blk Y5 1
  have d2 := cell_blk Y5 2
  have d3 := cell_blk Y5 3
  have e1 : IntKind.i64.wrap (1000 * b) = 1000 * b := by rw [IntKind.wrap_i64]; omega
  have n1 : ¬ 1000 * b < F := by omega
  have n2 : ¬ F < h := by omega
  have m1 : decide (1000 * b < F) = false := by simp; omega
  have m2 : decide (F < h) = false := by simp; omega
  clear X4 Y4 b5 Y5
  by_cases hneg : tw < 0
  · have hw := when_neg HSM.out (by rw [HTW.out]; exact hneg)
    have HWN : Hid (fillH b r h t 500000 < 1000 ∧ (r = 0 ∨ b = 0)) := hw
    have HTK := fun W => impl_take_yes b r h t 500000 _ _ W HK.out.1 ⟨by omega, by omega⟩ rfl rfl
    rw [if_neg (by omega)] at HTK
    obtain ⟨F5, hF5⟩ : ∃ F5, fillH b r h t 500000 = F5 := ⟨_, rfl⟩
    obtain ⟨T5, hT5⟩ : ∃ T5, fillT t 500000 = T5 := ⟨_, rfl⟩
    rw [hF5, hT5] at HTK
    clear hw hF5 hT5
    go_wp2_with fail
    refine (HTK _).mono ?_
    rintro e w6 ⟨rfl, b6⟩
    have X6 := past1 (q := .cells #[.int .i64 b, .int .i64 r, .int .i64 F5, .int .i64 T5] 39) (kept X5 b6)
    have B6 : Hid (Below w.heap.size w (w6.alloc (.cells #[.int .i64 b, .int .i64 r, .int .i64 F5, .int .i64 T5] 39))) := (B5.out.trans (b6.mono B5.out.size)).alloc (B5.out.trans (b6.mono B5.out.size)).size _
    clear c0 c1 c2 c3 d0 d1 d2 d3 X5 b6
    have c0 := cell_blk X6 0
    have c1 := cell_blk X6 1
    by_cases hr : r = 0
    · have g1 : (r == 0) = true := by simpa using hr
      clear hr X6
      go_wp2
      go_ret
      exact ⟨rfl, B6.out⟩
    · have g1 : (r == 0) = false := by simpa using hr
      have g2 : (b == 0) = true := by have := HWN.out.2; simp; omega
      clear hr X6
      go_wp2
      go_ret
      exact ⟨rfl, B6.out⟩
  · have htw0 : 0 ≤ tw := by omega
    have HWO : Hid (isT tw ∧ 1000 ≤ fillH b r h t tw ∧ tw ≤ 3000 ∧ (now < tw → t < tw → fillH b r h t (tw - 1) < 1000)) := by
      have := when_ok HSM.out (by rw [HTW.out]; exact htw0)
      rw [HTW.out] at this
      exact this
    have hfo := fill_ok HK.out.1 HWO.out.1
    have HTK := fun W => impl_take_yes b r h t tw _ _ W HK.out.1 HWO.out.1 rfl rfl
    rw [if_pos HWO.out.2.1] at HTK
    have h1000 := HWO.out.2.1
    obtain ⟨F1, hF1⟩ : ∃ F1, fillH b r h t tw = F1 := ⟨_, rfl⟩
    obtain ⟨T1, hT1⟩ : ∃ T1, fillT t tw = T1 := ⟨_, rfl⟩
    rw [hF1, hT1] at HTK hfo
    rw [hF1] at h1000
    obtain ⟨hfo1, hT1w⟩ := hfo
    have HXO : Hid (bOk b r (F1 - 1000) T1) := by
      show bOk _ _ _ _
      unfold bOk at hfo1 ⊢
      omega
    have f1a : F1 ≤ 1000 * b := by unfold bOk at hfo1; omega
    have HTT : Hid (tw ≤ T1) := hT1w
    have HFO1 : Hid (bOk b r F1 T1) := hfo1
    clear hF1 hT1 hfo1 hT1w
    go_wp2_with fail
    refine (HTK _).mono ?_
    rintro e w6 ⟨rfl, b6⟩
    have X6 := past1 (q := .cells #[.int .i64 b, .int .i64 r, .int .i64 (F1 - 1000), .int .i64 T1] 39) (past1 (q := .cells #[.int .i64 b, .int .i64 r, .int .i64 (F1 - 1000), .int .i64 T1] 39) (kept X5 b6))
    have Y6 := past1 (q := .cells #[.int .i64 b, .int .i64 r, .int .i64 (F1 - 1000), .int .i64 T1] 39) (heap_alloc_new w6 (.cells #[.int .i64 b, .int .i64 r, .int .i64 (F1 - 1000), .int .i64 T1] 39))
    have Z6 : ((w6.alloc (.cells #[.int .i64 b, .int .i64 r, .int .i64 (F1 - 1000), .int .i64 T1] 39)).alloc (.cells #[.int .i64 b, .int .i64 r, .int .i64 (F1 - 1000), .int .i64 T1] 39)).heap[w6.heap.size + 1]? = some (.cells #[.int .i64 b, .int .i64 r, .int .i64 (F1 - 1000), .int .i64 T1] 39 (0, 0)) := by
      have := heap_alloc_new (w6.alloc (.cells #[.int .i64 b, .int .i64 r, .int .i64 (F1 - 1000), .int .i64 T1] 39)) (.cells #[.int .i64 b, .int .i64 r, .int .i64 (F1 - 1000), .int .i64 T1] 39)
      simpa using this
    have B6' := (B5.out.trans (b6.mono B5.out.size)).alloc (B5.out.trans (b6.mono B5.out.size)).size (.cells #[.int .i64 b, .int .i64 r, .int .i64 (F1 - 1000), .int .i64 T1] 39)
    have B6 : Hid (Below w.heap.size w ((w6.alloc (.cells #[.int .i64 b, .int .i64 r, .int .i64 (F1 - 1000), .int .i64 T1] 39)).alloc (.cells #[.int .i64 b, .int .i64 r, .int .i64 (F1 - 1000), .int .i64 T1] 39))) := B6'.alloc B6'.size _
    have hx6 : w1.heap.size < w6.heap.size := (Array.getElem?_eq_some_iff.1 (kept X5 b6)).1
    have hw6 : w.heap.size ≤ w6.heap.size := (B5.out.trans (b6.mono B5.out.size)).size
    clear c0 c1 c2 c3 d0 d1 d2 d3 X5 b6 HTK B6'
    go_wp2_with fail
    go_loopw [12, 13] (fun ns is wr => ∃ k : Nat, k ≤ 20 ∧ ns = .int .i64 k ∧ is = .int .i64 k ∧ Hid (1000 * ((k : Int) + 1) ≤ F1) ∧ Hid (wr.heap[w1.heap.size]? = some (.cells #[.int .i64 b, .int .i64 r, .int .i64 h, .int .i64 t] 39 (0, 0))) ∧ Hid (wr.heap[w6.heap.size]? = some (.cells #[.int .i64 b, .int .i64 r, .int .i64 (F1 - 1000), .int .i64 T1] 39 (0, 0))) ∧ Hid (wr.heap[w6.heap.size + 1]? = some (.cells #[.int .i64 b, .int .i64 r, .int .i64 (F1 - 1000 - 1000 * (k : Int)), .int .i64 T1] 39 (0, 0))) ∧ Hid (Below w.heap.size w wr)) (fun _ is _ => 20 - (intOf is).toNat)
    case atStart => exact ⟨0, by omega, rfl, rfl, by show _ ≤ _; omega, X6, Y6, by show _ = _; rw [Z6]; simp, B6⟩
    case round =>
      clear X6 Y6 Z6 B6
      obtain ⟨k, hk, rfl, rfl, HF1, HX, HY, HZ, HB⟩ := hrel
      have HKB : Hid ((k : Int) + 1 ≤ b) := by have := HF1.out; show _ ≤ _; omega
      by_cases hlt : k < 20
      · have hli : (k : Int) < 20 := by omega
        obtain ⟨G, hG⟩ : ∃ G, F1 - 1000 - 1000 * (k : Int) = G := ⟨_, rfl⟩
        have HZ2 := HZ.out
        rw [hG] at HZ2
        have HGE : Hid (F1 - 1000 - 1000 * (k : Int) = G) := hG
        have g0 := cell_blk HZ2 0
        have g1 := cell_blk HZ2 1
        have g2 := cell_blk HZ2 2
        have g3 := cell_blk HZ2 3
        have hgo : bOk b r G T1 := by
          have h1 := HFO1.out
          have h2 := HF1.out
          unfold bOk at h1 ⊢
          omega
        have e1 : fillH b r G T1 tw = G := if_neg (by have := HTT.out; omega)
        have e2 : fillT T1 tw = T1 := if_neg (by have := HTT.out; omega)
        have HTY := fun W => impl_take_yes b r G T1 tw G T1 W hgo HWO.out.1 e1 e2
        clear hG e1 e2 hgo
        by_cases hm : 1000 ≤ G
        · rw [if_pos hm] at HTY
          go_wp2_with fail
          refine (HTY _).mono ?_
          rintro e w7 ⟨rfl, b7⟩
          have X7 := past1 (q := .cells #[.int .i64 b, .int .i64 r, .int .i64 (G - 1000), .int .i64 T1] 39) (kept HX.out b7)
          have Y7 := past1 (q := .cells #[.int .i64 b, .int .i64 r, .int .i64 (G - 1000), .int .i64 T1] 39) (kept HY.out b7)
          have Z7 := past1 (q := .cells #[.int .i64 b, .int .i64 r, .int .i64 (G - 1000), .int .i64 T1] 39) (kept HZ2 b7)
          have hz7 : w6.heap.size + 1 < w7.heap.size := (Array.getElem?_eq_some_iff.1 (kept HZ2 b7)).1
          have B7' := HB.out.trans (b7.mono HB.out.size)
          have B7 : Hid (Below w.heap.size w (w7.alloc (.cells #[.int .i64 b, .int .i64 r, .int .i64 (G - 1000), .int .i64 T1] 39))) := B7'.alloc B7'.size _
          have z0 := cell_blk Z7 0
          have z1 := cell_blk Z7 1
          have z2 := cell_blk Z7 2
          have z3 := cell_blk Z7 3
          have zf0 := fz_blk Z7 0
          have zf1 := fz_blk Z7 1
          have zf2 := fz_blk Z7 2
          have zf3 := fz_blk Z7 3
          have Z8 : Hid (_) := store4 (x0 := .int .i64 b) (x1 := .int .i64 r) (x2 := .int .i64 (G - 1000)) (x3 := .int .i64 T1) Z7
          have X8 : Hid (_) := else4 (b := w6.heap.size + 1) (x0 := .int .i64 b) (x1 := .int .i64 r) (x2 := .int .i64 (G - 1000)) (x3 := .int .i64 T1) X7 (by omega)
          have Y8 : Hid (_) := else4 (b := w6.heap.size + 1) (x0 := .int .i64 b) (x1 := .int .i64 r) (x2 := .int .i64 (G - 1000)) (x3 := .int .i64 T1) Y7 (by omega)
          have hb6 : w.heap.size ≤ w6.heap.size + 1 := by omega
          have B8 : Hid (_) := (((B7.out.setCell (p := ⟨w6.heap.size + 1, 0, none⟩) hb6 (.int .i64 b)).setCell (p := ⟨w6.heap.size + 1, 1, none⟩) hb6 (.int .i64 r)).setCell (p := ⟨w6.heap.size + 1, 2, none⟩) hb6 (.int .i64 (G - 1000))).setCell (p := ⟨w6.heap.size + 1, 3, none⟩) hb6 (.int .i64 T1)
          have ne1 : w7.heap.size ≠ w6.heap.size + 1 := by omega
          have ne2 : w6.heap.size + 1 ≠ w7.heap.size := by omega
          have HM : Hid (1000 ≤ G) := hm
          clear g0 g1 g2 g3 b7 X7 Y7 Z7 HZ2 B7' HTY hz7 hb6 hx6 hw6 hm h1000 f1a k1 k0 n1 n2 m1 m2 hfge hneg e1
          go_wp2_with fail
          go_roundw
          case rel => exact ⟨k + 1, by omega, by go_num, by go_num, by have := HGE.out; have := HM.out; show _ ≤ _; push_cast; omega, X8, Y8, by have h9 := Z8.out; have h8 := HGE.out; show _ = _; rw [show F1 - 1000 - 1000 * ((k + 1 : Nat) : Int) = G - 1000 from by push_cast; omega]; exact h9, B8⟩
          case measure => simp [intOf]; omega
        · rw [if_neg hm] at HTY
          go_wp2_with fail
          refine (HTY _).mono ?_
          rintro e w7 ⟨rfl, b7⟩
          have X7 := past1 (q := .cells #[.int .i64 b, .int .i64 r, .int .i64 G, .int .i64 T1] 39) (kept HX.out b7)
          have Y7 := past1 (q := .cells #[.int .i64 b, .int .i64 r, .int .i64 G, .int .i64 T1] 39) (kept HY.out b7)
          have B7' := HB.out.trans (b7.mono HB.out.size)
          have B7 : Hid (Below w.heap.size w (w7.alloc (.cells #[.int .i64 b, .int .i64 r, .int .i64 G, .int .i64 T1] 39))) := B7'.alloc B7'.size _
          clear g0 g1 g2 g3 b7 HZ2 B7'
          have c0 := cell_blk X7 0
          have c1 := cell_blk X7 1
          have c2 := cell_blk X7 2
          have c3 := cell_blk X7 3
          have d0 := cell_blk Y7 0
          have d1 := cell_blk Y7 1
          have d2 := cell_blk Y7 2
          have d3 := cell_blk Y7 3
          have nk : ¬ b < (k : Int) := by have := HKB.out; omega
          have mk : decide (b < (k : Int)) = false := by simp; omega
          go_wp2_with fail
          refine (impl_bok b r (F1 - 1000) T1 true _ ⟨fun _ => HXO.out, fun _ => rfl⟩).mono ?_
          rintro e wa ⟨rfl, ba⟩
          have BA : Hid (Below w.heap.size w wa) := B7.out.trans (ba.mono B7.out.size)
          have XA := kept X7 ba
          clear c0 c1 c2 c3 d0 d1 d2 d3 ba
          have c0 := cell_blk XA 0
          have c1 := cell_blk XA 1
          have c2 := cell_blk XA 2
          have c3 := cell_blk XA 3
          by_cases g1 : now < tw
          · by_cases g2 : t < tw
            · have HE := HWO.out.2.2.2 g1 g2
              have HTE := fun W => impl_take_yes b r h t (tw - 1) _ _ W HK.out.1 ⟨by omega, by have := HWO.out.1; unfold isT at this; omega⟩ rfl rfl
              rw [if_neg (by omega)] at HTE
              obtain ⟨F2, hF2⟩ : ∃ F2, fillH b r h t (tw - 1) = F2 := ⟨_, rfl⟩
              obtain ⟨T2, hT2⟩ : ∃ T2, fillT t (tw - 1) = T2 := ⟨_, rfl⟩
              rw [hF2, hT2] at HTE
              have ew : IntKind.i64.wrap (tw - 1) = tw - 1 := by rw [IntKind.wrap_i64]; have := HWO.out.1; unfold isT at this; omega
              clear HE hF2 hT2
              go_wp2_with fail
              refine (HTE _).mono ?_
              rintro e wb ⟨rfl, bb⟩
              have BB : Hid (Below w.heap.size w wb) := BA.out.trans (bb.mono BA.out.size)
              clear bb c0 c1 c2 c3 XA
              go_wp2
              go_ret
              exact ⟨rfl, BB.out.alloc BB.out.size _⟩
            · have g3 : decide (t < tw) = false := by simp; omega
              go_wp2
              go_ret
              exact ⟨rfl, BA.out⟩
          · have g3 : decide (now < tw) = false := by simp; omega
            go_wp2
            go_ret
            exact ⟨rfl, BA.out⟩
      · obtain rfl : k = 20 := by omega
        have := HKB.out
        omega

theorem walk (w : World) (a : Option Addr) (len cap : Nat) (zs : List Int) (hrow : IsRow .u8 w a len cap zs) :
    Calls Try.prog 5 #[.slice a len cap] w fun e w' => e = .returned (.bool true) ∧ Below w.heap.size w w' := by
  have hcap := row_len hrow
  have hok := code_of hrow
  by_cases hbig : 1048576 < (len : Int)
  · clear hrow hok
    go_enter Try.func5, Try.ntmps5
    go_wp2
    go_ret
    exact ⟨rfl, Below.refl _ _⟩
  · exact walk_in a len cap w (by omega) hok

theorem own : ownKnob Try.prog.godebug = none := by kernel_rfl
theorem laidOut : laidOutB Try.prog = true := by kernel_rfl

set_option maxRecDepth 100000 in
theorem lifted (os : Os) (started : os.Started) (H : Type) (enc : TypeId × Value → H) :
    ReturnsInHanded {} Try.checked os 5 .any (Rows.fnBucketSpec.pre6 enc Try.prog Try.f5 Rows.fnBucketRow.domain false) (Rows.fnBucketSpec.post enc Try.prog Try.f5 false true false false) := by
  refine returnsInHanded_of_change (C := Try.checked) own started (by kernel_rfl) Try.func5
    (ChangeSpec.witness6 (enc := enc) (C := Try.checked) false ⟨#[], #[.slice none 0 0], []⟩ 8 (by kernel_rfl) (by kernel_rfl) (by kernel_rfl) (by kernel_rfl)) ?_
  intro W base args ds gs before hval0 hW hcnd _
  have hval : ∀ (j : Nat) t v, Try.f5.params[j]? = some t → args[j]? = some v → Value.okWide Try.prog W .any base t v := hval0
  have hW' := hW
  obtain ⟨p, q, hA0, hV, rfl, hfz, hnd⟩ := hW
  have hA : DataW.TrodAll enc Try.prog W 0 (fun _ => true) true Try.f5.params.toList args.toList ds p := hA0
  rw [Try.params5] at hA hval
  obtain ⟨v0, vs0, d0, ds0, p0, q0, hargs, rfl, rfl, h0, r0⟩ := trodAll_cons hA
  obtain ⟨rfl, rfl, rfl⟩ := trodAll_nil r0
  obtain rfl : args = #[v0] := by cases args; simp_all
  obtain ⟨rfl, rfl⟩ := trodVars_none hV
  obtain ⟨a0, len0, cap0, rfl⟩ := okWide_slice Try.underlying22 (hval 0 22 v0 rfl rfl)
  have k0 := h0
  have lt0 : ∀ x ∈ p0, x.block < W.heap.size := by obtain ⟨m, hm⟩ := k0; exact DataW.trod_lt m _ _ _ hm
  obtain ⟨z0, w0⟩ : ∃ zs, IsRow .u8 W a0 len0 cap0 zs := by
    obtain ⟨fuel, hf⟩ := h0
    rcases open_ints Try.underlying22 Try.underlying5 (by kernel_rfl) hf with ⟨hcs, _⟩ | ⟨x, l, c, zs, hcs, _, hl, hm, hz, _, hcell, hwz⟩
    · simp [Value.cells] at hcs
      obtain ⟨rfl, rfl, rfl⟩ := hcs
      exact ⟨[], .inl ⟨rfl, rfl, rfl, rfl⟩⟩
    · simp [Value.cells] at hcs
      obtain ⟨rfl, rfl, rfl⟩ := hcs
      exact ⟨zs, .inr ⟨_, rfl, hl, hm, by simpa using hz, hcell, hwz⟩⟩
  clear hA0 hval0
  refine (walk W a0 len0 cap0 z0 w0).mono fun e W' ⟨he, hb⟩ => ?_
  subst he
  exact ⟨_, rfl, _, _, _, [], _, [], hW', trodAll_cons_mk (shut_bool Try.underlying4 _) trodAll_mk0, (trodAll_cons_mk (Below.trod laidOut (by kernel_rfl) (of_decide_eq_true (by kernel_rfl)) k0 hb lt0) trodAll_mk0), rfl, hb.frame _, fun h => by cases h⟩

theorem over : Rows.fnBucketRow.holds Try.pinned (OpenSpec.ofChange Rows.fnBucketSpec) :=
  OpenClaim.holds_of_wide 5 Try.f5 rfl rfl rfl rfl rfl rfl rfl ⟨rfl, rfl, rfl, rfl, rfl⟩ rfl rfl rfl rfl rfl (by kernel_rfl) Try.func5 (by kernel_rfl)
    (of_decide_eq_true (by kernel_rfl)) (by unfold Func.isWrapper; first | (rw [if_pos (by decide +kernel)]; kernel_rfl) | (rw [if_neg (by decide +kernel)]; exact ⟨rfl, rfl⟩))
    (fun os started H enc _ => lifted os started H enc)

theorem proved : Rows.FnBucketSaid :=
  over
end Go.Proofs.Ytpfnmmoojmddpad.fnBucket
