/- Ledgers as the model draws them: right, small, in memory of their own; nothing else turns but the cursor. -/
import Derived.Test.YtacpblhajoblmaaDoorRows
import Derived.WalkKit
import Derived.WalkSmall
import Derived.BigQuiet
import Derived.Deep.RegionWith
import Derived.Deep.DeepCutAuto
import Derived.Laws.AppendOwn
import Derived.Test.YtacpblhajoblmaaDoorListKit
import Derived.Test.YtacpblhajoblmaaDoorSlotKit
import Derived.Test.YtacpblhajoblmaaDoorSlotOks
import Derived.Test.YtacpblhajoblmaaDoorLedFind
import Derived.Test.YtacpblhajoblmaaDoorLedCount
import Derived.Test.YtacpblhajoblmaaDoorLedOk
import Derived.Test.YtacpblhajoblmaaDoorLedPermit
import Derived.Test.YtacpblhajoblmaaDoorLedCopy
import Derived.Test.YtacpblhajoblmaaDoorLedGrant
import Derived.Test.YtacpblhajoblmaaDoorLedMath
import Derived.Test.YtacpblhajoblmaaDoorLedGrantS
import Derived.Test.YtacpblhajoblmaaDoorLedBoth
import Derived.Test.YtacpblhajoblmaaDoorLedFour
import Derived.Test.YtacpblhajoblmaaDoorLedHeld
import Derived.Test.YtacpblhajoblmaaDoorLedRel
import Derived.Test.YtacpblhajoblmaaDoorLedRelS
import Derived.Test.YtacpblhajoblmaaDoorLedBothR
import Derived.Test.YtacpblhajoblmaaDoorLedInv
import Derived.Test.YtacpblhajoblmaaDoorDrawWalks
import Derived.Test.YtacpblhajoblmaaDoorCodeArg
import Derived.Test.YtacpblhajoblmaaDoorDrawKit
import Derived.Test.YtacpblhajoblmaaDoorRegFlow
import Derived.Test.YtacpblhajoblmaaDoorFlowDraw
namespace Go.Proofs.YtacpblhajoblmaaDoor.LedDraw
open Go.RowKit ListKit SlotKit SlotOks LedFind LedCount LedOk LedPermit LedCopy LedGrant LedMath LedBoth LedFour LedHeld LedRel LedBothR LedInv DrawKit FlowDraw
set_option maxRecDepth 8000
set_option linter.unusedVariables false
set_option linter.unusedSimpArgs false

/-- In the midst of a ledger's drawing: the answer's box, the ledger's, its slots, the permits, the cursor. -/
structure DSt (w W X : World) (g : Nat) (a : Option Addr) (n cap : Nat) (aL : Option Addr) (cL : Nat) (L : List Slot) (pv : Value) (Ps : List (Int × Int)) : Prop where
  res : X.heap[W.heap.size]? = some (.cells #[.slice none 0 0] 25 (0, 0))
  box : X.heap[W.heap.size + 1]? = some (.cells #[.slice aL L.length cL] 25 (0, 0))
  room : L.length ≤ cL
  own : Own 35 5 cells X aL L
  far : ∀ b, blkL aL L = some b → W.heap.size + 1 < b
  perms : OwnP X (W.heap.size + 1 + 1) pv Ps
  apart : ∀ b, blkL aL L = some b → pv.ownBlock ≠ some b
  ready : Ready w X g a n cap
  grown : W.grownBy X (some g)
  low : g < W.heap.size
theorem DSt.step {w W X Y : World} {g n cap cL : Nat} {a aL : Option Addr} {L : List Slot} {pv : Value} {Ps : List (Int × Int)} (h : DSt w W X g a n cap aL cL L pv Ps) (gr : X.grownBy Y (some g)) (rd : Ready w Y g a n cap) : DSt w W Y g a n cap aL cL L pv Ps :=
  ⟨kept_draw h.res (Nat.ne_of_gt h.low) gr, kept_draw h.box (by have := h.low; omega) gr, h.room, h.own.grown gr (fun b hb e => by have := h.far b hb; have := h.low; cases e; omega), h.far, h.perms.grown gr (by have := h.low; omega), h.apart, rd, gr_then h.grown gr, h.low⟩
theorem DSt.below {w W X Y : World} {g n cap cL : Nat} {a aL : Option Addr} {L : List Slot} {pv : Value} {Ps : List (Int × Int)} (h : DSt w W X g a n cap aL cL L pv Ps) (hb : Below X.heap.size X Y) : DSt w W Y g a n cap aL cL L pv Ps := h.step (gr_below (gr_refl _) hb) (h.ready.below hb)

def DrAns (w W : World) (g : Nat) (a : Option Addr) (n cap : Nat) (e : Ending) (w' : World) : Prop := ∃ (aL : Option Addr) (cL : Nat) (L : List Slot), e = .returned (.agg #[.slice aL L.length cL]) ∧ L.length ≤ cL ∧ LedInv.Good 9 L ∧ Own 35 5 cells w' aL L ∧ (∀ b, blkL aL L = some b → W.heap.size ≤ b) ∧ Ready w w' g a n cap ∧ W.grownBy w' (some g)
theorem dst_start {w W : World} {g n cap : Nat} {a : Option Addr} (h : Ready w W g a n cap) : DSt w W (((W.alloc (.cells #[.slice none 0 0] 25)).alloc (.cells #[.slice none 0 0] 25)).alloc (.cells #[] 28)) g a n cap none 0 [] (.slice (some ⟨W.heap.size + 1 + 1, 0, none⟩) 0 0) [] := by
  have hl := h.lt
  have hb : Below W.heap.size W (((W.alloc (.cells #[.slice none 0 0] 25)).alloc (.cells #[.slice none 0 0] 25)).alloc (.cells #[] 28)) := (((Below.refl _ _).alloc (Nat.le_refl _) _).alloc (by simp) _).alloc (by simp; omega) _
  refine ⟨?_, ?_, Nat.le_refl _, Or.inl rfl, fun b hb => by simp [blkL] at hb, ⟨rfl, Or.inr ⟨_, 0, #[], rfl, Nat.le_refl _, ?_, Nat.le_refl _, by unfold maxLen; omega, rfl, rfl⟩⟩, fun b hb => by simp [blkL] at hb, h.below hb, gr_below (gr_refl _) hb, hl⟩
  · rw [Below.heap_alloc _ _ _ (by simp; omega), Below.heap_alloc _ _ _ (by simp)]
    exact heap_alloc_new W _
  · rw [Below.heap_alloc _ _ _ (by simp)]
    have := heap_alloc_new (W.alloc (.cells #[.slice none 0 0] 25)) (.cells #[.slice none 0 0] 25)
    simpa using this
  · have := heap_alloc_new ((W.alloc (.cells #[.slice none 0 0] 25)).alloc (.cells #[.slice none 0 0] 25)) (.cells #[] 28)
    simpa using this
/-- Behind a release: the ledger's box stored anew. -/
theorem DSt.put {w W X : World} {g n cap cL c2 : Nat} {a aL a2 : Option Addr} {L L2 : List Slot} {pv : Value} {Ps : List (Int × Int)} (h : DSt w W X g a n cap aL cL L pv Ps) (hc : L2.length ≤ c2) (ho : Own 35 5 cells X a2 L2) (hf : ∀ b, blkL a2 L2 = some b → W.heap.size + 1 < b) (hap : ∀ b, blkL a2 L2 = some b → pv.ownBlock ≠ some b) : DSt w W (sets X (W.heap.size + 1) 0 [.slice a2 L2.length c2]) g a n cap a2 c2 L2 pv Ps := by
  have hl := h.low
  have hw := h.ready.past.size
  have hg := h.ready.low
  exact ⟨kept_set h.res (by show W.heap.size ≠ W.heap.size + 1; omega), by have := set_at h.box 0 (.slice a2 L2.length c2); exact this, hc, ho.set (fun b hb => by have := hf b hb; show b ≠ W.heap.size + 1; omega) _, hf, h.perms.set (by show W.heap.size + 1 < W.heap.size + 1 + 1; omega) _, hap, h.ready.set (by show g ≠ W.heap.size + 1; omega) (by show w.heap.size ≤ W.heap.size + 1; omega) _, gr_set h.grown (by show W.heap.size ≤ W.heap.size + 1; omega) _, h.low⟩
theorem infoP : (Tryd.prog.info? 28).map (fun i => (i.zero, i.size, i.bytes)) = some (some (.agg #[.int .i64 0, .int .i64 0]), 2, 16) := by kernel_rfl
theorem infoP_parts {t : TypeId} {z : Option Value} {s b : Nat} (h : (Tryd.prog.info? t).map (fun i => (i.zero, i.size, i.bytes)) = some (z, s, b)) : ∃ i, Tryd.prog.info? t = some i ∧ i.zero = z ∧ i.size = s ∧ i.bytes = b := by
  obtain ⟨i, h1, h2⟩ := Option.map_eq_some_iff.1 h
  simp at h2
  exact ⟨i, h1, h2.1, h2.2.1, h2.2.2⟩
theorem newP (X : World) (P G : Int) : ∀ j u, (cellsP (P, G))[j]? = some u → (X.alloc (.cells #[.int .i64 P, .int .i64 G] 28)).cell? ((⟨X.heap.size, 0, none⟩ : Addr).add j) = some u := fun j u hu => by
  rw [Addr.add_lit]
  have h := cellB (heap_alloc_new X (.cells #[.int .i64 P, .int .i64 G] 28)) (0 + j)
  rw [h, ← hu]
  simp [cellsP]
theorem oneP (q : Int × Int) : ∀ u ∈ cellsP q, u.oneCell' = true := by
  intro u hu
  simp [cellsP] at hu
  rcases hu with rfl | rfl <;> rfl
theorem own_blk {X : World} {B : Nat} {pv : Value} {Ps : List (Int × Int)} (h : OwnP X B pv Ps) : ∀ b, pv.ownBlock = some b → B ≤ b := by
  intro b e
  obtain ⟨_, ⟨hv, _⟩ | ⟨b', cap, cur, hv, hb, _⟩⟩ := h
  · subst hv; cases e
  · subst hv
    have e2 : b' = b := Option.some.inj e
    omega
/-- Behind an append to the permits. -/
theorem DSt.append {w W X Y : World} {g n cap cL : Nat} {a aL : Option Addr} {L : List Slot} {pv v9 : Value} {Ps : List (Int × Int)} {A : Obj} {q : Int × Int} (h : DSt w W X g a n cap aL cL L pv Ps) (hg : (X.alloc A).grownBy Y pv.ownBlock) (ho : Y.ownsRow (W.heap.size + 1 + 1) 28 2 v9 (Ps.length + 1) (flatP Ps ++ cellsP q)) : DSt w W Y g a n cap aL cL L v9 (Ps ++ [q]) := by
  have h1 := h.below ((Below.refl _ _).alloc (Nat.le_refl _) A)
  have hb := own_blk h1.perms
  have hl := h.low
  have hs := hg.size
  have keep : ∀ k, k < (X.alloc A).heap.size → k < W.heap.size + 1 + 1 → Y.heap[k]? = (X.alloc A).heap[k]? := fun k hk hk2 => hg.block k hk (fun e => by have := hb k e.symm; omega)
  have hbx := (Array.getElem?_eq_some_iff.1 h1.box).1
  have hp : OwnP Y (W.heap.size + 1 + 1) v9 (Ps ++ [q]) := by
    unfold OwnP
    rw [flatP_app, List.length_append]
    exact ho
  have hown : Own 35 5 cells Y aL L := h1.own.grown hg (fun b hbb e => h1.apart b hbb e.symm)
  have hpast : Below w.heap.size w Y := h1.ready.past.grown hg h1.ready.past.size (fun k hk => by have := hb k hk; have := h1.ready.past.size; have := h.ready.low; omega)
  refine ⟨(keep _ (by omega) (by omega)).trans h1.res, (keep _ (by omega) (by omega)).trans h1.box, h.room, hown, h.far, hp, apart_of hown hp, ?_, ?_, hl⟩
  · obtain ⟨r0, r1, r2, ⟨i, k, r3, r4, r5⟩, r6⟩ := h1.ready
    exact ⟨r0, r1, r2, ⟨i, k, r3, r4, (keep _ r5.lt (by omega)).trans r5⟩, hpast⟩
  · have hgr := h1.grown
    exact ⟨hg.os.trans hgr.os, hg.tape.trans hgr.tape, hg.output.trans hgr.output, Nat.le_trans hgr.size hs, fun k hk hne => (keep k (Nat.lt_of_lt_of_le hk hgr.size) (by omega)).trans (hgr.block k hk hne)⟩
set_option maxHeartbeats 8000000 in
theorem draw_led (w W : World) (g : Nat) (a : Option Addr) (n cap : Nat) (h : Ready w W g a n cap) : Calls Tryd.prog 12 #[.pointer (some ⟨g, 0, none⟩)] W (DrAns w W g a n cap) := by
  have D0 : Hid (DSt w W (((W.alloc (.cells #[.slice none 0 0] 25)).alloc (.cells #[.slice none 0 0] 25)).alloc (.cells #[] 28)) g a n cap none 0 [] (.slice (some ⟨W.heap.size + 1 + 1, 0, none⟩) 0 0) []) := dst_start h
  have hlow := h.lt
  have HWW : Hid (w.heap.size ≤ W.heap.size) := h.past.size
  clear h
  go_enter Tryd.func12, Tryd.ntmps12
  go_wp2_with (go_at_call 22; refine (draw w _ g a n cap 10 D0.out.ready (by omega) (by omega)).mono ?_; rintro e w1 ⟨y, rfl, ya, yb, rd, gr⟩; have D1 : Hid (DSt w W w1 g a n cap none 0 [] (.slice (some ⟨W.heap.size + 1 + 1, 0, none⟩) 0 0) []) := D0.out.step gr rd; clear rd gr D0)
  go_loopw [4, 5] (fun pv m wr => ∃ (N : Nat) (aL : Option Addr) (cL : Nat) (L : List Slot) (Ps : List (Int × Int)), N ≤ 9 ∧ Ps.length + N ≤ 9 ∧ m = .int .i64 (N : Int) ∧ Hid (DSt w W wr g a n cap aL cL L pv Ps) ∧ Hid (LedInv.Good (9 - N) L)) (fun _ m _ => (intOf m).toNat)
  case atStart => exact ⟨y.toNat, none, 0, [], [], by omega, by simp; omega, by rw [Int.toNat_of_nonneg ya], D1, LedInv.good_nil.up (by omega)⟩
  case round =>
    clear D1
    obtain ⟨N, aL, cL, L, Ps, hN, hPN, rfl, HD, HGD⟩ := hrel
    by_cases hz : N = 0
    · subst hz
      have c0 : wr.cell? ⟨W.heap.size + 1, 0, none⟩ = some (.slice aL L.length cL) := cellB HD.out.box 0
      have l0 : wr.cell? ⟨W.heap.size, 0, none⟩ = some (.slice none 0 0) := cellB HD.out.res 0
      have lf0 := fzB HD.out.res 0
      go_wp2
      refine bodyPost_ret (v := .agg #[.slice aL L.length cL]) (by simp [results, Tryd.results12, go_sem, l0]) rfl ⟨aL, cL, L, rfl, HD.out.room, HGD.out, HD.out.own.set (fun b hb => by have := HD.out.far b hb; show b ≠ W.heap.size; omega) _, fun b hb => by have := HD.out.far b hb; omega, HD.out.ready.set (by show g ≠ W.heap.size; omega) HWW.out _, gr_set HD.out.grown (Nat.le_refl _) _⟩
    · obtain ⟨M, rfl⟩ : ∃ M, N = M + 1 := ⟨N - 1, by omega⟩
      have hpos : (0 : Int) < ((M + 1 : Nat) : Int) := by omega
      obtain ⟨ap, cp, hpv⟩ := HD.out.perms.shape
      subst hpv
      go_upto_region 6 with fail
      go_cut [24] (fun v wx => ∃ bb : Bool, v = .bool bb ∧ (bb = true → 0 < Ps.length) ∧ Hid (DSt w W wx g a n cap aL cL L (.slice ap Ps.length cp) Ps))
      case first =>
        by_cases hp0 : Ps.length = 0
        · have e1 : decide ((0 : Int) < (Ps.length : Int)) = false := decide_eq_false (by omega)
          go_wp2
          go_meet
          exact ⟨false, rfl, fun h => (by cases h), HD⟩
        · have e1 : decide ((0 : Int) < (Ps.length : Int)) = true := decide_eq_true (by omega)
          go_wp2_with (go_at_call 22; refine (draw w _ g a n cap 3 HD.out.ready (by omega) (by omega)).mono ?_; rintro e w2 ⟨y2, rfl, ya2, yb2, rd2, gr2⟩; have D2 : Hid (DSt w W w2 g a n cap aL cL L (.slice ap Ps.length cp) Ps) := HD.out.step gr2 rd2; clear rd2 gr2)
          go_meet
          exact ⟨_, rfl, fun _ => by omega, D2⟩
      case rest =>
        obtain ⟨bb, rfl, hpl, HE⟩ := hcut
        obtain ⟨wd, rfl⟩ : ∃ v, v = wc := ⟨_, rfl⟩
        clear HD
        have hbox : W.heap.size + 1 < wd.heap.size := (Array.getElem?_eq_some_iff.1 HE.out.box).1
        have c0 : wd.cell? ⟨W.heap.size + 1, 0, none⟩ = some (.slice aL L.length cL) := cellB HE.out.box 0
        cases bb with
        | true =>
          have hpl2 := hpl rfl
          obtain ⟨gp, cp2, hv, hcp, _, _⟩ := HE.out.perms.at (i := 0) hpl2
          injection hv with hv1 hv2 hv3
          subst hv1
          subst hv3
          clear hv2
          have hgp : gp < wd.heap.size := own_lt HE.out.perms
          clear hpl
          go_upto_region 7 with fail
          refine RegFlow.wp_region_flow (fun b u wI => ∃ (ws : World) (ky : Nat) (px : Int) (py : Int) (aN : Option Addr) (cN : Nat) (L2 : List Slot) (s : Slot) (B : Bool), wI = (Stored (b 13) ws (W.heap.size + 1) [.slice aN L2.length cN]) ∧ wd.grownBy ws (some g) ∧ Ready w ws g a n cap ∧ (b 0 = true → u 0 = .agg #[.slice aL L.length cL]) ∧ (b 1 = true → u 1 = (.slice (some ⟨gp, 0, none⟩) Ps.length cp)) ∧ (b 2 = true → u 2 = .pointer (some ⟨g, 0, none⟩)) ∧ (b 3 = true → u 3 = (.slice (some ⟨gp, 0, none⟩) Ps.length cp)) ∧ (b 4 = true → u 4 = .int .i64 (Ps.length : Int)) ∧ (b 5 = true → u 5 = .int .i64 (ky : Int) ∧ ky < Ps.length) ∧ (b 6 = true → u 6 = .pointer (some ⟨gp, ky * 2, none⟩)) ∧ (b 7 = true → u 7 = .agg #[.int .i64 px, .int .i64 py]) ∧ (b 8 = true → u 8 = .tuple #[.agg #[.slice aN L2.length cN], .agg #[.int .i64 s.x0, .bool s.x1, .int .i64 s.x2, .int .i64 s.x3, .int .i64 s.x4], .bool B] ∧ Own 35 5 cells ws aN L2 ∧ (∀ x, blkL aN L2 = some x → wd.heap.size ≤ x) ∧ L2.length ≤ cN ∧ Rl L px py L2 s B) ∧ (b 9 = true → u 9 = .tuple #[.agg #[.slice aN L2.length cN], .agg #[.int .i64 s.x0, .bool s.x1, .int .i64 s.x2, .int .i64 s.x3, .int .i64 s.x4], .bool B]) ∧ (b 10 = true → u 10 = .agg #[.slice aN L2.length cN]) ∧ (b 11 = true → u 11 = .agg #[.int .i64 s.x0, .bool s.x1, .int .i64 s.x2, .int .i64 s.x3, .int .i64 s.x4]) ∧ (b 12 = true → u 12 = .bool B)) (by kernel_rfl) (by kernel_rfl) (by rfl) ⟨wd.drew, 0, 0, 0, none, 0, [], zero, false, rfl, gr_drew (gr_refl _), HE.out.ready.drew, fun h => no_way rfl h, fun h => no_way rfl h, fun h => no_way rfl h, fun h => no_way rfl h, fun h => no_way rfl h, fun h => no_way rfl h, fun h => no_way rfl h, fun h => no_way rfl h, fun h => no_way rfl h, fun h => no_way rfl h, fun h => no_way rfl h, fun h => no_way rfl h, fun h => no_way rfl h⟩ ⟨?_, ?_, ?_, ?_, ?_, ?_, ?_, ?_, ?_, ?_, ?_, ?_, ?_, ?_, trivial⟩ ?_
          · intro b u wI ρ hI hcl hp hk hρ
            obtain ⟨ws, ky, px, py, aN, cN, L2, s, B, hw, hG, hR, V0, V1, V2, V3, V4, V5, V6, V7, O8, V9, V10, V11, V12⟩ := hI
            have m8 : b 8 = false := hcl.no (i := 8) rfl (k := 0) (by rfl) hk
            have m9 : b 9 = false := hcl.no (i := 9) rfl (k := 8) (by rfl) m8
            have m10 : b 10 = false := hcl.no (i := 10) rfl (k := 9) (by rfl) m9
            have m11 : b 11 = false := hcl.no (i := 11) rfl (k := 9) (by rfl) m9
            have m12 : b 12 = false := hcl.no (i := 12) rfl (k := 9) (by rfl) m9
            have m13 : b 13 = false := hcl.no (i := 13) rfl (k := 0) (by rfl) hk
            rw [stored_no m13] at hw
            have hw2 := hw.symm
            subst hw2
            have r3 : ρ (.tmp 3) = .pointer (some ⟨W.heap.size + 1, 0, none⟩) := hρ (.tmp 3) (by simp [Op.operands, Call.operands])
            have d0 : ws.cell? ⟨W.heap.size + 1, 0, none⟩ = some (.slice aL L.length cL) := cellB (kept_draw HE.out.box (by omega) hG) 0
            exact RegFlow.gives_value (v := .agg #[.slice aL L.length cL]) (w' := ws) (by go_simp) ⟨ws, ky, px, py, aN, cN, L2, s, B, by rw [stored_no (show RegFlow.setB b 0 13 = false from m13)], hG, hR, fun _ => rfl, V1, V2, V3, V4, V5, V6, V7, O8, V9, V10, V11, V12⟩
          · intro b u wI ρ hI hcl hp hk hρ
            obtain ⟨ws, ky, px, py, aN, cN, L2, s, B, hw, hG, hR, V0, V1, V2, V3, V4, V5, V6, V7, O8, V9, V10, V11, V12⟩ := hI
            have m6 : b 6 = false := hcl.no (i := 6) rfl (k := 1) (by rfl) hk
            have m7 : b 7 = false := hcl.no (i := 7) rfl (k := 6) (by rfl) m6
            have m8 : b 8 = false := hcl.no (i := 8) rfl (k := 7) (by rfl) m7
            have m9 : b 9 = false := hcl.no (i := 9) rfl (k := 8) (by rfl) m8
            have m10 : b 10 = false := hcl.no (i := 10) rfl (k := 9) (by rfl) m9
            have m11 : b 11 = false := hcl.no (i := 11) rfl (k := 9) (by rfl) m9
            have m12 : b 12 = false := hcl.no (i := 12) rfl (k := 9) (by rfl) m9
            have m13 : b 13 = false := hcl.no (i := 13) rfl (k := 1) (by rfl) hk
            have r4 : ρ (.tmp 4) = (.slice (some ⟨gp, 0, none⟩) Ps.length cp) := hρ (.tmp 4) (by simp [Op.operands, Call.operands])
            exact RegFlow.gives_value (v := (.slice (some ⟨gp, 0, none⟩) Ps.length cp)) (w' := wI) (by go_simp) ⟨ws, ky, px, py, aN, cN, L2, s, B, hw, hG, hR, V0, fun _ => rfl, V2, V3, V4, V5, V6, V7, O8, V9, V10, V11, V12⟩
          · intro b u wI ρ hI hcl hp hk hρ
            obtain ⟨ws, ky, px, py, aN, cN, L2, s, B, hw, hG, hR, V0, V1, V2, V3, V4, V5, V6, V7, O8, V9, V10, V11, V12⟩ := hI
            have m5 : b 5 = false := hcl.no (i := 5) rfl (k := 2) (by rfl) hk
            have m6 : b 6 = false := hcl.no (i := 6) rfl (k := 5) (by rfl) m5
            have m7 : b 7 = false := hcl.no (i := 7) rfl (k := 6) (by rfl) m6
            have m8 : b 8 = false := hcl.no (i := 8) rfl (k := 7) (by rfl) m7
            have m9 : b 9 = false := hcl.no (i := 9) rfl (k := 8) (by rfl) m8
            have m10 : b 10 = false := hcl.no (i := 10) rfl (k := 9) (by rfl) m9
            have m11 : b 11 = false := hcl.no (i := 11) rfl (k := 9) (by rfl) m9
            have m12 : b 12 = false := hcl.no (i := 12) rfl (k := 9) (by rfl) m9
            have m13 : b 13 = false := hcl.no (i := 13) rfl (k := 2) (by rfl) hk
            have r0 : ρ (.tmp 0) = .pointer (some ⟨g, 0, none⟩) := hρ (.tmp 0) (by simp [Op.operands, Call.operands])
            exact RegFlow.gives_value (v := .pointer (some ⟨g, 0, none⟩)) (w' := wI) (by go_simp) ⟨ws, ky, px, py, aN, cN, L2, s, B, hw, hG, hR, V0, V1, fun _ => rfl, V3, V4, V5, V6, V7, O8, V9, V10, V11, V12⟩
          · intro b u wI ρ hI hcl hp hk hρ
            obtain ⟨ws, ky, px, py, aN, cN, L2, s, B, hw, hG, hR, V0, V1, V2, V3, V4, V5, V6, V7, O8, V9, V10, V11, V12⟩ := hI
            have m4 : b 4 = false := hcl.no (i := 4) rfl (k := 3) (by rfl) hk
            have m5 : b 5 = false := hcl.no (i := 5) rfl (k := 4) (by rfl) m4
            have m6 : b 6 = false := hcl.no (i := 6) rfl (k := 5) (by rfl) m5
            have m7 : b 7 = false := hcl.no (i := 7) rfl (k := 6) (by rfl) m6
            have m8 : b 8 = false := hcl.no (i := 8) rfl (k := 7) (by rfl) m7
            have m9 : b 9 = false := hcl.no (i := 9) rfl (k := 8) (by rfl) m8
            have m10 : b 10 = false := hcl.no (i := 10) rfl (k := 9) (by rfl) m9
            have m11 : b 11 = false := hcl.no (i := 11) rfl (k := 9) (by rfl) m9
            have m12 : b 12 = false := hcl.no (i := 12) rfl (k := 9) (by rfl) m9
            have m13 : b 13 = false := hcl.no (i := 13) rfl (k := 3) (by rfl) hk
            have r4 : ρ (.tmp 4) = (.slice (some ⟨gp, 0, none⟩) Ps.length cp) := hρ (.tmp 4) (by simp [Op.operands, Call.operands])
            exact RegFlow.gives_value (v := (.slice (some ⟨gp, 0, none⟩) Ps.length cp)) (w' := wI) (by go_simp) ⟨ws, ky, px, py, aN, cN, L2, s, B, hw, hG, hR, V0, V1, V2, fun _ => rfl, V4, V5, V6, V7, O8, V9, V10, V11, V12⟩
          · intro b u wI ρ hI hcl hp hk hρ
            obtain ⟨ws, ky, px, py, aN, cN, L2, s, B, hw, hG, hR, V0, V1, V2, V3, V4, V5, V6, V7, O8, V9, V10, V11, V12⟩ := hI
            have hp2 : (b 3 && true) = true := hp
            simp only [Bool.and_eq_true, Bool.and_true] at hp2
            have p0 := hp2
            have m5 : b 5 = false := hcl.no (i := 5) rfl (k := 4) (by rfl) hk
            have m6 : b 6 = false := hcl.no (i := 6) rfl (k := 5) (by rfl) m5
            have m7 : b 7 = false := hcl.no (i := 7) rfl (k := 6) (by rfl) m6
            have m8 : b 8 = false := hcl.no (i := 8) rfl (k := 7) (by rfl) m7
            have m9 : b 9 = false := hcl.no (i := 9) rfl (k := 8) (by rfl) m8
            have m10 : b 10 = false := hcl.no (i := 10) rfl (k := 9) (by rfl) m9
            have m11 : b 11 = false := hcl.no (i := 11) rfl (k := 9) (by rfl) m9
            have m12 : b 12 = false := hcl.no (i := 12) rfl (k := 9) (by rfl) m9
            have m13 : b 13 = false := hcl.no (i := 13) rfl (k := 4) (by rfl) hk
            have r29 : ρ (.tmp 29) = (.slice (some ⟨gp, 0, none⟩) Ps.length cp) := (hρ (.tmp 29) (by simp [Op.operands, Call.operands])).trans (V3 p0)
            exact RegFlow.gives_value (v := .int .i64 (Ps.length : Int)) (w' := wI) (by go_simp) ⟨ws, ky, px, py, aN, cN, L2, s, B, hw, hG, hR, V0, V1, V2, V3, fun _ => rfl, V5, V6, V7, O8, V9, V10, V11, V12⟩
          · intro b u wI ρ hI hcl hp hk hρ
            obtain ⟨ws, ky, px, py, aN, cN, L2, s, B, hw, hG, hR, V0, V1, V2, V3, V4, V5, V6, V7, O8, V9, V10, V11, V12⟩ := hI
            have hp2 : (b 2 && (b 4 && true)) = true := hp
            simp only [Bool.and_eq_true, Bool.and_true] at hp2
            obtain ⟨p0, p1⟩ := hp2
            have m6 : b 6 = false := hcl.no (i := 6) rfl (k := 5) (by rfl) hk
            have m7 : b 7 = false := hcl.no (i := 7) rfl (k := 6) (by rfl) m6
            have m8 : b 8 = false := hcl.no (i := 8) rfl (k := 5) (by rfl) hk
            have m9 : b 9 = false := hcl.no (i := 9) rfl (k := 8) (by rfl) m8
            have m10 : b 10 = false := hcl.no (i := 10) rfl (k := 9) (by rfl) m9
            have m11 : b 11 = false := hcl.no (i := 11) rfl (k := 9) (by rfl) m9
            have m12 : b 12 = false := hcl.no (i := 12) rfl (k := 9) (by rfl) m9
            have m13 : b 13 = false := hcl.no (i := 13) rfl (k := 5) (by rfl) hk
            rw [stored_no m13] at hw
            have hw2 := hw.symm
            subst hw2
            have r28 : ρ (.tmp 28) = .pointer (some ⟨g, 0, none⟩) := (hρ (.tmp 28) (by simp [Op.operands, Call.operands])).trans (V2 p0)
            have r30 : ρ (.tmp 30) = .int .i64 (Ps.length : Int) := (hρ (.tmp 30) (by simp [Op.operands, Call.operands])).trans (V4 p1)
            have rf22 : ρ (.func 22) = .func (.func 22) #[] #[] := hρ (.func 22) (by simp [Op.operands, Call.operands])
            refine RegFlow.gives_call (f := 22) (args := #[.pointer (some ⟨g, 0, none⟩), .int .i64 (Ps.length : Int)]) (w' := ws) (by go_simp) (draw w ws g a n cap (Ps.length : Int) hR (by omega) (by omega)) ?_
            rintro e wN ⟨yN, rfl, yaN, ybN, rdN, grN⟩
            exact ⟨_, rfl, wN, yN.toNat, px, py, aN, cN, L2, s, B, by rw [stored_no (show RegFlow.setB b 5 13 = false from m13)], gr_then hG grN, rdN, V0, V1, V2, V3, V4, fun _ => ⟨by show Value.int IntKind.i64 yN = _; rw [Int.toNat_of_nonneg yaN], by omega⟩, fun h => no_way m6 h, V7, fun h => ⟨(O8 h).1, (O8 h).2.1.grown grN (fun x hx e => by have := (O8 h).2.2.1 x hx; cases e; omega), (O8 h).2.2⟩, V9, V10, V11, V12⟩
          · intro b u wI ρ hI hcl hp hk hρ
            obtain ⟨ws, ky, px, py, aN, cN, L2, s, B, hw, hG, hR, V0, V1, V2, V3, V4, V5, V6, V7, O8, V9, V10, V11, V12⟩ := hI
            have hp2 : (b 1 && (b 5 && true)) = true := hp
            simp only [Bool.and_eq_true, Bool.and_true] at hp2
            obtain ⟨p0, p1⟩ := hp2
            have m7 : b 7 = false := hcl.no (i := 7) rfl (k := 6) (by rfl) hk
            have m8 : b 8 = false := hcl.no (i := 8) rfl (k := 7) (by rfl) m7
            have m9 : b 9 = false := hcl.no (i := 9) rfl (k := 8) (by rfl) m8
            have m10 : b 10 = false := hcl.no (i := 10) rfl (k := 9) (by rfl) m9
            have m11 : b 11 = false := hcl.no (i := 11) rfl (k := 9) (by rfl) m9
            have m12 : b 12 = false := hcl.no (i := 12) rfl (k := 9) (by rfl) m9
            have m13 : b 13 = false := hcl.no (i := 13) rfl (k := 6) (by rfl) hk
            have r27 : ρ (.tmp 27) = (.slice (some ⟨gp, 0, none⟩) Ps.length cp) := (hρ (.tmp 27) (by simp [Op.operands, Call.operands])).trans (V1 p0)
            have r31 : ρ (.tmp 31) = .int .i64 (ky : Int) := (hρ (.tmp 31) (by simp [Op.operands, Call.operands])).trans ((V5 p1).1)
            have hky : (ky : Int) < (Ps.length : Int) := by have := (V5 p1).2; omega
            exact RegFlow.gives_value (v := .pointer (some ⟨gp, ky * 2, none⟩)) (w' := wI) (by go_simp) ⟨ws, ky, px, py, aN, cN, L2, s, B, hw, hG, hR, V0, V1, V2, V3, V4, V5, fun _ => rfl, V7, O8, V9, V10, V11, V12⟩
          · intro b u wI ρ hI hcl hp hk hρ
            obtain ⟨ws, ky, px, py, aN, cN, L2, s, B, hw, hG, hR, V0, V1, V2, V3, V4, V5, V6, V7, O8, V9, V10, V11, V12⟩ := hI
            have hp2 : (b 6 && true) = true := hp
            simp only [Bool.and_eq_true, Bool.and_true] at hp2
            have p0 := hp2
            have m8 : b 8 = false := hcl.no (i := 8) rfl (k := 7) (by rfl) hk
            have m9 : b 9 = false := hcl.no (i := 9) rfl (k := 8) (by rfl) m8
            have m10 : b 10 = false := hcl.no (i := 10) rfl (k := 9) (by rfl) m9
            have m11 : b 11 = false := hcl.no (i := 11) rfl (k := 9) (by rfl) m9
            have m12 : b 12 = false := hcl.no (i := 12) rfl (k := 9) (by rfl) m9
            have m13 : b 13 = false := hcl.no (i := 13) rfl (k := 7) (by rfl) hk
            rw [stored_no m13] at hw
            have hw2 := hw.symm
            subst hw2
            have r32 : ρ (.tmp 32) = .pointer (some ⟨gp, ky * 2, none⟩) := (hρ (.tmp 32) (by simp [Op.operands, Call.operands])).trans (V6 p0)
            have hk5 : ky < Ps.length := (V5 (by have h9 := hcl 6 _ rfl p0; have h8 : (b 1 && (b 5 && true)) = true := h9; simp at h8; exact h8.2)).2
            obtain ⟨gp3, cp3, hv3, _, q0, q1⟩ := (HE.out.perms.grown hG (by omega)).at hk5
            injection hv3 with hv4 _ _
            injection hv4 with hv4
            injection hv4 with hv5 _ _
            subst hv5
            exact RegFlow.gives_value (v := .agg #[.int .i64 Ps[ky].1, .int .i64 Ps[ky].2]) (w' := ws) (by go_simp) ⟨ws, ky, Ps[ky].1, Ps[ky].2, aN, cN, L2, s, B, by rw [stored_no (show RegFlow.setB b 7 13 = false from m13)], hG, hR, V0, V1, V2, V3, V4, V5, V6, fun _ => rfl, fun h => no_way m8 h, V9, V10, V11, V12⟩
          · intro b u wI ρ hI hcl hp hk hρ
            obtain ⟨ws, ky, px, py, aN, cN, L2, s, B, hw, hG, hR, V0, V1, V2, V3, V4, V5, V6, V7, O8, V9, V10, V11, V12⟩ := hI
            have hp2 : (b 0 && (b 7 && (b 5 && true))) = true := hp
            simp only [Bool.and_eq_true, Bool.and_true] at hp2
            obtain ⟨p0, p1, p2⟩ := hp2
            have m9 : b 9 = false := hcl.no (i := 9) rfl (k := 8) (by rfl) hk
            have m10 : b 10 = false := hcl.no (i := 10) rfl (k := 9) (by rfl) m9
            have m11 : b 11 = false := hcl.no (i := 11) rfl (k := 9) (by rfl) m9
            have m12 : b 12 = false := hcl.no (i := 12) rfl (k := 9) (by rfl) m9
            have m13 : b 13 = false := hcl.no (i := 13) rfl (k := 8) (by rfl) hk
            rw [stored_no m13] at hw
            have hw2 := hw.symm
            subst hw2
            have r26 : ρ (.tmp 26) = .agg #[.slice aL L.length cL] := (hρ (.tmp 26) (by simp [Op.operands, Call.operands])).trans (V0 p0)
            have r33 : ρ (.tmp 33) = .agg #[.int .i64 px, .int .i64 py] := (hρ (.tmp 33) (by simp [Op.operands, Call.operands])).trans (V7 p1)
            have rf23 : ρ (.func 23) = .func (.func 23) #[] #[] := hρ (.func 23) (by simp [Op.operands, Call.operands])
            obtain ⟨L9, s9, B9, hR9⟩ := rl_ex L px py
            have hlen := HGD.out.2.1
            refine RegFlow.gives_call (f := 23) (args := #[.agg #[.slice aL L.length cL], .agg #[.int .i64 px, .int .i64 py]]) (w' := ws) (by go_simp) (spec_release aL cL L L9 px py s9 B9 ws (HE.out.step hG hR).own (by omega) HE.out.room hR9) ?_
            rintro e wN ⟨a9, c9, rfl, hc9, o9, q9, hb9⟩
            exact ⟨_, rfl, wN, ky, px, py, a9, c9, L9, s9, B9, by rw [stored_no (show RegFlow.setB b 8 13 = false from m13)], gr_below hG hb9, hR.below hb9, V0, V1, V2, V3, V4, V5, V6, V7, fun _ => ⟨rfl, o9, fun x hx => Nat.le_trans hG.size (q9 x hx), hc9, hR9⟩, fun h => no_way m9 h, fun h => no_way m10 h, fun h => no_way m11 h, fun h => no_way m12 h⟩
          · intro b u wI ρ hI hcl hp hk hρ
            obtain ⟨ws, ky, px, py, aN, cN, L2, s, B, hw, hG, hR, V0, V1, V2, V3, V4, V5, V6, V7, O8, V9, V10, V11, V12⟩ := hI
            have hp2 : (b 8 && true) = true := hp
            simp only [Bool.and_eq_true, Bool.and_true] at hp2
            have p0 := hp2
            have m10 : b 10 = false := hcl.no (i := 10) rfl (k := 9) (by rfl) hk
            have m11 : b 11 = false := hcl.no (i := 11) rfl (k := 9) (by rfl) hk
            have m12 : b 12 = false := hcl.no (i := 12) rfl (k := 9) (by rfl) hk
            have m13 : b 13 = false := hcl.no (i := 13) rfl (k := 9) (by rfl) hk
            have r34 : ρ (.tmp 34) = .tuple #[.agg #[.slice aN L2.length cN], .agg #[.int .i64 s.x0, .bool s.x1, .int .i64 s.x2, .int .i64 s.x3, .int .i64 s.x4], .bool B] := (hρ (.tmp 34) (by simp [Op.operands, Call.operands])).trans ((O8 p0).1)
            exact RegFlow.gives_value (v := .tuple #[.agg #[.slice aN L2.length cN], .agg #[.int .i64 s.x0, .bool s.x1, .int .i64 s.x2, .int .i64 s.x3, .int .i64 s.x4], .bool B]) (w' := wI) (by go_simp) ⟨ws, ky, px, py, aN, cN, L2, s, B, hw, hG, hR, V0, V1, V2, V3, V4, V5, V6, V7, O8, fun _ => rfl, V10, V11, V12⟩
          · intro b u wI ρ hI hcl hp hk hρ
            obtain ⟨ws, ky, px, py, aN, cN, L2, s, B, hw, hG, hR, V0, V1, V2, V3, V4, V5, V6, V7, O8, V9, V10, V11, V12⟩ := hI
            have hp2 : (b 9 && true) = true := hp
            simp only [Bool.and_eq_true, Bool.and_true] at hp2
            have p0 := hp2
            have m13 : b 13 = false := hcl.no (i := 13) rfl (k := 10) (by rfl) hk
            have r25 : ρ (.tmp 25) = .tuple #[.agg #[.slice aN L2.length cN], .agg #[.int .i64 s.x0, .bool s.x1, .int .i64 s.x2, .int .i64 s.x3, .int .i64 s.x4], .bool B] := (hρ (.tmp 25) (by simp [Op.operands, Call.operands])).trans (V9 p0)
            exact RegFlow.gives_value (v := .agg #[.slice aN L2.length cN]) (w' := wI) (by go_simp) ⟨ws, ky, px, py, aN, cN, L2, s, B, hw, hG, hR, V0, V1, V2, V3, V4, V5, V6, V7, O8, V9, fun _ => rfl, V11, V12⟩
          · intro b u wI ρ hI hcl hp hk hρ
            obtain ⟨ws, ky, px, py, aN, cN, L2, s, B, hw, hG, hR, V0, V1, V2, V3, V4, V5, V6, V7, O8, V9, V10, V11, V12⟩ := hI
            have hp2 : (b 9 && true) = true := hp
            simp only [Bool.and_eq_true, Bool.and_true] at hp2
            have p0 := hp2
            have r25 : ρ (.tmp 25) = .tuple #[.agg #[.slice aN L2.length cN], .agg #[.int .i64 s.x0, .bool s.x1, .int .i64 s.x2, .int .i64 s.x3, .int .i64 s.x4], .bool B] := (hρ (.tmp 25) (by simp [Op.operands, Call.operands])).trans (V9 p0)
            exact RegFlow.gives_value (v := .agg #[.int .i64 s.x0, .bool s.x1, .int .i64 s.x2, .int .i64 s.x3, .int .i64 s.x4]) (w' := wI) (by go_simp) ⟨ws, ky, px, py, aN, cN, L2, s, B, hw, hG, hR, V0, V1, V2, V3, V4, V5, V6, V7, O8, V9, V10, fun _ => rfl, V12⟩
          · intro b u wI ρ hI hcl hp hk hρ
            obtain ⟨ws, ky, px, py, aN, cN, L2, s, B, hw, hG, hR, V0, V1, V2, V3, V4, V5, V6, V7, O8, V9, V10, V11, V12⟩ := hI
            have hp2 : (b 9 && true) = true := hp
            simp only [Bool.and_eq_true, Bool.and_true] at hp2
            have p0 := hp2
            have r25 : ρ (.tmp 25) = .tuple #[.agg #[.slice aN L2.length cN], .agg #[.int .i64 s.x0, .bool s.x1, .int .i64 s.x2, .int .i64 s.x3, .int .i64 s.x4], .bool B] := (hρ (.tmp 25) (by simp [Op.operands, Call.operands])).trans (V9 p0)
            exact RegFlow.gives_value (v := .bool B) (w' := wI) (by go_simp) ⟨ws, ky, px, py, aN, cN, L2, s, B, hw, hG, hR, V0, V1, V2, V3, V4, V5, V6, V7, O8, V9, V10, V11, fun _ => rfl⟩
          · intro b u wI ρ hI hcl hp hk hρ
            obtain ⟨ws, ky, px, py, aN, cN, L2, s, B, hw, hG, hR, V0, V1, V2, V3, V4, V5, V6, V7, O8, V9, V10, V11, V12⟩ := hI
            have hp2 : (b 10 && (b 8 && (b 0 && (b 1 && (b 2 && (b 3 && (b 4 && (b 5 && (b 6 && (b 7 && (b 8 && (b 9 && (b 10 && true))))))))))))) = true := hp
            simp only [Bool.and_eq_true, Bool.and_true] at hp2
            obtain ⟨p0, p1, p2, p3, p4, p5, p6, p7, p8, p9, p10, p11, p12⟩ := hp2
            rw [stored_no hk] at hw
            have hw2 := hw.symm
            subst hw2
            have r3 : ρ (.tmp 3) = .pointer (some ⟨W.heap.size + 1, 0, none⟩) := hρ (.tmp 3) (by simp [Op.operands, Call.operands])
            have r35 : ρ (.tmp 35) = .agg #[.slice aN L2.length cN] := (hρ (.tmp 35) (by simp [Op.operands, Call.operands])).trans (V10 p0)
            have d0 : ws.cell? ⟨W.heap.size + 1, 0, none⟩ = some (.slice aL L.length cL) := cellB (kept_draw HE.out.box (by omega) hG) 0
            have df0 : ws.frozen? ⟨W.heap.size + 1, 0, none⟩ = false := fzB (kept_draw HE.out.box (by omega) hG) 0
            exact RegFlow.gives_skip (w' := sets ws (W.heap.size + 1) 0 [.slice aN L2.length cN]) (by go_simp; rfl) ⟨ws, ky, px, py, aN, cN, L2, s, B, by rw [stored_yes (show RegFlow.setB b 13 13 = true from rfl)], hG, hR, V0, V1, V2, V3, V4, V5, V6, V7, O8, V9, V10, V11, V12⟩
          · intro u wF hI
            obtain ⟨ws, ky, px, py, aN, cN, L2, s, B, hwF, hG, hR, V0, V1, V2, V3, V4, V5, V6, V7, O8, V9, V10, V11, V12⟩ := hI
            have hwF2 : wF = sets ws (W.heap.size + 1) 0 [.slice aN L2.length cN] := hwF
            obtain ⟨e8, o8, f8, k8, R8⟩ := O8 rfl
            have e0 := V0 rfl
            have e1 := V1 rfl
            have e2 := V2 rfl
            have e3 := V3 rfl
            have e4 := V4 rfl
            have e6 := V6 rfl
            have e7 := V7 rfl
            have e9 := V9 rfl
            have e10 := V10 rfl
            have e11 := V11 rfl
            have e12 := V12 rfl
            have e5 := (V5 rfl).1
            have DF : Hid (DSt w W wF g a n cap aN cN L2 (.slice (some ⟨gp, 0, none⟩) Ps.length cp) Ps) := by
              show DSt _ _ _ _ _ _ _ _ _ _ _ _
              rw [hwF2]
              exact (HE.out.step hG hR).put k8 o8 (fun b hb => by have := f8 b hb; omega) (fun b hb e => by have := f8 b hb; have e2 := Option.some.inj e; have e3 : gp = b := e2; omega)
            have GF : Hid (LedInv.Good (9 - M) L2) := (LedInv.good_rel HGD.out R8).up (by omega)
            simp only [RegFlow.fin, Act.put, e0, e1, e2, e3, e4, e5, e6, e7, e8, e9, e10, e11, e12]
            clear e0 e1 e2 e3 e4 e5 e6 e7 e8 e9 e10 e11 e12 V0 V1 V2 V3 V4 V5 V6 V7 O8 V9 V10 V11 V12 hwF hwF2 hG hR o8 f8 k8 R8 HE HGD c0
            go_wp2
            go_roundw
            case rel => exact ⟨M, aN, cN, L2, Ps, by omega, by omega, by go_num, DF, GF⟩
            case measure => simp [intOf]
        | false =>
          clear hpl
          go_upto_region 8 with fail
          refine RegFlow.wp_region_flow (fun b u wI => ∃ (ws : World) (y1 : Int) (y2 : Int) (y3 : Int) (aN : Option Addr) (cN : Nat) (L2 : List Slot) (P : Int) (G : Int) (B : Bool) (n6 : Nat) (n7 : Nat), wI = (Stored (b 16) (Stored (b 15) ws n6 [.slice aN L2.length cN]) n7 [.int .i64 P, .int .i64 G]) ∧ wd.grownBy ws (some g) ∧ Ready w ws g a n cap ∧ (b 0 = true → u 0 = .agg #[.slice aL L.length cL]) ∧ (b 1 = true → u 1 = .pointer (some ⟨g, 0, none⟩)) ∧ (b 2 = true → u 2 = .int .i64 y1 ∧ 0 ≤ y1 ∧ y1 < 20) ∧ (b 3 = true → u 3 = .int .i64 (1 + y1)) ∧ (b 4 = true → u 4 = .pointer (some ⟨g, 0, none⟩)) ∧ (b 5 = true → u 5 = .int .i64 y2) ∧ (b 6 = true → u 6 = .pointer (some ⟨g, 0, none⟩)) ∧ (b 7 = true → u 7 = .int .i64 y3) ∧ (b 8 = true → u 8 = .tuple #[.agg #[.slice aN L2.length cN], .agg #[.int .i64 P, .int .i64 G], .bool B] ∧ Own 35 5 cells ws aN L2 ∧ (∀ x, blkL aN L2 = some x → wd.heap.size ≤ x) ∧ L2.length ≤ cN ∧ Gr L (1 + y1) y2 y3 L2 P G B ∧ y1 < 20) ∧ (b 9 = true → u 9 = .tuple #[.agg #[.slice aN L2.length cN], .agg #[.int .i64 P, .int .i64 G], .bool B]) ∧ (b 10 = true → u 10 = .agg #[.slice aN L2.length cN]) ∧ (b 11 = true → u 11 = .agg #[.int .i64 P, .int .i64 G]) ∧ (b 12 = true → u 12 = .bool B) ∧ (b 13 = true → u 13 = .pointer (some ⟨n6, 0, none⟩) ∧ ws.heap[n6]? = some (.cells #[.slice none 0 0] 25 (0, 0)) ∧ wd.heap.size ≤ n6) ∧ (b 14 = true → u 14 = .pointer (some ⟨n7, 0, none⟩) ∧ ws.heap[n7]? = some (.cells #[.int .i64 0, .int .i64 0] 28 (0, 0)) ∧ wd.heap.size ≤ n7) ∧ (b 8 = true → b 13 = true → ∀ x, blkL aN L2 = some x → x ≠ n6) ∧ (b 8 = true → b 14 = true → ∀ x, blkL aN L2 = some x → x ≠ n7) ∧ (b 13 = true → b 14 = true → n6 ≠ n7) ∧ (b 17 = true → u 17 = .bool B)) (by kernel_rfl) (by kernel_rfl) (by rfl) ⟨wd.drew, 0, 0, 0, none, 0, [], 0, 0, false, 0, 0, rfl, gr_drew (gr_refl _), HE.out.ready.drew, fun h => no_way rfl h, fun h => no_way rfl h, fun h => no_way rfl h, fun h => no_way rfl h, fun h => no_way rfl h, fun h => no_way rfl h, fun h => no_way rfl h, fun h => no_way rfl h, fun h => no_way rfl h, fun h => no_way rfl h, fun h => no_way rfl h, fun h => no_way rfl h, fun h => no_way rfl h, fun h => no_way rfl h, fun h => no_way rfl h, fun h => no_way rfl h, fun h => no_way rfl h, fun h => no_way rfl h, fun h => no_way rfl h⟩ ⟨?_, ?_, ?_, ?_, ?_, ?_, ?_, ?_, ?_, ?_, ?_, ?_, ?_, ?_, ?_, ?_, ?_, ?_, trivial⟩ ?_
          · intro b u wI ρ hI hcl hp hk hρ
            obtain ⟨ws, y1, y2, y3, aN, cN, L2, P, G, B, n6, n7, hw, hG, hR, V0, V1, V2, V3, V4, V5, V6, V7, O8, V9, V10, V11, V12, B13, B14, D13, D14, E, V17⟩ := hI
            have m8 : b 8 = false := hcl.no (i := 8) rfl (k := 0) (by rfl) hk
            have m9 : b 9 = false := hcl.no (i := 9) rfl (k := 8) (by rfl) m8
            have m10 : b 10 = false := hcl.no (i := 10) rfl (k := 9) (by rfl) m9
            have m11 : b 11 = false := hcl.no (i := 11) rfl (k := 9) (by rfl) m9
            have m12 : b 12 = false := hcl.no (i := 12) rfl (k := 9) (by rfl) m9
            have m15 : b 15 = false := hcl.no (i := 15) rfl (k := 0) (by rfl) hk
            have m16 : b 16 = false := hcl.no (i := 16) rfl (k := 0) (by rfl) hk
            have m17 : b 17 = false := hcl.no (i := 17) rfl (k := 0) (by rfl) hk
            rw [stored_no m16, stored_no m15] at hw
            have hw2 := hw.symm
            subst hw2
            have r3 : ρ (.tmp 3) = .pointer (some ⟨W.heap.size + 1, 0, none⟩) := hρ (.tmp 3) (by simp [Op.operands, Call.operands])
            have d0 : ws.cell? ⟨W.heap.size + 1, 0, none⟩ = some (.slice aL L.length cL) := cellB (kept_draw HE.out.box (by omega) hG) 0
            exact RegFlow.gives_value (v := .agg #[.slice aL L.length cL]) (w' := ws) (by go_simp) ⟨ws, y1, y2, y3, aN, cN, L2, P, G, B, n6, n7, by rw [stored_no (show RegFlow.setB b 0 16 = false from m16), stored_no (show RegFlow.setB b 0 15 = false from m15)], hG, hR, fun _ => rfl, V1, V2, V3, V4, V5, V6, V7, O8, V9, V10, V11, V12, B13, B14, D13, D14, E, V17⟩
          · intro b u wI ρ hI hcl hp hk hρ
            obtain ⟨ws, y1, y2, y3, aN, cN, L2, P, G, B, n6, n7, hw, hG, hR, V0, V1, V2, V3, V4, V5, V6, V7, O8, V9, V10, V11, V12, B13, B14, D13, D14, E, V17⟩ := hI
            have m2 : b 2 = false := hcl.no (i := 2) rfl (k := 1) (by rfl) hk
            have m3 : b 3 = false := hcl.no (i := 3) rfl (k := 2) (by rfl) m2
            have m5 : b 5 = false := hcl.no (i := 5) rfl (k := 2) (by rfl) m2
            have m7 : b 7 = false := hcl.no (i := 7) rfl (k := 5) (by rfl) m5
            have m8 : b 8 = false := hcl.no (i := 8) rfl (k := 3) (by rfl) m3
            have m9 : b 9 = false := hcl.no (i := 9) rfl (k := 8) (by rfl) m8
            have m10 : b 10 = false := hcl.no (i := 10) rfl (k := 9) (by rfl) m9
            have m11 : b 11 = false := hcl.no (i := 11) rfl (k := 9) (by rfl) m9
            have m12 : b 12 = false := hcl.no (i := 12) rfl (k := 9) (by rfl) m9
            have m15 : b 15 = false := hcl.no (i := 15) rfl (k := 1) (by rfl) hk
            have m16 : b 16 = false := hcl.no (i := 16) rfl (k := 1) (by rfl) hk
            have m17 : b 17 = false := hcl.no (i := 17) rfl (k := 1) (by rfl) hk
            have r0 : ρ (.tmp 0) = .pointer (some ⟨g, 0, none⟩) := hρ (.tmp 0) (by simp [Op.operands, Call.operands])
            exact RegFlow.gives_value (v := .pointer (some ⟨g, 0, none⟩)) (w' := wI) (by go_simp) ⟨ws, y1, y2, y3, aN, cN, L2, P, G, B, n6, n7, hw, hG, hR, V0, fun _ => rfl, V2, V3, V4, V5, V6, V7, O8, V9, V10, V11, V12, B13, B14, D13, D14, E, V17⟩
          · intro b u wI ρ hI hcl hp hk hρ
            obtain ⟨ws, y1, y2, y3, aN, cN, L2, P, G, B, n6, n7, hw, hG, hR, V0, V1, V2, V3, V4, V5, V6, V7, O8, V9, V10, V11, V12, B13, B14, D13, D14, E, V17⟩ := hI
            have hp2 : (b 1 && true) = true := hp
            simp only [Bool.and_eq_true, Bool.and_true] at hp2
            have p0 := hp2
            have m3 : b 3 = false := hcl.no (i := 3) rfl (k := 2) (by rfl) hk
            have m5 : b 5 = false := hcl.no (i := 5) rfl (k := 2) (by rfl) hk
            have m7 : b 7 = false := hcl.no (i := 7) rfl (k := 5) (by rfl) m5
            have m8 : b 8 = false := hcl.no (i := 8) rfl (k := 3) (by rfl) m3
            have m9 : b 9 = false := hcl.no (i := 9) rfl (k := 8) (by rfl) m8
            have m10 : b 10 = false := hcl.no (i := 10) rfl (k := 9) (by rfl) m9
            have m11 : b 11 = false := hcl.no (i := 11) rfl (k := 9) (by rfl) m9
            have m12 : b 12 = false := hcl.no (i := 12) rfl (k := 9) (by rfl) m9
            have m15 : b 15 = false := hcl.no (i := 15) rfl (k := 2) (by rfl) hk
            have m16 : b 16 = false := hcl.no (i := 16) rfl (k := 2) (by rfl) hk
            have m17 : b 17 = false := hcl.no (i := 17) rfl (k := 2) (by rfl) hk
            rw [stored_no m16, stored_no m15] at hw
            have hw2 := hw.symm
            subst hw2
            have r40 : ρ (.tmp 40) = .pointer (some ⟨g, 0, none⟩) := (hρ (.tmp 40) (by simp [Op.operands, Call.operands])).trans (V1 p0)
            have rc : ρ (.const (.int .i64 20)) = .int .i64 20 := hρ (.const (.int .i64 20)) (by simp [Op.operands, Call.operands])
            have rf22 : ρ (.func 22) = .func (.func 22) #[] #[] := hρ (.func 22) (by simp [Op.operands, Call.operands])
            refine RegFlow.gives_call (f := 22) (args := #[.pointer (some ⟨g, 0, none⟩), .int .i64 20]) (w' := ws) (by go_simp) (draw w ws g a n cap 20 hR (by omega) (by omega)) ?_
            rintro e wN ⟨yN, rfl, yaN, ybN, rdN, grN⟩
            exact ⟨_, rfl, wN, yN, y2, y3, aN, cN, L2, P, G, B, n6, n7, by rw [stored_no (show RegFlow.setB b 2 16 = false from m16), stored_no (show RegFlow.setB b 2 15 = false from m15)], gr_then hG grN, rdN, V0, V1, fun _ => ⟨rfl, yaN, ybN⟩, fun h => no_way m3 h, V4, V5, V6, V7, fun h => no_way m8 h, V9, V10, V11, V12, fun h => ⟨(B13 h).1, kept_draw (B13 h).2.1 (by have := (B13 h).2.2; omega) grN, (B13 h).2.2⟩, fun h => ⟨(B14 h).1, kept_draw (B14 h).2.1 (by have := (B14 h).2.2; omega) grN, (B14 h).2.2⟩, D13, D14, E, V17⟩
          · intro b u wI ρ hI hcl hp hk hρ
            obtain ⟨ws, y1, y2, y3, aN, cN, L2, P, G, B, n6, n7, hw, hG, hR, V0, V1, V2, V3, V4, V5, V6, V7, O8, V9, V10, V11, V12, B13, B14, D13, D14, E, V17⟩ := hI
            have hp2 : (b 2 && true) = true := hp
            simp only [Bool.and_eq_true, Bool.and_true] at hp2
            have p0 := hp2
            have m8 : b 8 = false := hcl.no (i := 8) rfl (k := 3) (by rfl) hk
            have m9 : b 9 = false := hcl.no (i := 9) rfl (k := 8) (by rfl) m8
            have m10 : b 10 = false := hcl.no (i := 10) rfl (k := 9) (by rfl) m9
            have m11 : b 11 = false := hcl.no (i := 11) rfl (k := 9) (by rfl) m9
            have m12 : b 12 = false := hcl.no (i := 12) rfl (k := 9) (by rfl) m9
            have m15 : b 15 = false := hcl.no (i := 15) rfl (k := 3) (by rfl) hk
            have m16 : b 16 = false := hcl.no (i := 16) rfl (k := 3) (by rfl) hk
            have m17 : b 17 = false := hcl.no (i := 17) rfl (k := 3) (by rfl) hk
            have r41 : ρ (.tmp 41) = .int .i64 y1 := (hρ (.tmp 41) (by simp [Op.operands, Call.operands])).trans ((V2 p0).1)
            have rc : ρ (.const (.int .i64 1)) = .int .i64 1 := hρ (.const (.int .i64 1)) (by simp [Op.operands, Call.operands])
            have hw1 : IntKind.i64.wrap (1 + y1) = 1 + y1 := by rw [IntKind.wrap_i64]; have := (V2 p0).2; omega
            exact RegFlow.gives_value (v := .int .i64 (1 + y1)) (w' := wI) (by go_simp) ⟨ws, y1, y2, y3, aN, cN, L2, P, G, B, n6, n7, hw, hG, hR, V0, V1, V2, fun _ => rfl, V4, V5, V6, V7, O8, V9, V10, V11, V12, B13, B14, D13, D14, E, V17⟩
          · intro b u wI ρ hI hcl hp hk hρ
            obtain ⟨ws, y1, y2, y3, aN, cN, L2, P, G, B, n6, n7, hw, hG, hR, V0, V1, V2, V3, V4, V5, V6, V7, O8, V9, V10, V11, V12, B13, B14, D13, D14, E, V17⟩ := hI
            have m5 : b 5 = false := hcl.no (i := 5) rfl (k := 4) (by rfl) hk
            have m7 : b 7 = false := hcl.no (i := 7) rfl (k := 5) (by rfl) m5
            have m8 : b 8 = false := hcl.no (i := 8) rfl (k := 5) (by rfl) m5
            have m9 : b 9 = false := hcl.no (i := 9) rfl (k := 8) (by rfl) m8
            have m10 : b 10 = false := hcl.no (i := 10) rfl (k := 9) (by rfl) m9
            have m11 : b 11 = false := hcl.no (i := 11) rfl (k := 9) (by rfl) m9
            have m12 : b 12 = false := hcl.no (i := 12) rfl (k := 9) (by rfl) m9
            have m15 : b 15 = false := hcl.no (i := 15) rfl (k := 4) (by rfl) hk
            have m16 : b 16 = false := hcl.no (i := 16) rfl (k := 4) (by rfl) hk
            have m17 : b 17 = false := hcl.no (i := 17) rfl (k := 4) (by rfl) hk
            have r0 : ρ (.tmp 0) = .pointer (some ⟨g, 0, none⟩) := hρ (.tmp 0) (by simp [Op.operands, Call.operands])
            exact RegFlow.gives_value (v := .pointer (some ⟨g, 0, none⟩)) (w' := wI) (by go_simp) ⟨ws, y1, y2, y3, aN, cN, L2, P, G, B, n6, n7, hw, hG, hR, V0, V1, V2, V3, fun _ => rfl, V5, V6, V7, O8, V9, V10, V11, V12, B13, B14, D13, D14, E, V17⟩
          · intro b u wI ρ hI hcl hp hk hρ
            obtain ⟨ws, y1, y2, y3, aN, cN, L2, P, G, B, n6, n7, hw, hG, hR, V0, V1, V2, V3, V4, V5, V6, V7, O8, V9, V10, V11, V12, B13, B14, D13, D14, E, V17⟩ := hI
            have hp2 : (b 4 && (b 2 && true)) = true := hp
            simp only [Bool.and_eq_true, Bool.and_true] at hp2
            obtain ⟨p0, p1⟩ := hp2
            have m7 : b 7 = false := hcl.no (i := 7) rfl (k := 5) (by rfl) hk
            have m8 : b 8 = false := hcl.no (i := 8) rfl (k := 5) (by rfl) hk
            have m9 : b 9 = false := hcl.no (i := 9) rfl (k := 8) (by rfl) m8
            have m10 : b 10 = false := hcl.no (i := 10) rfl (k := 9) (by rfl) m9
            have m11 : b 11 = false := hcl.no (i := 11) rfl (k := 9) (by rfl) m9
            have m12 : b 12 = false := hcl.no (i := 12) rfl (k := 9) (by rfl) m9
            have m15 : b 15 = false := hcl.no (i := 15) rfl (k := 5) (by rfl) hk
            have m16 : b 16 = false := hcl.no (i := 16) rfl (k := 5) (by rfl) hk
            have m17 : b 17 = false := hcl.no (i := 17) rfl (k := 5) (by rfl) hk
            rw [stored_no m16, stored_no m15] at hw
            have hw2 := hw.symm
            subst hw2
            have r43 : ρ (.tmp 43) = .pointer (some ⟨g, 0, none⟩) := (hρ (.tmp 43) (by simp [Op.operands, Call.operands])).trans (V4 p0)
            have rc : ρ (.const (.int .i64 4)) = .int .i64 4 := hρ (.const (.int .i64 4)) (by simp [Op.operands, Call.operands])
            have rf22 : ρ (.func 22) = .func (.func 22) #[] #[] := hρ (.func 22) (by simp [Op.operands, Call.operands])
            refine RegFlow.gives_call (f := 22) (args := #[.pointer (some ⟨g, 0, none⟩), .int .i64 4]) (w' := ws) (by go_simp) (draw w ws g a n cap 4 hR (by omega) (by omega)) ?_
            rintro e wN ⟨yN, rfl, yaN, ybN, rdN, grN⟩
            exact ⟨_, rfl, wN, y1, yN, y3, aN, cN, L2, P, G, B, n6, n7, by rw [stored_no (show RegFlow.setB b 5 16 = false from m16), stored_no (show RegFlow.setB b 5 15 = false from m15)], gr_then hG grN, rdN, V0, V1, V2, V3, V4, fun _ => rfl, V6, V7, fun h => no_way m8 h, V9, V10, V11, V12, fun h => ⟨(B13 h).1, kept_draw (B13 h).2.1 (by have := (B13 h).2.2; omega) grN, (B13 h).2.2⟩, fun h => ⟨(B14 h).1, kept_draw (B14 h).2.1 (by have := (B14 h).2.2; omega) grN, (B14 h).2.2⟩, D13, D14, E, V17⟩
          · intro b u wI ρ hI hcl hp hk hρ
            obtain ⟨ws, y1, y2, y3, aN, cN, L2, P, G, B, n6, n7, hw, hG, hR, V0, V1, V2, V3, V4, V5, V6, V7, O8, V9, V10, V11, V12, B13, B14, D13, D14, E, V17⟩ := hI
            have m7 : b 7 = false := hcl.no (i := 7) rfl (k := 6) (by rfl) hk
            have m8 : b 8 = false := hcl.no (i := 8) rfl (k := 7) (by rfl) m7
            have m9 : b 9 = false := hcl.no (i := 9) rfl (k := 8) (by rfl) m8
            have m10 : b 10 = false := hcl.no (i := 10) rfl (k := 9) (by rfl) m9
            have m11 : b 11 = false := hcl.no (i := 11) rfl (k := 9) (by rfl) m9
            have m12 : b 12 = false := hcl.no (i := 12) rfl (k := 9) (by rfl) m9
            have m15 : b 15 = false := hcl.no (i := 15) rfl (k := 6) (by rfl) hk
            have m16 : b 16 = false := hcl.no (i := 16) rfl (k := 6) (by rfl) hk
            have m17 : b 17 = false := hcl.no (i := 17) rfl (k := 6) (by rfl) hk
            have r0 : ρ (.tmp 0) = .pointer (some ⟨g, 0, none⟩) := hρ (.tmp 0) (by simp [Op.operands, Call.operands])
            exact RegFlow.gives_value (v := .pointer (some ⟨g, 0, none⟩)) (w' := wI) (by go_simp) ⟨ws, y1, y2, y3, aN, cN, L2, P, G, B, n6, n7, hw, hG, hR, V0, V1, V2, V3, V4, V5, fun _ => rfl, V7, O8, V9, V10, V11, V12, B13, B14, D13, D14, E, V17⟩
          · intro b u wI ρ hI hcl hp hk hρ
            obtain ⟨ws, y1, y2, y3, aN, cN, L2, P, G, B, n6, n7, hw, hG, hR, V0, V1, V2, V3, V4, V5, V6, V7, O8, V9, V10, V11, V12, B13, B14, D13, D14, E, V17⟩ := hI
            have hp2 : (b 6 && (b 5 && true)) = true := hp
            simp only [Bool.and_eq_true, Bool.and_true] at hp2
            obtain ⟨p0, p1⟩ := hp2
            have m8 : b 8 = false := hcl.no (i := 8) rfl (k := 7) (by rfl) hk
            have m9 : b 9 = false := hcl.no (i := 9) rfl (k := 8) (by rfl) m8
            have m10 : b 10 = false := hcl.no (i := 10) rfl (k := 9) (by rfl) m9
            have m11 : b 11 = false := hcl.no (i := 11) rfl (k := 9) (by rfl) m9
            have m12 : b 12 = false := hcl.no (i := 12) rfl (k := 9) (by rfl) m9
            have m15 : b 15 = false := hcl.no (i := 15) rfl (k := 7) (by rfl) hk
            have m16 : b 16 = false := hcl.no (i := 16) rfl (k := 7) (by rfl) hk
            have m17 : b 17 = false := hcl.no (i := 17) rfl (k := 7) (by rfl) hk
            rw [stored_no m16, stored_no m15] at hw
            have hw2 := hw.symm
            subst hw2
            have r45 : ρ (.tmp 45) = .pointer (some ⟨g, 0, none⟩) := (hρ (.tmp 45) (by simp [Op.operands, Call.operands])).trans (V6 p0)
            have rc : ρ (.const (.int .i64 90)) = .int .i64 90 := hρ (.const (.int .i64 90)) (by simp [Op.operands, Call.operands])
            have rf22 : ρ (.func 22) = .func (.func 22) #[] #[] := hρ (.func 22) (by simp [Op.operands, Call.operands])
            refine RegFlow.gives_call (f := 22) (args := #[.pointer (some ⟨g, 0, none⟩), .int .i64 90]) (w' := ws) (by go_simp) (draw w ws g a n cap 90 hR (by omega) (by omega)) ?_
            rintro e wN ⟨yN, rfl, yaN, ybN, rdN, grN⟩
            exact ⟨_, rfl, wN, y1, y2, yN, aN, cN, L2, P, G, B, n6, n7, by rw [stored_no (show RegFlow.setB b 7 16 = false from m16), stored_no (show RegFlow.setB b 7 15 = false from m15)], gr_then hG grN, rdN, V0, V1, V2, V3, V4, V5, V6, fun _ => rfl, fun h => no_way m8 h, V9, V10, V11, V12, fun h => ⟨(B13 h).1, kept_draw (B13 h).2.1 (by have := (B13 h).2.2; omega) grN, (B13 h).2.2⟩, fun h => ⟨(B14 h).1, kept_draw (B14 h).2.1 (by have := (B14 h).2.2; omega) grN, (B14 h).2.2⟩, D13, D14, E, V17⟩
          · intro b u wI ρ hI hcl hp hk hρ
            obtain ⟨ws, y1, y2, y3, aN, cN, L2, P, G, B, n6, n7, hw, hG, hR, V0, V1, V2, V3, V4, V5, V6, V7, O8, V9, V10, V11, V12, B13, B14, D13, D14, E, V17⟩ := hI
            have hp2 : (b 0 && (b 3 && (b 5 && (b 7 && (b 7 && true))))) = true := hp
            simp only [Bool.and_eq_true, Bool.and_true] at hp2
            obtain ⟨p0, p1, p2, p3, p4⟩ := hp2
            have m9 : b 9 = false := hcl.no (i := 9) rfl (k := 8) (by rfl) hk
            have m10 : b 10 = false := hcl.no (i := 10) rfl (k := 9) (by rfl) m9
            have m11 : b 11 = false := hcl.no (i := 11) rfl (k := 9) (by rfl) m9
            have m12 : b 12 = false := hcl.no (i := 12) rfl (k := 9) (by rfl) m9
            have m15 : b 15 = false := hcl.no (i := 15) rfl (k := 8) (by rfl) hk
            have m16 : b 16 = false := hcl.no (i := 16) rfl (k := 8) (by rfl) hk
            have m17 : b 17 = false := hcl.no (i := 17) rfl (k := 8) (by rfl) hk
            rw [stored_no m16, stored_no m15] at hw
            have hw2 := hw.symm
            subst hw2
            have r39 : ρ (.tmp 39) = .agg #[.slice aL L.length cL] := (hρ (.tmp 39) (by simp [Op.operands, Call.operands])).trans (V0 p0)
            have r42 : ρ (.tmp 42) = .int .i64 (1 + y1) := (hρ (.tmp 42) (by simp [Op.operands, Call.operands])).trans (V3 p1)
            have r44 : ρ (.tmp 44) = .int .i64 y2 := (hρ (.tmp 44) (by simp [Op.operands, Call.operands])).trans (V5 p2)
            have r46 : ρ (.tmp 46) = .int .i64 y3 := (hρ (.tmp 46) (by simp [Op.operands, Call.operands])).trans (V7 p3)
            have rf24 : ρ (.func 24) = .func (.func 24) #[] #[] := hρ (.func 24) (by simp [Op.operands, Call.operands])
            have hy1 : y1 < 20 := (V2 (by have h9 := hcl 3 _ rfl p1; have h8 : (b 2 && true) = true := h9; simpa using h8)).2.2
            obtain ⟨L9, P9, G9, B9, hR9⟩ := gr_ex L (1 + y1) y2 y3
            have hlen := HGD.out.2.1
            refine RegFlow.gives_call (f := 24) (args := #[.agg #[.slice aL L.length cL], .int .i64 (1 + y1), .int .i64 y2, .int .i64 y3]) (w' := ws) (by go_simp) (spec_grant aL cL L L9 (1 + y1) y2 y3 P9 G9 B9 ws (HE.out.step hG hR).own (by omega) HE.out.room hR9) ?_
            rintro e wN ⟨a9, c9, rfl, hc9, o9, q9, hb9⟩
            exact ⟨_, rfl, wN, y1, y2, y3, a9, c9, L9, P9, G9, B9, n6, n7, by rw [stored_no (show RegFlow.setB b 8 16 = false from m16), stored_no (show RegFlow.setB b 8 15 = false from m15)], gr_below hG hb9, hR.below hb9, V0, V1, V2, V3, V4, V5, V6, V7, fun _ => ⟨rfl, o9, fun x hx => Nat.le_trans hG.size (q9 x hx), hc9, hR9, hy1⟩, fun h => no_way m9 h, fun h => no_way m10 h, fun h => no_way m11 h, fun h => no_way m12 h, fun h => ⟨(B13 h).1, kept_draw (B13 h).2.1 (by have := (B13 h).2.2; omega) (gr_below (gr_refl (some g)) hb9), (B13 h).2.2⟩, fun h => ⟨(B14 h).1, kept_draw (B14 h).2.1 (by have := (B14 h).2.2; omega) (gr_below (gr_refl (some g)) hb9), (B14 h).2.2⟩, fun _ h x hx => Nat.ne_of_gt (Nat.lt_of_lt_of_le (Array.getElem?_eq_some_iff.1 (B13 h).2.1).1 (q9 x hx)), fun _ h x hx => Nat.ne_of_gt (Nat.lt_of_lt_of_le (Array.getElem?_eq_some_iff.1 (B14 h).2.1).1 (q9 x hx)), E, fun h => no_way m17 h⟩
          · intro b u wI ρ hI hcl hp hk hρ
            obtain ⟨ws, y1, y2, y3, aN, cN, L2, P, G, B, n6, n7, hw, hG, hR, V0, V1, V2, V3, V4, V5, V6, V7, O8, V9, V10, V11, V12, B13, B14, D13, D14, E, V17⟩ := hI
            have hp2 : (b 8 && true) = true := hp
            simp only [Bool.and_eq_true, Bool.and_true] at hp2
            have p0 := hp2
            have m10 : b 10 = false := hcl.no (i := 10) rfl (k := 9) (by rfl) hk
            have m11 : b 11 = false := hcl.no (i := 11) rfl (k := 9) (by rfl) hk
            have m12 : b 12 = false := hcl.no (i := 12) rfl (k := 9) (by rfl) hk
            have m15 : b 15 = false := hcl.no (i := 15) rfl (k := 9) (by rfl) hk
            have m16 : b 16 = false := hcl.no (i := 16) rfl (k := 9) (by rfl) hk
            have m17 : b 17 = false := hcl.no (i := 17) rfl (k := 9) (by rfl) hk
            have r47 : ρ (.tmp 47) = .tuple #[.agg #[.slice aN L2.length cN], .agg #[.int .i64 P, .int .i64 G], .bool B] := (hρ (.tmp 47) (by simp [Op.operands, Call.operands])).trans ((O8 p0).1)
            exact RegFlow.gives_value (v := .tuple #[.agg #[.slice aN L2.length cN], .agg #[.int .i64 P, .int .i64 G], .bool B]) (w' := wI) (by go_simp) ⟨ws, y1, y2, y3, aN, cN, L2, P, G, B, n6, n7, hw, hG, hR, V0, V1, V2, V3, V4, V5, V6, V7, O8, fun _ => rfl, V10, V11, V12, B13, B14, D13, D14, E, V17⟩
          · intro b u wI ρ hI hcl hp hk hρ
            obtain ⟨ws, y1, y2, y3, aN, cN, L2, P, G, B, n6, n7, hw, hG, hR, V0, V1, V2, V3, V4, V5, V6, V7, O8, V9, V10, V11, V12, B13, B14, D13, D14, E, V17⟩ := hI
            have hp2 : (b 9 && true) = true := hp
            simp only [Bool.and_eq_true, Bool.and_true] at hp2
            have p0 := hp2
            have m15 : b 15 = false := hcl.no (i := 15) rfl (k := 10) (by rfl) hk
            have m16 : b 16 = false := hcl.no (i := 16) rfl (k := 10) (by rfl) hk
            have m17 : b 17 = false := hcl.no (i := 17) rfl (k := 10) (by rfl) hk
            have r38 : ρ (.tmp 38) = .tuple #[.agg #[.slice aN L2.length cN], .agg #[.int .i64 P, .int .i64 G], .bool B] := (hρ (.tmp 38) (by simp [Op.operands, Call.operands])).trans (V9 p0)
            exact RegFlow.gives_value (v := .agg #[.slice aN L2.length cN]) (w' := wI) (by go_simp) ⟨ws, y1, y2, y3, aN, cN, L2, P, G, B, n6, n7, hw, hG, hR, V0, V1, V2, V3, V4, V5, V6, V7, O8, V9, fun _ => rfl, V11, V12, B13, B14, D13, D14, E, V17⟩
          · intro b u wI ρ hI hcl hp hk hρ
            obtain ⟨ws, y1, y2, y3, aN, cN, L2, P, G, B, n6, n7, hw, hG, hR, V0, V1, V2, V3, V4, V5, V6, V7, O8, V9, V10, V11, V12, B13, B14, D13, D14, E, V17⟩ := hI
            have hp2 : (b 9 && true) = true := hp
            simp only [Bool.and_eq_true, Bool.and_true] at hp2
            have p0 := hp2
            have m16 : b 16 = false := hcl.no (i := 16) rfl (k := 11) (by rfl) hk
            have m17 : b 17 = false := hcl.no (i := 17) rfl (k := 11) (by rfl) hk
            have r38 : ρ (.tmp 38) = .tuple #[.agg #[.slice aN L2.length cN], .agg #[.int .i64 P, .int .i64 G], .bool B] := (hρ (.tmp 38) (by simp [Op.operands, Call.operands])).trans (V9 p0)
            exact RegFlow.gives_value (v := .agg #[.int .i64 P, .int .i64 G]) (w' := wI) (by go_simp) ⟨ws, y1, y2, y3, aN, cN, L2, P, G, B, n6, n7, hw, hG, hR, V0, V1, V2, V3, V4, V5, V6, V7, O8, V9, V10, fun _ => rfl, V12, B13, B14, D13, D14, E, V17⟩
          · intro b u wI ρ hI hcl hp hk hρ
            obtain ⟨ws, y1, y2, y3, aN, cN, L2, P, G, B, n6, n7, hw, hG, hR, V0, V1, V2, V3, V4, V5, V6, V7, O8, V9, V10, V11, V12, B13, B14, D13, D14, E, V17⟩ := hI
            have hp2 : (b 9 && true) = true := hp
            simp only [Bool.and_eq_true, Bool.and_true] at hp2
            have p0 := hp2
            have m17 : b 17 = false := hcl.no (i := 17) rfl (k := 12) (by rfl) hk
            have r38 : ρ (.tmp 38) = .tuple #[.agg #[.slice aN L2.length cN], .agg #[.int .i64 P, .int .i64 G], .bool B] := (hρ (.tmp 38) (by simp [Op.operands, Call.operands])).trans (V9 p0)
            exact RegFlow.gives_value (v := .bool B) (w' := wI) (by go_simp) ⟨ws, y1, y2, y3, aN, cN, L2, P, G, B, n6, n7, hw, hG, hR, V0, V1, V2, V3, V4, V5, V6, V7, O8, V9, V10, V11, fun _ => rfl, B13, B14, D13, D14, E, V17⟩
          · intro b u wI ρ hI hcl hp hk hρ
            obtain ⟨ws, y1, y2, y3, aN, cN, L2, P, G, B, n6, n7, hw, hG, hR, V0, V1, V2, V3, V4, V5, V6, V7, O8, V9, V10, V11, V12, B13, B14, D13, D14, E, V17⟩ := hI
            have m15 : b 15 = false := hcl.no (i := 15) rfl (k := 13) (by rfl) hk
            have m16 : b 16 = false := hcl.no (i := 16) rfl (k := 13) (by rfl) hk
            have m17 : b 17 = false := hcl.no (i := 17) rfl (k := 13) (by rfl) hk
            rw [stored_no m16, stored_no m15] at hw
            have hw2 := hw.symm
            subst hw2
            exact RegFlow.gives_value (v := .pointer (some ⟨ws.heap.size, 0, none⟩)) (w' := ws.alloc (.cells #[.slice none 0 0] 25)) (by go_simp) ⟨ws.alloc (.cells #[.slice none 0 0] 25), y1, y2, y3, aN, cN, L2, P, G, B, ws.heap.size, n7, by rw [stored_no (show RegFlow.setB b 13 16 = false from m16), stored_no (show RegFlow.setB b 13 15 = false from m15)], gr_alloc hG _, hR.alloc _, V0, V1, V2, V3, V4, V5, V6, V7, fun h => ⟨(O8 h).1, (O8 h).2.1.grown (gr_alloc (gr_refl (some g)) _) (fun x hx e => by have := (O8 h).2.2.1 x hx; cases e; omega), (O8 h).2.2⟩, V9, V10, V11, V12, fun _ => ⟨rfl, heap_alloc_new ws _, hG.size⟩, fun h => ⟨(B14 h).1, kept_draw (B14 h).2.1 (by have := (B14 h).2.2; omega) (gr_alloc (gr_refl (some g)) _), (B14 h).2.2⟩, fun h _ x hx => Nat.ne_of_lt ((O8 h).2.1.lt x hx), D14, fun _ h => Nat.ne_of_gt (Array.getElem?_eq_some_iff.1 (B14 h).2.1).1, V17⟩
          · intro b u wI ρ hI hcl hp hk hρ
            obtain ⟨ws, y1, y2, y3, aN, cN, L2, P, G, B, n6, n7, hw, hG, hR, V0, V1, V2, V3, V4, V5, V6, V7, O8, V9, V10, V11, V12, B13, B14, D13, D14, E, V17⟩ := hI
            have m15 : b 15 = false := hcl.no (i := 15) rfl (k := 14) (by rfl) hk
            have m16 : b 16 = false := hcl.no (i := 16) rfl (k := 14) (by rfl) hk
            have m17 : b 17 = false := hcl.no (i := 17) rfl (k := 14) (by rfl) hk
            rw [stored_no m16, stored_no m15] at hw
            have hw2 := hw.symm
            subst hw2
            exact RegFlow.gives_value (v := .pointer (some ⟨ws.heap.size, 0, none⟩)) (w' := ws.alloc (.cells #[.int .i64 0, .int .i64 0] 28)) (by go_simp) ⟨ws.alloc (.cells #[.int .i64 0, .int .i64 0] 28), y1, y2, y3, aN, cN, L2, P, G, B, n6, ws.heap.size, by rw [stored_no (show RegFlow.setB b 14 16 = false from m16), stored_no (show RegFlow.setB b 14 15 = false from m15)], gr_alloc hG _, hR.alloc _, V0, V1, V2, V3, V4, V5, V6, V7, fun h => ⟨(O8 h).1, (O8 h).2.1.grown (gr_alloc (gr_refl (some g)) _) (fun x hx e => by have := (O8 h).2.2.1 x hx; cases e; omega), (O8 h).2.2⟩, V9, V10, V11, V12, fun h => ⟨(B13 h).1, kept_draw (B13 h).2.1 (by have := (B13 h).2.2; omega) (gr_alloc (gr_refl (some g)) _), (B13 h).2.2⟩, fun _ => ⟨rfl, heap_alloc_new ws _, hG.size⟩, D13, fun h _ x hx => Nat.ne_of_lt ((O8 h).2.1.lt x hx), fun h _ => Nat.ne_of_lt (Array.getElem?_eq_some_iff.1 (B13 h).2.1).1, V17⟩
          · intro b u wI ρ hI hcl hp hk hρ
            obtain ⟨ws, y1, y2, y3, aN, cN, L2, P, G, B, n6, n7, hw, hG, hR, V0, V1, V2, V3, V4, V5, V6, V7, O8, V9, V10, V11, V12, B13, B14, D13, D14, E, V17⟩ := hI
            have hp2 : (b 13 && (b 10 && (b 8 && (b 0 && (b 1 && (b 2 && (b 3 && (b 4 && (b 5 && (b 6 && (b 7 && (b 8 && (b 9 && (b 10 && (b 13 && (b 14 && true)))))))))))))))) = true := hp
            simp only [Bool.and_eq_true, Bool.and_true] at hp2
            obtain ⟨p0, p1, p2, p3, p4, p5, p6, p7, p8, p9, p10, p11, p12, p13, p14, p15⟩ := hp2
            have m16 : b 16 = false := hcl.no (i := 16) rfl (k := 15) (by rfl) hk
            have m17 : b 17 = false := hcl.no (i := 17) rfl (k := 15) (by rfl) hk
            rw [stored_no m16, stored_no hk] at hw
            have hw2 := hw.symm
            subst hw2
            have r6 : ρ (.tmp 6) = .pointer (some ⟨n6, 0, none⟩) := (hρ (.tmp 6) (by simp [Op.operands, Call.operands])).trans ((B13 p0).1)
            have r48 : ρ (.tmp 48) = .agg #[.slice aN L2.length cN] := (hρ (.tmp 48) (by simp [Op.operands, Call.operands])).trans (V10 p1)
            have d0 := cellB (B13 p0).2.1 0
            have df0 := fzB (B13 p0).2.1 0
            exact RegFlow.gives_skip (w' := sets ws n6 0 [.slice aN L2.length cN]) (by go_simp; rfl) ⟨ws, y1, y2, y3, aN, cN, L2, P, G, B, n6, n7, by rw [stored_no (show RegFlow.setB b 15 16 = false from m16), stored_yes (show RegFlow.setB b 15 15 = true from rfl)], hG, hR, V0, V1, V2, V3, V4, V5, V6, V7, O8, V9, V10, V11, V12, B13, B14, D13, D14, E, V17⟩
          · intro b u wI ρ hI hcl hp hk hρ
            obtain ⟨ws, y1, y2, y3, aN, cN, L2, P, G, B, n6, n7, hw, hG, hR, V0, V1, V2, V3, V4, V5, V6, V7, O8, V9, V10, V11, V12, B13, B14, D13, D14, E, V17⟩ := hI
            have hp2 : (b 14 && (b 11 && (b 15 && (b 0 && (b 1 && (b 2 && (b 3 && (b 4 && (b 5 && (b 6 && (b 7 && (b 8 && (b 9 && (b 10 && (b 11 && (b 13 && (b 14 && (b 15 && true)))))))))))))))))) = true := hp
            simp only [Bool.and_eq_true, Bool.and_true] at hp2
            obtain ⟨p0, p1, p2, p3, p4, p5, p6, p7, p8, p9, p10, p11, p12, p13, p14, p15, p16, p17⟩ := hp2
            have m17 : b 17 = false := hcl.no (i := 17) rfl (k := 16) (by rfl) hk
            rw [stored_no hk, stored_yes p2] at hw
            have hw2 := hw.symm
            subst hw2
            have r7 : ρ (.tmp 7) = .pointer (some ⟨n7, 0, none⟩) := (hρ (.tmp 7) (by simp [Op.operands, Call.operands])).trans ((B14 p0).1)
            have r49 : ρ (.tmp 49) = .agg #[.int .i64 P, .int .i64 G] := (hρ (.tmp 49) (by simp [Op.operands, Call.operands])).trans (V11 p1)
            have bx : (sets ws n6 0 [.slice aN L2.length cN]).heap[n7]? = some (.cells #[.int .i64 0, .int .i64 0] 28 (0, 0)) := (sets_else (Ne.symm (E p15 p0)) _ _ _).trans (B14 p0).2.1
            generalize hwc : sets ws n6 0 [.slice aN L2.length cN] = wv at bx ⊢
            have d0 := cellB bx 0
            have df0 := fzB bx 0
            have d1 := cellB bx 1
            have df1 := fzB bx 1
            refine RegFlow.gives_skip (w' := sets wv n7 0 [.int .i64 P, .int .i64 G]) (by go_simp; rfl) ?_
            subst hwc
            exact ⟨ws, y1, y2, y3, aN, cN, L2, P, G, B, n6, n7, by rw [stored_yes (show RegFlow.setB b 16 16 = true from rfl), stored_yes (show RegFlow.setB b 16 15 = true from p2)], hG, hR, V0, V1, V2, V3, V4, V5, V6, V7, O8, V9, V10, V11, V12, B13, B14, D13, D14, E, V17⟩
          · intro b u wI ρ hI hcl hp hk hρ
            obtain ⟨ws, y1, y2, y3, aN, cN, L2, P, G, B, n6, n7, hw, hG, hR, V0, V1, V2, V3, V4, V5, V6, V7, O8, V9, V10, V11, V12, B13, B14, D13, D14, E, V17⟩ := hI
            have hp2 : (b 12 && (b 16 && (b 0 && (b 1 && (b 2 && (b 3 && (b 4 && (b 5 && (b 6 && (b 7 && (b 8 && (b 9 && (b 10 && (b 11 && (b 12 && (b 13 && (b 14 && (b 15 && (b 16 && true))))))))))))))))))) = true := hp
            simp only [Bool.and_eq_true, Bool.and_true] at hp2
            obtain ⟨p0, p1, p2, p3, p4, p5, p6, p7, p8, p9, p10, p11, p12, p13, p14, p15, p16, p17, p18⟩ := hp2
            have r50 : ρ (.tmp 50) = .bool B := (hρ (.tmp 50) (by simp [Op.operands, Call.operands])).trans (V12 p0)
            exact RegFlow.gives_value (v := .bool B) (w' := wI) (by go_simp) ⟨ws, y1, y2, y3, aN, cN, L2, P, G, B, n6, n7, hw, hG, hR, V0, V1, V2, V3, V4, V5, V6, V7, O8, V9, V10, V11, V12, B13, B14, D13, D14, E, fun _ => rfl⟩
          · intro u wF hI
            obtain ⟨ws, y1, y2, y3, aN, cN, L2, P, G, B, n6, n7, hwF, hG, hR, V0, V1, V2, V3, V4, V5, V6, V7, O8, V9, V10, V11, V12, B13, B14, D13, D14, E, V17⟩ := hI
            have hwF2 : wF = sets (sets ws n6 0 [.slice aN L2.length cN]) n7 0 [.int .i64 P, .int .i64 G] := hwF
            obtain ⟨e8, o8, f8, k8, R8, hy1⟩ := O8 rfl
            obtain ⟨e13, b13, l13⟩ := B13 rfl
            obtain ⟨e14, b14, l14⟩ := B14 rfl
            have g13 := D13 rfl rfl
            have g14 := D14 rfl rfl
            have ee := E rfl rfl
            have e0 := V0 rfl
            have e1 := V1 rfl
            have e3 := V3 rfl
            have e4 := V4 rfl
            have e5 := V5 rfl
            have e6 := V6 rfl
            have e7 := V7 rfl
            have e9 := V9 rfl
            have e10 := V10 rfl
            have e11 := V11 rfl
            have e12 := V12 rfl
            have e17 := V17 rfl
            have e2 := (V2 rfl).1
            have HLW : w.heap.size ≤ wd.heap.size := HE.out.ready.past.size
            have hgw : g < wd.heap.size := HE.out.ready.lt
            have GF0 : wd.grownBy wF (some g) := by rw [hwF2]; exact gr_sets l14 _ _ _ (gr_sets l13 _ _ _ hG)
            have RF0 : Ready w wF g a n cap := by rw [hwF2]; exact ready_sets (by omega) (by omega) _ _ _ (ready_sets (by omega) (by omega) _ _ _ hR)
            have DF : Hid (DSt w W wF g a n cap aL cL L (.slice ap Ps.length cp) Ps) := HE.out.step GF0 RF0
            have OF : Hid (Own 35 5 cells wF aN L2 ∧ (∀ b, blkL aN L2 = some b → W.heap.size + 1 < b) ∧ L2.length ≤ cN) := ⟨by rw [hwF2]; exact own_sets (own_sets o8 g13 _) g14 _, fun b hb => by have := f8 b hb; omega, k8⟩
            have x6 : wF.heap[n6]? = some (.cells #[.slice aN L2.length cN] 25 (0, 0)) := by rw [hwF2]; exact (sets_else ee _ _ _).trans (sets_at _ _ _ _ b13)
            have x7 : wF.heap[n7]? = some (.cells #[.int .i64 P, .int .i64 G] 28 (0, 0)) := by rw [hwF2]; exact sets_at _ _ _ _ ((sets_else (Ne.symm ee) _ _ _).trans b14)
            have HXX : Hid (wF.heap[n6]? = some (.cells #[.slice aN L2.length cN] 25 (0, 0)) ∧ wF.heap[n7]? = some (.cells #[.int .i64 P, .int .i64 G] 28 (0, 0)) ∧ W.heap.size + 1 < n6 ∧ W.heap.size + 1 < n7 ∧ n6 ≠ n7) := ⟨x6, x7, by omega, by omega, ee⟩
            have HGR : Hid (Gr L (1 + y1) y2 y3 L2 P G B ∧ y1 < 20) := ⟨R8, hy1⟩
            simp only [RegFlow.fin, Act.put, e0, e1, e2, e3, e4, e5, e6, e7, e8, e9, e10, e11, e12, e13, e14, e17]
            clear e0 e1 e2 e3 e4 e5 e6 e7 e8 e9 e10 e11 e12 e13 e14 e17 V0 V1 V2 V3 V4 V5 V6 V7 O8 V9 V10 V11 V12 B13 B14 D13 D14 E V17 hwF hwF2 hG hR o8 f8 k8 R8 b13 b14 l13 l14 g13 g14 ee hy1 HE c0 GF0 RF0 x6 x7 HLW hgw
            cases B with
            | false =>
              go_wp2
              go_roundw
              case rel => exact ⟨M, aL, cL, L, Ps, by omega, by omega, by go_num, DF, HGD.out.up (by omega)⟩
              case measure => simp [intOf]
            | true =>
              have c6 : wF.cell? ⟨n6, 0, none⟩ = some (.slice aN L2.length cN) := cellB HXX.out.1 0
              have c1 : wF.cell? ⟨W.heap.size + 1, 0, none⟩ = some (.slice aL L.length cL) := cellB DF.out.box 0
              have f1 := fzB DF.out.box 0
              go_upto_region 11 with fail
              have D11 : Hid (DSt w W (wF.setCell ⟨W.heap.size + 1, 0, none⟩ (.slice aN L2.length cN)) g a n cap aN cN L2 (.slice ap Ps.length cp) Ps) := DF.out.put OF.out.2.2 OF.out.1 OF.out.2.1 (apart_of OF.out.1 DF.out.perms)
              have X11 : Hid ((wF.setCell ⟨W.heap.size + 1, 0, none⟩ (.slice aN L2.length cN)).heap[n7]? = some (.cells #[.int .i64 P, .int .i64 G] 28 (0, 0))) := kept_set HXX.out.2.1 (by have := HXX.out; show n7 ≠ W.heap.size + 1; omega)
              have GF : Hid (LedInv.Good (9 - M) L2) := (LedInv.good_grant HGD.out HGR.out.1 (by have := HGR.out.2; omega)).up (by omega)
              clear c6 c1 f1 DF OF HXX HGR HGD
              generalize wF.setCell ⟨W.heap.size + 1, 0, none⟩ (.slice aN L2.length cN) = wG at *
              have c7 : wG.cell? ⟨n7, 0, none⟩ = some (.int .i64 P) := cellB X11.out 0
              have c8 : wG.cell? ⟨n7, 1, none⟩ = some (.int .i64 G) := cellB X11.out 1
              have HB11 : Hid (W.heap.size + 1 + 1 ≤ wG.heap.size) := (Array.getElem?_eq_some_iff.1 D11.out.box).1
              obtain ⟨i0, hi, hz0, hz1, hz2⟩ := infoP_parts infoP
              go_wp2_with (at_builtin; refine wpList_append_own _ rfl (.tmp 53) (.tmp 55) 57 rfl (W.heap.size + 1 + 1) 28 i0 (.agg #[.int .i64 0, .int .i64 0]) 2 16 Tryd.underlying57 hi hz0 hz1 hz2 rfl (by decide) _ Ps.length (flatP Ps) rfl (D11.out.below ((Below.refl _ _).alloc (Nat.le_refl _) _)).perms ⟨wG.heap.size, 0, none⟩ 1 1 (cellsP (P, G)) rfl rfl (newP wG P G) (oneP _) (by unfold maxLen; omega) (by omega) (by have := HB11.out; simp; omega) ?_; intro v9 w9 hown hgr hnn; have D12 : Hid (DSt w W w9 g a n cap aN cN L2 v9 (Ps ++ [(P, G)])) := D11.out.append hgr hown; clear hown hgr hnn)
              go_roundw
              case rel => exact ⟨M, aN, cN, L2, Ps ++ [(P, G)], by omega, by simp; omega, by go_num, D12, GF⟩
              case measure => simp [intOf]

def MkAns (w : World) (e : Ending) (w' : World) : Prop := ∃ (aL : Option Addr) (cL : Nat) (L : List Slot), e = .returned (.agg #[.slice aL L.length cL]) ∧ L.length ≤ cL ∧ LedInv.Good 9 L ∧ Own 35 5 cells w' aL L ∧ (∀ b, blkL aL L = some b → w.heap.size ≤ b) ∧ Below w.heap.size w w'
set_option maxHeartbeats 2000000 in
theorem make_led (n : Nat) (a : Option Addr) (cap : Nat) (w : World) (hn : (n : Int) ≤ 1048576) (hok : DrawWalks.CodeOk w w.heap.size a n) : Calls Tryd.prog 4 #[.slice a n cap] w (MkAns w) := by
  have hA : Below w.heap.size w (w.alloc (.cells #[.slice none 0 0] 25)) := (Below.refl _ _).alloc (Nat.le_refl _) _
  have HS := DrawKit.start n a cap w (w.alloc (.cells #[.slice none 0 0] 25)) hn hok hA
  simp only [World.size_alloc] at HS
  have Q0 : Hid ((w.alloc (.cells #[.slice none 0 0] 25)).heap[w.heap.size]? = some (.cells #[.slice none 0 0] 25 (0, 0))) := heap_alloc_new w _
  clear hA hok
  go_enter Tryd.func4, Tryd.ntmps4
  go_wp2_with fail
  refine HS.mono ?_
  rintro e w1 ⟨rfl, rd1, b1⟩
  have R1 : Hid (Ready w w1 (w.heap.size + 1) a n cap) := rd1
  have Q1 : Hid (w1.heap[w.heap.size]? = some (.cells #[.slice none 0 0] 25 (0, 0))) := (b1.block _ (by omega)).trans Q0.out
  clear rd1 b1 HS Q0
  go_wp2_with fail
  refine (draw_led w w1 (w.heap.size + 1) a n cap R1.out).mono ?_
  rintro e w2 ⟨aL, cL, L, rfl, hc, hg, ho, hf, hr, gr⟩
  have hl1 := R1.out.lt
  have Q2 : w2.heap[w.heap.size]? = some (.cells #[.slice none 0 0] 25 (0, 0)) := kept_draw Q1.out (by omega) gr
  have Q3 : (w2.alloc (.cells #[.slice aL L.length cL] 25)).heap[w.heap.size]? = some (.cells #[.slice none 0 0] 25 (0, 0)) := kept_new Q2
  have q4 := heap_alloc_new w2 (.cells #[.slice aL L.length cL] 25)
  have H2 : Hid (L.length ≤ cL ∧ LedInv.Good 9 L ∧ Own 35 5 cells (w2.alloc (.cells #[.slice aL L.length cL] 25)) aL L ∧ (∀ b, blkL aL L = some b → w.heap.size < b) ∧ Below w.heap.size w (w2.alloc (.cells #[.slice aL L.length cL] 25))) := ⟨hc, hg, ho.below ((Below.refl _ _).alloc (Nat.le_refl _) _), fun b hb => by have := hf b hb; omega, hr.past.alloc hr.past.size _⟩
  have hne : w.heap.size < w2.heap.size := (Array.getElem?_eq_some_iff.1 Q2).1
  clear hc hg ho hf hr gr Q1 R1 Q2 hl1
  go_upto_region 3 with fail
  generalize (w2.alloc (.cells #[.slice aL L.length cL] 25)) = w3 at *
  obtain ⟨N2, hN2⟩ : ∃ N2, w2.heap.size = N2 := ⟨_, rfl⟩
  rw [hN2] at q4 hne ⊢
  clear hN2
  have c0 : w3.cell? ⟨N2, 0, none⟩ = some (.slice aL L.length cL) := cellB q4 0
  have l0 : w3.cell? ⟨w.heap.size, 0, none⟩ = some (.slice none 0 0) := cellB Q3 0
  have lf0 := fzB Q3 0
  go_wp2
  refine bodyPost_ret (v := .agg #[.slice aL L.length cL]) (by simp [results, Tryd.results4, go_sem, l0]) rfl ⟨aL, cL, L, rfl, H2.out.1, H2.out.2.1, H2.out.2.2.1.set (fun b hb => by have := H2.out.2.2.2.1 b hb; show b ≠ w.heap.size; omega) _, fun b hb => Nat.le_of_lt (H2.out.2.2.2.1 b hb), H2.out.2.2.2.2.setCell (Nat.le_refl _) _⟩

end Go.Proofs.YtacpblhajoblmaaDoor.LedDraw
