/- What the program's byTier lays: the requests of each tier, in lists of its own, by tiers; nothing else turns. -/
import Derived.Test.YtnejomfaojpicaaRows
import Derived.WalkKit
import Derived.WalkSmall
import Derived.BigQuiet
import Derived.Deep.RegionWith
import Derived.Deep.DeepCutAuto
import Derived.Deep.RegionHeld3
import Derived.Maps.AppendAt
import Derived.Test.YtnejomfaojpicaaListKit
import Derived.Test.YtnejomfaojpicaaHoldKit
import Derived.Test.YtnejomfaojpicaaGrowKit
import Derived.Test.YtnejomfaojpicaaMapKit
import Derived.Test.YtnejomfaojpicaaReqKit
import Derived.Test.YtnejomfaojpicaaReqOks
import Derived.Test.YtnejomfaojpicaaQueMath
import Derived.Test.YtnejomfaojpicaaQueTierS
import Derived.Test.YtnejomfaojpicaaQueOutS
import Derived.Test.YtnejomfaojpicaaQueCopyS
namespace Go.Proofs.Ytnejomfaojpicaa.QueMapI
open Go.RowKit ListKit HoldKit GrowKit MapKit QueMath QueTierS QueCopyS
set_option maxRecDepth 8000
set_option linter.unusedVariables false
set_option linter.unusedSimpArgs false

/-- Block b is a map that holds, at each tier, the requests of this tier in a list of its own, from block b + 1 on. -/
structure Grp (w : World) (b : Nat) (V : Int → Value) (M : List ReqKit.Req) : Prop where
  map : IM Try.prog 3 w b M.length (.slice none 0 0) V (fun t => M.any (ofTier t true))
  own : ∀ t, wf t → Cp 27 6 ReqKit.cells w (b + 1) (V t) (tierOf M t true)
  apart : ∀ t1 t2, wf t1 → wf t2 → t1 ≠ t2 → ∀ g, (V t1).ownBlock = some g → (V t2).ownBlock ≠ some g
theorem Grp.below {w w' : World} {b : Nat} {V : Int → Value} {M : List ReqKit.Req} (h : Grp w b V M) (hb : Below w.heap.size w w') : Grp w' b V M := ⟨h.map.below hb, fun t ht => (h.own t ht).below hb, h.apart⟩
theorem Grp.start (w : World) : Grp (w.alloc (.map #[] 0)) w.heap.size (fun _ => .slice none 0 0) [] :=
  ⟨IM.made w _ _ _, fun t _ => Cp.nil _ _, fun t1 t2 _ _ _ g h => by simp [Value.ownBlock] at h⟩
theorem tier_push (M : List ReqKit.Req) (s : ReqKit.Req) (t : Int) : tierOf (M ++ [s]) t true = tierOf M t true ++ (if t = s.x1 then [s] else []) := by
  unfold tierOf
  rw [List.filter_append]
  congr 1
  by_cases e : t = s.x1
  · rw [if_pos e]; simp [List.filter, ofTier, e]
  · rw [if_neg e]
    have e2 : (s.x1 == t) = false := by rw [beq_eq_false_iff_ne]; exact fun h => e h.symm
    simp [List.filter, ofTier, e2]
theorem any_push (M : List ReqKit.Req) (s : ReqKit.Req) (t : Int) : (M ++ [s]).any (ofTier t true) = (decide (t = s.x1) || M.any (ofTier t true)) := by
  rw [List.any_append, Bool.or_comm]
  congr 1
  simp only [List.any_cons, List.any_nil, Bool.or_false, ofTier, Bool.and_true]
  by_cases e : t = s.x1
  · simp [e]
  · have e2 : (s.x1 == t) = false := by rw [beq_eq_false_iff_ne]; exact fun h => e h.symm
    rw [e2, decide_eq_false e]
theorem key_map : Try.prog.underlying 3 = some (.int .i64) := Try.underlying3
theorem req_map : Try.prog.underlying 49 = some (.map 3 23) := Try.underlying49
theorem zero_reqs (w : World) : (zeroValue 23).run Try.prog w = .ok (.slice none 0 0) w := by kernel_rfl
theorem Grp.look {w : World} {b : Nat} {V : Int → Value} {M : List ReqKit.Req} (h : Grp w b V M) {t : Int} (ht : wf t) : (Instr.lookup 49 (.map (some b)) (.int .i64 t) false).run Try.prog w = .ok (V t) w := h.map.look key_map req_map (zero_reqs w) ht
/-- One request more: it goes behind those of its tier. -/
theorem Grp.push {w : World} {b : Nat} {V : Int → Value} {M : List ReqKit.Req} (h : Grp w b V M) (hM : M.length ≤ 1048577) (s : ReqKit.Req) (hs : wf s.x1) (ad : Addr) (hc : ∀ j u, (ReqKit.cells s)[j]? = some u → w.cell? (ad.add j) = some u) (ty : TypeId) :
    ∃ v w1 w2, (Builtin.append_ #[23, 23] ty #[V s.x1, .slice (some ad) 1 1]).run Try.prog w = .ok v w1 ∧ (Instr.mapUpdate 49 (.map (some b)) (.int .i64 s.x1) v).run Try.prog w1 = .ok () w2 ∧
      Grp w2 b (fun t => if t = s.x1 then v else V t) (M ++ [s]) ∧ (∀ W : World, W.heap.size ≤ b → Below W.heap.size W w → Below W.heap.size W w2) ∧ (∀ N cs t, N ≠ b → (V s.x1).ownBlock ≠ some N → boxB w N cs t → boxB w1 N cs t ∧ boxB w2 N cs t) := by
  obtain ⟨i0, hi, hy0, hy1, hy2⟩ := info_parts info_req
  have hown := h.own s.x1 hs
  have htl : (tierOf M s.x1 true).length ≤ 1048577 := Nat.le_trans (List.length_filter_le _ _) hM
  have hb := h.map.lt
  obtain ⟨v, w1, hrun, h2, h3, _, h5⟩ := run_append_own_at (P := Try.prog) w (b + 1) 23 ty 27 i0 (.agg #[.int .i64 0, .int .i64 0, .int .i64 0, .int .i64 0, .int .i64 0, .int .i64 0]) 6 48 Try.underlying23 hi hy0 hy1 hy2 (by decide) (by decide) (V s.x1) _ _ hown ad 1 1 (ReqKit.cells s) rfl hc (cells_one s) (by unfold maxLen; omega) (by omega) (by omega)
  have hne : some b ≠ (V s.x1).ownBlock := fun e => by have := hown.ge b e.symm; omega
  obtain ⟨w2, hup, h6, h7⟩ := (h.map.kept h3 hne).put key_map req_map (by unfold maxLen; omega) hs v
  have hcp : Cp 27 6 ReqKit.cells w1 (b + 1) v (tierOf M s.x1 true ++ [s]) := Cp.push h2
  have h1w : ∀ t, wf t → t ≠ s.x1 → Cp 27 6 ReqKit.cells w1 (b + 1) (V t) (tierOf M t true) := fun t ht hts => (h.own t ht).same fun g hg _ => h3.block g ((h.own t ht).lt g hg) (fun e => h.apart t s.x1 ht hs hts g hg e.symm)
  have hkp : ∀ (u : Value) (L : List ReqKit.Req), Cp 27 6 ReqKit.cells w1 (b + 1) u L → Cp 27 6 ReqKit.cells w2 (b + 1) u L := fun u L hu => hu.same fun g hg hgb => h7.block g (hu.lt g hg) (fun e => by injection e with e; omega)
  refine ⟨v, w1, w2, hrun, hup, ⟨?_, fun t ht => ?_, fun t1 t2 ht1 ht2 hne12 g hg1 => ?_⟩, fun W hW hbw => ?_, fun N cs t hN hNv hbx => ?_⟩
  · rw [List.length_append]
    exact h6.cong fun t ht => ⟨rfl, (any_push M s t).symm⟩
  · rw [tier_push]
    by_cases e : t = s.x1
    · rw [if_pos e, if_pos e, e]
      exact hkp _ _ hcp
    · rw [if_neg e, if_neg e, List.append_nil]
      exact hkp _ _ (h1w t ht e)
  · have far : ∀ t, wf t → t ≠ s.x1 → ∀ g, (V t).ownBlock = some g → v.ownBlock ≠ some g := fun t ht hts g hg e => by
      rcases h5 with h5 | h5
      · rw [h5] at e
        exact h.apart t s.x1 ht hs hts g hg e
      · rw [h5] at e
        injection e with e
        have := (h.own t ht).lt g hg
        omega
    by_cases e1 : t1 = s.x1
    · rw [if_pos e1] at hg1
      rw [if_neg (fun e2 => hne12 (e1.trans e2.symm))]
      exact fun e2 => far t2 ht2 (fun e3 => hne12 (e1.trans e3.symm)) g e2 hg1
    · rw [if_neg e1] at hg1
      by_cases e2 : t2 = s.x1
      · rw [if_pos e2]
        exact far t1 ht1 e1 g hg1
      · rw [if_neg e2]
        exact h.apart t1 t2 ht1 ht2 hne12 g hg1
  · exact (hbw.grown h3 (Below.size hbw) (fun k hk => by have := hown.ge k hk; omega)).grown h7 (Nat.le_trans (Below.size hbw) h3.size) (fun k hk => by injection hk with hk; omega)
  · have hb1 : boxB w1 N cs t := (h3.block N hbx.lt (fun e => hNv e.symm)).trans hbx
    exact ⟨hb1, (h7.block N hb1.lt (fun e => by injection e with e; exact hN e)).trans hb1⟩
set_option maxHeartbeats 4000000 in
theorem by_tier (a : Option Addr) (c : Nat) (L : List ReqKit.Req) (w : World) (h : Own 27 6 ReqKit.cells w a L) (hl : L.length ≤ 1048577) (hc : L.length ≤ c) (hw : ∀ (k : Nat) (h : k < L.length), wf L[k].x1) :
    Calls Try.prog 19 #[.slice a L.length c] w fun e w' => ∃ V, e = .returned (.map (some w.heap.size)) ∧ Grp w' w.heap.size V L ∧ Below w.heap.size w w' := by
  have HA : Hid (Own 27 6 ReqKit.cells w a L) := h
  have HWF : Hid (∀ (k : Nat) (h : k < L.length), wf L[k].x1) := hw
  clear h hw
  obtain ⟨n, hn⟩ : ∃ n, L.length = n := ⟨_, rfl⟩
  have HN : Hid (L.length = n) := hn
  rw [hn] at hl hc ⊢
  clear hn
  have b0 : Hid (Grp (w.alloc (.map #[] 0)) w.heap.size (fun _ => .slice none 0 0) (L.take 0) ∧ Below w.heap.size w (w.alloc (.map #[] 0))) := ⟨Grp.start w, (Below.refl _ _).alloc (Nat.le_refl _) _⟩
  have hmm := @run_makeMap Try.prog
  go_enter Try.func19, Try.ntmps19
  go_wp2
  go_loopw [5, 9] (fun t5 i wr => ∃ (k : Nat) (V : Int → Value), k ≤ n ∧ i = .int .i64 (k : Int) ∧ Hid (Grp wr w.heap.size V (L.take k) ∧ Below w.heap.size w wr)) (fun _ i _ => n - (intOf i).toNat)
  case atStart => exact ⟨0, _, by omega, rfl, b0⟩
  case round =>
    obtain ⟨k, V, hk, rfl, HW⟩ := hrel
    clear b0
    by_cases hlt : k < n
    · have hlt2 : k < L.length := by rw [HN.out]; exact hlt
      rcases HA.out with hnil | ⟨g, o, rfl, hrw⟩
      · rw [hnil] at hlt2; simp at hlt2
      · have hr1 : Row 27 6 ReqKit.cells wr g o L := hrw.below HW.out.2
        have hwx := HWF.out k hlt2
        obtain ⟨sx, hsx⟩ : ∃ s, L[k] = s := ⟨_, rfl⟩
        obtain ⟨x0, x1, x2, x3, x4, x5⟩ := sx
        have u9 := fun jj hjj => (hr1).cell k hlt2 jj hjj
        have p0 : wr.cell? ⟨g, o + k * 6, none⟩ = some (.int .i64 x0) := by have h9 := u9 0 (by omega); rw [hsx] at h9; exact h9
        have p1 : wr.cell? ⟨g, o + k * 6 + 1, none⟩ = some (.int .i64 x1) := by have h9 := u9 1 (by omega); rw [hsx] at h9; exact h9
        have p2 : wr.cell? ⟨g, o + k * 6 + 2, none⟩ = some (.int .i64 x2) := by have h9 := u9 2 (by omega); rw [hsx] at h9; exact h9
        have p3 : wr.cell? ⟨g, o + k * 6 + 3, none⟩ = some (.int .i64 x3) := by have h9 := u9 3 (by omega); rw [hsx] at h9; exact h9
        have p4 : wr.cell? ⟨g, o + k * 6 + 4, none⟩ = some (.int .i64 x4) := by have h9 := u9 4 (by omega); rw [hsx] at h9; exact h9
        have p5 : wr.cell? ⟨g, o + k * 6 + 5, none⟩ = some (.int .i64 x5) := by have h9 := u9 5 (by omega); rw [hsx] at h9; exact h9
        clear u9
        have hli : (k : Int) < (n : Int) := by omega
        have hkc : (k : Int) < (c : Int) := by omega
        have HTK : Hid (L.take (k + 1) = L.take k ++ [⟨x0, x1, x2, x3, x4, x5⟩]) := by
          show _ = _
          rw [List.take_add_one, List.getElem?_eq_getElem hlt2, hsx]
          rfl
        rw [hsx] at hwx
        have hML : (L.take k).length ≤ 1048577 := by rw [List.length_take]; omega
        have hbl : w.heap.size < wr.heap.size := HW.out.1.map.lt
        have hvm : (V x1).ownBlock ≠ some wr.heap.size := fun e => by have := (HW.out.1.own x1 hwx).lt _ e; omega
        have B6 : Hid (Grp (wr.alloc (.cells #[.int .i64 x0, .int .i64 x1, .int .i64 x2, .int .i64 x3, .int .i64 x4, .int .i64 x5] 27)) w.heap.size V (L.take k) ∧ Below w.heap.size w (wr.alloc (.cells #[.int .i64 x0, .int .i64 x1, .int .i64 x2, .int .i64 x3, .int .i64 x4, .int .i64 x5] 27)) ∧ boxB (wr.alloc (.cells #[.int .i64 x0, .int .i64 x1, .int .i64 x2, .int .i64 x3, .int .i64 x4, .int .i64 x5] 27)) wr.heap.size #[.int .i64 x0, .int .i64 x1, .int .i64 x2, .int .i64 x3, .int .i64 x4, .int .i64 x5] 27) := ⟨HW.out.1.below (n1 _ _), HW.out.2.alloc HW.out.2.size _, boxB.new _ _ _⟩
        clear hr1 hsx hrw
        go_upto_region 5 with fail
        clear p0 p1 p2 p3 p4 p5
        have hsz : w.heap.size < (wr.alloc (.cells #[.int .i64 x0, .int .i64 x1, .int .i64 x2, .int .i64 x3, .int .i64 x4, .int .i64 x5] 27)).heap.size := by rw [sz1]; omega
        obtain ⟨M, hM⟩ : ∃ M, wr.heap.size = M := ⟨_, rfl⟩
        rw [hM] at B6 hbl hvm ⊢
        generalize (wr.alloc (.cells #[.int .i64 x0, .int .i64 x1, .int .i64 x2, .int .i64 x3, .int .i64 x4, .int .i64 x5] 27)) = W6 at *
        have B7 : Hid (Grp (W6.alloc (.cells #[.int .i64 x0, .int .i64 x1, .int .i64 x2, .int .i64 x3, .int .i64 x4, .int .i64 x5] 27)).drew w.heap.size V (L.take k) ∧ Below w.heap.size w (W6.alloc (.cells #[.int .i64 x0, .int .i64 x1, .int .i64 x2, .int .i64 x3, .int .i64 x4, .int .i64 x5] 27)).drew) := ⟨B6.out.1.below (n1 _ _).drew, (B6.out.2.1.alloc B6.out.2.1.size _).drew⟩
        obtain ⟨v8, w8, w9, hap, hup, hgp, hbw, hbx⟩ := B7.out.1.push hML ⟨x0, x1, x2, x3, x4, x5⟩ hwx ⟨W6.heap.size, 0, none⟩ (new_cells W6 ⟨x0, x1, x2, x3, x4, x5⟩ 27) 23
        have HE : Hid (Grp w9 w.heap.size (fun t => if t = x1 then v8 else V t) (L.take (k + 1)) ∧ Below w.heap.size w w9) := ⟨by rw [HTK.out]; exact hgp, hbw w (Nat.le_refl _) B7.out.2⟩
        have hlk : (Instr.lookup 49 (.map (some w.heap.size)) (.int .i64 x1) false).run Try.prog W6.drew = .ok (V x1) W6.drew := (B6.out.1.below (Below.refl _ _).drew).look hwx
        have hlk2 : (Instr.lookup 49 (.map (some w.heap.size)) (.int .i64 x1) false).run Try.prog (W6.alloc (.cells #[.int .i64 x0, .int .i64 x1, .int .i64 x2, .int .i64 x3, .int .i64 x4, .int .i64 x5] 27)).drew = .ok (V x1) (W6.alloc (.cells #[.int .i64 x0, .int .i64 x1, .int .i64 x2, .int .i64 x3, .int .i64 x4, .int .i64 x5] 27)).drew := B7.out.1.look hwx
        have hap2 : ∀ ty, (Builtin.append_ #[23, 23] ty #[V x1, .slice (some ⟨W6.heap.size, 0, none⟩) 1 1]).run Try.prog (W6.alloc (.cells #[.int .i64 x0, .int .i64 x1, .int .i64 x2, .int .i64 x3, .int .i64 x4, .int .i64 x5] 27)).drew = .ok v8 w8 := fun ty => hap
        obtain ⟨vv, hvv⟩ : ∃ vv, V x1 = vv := ⟨_, rfl⟩
        rw [hvv] at hlk hlk2 hap2
        have HB8 := hbx M _ _ (by omega) hvm (B6.out.2.2.below (n1 _ _).drew)
        have S8 : Hid (w8.cell? ⟨M, 0, none⟩ = some (.int .i64 x0) ∧ w8.cell? ⟨M, 1, none⟩ = some (.int .i64 x1) ∧ w8.cell? ⟨M, 2, none⟩ = some (.int .i64 x2) ∧ w8.cell? ⟨M, 3, none⟩ = some (.int .i64 x3) ∧ w8.cell? ⟨M, 4, none⟩ = some (.int .i64 x4) ∧ w8.cell? ⟨M, 5, none⟩ = some (.int .i64 x5)) := ⟨HB8.1.cell 0, HB8.1.cell 1, HB8.1.cell 2, HB8.1.cell 3, HB8.1.cell 4, HB8.1.cell 5⟩
        have S9 : Hid (w9.cell? ⟨M, 0, none⟩ = some (.int .i64 x0) ∧ w9.cell? ⟨M, 1, none⟩ = some (.int .i64 x1) ∧ w9.cell? ⟨M, 2, none⟩ = some (.int .i64 x2) ∧ w9.cell? ⟨M, 3, none⟩ = some (.int .i64 x3) ∧ w9.cell? ⟨M, 4, none⟩ = some (.int .i64 x4) ∧ w9.cell? ⟨M, 5, none⟩ = some (.int .i64 x5)) := ⟨HB8.2.cell 0, HB8.2.cell 1, HB8.2.cell 2, HB8.2.cell 3, HB8.2.cell 4, HB8.2.cell 5⟩
        clear hap hgp hbw hvv hbx HB8 hvm
        have q0 := B6.out.2.2.cell 0
        have q1 := B6.out.2.2.cell 1
        have q2 := B6.out.2.2.cell 2
        have q3 := B6.out.2.2.cell 3
        have q4 := B6.out.2.2.cell 4
        have q5 := B6.out.2.2.cell 5
        have S0 : Hid (W6.drew.cell? ⟨M, 0, none⟩ = some (.int .i64 x0) ∧ W6.drew.cell? ⟨M, 1, none⟩ = some (.int .i64 x1) ∧ W6.drew.cell? ⟨M, 2, none⟩ = some (.int .i64 x2) ∧ W6.drew.cell? ⟨M, 3, none⟩ = some (.int .i64 x3) ∧ W6.drew.cell? ⟨M, 4, none⟩ = some (.int .i64 x4) ∧ W6.drew.cell? ⟨M, 5, none⟩ = some (.int .i64 x5)) := ⟨q0, q1, q2, q3, q4, q5⟩
        go_wp2_with fail
        go_region_held3 (fun w' => w'.cell? ⟨M, 0, none⟩ = some (.int .i64 x0) ∧ w'.cell? ⟨M, 1, none⟩ = some (.int .i64 x1) ∧ w'.cell? ⟨M, 2, none⟩ = some (.int .i64 x2) ∧ w'.cell? ⟨M, 3, none⟩ = some (.int .i64 x3) ∧ w'.cell? ⟨M, 4, none⟩ = some (.int .i64 x4) ∧ w'.cell? ⟨M, 5, none⟩ = some (.int .i64 x5)) (first | with_reducible exact S0.out | with_reducible exact S8.out | with_reducible exact S9.out | go_keep) (first | (refine step_run (by rfl) (.tmp 19) (.tmp 21) 23 (by rfl) vv (.slice (some ⟨W6.heap.size, 0, none⟩) 1 1) v8 w8 (by rfl) (by rfl) (hap2 _) ?_) | (refine step_put (by rfl) (.tmp 13) (.tmp 15) (.tmp 22) 49 (by rfl) (.map (some w.heap.size)) (.int .i64 x1) v8 w9 (by rfl) (by rfl) (by rfl) hup ?_))
        all_goals
          go_wp2
          go_roundw
          case rel => exact ⟨k + 1, _, by omega, by go_num, HE⟩
          case measure => simp [intOf]; omega
    · obtain rfl : k = n := by omega
      have hfull : Hid (L.take k = L) := by
        show _ = _
        rw [← HN.out, List.take_length]
      rw [hfull.out] at HW
      go_wp2
      go_ret
      exact ⟨V, rfl, HW.out.1, HW.out.2⟩
end Go.Proofs.Ytnejomfaojpicaa.QueMapI
