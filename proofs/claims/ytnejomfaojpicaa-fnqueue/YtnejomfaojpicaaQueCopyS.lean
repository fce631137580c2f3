/- What the model's l07Copy answers, at every queue: the same queue, its list new; nothing else turns. -/
import Derived.Test.YtnejomfaojpicaaRows
import Derived.WalkKit
import Derived.WalkSmall
import Derived.BigQuiet
import Derived.Deep.RegionWith
import Derived.Deep.DeepCutAuto
import Derived.Deep.RegionHeld3
import Derived.Deep.AppendSrc
import Derived.Deep.RegionLaw
import Derived.Test.YtnejomfaojpicaaListKit
import Derived.Test.YtnejomfaojpicaaHoldKit
import Derived.Test.YtnejomfaojpicaaGrowKit
import Derived.Test.YtnejomfaojpicaaReqKit
import Derived.Test.YtnejomfaojpicaaReqOks
import Derived.Test.YtnejomfaojpicaaQueMath
import Derived.Test.YtnejomfaojpicaaQueOkS
import Derived.Test.YtnejomfaojpicaaQueTierS
import Derived.Test.YtnejomfaojpicaaQueOutS
namespace Go.Proofs.Ytnejomfaojpicaa.QueCopyS
open Go.RowKit ListKit HoldKit GrowKit QueMath QueTierS QueOutS
set_option maxRecDepth 8000
set_option linter.unusedVariables false
set_option linter.unusedSimpArgs false

/-- append, as one step of a region that draws, by what its run gives. -/
theorem step_run {P : Program} {ops : Array Oper} {o : Oper} {a : Act} {w : World} {K : Act → World → Prop} {Q : Exit → Act → World → Prop} {E : Prop}
    (hg : o.guard = none) (s x : Operand) (t : TypeId) (hop : o.op = Op.call { callee := Callee.builtin Builtin.append, args := #[s, x], argTypes := #[t, t] })
    (v1 v2 v : Value) (w' : World) (hs : a.eval s = v1) (hx : a.eval x = v2) (hr : (Builtin.append_ #[t, t] o.type #[v1, v2]).run P w = .ok v w')
    (hK : K (a.put o.dst v) w') : if Region.wanted o (yielded ops a.tmps) = true then Oper.wp P o a w K Q else E := by
  have hw : Region.wanted o (yielded ops a.tmps) = true := by simp [Region.wanted, hg]
  rw [if_pos hw]
  unfold Oper.wp
  simp [execOp, hop, resolve, invoke, builtin, hs, hx, hr, Result.andThen]
  exact hK
/-- append to a list of the call's own, as one step of a region that draws. -/
theorem step_own {P : Program} {ops : Array Oper} {o : Oper} {a : Act} {w : World} {K : Act → World → Prop} {Q : Exit → Act → World → Prop} {E : Prop}
    (hg : o.guard = none) (s x : Operand) (t : TypeId) (hop : o.op = Op.call { callee := Callee.builtin Builtin.append, args := #[s, x], argTypes := #[t, t] })
    (base : Nat) (e : TypeId) (i : TypeInfo) (z : Value) (size bytes : Nat) (ht : P.underlying t = some (.slice e)) (hi : P.info? e = some i) (hz : i.zero = some z)
    (hsize : i.size = size) (hby : i.bytes = bytes) (hzs : z.cells.size = size) (hsz : 0 < size)
    (v : Value) (n : Nat) (xs : List Value) (hs : a.eval s = v) (hown : w.ownsRow base e size v n xs)
    (ad : Addr) (m c : Nat) (news : List Value) (hx : a.eval x = .slice (some ad) m c) (hl : news.length = m * size) (hnews : ∀ j u, news[j]? = some u → w.cell? (ad.add j) = some u) (h1 : ∀ u ∈ news, u.oneCell' = true)
    (h63 : n + m ≤ maxLen) (hbytes : (n + m) * bytes ≤ 140737488355328) (hbase : base ≤ w.heap.size)
    (h : ∀ v' w', w'.ownsRow base e size v' (n + m) (xs ++ news) → w.grownBy w' v.ownBlock → K (a.put o.dst v') w') : if Region.wanted o (yielded ops a.tmps) = true then Oper.wp P o a w K Q else E := by
  have hw : Region.wanted o (yielded ops a.tmps) = true := by simp [Region.wanted, hg]
  rw [if_pos hw]
  exact wp_append_own w s x t hop base e i z size bytes ht hi hz hsize hby hzs hsz v n xs hs hown ad m c news hx hl hnews h1 h63 hbytes hbase fun v' w' h2 h3 _ => h v' w' h2 h3
theorem src_req {w : World} {ad : Addr} {L : List ReqKit.Req} (h : Own 27 6 ReqKit.cells w (some ad) L) : ∀ j u, (flat ReqKit.cells L)[j]? = some u → w.cell? (ad.add j) = some u := fun j u hu => by
  have hj : j < L.length * 6 := by
    have := (List.getElem?_eq_some_iff.1 hu).1
    rw [flat_len (m := 6) (fun _ => rfl)] at this
    exact this
  have h1 := flat_get (m := 6) (f := ReqKit.cells) (fun _ => rfl) L (j / 6) (by omega) (j % 6) (by omega)
  rw [show j / 6 * 6 + j % 6 = j by omega, hu] at h1
  rcases h with h | ⟨g, p, e, hr⟩
  · subst h; simp at hj
  · injection e with e
    subst e
    rw [Addr.add_lit, show p + j = p + j / 6 * 6 + j % 6 by omega, hr.cell (j / 6) (by omega) (j % 6) (by omega)]
    exact h1.symm
theorem flat_ones (L : List ReqKit.Req) : ∀ u ∈ flat ReqKit.cells L, u.oneCell' = true := by
  intro u hu
  simp only [flat, List.mem_flatten, List.mem_map] at hu
  obtain ⟨l, ⟨s, _, rfl⟩, h⟩ := hu
  exact cells_one s u h
theorem app_nil (a : Option Addr) (W : World) (b c : Nat) (ty : TypeId) : (Builtin.append_ #[23, 23] ty #[.slice (some ⟨b, 0, none⟩) 0 0, .slice a 0 c]).run Try.prog W = .ok (.slice (some ⟨b, 0, none⟩) 0 0) W := by
  obtain ⟨i, hi, hz, hs, hb⟩ := info_parts info_req
  have hsrc : Src Try.prog i.size 23 (.slice a 0 c) 0 [] W := by
    cases a with
    | none => exact Src.ofNil W Try.underlying23 c
    | some ad => exact Src.ofSlice W Try.underlying23 ad 0 c [] (by simp) (fun j u hu => by simp at hu) (fun u hu => by cases hu)
  have h := run_append_room_src (P := Try.prog) W 23 23 ty 27 i Try.underlying23 hi b 0 0 0 (.slice a 0 c) 0 [] hsrc (by omega) (fun j hj => by simp at hj) (fun j hj => by simp at hj)
  simpa [World.setCells] using h
/-- The copy, its list a row of the call's own. -/
def CAns (w : World) (x : Int) (L : List ReqKit.Req) (e : Ending) (w' : World) : Prop := ∃ a2 c2, e = .returned (.agg #[.int .i64 x, .slice a2 L.length c2]) ∧ L.length ≤ c2 ∧ GrowKit.Cp 27 6 ReqKit.cells w' w.heap.size (.slice a2 L.length c2) L ∧ Below w.heap.size w w'
theorem CAns.q {w w' : World} {x : Int} {L : List ReqKit.Req} {e : Ending} (h : CAns w x L e w') : QAns w x L e w' := by
  obtain ⟨a2, c2, he, hc, hg, hb⟩ := h
  obtain ⟨a3, c3, h3, h4, h5⟩ := Cp.shape (t := 27) (m := 6) (f := ReqKit.cells) (fun _ => rfl) hg
  injection h3 with e1 _ e3
  subst e1 e3
  exact ⟨a2, c2, he, hc, h5, hb⟩
set_option maxHeartbeats 8000000 in
theorem copy_nil (x : Int) (a : Option Addr) (n c : Nat) (w : World) (hn : n = 0) : Calls Try.prog 36 #[.agg #[.int .i64 x, .slice a n c]] w (CAns w x []) := by
  have B2 : Hid (boxB ((w.alloc (.cells #[.int .i64 x, .slice a n c] 25)).alloc (.cells #[.int .i64 0, .slice none 0 0] 25)) w.heap.size #[.int .i64 x, .slice a n c] 25 ∧ boxB ((w.alloc (.cells #[.int .i64 x, .slice a n c] 25)).alloc (.cells #[.int .i64 0, .slice none 0 0] 25)) (w.heap.size + 1) #[.int .i64 0, .slice none 0 0] 25 ∧ Below w.heap.size w ((w.alloc (.cells #[.int .i64 x, .slice a n c] 25)).alloc (.cells #[.int .i64 0, .slice none 0 0] 25))) := ⟨(boxB.new _ _ _).below (n1 _ _), new2 _ _ _ _, n2 _ _ _⟩
  have hap : ∀ W ty, (Builtin.append_ #[23, 23] ty #[.slice (some ⟨w.heap.size + 1 + 1, 0, none⟩) 0 0, .slice a n c]).run Try.prog W = .ok (.slice (some ⟨w.heap.size + 1 + 1, 0, none⟩) 0 0) W := by
    intro W ty
    rw [hn]
    exact app_nil a W (w.heap.size + 1 + 1) c ty
  clear hn
  go_enter Try.func36, Try.ntmps36
  go_wp2
  have S0 : Hid ((fun w' => w'.cell? ⟨w.heap.size, 0, none⟩ = some (.int .i64 x) ∧ w'.cell? ⟨w.heap.size, 1, none⟩ = some (.slice a n c)) ((w.alloc (.cells #[.int .i64 x, .slice a n c] 25)).alloc (.cells #[.int .i64 0, .slice none 0 0] 25))) := ⟨B2.out.1.cell 0, B2.out.1.cell 1⟩
  have d0 := B2.out.2.1.cell 0
  go_region_held3 (fun w' => w'.cell? ⟨w.heap.size, 0, none⟩ = some (.int .i64 x) ∧ w'.cell? ⟨w.heap.size, 1, none⟩ = some (.slice a n c)) (first | with_reducible exact S0.out | go_keep) ((refine step_run (by rfl) (.tmp 5) (.tmp 7) 23 (by rfl) (.slice (some ⟨w.heap.size + 1 + 1, 0, none⟩) 0 0) (.slice a n c) (.slice (some ⟨w.heap.size + 1 + 1, 0, none⟩) 0 0) _ (by rfl) (by rfl) (hap _ _) ?_))
  go_wp2
  refine bodyPost_ret (v := .agg #[.int .i64 x, .slice (some ⟨w.heap.size + 1 + 1, 0, none⟩) 0 0]) (by simp [results, Try.results36, go_sem]) rfl ⟨_, 0, rfl, Nat.le_refl _, ?_, (n3 w _ _ _).drew⟩
  have h9 := Cp.empty (t := 27) (m := 6) (f := ReqKit.cells) ((w.alloc (.cells #[.int .i64 x, .slice a n c] 25)).alloc (.cells #[.int .i64 x, .slice (some ⟨w.heap.size + 1 + 1, 0, none⟩) 0 0] 25)) (B := w.heap.size) (by rw [sz2]; omega)
  rw [sz2] at h9
  exact h9
set_option maxHeartbeats 8000000 in
theorem copy_some (x : Int) (ad : Addr) (c : Nat) (L : List ReqKit.Req) (w : World) (h : Own 27 6 ReqKit.cells w (some ad) L) (hl : L.length ≤ 1048577) : Calls Try.prog 36 #[.agg #[.int .i64 x, .slice (some ad) L.length c]] w (CAns w x L) := by
  have HA : Hid (Own 27 6 ReqKit.cells w (some ad) L) := h
  clear h
  obtain ⟨n, hn⟩ : ∃ n, L.length = n := ⟨_, rfl⟩
  have HN : Hid (L.length = n) := hn
  have B2 : Hid (boxB ((w.alloc (.cells #[.int .i64 x, .slice (some ad) n c] 25)).alloc (.cells #[.int .i64 0, .slice none 0 0] 25)) w.heap.size #[.int .i64 x, .slice (some ad) n c] 25 ∧ boxB ((w.alloc (.cells #[.int .i64 x, .slice (some ad) n c] 25)).alloc (.cells #[.int .i64 0, .slice none 0 0] 25)) (w.heap.size + 1) #[.int .i64 0, .slice none 0 0] 25 ∧ Below w.heap.size w ((w.alloc (.cells #[.int .i64 x, .slice (some ad) n c] 25)).alloc (.cells #[.int .i64 0, .slice none 0 0] 25))) := ⟨(boxB.new _ _ _).below (n1 _ _), new2 _ _ _ _, n2 _ _ _⟩
  have B3 : Hid (GrowKit.Cp 27 6 ReqKit.cells (((w.alloc (.cells #[.int .i64 x, .slice (some ad) n c] 25)).alloc (.cells #[.int .i64 0, .slice none 0 0] 25)).alloc (.cells #[] 27)).drew (w.heap.size + 1 + 1) (.slice (some ⟨w.heap.size + 1 + 1, 0, none⟩) 0 0) [] ∧ boxB (((w.alloc (.cells #[.int .i64 x, .slice (some ad) n c] 25)).alloc (.cells #[.int .i64 0, .slice none 0 0] 25)).alloc (.cells #[] 27)).drew w.heap.size #[.int .i64 x, .slice (some ad) n c] 25 ∧ boxB (((w.alloc (.cells #[.int .i64 x, .slice (some ad) n c] 25)).alloc (.cells #[.int .i64 0, .slice none 0 0] 25)).alloc (.cells #[] 27)).drew (w.heap.size + 1) #[.int .i64 0, .slice none 0 0] 25 ∧ Below w.heap.size w (((w.alloc (.cells #[.int .i64 x, .slice (some ad) n c] 25)).alloc (.cells #[.int .i64 0, .slice none 0 0] 25)).alloc (.cells #[] 27)).drew) := by
    have h9 := Cp.empty (t := 27) (m := 6) (f := ReqKit.cells) ((w.alloc (.cells #[.int .i64 x, .slice (some ad) n c] 25)).alloc (.cells #[.int .i64 0, .slice none 0 0] 25)) (B := w.heap.size + 1 + 1) (by rw [sz2]; exact Nat.le_refl _)
    rw [sz2] at h9
    exact ⟨h9, B2.out.1.below (n1 _ _).drew, B2.out.2.1.below (n1 _ _).drew, (n3 w _ _ _).drew⟩
  have HC : Hid (∀ j u, (flat ReqKit.cells L)[j]? = some u → (((w.alloc (.cells #[.int .i64 x, .slice (some ad) n c] 25)).alloc (.cells #[.int .i64 0, .slice none 0 0] 25)).alloc (.cells #[] 27)).drew.cell? (ad.add j) = some u) := src_req (HA.out.below B3.out.2.2.2)
  have HF : Hid ((flat ReqKit.cells L).length = n * 6) := by
    show _ = _
    rw [flat_len (m := 6) (fun _ => rfl), hn]
  rw [hn] at hl ⊢
  clear hn
  obtain ⟨i0, hi, hy0, hy1, hy2⟩ := info_parts info_req
  go_enter Try.func36, Try.ntmps36
  go_wp2
  have S0 : Hid ((fun w' => w'.cell? ⟨w.heap.size, 0, none⟩ = some (.int .i64 x) ∧ w'.cell? ⟨w.heap.size, 1, none⟩ = some (.slice (some ad) n c)) ((w.alloc (.cells #[.int .i64 x, .slice (some ad) n c] 25)).alloc (.cells #[.int .i64 0, .slice none 0 0] 25))) := ⟨B2.out.1.cell 0, B2.out.1.cell 1⟩
  go_region_held3 (fun w' => w'.cell? ⟨w.heap.size, 0, none⟩ = some (.int .i64 x) ∧ w'.cell? ⟨w.heap.size, 1, none⟩ = some (.slice (some ad) n c)) (first | with_reducible exact S0.out | exact ⟨HE.out.2.1.cell 0, HE.out.2.1.cell 1⟩ | exact ⟨HE2.out.2.1.cell 0, HE2.out.2.1.cell 1⟩ | go_keep) ((refine step_own (by rfl) (.tmp 5) (.tmp 7) 23 (by rfl) (w.heap.size + 1 + 1) 27 i0 (.agg #[.int .i64 0, .int .i64 0, .int .i64 0, .int .i64 0, .int .i64 0, .int .i64 0]) 6 48 Try.underlying23 hi hy0 hy1 hy2 (by rfl) (by decide) (.slice (some ⟨w.heap.size + 1 + 1, 0, none⟩) 0 0) 0 [] (by rfl) B3.out.1 ad n c (flat ReqKit.cells L) (by rfl) HF.out HC.out (flat_ones L) (by unfold maxLen; omega) (by omega) (by simp) ?_; intro v8 w8 hown hgr; rw [Nat.zero_add, List.nil_append] at hown; have hcp : GrowKit.Cp 27 6 ReqKit.cells w8 (w.heap.size + 1 + 1) v8 L := (by rw [← HN.out] at hown; exact hown); obtain ⟨va8, vc8, hv8, hvc, hh8⟩ := Cp.shape (t := 27) (m := 6) (f := ReqKit.cells) (fun _ => rfl) hcp; rw [HN.out] at hv8 hvc; subst hv8; have hge := B3.out.1.ge; have HE : Hid (GrowKit.Cp 27 6 ReqKit.cells w8 (w.heap.size + 1 + 1) (.slice va8 n vc8) L ∧ boxB w8 w.heap.size #[.int .i64 x, .slice (some ad) n c] 25 ∧ boxB w8 (w.heap.size + 1) #[.int .i64 0, .slice none 0 0] 25 ∧ Below w.heap.size w w8 ∧ n ≤ vc8 ∧ Holds w8 (w.heap.size + 1 + 1) [⟨va8, 27, 6, L.map ReqKit.cells⟩]) := ⟨hcp, box_grown B3.out.2.1 hgr (fun e => by have := hge _ e; omega), box_grown B3.out.2.2.1 hgr (fun e => by have := hge _ e; omega), Cp.turned B3.out.1 hgr (by omega) B3.out.2.2.2, hvc, hh8⟩; have HE2 : Hid (True ∧ boxB ((w8.setCell ⟨w.heap.size + 1, 0, none⟩ (.int .i64 x)).setCell ⟨w.heap.size + 1, 1, none⟩ (.slice va8 n vc8)) w.heap.size #[.int .i64 x, .slice (some ad) n c] 25) := ⟨trivial, (HE.out.2.1.else (by show w.heap.size ≠ w.heap.size + 1; omega) _).else (by show w.heap.size ≠ w.heap.size + 1; omega) _⟩; have k0 := HE.out.2.2.1.cell 0; have k1 := HE.out.2.2.1.cell 1; have j0 := fzB HE.out.2.2.1 0; have j1 := fzB HE.out.2.2.1 1; clear hown hgr hcp hge hh8 hvc))
  go_wp2
  refine bodyPost_ret (v := .agg #[.int .i64 x, .slice va8 n vc8]) (by simp [results, Try.results36, go_sem, k0, k1]) rfl ⟨va8, vc8, by rw [HN.out], by rw [HN.out]; exact HE.out.2.2.2.2.1, ?_, ?_⟩
  · rw [HN.out]
    exact ((HE.out.1.set (by show w.heap.size + 1 < _; omega) _).set (by show w.heap.size + 1 < _; omega) _).base (by omega)
  · exact (HE.out.2.2.2.1.setCell (Nat.le_add_right _ 1) _).setCell (Nat.le_add_right _ 1) _
theorem spec_copy2 (x : Int) (a : Option Addr) (c : Nat) (L : List ReqKit.Req) (w : World) (h : Own 27 6 ReqKit.cells w a L) (hl : L.length ≤ 1048577) : Calls Try.prog 36 #[.agg #[.int .i64 x, .slice a L.length c]] w (CAns w x L) := by
  cases a with
  | none =>
    have hL : L = [] := by
      rcases h with h | ⟨g, o, h, _⟩
      · exact h
      · cases h
    subst hL
    exact copy_nil x none _ c w rfl
  | some ad => exact copy_some x ad c L w h hl
theorem spec_copy (x : Int) (a : Option Addr) (c : Nat) (L : List ReqKit.Req) (w : World) (h : Own 27 6 ReqKit.cells w a L) (hl : L.length ≤ 1048577) : Calls Try.prog 36 #[.agg #[.int .i64 x, .slice a L.length c]] w (QAns w x L) := (spec_copy2 x a c L w h hl).mono fun _ _ h => h.q
end Go.Proofs.Ytnejomfaojpicaa.QueCopyS
