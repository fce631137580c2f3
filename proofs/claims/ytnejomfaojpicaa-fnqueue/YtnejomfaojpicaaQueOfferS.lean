/- What the model's Offer answers, at every queue and request; nothing else turns. -/
import Derived.Test.YtnejomfaojpicaaRows
import Derived.WalkKit
import Derived.WalkSmall
import Derived.BigQuiet
import Derived.Deep.RegionWith
import Derived.Deep.DeepCutAuto
import Derived.Deep.RegionHeld3
import Derived.Test.YtnejomfaojpicaaListKit
import Derived.Test.YtnejomfaojpicaaHoldKit
import Derived.Test.YtnejomfaojpicaaGrowKit
import Derived.Test.YtnejomfaojpicaaReqKit
import Derived.Test.YtnejomfaojpicaaReqOks
import Derived.Test.YtnejomfaojpicaaQueMath
import Derived.Test.YtnejomfaojpicaaQueAt
import Derived.Test.YtnejomfaojpicaaQueOkS
import Derived.Test.YtnejomfaojpicaaQueTierS
import Derived.Test.YtnejomfaojpicaaQueOutS
import Derived.Test.YtnejomfaojpicaaQueCopyS
import Derived.Test.YtnejomfaojpicaaQuePullS
import Derived.Test.YtnejomfaojpicaaNearKit
import Derived.Test.YtnejomfaojpicaaQueWorst
namespace Go.Proofs.Ytnejomfaojpicaa.QueOfferS
open Go.RowKit ListKit HoldKit GrowKit QueMath QueTierS QueOutS QueCopyS QuePullS QueWorst NearKit
set_option maxRecDepth 8000
set_option linter.unusedVariables false
set_option linter.unusedSimpArgs false

/-- Whether a request goes into a queue. -/
def goes (B : Bool) (t : Int) (L : List ReqKit.Req) (s : ReqKit.Req) : Bool := B && ReqOks.reqOk s && decide (t < 0) && (match L.getLast? with | none => true | some l => decide (l.x4 ≤ s.x4))
def offL (x : Int) (L : List ReqKit.Req) (s : ReqKit.Req) (G : Bool) : List ReqKit.Req := if G = true then (if ((L ++ [s]).length : Int) ≤ x then L ++ [s] else outOf (L ++ [s]) (worstTo (L ++ [s]) (L ++ [s]).length : Nat)) else []
def offR (x : Int) (L : List ReqKit.Req) (s : ReqKit.Req) (G : Bool) : ReqKit.Req := if G = true then (if ((L ++ [s]).length : Int) ≤ x then ReqKit.zero else (L ++ [s])[worstTo (L ++ [s]) (L ++ [s]).length]?.getD ReqKit.zero) else ReqKit.zero
theorem n4 (w : World) (o p q r : Obj) : Below w.heap.size w ((((w.alloc o).alloc p).alloc q).alloc r) := (n3 w o p q).alloc (n3 w o p q).size _
theorem new4 (w : World) (o p q : Obj) (cs : Array Value) (t : TypeId) : boxB ((((w.alloc o).alloc p).alloc q).alloc (.cells cs t)) (w.heap.size + 1 + 1 + 1) cs t := by
  have h := boxB.new (((w.alloc o).alloc p).alloc q) cs t
  rw [sz3] at h
  exact h
theorem cp_box {w : World} {B N : Nat} {v : Value} {M : List ReqKit.Req} {cs : Array Value} {t : TypeId} (h : GrowKit.Cp 27 6 ReqKit.cells w B v M) (hb : boxB w N cs t) (hne : t ≠ 27) : v.ownBlock ≠ some N := fun e => by
  obtain ⟨_, h0 | ⟨g, cap, cur, hv, _, hg, _⟩⟩ := h
  · rw [h0.1] at e; cases e
  · rw [hv] at e
    injection e with e
    subst e
    have h9 : w.heap[g]? = some (.cells cs t (0, 0)) := hb
    rw [hg] at h9
    injection h9 with h9
    injection h9 with _ h9
    exact hne h9.symm
theorem eight_ne {W : World} {pp : Addr} {u : Value} {T8 g6 q k c6 : Nat} {x e0 e1 e2 e3 e4 e5 : Int} (hN : T8 ≠ pp.block) (hg : g6 ≠ pp.block) (h : W.cell? ⟨T8, 0, none⟩ = some (.int .i64 x) ∧ W.cell? ⟨T8, 1, none⟩ = some (.slice (some ⟨g6, 0, none⟩) k c6) ∧ W.cell? ⟨g6, q * 6, none⟩ = some (.int .i64 e0) ∧ W.cell? ⟨g6, q * 6 + 1, none⟩ = some (.int .i64 e1) ∧ W.cell? ⟨g6, q * 6 + 2, none⟩ = some (.int .i64 e2) ∧ W.cell? ⟨g6, q * 6 + 3, none⟩ = some (.int .i64 e3) ∧ W.cell? ⟨g6, q * 6 + 4, none⟩ = some (.int .i64 e4) ∧ W.cell? ⟨g6, q * 6 + 5, none⟩ = some (.int .i64 e5)) : (W.setCell pp u).cell? ⟨T8, 0, none⟩ = some (.int .i64 x) ∧ (W.setCell pp u).cell? ⟨T8, 1, none⟩ = some (.slice (some ⟨g6, 0, none⟩) k c6) ∧ (W.setCell pp u).cell? ⟨g6, q * 6, none⟩ = some (.int .i64 e0) ∧ (W.setCell pp u).cell? ⟨g6, q * 6 + 1, none⟩ = some (.int .i64 e1) ∧ (W.setCell pp u).cell? ⟨g6, q * 6 + 2, none⟩ = some (.int .i64 e2) ∧ (W.setCell pp u).cell? ⟨g6, q * 6 + 3, none⟩ = some (.int .i64 e3) ∧ (W.setCell pp u).cell? ⟨g6, q * 6 + 4, none⟩ = some (.int .i64 e4) ∧ (W.setCell pp u).cell? ⟨g6, q * 6 + 5, none⟩ = some (.int .i64 e5) := by
  have eN : ∀ i, (W.setCell pp u).cell? ⟨T8, i, none⟩ = W.cell? ⟨T8, i, none⟩ := fun i => World.cell?_of_block (Below.heap_setCell W pp u T8 hN)
  have eg : ∀ i, (W.setCell pp u).cell? ⟨g6, i, none⟩ = W.cell? ⟨g6, i, none⟩ := fun i => World.cell?_of_block (Below.heap_setCell W pp u g6 hg)
  simp only [eN, eg]
  exact h
theorem cp_row {w : World} {B : Nat} {a : Option Addr} {c p : Nat} {M : List ReqKit.Req} (h : GrowKit.Cp 27 6 ReqKit.cells w B (.slice a p c) M) (hp : M.length = p) (h0 : 0 < p) : ∃ g, a = some ⟨g, 0, none⟩ ∧ B ≤ g ∧ g < w.heap.size ∧ Row 27 6 ReqKit.cells w g 0 M := by
  have hlt := h.lt
  rw [← hp] at h
  obtain ⟨a2, c2, hv, _, hh⟩ := Cp.shape (t := 27) (m := 6) (f := ReqKit.cells) (fun _ => rfl) h
  injection hv with e1 _ e3
  subst e1 e3
  obtain ⟨hl, ⟨_, h9⟩ | ⟨g, cap, cur, hv, hb, hg, hc, hm, hs, ht⟩⟩ := h
  · omega
  · injection hv with e1 _ _
    subst e1
    refine ⟨g, rfl, hb, hlt g rfl, ?_⟩
    rcases hh.get (t := 27) (m := 6) (L := M) (f := ReqKit.cells) (a := some ⟨g, 0, none⟩) (by simp) with h6 | ⟨g2, o2, e2, h6⟩
    · subst h6; simp at hp; omega
    · injection e2 with e2
      injection e2 with e3 e4 _
      subst e3 e4
      exact h6
set_option maxHeartbeats 8000000 in
theorem spec_offer (x : Int) (a : Option Addr) (c : Nat) (L : List ReqKit.Req) (r0 r1 r2 r3 r4 r5 t : Int) (B : Bool) (w : World) (h : Own 27 6 ReqKit.cells w a L) (hl : L.length ≤ 1048576) (hc : L.length ≤ c) (bf : Hid (B = true ↔ QueOk x L)) (ht : Hid (AtId L r0 t)) :
    Calls Try.prog 24 #[.agg #[.int .i64 x, .slice a L.length c], .agg #[.int .i64 r0, .int .i64 r1, .int .i64 r2, .int .i64 r3, .int .i64 r4, .int .i64 r5]] w (PAns w (if goes B t L ⟨r0, r1, r2, r3, r4, r5⟩ = true then x else 0) (offL x L ⟨r0, r1, r2, r3, r4, r5⟩ (goes B t L ⟨r0, r1, r2, r3, r4, r5⟩)) (offR x L ⟨r0, r1, r2, r3, r4, r5⟩ (goes B t L ⟨r0, r1, r2, r3, r4, r5⟩)) (goes B t L ⟨r0, r1, r2, r3, r4, r5⟩)) := by
  have HA : Hid (Own 27 6 ReqKit.cells w a L) := h
  have HQ := fun W h => QueOkS.spec_queueok x a c L B W h (by omega) hc bf
  have HT := fun W h => QueAt.spec_at x a c L r0 t W h (by omega) hc ht
  have HC := fun W h => spec_copy2 x a c L W h (by omega)
  have HO := fun aa cc M tn W h hl hc => spec_out x aa cc M tn W h hl hc
  have HW := fun a0 a1 a2 a3 a4 a5 b0 b1 b2 b3 b4 b5 W => ReqOks.spec_worse a0 a1 a2 a3 a4 a5 b0 b1 b2 b3 b4 b5 W
  have HRQ := fun W => ReqOks.spec_reqok r0 r1 r2 r3 r4 r5 W
  clear h
  obtain ⟨n, hn⟩ : ∃ n, L.length = n := ⟨_, rfl⟩
  have HN : Hid (L.length = n) := hn
  obtain ⟨G, hG⟩ : ∃ G, goes B t L ⟨r0, r1, r2, r3, r4, r5⟩ = G := ⟨_, rfl⟩
  rw [hG]
  have HG : Hid (goes B t L ⟨r0, r1, r2, r3, r4, r5⟩ = G) := hG
  obtain ⟨v, hv⟩ : ∃ v, ReqOks.reqOk ⟨r0, r1, r2, r3, r4, r5⟩ = v := ⟨_, rfl⟩
  have HV : Hid (ReqOks.reqOk ⟨r0, r1, r2, r3, r4, r5⟩ = v) := hv
  rw [hv] at HRQ
  obtain ⟨Y, hY⟩ : ∃ Y, (if G = true then x else 0) = Y := ⟨_, rfl⟩
  obtain ⟨M, hM⟩ : ∃ M, offL x L ⟨r0, r1, r2, r3, r4, r5⟩ G = M := ⟨_, rfl⟩
  obtain ⟨R, hR⟩ : ∃ R, offR x L ⟨r0, r1, r2, r3, r4, r5⟩ G = R := ⟨_, rfl⟩
  obtain ⟨V, hV⟩ : ∃ V, G = V := ⟨_, rfl⟩
  have HE : Hid ((if G = true then x else 0) = Y ∧ offL x L ⟨r0, r1, r2, r3, r4, r5⟩ G = M ∧ offR x L ⟨r0, r1, r2, r3, r4, r5⟩ G = R ∧ G = V) := ⟨hY, hM, hR, hV⟩
  have hpost : PAns w (if G = true then x else 0) (offL x L ⟨r0, r1, r2, r3, r4, r5⟩ G) (offR x L ⟨r0, r1, r2, r3, r4, r5⟩ G) G = PAns w Y M R V := by rw [hY, hM, hR, hV]
  rw [hpost]
  rw [hn] at hl hc HQ HT HC ⊢
  clear hn hY hM hR hV hG hv hpost
  have B0 : Hid ((boxB ((((w.alloc (.cells #[.int .i64 x, .slice a n c] 25)).alloc (.cells #[.int .i64 r0, .int .i64 r1, .int .i64 r2, .int .i64 r3, .int .i64 r4, .int .i64 r5] 27)).alloc (.cells #[.int .i64 0, .slice none 0 0] 25)).alloc (.cells #[.int .i64 0, .int .i64 0, .int .i64 0, .int .i64 0, .int .i64 0, .int .i64 0] 27)) w.heap.size #[.int .i64 x, .slice a n c] 25 ∧ boxB ((((w.alloc (.cells #[.int .i64 x, .slice a n c] 25)).alloc (.cells #[.int .i64 r0, .int .i64 r1, .int .i64 r2, .int .i64 r3, .int .i64 r4, .int .i64 r5] 27)).alloc (.cells #[.int .i64 0, .slice none 0 0] 25)).alloc (.cells #[.int .i64 0, .int .i64 0, .int .i64 0, .int .i64 0, .int .i64 0, .int .i64 0] 27)) (w.heap.size + 1) #[.int .i64 r0, .int .i64 r1, .int .i64 r2, .int .i64 r3, .int .i64 r4, .int .i64 r5] 27 ∧ boxB ((((w.alloc (.cells #[.int .i64 x, .slice a n c] 25)).alloc (.cells #[.int .i64 r0, .int .i64 r1, .int .i64 r2, .int .i64 r3, .int .i64 r4, .int .i64 r5] 27)).alloc (.cells #[.int .i64 0, .slice none 0 0] 25)).alloc (.cells #[.int .i64 0, .int .i64 0, .int .i64 0, .int .i64 0, .int .i64 0, .int .i64 0] 27)) (w.heap.size + 1 + 1) #[.int .i64 0, .slice none 0 0] 25 ∧ boxB ((((w.alloc (.cells #[.int .i64 x, .slice a n c] 25)).alloc (.cells #[.int .i64 r0, .int .i64 r1, .int .i64 r2, .int .i64 r3, .int .i64 r4, .int .i64 r5] 27)).alloc (.cells #[.int .i64 0, .slice none 0 0] 25)).alloc (.cells #[.int .i64 0, .int .i64 0, .int .i64 0, .int .i64 0, .int .i64 0, .int .i64 0] 27)) (w.heap.size + 1 + 1 + 1) #[.int .i64 0, .int .i64 0, .int .i64 0, .int .i64 0, .int .i64 0, .int .i64 0] 27 ∧ Below w.heap.size w ((((w.alloc (.cells #[.int .i64 x, .slice a n c] 25)).alloc (.cells #[.int .i64 r0, .int .i64 r1, .int .i64 r2, .int .i64 r3, .int .i64 r4, .int .i64 r5] 27)).alloc (.cells #[.int .i64 0, .slice none 0 0] 25)).alloc (.cells #[.int .i64 0, .int .i64 0, .int .i64 0, .int .i64 0, .int .i64 0, .int .i64 0] 27))) ∧ Own 27 6 ReqKit.cells ((((w.alloc (.cells #[.int .i64 x, .slice a n c] 25)).alloc (.cells #[.int .i64 r0, .int .i64 r1, .int .i64 r2, .int .i64 r3, .int .i64 r4, .int .i64 r5] 27)).alloc (.cells #[.int .i64 0, .slice none 0 0] 25)).alloc (.cells #[.int .i64 0, .int .i64 0, .int .i64 0, .int .i64 0, .int .i64 0, .int .i64 0] 27)) a L) := ⟨⟨(boxB.new _ _ _).below ((n2 _ _ _).alloc (n2 _ _ _).size _), (new2 _ _ _ _).below (n2 _ _ _), (new3 _ _ _ _ _).below (n1 _ _), new4 _ _ _ _ _ _, n4 _ _ _ _ _⟩, HA.out.below (n4 _ _ _ _ _)⟩
  go_enter Try.func24, Try.ntmps24
  go_upto_region 2 with fail
  have B6 : Hid ((boxB ((((w.alloc (.cells #[.int .i64 x, .slice a n c] 25)).alloc (.cells #[.int .i64 r0, .int .i64 r1, .int .i64 r2, .int .i64 r3, .int .i64 r4, .int .i64 r5] 27)).alloc (.cells #[.int .i64 0, .slice none 0 0] 25)).alloc (.cells #[.int .i64 0, .int .i64 0, .int .i64 0, .int .i64 0, .int .i64 0, .int .i64 0] 27)) w.heap.size #[.int .i64 x, .slice a n c] 25 ∧ boxB ((((w.alloc (.cells #[.int .i64 x, .slice a n c] 25)).alloc (.cells #[.int .i64 r0, .int .i64 r1, .int .i64 r2, .int .i64 r3, .int .i64 r4, .int .i64 r5] 27)).alloc (.cells #[.int .i64 0, .slice none 0 0] 25)).alloc (.cells #[.int .i64 0, .int .i64 0, .int .i64 0, .int .i64 0, .int .i64 0, .int .i64 0] 27)) (w.heap.size + 1) #[.int .i64 r0, .int .i64 r1, .int .i64 r2, .int .i64 r3, .int .i64 r4, .int .i64 r5] 27 ∧ boxB ((((w.alloc (.cells #[.int .i64 x, .slice a n c] 25)).alloc (.cells #[.int .i64 r0, .int .i64 r1, .int .i64 r2, .int .i64 r3, .int .i64 r4, .int .i64 r5] 27)).alloc (.cells #[.int .i64 0, .slice none 0 0] 25)).alloc (.cells #[.int .i64 0, .int .i64 0, .int .i64 0, .int .i64 0, .int .i64 0, .int .i64 0] 27)) (w.heap.size + 1 + 1) #[.int .i64 0, .slice none 0 0] 25 ∧ boxB ((((w.alloc (.cells #[.int .i64 x, .slice a n c] 25)).alloc (.cells #[.int .i64 r0, .int .i64 r1, .int .i64 r2, .int .i64 r3, .int .i64 r4, .int .i64 r5] 27)).alloc (.cells #[.int .i64 0, .slice none 0 0] 25)).alloc (.cells #[.int .i64 0, .int .i64 0, .int .i64 0, .int .i64 0, .int .i64 0, .int .i64 0] 27)) (w.heap.size + 1 + 1 + 1) #[.int .i64 0, .int .i64 0, .int .i64 0, .int .i64 0, .int .i64 0, .int .i64 0] 27 ∧ Below w.heap.size w ((((w.alloc (.cells #[.int .i64 x, .slice a n c] 25)).alloc (.cells #[.int .i64 r0, .int .i64 r1, .int .i64 r2, .int .i64 r3, .int .i64 r4, .int .i64 r5] 27)).alloc (.cells #[.int .i64 0, .slice none 0 0] 25)).alloc (.cells #[.int .i64 0, .int .i64 0, .int .i64 0, .int .i64 0, .int .i64 0, .int .i64 0] 27))) ∧ Own 27 6 ReqKit.cells ((((w.alloc (.cells #[.int .i64 x, .slice a n c] 25)).alloc (.cells #[.int .i64 r0, .int .i64 r1, .int .i64 r2, .int .i64 r3, .int .i64 r4, .int .i64 r5] 27)).alloc (.cells #[.int .i64 0, .slice none 0 0] 25)).alloc (.cells #[.int .i64 0, .int .i64 0, .int .i64 0, .int .i64 0, .int .i64 0, .int .i64 0] 27)) a L) := B0
  clear B0
  generalize ((((w.alloc (.cells #[.int .i64 x, .slice a n c] 25)).alloc (.cells #[.int .i64 r0, .int .i64 r1, .int .i64 r2, .int .i64 r3, .int .i64 r4, .int .i64 r5] 27)).alloc (.cells #[.int .i64 0, .slice none 0 0] 25)).alloc (.cells #[.int .i64 0, .int .i64 0, .int .i64 0, .int .i64 0, .int .i64 0, .int .i64 0] 27)) = W6 at *
  have l0 := B6.out.1.1.cell 0
  have l1 := B6.out.1.1.cell 1
  have XL := Near.cell l0
  have XM := Near.cell l1
  have q0 := B6.out.1.2.1.cell 0
  have XA0 := Near.cell q0
  have q1 := B6.out.1.2.1.cell 1
  have XA1 := Near.cell q1
  have q2 := B6.out.1.2.1.cell 2
  have XA2 := Near.cell q2
  have q3 := B6.out.1.2.1.cell 3
  have XA3 := Near.cell q3
  have q4 := B6.out.1.2.1.cell 4
  have XA4 := Near.cell q4
  have q5 := B6.out.1.2.1.cell 5
  have XA5 := Near.cell q5
  clear q0 q1 q2 q3 q4 q5 l0 l1
  have near := Near.is W6
  cases B with
  | false =>
    obtain rfl : G = false := by rw [← HG.out]; simp [goes]
    refine wp_region_near (by kernel_rfl) (by kernel_rfl) ?_
    repeat (go_big_quiet_step (first | (go_at_call 34; exact near_call (HRQ _)) | (go_at_call 35; exact near_call (HT _ (B6.out.2.below (Near.near _)))) | (go_at_call 33; exact near_call (HQ _ (B6.out.2.below (Near.near _))))))
    refine wpQuiet_nil ?_
    intro wx hwx
    obtain ⟨y, hy⟩ := hwx
    subst hy
    have BY : Hid (boxB y.w w.heap.size #[.int .i64 x, .slice a n c] 25 ∧ boxB y.w (w.heap.size + 1) #[.int .i64 r0, .int .i64 r1, .int .i64 r2, .int .i64 r3, .int .i64 r4, .int .i64 r5] 27 ∧ boxB y.w (w.heap.size + 1 + 1) #[.int .i64 0, .slice none 0 0] 25 ∧ boxB y.w (w.heap.size + 1 + 1 + 1) #[.int .i64 0, .int .i64 0, .int .i64 0, .int .i64 0, .int .i64 0, .int .i64 0] 27 ∧ Below w.heap.size w y.w) := by
      have b9 := y.near
      exact ⟨B6.out.1.1.below b9, B6.out.1.2.1.below b9, B6.out.1.2.2.1.below b9, B6.out.1.2.2.2.1.below b9, B6.out.1.2.2.2.2.trans (b9.mono B6.out.1.2.2.2.2.size)⟩
    obtain ⟨wd, hwd⟩ : ∃ wd, y.w = wd := ⟨_, rfl⟩
    rw [hwd] at BY ⊢
    clear hwd y near XL XM XA0 XA1 XA2 XA3 XA4 XA5 B6 HQ HT HRQ
    have HP : Hid (Y = 0 ∧ M = [] ∧ R = ReqKit.zero ∧ V = false) := ⟨HE.out.1.symm, HE.out.2.1.symm, HE.out.2.2.1.symm, HE.out.2.2.2.symm⟩
    clear HC HO HW
    have y0 := BY.out.2.2.1.cell 0
    have z0 := fzB BY.out.2.2.1 0
    have y1 := BY.out.2.2.1.cell 1
    have z1 := fzB BY.out.2.2.1 1
    have d0 := BY.out.2.2.2.1.cell 0
    have f0 := fzB BY.out.2.2.2.1 0
    have d1 := BY.out.2.2.2.1.cell 1
    have f1 := fzB BY.out.2.2.2.1 1
    have d2 := BY.out.2.2.2.1.cell 2
    have f2 := fzB BY.out.2.2.2.1 2
    have d3 := BY.out.2.2.2.1.cell 3
    have f3 := fzB BY.out.2.2.2.1 3
    have d4 := BY.out.2.2.2.1.cell 4
    have f4 := fzB BY.out.2.2.2.1 4
    have d5 := BY.out.2.2.2.1.cell 5
    have f5 := fzB BY.out.2.2.2.1 5
    go_wp2
    refine bodyPost_ret (v := .tuple #[.agg #[.int .i64 0, .slice none 0 0], .agg #[.int .i64 0, .int .i64 0, .int .i64 0, .int .i64 0, .int .i64 0, .int .i64 0], .bool false]) (by simp [results, Try.results24, go_sem, y0, y1, d0, d1, d2, d3, d4, d5]) rfl ?_
    rw [HP.out.1, HP.out.2.1, HP.out.2.2.1, HP.out.2.2.2]
    refine ⟨none, 0, rfl, Nat.le_refl _, Holds.own (L := []) (f := ReqKit.cells) (Or.inl rfl) (fun b hb => by simp [blkL] at hb), ?_⟩
    exact ((((((((BY.out.2.2.2.2).setCell (Nat.le_add_right _ 2) _).setCell (Nat.le_add_right _ 2) _).setCell (Nat.le_add_right _ 3) _).setCell (Nat.le_add_right _ 3) _).setCell (Nat.le_add_right _ 3) _).setCell (Nat.le_add_right _ 3) _).setCell (Nat.le_add_right _ 3) _).setCell (Nat.le_add_right _ 3) _
  | true =>
    cases v with
    | false =>
      obtain rfl : G = false := by rw [← HG.out]; simp [goes, HV.out]
      refine wp_region_near (by kernel_rfl) (by kernel_rfl) ?_
      repeat (go_big_quiet_step (first | (go_at_call 34; exact near_call (HRQ _)) | (go_at_call 35; exact near_call (HT _ (B6.out.2.below (Near.near _)))) | (go_at_call 33; exact near_call (HQ _ (B6.out.2.below (Near.near _))))))
      refine wpQuiet_nil ?_
      intro wx hwx
      obtain ⟨y, hy⟩ := hwx
      subst hy
      have BY : Hid (boxB y.w w.heap.size #[.int .i64 x, .slice a n c] 25 ∧ boxB y.w (w.heap.size + 1) #[.int .i64 r0, .int .i64 r1, .int .i64 r2, .int .i64 r3, .int .i64 r4, .int .i64 r5] 27 ∧ boxB y.w (w.heap.size + 1 + 1) #[.int .i64 0, .slice none 0 0] 25 ∧ boxB y.w (w.heap.size + 1 + 1 + 1) #[.int .i64 0, .int .i64 0, .int .i64 0, .int .i64 0, .int .i64 0, .int .i64 0] 27 ∧ Below w.heap.size w y.w) := by
        have b9 := y.near
        exact ⟨B6.out.1.1.below b9, B6.out.1.2.1.below b9, B6.out.1.2.2.1.below b9, B6.out.1.2.2.2.1.below b9, B6.out.1.2.2.2.2.trans (b9.mono B6.out.1.2.2.2.2.size)⟩
      obtain ⟨wd, hwd⟩ : ∃ wd, y.w = wd := ⟨_, rfl⟩
      rw [hwd] at BY ⊢
      clear hwd y near XL XM XA0 XA1 XA2 XA3 XA4 XA5 B6 HQ HT HRQ
      have HP : Hid (Y = 0 ∧ M = [] ∧ R = ReqKit.zero ∧ V = false) := ⟨HE.out.1.symm, HE.out.2.1.symm, HE.out.2.2.1.symm, HE.out.2.2.2.symm⟩
      clear HC HO HW
      have y0 := BY.out.2.2.1.cell 0
      have z0 := fzB BY.out.2.2.1 0
      have y1 := BY.out.2.2.1.cell 1
      have z1 := fzB BY.out.2.2.1 1
      have d0 := BY.out.2.2.2.1.cell 0
      have f0 := fzB BY.out.2.2.2.1 0
      have d1 := BY.out.2.2.2.1.cell 1
      have f1 := fzB BY.out.2.2.2.1 1
      have d2 := BY.out.2.2.2.1.cell 2
      have f2 := fzB BY.out.2.2.2.1 2
      have d3 := BY.out.2.2.2.1.cell 3
      have f3 := fzB BY.out.2.2.2.1 3
      have d4 := BY.out.2.2.2.1.cell 4
      have f4 := fzB BY.out.2.2.2.1 4
      have d5 := BY.out.2.2.2.1.cell 5
      have f5 := fzB BY.out.2.2.2.1 5
      go_wp2
      refine bodyPost_ret (v := .tuple #[.agg #[.int .i64 0, .slice none 0 0], .agg #[.int .i64 0, .int .i64 0, .int .i64 0, .int .i64 0, .int .i64 0, .int .i64 0], .bool false]) (by simp [results, Try.results24, go_sem, y0, y1, d0, d1, d2, d3, d4, d5]) rfl ?_
      rw [HP.out.1, HP.out.2.1, HP.out.2.2.1, HP.out.2.2.2]
      refine ⟨none, 0, rfl, Nat.le_refl _, Holds.own (L := []) (f := ReqKit.cells) (Or.inl rfl) (fun b hb => by simp [blkL] at hb), ?_⟩
      exact ((((((((BY.out.2.2.2.2).setCell (Nat.le_add_right _ 2) _).setCell (Nat.le_add_right _ 2) _).setCell (Nat.le_add_right _ 3) _).setCell (Nat.le_add_right _ 3) _).setCell (Nat.le_add_right _ 3) _).setCell (Nat.le_add_right _ 3) _).setCell (Nat.le_add_right _ 3) _).setCell (Nat.le_add_right _ 3) _
    | true =>
      by_cases tt : 0 ≤ t
      · have tt1 : decide (0 ≤ t) = true := by simpa using tt
        obtain rfl : G = false := by rw [← HG.out]; simp [goes]; intro _ h9; omega
        clear tt
        refine wp_region_near (by kernel_rfl) (by kernel_rfl) ?_
        repeat (go_big_quiet_step (first | (go_at_call 34; exact near_call (HRQ _)) | (go_at_call 35; exact near_call (HT _ (B6.out.2.below (Near.near _)))) | (go_at_call 33; exact near_call (HQ _ (B6.out.2.below (Near.near _))))))
        refine wpQuiet_nil ?_
        intro wx hwx
        obtain ⟨y, hy⟩ := hwx
        subst hy
        have BY : Hid (boxB y.w w.heap.size #[.int .i64 x, .slice a n c] 25 ∧ boxB y.w (w.heap.size + 1) #[.int .i64 r0, .int .i64 r1, .int .i64 r2, .int .i64 r3, .int .i64 r4, .int .i64 r5] 27 ∧ boxB y.w (w.heap.size + 1 + 1) #[.int .i64 0, .slice none 0 0] 25 ∧ boxB y.w (w.heap.size + 1 + 1 + 1) #[.int .i64 0, .int .i64 0, .int .i64 0, .int .i64 0, .int .i64 0, .int .i64 0] 27 ∧ Below w.heap.size w y.w) := by
          have b9 := y.near
          exact ⟨B6.out.1.1.below b9, B6.out.1.2.1.below b9, B6.out.1.2.2.1.below b9, B6.out.1.2.2.2.1.below b9, B6.out.1.2.2.2.2.trans (b9.mono B6.out.1.2.2.2.2.size)⟩
        obtain ⟨wd, hwd⟩ : ∃ wd, y.w = wd := ⟨_, rfl⟩
        rw [hwd] at BY ⊢
        clear hwd y near XL XM XA0 XA1 XA2 XA3 XA4 XA5 B6 HQ HT HRQ
        have HP : Hid (Y = 0 ∧ M = [] ∧ R = ReqKit.zero ∧ V = false) := ⟨HE.out.1.symm, HE.out.2.1.symm, HE.out.2.2.1.symm, HE.out.2.2.2.symm⟩
        clear HC HO HW
        have y0 := BY.out.2.2.1.cell 0
        have z0 := fzB BY.out.2.2.1 0
        have y1 := BY.out.2.2.1.cell 1
        have z1 := fzB BY.out.2.2.1 1
        have d0 := BY.out.2.2.2.1.cell 0
        have f0 := fzB BY.out.2.2.2.1 0
        have d1 := BY.out.2.2.2.1.cell 1
        have f1 := fzB BY.out.2.2.2.1 1
        have d2 := BY.out.2.2.2.1.cell 2
        have f2 := fzB BY.out.2.2.2.1 2
        have d3 := BY.out.2.2.2.1.cell 3
        have f3 := fzB BY.out.2.2.2.1 3
        have d4 := BY.out.2.2.2.1.cell 4
        have f4 := fzB BY.out.2.2.2.1 4
        have d5 := BY.out.2.2.2.1.cell 5
        have f5 := fzB BY.out.2.2.2.1 5
        go_wp2
        refine bodyPost_ret (v := .tuple #[.agg #[.int .i64 0, .slice none 0 0], .agg #[.int .i64 0, .int .i64 0, .int .i64 0, .int .i64 0, .int .i64 0, .int .i64 0], .bool false]) (by simp [results, Try.results24, go_sem, y0, y1, d0, d1, d2, d3, d4, d5]) rfl ?_
        rw [HP.out.1, HP.out.2.1, HP.out.2.2.1, HP.out.2.2.2]
        refine ⟨none, 0, rfl, Nat.le_refl _, Holds.own (L := []) (f := ReqKit.cells) (Or.inl rfl) (fun b hb => by simp [blkL] at hb), ?_⟩
        exact ((((((((BY.out.2.2.2.2).setCell (Nat.le_add_right _ 2) _).setCell (Nat.le_add_right _ 2) _).setCell (Nat.le_add_right _ 3) _).setCell (Nat.le_add_right _ 3) _).setCell (Nat.le_add_right _ 3) _).setCell (Nat.le_add_right _ 3) _).setCell (Nat.le_add_right _ 3) _).setCell (Nat.le_add_right _ 3) _
      · have tt1 : decide (0 ≤ t) = false := by simpa using tt
        by_cases hn0 : 0 < n
        · have hnd : decide (0 < (n : Int)) = true := by simp; omega
          obtain ⟨j, hj⟩ : ∃ j, n = j + 1 := ⟨n - 1, by omega⟩
          have hji : (n : Int) - 1 = (j : Int) := by omega
          have hjw : IntKind.i64.wrap (j : Int) = (j : Int) := by rw [IntKind.wrap_i64]; omega
          have hjn : (j : Int) < (n : Int) := by omega
          have hjc : (j : Int) < (c : Int) := by omega
          have hj2 : j < L.length := by rw [HN.out]; omega
          rcases HA.out with hnil | ⟨g, o, rfl, hrw⟩
          · rw [hnil] at hj2; simp at hj2
          · have hr6 : Row 27 6 ReqKit.cells W6 g o L := hrw.below B6.out.1.2.2.2.2
            obtain ⟨sy, hsy⟩ : ∃ s, L[j] = s := ⟨_, rfl⟩
            obtain ⟨y0, y1, y2, y3, y4, y5⟩ := sy
            have hz : W6.cell? ⟨g, o + j * 6 + 4, none⟩ = some (.int .i64 y4) := by
              have h9 := hr6.cell j hj2 4 (by omega)
              rw [hsy] at h9
              exact h9
            have XP := Near.cell hz
            have HLL : Hid (L.getLast? = some ⟨y0, y1, y2, y3, y4, y5⟩) := by
              show _ = _
              rw [List.getLast?_eq_getElem?, ← hsy, List.getElem?_eq_getElem (by omega)]
              have e9 : L.length - 1 = j := by rw [HN.out]; omega
              simp only [e9]
            clear hz hsy hr6 hrw hj
            by_cases hcm : y4 ≤ r4
            · have hcd : decide (r4 < y4) = false := by simp; omega
              obtain rfl : G = true := by rw [← HG.out]; simp [goes, HV.out, HLL.out, hcm]; omega
              clear hcm tt
              refine wp_region_near (by kernel_rfl) (by kernel_rfl) ?_
              repeat (go_big_quiet_step (first | (go_at_call 34; exact near_call (HRQ _)) | (go_at_call 35; exact near_call (HT _ (B6.out.2.below (Near.near _)))) | (go_at_call 33; exact near_call (HQ _ (B6.out.2.below (Near.near _))))))
              refine wpQuiet_nil ?_
              intro wx hwx
              obtain ⟨y, hy⟩ := hwx
              subst hy
              have BY : Hid (boxB y.w w.heap.size #[.int .i64 x, .slice (some ⟨g, o, none⟩) n c] 25 ∧ boxB y.w (w.heap.size + 1) #[.int .i64 r0, .int .i64 r1, .int .i64 r2, .int .i64 r3, .int .i64 r4, .int .i64 r5] 27 ∧ boxB y.w (w.heap.size + 1 + 1) #[.int .i64 0, .slice none 0 0] 25 ∧ boxB y.w (w.heap.size + 1 + 1 + 1) #[.int .i64 0, .int .i64 0, .int .i64 0, .int .i64 0, .int .i64 0, .int .i64 0] 27 ∧ Below w.heap.size w y.w) := by
                have b9 := y.near
                exact ⟨B6.out.1.1.below b9, B6.out.1.2.1.below b9, B6.out.1.2.2.1.below b9, B6.out.1.2.2.2.1.below b9, B6.out.1.2.2.2.2.trans (b9.mono B6.out.1.2.2.2.2.size)⟩
              obtain ⟨wd, hwd⟩ : ∃ wd, y.w = wd := ⟨_, rfl⟩
              rw [hwd] at BY ⊢
              clear hwd y near XL XM XA0 XA1 XA2 XA3 XA4 XA5 XP B6 HQ HT HRQ
              skip
              have l0 := BY.out.1.cell 0
              have l1 := BY.out.1.cell 1
              have ar0 := BY.out.2.1.cell 0
              have ar1 := BY.out.2.1.cell 1
              have ar2 := BY.out.2.1.cell 2
              have ar3 := BY.out.2.1.cell 3
              have ar4 := BY.out.2.1.cell 4
              have ar5 := BY.out.2.1.cell 5
              go_wp2_with fail
              refine (HC _ (HA.out.below BY.out.2.2.2.2)).mono ?_
              rintro e w4 ⟨a2, c2, rfl, hc2, hcp, b4⟩
              have B4 : Hid ((boxB w4 w.heap.size #[.int .i64 x, .slice (some ⟨g, o, none⟩) n c] 25 ∧ boxB w4 (w.heap.size + 1) #[.int .i64 r0, .int .i64 r1, .int .i64 r2, .int .i64 r3, .int .i64 r4, .int .i64 r5] 27 ∧ boxB w4 (w.heap.size + 1 + 1) #[.int .i64 0, .slice none 0 0] 25 ∧ boxB w4 (w.heap.size + 1 + 1 + 1) #[.int .i64 0, .int .i64 0, .int .i64 0, .int .i64 0, .int .i64 0, .int .i64 0] 27 ∧ Below w.heap.size w w4) ∧ GrowKit.Cp 27 6 ReqKit.cells w4 wd.heap.size (.slice a2 L.length c2) L) := ⟨⟨BY.out.1.below b4, BY.out.2.1.below b4, BY.out.2.2.1.below b4, BY.out.2.2.2.1.below b4, BY.out.2.2.2.2.trans (b4.mono BY.out.2.2.2.2.size)⟩, hcp⟩
              obtain ⟨T8, hT8⟩ : ∃ T8, w4.heap.size = T8 := ⟨_, rfl⟩
              have HT8 : Hid (w.heap.size + 1 + 1 + 1 < T8 ∧ ∀ gg, (Value.slice a2 L.length c2).ownBlock = some gg → gg < T8) := ⟨by rw [← hT8]; exact B4.out.1.2.2.2.1.lt, fun gg hgg => by rw [← hT8]; exact B4.out.2.lt gg hgg⟩
              have hzd : w.heap.size + 1 + 1 + 1 < wd.heap.size := BY.out.2.2.2.1.lt
              have B5 : Hid ((boxB (w4.alloc (.cells #[.int .i64 x, .slice a2 L.length c2] 25)) w.heap.size #[.int .i64 x, .slice (some ⟨g, o, none⟩) n c] 25 ∧ boxB (w4.alloc (.cells #[.int .i64 x, .slice a2 L.length c2] 25)) (w.heap.size + 1) #[.int .i64 r0, .int .i64 r1, .int .i64 r2, .int .i64 r3, .int .i64 r4, .int .i64 r5] 27 ∧ boxB (w4.alloc (.cells #[.int .i64 x, .slice a2 L.length c2] 25)) (w.heap.size + 1 + 1) #[.int .i64 0, .slice none 0 0] 25 ∧ boxB (w4.alloc (.cells #[.int .i64 x, .slice a2 L.length c2] 25)) (w.heap.size + 1 + 1 + 1) #[.int .i64 0, .int .i64 0, .int .i64 0, .int .i64 0, .int .i64 0, .int .i64 0] 27 ∧ Below w.heap.size w (w4.alloc (.cells #[.int .i64 x, .slice a2 L.length c2] 25))) ∧ GrowKit.Cp 27 6 ReqKit.cells (w4.alloc (.cells #[.int .i64 x, .slice a2 L.length c2] 25)) wd.heap.size (.slice a2 L.length c2) L ∧ boxB (w4.alloc (.cells #[.int .i64 x, .slice a2 L.length c2] 25)) T8 #[.int .i64 x, .slice a2 L.length c2] 25 ∧ wd.heap.size ≤ (w4.alloc (.cells #[.int .i64 x, .slice a2 L.length c2] 25)).heap.size) := by
                have h9 := boxB.new w4 #[.int .i64 x, .slice a2 L.length c2] 25
                rw [hT8] at h9
                exact ⟨⟨B4.out.1.1.below (n1 _ _), B4.out.1.2.1.below (n1 _ _), B4.out.1.2.2.1.below (n1 _ _), B4.out.1.2.2.2.1.below (n1 _ _), B4.out.1.2.2.2.2.trans ((n1 _ _).mono B4.out.1.2.2.2.2.size)⟩, B4.out.2.below (n1 _ _), h9, Nat.le_trans b4.size (n1 _ _).size⟩
              clear b4 hcp hc2 B4 BY HC
              go_upto_region 5 with fail
              try rw [hT8]
              clear hT8
              generalize (w4.alloc (.cells #[.int .i64 x, .slice a2 L.length c2] 25)) = w5 at *
              rw [HN.out] at B5 HT8 ⊢
              have k0 := B5.out.2.2.1.cell 0
              have k1 := B5.out.2.2.1.cell 1
              have kz := fzB B5.out.2.2.1 1
              have ar0 := B5.out.1.2.1.cell 0
              have ar1 := B5.out.1.2.1.cell 1
              have ar2 := B5.out.1.2.1.cell 2
              have ar3 := B5.out.1.2.1.cell 3
              have ar4 := B5.out.1.2.1.cell 4
              have ar5 := B5.out.1.2.1.cell 5
              obtain ⟨i0, hi, hy0, hy1, hy2⟩ := info_parts info_req
              obtain ⟨p, hp⟩ : ∃ p, n + 1 = p := ⟨_, rfl⟩
              have hpl : p ≤ 1048577 := by omega
              obtain ⟨M9, hM9⟩ : ∃ M9, L ++ [⟨r0, r1, r2, r3, r4, r5⟩] = M9 := ⟨_, rfl⟩
              have HM9 : Hid (L ++ [⟨r0, r1, r2, r3, r4, r5⟩] = M9) := hM9
              have HP9 : Hid (M9.length = p ∧ 0 < p) := ⟨by rw [← hM9, List.length_append, HN.out]; exact hp, by omega⟩
              have HPN : Hid (n + 1 = p) := hp
              clear hM9 hp
              go_upto_region 6 with (at_builtin; refine wpList_append_own _ rfl (.tmp 51) (.tmp 53) 23 rfl wd.heap.size 27 i0 (.agg #[.int .i64 0, .int .i64 0, .int .i64 0, .int .i64 0, .int .i64 0, .int .i64 0]) 6 48 Try.underlying23 hi hy0 hy1 hy2 rfl (by decide) _ n (flat ReqKit.cells L) rfl (by have h9 := B5.out.2.1.below (n1 w5 (.cells #[.int .i64 r0, .int .i64 r1, .int .i64 r2, .int .i64 r3, .int .i64 r4, .int .i64 r5] 27)); unfold GrowKit.Cp at h9; rw [HN.out] at h9; exact h9) ⟨w5.heap.size, 0, none⟩ 1 1 (ReqKit.cells ⟨r0, r1, r2, r3, r4, r5⟩) rfl rfl (new_cells w5 ⟨r0, r1, r2, r3, r4, r5⟩ 27) (cells_one _) (by unfold maxLen; omega) (by omega) (by rw [sz1]; have := B5.out.2.2.2; omega) ?_; intro v6 w6 hown hgr _; have hcp : GrowKit.Cp 27 6 ReqKit.cells w6 wd.heap.size v6 M9 := (by rw [← HM9.out]; exact Cp.push (by rw [HN.out]; exact hown)); have hne6 := cp_box hcp (box_grown (B5.out.2.2.1.below (n1 _ _)) hgr (fun e => by have := HT8.out.2 _ e; omega)) (by decide); obtain ⟨a6, c6, hv6, hc6, _⟩ := Cp.shape (t := 27) (m := 6) (f := ReqKit.cells) (fun _ => rfl) hcp; rw [HP9.out.1] at hv6 hc6; subst hv6; have B6 : Hid ((boxB w6 w.heap.size #[.int .i64 x, .slice (some ⟨g, o, none⟩) n c] 25 ∧ boxB w6 (w.heap.size + 1) #[.int .i64 r0, .int .i64 r1, .int .i64 r2, .int .i64 r3, .int .i64 r4, .int .i64 r5] 27 ∧ boxB w6 (w.heap.size + 1 + 1) #[.int .i64 0, .slice none 0 0] 25 ∧ boxB w6 (w.heap.size + 1 + 1 + 1) #[.int .i64 0, .int .i64 0, .int .i64 0, .int .i64 0, .int .i64 0, .int .i64 0] 27 ∧ Below w.heap.size w w6) ∧ GrowKit.Cp 27 6 ReqKit.cells w6 wd.heap.size (.slice a6 p c6) M9 ∧ boxB w6 T8 #[.int .i64 x, .slice a2 n c2] 25 ∧ (Value.slice a6 p c6).ownBlock ≠ some T8 ∧ p ≤ c6) := ⟨⟨box_grown (B5.out.1.1.below (n1 _ _)) hgr (fun e => by have := B5.out.2.1.ge _ e; omega), box_grown (B5.out.1.2.1.below (n1 _ _)) hgr (fun e => by have := B5.out.2.1.ge _ e; omega), box_grown (B5.out.1.2.2.1.below (n1 _ _)) hgr (fun e => by have := B5.out.2.1.ge _ e; omega), box_grown (B5.out.1.2.2.2.1.below (n1 _ _)) hgr (fun e => by have := B5.out.2.1.ge _ e; omega), (B5.out.1.2.2.2.2.alloc B5.out.1.2.2.2.2.size _).grown hgr (Below.size (B5.out.1.2.2.2.2.alloc B5.out.1.2.2.2.2.size _)) (fun q hq => by have := B5.out.2.1.ge _ hq; omega)⟩, hcp, box_grown (B5.out.2.2.1.below (n1 _ _)) hgr (fun e => by have := HT8.out.2 _ e; omega), hne6, hc6⟩; have j0 := B6.out.2.2.1.cell 0; have j1 := B6.out.2.2.1.cell 1; have jz := fzB B6.out.2.2.1 1; clear hown hgr hcp hne6)
              have hc6 : p ≤ c6 := B6.out.2.2.2.2
              have HNE : Hid ((Value.slice a6 p c6).ownBlock ≠ some T8) := B6.out.2.2.2.1
              have B7 : Hid ((boxB (w6.setCell ⟨T8, 1, none⟩ (.slice a6 p c6)) w.heap.size #[.int .i64 x, .slice (some ⟨g, o, none⟩) n c] 25 ∧ boxB (w6.setCell ⟨T8, 1, none⟩ (.slice a6 p c6)) (w.heap.size + 1) #[.int .i64 r0, .int .i64 r1, .int .i64 r2, .int .i64 r3, .int .i64 r4, .int .i64 r5] 27 ∧ boxB (w6.setCell ⟨T8, 1, none⟩ (.slice a6 p c6)) (w.heap.size + 1 + 1) #[.int .i64 0, .slice none 0 0] 25 ∧ boxB (w6.setCell ⟨T8, 1, none⟩ (.slice a6 p c6)) (w.heap.size + 1 + 1 + 1) #[.int .i64 0, .int .i64 0, .int .i64 0, .int .i64 0, .int .i64 0, .int .i64 0] 27 ∧ Below w.heap.size w (w6.setCell ⟨T8, 1, none⟩ (.slice a6 p c6))) ∧ GrowKit.Cp 27 6 ReqKit.cells (w6.setCell ⟨T8, 1, none⟩ (.slice a6 p c6)) wd.heap.size (.slice a6 p c6) M9 ∧ boxB (w6.setCell ⟨T8, 1, none⟩ (.slice a6 p c6)) T8 #[.int .i64 x, .slice a6 p c6] 25) := by
                have h8 := HT8.out.1
                refine ⟨⟨B6.out.1.1.else (by show w.heap.size ≠ T8; omega) _, B6.out.1.2.1.else (by show w.heap.size + 1 ≠ T8; omega) _, B6.out.1.2.2.1.else (by show w.heap.size + 1 + 1 ≠ T8; omega) _, B6.out.1.2.2.2.1.else (by show w.heap.size + 1 + 1 + 1 ≠ T8; omega) _, B6.out.1.2.2.2.2.setCell (by show w.heap.size ≤ T8; omega) _⟩, B6.out.2.1.same (fun gg hgg _ => Below.heap_setCell _ _ _ _ (fun e => B6.out.2.2.2.1 (by rw [hgg, e]))), B6.out.2.2.1.set 1 _⟩
              clear B6 j0 j1 jz k0 k1 kz B5 ar0 ar1 ar2 ar3 ar4 ar5 i0 hi hy0 hy1 hy2
              generalize (w6.setCell ⟨T8, 1, none⟩ (.slice a6 p c6)) = w7 at *
              have j0 := B7.out.2.2.cell 0
              have j1 := B7.out.2.2.cell 1
              have l0 := B7.out.1.1.cell 0
              have l1 := B7.out.1.1.cell 1
              have y0 := B7.out.1.2.2.1.cell 0
              have z0 := fzB B7.out.1.2.2.1 0
              have y1 := B7.out.1.2.2.1.cell 1
              have z1 := fzB B7.out.1.2.2.1 1
              have d0 := B7.out.1.2.2.2.1.cell 0
              have f0 := fzB B7.out.1.2.2.2.1 0
              have d1 := B7.out.1.2.2.2.1.cell 1
              have f1 := fzB B7.out.1.2.2.2.1 1
              have d2 := B7.out.1.2.2.2.1.cell 2
              have f2 := fzB B7.out.1.2.2.2.1 2
              have d3 := B7.out.1.2.2.2.1.cell 3
              have f3 := fzB B7.out.1.2.2.2.1 3
              have d4 := B7.out.1.2.2.2.1.cell 4
              have f4 := fzB B7.out.1.2.2.2.1 4
              have d5 := B7.out.1.2.2.2.1.cell 5
              have f5 := fzB B7.out.1.2.2.2.1 5
              by_cases fit : (p : Int) ≤ x
              · have fd : decide ((p : Int) ≤ x) = true := by simpa using fit
                have HP : Hid (Y = x ∧ M = M9 ∧ R = ReqKit.zero ∧ V = true) := ⟨HE.out.1.symm, by rw [← HE.out.2.1]; unfold offL; rw [if_pos rfl, HM9.out, HP9.out.1, if_pos fit], by rw [← HE.out.2.2.1]; unfold offR; rw [if_pos rfl, HM9.out, HP9.out.1, if_pos fit], HE.out.2.2.2.symm⟩
                clear HO HW fit
                go_wp2
                refine bodyPost_ret (v := .tuple #[.agg #[.int .i64 x, .slice a6 p c6], .agg #[.int .i64 0, .int .i64 0, .int .i64 0, .int .i64 0, .int .i64 0, .int .i64 0], .bool true]) (by simp [results, Try.results24, go_sem, y0, y1, d0, d1, d2, d3, d4, d5]) rfl ?_
                rw [HP.out.1, HP.out.2.1, HP.out.2.2.1, HP.out.2.2.2]
                have h9 := B7.out.2.1
                rw [← HP9.out.1] at h9
                obtain ⟨a7, c7, h7, h8, h10⟩ := Cp.shape (t := 27) (m := 6) (f := ReqKit.cells) (fun _ => rfl) h9
                injection h7 with e1 _ e3
                subst e1 e3
                refine ⟨a6, c6, by rw [HP9.out.1]; rfl, h8, ?_, ?_⟩
                · exact (((((((((h10).set (by show w.heap.size + 1 + 1 < _; omega) _).set (by show w.heap.size + 1 + 1 < _; omega) _).set (by show w.heap.size + 1 + 1 + 1 < _; omega) _).set (by show w.heap.size + 1 + 1 + 1 < _; omega) _).set (by show w.heap.size + 1 + 1 + 1 < _; omega) _).set (by show w.heap.size + 1 + 1 + 1 < _; omega) _).set (by show w.heap.size + 1 + 1 + 1 < _; omega) _).set (by show w.heap.size + 1 + 1 + 1 < _; omega) _).low (by omega)
                · exact ((((((((B7.out.1.2.2.2.2).setCell (Nat.le_add_right _ 2) _).setCell (Nat.le_add_right _ 2) _).setCell (Nat.le_add_right _ 3) _).setCell (Nat.le_add_right _ 3) _).setCell (Nat.le_add_right _ 3) _).setCell (Nat.le_add_right _ 3) _).setCell (Nat.le_add_right _ 3) _).setCell (Nat.le_add_right _ 3) _
              · have fd : decide ((p : Int) ≤ x) = false := by simpa using fit
                obtain ⟨g6, hag6, hg6, hg6l, hrw6⟩ := cp_row B7.out.2.1 HP9.out.1 HP9.out.2
                subst hag6
                have HR6 : Hid (Row 27 6 ReqKit.cells w7 g6 0 M9 ∧ wd.heap.size ≤ g6 ∧ g6 < w7.heap.size) := ⟨hrw6, hg6, hg6l⟩
                have HFIT : Hid (¬ (p : Int) ≤ x) := fit
                clear y0 y1 d0 d1 d2 d3 d4 d5 z0 z1 f0 f1 f2 f3 f4 f5 hrw6 hg6 hg6l fit
                go_wp2
                clear l0 l1
                go_loopw [9, 67] (fun t9 i wr => ∃ k q : Nat, k ≤ p ∧ q ≤ k ∧ t9 = .int .i64 (q : Int) ∧ i = .int .i64 (k : Int) ∧ Hid (worstTo M9 k = q) ∧ Hid (Below w7.heap.size w7 wr)) (fun _ i _ => p - (intOf i).toNat)
                case atStart => exact ⟨0, 0, by omega, by omega, rfl, rfl, rfl, Below.refl _ _⟩
                case round =>
                  obtain ⟨k, q, hk, hqk, rfl, rfl, HQ, HB⟩ := hrel
                  clear j0 j1
                  by_cases hlt : k < p
                  · have hlt2 : k < M9.length := by rw [HP9.out.1]; exact hlt
                    have hq2 : q < M9.length := by rw [← HQ.out]; exact worst_lt M9 (by omega) k (by omega)
                    have hr1 : Row 27 6 ReqKit.cells wr g6 0 M9 := HR6.out.1.below HB.out
                    obtain ⟨sx, hsx⟩ : ∃ s, M9[k] = s := ⟨_, rfl⟩
                    obtain ⟨x0, x1, x2, x3, x4, x5⟩ := sx
                    have u9 := fun jj hjj => (hr1).cell k hlt2 jj hjj
                    have p0 : wr.cell? ⟨g6, 0 + k * 6, none⟩ = some (.int .i64 x0) := by have h9 := u9 0 (by omega); rw [hsx] at h9; exact h9
                    have p1 : wr.cell? ⟨g6, 0 + k * 6 + 1, none⟩ = some (.int .i64 x1) := by have h9 := u9 1 (by omega); rw [hsx] at h9; exact h9
                    have p2 : wr.cell? ⟨g6, 0 + k * 6 + 2, none⟩ = some (.int .i64 x2) := by have h9 := u9 2 (by omega); rw [hsx] at h9; exact h9
                    have p3 : wr.cell? ⟨g6, 0 + k * 6 + 3, none⟩ = some (.int .i64 x3) := by have h9 := u9 3 (by omega); rw [hsx] at h9; exact h9
                    have p4 : wr.cell? ⟨g6, 0 + k * 6 + 4, none⟩ = some (.int .i64 x4) := by have h9 := u9 4 (by omega); rw [hsx] at h9; exact h9
                    have p5 : wr.cell? ⟨g6, 0 + k * 6 + 5, none⟩ = some (.int .i64 x5) := by have h9 := u9 5 (by omega); rw [hsx] at h9; exact h9
                    clear u9
                    simp only [Nat.zero_add] at p0 p1 p2 p3 p4 p5
                    obtain ⟨sy, hsy⟩ : ∃ s, M9[q] = s := ⟨_, rfl⟩
                    obtain ⟨y0, y1, y2, y3, y4, y5⟩ := sy
                    have hli : (k : Int) < (p : Int) := by omega
                    have hqi : (q : Int) < (p : Int) := by have := HP9.out.1; omega
                    have hqc : (q : Int) < (c6 : Int) := by have := HP9.out.1; omega
                    have hkc : (k : Int) < (c6 : Int) := by omega
                    obtain ⟨b, hb⟩ : ∃ b, ReqOks.worse ⟨x0, x1, x2, x3, x4, x5⟩ ⟨y0, y1, y2, y3, y4, y5⟩ = b := ⟨_, rfl⟩
                    have HX : Hid (worstTo M9 (k + 1) = if b = true then k else q) := by
                      show _ = _
                      have h9 := worst_next M9 k hlt2 (by rw [HQ.out]; exact hq2) _ _ b hsx (by simp only [HQ.out]; exact hsy) hb
                      rw [HQ.out] at h9
                      exact h9
                    have HWS := fun W => HW x0 x1 x2 x3 x4 x5 y0 y1 y2 y3 y4 y5 W
                    rw [hb] at HWS
                    have HY9 : Hid (M9[q] = ⟨y0, y1, y2, y3, y4, y5⟩) := hsy
                    have BW : Hid (Below w7.heap.size w7 (wr.alloc (.cells #[.int .i64 x0, .int .i64 x1, .int .i64 x2, .int .i64 x3, .int .i64 x4, .int .i64 x5] 27)) ∧ Row 27 6 ReqKit.cells (wr.alloc (.cells #[.int .i64 x0, .int .i64 x1, .int .i64 x2, .int .i64 x3, .int .i64 x4, .int .i64 x5] 27)) g6 0 M9 ∧ boxB (wr.alloc (.cells #[.int .i64 x0, .int .i64 x1, .int .i64 x2, .int .i64 x3, .int .i64 x4, .int .i64 x5] 27)) wr.heap.size #[.int .i64 x0, .int .i64 x1, .int .i64 x2, .int .i64 x3, .int .i64 x4, .int .i64 x5] 27 ∧ boxB (wr.alloc (.cells #[.int .i64 x0, .int .i64 x1, .int .i64 x2, .int .i64 x3, .int .i64 x4, .int .i64 x5] 27)) T8 #[.int .i64 x, .slice (some ⟨g6, 0, none⟩) p c6] 25) := ⟨HB.out.alloc HB.out.size _, hr1.below (n1 _ _), boxB.new _ _ _, B7.out.2.2.below (HB.out.alloc HB.out.size _)⟩
                    have kj1 := (B7.out.2.2.below HB.out).cell 1
                    clear hr1 hsx hsy hb
                    go_upto_region 12 with fail
                    clear p0 p1 p2 p3 p4 p5 kj1
                    generalize (wr.alloc (.cells #[.int .i64 x0, .int .i64 x1, .int .i64 x2, .int .i64 x3, .int .i64 x4, .int .i64 x5] 27)) = W6 at *
                    have kk1 := BW.out.2.2.2.cell 1
                    have XK := Near.cell kk1
                    have q0 := BW.out.2.2.1.cell 0
                    have X0 := Near.cell q0
                    have z0 : W6.cell? ⟨g6, q * 6, none⟩ = some (.int .i64 y0) := by have h9 := BW.out.2.1.cell q hq2 0 (by omega); rw [HY9.out, Nat.zero_add] at h9; exact h9
                    have Y0 := Near.cell z0
                    have q1 := BW.out.2.2.1.cell 1
                    have X1 := Near.cell q1
                    have z1 : W6.cell? ⟨g6, q * 6 + 1, none⟩ = some (.int .i64 y1) := by have h9 := BW.out.2.1.cell q hq2 1 (by omega); rw [HY9.out, Nat.zero_add] at h9; exact h9
                    have Y1 := Near.cell z1
                    have q2 := BW.out.2.2.1.cell 2
                    have X2 := Near.cell q2
                    have z2 : W6.cell? ⟨g6, q * 6 + 2, none⟩ = some (.int .i64 y2) := by have h9 := BW.out.2.1.cell q hq2 2 (by omega); rw [HY9.out, Nat.zero_add] at h9; exact h9
                    have Y2 := Near.cell z2
                    have q3 := BW.out.2.2.1.cell 3
                    have X3 := Near.cell q3
                    have z3 : W6.cell? ⟨g6, q * 6 + 3, none⟩ = some (.int .i64 y3) := by have h9 := BW.out.2.1.cell q hq2 3 (by omega); rw [HY9.out, Nat.zero_add] at h9; exact h9
                    have Y3 := Near.cell z3
                    have q4 := BW.out.2.2.1.cell 4
                    have X4 := Near.cell q4
                    have z4 : W6.cell? ⟨g6, q * 6 + 4, none⟩ = some (.int .i64 y4) := by have h9 := BW.out.2.1.cell q hq2 4 (by omega); rw [HY9.out, Nat.zero_add] at h9; exact h9
                    have Y4 := Near.cell z4
                    have q5 := BW.out.2.2.1.cell 5
                    have X5 := Near.cell q5
                    have z5 : W6.cell? ⟨g6, q * 6 + 5, none⟩ = some (.int .i64 y5) := by have h9 := BW.out.2.1.cell q hq2 5 (by omega); rw [HY9.out, Nat.zero_add] at h9; exact h9
                    have Y5 := Near.cell z5
                    clear q0 q1 q2 q3 q4 q5 z0 z1 z2 z3 z4 z5 kk1
                    have near := Near.is W6
                    refine wp_region_near (by kernel_rfl) (by kernel_rfl) ?_
                    repeat (go_big_quiet_step (first | (go_at_call 37; exact near_call (HWS _))))
                    refine wpQuiet_nil ?_
                    intro wx hwx
                    obtain ⟨y, hy⟩ := hwx
                    subst hy
                    have BN : Hid (Below w7.heap.size w7 y.w) := BW.out.1.trans (y.near.mono BW.out.1.size)
                    obtain ⟨wn, hwn⟩ : ∃ wn, y.w = wn := ⟨_, rfl⟩
                    rw [hwn] at BN ⊢
                    clear hwn y near X0 X1 X2 X3 X4 X5 Y0 Y1 Y2 Y3 Y4 Y5 XK
                    cases b with
                    | true =>
                      have HX2 : Hid (worstTo M9 (k + 1) = k) := HX.out
                      go_wp2
                      go_roundw
                      case rel => exact ⟨k + 1, k, by omega, by omega, rfl, by go_num, HX2, BN⟩
                      case measure => simp [intOf]; omega
                    | false =>
                      have HX2 : Hid (worstTo M9 (k + 1) = q) := HX.out
                      go_wp2
                      go_roundw
                      case rel => exact ⟨k + 1, q, by omega, by omega, rfl, by go_num, HX2, BN⟩
                      case measure => simp [intOf]; omega
                  · obtain rfl : k = p := by omega
                    have HWT : Hid (worstTo M9 M9.length = q) := by show _ = _; rw [HP9.out.1]; exact HQ.out
                    have hq2 : q < M9.length := by rw [← HWT.out]; exact worst_lt M9 (by have := HP9.out; omega) _ (Nat.le_refl _)
                    have b9 := HB.out
                    have BF : Hid ((boxB wr w.heap.size #[.int .i64 x, .slice (some ⟨g, o, none⟩) n c] 25 ∧ boxB wr (w.heap.size + 1) #[.int .i64 r0, .int .i64 r1, .int .i64 r2, .int .i64 r3, .int .i64 r4, .int .i64 r5] 27 ∧ boxB wr (w.heap.size + 1 + 1) #[.int .i64 0, .slice none 0 0] 25 ∧ boxB wr (w.heap.size + 1 + 1 + 1) #[.int .i64 0, .int .i64 0, .int .i64 0, .int .i64 0, .int .i64 0, .int .i64 0] 27 ∧ Below w.heap.size w wr) ∧ Row 27 6 ReqKit.cells wr g6 0 M9 ∧ boxB wr T8 #[.int .i64 x, .slice (some ⟨g6, 0, none⟩) k c6] 25) := ⟨⟨B7.out.1.1.below b9, B7.out.1.2.1.below b9, B7.out.1.2.2.1.below b9, B7.out.1.2.2.2.1.below b9, B7.out.1.2.2.2.2.trans (b9.mono B7.out.1.2.2.2.2.size)⟩, HR6.out.1.below HB.out, B7.out.2.2.below HB.out⟩
                    have hz9 : w.heap.size + 1 + 1 + 1 < wr.heap.size := BF.out.1.2.2.2.1.lt
                    have hg9 : w.heap.size + 1 + 1 + 1 < g6 := by have := HR6.out.2.1; omega
                    obtain ⟨se, hse⟩ : ∃ s, M9[q] = s := ⟨_, rfl⟩
                    obtain ⟨e0, e1, e2, e3, e4, e5⟩ := se
                    have HE9 : Hid (M9[q] = ⟨e0, e1, e2, e3, e4, e5⟩) := hse
                    have hqi : (q : Int) < (k : Int) := by have := HP9.out.1; omega
                    have hqc : (q : Int) < (c6 : Int) := by have := HP9.out.1; omega
                    have HP : Hid (Y = x ∧ M = outOf M9 (q : Int) ∧ R = ⟨e0, e1, e2, e3, e4, e5⟩ ∧ V = true) := ⟨HE.out.1.symm, by rw [← HE.out.2.1]; unfold offL; rw [if_pos rfl, HM9.out, if_neg (by rw [HP9.out.1]; have := HFIT.out; omega), HWT.out], by rw [← HE.out.2.2.1]; unfold offR; rw [if_pos rfl, HM9.out, if_neg (by rw [HP9.out.1]; have := HFIT.out; omega), HWT.out, List.getElem?_eq_getElem hq2, hse]; rfl, HE.out.2.2.2.symm⟩
                    have HO9 := fun W h => HO (some ⟨g6, 0, none⟩) c6 M9 (q : Int) W h (by rw [HP9.out.1]; exact hpl) (by rw [HP9.out.1]; exact hc6)
                    rw [HP9.out.1] at HO9
                    have p0 : wr.cell? ⟨g6, q * 6, none⟩ = some (.int .i64 e0) := by have h9 := BF.out.2.1.cell q hq2 0 (by omega); rw [hse, Nat.zero_add] at h9; exact h9
                    have p1 : wr.cell? ⟨g6, q * 6 + 1, none⟩ = some (.int .i64 e1) := by have h9 := BF.out.2.1.cell q hq2 1 (by omega); rw [hse, Nat.zero_add] at h9; exact h9
                    have p2 : wr.cell? ⟨g6, q * 6 + 2, none⟩ = some (.int .i64 e2) := by have h9 := BF.out.2.1.cell q hq2 2 (by omega); rw [hse, Nat.zero_add] at h9; exact h9
                    have p3 : wr.cell? ⟨g6, q * 6 + 3, none⟩ = some (.int .i64 e3) := by have h9 := BF.out.2.1.cell q hq2 3 (by omega); rw [hse, Nat.zero_add] at h9; exact h9
                    have p4 : wr.cell? ⟨g6, q * 6 + 4, none⟩ = some (.int .i64 e4) := by have h9 := BF.out.2.1.cell q hq2 4 (by omega); rw [hse, Nat.zero_add] at h9; exact h9
                    have p5 : wr.cell? ⟨g6, q * 6 + 5, none⟩ = some (.int .i64 e5) := by have h9 := BF.out.2.1.cell q hq2 5 (by omega); rw [hse, Nat.zero_add] at h9; exact h9
                    have S9 : Hid (wr.cell? ⟨T8, 0, none⟩ = some (.int .i64 x) ∧ wr.cell? ⟨T8, 1, none⟩ = some (.slice (some ⟨g6, 0, none⟩) k c6) ∧ wr.cell? ⟨g6, q * 6, none⟩ = some (.int .i64 e0) ∧ wr.cell? ⟨g6, q * 6 + 1, none⟩ = some (.int .i64 e1) ∧ wr.cell? ⟨g6, q * 6 + 2, none⟩ = some (.int .i64 e2) ∧ wr.cell? ⟨g6, q * 6 + 3, none⟩ = some (.int .i64 e3) ∧ wr.cell? ⟨g6, q * 6 + 4, none⟩ = some (.int .i64 e4) ∧ wr.cell? ⟨g6, q * 6 + 5, none⟩ = some (.int .i64 e5)) := ⟨BF.out.2.2.cell 0, BF.out.2.2.cell 1, p0, p1, p2, p3, p4, p5⟩
                    have ED : Hid (∀ W : World, (W.cell? ⟨T8, 0, none⟩ = some (.int .i64 x) ∧ W.cell? ⟨T8, 1, none⟩ = some (.slice (some ⟨g6, 0, none⟩) k c6) ∧ W.cell? ⟨g6, q * 6, none⟩ = some (.int .i64 e0) ∧ W.cell? ⟨g6, q * 6 + 1, none⟩ = some (.int .i64 e1) ∧ W.cell? ⟨g6, q * 6 + 2, none⟩ = some (.int .i64 e2) ∧ W.cell? ⟨g6, q * 6 + 3, none⟩ = some (.int .i64 e3) ∧ W.cell? ⟨g6, q * 6 + 4, none⟩ = some (.int .i64 e4) ∧ W.cell? ⟨g6, q * 6 + 5, none⟩ = some (.int .i64 e5)) → (W.drew.cell? ⟨T8, 0, none⟩ = some (.int .i64 x) ∧ W.drew.cell? ⟨T8, 1, none⟩ = some (.slice (some ⟨g6, 0, none⟩) k c6) ∧ W.drew.cell? ⟨g6, q * 6, none⟩ = some (.int .i64 e0) ∧ W.drew.cell? ⟨g6, q * 6 + 1, none⟩ = some (.int .i64 e1) ∧ W.drew.cell? ⟨g6, q * 6 + 2, none⟩ = some (.int .i64 e2) ∧ W.drew.cell? ⟨g6, q * 6 + 3, none⟩ = some (.int .i64 e3) ∧ W.drew.cell? ⟨g6, q * 6 + 4, none⟩ = some (.int .i64 e4) ∧ W.drew.cell? ⟨g6, q * 6 + 5, none⟩ = some (.int .i64 e5))) := fun W h => h
                    have S0 : Hid (wr.drew.cell? ⟨T8, 0, none⟩ = some (.int .i64 x) ∧ wr.drew.cell? ⟨T8, 1, none⟩ = some (.slice (some ⟨g6, 0, none⟩) k c6) ∧ wr.drew.cell? ⟨g6, q * 6, none⟩ = some (.int .i64 e0) ∧ wr.drew.cell? ⟨g6, q * 6 + 1, none⟩ = some (.int .i64 e1) ∧ wr.drew.cell? ⟨g6, q * 6 + 2, none⟩ = some (.int .i64 e2) ∧ wr.drew.cell? ⟨g6, q * 6 + 3, none⟩ = some (.int .i64 e3) ∧ wr.drew.cell? ⟨g6, q * 6 + 4, none⟩ = some (.int .i64 e4) ∧ wr.drew.cell? ⟨g6, q * 6 + 5, none⟩ = some (.int .i64 e5)) := S9.out
                    have EQ : Hid (∀ (W : World) (j : Nat) (u : Value), (W.cell? ⟨T8, 0, none⟩ = some (.int .i64 x) ∧ W.cell? ⟨T8, 1, none⟩ = some (.slice (some ⟨g6, 0, none⟩) k c6) ∧ W.cell? ⟨g6, q * 6, none⟩ = some (.int .i64 e0) ∧ W.cell? ⟨g6, q * 6 + 1, none⟩ = some (.int .i64 e1) ∧ W.cell? ⟨g6, q * 6 + 2, none⟩ = some (.int .i64 e2) ∧ W.cell? ⟨g6, q * 6 + 3, none⟩ = some (.int .i64 e3) ∧ W.cell? ⟨g6, q * 6 + 4, none⟩ = some (.int .i64 e4) ∧ W.cell? ⟨g6, q * 6 + 5, none⟩ = some (.int .i64 e5)) → ((W.setCell ⟨w.heap.size + 1 + 1, j, none⟩ u).cell? ⟨T8, 0, none⟩ = some (.int .i64 x) ∧ (W.setCell ⟨w.heap.size + 1 + 1, j, none⟩ u).cell? ⟨T8, 1, none⟩ = some (.slice (some ⟨g6, 0, none⟩) k c6) ∧ (W.setCell ⟨w.heap.size + 1 + 1, j, none⟩ u).cell? ⟨g6, q * 6, none⟩ = some (.int .i64 e0) ∧ (W.setCell ⟨w.heap.size + 1 + 1, j, none⟩ u).cell? ⟨g6, q * 6 + 1, none⟩ = some (.int .i64 e1) ∧ (W.setCell ⟨w.heap.size + 1 + 1, j, none⟩ u).cell? ⟨g6, q * 6 + 2, none⟩ = some (.int .i64 e2) ∧ (W.setCell ⟨w.heap.size + 1 + 1, j, none⟩ u).cell? ⟨g6, q * 6 + 3, none⟩ = some (.int .i64 e3) ∧ (W.setCell ⟨w.heap.size + 1 + 1, j, none⟩ u).cell? ⟨g6, q * 6 + 4, none⟩ = some (.int .i64 e4) ∧ (W.setCell ⟨w.heap.size + 1 + 1, j, none⟩ u).cell? ⟨g6, q * 6 + 5, none⟩ = some (.int .i64 e5))) := fun W j u h => eight_ne (by show T8 ≠ w.heap.size + 1 + 1; have := HT8.out.1; omega) (by show g6 ≠ w.heap.size + 1 + 1; omega) h
                    have ER : Hid (∀ (W : World) (j : Nat) (u : Value), (W.cell? ⟨T8, 0, none⟩ = some (.int .i64 x) ∧ W.cell? ⟨T8, 1, none⟩ = some (.slice (some ⟨g6, 0, none⟩) k c6) ∧ W.cell? ⟨g6, q * 6, none⟩ = some (.int .i64 e0) ∧ W.cell? ⟨g6, q * 6 + 1, none⟩ = some (.int .i64 e1) ∧ W.cell? ⟨g6, q * 6 + 2, none⟩ = some (.int .i64 e2) ∧ W.cell? ⟨g6, q * 6 + 3, none⟩ = some (.int .i64 e3) ∧ W.cell? ⟨g6, q * 6 + 4, none⟩ = some (.int .i64 e4) ∧ W.cell? ⟨g6, q * 6 + 5, none⟩ = some (.int .i64 e5)) → ((W.setCell ⟨w.heap.size + 1 + 1 + 1, j, none⟩ u).cell? ⟨T8, 0, none⟩ = some (.int .i64 x) ∧ (W.setCell ⟨w.heap.size + 1 + 1 + 1, j, none⟩ u).cell? ⟨T8, 1, none⟩ = some (.slice (some ⟨g6, 0, none⟩) k c6) ∧ (W.setCell ⟨w.heap.size + 1 + 1 + 1, j, none⟩ u).cell? ⟨g6, q * 6, none⟩ = some (.int .i64 e0) ∧ (W.setCell ⟨w.heap.size + 1 + 1 + 1, j, none⟩ u).cell? ⟨g6, q * 6 + 1, none⟩ = some (.int .i64 e1) ∧ (W.setCell ⟨w.heap.size + 1 + 1 + 1, j, none⟩ u).cell? ⟨g6, q * 6 + 2, none⟩ = some (.int .i64 e2) ∧ (W.setCell ⟨w.heap.size + 1 + 1 + 1, j, none⟩ u).cell? ⟨g6, q * 6 + 3, none⟩ = some (.int .i64 e3) ∧ (W.setCell ⟨w.heap.size + 1 + 1 + 1, j, none⟩ u).cell? ⟨g6, q * 6 + 4, none⟩ = some (.int .i64 e4) ∧ (W.setCell ⟨w.heap.size + 1 + 1 + 1, j, none⟩ u).cell? ⟨g6, q * 6 + 5, none⟩ = some (.int .i64 e5))) := fun W j u h => eight_ne (by show T8 ≠ w.heap.size + 1 + 1 + 1; have := HT8.out.1; omega) (by show g6 ≠ w.heap.size + 1 + 1 + 1; omega) h
                    clear hse p0 p1 p2 p3 p4 p5 b9
                    go_wp2_with fail
                    go_region_held3 (fun w' => w'.cell? ⟨T8, 0, none⟩ = some (.int .i64 x) ∧ w'.cell? ⟨T8, 1, none⟩ = some (.slice (some ⟨g6, 0, none⟩) k c6) ∧ w'.cell? ⟨g6, q * 6, none⟩ = some (.int .i64 e0) ∧ w'.cell? ⟨g6, q * 6 + 1, none⟩ = some (.int .i64 e1) ∧ w'.cell? ⟨g6, q * 6 + 2, none⟩ = some (.int .i64 e2) ∧ w'.cell? ⟨g6, q * 6 + 3, none⟩ = some (.int .i64 e3) ∧ w'.cell? ⟨g6, q * 6 + 4, none⟩ = some (.int .i64 e4) ∧ w'.cell? ⟨g6, q * 6 + 5, none⟩ = some (.int .i64 e5)) (first | with_reducible exact S0.out | with_reducible exact S3.out | with_reducible exact EQ.out _ _ _ (EQ.out _ _ _ (S3.out)) | with_reducible exact ER.out _ _ _ (ER.out _ _ _ (ER.out _ _ _ (ER.out _ _ _ (ER.out _ _ _ (ER.out _ _ _ (EQ.out _ _ _ (EQ.out _ _ _ (S3.out)))))))) | with_reducible exact S9.out) ((go_at_call 38; refine (HO9 _ (Or.inr ⟨g6, 0, rfl, BF.out.2.1.below (Below.refl _ _).drew⟩)).mono ?_; rintro e w3 ⟨a8, c8, rfl, hc8, hh, b3⟩; have B3 : Hid ((boxB w3 w.heap.size #[.int .i64 x, .slice (some ⟨g, o, none⟩) n c] 25 ∧ boxB w3 (w.heap.size + 1) #[.int .i64 r0, .int .i64 r1, .int .i64 r2, .int .i64 r3, .int .i64 r4, .int .i64 r5] 27 ∧ boxB w3 (w.heap.size + 1 + 1) #[.int .i64 0, .slice none 0 0] 25 ∧ boxB w3 (w.heap.size + 1 + 1 + 1) #[.int .i64 0, .int .i64 0, .int .i64 0, .int .i64 0, .int .i64 0, .int .i64 0] 27 ∧ Below w.heap.size w w3) ∧ Row 27 6 ReqKit.cells w3 g6 0 M9 ∧ boxB w3 T8 #[.int .i64 x, .slice (some ⟨g6, 0, none⟩) k c6] 25) := (by have b4 : Below wr.heap.size wr w3 := (Below.refl _ wr).drew.trans b3; exact ⟨⟨BF.out.1.1.below b4, BF.out.1.2.1.below b4, BF.out.1.2.2.1.below b4, BF.out.1.2.2.2.1.below b4, BF.out.1.2.2.2.2.trans (b4.mono BF.out.1.2.2.2.2.size)⟩, BF.out.2.1.below b4, BF.out.2.2.below b4⟩); have S3 : Hid (w3.cell? ⟨T8, 0, none⟩ = some (.int .i64 x) ∧ w3.cell? ⟨T8, 1, none⟩ = some (.slice (some ⟨g6, 0, none⟩) k c6) ∧ w3.cell? ⟨g6, q * 6, none⟩ = some (.int .i64 e0) ∧ w3.cell? ⟨g6, q * 6 + 1, none⟩ = some (.int .i64 e1) ∧ w3.cell? ⟨g6, q * 6 + 2, none⟩ = some (.int .i64 e2) ∧ w3.cell? ⟨g6, q * 6 + 3, none⟩ = some (.int .i64 e3) ∧ w3.cell? ⟨g6, q * 6 + 4, none⟩ = some (.int .i64 e4) ∧ w3.cell? ⟨g6, q * 6 + 5, none⟩ = some (.int .i64 e5)) := (by exact ⟨B3.out.2.2.cell 0, B3.out.2.2.cell 1, by have h9 := B3.out.2.1.cell q hq2 0 (by omega); rw [HE9.out, Nat.zero_add] at h9; exact h9, by have h9 := B3.out.2.1.cell q hq2 1 (by omega); rw [HE9.out, Nat.zero_add] at h9; exact h9, by have h9 := B3.out.2.1.cell q hq2 2 (by omega); rw [HE9.out, Nat.zero_add] at h9; exact h9, by have h9 := B3.out.2.1.cell q hq2 3 (by omega); rw [HE9.out, Nat.zero_add] at h9; exact h9, by have h9 := B3.out.2.1.cell q hq2 4 (by omega); rw [HE9.out, Nat.zero_add] at h9; exact h9, by have h9 := B3.out.2.1.cell q hq2 5 (by omega); rw [HE9.out, Nat.zero_add] at h9; exact h9⟩); have HH : Hid ((outOf M9 (q : Int)).length ≤ c8 ∧ Holds w3 wr.heap.size [⟨a8, 27, 6, (outOf M9 (q : Int)).map ReqKit.cells⟩]) := ⟨hc8, hh⟩; clear b3 hc8 hh; have y0 := B3.out.1.2.2.1.cell 0; have z0 := fzB B3.out.1.2.2.1 0; have y1 := B3.out.1.2.2.1.cell 1; have z1 := fzB B3.out.1.2.2.1 1; have d0 := B3.out.1.2.2.2.1.cell 0; have f0 := fzB B3.out.1.2.2.2.1 0; have d1 := B3.out.1.2.2.2.1.cell 1; have f1 := fzB B3.out.1.2.2.2.1 1; have d2 := B3.out.1.2.2.2.1.cell 2; have f2 := fzB B3.out.1.2.2.2.1 2; have d3 := B3.out.1.2.2.2.1.cell 3; have f3 := fzB B3.out.1.2.2.2.1 3; have d4 := B3.out.1.2.2.2.1.cell 4; have f4 := fzB B3.out.1.2.2.2.1 4; have d5 := B3.out.1.2.2.2.1.cell 5; have f5 := fzB B3.out.1.2.2.2.1 5))
                    go_wp2
                    refine bodyPost_ret (v := .tuple #[.agg #[.int .i64 x, .slice a8 (outOf M9 (q : Int)).length c8], .agg #[.int .i64 e0, .int .i64 e1, .int .i64 e2, .int .i64 e3, .int .i64 e4, .int .i64 e5], .bool true]) (by simp [results, Try.results24, go_sem, y0, y1, d0, d1, d2, d3, d4, d5]) rfl ?_
                    rw [HP.out.1, HP.out.2.1, HP.out.2.2.1, HP.out.2.2.2]
                    refine ⟨a8, c8, rfl, HH.out.1, ?_, ?_⟩
                    · exact (((((((((HH.out.2).set (by show w.heap.size + 1 + 1 < _; omega) _).set (by show w.heap.size + 1 + 1 < _; omega) _).set (by show w.heap.size + 1 + 1 + 1 < _; omega) _).set (by show w.heap.size + 1 + 1 + 1 < _; omega) _).set (by show w.heap.size + 1 + 1 + 1 < _; omega) _).set (by show w.heap.size + 1 + 1 + 1 < _; omega) _).set (by show w.heap.size + 1 + 1 + 1 < _; omega) _).set (by show w.heap.size + 1 + 1 + 1 < _; omega) _).low (by omega)
                    · exact ((((((((B3.out.1.2.2.2.2).setCell (Nat.le_add_right _ 2) _).setCell (Nat.le_add_right _ 2) _).setCell (Nat.le_add_right _ 3) _).setCell (Nat.le_add_right _ 3) _).setCell (Nat.le_add_right _ 3) _).setCell (Nat.le_add_right _ 3) _).setCell (Nat.le_add_right _ 3) _).setCell (Nat.le_add_right _ 3) _
            · have hcd : decide (r4 < y4) = true := by simp; omega
              obtain rfl : G = false := by rw [← HG.out]; simp [goes, HV.out, HLL.out, hcm]
              clear hcm tt
              refine wp_region_near (by kernel_rfl) (by kernel_rfl) ?_
              repeat (go_big_quiet_step (first | (go_at_call 34; exact near_call (HRQ _)) | (go_at_call 35; exact near_call (HT _ (B6.out.2.below (Near.near _)))) | (go_at_call 33; exact near_call (HQ _ (B6.out.2.below (Near.near _))))))
              refine wpQuiet_nil ?_
              intro wx hwx
              obtain ⟨y, hy⟩ := hwx
              subst hy
              have BY : Hid (boxB y.w w.heap.size #[.int .i64 x, .slice (some ⟨g, o, none⟩) n c] 25 ∧ boxB y.w (w.heap.size + 1) #[.int .i64 r0, .int .i64 r1, .int .i64 r2, .int .i64 r3, .int .i64 r4, .int .i64 r5] 27 ∧ boxB y.w (w.heap.size + 1 + 1) #[.int .i64 0, .slice none 0 0] 25 ∧ boxB y.w (w.heap.size + 1 + 1 + 1) #[.int .i64 0, .int .i64 0, .int .i64 0, .int .i64 0, .int .i64 0, .int .i64 0] 27 ∧ Below w.heap.size w y.w) := by
                have b9 := y.near
                exact ⟨B6.out.1.1.below b9, B6.out.1.2.1.below b9, B6.out.1.2.2.1.below b9, B6.out.1.2.2.2.1.below b9, B6.out.1.2.2.2.2.trans (b9.mono B6.out.1.2.2.2.2.size)⟩
              obtain ⟨wd, hwd⟩ : ∃ wd, y.w = wd := ⟨_, rfl⟩
              rw [hwd] at BY ⊢
              clear hwd y near XL XM XA0 XA1 XA2 XA3 XA4 XA5 XP B6 HQ HT HRQ
              have HP : Hid (Y = 0 ∧ M = [] ∧ R = ReqKit.zero ∧ V = false) := ⟨HE.out.1.symm, HE.out.2.1.symm, HE.out.2.2.1.symm, HE.out.2.2.2.symm⟩
              clear HC HO HW
              have y0 := BY.out.2.2.1.cell 0
              have z0 := fzB BY.out.2.2.1 0
              have y1 := BY.out.2.2.1.cell 1
              have z1 := fzB BY.out.2.2.1 1
              have d0 := BY.out.2.2.2.1.cell 0
              have f0 := fzB BY.out.2.2.2.1 0
              have d1 := BY.out.2.2.2.1.cell 1
              have f1 := fzB BY.out.2.2.2.1 1
              have d2 := BY.out.2.2.2.1.cell 2
              have f2 := fzB BY.out.2.2.2.1 2
              have d3 := BY.out.2.2.2.1.cell 3
              have f3 := fzB BY.out.2.2.2.1 3
              have d4 := BY.out.2.2.2.1.cell 4
              have f4 := fzB BY.out.2.2.2.1 4
              have d5 := BY.out.2.2.2.1.cell 5
              have f5 := fzB BY.out.2.2.2.1 5
              go_wp2
              refine bodyPost_ret (v := .tuple #[.agg #[.int .i64 0, .slice none 0 0], .agg #[.int .i64 0, .int .i64 0, .int .i64 0, .int .i64 0, .int .i64 0, .int .i64 0], .bool false]) (by simp [results, Try.results24, go_sem, y0, y1, d0, d1, d2, d3, d4, d5]) rfl ?_
              rw [HP.out.1, HP.out.2.1, HP.out.2.2.1, HP.out.2.2.2]
              refine ⟨none, 0, rfl, Nat.le_refl _, Holds.own (L := []) (f := ReqKit.cells) (Or.inl rfl) (fun b hb => by simp [blkL] at hb), ?_⟩
              exact ((((((((BY.out.2.2.2.2).setCell (Nat.le_add_right _ 2) _).setCell (Nat.le_add_right _ 2) _).setCell (Nat.le_add_right _ 3) _).setCell (Nat.le_add_right _ 3) _).setCell (Nat.le_add_right _ 3) _).setCell (Nat.le_add_right _ 3) _).setCell (Nat.le_add_right _ 3) _).setCell (Nat.le_add_right _ 3) _
        · obtain rfl : n = 0 := by omega
          have hnd : decide (0 < ((0 : Nat) : Int)) = false := by simp
          obtain rfl : G = true := by
            rw [← HG.out]
            have e9 : L = [] := List.length_eq_zero_iff.1 HN.out
            simp [goes, HV.out, e9]
            omega
          clear tt hn0
          refine wp_region_near (by kernel_rfl) (by kernel_rfl) ?_
          repeat (go_big_quiet_step (first | (go_at_call 34; exact near_call (HRQ _)) | (go_at_call 35; exact near_call (HT _ (B6.out.2.below (Near.near _)))) | (go_at_call 33; exact near_call (HQ _ (B6.out.2.below (Near.near _))))))
          refine wpQuiet_nil ?_
          intro wx hwx
          obtain ⟨y, hy⟩ := hwx
          subst hy
          have BY : Hid (boxB y.w w.heap.size #[.int .i64 x, .slice a 0 c] 25 ∧ boxB y.w (w.heap.size + 1) #[.int .i64 r0, .int .i64 r1, .int .i64 r2, .int .i64 r3, .int .i64 r4, .int .i64 r5] 27 ∧ boxB y.w (w.heap.size + 1 + 1) #[.int .i64 0, .slice none 0 0] 25 ∧ boxB y.w (w.heap.size + 1 + 1 + 1) #[.int .i64 0, .int .i64 0, .int .i64 0, .int .i64 0, .int .i64 0, .int .i64 0] 27 ∧ Below w.heap.size w y.w) := by
            have b9 := y.near
            exact ⟨B6.out.1.1.below b9, B6.out.1.2.1.below b9, B6.out.1.2.2.1.below b9, B6.out.1.2.2.2.1.below b9, B6.out.1.2.2.2.2.trans (b9.mono B6.out.1.2.2.2.2.size)⟩
          obtain ⟨wd, hwd⟩ : ∃ wd, y.w = wd := ⟨_, rfl⟩
          rw [hwd] at BY ⊢
          clear hwd y near XL XM XA0 XA1 XA2 XA3 XA4 XA5 B6 HQ HT HRQ
          skip
          have l0 := BY.out.1.cell 0
          have l1 := BY.out.1.cell 1
          have ar0 := BY.out.2.1.cell 0
          have ar1 := BY.out.2.1.cell 1
          have ar2 := BY.out.2.1.cell 2
          have ar3 := BY.out.2.1.cell 3
          have ar4 := BY.out.2.1.cell 4
          have ar5 := BY.out.2.1.cell 5
          go_wp2_with fail
          refine (HC _ (HA.out.below BY.out.2.2.2.2)).mono ?_
          rintro e w4 ⟨a2, c2, rfl, hc2, hcp, b4⟩
          have B4 : Hid ((boxB w4 w.heap.size #[.int .i64 x, .slice a 0 c] 25 ∧ boxB w4 (w.heap.size + 1) #[.int .i64 r0, .int .i64 r1, .int .i64 r2, .int .i64 r3, .int .i64 r4, .int .i64 r5] 27 ∧ boxB w4 (w.heap.size + 1 + 1) #[.int .i64 0, .slice none 0 0] 25 ∧ boxB w4 (w.heap.size + 1 + 1 + 1) #[.int .i64 0, .int .i64 0, .int .i64 0, .int .i64 0, .int .i64 0, .int .i64 0] 27 ∧ Below w.heap.size w w4) ∧ GrowKit.Cp 27 6 ReqKit.cells w4 wd.heap.size (.slice a2 L.length c2) L) := ⟨⟨BY.out.1.below b4, BY.out.2.1.below b4, BY.out.2.2.1.below b4, BY.out.2.2.2.1.below b4, BY.out.2.2.2.2.trans (b4.mono BY.out.2.2.2.2.size)⟩, hcp⟩
          obtain ⟨T8, hT8⟩ : ∃ T8, w4.heap.size = T8 := ⟨_, rfl⟩
          have HT8 : Hid (w.heap.size + 1 + 1 + 1 < T8 ∧ ∀ gg, (Value.slice a2 L.length c2).ownBlock = some gg → gg < T8) := ⟨by rw [← hT8]; exact B4.out.1.2.2.2.1.lt, fun gg hgg => by rw [← hT8]; exact B4.out.2.lt gg hgg⟩
          have hzd : w.heap.size + 1 + 1 + 1 < wd.heap.size := BY.out.2.2.2.1.lt
          have B5 : Hid ((boxB (w4.alloc (.cells #[.int .i64 x, .slice a2 L.length c2] 25)) w.heap.size #[.int .i64 x, .slice a 0 c] 25 ∧ boxB (w4.alloc (.cells #[.int .i64 x, .slice a2 L.length c2] 25)) (w.heap.size + 1) #[.int .i64 r0, .int .i64 r1, .int .i64 r2, .int .i64 r3, .int .i64 r4, .int .i64 r5] 27 ∧ boxB (w4.alloc (.cells #[.int .i64 x, .slice a2 L.length c2] 25)) (w.heap.size + 1 + 1) #[.int .i64 0, .slice none 0 0] 25 ∧ boxB (w4.alloc (.cells #[.int .i64 x, .slice a2 L.length c2] 25)) (w.heap.size + 1 + 1 + 1) #[.int .i64 0, .int .i64 0, .int .i64 0, .int .i64 0, .int .i64 0, .int .i64 0] 27 ∧ Below w.heap.size w (w4.alloc (.cells #[.int .i64 x, .slice a2 L.length c2] 25))) ∧ GrowKit.Cp 27 6 ReqKit.cells (w4.alloc (.cells #[.int .i64 x, .slice a2 L.length c2] 25)) wd.heap.size (.slice a2 L.length c2) L ∧ boxB (w4.alloc (.cells #[.int .i64 x, .slice a2 L.length c2] 25)) T8 #[.int .i64 x, .slice a2 L.length c2] 25 ∧ wd.heap.size ≤ (w4.alloc (.cells #[.int .i64 x, .slice a2 L.length c2] 25)).heap.size) := by
            have h9 := boxB.new w4 #[.int .i64 x, .slice a2 L.length c2] 25
            rw [hT8] at h9
            exact ⟨⟨B4.out.1.1.below (n1 _ _), B4.out.1.2.1.below (n1 _ _), B4.out.1.2.2.1.below (n1 _ _), B4.out.1.2.2.2.1.below (n1 _ _), B4.out.1.2.2.2.2.trans ((n1 _ _).mono B4.out.1.2.2.2.2.size)⟩, B4.out.2.below (n1 _ _), h9, Nat.le_trans b4.size (n1 _ _).size⟩
          clear b4 hcp hc2 B4 BY HC
          go_upto_region 5 with fail
          try rw [hT8]
          clear hT8
          generalize (w4.alloc (.cells #[.int .i64 x, .slice a2 L.length c2] 25)) = w5 at *
          rw [HN.out] at B5 HT8 ⊢
          have k0 := B5.out.2.2.1.cell 0
          have k1 := B5.out.2.2.1.cell 1
          have kz := fzB B5.out.2.2.1 1
          have ar0 := B5.out.1.2.1.cell 0
          have ar1 := B5.out.1.2.1.cell 1
          have ar2 := B5.out.1.2.1.cell 2
          have ar3 := B5.out.1.2.1.cell 3
          have ar4 := B5.out.1.2.1.cell 4
          have ar5 := B5.out.1.2.1.cell 5
          obtain ⟨i0, hi, hy0, hy1, hy2⟩ := info_parts info_req
          obtain ⟨p, hp⟩ : ∃ p, 0 + 1 = p := ⟨_, rfl⟩
          have hpl : p ≤ 1048577 := by omega
          obtain ⟨M9, hM9⟩ : ∃ M9, L ++ [⟨r0, r1, r2, r3, r4, r5⟩] = M9 := ⟨_, rfl⟩
          have HM9 : Hid (L ++ [⟨r0, r1, r2, r3, r4, r5⟩] = M9) := hM9
          have HP9 : Hid (M9.length = p ∧ 0 < p) := ⟨by rw [← hM9, List.length_append, HN.out]; exact hp, by omega⟩
          have HPN : Hid (0 + 1 = p) := hp
          clear hM9 hp
          go_upto_region 6 with (at_builtin; refine wpList_append_own _ rfl (.tmp 51) (.tmp 53) 23 rfl wd.heap.size 27 i0 (.agg #[.int .i64 0, .int .i64 0, .int .i64 0, .int .i64 0, .int .i64 0, .int .i64 0]) 6 48 Try.underlying23 hi hy0 hy1 hy2 rfl (by decide) _ 0 (flat ReqKit.cells L) rfl (by have h9 := B5.out.2.1.below (n1 w5 (.cells #[.int .i64 r0, .int .i64 r1, .int .i64 r2, .int .i64 r3, .int .i64 r4, .int .i64 r5] 27)); unfold GrowKit.Cp at h9; rw [HN.out] at h9; exact h9) ⟨w5.heap.size, 0, none⟩ 1 1 (ReqKit.cells ⟨r0, r1, r2, r3, r4, r5⟩) rfl rfl (new_cells w5 ⟨r0, r1, r2, r3, r4, r5⟩ 27) (cells_one _) (by unfold maxLen; omega) (by omega) (by rw [sz1]; have := B5.out.2.2.2; omega) ?_; intro v6 w6 hown hgr _; have hcp : GrowKit.Cp 27 6 ReqKit.cells w6 wd.heap.size v6 M9 := (by rw [← HM9.out]; exact Cp.push (by rw [HN.out]; exact hown)); have hne6 := cp_box hcp (box_grown (B5.out.2.2.1.below (n1 _ _)) hgr (fun e => by have := HT8.out.2 _ e; omega)) (by decide); obtain ⟨a6, c6, hv6, hc6, _⟩ := Cp.shape (t := 27) (m := 6) (f := ReqKit.cells) (fun _ => rfl) hcp; rw [HP9.out.1] at hv6 hc6; subst hv6; have B6 : Hid ((boxB w6 w.heap.size #[.int .i64 x, .slice a 0 c] 25 ∧ boxB w6 (w.heap.size + 1) #[.int .i64 r0, .int .i64 r1, .int .i64 r2, .int .i64 r3, .int .i64 r4, .int .i64 r5] 27 ∧ boxB w6 (w.heap.size + 1 + 1) #[.int .i64 0, .slice none 0 0] 25 ∧ boxB w6 (w.heap.size + 1 + 1 + 1) #[.int .i64 0, .int .i64 0, .int .i64 0, .int .i64 0, .int .i64 0, .int .i64 0] 27 ∧ Below w.heap.size w w6) ∧ GrowKit.Cp 27 6 ReqKit.cells w6 wd.heap.size (.slice a6 p c6) M9 ∧ boxB w6 T8 #[.int .i64 x, .slice a2 0 c2] 25 ∧ (Value.slice a6 p c6).ownBlock ≠ some T8 ∧ p ≤ c6) := ⟨⟨box_grown (B5.out.1.1.below (n1 _ _)) hgr (fun e => by have := B5.out.2.1.ge _ e; omega), box_grown (B5.out.1.2.1.below (n1 _ _)) hgr (fun e => by have := B5.out.2.1.ge _ e; omega), box_grown (B5.out.1.2.2.1.below (n1 _ _)) hgr (fun e => by have := B5.out.2.1.ge _ e; omega), box_grown (B5.out.1.2.2.2.1.below (n1 _ _)) hgr (fun e => by have := B5.out.2.1.ge _ e; omega), (B5.out.1.2.2.2.2.alloc B5.out.1.2.2.2.2.size _).grown hgr (Below.size (B5.out.1.2.2.2.2.alloc B5.out.1.2.2.2.2.size _)) (fun q hq => by have := B5.out.2.1.ge _ hq; omega)⟩, hcp, box_grown (B5.out.2.2.1.below (n1 _ _)) hgr (fun e => by have := HT8.out.2 _ e; omega), hne6, hc6⟩; have j0 := B6.out.2.2.1.cell 0; have j1 := B6.out.2.2.1.cell 1; have jz := fzB B6.out.2.2.1 1; clear hown hgr hcp hne6)
          have hc6 : p ≤ c6 := B6.out.2.2.2.2
          have HNE : Hid ((Value.slice a6 p c6).ownBlock ≠ some T8) := B6.out.2.2.2.1
          have B7 : Hid ((boxB (w6.setCell ⟨T8, 1, none⟩ (.slice a6 p c6)) w.heap.size #[.int .i64 x, .slice a 0 c] 25 ∧ boxB (w6.setCell ⟨T8, 1, none⟩ (.slice a6 p c6)) (w.heap.size + 1) #[.int .i64 r0, .int .i64 r1, .int .i64 r2, .int .i64 r3, .int .i64 r4, .int .i64 r5] 27 ∧ boxB (w6.setCell ⟨T8, 1, none⟩ (.slice a6 p c6)) (w.heap.size + 1 + 1) #[.int .i64 0, .slice none 0 0] 25 ∧ boxB (w6.setCell ⟨T8, 1, none⟩ (.slice a6 p c6)) (w.heap.size + 1 + 1 + 1) #[.int .i64 0, .int .i64 0, .int .i64 0, .int .i64 0, .int .i64 0, .int .i64 0] 27 ∧ Below w.heap.size w (w6.setCell ⟨T8, 1, none⟩ (.slice a6 p c6))) ∧ GrowKit.Cp 27 6 ReqKit.cells (w6.setCell ⟨T8, 1, none⟩ (.slice a6 p c6)) wd.heap.size (.slice a6 p c6) M9 ∧ boxB (w6.setCell ⟨T8, 1, none⟩ (.slice a6 p c6)) T8 #[.int .i64 x, .slice a6 p c6] 25) := by
            have h8 := HT8.out.1
            refine ⟨⟨B6.out.1.1.else (by show w.heap.size ≠ T8; omega) _, B6.out.1.2.1.else (by show w.heap.size + 1 ≠ T8; omega) _, B6.out.1.2.2.1.else (by show w.heap.size + 1 + 1 ≠ T8; omega) _, B6.out.1.2.2.2.1.else (by show w.heap.size + 1 + 1 + 1 ≠ T8; omega) _, B6.out.1.2.2.2.2.setCell (by show w.heap.size ≤ T8; omega) _⟩, B6.out.2.1.same (fun gg hgg _ => Below.heap_setCell _ _ _ _ (fun e => B6.out.2.2.2.1 (by rw [hgg, e]))), B6.out.2.2.1.set 1 _⟩
          clear B6 j0 j1 jz k0 k1 kz B5 ar0 ar1 ar2 ar3 ar4 ar5 i0 hi hy0 hy1 hy2
          generalize (w6.setCell ⟨T8, 1, none⟩ (.slice a6 p c6)) = w7 at *
          have j0 := B7.out.2.2.cell 0
          have j1 := B7.out.2.2.cell 1
          have l0 := B7.out.1.1.cell 0
          have l1 := B7.out.1.1.cell 1
          have y0 := B7.out.1.2.2.1.cell 0
          have z0 := fzB B7.out.1.2.2.1 0
          have y1 := B7.out.1.2.2.1.cell 1
          have z1 := fzB B7.out.1.2.2.1 1
          have d0 := B7.out.1.2.2.2.1.cell 0
          have f0 := fzB B7.out.1.2.2.2.1 0
          have d1 := B7.out.1.2.2.2.1.cell 1
          have f1 := fzB B7.out.1.2.2.2.1 1
          have d2 := B7.out.1.2.2.2.1.cell 2
          have f2 := fzB B7.out.1.2.2.2.1 2
          have d3 := B7.out.1.2.2.2.1.cell 3
          have f3 := fzB B7.out.1.2.2.2.1 3
          have d4 := B7.out.1.2.2.2.1.cell 4
          have f4 := fzB B7.out.1.2.2.2.1 4
          have d5 := B7.out.1.2.2.2.1.cell 5
          have f5 := fzB B7.out.1.2.2.2.1 5
          by_cases fit : (p : Int) ≤ x
          · have fd : decide ((p : Int) ≤ x) = true := by simpa using fit
            have HP : Hid (Y = x ∧ M = M9 ∧ R = ReqKit.zero ∧ V = true) := ⟨HE.out.1.symm, by rw [← HE.out.2.1]; unfold offL; rw [if_pos rfl, HM9.out, HP9.out.1, if_pos fit], by rw [← HE.out.2.2.1]; unfold offR; rw [if_pos rfl, HM9.out, HP9.out.1, if_pos fit], HE.out.2.2.2.symm⟩
            clear HO HW fit
            go_wp2
            refine bodyPost_ret (v := .tuple #[.agg #[.int .i64 x, .slice a6 p c6], .agg #[.int .i64 0, .int .i64 0, .int .i64 0, .int .i64 0, .int .i64 0, .int .i64 0], .bool true]) (by simp [results, Try.results24, go_sem, y0, y1, d0, d1, d2, d3, d4, d5]) rfl ?_
            rw [HP.out.1, HP.out.2.1, HP.out.2.2.1, HP.out.2.2.2]
            have h9 := B7.out.2.1
            rw [← HP9.out.1] at h9
            obtain ⟨a7, c7, h7, h8, h10⟩ := Cp.shape (t := 27) (m := 6) (f := ReqKit.cells) (fun _ => rfl) h9
            injection h7 with e1 _ e3
            subst e1 e3
            refine ⟨a6, c6, by rw [HP9.out.1]; rfl, h8, ?_, ?_⟩
            · exact (((((((((h10).set (by show w.heap.size + 1 + 1 < _; omega) _).set (by show w.heap.size + 1 + 1 < _; omega) _).set (by show w.heap.size + 1 + 1 + 1 < _; omega) _).set (by show w.heap.size + 1 + 1 + 1 < _; omega) _).set (by show w.heap.size + 1 + 1 + 1 < _; omega) _).set (by show w.heap.size + 1 + 1 + 1 < _; omega) _).set (by show w.heap.size + 1 + 1 + 1 < _; omega) _).set (by show w.heap.size + 1 + 1 + 1 < _; omega) _).low (by omega)
            · exact ((((((((B7.out.1.2.2.2.2).setCell (Nat.le_add_right _ 2) _).setCell (Nat.le_add_right _ 2) _).setCell (Nat.le_add_right _ 3) _).setCell (Nat.le_add_right _ 3) _).setCell (Nat.le_add_right _ 3) _).setCell (Nat.le_add_right _ 3) _).setCell (Nat.le_add_right _ 3) _).setCell (Nat.le_add_right _ 3) _
          · have fd : decide ((p : Int) ≤ x) = false := by simpa using fit
            obtain ⟨g6, hag6, hg6, hg6l, hrw6⟩ := cp_row B7.out.2.1 HP9.out.1 HP9.out.2
            subst hag6
            have HR6 : Hid (Row 27 6 ReqKit.cells w7 g6 0 M9 ∧ wd.heap.size ≤ g6 ∧ g6 < w7.heap.size) := ⟨hrw6, hg6, hg6l⟩
            have HFIT : Hid (¬ (p : Int) ≤ x) := fit
            clear y0 y1 d0 d1 d2 d3 d4 d5 z0 z1 f0 f1 f2 f3 f4 f5 hrw6 hg6 hg6l fit
            go_wp2
            clear l0 l1
            go_loopw [9, 67] (fun t9 i wr => ∃ k q : Nat, k ≤ p ∧ q ≤ k ∧ t9 = .int .i64 (q : Int) ∧ i = .int .i64 (k : Int) ∧ Hid (worstTo M9 k = q) ∧ Hid (Below w7.heap.size w7 wr)) (fun _ i _ => p - (intOf i).toNat)
            case atStart => exact ⟨0, 0, by omega, by omega, rfl, rfl, rfl, Below.refl _ _⟩
            case round =>
              obtain ⟨k, q, hk, hqk, rfl, rfl, HQ, HB⟩ := hrel
              clear j0 j1
              by_cases hlt : k < p
              · have hlt2 : k < M9.length := by rw [HP9.out.1]; exact hlt
                have hq2 : q < M9.length := by rw [← HQ.out]; exact worst_lt M9 (by omega) k (by omega)
                have hr1 : Row 27 6 ReqKit.cells wr g6 0 M9 := HR6.out.1.below HB.out
                obtain ⟨sx, hsx⟩ : ∃ s, M9[k] = s := ⟨_, rfl⟩
                obtain ⟨x0, x1, x2, x3, x4, x5⟩ := sx
                have u9 := fun jj hjj => (hr1).cell k hlt2 jj hjj
                have p0 : wr.cell? ⟨g6, 0 + k * 6, none⟩ = some (.int .i64 x0) := by have h9 := u9 0 (by omega); rw [hsx] at h9; exact h9
                have p1 : wr.cell? ⟨g6, 0 + k * 6 + 1, none⟩ = some (.int .i64 x1) := by have h9 := u9 1 (by omega); rw [hsx] at h9; exact h9
                have p2 : wr.cell? ⟨g6, 0 + k * 6 + 2, none⟩ = some (.int .i64 x2) := by have h9 := u9 2 (by omega); rw [hsx] at h9; exact h9
                have p3 : wr.cell? ⟨g6, 0 + k * 6 + 3, none⟩ = some (.int .i64 x3) := by have h9 := u9 3 (by omega); rw [hsx] at h9; exact h9
                have p4 : wr.cell? ⟨g6, 0 + k * 6 + 4, none⟩ = some (.int .i64 x4) := by have h9 := u9 4 (by omega); rw [hsx] at h9; exact h9
                have p5 : wr.cell? ⟨g6, 0 + k * 6 + 5, none⟩ = some (.int .i64 x5) := by have h9 := u9 5 (by omega); rw [hsx] at h9; exact h9
                clear u9
                simp only [Nat.zero_add] at p0 p1 p2 p3 p4 p5
                obtain ⟨sy, hsy⟩ : ∃ s, M9[q] = s := ⟨_, rfl⟩
                obtain ⟨y0, y1, y2, y3, y4, y5⟩ := sy
                have hli : (k : Int) < (p : Int) := by omega
                have hqi : (q : Int) < (p : Int) := by have := HP9.out.1; omega
                have hqc : (q : Int) < (c6 : Int) := by have := HP9.out.1; omega
                have hkc : (k : Int) < (c6 : Int) := by omega
                obtain ⟨b, hb⟩ : ∃ b, ReqOks.worse ⟨x0, x1, x2, x3, x4, x5⟩ ⟨y0, y1, y2, y3, y4, y5⟩ = b := ⟨_, rfl⟩
                have HX : Hid (worstTo M9 (k + 1) = if b = true then k else q) := by
                  show _ = _
                  have h9 := worst_next M9 k hlt2 (by rw [HQ.out]; exact hq2) _ _ b hsx (by simp only [HQ.out]; exact hsy) hb
                  rw [HQ.out] at h9
                  exact h9
                have HWS := fun W => HW x0 x1 x2 x3 x4 x5 y0 y1 y2 y3 y4 y5 W
                rw [hb] at HWS
                have HY9 : Hid (M9[q] = ⟨y0, y1, y2, y3, y4, y5⟩) := hsy
                have BW : Hid (Below w7.heap.size w7 (wr.alloc (.cells #[.int .i64 x0, .int .i64 x1, .int .i64 x2, .int .i64 x3, .int .i64 x4, .int .i64 x5] 27)) ∧ Row 27 6 ReqKit.cells (wr.alloc (.cells #[.int .i64 x0, .int .i64 x1, .int .i64 x2, .int .i64 x3, .int .i64 x4, .int .i64 x5] 27)) g6 0 M9 ∧ boxB (wr.alloc (.cells #[.int .i64 x0, .int .i64 x1, .int .i64 x2, .int .i64 x3, .int .i64 x4, .int .i64 x5] 27)) wr.heap.size #[.int .i64 x0, .int .i64 x1, .int .i64 x2, .int .i64 x3, .int .i64 x4, .int .i64 x5] 27 ∧ boxB (wr.alloc (.cells #[.int .i64 x0, .int .i64 x1, .int .i64 x2, .int .i64 x3, .int .i64 x4, .int .i64 x5] 27)) T8 #[.int .i64 x, .slice (some ⟨g6, 0, none⟩) p c6] 25) := ⟨HB.out.alloc HB.out.size _, hr1.below (n1 _ _), boxB.new _ _ _, B7.out.2.2.below (HB.out.alloc HB.out.size _)⟩
                have kj1 := (B7.out.2.2.below HB.out).cell 1
                clear hr1 hsx hsy hb
                go_upto_region 12 with fail
                clear p0 p1 p2 p3 p4 p5 kj1
                generalize (wr.alloc (.cells #[.int .i64 x0, .int .i64 x1, .int .i64 x2, .int .i64 x3, .int .i64 x4, .int .i64 x5] 27)) = W6 at *
                have kk1 := BW.out.2.2.2.cell 1
                have XK := Near.cell kk1
                have q0 := BW.out.2.2.1.cell 0
                have X0 := Near.cell q0
                have z0 : W6.cell? ⟨g6, q * 6, none⟩ = some (.int .i64 y0) := by have h9 := BW.out.2.1.cell q hq2 0 (by omega); rw [HY9.out, Nat.zero_add] at h9; exact h9
                have Y0 := Near.cell z0
                have q1 := BW.out.2.2.1.cell 1
                have X1 := Near.cell q1
                have z1 : W6.cell? ⟨g6, q * 6 + 1, none⟩ = some (.int .i64 y1) := by have h9 := BW.out.2.1.cell q hq2 1 (by omega); rw [HY9.out, Nat.zero_add] at h9; exact h9
                have Y1 := Near.cell z1
                have q2 := BW.out.2.2.1.cell 2
                have X2 := Near.cell q2
                have z2 : W6.cell? ⟨g6, q * 6 + 2, none⟩ = some (.int .i64 y2) := by have h9 := BW.out.2.1.cell q hq2 2 (by omega); rw [HY9.out, Nat.zero_add] at h9; exact h9
                have Y2 := Near.cell z2
                have q3 := BW.out.2.2.1.cell 3
                have X3 := Near.cell q3
                have z3 : W6.cell? ⟨g6, q * 6 + 3, none⟩ = some (.int .i64 y3) := by have h9 := BW.out.2.1.cell q hq2 3 (by omega); rw [HY9.out, Nat.zero_add] at h9; exact h9
                have Y3 := Near.cell z3
                have q4 := BW.out.2.2.1.cell 4
                have X4 := Near.cell q4
                have z4 : W6.cell? ⟨g6, q * 6 + 4, none⟩ = some (.int .i64 y4) := by have h9 := BW.out.2.1.cell q hq2 4 (by omega); rw [HY9.out, Nat.zero_add] at h9; exact h9
                have Y4 := Near.cell z4
                have q5 := BW.out.2.2.1.cell 5
                have X5 := Near.cell q5
                have z5 : W6.cell? ⟨g6, q * 6 + 5, none⟩ = some (.int .i64 y5) := by have h9 := BW.out.2.1.cell q hq2 5 (by omega); rw [HY9.out, Nat.zero_add] at h9; exact h9
                have Y5 := Near.cell z5
                clear q0 q1 q2 q3 q4 q5 z0 z1 z2 z3 z4 z5 kk1
                have near := Near.is W6
                refine wp_region_near (by kernel_rfl) (by kernel_rfl) ?_
                repeat (go_big_quiet_step (first | (go_at_call 37; exact near_call (HWS _))))
                refine wpQuiet_nil ?_
                intro wx hwx
                obtain ⟨y, hy⟩ := hwx
                subst hy
                have BN : Hid (Below w7.heap.size w7 y.w) := BW.out.1.trans (y.near.mono BW.out.1.size)
                obtain ⟨wn, hwn⟩ : ∃ wn, y.w = wn := ⟨_, rfl⟩
                rw [hwn] at BN ⊢
                clear hwn y near X0 X1 X2 X3 X4 X5 Y0 Y1 Y2 Y3 Y4 Y5 XK
                cases b with
                | true =>
                  have HX2 : Hid (worstTo M9 (k + 1) = k) := HX.out
                  go_wp2
                  go_roundw
                  case rel => exact ⟨k + 1, k, by omega, by omega, rfl, by go_num, HX2, BN⟩
                  case measure => simp [intOf]; omega
                | false =>
                  have HX2 : Hid (worstTo M9 (k + 1) = q) := HX.out
                  go_wp2
                  go_roundw
                  case rel => exact ⟨k + 1, q, by omega, by omega, rfl, by go_num, HX2, BN⟩
                  case measure => simp [intOf]; omega
              · obtain rfl : k = p := by omega
                have HWT : Hid (worstTo M9 M9.length = q) := by show _ = _; rw [HP9.out.1]; exact HQ.out
                have hq2 : q < M9.length := by rw [← HWT.out]; exact worst_lt M9 (by have := HP9.out; omega) _ (Nat.le_refl _)
                have b9 := HB.out
                have BF : Hid ((boxB wr w.heap.size #[.int .i64 x, .slice a 0 c] 25 ∧ boxB wr (w.heap.size + 1) #[.int .i64 r0, .int .i64 r1, .int .i64 r2, .int .i64 r3, .int .i64 r4, .int .i64 r5] 27 ∧ boxB wr (w.heap.size + 1 + 1) #[.int .i64 0, .slice none 0 0] 25 ∧ boxB wr (w.heap.size + 1 + 1 + 1) #[.int .i64 0, .int .i64 0, .int .i64 0, .int .i64 0, .int .i64 0, .int .i64 0] 27 ∧ Below w.heap.size w wr) ∧ Row 27 6 ReqKit.cells wr g6 0 M9 ∧ boxB wr T8 #[.int .i64 x, .slice (some ⟨g6, 0, none⟩) k c6] 25) := ⟨⟨B7.out.1.1.below b9, B7.out.1.2.1.below b9, B7.out.1.2.2.1.below b9, B7.out.1.2.2.2.1.below b9, B7.out.1.2.2.2.2.trans (b9.mono B7.out.1.2.2.2.2.size)⟩, HR6.out.1.below HB.out, B7.out.2.2.below HB.out⟩
                have hz9 : w.heap.size + 1 + 1 + 1 < wr.heap.size := BF.out.1.2.2.2.1.lt
                have hg9 : w.heap.size + 1 + 1 + 1 < g6 := by have := HR6.out.2.1; omega
                obtain ⟨se, hse⟩ : ∃ s, M9[q] = s := ⟨_, rfl⟩
                obtain ⟨e0, e1, e2, e3, e4, e5⟩ := se
                have HE9 : Hid (M9[q] = ⟨e0, e1, e2, e3, e4, e5⟩) := hse
                have hqi : (q : Int) < (k : Int) := by have := HP9.out.1; omega
                have hqc : (q : Int) < (c6 : Int) := by have := HP9.out.1; omega
                have HP : Hid (Y = x ∧ M = outOf M9 (q : Int) ∧ R = ⟨e0, e1, e2, e3, e4, e5⟩ ∧ V = true) := ⟨HE.out.1.symm, by rw [← HE.out.2.1]; unfold offL; rw [if_pos rfl, HM9.out, if_neg (by rw [HP9.out.1]; have := HFIT.out; omega), HWT.out], by rw [← HE.out.2.2.1]; unfold offR; rw [if_pos rfl, HM9.out, if_neg (by rw [HP9.out.1]; have := HFIT.out; omega), HWT.out, List.getElem?_eq_getElem hq2, hse]; rfl, HE.out.2.2.2.symm⟩
                have HO9 := fun W h => HO (some ⟨g6, 0, none⟩) c6 M9 (q : Int) W h (by rw [HP9.out.1]; exact hpl) (by rw [HP9.out.1]; exact hc6)
                rw [HP9.out.1] at HO9
                have p0 : wr.cell? ⟨g6, q * 6, none⟩ = some (.int .i64 e0) := by have h9 := BF.out.2.1.cell q hq2 0 (by omega); rw [hse, Nat.zero_add] at h9; exact h9
                have p1 : wr.cell? ⟨g6, q * 6 + 1, none⟩ = some (.int .i64 e1) := by have h9 := BF.out.2.1.cell q hq2 1 (by omega); rw [hse, Nat.zero_add] at h9; exact h9
                have p2 : wr.cell? ⟨g6, q * 6 + 2, none⟩ = some (.int .i64 e2) := by have h9 := BF.out.2.1.cell q hq2 2 (by omega); rw [hse, Nat.zero_add] at h9; exact h9
                have p3 : wr.cell? ⟨g6, q * 6 + 3, none⟩ = some (.int .i64 e3) := by have h9 := BF.out.2.1.cell q hq2 3 (by omega); rw [hse, Nat.zero_add] at h9; exact h9
                have p4 : wr.cell? ⟨g6, q * 6 + 4, none⟩ = some (.int .i64 e4) := by have h9 := BF.out.2.1.cell q hq2 4 (by omega); rw [hse, Nat.zero_add] at h9; exact h9
                have p5 : wr.cell? ⟨g6, q * 6 + 5, none⟩ = some (.int .i64 e5) := by have h9 := BF.out.2.1.cell q hq2 5 (by omega); rw [hse, Nat.zero_add] at h9; exact h9
                have S9 : Hid (wr.cell? ⟨T8, 0, none⟩ = some (.int .i64 x) ∧ wr.cell? ⟨T8, 1, none⟩ = some (.slice (some ⟨g6, 0, none⟩) k c6) ∧ wr.cell? ⟨g6, q * 6, none⟩ = some (.int .i64 e0) ∧ wr.cell? ⟨g6, q * 6 + 1, none⟩ = some (.int .i64 e1) ∧ wr.cell? ⟨g6, q * 6 + 2, none⟩ = some (.int .i64 e2) ∧ wr.cell? ⟨g6, q * 6 + 3, none⟩ = some (.int .i64 e3) ∧ wr.cell? ⟨g6, q * 6 + 4, none⟩ = some (.int .i64 e4) ∧ wr.cell? ⟨g6, q * 6 + 5, none⟩ = some (.int .i64 e5)) := ⟨BF.out.2.2.cell 0, BF.out.2.2.cell 1, p0, p1, p2, p3, p4, p5⟩
                have ED : Hid (∀ W : World, (W.cell? ⟨T8, 0, none⟩ = some (.int .i64 x) ∧ W.cell? ⟨T8, 1, none⟩ = some (.slice (some ⟨g6, 0, none⟩) k c6) ∧ W.cell? ⟨g6, q * 6, none⟩ = some (.int .i64 e0) ∧ W.cell? ⟨g6, q * 6 + 1, none⟩ = some (.int .i64 e1) ∧ W.cell? ⟨g6, q * 6 + 2, none⟩ = some (.int .i64 e2) ∧ W.cell? ⟨g6, q * 6 + 3, none⟩ = some (.int .i64 e3) ∧ W.cell? ⟨g6, q * 6 + 4, none⟩ = some (.int .i64 e4) ∧ W.cell? ⟨g6, q * 6 + 5, none⟩ = some (.int .i64 e5)) → (W.drew.cell? ⟨T8, 0, none⟩ = some (.int .i64 x) ∧ W.drew.cell? ⟨T8, 1, none⟩ = some (.slice (some ⟨g6, 0, none⟩) k c6) ∧ W.drew.cell? ⟨g6, q * 6, none⟩ = some (.int .i64 e0) ∧ W.drew.cell? ⟨g6, q * 6 + 1, none⟩ = some (.int .i64 e1) ∧ W.drew.cell? ⟨g6, q * 6 + 2, none⟩ = some (.int .i64 e2) ∧ W.drew.cell? ⟨g6, q * 6 + 3, none⟩ = some (.int .i64 e3) ∧ W.drew.cell? ⟨g6, q * 6 + 4, none⟩ = some (.int .i64 e4) ∧ W.drew.cell? ⟨g6, q * 6 + 5, none⟩ = some (.int .i64 e5))) := fun W h => h
                have S0 : Hid (wr.drew.cell? ⟨T8, 0, none⟩ = some (.int .i64 x) ∧ wr.drew.cell? ⟨T8, 1, none⟩ = some (.slice (some ⟨g6, 0, none⟩) k c6) ∧ wr.drew.cell? ⟨g6, q * 6, none⟩ = some (.int .i64 e0) ∧ wr.drew.cell? ⟨g6, q * 6 + 1, none⟩ = some (.int .i64 e1) ∧ wr.drew.cell? ⟨g6, q * 6 + 2, none⟩ = some (.int .i64 e2) ∧ wr.drew.cell? ⟨g6, q * 6 + 3, none⟩ = some (.int .i64 e3) ∧ wr.drew.cell? ⟨g6, q * 6 + 4, none⟩ = some (.int .i64 e4) ∧ wr.drew.cell? ⟨g6, q * 6 + 5, none⟩ = some (.int .i64 e5)) := S9.out
                have EQ : Hid (∀ (W : World) (j : Nat) (u : Value), (W.cell? ⟨T8, 0, none⟩ = some (.int .i64 x) ∧ W.cell? ⟨T8, 1, none⟩ = some (.slice (some ⟨g6, 0, none⟩) k c6) ∧ W.cell? ⟨g6, q * 6, none⟩ = some (.int .i64 e0) ∧ W.cell? ⟨g6, q * 6 + 1, none⟩ = some (.int .i64 e1) ∧ W.cell? ⟨g6, q * 6 + 2, none⟩ = some (.int .i64 e2) ∧ W.cell? ⟨g6, q * 6 + 3, none⟩ = some (.int .i64 e3) ∧ W.cell? ⟨g6, q * 6 + 4, none⟩ = some (.int .i64 e4) ∧ W.cell? ⟨g6, q * 6 + 5, none⟩ = some (.int .i64 e5)) → ((W.setCell ⟨w.heap.size + 1 + 1, j, none⟩ u).cell? ⟨T8, 0, none⟩ = some (.int .i64 x) ∧ (W.setCell ⟨w.heap.size + 1 + 1, j, none⟩ u).cell? ⟨T8, 1, none⟩ = some (.slice (some ⟨g6, 0, none⟩) k c6) ∧ (W.setCell ⟨w.heap.size + 1 + 1, j, none⟩ u).cell? ⟨g6, q * 6, none⟩ = some (.int .i64 e0) ∧ (W.setCell ⟨w.heap.size + 1 + 1, j, none⟩ u).cell? ⟨g6, q * 6 + 1, none⟩ = some (.int .i64 e1) ∧ (W.setCell ⟨w.heap.size + 1 + 1, j, none⟩ u).cell? ⟨g6, q * 6 + 2, none⟩ = some (.int .i64 e2) ∧ (W.setCell ⟨w.heap.size + 1 + 1, j, none⟩ u).cell? ⟨g6, q * 6 + 3, none⟩ = some (.int .i64 e3) ∧ (W.setCell ⟨w.heap.size + 1 + 1, j, none⟩ u).cell? ⟨g6, q * 6 + 4, none⟩ = some (.int .i64 e4) ∧ (W.setCell ⟨w.heap.size + 1 + 1, j, none⟩ u).cell? ⟨g6, q * 6 + 5, none⟩ = some (.int .i64 e5))) := fun W j u h => eight_ne (by show T8 ≠ w.heap.size + 1 + 1; have := HT8.out.1; omega) (by show g6 ≠ w.heap.size + 1 + 1; omega) h
                have ER : Hid (∀ (W : World) (j : Nat) (u : Value), (W.cell? ⟨T8, 0, none⟩ = some (.int .i64 x) ∧ W.cell? ⟨T8, 1, none⟩ = some (.slice (some ⟨g6, 0, none⟩) k c6) ∧ W.cell? ⟨g6, q * 6, none⟩ = some (.int .i64 e0) ∧ W.cell? ⟨g6, q * 6 + 1, none⟩ = some (.int .i64 e1) ∧ W.cell? ⟨g6, q * 6 + 2, none⟩ = some (.int .i64 e2) ∧ W.cell? ⟨g6, q * 6 + 3, none⟩ = some (.int .i64 e3) ∧ W.cell? ⟨g6, q * 6 + 4, none⟩ = some (.int .i64 e4) ∧ W.cell? ⟨g6, q * 6 + 5, none⟩ = some (.int .i64 e5)) → ((W.setCell ⟨w.heap.size + 1 + 1 + 1, j, none⟩ u).cell? ⟨T8, 0, none⟩ = some (.int .i64 x) ∧ (W.setCell ⟨w.heap.size + 1 + 1 + 1, j, none⟩ u).cell? ⟨T8, 1, none⟩ = some (.slice (some ⟨g6, 0, none⟩) k c6) ∧ (W.setCell ⟨w.heap.size + 1 + 1 + 1, j, none⟩ u).cell? ⟨g6, q * 6, none⟩ = some (.int .i64 e0) ∧ (W.setCell ⟨w.heap.size + 1 + 1 + 1, j, none⟩ u).cell? ⟨g6, q * 6 + 1, none⟩ = some (.int .i64 e1) ∧ (W.setCell ⟨w.heap.size + 1 + 1 + 1, j, none⟩ u).cell? ⟨g6, q * 6 + 2, none⟩ = some (.int .i64 e2) ∧ (W.setCell ⟨w.heap.size + 1 + 1 + 1, j, none⟩ u).cell? ⟨g6, q * 6 + 3, none⟩ = some (.int .i64 e3) ∧ (W.setCell ⟨w.heap.size + 1 + 1 + 1, j, none⟩ u).cell? ⟨g6, q * 6 + 4, none⟩ = some (.int .i64 e4) ∧ (W.setCell ⟨w.heap.size + 1 + 1 + 1, j, none⟩ u).cell? ⟨g6, q * 6 + 5, none⟩ = some (.int .i64 e5))) := fun W j u h => eight_ne (by show T8 ≠ w.heap.size + 1 + 1 + 1; have := HT8.out.1; omega) (by show g6 ≠ w.heap.size + 1 + 1 + 1; omega) h
                clear hse p0 p1 p2 p3 p4 p5 b9
                go_wp2_with fail
                go_region_held3 (fun w' => w'.cell? ⟨T8, 0, none⟩ = some (.int .i64 x) ∧ w'.cell? ⟨T8, 1, none⟩ = some (.slice (some ⟨g6, 0, none⟩) k c6) ∧ w'.cell? ⟨g6, q * 6, none⟩ = some (.int .i64 e0) ∧ w'.cell? ⟨g6, q * 6 + 1, none⟩ = some (.int .i64 e1) ∧ w'.cell? ⟨g6, q * 6 + 2, none⟩ = some (.int .i64 e2) ∧ w'.cell? ⟨g6, q * 6 + 3, none⟩ = some (.int .i64 e3) ∧ w'.cell? ⟨g6, q * 6 + 4, none⟩ = some (.int .i64 e4) ∧ w'.cell? ⟨g6, q * 6 + 5, none⟩ = some (.int .i64 e5)) (first | with_reducible exact S0.out | with_reducible exact S3.out | with_reducible exact EQ.out _ _ _ (EQ.out _ _ _ (S3.out)) | with_reducible exact ER.out _ _ _ (ER.out _ _ _ (ER.out _ _ _ (ER.out _ _ _ (ER.out _ _ _ (ER.out _ _ _ (EQ.out _ _ _ (EQ.out _ _ _ (S3.out)))))))) | with_reducible exact S9.out) ((go_at_call 38; refine (HO9 _ (Or.inr ⟨g6, 0, rfl, BF.out.2.1.below (Below.refl _ _).drew⟩)).mono ?_; rintro e w3 ⟨a8, c8, rfl, hc8, hh, b3⟩; have B3 : Hid ((boxB w3 w.heap.size #[.int .i64 x, .slice a 0 c] 25 ∧ boxB w3 (w.heap.size + 1) #[.int .i64 r0, .int .i64 r1, .int .i64 r2, .int .i64 r3, .int .i64 r4, .int .i64 r5] 27 ∧ boxB w3 (w.heap.size + 1 + 1) #[.int .i64 0, .slice none 0 0] 25 ∧ boxB w3 (w.heap.size + 1 + 1 + 1) #[.int .i64 0, .int .i64 0, .int .i64 0, .int .i64 0, .int .i64 0, .int .i64 0] 27 ∧ Below w.heap.size w w3) ∧ Row 27 6 ReqKit.cells w3 g6 0 M9 ∧ boxB w3 T8 #[.int .i64 x, .slice (some ⟨g6, 0, none⟩) k c6] 25) := (by have b4 : Below wr.heap.size wr w3 := (Below.refl _ wr).drew.trans b3; exact ⟨⟨BF.out.1.1.below b4, BF.out.1.2.1.below b4, BF.out.1.2.2.1.below b4, BF.out.1.2.2.2.1.below b4, BF.out.1.2.2.2.2.trans (b4.mono BF.out.1.2.2.2.2.size)⟩, BF.out.2.1.below b4, BF.out.2.2.below b4⟩); have S3 : Hid (w3.cell? ⟨T8, 0, none⟩ = some (.int .i64 x) ∧ w3.cell? ⟨T8, 1, none⟩ = some (.slice (some ⟨g6, 0, none⟩) k c6) ∧ w3.cell? ⟨g6, q * 6, none⟩ = some (.int .i64 e0) ∧ w3.cell? ⟨g6, q * 6 + 1, none⟩ = some (.int .i64 e1) ∧ w3.cell? ⟨g6, q * 6 + 2, none⟩ = some (.int .i64 e2) ∧ w3.cell? ⟨g6, q * 6 + 3, none⟩ = some (.int .i64 e3) ∧ w3.cell? ⟨g6, q * 6 + 4, none⟩ = some (.int .i64 e4) ∧ w3.cell? ⟨g6, q * 6 + 5, none⟩ = some (.int .i64 e5)) := (by exact ⟨B3.out.2.2.cell 0, B3.out.2.2.cell 1, by have h9 := B3.out.2.1.cell q hq2 0 (by omega); rw [HE9.out, Nat.zero_add] at h9; exact h9, by have h9 := B3.out.2.1.cell q hq2 1 (by omega); rw [HE9.out, Nat.zero_add] at h9; exact h9, by have h9 := B3.out.2.1.cell q hq2 2 (by omega); rw [HE9.out, Nat.zero_add] at h9; exact h9, by have h9 := B3.out.2.1.cell q hq2 3 (by omega); rw [HE9.out, Nat.zero_add] at h9; exact h9, by have h9 := B3.out.2.1.cell q hq2 4 (by omega); rw [HE9.out, Nat.zero_add] at h9; exact h9, by have h9 := B3.out.2.1.cell q hq2 5 (by omega); rw [HE9.out, Nat.zero_add] at h9; exact h9⟩); have HH : Hid ((outOf M9 (q : Int)).length ≤ c8 ∧ Holds w3 wr.heap.size [⟨a8, 27, 6, (outOf M9 (q : Int)).map ReqKit.cells⟩]) := ⟨hc8, hh⟩; clear b3 hc8 hh; have y0 := B3.out.1.2.2.1.cell 0; have z0 := fzB B3.out.1.2.2.1 0; have y1 := B3.out.1.2.2.1.cell 1; have z1 := fzB B3.out.1.2.2.1 1; have d0 := B3.out.1.2.2.2.1.cell 0; have f0 := fzB B3.out.1.2.2.2.1 0; have d1 := B3.out.1.2.2.2.1.cell 1; have f1 := fzB B3.out.1.2.2.2.1 1; have d2 := B3.out.1.2.2.2.1.cell 2; have f2 := fzB B3.out.1.2.2.2.1 2; have d3 := B3.out.1.2.2.2.1.cell 3; have f3 := fzB B3.out.1.2.2.2.1 3; have d4 := B3.out.1.2.2.2.1.cell 4; have f4 := fzB B3.out.1.2.2.2.1 4; have d5 := B3.out.1.2.2.2.1.cell 5; have f5 := fzB B3.out.1.2.2.2.1 5))
                go_wp2
                refine bodyPost_ret (v := .tuple #[.agg #[.int .i64 x, .slice a8 (outOf M9 (q : Int)).length c8], .agg #[.int .i64 e0, .int .i64 e1, .int .i64 e2, .int .i64 e3, .int .i64 e4, .int .i64 e5], .bool true]) (by simp [results, Try.results24, go_sem, y0, y1, d0, d1, d2, d3, d4, d5]) rfl ?_
                rw [HP.out.1, HP.out.2.1, HP.out.2.2.1, HP.out.2.2.2]
                refine ⟨a8, c8, rfl, HH.out.1, ?_, ?_⟩
                · exact (((((((((HH.out.2).set (by show w.heap.size + 1 + 1 < _; omega) _).set (by show w.heap.size + 1 + 1 < _; omega) _).set (by show w.heap.size + 1 + 1 + 1 < _; omega) _).set (by show w.heap.size + 1 + 1 + 1 < _; omega) _).set (by show w.heap.size + 1 + 1 + 1 < _; omega) _).set (by show w.heap.size + 1 + 1 + 1 < _; omega) _).set (by show w.heap.size + 1 + 1 + 1 < _; omega) _).set (by show w.heap.size + 1 + 1 + 1 < _; omega) _).low (by omega)
                · exact ((((((((B3.out.1.2.2.2.2).setCell (Nat.le_add_right _ 2) _).setCell (Nat.le_add_right _ 2) _).setCell (Nat.le_add_right _ 3) _).setCell (Nat.le_add_right _ 3) _).setCell (Nat.le_add_right _ 3) _).setCell (Nat.le_add_right _ 3) _).setCell (Nat.le_add_right _ 3) _).setCell (Nat.le_add_right _ 3) _
end Go.Proofs.Ytnejomfaojpicaa.QueOfferS
