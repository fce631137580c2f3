/- Whether no client has more than it may, by the program; nothing that was there turns; no condition but those written in each. -/
import Derived.Test.YtnabnghjejncpaaGreatRows
import Derived.WalkKit
import Derived.WalkSmall
import Derived.BigQuiet
import Derived.Deep.RegionWith
import Derived.Deep.DeepCutAuto
import Derived.Maps.RangeWalk
import Derived.Test.YtnabnghjejncpaaGreatListKit
import Derived.Test.YtnabnghjejncpaaGreatHoldKit
import Derived.Test.YtnabnghjejncpaaGreatGrowKit
import Derived.Test.YtnabnghjejncpaaGreatMapKit
import Derived.Test.YtnabnghjejncpaaGreatIntKit
import Derived.Test.YtnabnghjejncpaaGreatSlotKit
import Derived.Test.YtnabnghjejncpaaGreatSlotOks
import Derived.Test.YtnabnghjejncpaaGreatLedOk
import Derived.Test.YtnabnghjejncpaaGreatQueAll
import Derived.Test.YtnabnghjejncpaaGreatQueTimesI
import Derived.Test.YtnabnghjejncpaaGreatAdmCliP
import Derived.Test.YtnabnghjejncpaaGreatAdmCliI
namespace Go.Proofs.YtnabnghjejncpaaGreat.AdmCapI
open Go.RowKit ListKit HoldKit MapKit AdmCliP Go.Maps
open QueMiscS (timesOf)
set_option maxRecDepth 8000
set_option linter.unusedVariables false
set_option linter.unusedSimpArgs false

theorem next_value {P : Program} (w : World) {ops : Array Oper} {rest : List Oper} {o : Oper} {a : Act} {Q : Exit → Act → World → Prop}
    (hg : o.guard = none) (it : Operand) (hop : o.op = Op.next it false) (k : TypeId) (hk : P.underlying k = some (.int .i64)) (b r n : Nat) (D : DataW Value) (left : Lit → Bool) (cnt : Nat)
    (hit : a.eval it = .pointer (some ⟨r, 0, none⟩)) (h : w.ranges P k RV b r n D left cnt)
    (hDone : cnt = 0 → (∀ kl, left kl = false) → wpList P ops Q rest (a.put o.dst (.tuple #[.bool false])) w)
    (hMore : ∀ (x : Int) (v : Value) (w' : World) (cnt' : Nat), wf x → left (ky x) = true → (∀ zd, D.atKey (ky x) zd = .held v) → Maps.has D (ky x) = true → w'.ranges P k RV b r n D (fun z => left z && !z.sameKey (ky x)) cnt' → cnt' < cnt →
      w.grownBy w' (some r) → w'.heap.size = w.heap.size → (Instr.entry (.pointer (some ⟨r, 0, none⟩))).run P w' = .ok (.tuple #[.int .i64 x, v]) w' → wpList P ops Q rest (a.put o.dst (.tuple #[.bool true, .int .i64 x, v])) w') :
    wpList P ops Q (o :: rest) a w :=
  wpList_next_ranges (α := Int) (β := Value) w hg it hop k (int_keyed hk) RV (Value.int .i64) (fun v => v) (fun key kl hkey => by obtain ⟨x, rfl, _⟩ := Maps.keyOf_int_inv hk hkey; exact ⟨x, rfl⟩) (fun v y _ => ⟨v, rfl⟩)
    b r n D left cnt hit h hDone (fun x c kl y w' cnt' hkey hlk hv hat hrg hlt hgr hsz hen => by
      obtain ⟨x', ex, rfl, hwx⟩ := Maps.keyOf_int_inv hk hkey
      cases ex
      have hy : y = (.held c, []) := by
        have h9 : some (DataW.held c, ([] : List MemPlace)) = some y := hv
        injection h9 with h9
        exact h9.symm
      subst hy
      exact hMore x c w' cnt' hwx hlk hat (has_true_of_atKey hat) hrg hlt hgr hsz hen)
theorem any_mem (l : List Int) (t : Int) : l.any (· == t) = true ↔ t ∈ l := by
  rw [List.any_eq_true]
  constructor
  · rintro ⟨x, hx, e⟩
    have : x = t := by simpa using e
    exact this ▸ hx
  · intro h
    exact ⟨t, h, by simp⟩
theorem clients_wf (S : List SlotKit.Slot) (h : LedOk.ledOk S) : ∀ t ∈ clientsOf S, wf t := by
  intro t ht
  unfold clientsOf at ht
  rw [List.mem_map] at ht
  obtain ⟨s, hs, rfl⟩ := ht
  rw [List.mem_filter] at hs
  obtain ⟨j, hj, e⟩ := List.getElem_of_mem hs.1
  have h1 := (h.2 j hj).1
  rw [e] at h1
  unfold SlotOks.slotOk at h1
  rw [hs.2] at h1
  have h2 : SlotOks.okUsed s = true := h1
  unfold SlotOks.okUsed at h2
  rw [decide_eq_true_iff] at h2
  exact wf_of (by omega) (by omega)
set_option maxHeartbeats 8000000 in
theorem impl_cap (ms : List Value) (cap : Int) (a : Option Addr) (c : Nat) (S : List SlotKit.Slot) (B : Bool) (w : World) (e6 : ms[6]? = some (.int .i64 cap)) (e24 : ms[24]? = some (.slice a S.length c)) (h : Own 75 5 SlotKit.cells w a S) (hl : S.length ≤ 1048577) (hc : S.length ≤ c) (hled : LedOk.ledOk S) (HB : Hid (B = true ↔ ∀ t ∈ clientsOf S, (timesOf (clientsOf S) t : Int) ≤ cap)) :
    Calls Tryz.prog 68 #[.agg ms.toArray] w fun e w' => e = .returned (.bool B) ∧ Below w.heap.size w w' := by
  have E6 : Hid (ms.toArray[6]? = some (.int .i64 cap)) := by show _ = _; simpa using e6
  have hwf := clients_wf S hled
  have hcl := clients_le S
  have H0 : Hid (boxB (w.alloc (.cells ms.toArray 89)) w.heap.size ms.toArray 89 ∧ Own 75 5 SlotKit.cells (w.alloc (.cells ms.toArray 89)) a S ∧ Below w.heap.size w (w.alloc (.cells ms.toArray 89))) := ⟨boxB.new _ _ _, h.below (n1 _ _), n1 _ _⟩
  have m24 : (w.alloc (.cells ms.toArray 89)).cell? ⟨w.heap.size, 24, none⟩ = some (.slice a S.length c) := by rw [H0.out.1.cell 24]; simpa using e24
  have HC := AdmCliI.impl_clients a c S (w.alloc (.cells ms.toArray 89)) H0.out.2.1 hl hc
  obtain ⟨l, hl9⟩ : ∃ l, clientsOf S = l := ⟨_, rfl⟩
  rw [hl9] at HC HB hwf hcl
  have HWF : Hid (∀ t ∈ l, wf t) := hwf
  have HLL : Hid (l.length ≤ 1048577) := by show _ ≤ _; omega
  clear h hl hc hled e6 e24 hl9 hwf hcl
  go_enter Tryz.func68, Tryz.ntmps68
  go_upto_region 1 with fail
  generalize (w.alloc (.cells ms.toArray 89)) = v0 at *
  go_wp2_with (go_big_may; first | (go_at_call 101; refine HC.mono ?_; rintro e w1 ⟨a2, c2, rfl, hc2, hh, hb⟩; have H1 : Hid (boxB w1 w.heap.size ms.toArray 89 ∧ Below w.heap.size w w1 ∧ Own 3 1 IntKit.cells w1 a2 l ∧ l.length ≤ c2) := ⟨H0.out.1.below hb, H0.out.2.2.trans (hb.mono H0.out.2.2.size), Holds.get hh (List.mem_singleton.2 rfl), hc2⟩; clear hb hh hc2 HC m24) | (go_at_call 100; refine (QueTimesI.times_map a2 c2 l w1 H1.out.2.2.1 HLL.out H1.out.2.2.2 (fun k h => HWF.out _ (List.getElem_mem h))).mono ?_; rintro e w2 ⟨rfl, him, hb⟩; obtain ⟨D, hown, hD⟩ := him; have H2 : Hid (boxB w2 w.heap.size ms.toArray 89 ∧ Below w.heap.size w w2) := ⟨H1.out.1.below hb, H1.out.2.1.trans (hb.mono H1.out.2.1.size)⟩; have HD : Hid (∀ t, wf t → D.atKey (ky t) (.held (.int .i64 0)) = .held (.int .i64 (timesOf l t : Nat)) ∧ Maps.has D (ky t) = l.any (· == t)) := hD; clear hb hD) | (at_range; refine wpList_range_own _ rfl _ 148 rfl 3 3 (int_keyed Tryz.underlying3) Tryz.underlying148 RV _ _ D rfl hown ?_; intro w3 hrg0 hg0 hs0))
  go_frame
  have HBR : Hid (w.heap.size < w1.heap.size ∧ w1.heap.size < w2.heap.size) := ⟨H1.out.1.lt, hown.lt⟩
  have B0 : Hid (w3.ranges Tryz.prog 3 RV w1.heap.size w2.heap.size l.length D (Maps.has D) (Maps.size D) ∧ boxB w3 w.heap.size ms.toArray 89 ∧ Below w.heap.size w w3) := ⟨hrg0, GrowKit.box_grown H2.out.1 hg0 (fun e => by cases e), H2.out.2.grown hg0 H2.out.2.size (fun k hk => by cases hk)⟩
  clear hrg0 hg0 hs0 hown H2 H1 H0
  generalize w1.heap.size = b at *
  generalize w2.heap.size = r at *
  generalize hm : l.length = m at *
  go_loopw [4] (fun _ wr => ∃ (left : Lit → Bool) (cnt : Nat), Hid (wr.ranges Tryz.prog 3 RV b r m D left cnt ∧ boxB wr w.heap.size ms.toArray 89 ∧ Below w.heap.size w wr) ∧ Hid (∀ t, wf t → t ∈ l → left (ky t) = false → (timesOf l t : Int) ≤ cap)) (fun _ wr => wr.rangeLeft b r)
  case atStart =>
    refine ⟨_, _, B0, fun t ht hmt hl => ?_⟩
    rw [(HD.out t ht).2, (any_mem l t).2 hmt] at hl
    cases hl
  case round =>
    obtain ⟨left, cnt, HW, HK⟩ := hrel
    clear B0
    have hrg := HW.out.1
    go_wp2_with (at_next; refine next_value _ rfl _ rfl 3 Tryz.underlying3 b r m D left cnt rfl hrg ?_ ?_)
    · intro hc0 hl0
      obtain rfl : B = true := HB.out.2 fun t ht => HK.out t (HWF.out t ht) ht (hl0 _)
      clear hc0 hl0 hrg
      go_wp2
      go_ret
      exact ⟨rfl, HW.out.2.2⟩
    · intro x v w4 cnt1 hwx hlx hat hhx hrg1 hlt hg1 hs1 hen
      have hv : v = .int .i64 (timesOf l x : Nat) := by
        have h9 := (HD.out x hwx).1
        rw [hat] at h9
        injection h9
      subst hv
      have hmx : x ∈ l := by
        rw [← any_mem, ← (HD.out x hwx).2]
        exact hhx
      have B1 : Hid (w4.ranges Tryz.prog 3 RV b r m D (fun z => left z && !z.sameKey (ky x)) cnt1 ∧ boxB w4 w.heap.size ms.toArray 89 ∧ Below w.heap.size w w4) := ⟨hrg1, GrowKit.box_grown HW.out.2.1 hg1 (fun e => by have h9 := HBR.out; injection e with e; omega), HW.out.2.2.grown hg1 HW.out.2.2.size (fun q hq => by have h9 := HBR.out; injection hq with hq; omega)⟩
      have HME : Hid (wr.rangeLeft b r = cnt ∧ cnt1 < cnt) := ⟨hrg.left_eq, hlt⟩
      have HX : Hid (wf x ∧ x ∈ l) := ⟨hwx, hmx⟩
      have m6 : w4.cell? ⟨w.heap.size, 6, none⟩ = some (.int .i64 cap) := by rw [B1.out.2.1.cell 6]; exact E6.out
      obtain ⟨u, hu⟩ : ∃ u : Int, (timesOf l x : Int) = u := ⟨_, rfl⟩
      have HU : Hid ((timesOf l x : Int) = u) := hu
      rw [hu] at hen ⊢
      clear hrg1 hlx hat hhx hrg hlt hg1 hs1 hwx hmx hu
      by_cases hgt : cap < u
      · obtain rfl : B = false := by
          cases B with
          | false => rfl
          | true =>
            have h9 := HB.out.1 rfl x HX.out.2
            rw [HU.out] at h9
            omega
        go_wp2
        go_ret
        exact ⟨rfl, B1.out.2.2⟩
      · have HK2 : Hid (∀ t, wf t → t ∈ l → (fun z : Lit => left z && !z.sameKey (ky x)) (ky t) = false → (timesOf l t : Int) ≤ cap) := fun t ht hmt hl => by
          by_cases e : t = x
          · subst e
            rw [HU.out]
            omega
          · refine HK.out t ht hmt ?_
            have h9 : (left (ky t) && !(ky t).sameKey (ky x)) = false := hl
            rw [key_same t x ht HX.out.1, decide_eq_false e] at h9
            simpa using h9
        clear HK
        go_wp2
        go_roundw
        case rel => exact ⟨_, cnt1, B1, HK2⟩
        case measure =>
          have e1 := B1.out.1.left_eq
          have e2 := HME.out
          omega
end Go.Proofs.YtnabnghjejncpaaGreat.AdmCapI
