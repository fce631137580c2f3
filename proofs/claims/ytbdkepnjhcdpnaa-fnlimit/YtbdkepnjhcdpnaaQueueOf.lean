/- What the program's copy of samples into a queue of its own is, and its loops. -/
import Derived.Test.YtbdkepnjhcdpnaaRows
import Derived.Test.YtbdkepnjhcdpnaaPairWalks
import Derived.Test.YtbdkepnjhcdpnaaWinOk
import Derived.Test.YtbdkepnjhcdpnaaTrimWalks
import Derived.Test.YtbdkepnjhcdpnaaQueue
import Derived.WalkKit
import Derived.WalkSmall
import Derived.BigQuiet
import Derived.Deep.RegionWith
import Derived.Laws.AppendOwn
namespace Go.Proofs.Ytbdkepnjhcdpnaa.QueueOf
open Go.RowKit PairWalks WinOk TrimWalks Queue
set_option maxRecDepth 8000

theorem clone (a : Option Addr) (c : Nat) (L : List (Int × Int)) (w : World) (h : WOk w a L) (hl : L.length ≤ 1048577) :
    Calls Try.prog 31 #[.slice a L.length c] w fun e w' => ∃ a2 c2, e = .returned (.slice a2 L.length c2) ∧ QV w' w.heap.size a2 c2 L ∧ Below w.heap.size w w' := by
  obtain ⟨i0, hi, hz0, hz1, hz2⟩ := info_parts info31s
  cases a with
  | none =>
    obtain rfl := wok_none h
    have he : ∀ w : World, (binOp .eql 25 (.slice none 0 c) (.slice none 0 0)).run Try.prog w = .ok (.bool true) w := fun _ => rfl
    clear h
    go_enter Try.func31, Try.ntmps31
    go_wp2
    go_ret
    exact ⟨none, 0, rfl, ⟨Nat.le_refl _, by unfold maxLen; omega, Or.inl ⟨rfl, rfl⟩⟩, Below.refl _ _⟩
  | some ad =>
    have hb := (Below.refl w.heap.size w).alloc (Nat.le_refl _) (.cells #[] 64)
    have hc := wok_cells (h.below hb)
    have hown := World.ownsRow_made (e := 64) (size := 2) w #[] 0 (Nat.le_refl _) (by unfold maxLen; omega) rfl
    have he : ∀ w : World, (binOp .eql 25 (.slice (some ad) L.length c) (.slice none 0 0)).run Try.prog w = .ok (.bool false) w := fun _ => rfl
    have HB : Hid (Below w.heap.size w (w.alloc (.cells #[] 64))) := hb
    clear h hb
    go_enter Try.func31, Try.ntmps31
    go_wp2_with (at_builtin; refine wpList_append_own _ rfl (.tmp 5) (.tmp 6) 25 rfl w.heap.size 64 i0 (.agg #[.int .i64 0, .int .i64 0]) 2 16 Try.underlying25 hi hz0 hz1 hz2 rfl (by decide) _ _ _ rfl hown ad L.length c (flat L) rfl (flat_len L) hc ?c2 ?c3 ?c4 ?c5 ?_)
    case c2 =>
      intro u hu
      simp [flat] at hu
      obtain ⟨_, _, _, rfl | rfl⟩ := hu <;> rfl
    case c3 => unfold maxLen; omega
    case c4 => omega
    case c5 => simp
    · intro v' w2 hown1 hgrow _
      obtain ⟨a2, c2, rfl⟩ : ∃ a2 c2, v' = .slice a2 L.length c2 := by
        rcases hown1.2 with ⟨h1, h0⟩ | ⟨g2, cap2, _, h0, _⟩
        · exact ⟨none, 0, by rw [h1, h0]⟩
        · exact ⟨_, _, h0⟩
      have HH : Hid (QV w2 w.heap.size a2 c2 L ∧ Below w.heap.size w w2) := ⟨QV.ofOwn hown1, HB.out.grown hgrow (by simp) (fun k hk => by have := (hown.lt k hk).1; omega)⟩
      clear hown1 hgrow hown hc
      go_wp2
      go_ret
      exact ⟨a2, c2, rfl, HH.out.1, HH.out.2⟩

theorem queue_of (a : Option Addr) (c : Nat) (L : List (Int × Int)) (w : World) (h : WOk w a L) (hl : L.length ≤ 1048577) :
    Calls Try.prog 85 #[.slice a L.length c] w fun e w' => ∃ p, e = .returned (.pointer (some ⟨p, 0, none⟩)) ∧ QAt w' w.heap.size p L ∧ Below w.heap.size w w' := by
  go_enter Try.func85, Try.ntmps85
  go_wp2_with (go_at_call 31; refine (clone a c L _ h hl).mono ?_; rintro e w1 ⟨a2, c2, rfl, hv, hb⟩)
  go_ret
  have hs := hb.size
  exact ⟨w1.heap.size, rfl, ⟨hs, a2, c2, heap_alloc_new w1 _, hv.same fun g hg => Below.heap_alloc _ _ _ (hv.lt g hg).2.1⟩, hb.alloc hs _⟩


/-- How many samples the queue at p holds. -/
def qlen (w : World) (p : Nat) : Nat := match w.cell? ⟨p, 0, none⟩ with
  | some (.slice _ n _) => n
  | _ => 0

theorem qlen_of {w : World} {base p : Nat} {D : List (Int × Int)} (h : QAt w base p D) : qlen w p = D.length := by
  obtain ⟨_, a, c, hp, _⟩ := h
  simp [qlen, World.cell?, hp]

theorem old_test (nb wb : Nat) (now span x y : Int) (w : World) (cn : w.cell? ⟨nb, 0, none⟩ = some (.int .i64 now)) (cw : w.cell? ⟨wb, 0, none⟩ = some (.int .i64 span)) (h : 0 ≤ now ∧ now ≤ 1000000000) (hs : 1 ≤ span ∧ span ≤ 100000) :
    Calls Try.prog 87 #[.agg #[.int .i64 x, .int .i64 y], .pointer (some ⟨nb, 0, none⟩), .pointer (some ⟨wb, 0, none⟩)] w fun e w' => e = .returned (.bool (decide (x ≤ now - span))) ∧ Below w.heap.size w w' := by
  have q0 := cell_past (o := .cells #[.int .i64 x, .int .i64 y] 64) cn
  have q1 := cell_past (o := .cells #[.int .i64 x, .int .i64 y] 64) cw
  have e1 : IntKind.i64.wrap (now - span) = now - span := by rw [IntKind.wrap_i64]; omega
  clear cn cw
  go_enter Try.func87, Try.ntmps87
  go_wp2
  go_ret
  exact ⟨rfl, (Below.refl _ _).alloc (Nat.le_refl _) _⟩

theorem store_two {w : World} {b : Nat} {x y x2 y2 : Value} {t : TypeId} (h : w.heap[b]? = some (.cells #[x, y] t (0, 0))) : ((w.setCell ⟨b, 0, none⟩ x2).setCell ⟨b, 1, none⟩ y2).heap[b]? = some (.cells #[x2, y2] t (0, 0)) := by
  have := heap_setCell_at (heap_setCell_at h 0 x2) 1 y2
  simpa using this

theorem QAt.store {w : World} {base p b : Nat} {D : List (Int × Int)} {x y x2 y2 : Value} (h : QAt w base p D) (hb : w.heap[b]? = some (.cells #[x, y] 64 (0, 0))) (hnew : ∀ g, (∃ a c, w.heap[p]? = some (.cells #[.slice a D.length c] 101 (0, 0)) ∧ blk a = some g) → g ≠ b) :
    QAt ((w.setCell ⟨b, 0, none⟩ x2).setCell ⟨b, 1, none⟩ y2) base p D := by
  obtain ⟨h0, a, c, hp, hv⟩ := h
  have hpb : p ≠ b := fun e => by
    rw [e] at hp
    have := hp.symm.trans hb
    simp at this
  refine ⟨h0, a, c, ?_, hv.same fun g hg => ?_⟩
  · rw [Below.heap_setCell _ _ _ _ hpb, Below.heap_setCell _ _ _ _ hpb]
    exact hp
  · have hgb := hnew g ⟨a, c, hp, hg⟩
    rw [Below.heap_setCell _ _ _ _ hgb, Below.heap_setCell _ _ _ _ hgb]

/-- A queue in an elder world, read in one in which a box was laid behind it. -/
theorem QAt.past {w w3 : World} {base p : Nat} {D : List (Int × Int)} {x y x2 y2 : Value} (h : QAt w base p D) (hb : Below (w.alloc (.cells #[x, y] 64)).heap.size (w.alloc (.cells #[x, y] 64)) w3) :
    w3.heap[w.heap.size]? = some (.cells #[x, y] 64 (0, 0)) ∧ QAt ((w3.setCell ⟨w.heap.size, 0, none⟩ x2).setCell ⟨w.heap.size, 1, none⟩ y2) base p D := by
  have hbx : w3.heap[w.heap.size]? = some (.cells #[x, y] 64 (0, 0)) := by
    rw [hb.block _ (by simp)]
    exact heap_alloc_new w _
  have hw : Below w.heap.size w w3 := ((Below.refl _ _).alloc (Nat.le_refl _) _).trans (hb.mono (by simp))
  refine ⟨hbx, QAt.store (h.below hw) hbx fun g ⟨a, c, hp, hg⟩ => ?_⟩
  obtain ⟨_, a1, c1, hp1, hv1⟩ := h
  have e1 := (hw.block p (Array.getElem?_eq_some_iff.1 hp1).1).symm.trans hp
  rw [hp1] at e1
  simp at e1
  have := (hv1.lt g (by rw [e1.1]; exact hg)).2.1
  omega

/-- A box beside the queue stays as it was where the queue alone turns. -/
theorem QAt.box {w w2 w3 : World} {base p b : Nat} {D : List (Int × Int)} {x y : Value} (h : QAt w base p D) (hx : w.heap[b]? = some (.cells #[x, y] 64 (0, 0))) (hb : Below w.heap.size w w2) (hg : w2.grownBy w3 (some p)) : w3.heap[b]? = some (.cells #[x, y] 64 (0, 0)) := by
  obtain ⟨_, a, c, hp, _⟩ := h
  have hlt := (Array.getElem?_eq_some_iff.1 hx).1
  have hs := hb.size
  rw [hg.block b (by omega) (fun e => ?_), hb.block b hlt]
  · exact hx
  · injection e with e
    rw [e] at hx
    have := hp.symm.trans hx
    simp at this

set_option maxHeartbeats 1000000 in
theorem drop_first_while (base p nb wb : Nat) (now span : Int) (D : List (Int × Int)) (w : World) (h : QAt w base p D) (hbase : base ≤ w.heap.size) (hn : nb < base) (hw : wb < base)
    (cn : w.cell? ⟨nb, 0, none⟩ = some (.int .i64 now)) (cw : w.cell? ⟨wb, 0, none⟩ = some (.int .i64 span)) (ht : 0 ≤ now ∧ now ≤ 1000000000) (hs : 1 ≤ span ∧ span ≤ 100000) :
    Calls Try.prog 86 #[.pointer (some ⟨p, 0, none⟩), .func (.func 87) #[] #[.pointer (some ⟨nb, 0, none⟩), .pointer (some ⟨wb, 0, none⟩)]] w fun e w' => e = .returned (.tuple #[]) ∧ QAt w' base p (D.dropWhile fun q => decide (q.1 ≤ now - span)) ∧ Below base w w' := by
  have HQ : Hid (QAt w base p D) := h
  have HC : Hid (∀ W, Below base w W → W.cell? ⟨nb, 0, none⟩ = some (.int .i64 now) ∧ W.cell? ⟨wb, 0, none⟩ = some (.int .i64 span)) := fun W hW => ⟨(hW.cell (p := ⟨nb, 0, none⟩) hn).trans cn, (hW.cell (p := ⟨wb, 0, none⟩) hw).trans cw⟩
  clear h cn cw
  go_enter Try.func86, Try.ntmps86
  go_wp2_with (go_at_call 84; refine (first_any base p D _ HQ.out).mono ?_; rintro e w1 ⟨x, y, B, rfl, hh, hb⟩)
  go_loopw [4, 5] (fun it ok wr => ∃ (E : List (Int × Int)) (b : Nat) (x y : Int) (B : Bool), it = .pointer (some ⟨b, 0, none⟩) ∧ ok = .bool B ∧ base ≤ b ∧ Hid (wr.heap[b]? = some (.cells #[.int .i64 x, .int .i64 y] 64 (0, 0))) ∧ Hid (HeadIs E x y B) ∧ Hid (QAt wr base p E) ∧ Hid (Below base w wr) ∧ Hid (D.dropWhile (fun q => decide (q.1 ≤ now - span)) = E.dropWhile (fun q => decide (q.1 ≤ now - span)))) (fun _ _ wr => qlen wr p)
  case atStart => exact ⟨D, w1.heap.size, x, y, B, rfl, rfl, by have := hb.size; omega, heap_alloc_new w1 _, hh, (HQ.out.below hb).below ((Below.refl _ _).alloc (Nat.le_refl _) _), (hb.mono hbase).alloc (by have := hb.size; omega) _, rfl⟩
  case round =>
    clear hh hb HQ
    obtain ⟨E, b, x, y, B, rfl, rfl, hbb, HX, HH, HQ, HB, HD⟩ := hrel
    have hsz : base ≤ wr.heap.size := by have := HB.out.size; omega
    rcases HH.out with ⟨hE, rfl⟩ | ⟨E', hE, rfl⟩
    · go_wp2
      exact bodyPost_end (v := .tuple #[]) (by simp [results, Try.results86]) rfl ⟨rfl, by rw [HD.out, hE]; rw [hE] at HQ; exact HQ.out, HB.out⟩
    · have q0 := cell_blk HX.out 0
      have q1 := cell_blk HX.out 1
      simp only [List.getElem?_toArray, List.getElem?_cons_zero, List.getElem?_cons_succ] at q0 q1
      obtain ⟨k0, k1⟩ := HC.out wr HB.out
      have HOLD := old_test nb wb now span x y wr k0 k1 ht hs
      rw [hE] at HQ
      have HE : Hid (E = (x, y) :: E') := hE
      clear hE HH k0 k1
      by_cases hold : x ≤ now - span
      · have ho : decide (x ≤ now - span) = true := by simpa using hold
        rw [ho] at HOLD
        go_wp2_with (first | (go_at_call 87; refine HOLD.mono ?_; rintro e w2 ⟨rfl, hb2⟩) | (go_at_call 79; refine (drop_first base p x y E' _ (HQ.out.below hb2)).mono ?_; rintro e w3 ⟨rfl, hq3, hg3⟩; have bx := QAt.box HQ.out HX.out hb2 hg3; have r0 := cell_blk bx 0; have r1 := cell_blk bx 1; have hq4 : QAt (w3.alloc (.cells #[.int .i64 x, .int .i64 y] 64)) base p E' := hq3.below ((Below.refl _ _).alloc (Nat.le_refl _) _)) | (go_at_call 84; refine (first_any base p E' _ hq4).mono ?_; rintro e w4 ⟨x2, y2, B2, rfl, hh2, hb4⟩; obtain ⟨bx4, hq5⟩ := QAt.past (x2 := .int .i64 x2) (y2 := .int .i64 y2) hq3 hb4; have s0 := cell_blk bx4 0; have s1 := cell_blk bx4 1; have f0 := fz_blk bx4 0; have f1 := fz_blk bx4 1))
        have bx6 : Hid (((w4.setCell ⟨w3.heap.size, 0, none⟩ (.int .i64 x2)).setCell ⟨w3.heap.size, 1, none⟩ (.int .i64 y2)).heap[w3.heap.size]? = some (.cells #[.int .i64 x2, .int .i64 y2] 64 (0, 0))) := store_two bx4
        have hs3 : base ≤ w3.heap.size := by have := hg3.size; have := hb2.size; omega
        have hB3 : Below base w w3 := (HB.out.trans (hb2.mono hsz)).grown hg3 (by have := hb2.size; omega) (fun k hk => by injection hk with hk; rw [← hk]; exact hq3.lt.1)
        have hB4 : Below base w w4 := (hB3.alloc hs3 _).trans (hb4.mono (by simp; omega))
        have HQ5 : Hid (QAt ((w4.setCell ⟨w3.heap.size, 0, none⟩ (.int .i64 x2)).setCell ⟨w3.heap.size, 1, none⟩ (.int .i64 y2)) base p E') := hq5
        have HH2 : Hid (HeadIs E' x2 y2 B2) := hh2
        have HB6 : Hid (Below base w ((w4.setCell ⟨w3.heap.size, 0, none⟩ (.int .i64 x2)).setCell ⟨w3.heap.size, 1, none⟩ (.int .i64 y2))) := (hB4.setCell hs3 _).setCell hs3 _
        have HD2 : Hid (D.dropWhile (fun q => decide (q.1 ≤ now - span)) = E'.dropWhile (fun q => decide (q.1 ≤ now - span))) := by
          show _ = _
          rw [HD.out, HE.out, List.dropWhile_cons_of_pos (by simpa using hold)]
        go_roundw
        case rel => exact ⟨E', w3.heap.size, x2, y2, B2, rfl, rfl, hs3, bx6, HH2, HQ5, HB6, HD2⟩
        case measure => rw [qlen_of HQ5.out, qlen_of HQ.out]; simp
      · have ho : decide (x ≤ now - span) = false := by simpa using hold
        rw [ho] at HOLD
        go_wp2_with (go_at_call 87; refine HOLD.mono ?_; rintro e w2 ⟨rfl, hb2⟩)
        refine bodyPost_end (v := .tuple #[]) (by simp [results, Try.results86]) rfl ⟨rfl, ?_, HB.out.trans (hb2.mono hsz)⟩
        rw [HD.out, HE.out, List.dropWhile_cons_of_neg (by simpa using hold)]
        exact HQ.out.below hb2
/-- A list without those at its end whose latency is no less. -/
def dropBack (lat : Int) (D : List (Int × Int)) : List (Int × Int) := (D.reverse.dropWhile fun q => decide (lat ≤ q.2)).reverse

theorem dropBack_pos {lat x y : Int} {D : List (Int × Int)} (h : lat ≤ y) : dropBack lat (D ++ [(x, y)]) = dropBack lat D := by
  unfold dropBack
  rw [List.reverse_append, List.reverse_cons, List.reverse_nil, List.nil_append, List.singleton_append, List.dropWhile_cons_of_pos (by simpa using h)]

theorem dropBack_neg {lat x y : Int} {D : List (Int × Int)} (h : y < lat) : dropBack lat (D ++ [(x, y)]) = D ++ [(x, y)] := by
  unfold dropBack
  rw [List.reverse_append, List.reverse_cons, List.reverse_nil, List.nil_append, List.singleton_append, List.dropWhile_cons_of_neg (by simp; omega)]
  simp

theorem high_test (nb : Nat) (lat x y : Int) (w : World) (cn : w.cell? ⟨nb, 0, none⟩ = some (.int .i64 lat)) :
    Calls Try.prog 76 #[.agg #[.int .i64 x, .int .i64 y], .pointer (some ⟨nb, 0, none⟩)] w fun e w' => e = .returned (.bool (decide (lat ≤ y))) ∧ Below w.heap.size w w' := by
  have q0 := cell_past (o := .cells #[.int .i64 x, .int .i64 y] 64) cn
  clear cn
  go_enter Try.func76, Try.ntmps76
  go_wp2
  go_ret
  exact ⟨rfl, (Below.refl _ _).alloc (Nat.le_refl _) _⟩

set_option maxHeartbeats 1000000 in
theorem drop_last_while (base p nb : Nat) (lat : Int) (D : List (Int × Int)) (w : World) (h : QAt w base p D) (hbase : base ≤ w.heap.size) (hn : nb < base)
    (cn : w.cell? ⟨nb, 0, none⟩ = some (.int .i64 lat)) :
    Calls Try.prog 75 #[.pointer (some ⟨p, 0, none⟩), .func (.func 76) #[] #[.pointer (some ⟨nb, 0, none⟩)]] w fun e w' => e = .returned (.tuple #[]) ∧ QAt w' base p (dropBack lat D) ∧ Below base w w' := by
  have HQ : Hid (QAt w base p D) := h
  have HC : Hid (∀ W, Below base w W → W.cell? ⟨nb, 0, none⟩ = some (.int .i64 lat)) := fun W hW => (hW.cell (p := ⟨nb, 0, none⟩) hn).trans cn
  clear h cn
  go_enter Try.func75, Try.ntmps75
  go_wp2_with (go_at_call 77; refine (last_any base p D _ HQ.out).mono ?_; rintro e w1 ⟨x, y, B, rfl, hh, hb⟩)
  go_loopw [4, 5] (fun it ok wr => ∃ (E : List (Int × Int)) (b : Nat) (x y : Int) (B : Bool), it = .pointer (some ⟨b, 0, none⟩) ∧ ok = .bool B ∧ base ≤ b ∧ Hid (wr.heap[b]? = some (.cells #[.int .i64 x, .int .i64 y] 64 (0, 0))) ∧ Hid (LastIs E x y B) ∧ Hid (QAt wr base p E) ∧ Hid (Below base w wr) ∧ Hid (dropBack lat D = dropBack lat E)) (fun _ _ wr => qlen wr p)
  case atStart => exact ⟨D, w1.heap.size, x, y, B, rfl, rfl, by have := hb.size; omega, heap_alloc_new w1 _, hh, (HQ.out.below hb).below ((Below.refl _ _).alloc (Nat.le_refl _) _), (hb.mono hbase).alloc (by have := hb.size; omega) _, rfl⟩
  case round =>
    clear hh hb HQ
    obtain ⟨E, b, x, y, B, rfl, rfl, hbb, HX, HH, HQ, HB, HD⟩ := hrel
    have hsz : base ≤ wr.heap.size := by have := HB.out.size; omega
    rcases HH.out with ⟨hE, rfl⟩ | ⟨E', hE, rfl⟩
    · go_wp2
      exact bodyPost_end (v := .tuple #[]) (by simp [results, Try.results75]) rfl ⟨rfl, by rw [HD.out, hE]; rw [hE] at HQ; exact HQ.out, HB.out⟩
    · have q0 := cell_blk HX.out 0
      have q1 := cell_blk HX.out 1
      simp only [List.getElem?_toArray, List.getElem?_cons_zero, List.getElem?_cons_succ] at q0 q1
      have k0 := HC.out wr HB.out
      have HOLD := high_test nb lat x y wr k0
      rw [hE] at HQ
      have HE : Hid (E = E' ++ [(x, y)]) := hE
      clear hE HH k0
      by_cases hold : lat ≤ y
      · have ho : decide (lat ≤ y) = true := by simpa using hold
        rw [ho] at HOLD
        go_wp2_with (first | (go_at_call 76; refine HOLD.mono ?_; rintro e w2 ⟨rfl, hb2⟩) | (go_at_call 88; refine (drop_last base p x y E' _ (HQ.out.below hb2)).mono ?_; rintro e w3 ⟨rfl, hq3, hg3⟩; have bx := QAt.box HQ.out HX.out hb2 hg3; have r0 := cell_blk bx 0; have r1 := cell_blk bx 1; have hq4 : QAt (w3.alloc (.cells #[.int .i64 x, .int .i64 y] 64)) base p E' := hq3.below ((Below.refl _ _).alloc (Nat.le_refl _) _)) | (go_at_call 77; refine (last_any base p E' _ hq4).mono ?_; rintro e w4 ⟨x2, y2, B2, rfl, hh2, hb4⟩; obtain ⟨bx4, hq5⟩ := QAt.past (x2 := .int .i64 x2) (y2 := .int .i64 y2) hq3 hb4; have s0 := cell_blk bx4 0; have s1 := cell_blk bx4 1; have f0 := fz_blk bx4 0; have f1 := fz_blk bx4 1))
        have bx6 : Hid (((w4.setCell ⟨w3.heap.size, 0, none⟩ (.int .i64 x2)).setCell ⟨w3.heap.size, 1, none⟩ (.int .i64 y2)).heap[w3.heap.size]? = some (.cells #[.int .i64 x2, .int .i64 y2] 64 (0, 0))) := store_two bx4
        have hs3 : base ≤ w3.heap.size := by have := hg3.size; have := hb2.size; omega
        have hB3 : Below base w w3 := (HB.out.trans (hb2.mono hsz)).grown hg3 (by have := hb2.size; omega) (fun k hk => by injection hk with hk; rw [← hk]; exact hq3.lt.1)
        have hB4 : Below base w w4 := (hB3.alloc hs3 _).trans (hb4.mono (by simp; omega))
        have HQ5 : Hid (QAt ((w4.setCell ⟨w3.heap.size, 0, none⟩ (.int .i64 x2)).setCell ⟨w3.heap.size, 1, none⟩ (.int .i64 y2)) base p E') := hq5
        have HH2 : Hid (LastIs E' x2 y2 B2) := hh2
        have HB6 : Hid (Below base w ((w4.setCell ⟨w3.heap.size, 0, none⟩ (.int .i64 x2)).setCell ⟨w3.heap.size, 1, none⟩ (.int .i64 y2))) := (hB4.setCell hs3 _).setCell hs3 _
        have HD2 : Hid (dropBack lat D = dropBack lat E') := by
          show _ = _
          rw [HD.out, HE.out, dropBack_pos hold]
        go_roundw
        case rel => exact ⟨E', w3.heap.size, x2, y2, B2, rfl, rfl, hs3, bx6, HH2, HQ5, HB6, HD2⟩
        case measure => rw [qlen_of HQ5.out, qlen_of HQ.out]; simp
      · have ho : decide (lat ≤ y) = false := by simpa using hold
        rw [ho] at HOLD
        go_wp2_with (go_at_call 76; refine HOLD.mono ?_; rintro e w2 ⟨rfl, hb2⟩)
        refine bodyPost_end (v := .tuple #[]) (by simp [results, Try.results75]) rfl ⟨rfl, ?_, HB.out.trans (hb2.mono hsz)⟩
        rw [HD.out, HE.out, dropBack_neg hold]
        exact HQ.out.below hb2

theorem boxes21 {w w1 : World} {x0 x1 y0 : Value} {s t : TypeId} (hb : Below ((w.alloc (.cells #[x0, x1] s)).alloc (.cells #[y0] t)).heap.size ((w.alloc (.cells #[x0, x1] s)).alloc (.cells #[y0] t)) w1) :
    w1.cell? ⟨w.heap.size, 0, none⟩ = some x0 ∧ w1.cell? ⟨w.heap.size + 1, 0, none⟩ = some y0 ∧ w.heap.size + 2 ≤ w1.heap.size ∧ ((w.alloc (.cells #[x0, x1] s)).alloc (.cells #[y0] t)).heap.size = w.heap.size + 2 := by
  have hs := hb.size
  simp at hs
  have e0 : w1.heap[w.heap.size]? = some (.cells #[x0, x1] s (0, 0)) := by
    rw [hb.block _ (by simp; omega), Below.heap_alloc _ _ _ (by simp)]
    exact heap_alloc_new w _
  have e1 : w1.heap[w.heap.size + 1]? = some (.cells #[y0] t (0, 0)) := by
    rw [hb.block _ (by simp)]
    have := heap_alloc_new (w.alloc (.cells #[x0, x1] s)) (.cells #[y0] t)
    simpa using this
  refine ⟨by simp [World.cell?, e0], by simp [World.cell?, e1], by omega, by simp⟩

set_option maxHeartbeats 1000000 in
theorem young_of (span now : Int) (a : Option Addr) (c : Nat) (L : List (Int × Int)) (w : World) (h : WOk w a L) (hl : L.length ≤ 1048577) (ht : 0 ≤ now ∧ now ≤ 1000000000) (hs : 1 ≤ span ∧ span ≤ 100000) :
    Calls Try.prog 74 #[.agg #[.int .i64 span, .slice a L.length c], .int .i64 now] w fun e w' => ∃ p, e = .returned (.pointer (some ⟨p, 0, none⟩)) ∧ QAt w' w.heap.size p (L.dropWhile fun q => decide (q.1 ≤ now - span)) ∧ Below w.heap.size w w' := by
  have hb0 : Below w.heap.size w ((w.alloc (.cells #[.int .i64 span, .slice a L.length c] 27)).alloc (.cells #[.int .i64 now] 3)) := ((Below.refl _ _).alloc (Nat.le_refl _) _).alloc (by simp) _
  have HA : Hid (WOk ((w.alloc (.cells #[.int .i64 span, .slice a L.length c] 27)).alloc (.cells #[.int .i64 now] 3)) a L) := h.below hb0
  have HB0 : Hid (Below w.heap.size w ((w.alloc (.cells #[.int .i64 span, .slice a L.length c] 27)).alloc (.cells #[.int .i64 now] 3))) := hb0
  clear h hb0
  go_enter Try.func74, Try.ntmps74
  go_wp2_with (first | (go_at_call 85; refine (queue_of a c L _ HA.out hl).mono ?_; rintro e w1 ⟨p, rfl, hq, hb⟩; obtain ⟨cw, cn, hz, ez⟩ := boxes21 hb; rw [ez] at hq; have HDW := drop_first_while (w.heap.size + 2) p (w.heap.size + 1) w.heap.size now span L w1 hq hz (by omega) (by omega) cn cw ht hs) | (go_at_call 86; refine HDW.mono ?_; rintro e w2 ⟨rfl, hq2, hb2⟩))
  go_ret
  exact ⟨p, rfl, hq2.mono (by omega), (HB0.out.trans (hb.mono (by rw [ez]; omega))).trans (hb2.mono (by omega))⟩
end Go.Proofs.Ytbdkepnjhcdpnaa.QueueOf
