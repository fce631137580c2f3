/- At every list of bytes: the least of a window is the least of all samples that are young enough (the law FnWindow returns true), and the list is left as it was; no condition. -/
import Derived.Test.YtnjjpfdhadmndaaRows
import Derived.WalkKit
import Derived.WalkSmall
import Derived.BigQuiet
import Derived.ProofKit
import Derived.OpenShut
import Derived.ChangeSlices
import Derived.Deep.RegionWith
import Derived.Test.YtnjjpfdhadmndaaPairWalks
import Derived.Test.YtnjjpfdhadmndaaWinOk
import Derived.Test.YtnjjpfdhadmndaaTrimWalks
import Derived.Test.YtnjjpfdhadmndaaPushWalks
import Derived.Test.YtnjjpfdhadmndaaImplOk
import Derived.Test.YtnjjpfdhadmndaaImplTrim
import Derived.Test.YtnjjpfdhadmndaaImplPush
import Derived.Test.YtnjjpfdhadmndaaNewWalks
import Derived.Test.YtnjjpfdhadmndaaDrawWalks
import Derived.Test.YtnjjpfdhadmndaaCodeArg
import Derived.Test.YtnjjpfdhadmndaaWinMath
import Derived.Test.YtnjjpfdhadmndaaSampleWalks
namespace Go.Proofs.Ytnjjpfdhadmndaa.fnWindow
open Go.ChangeShapes Go.WideShapes Go.ChangeAt Go.RowKit WinOk TrimWalks ImplOk ImplTrim ImplPush NewWalks CodeArg SampleWalks
open PairWalks (WOk blk PRow cell_blk fz_blk)
open PushWalks (Answers pushed pushSpan pushOk pushed_good field_items)
open DrawWalks (CodeOk)
open WinMath (Drawable Inv bestOf pick bestOf_snoc least_hd)
set_option linter.unusedVariables false

/-- A list of samples lies in blocks of its own kind. -/
theorem wok_ne {w : World} {a : Option Addr} {L : List (Int × Int)} {N : Nat} {cs : Array Value} (h : WOk w a L) (hN : w.heap[N]? = some (.cells cs 26 (0, 0))) {w' : World} (hk : ∀ g, g ≠ N → g < w.heap.size → w'.heap[g]? = w.heap[g]?) : WOk w' a L := by
  rcases h with h | ⟨g, o, ha, hr⟩
  · exact Or.inl h
  · refine Or.inr ⟨g, o, ha, hr.same (hk g (fun e => ?_) hr.lt)⟩
    obtain ⟨cur, hg, _⟩ := hr
    rw [e] at hg
    have := hN.symm.trans hg
    simp at this

theorem store_two {w : World} {b : Nat} {x y x2 y2 : Value} {t : TypeId} (h : w.heap[b]? = some (.cells #[x, y] t (0, 0))) : ((w.setCell ⟨b, 0, none⟩ x2).setCell ⟨b, 1, none⟩ y2).heap[b]? = some (.cells #[x2, y2] t (0, 0)) := by
  have := PairWalks.heap_setCell_at (PairWalks.heap_setCell_at h 0 x2) 1 y2
  simpa using this

theorem store_else {w : World} {b : Nat} {x2 y2 : Value} : ∀ g, g ≠ b → g < w.heap.size → ((w.setCell ⟨b, 0, none⟩ x2).setCell ⟨b, 1, none⟩ y2).heap[g]? = w.heap[g]? := fun g hg _ => by
  rw [Below.heap_setCell _ _ _ _ hg, Below.heap_setCell _ _ _ _ hg]

theorem take_next {L : List (Int × Int)} {k : Nat} (h : k < L.length) : L.take (k + 1) = L.take k ++ [L[k]] := List.take_succ_eq_append_getElem h

set_option maxHeartbeats 4000000 in
set_option maxRecDepth 8000 in
theorem walk_in (a : Option Addr) (len cap : Nat) (w : World) (hlen : (len : Int) ≤ 1048576) (hok : CodeOk w w.heap.size a len) :
    Calls Try.prog 3 #[.slice a len cap] w fun e w' => e = .returned (.bool true) ∧ Below w.heap.size w w' := by
  have HO : Hid (CodeOk w w.heap.size a len) := hok
  clear hok
  go_enter Try.func3, Try.ntmps3
  go_wp2_with fail
  refine (make_list len a cap _ hlen HO.out).mono ?_
  rintro e w1 ⟨al, cl, L, rfl, rl, good, b1⟩
  have H1 : Hid (WOk w1 al L ∧ Below w.heap.size w w1) := ⟨rl, b1⟩
  have HG : Hid (Drawable L) := good
  clear rl b1 good
  go_wp2_with fail
  refine (make_small len 60 a cap _ hlen (by omega) (by omega) (code_below HO.out H1.out.2)).mono ?_
  rintro e w2 ⟨y1, rfl, y1a, y1b, b2⟩
  have H2 : Hid (WOk w2 al L ∧ Below w.heap.size w w2) := ⟨H1.out.1.below b2, H1.out.2.trans (b2.mono H1.out.2.size)⟩
  clear b2 H1
  obtain ⟨span, hspan⟩ : ∃ span, 1 + y1 = span := ⟨_, rfl⟩
  have sp0 : 1 ≤ span := by omega
  have sp1 : span ≤ 60 := by omega
  have ew : IntKind.i64.wrap (1 + y1) = span := by rw [IntKind.wrap_i64]; omega
  have ew2 : wrap64 (1 + y1) = span := by unfold wrap64; omega
  clear hspan
  go_wp2_with fail
  refine (impl_new span span true _ (Or.inl ⟨rfl, rfl, sp0, by omega⟩)).mono ?_
  rintro e w3 ⟨rfl, b3⟩
  have H3 : Hid (WOk w3 al L ∧ Below w.heap.size w w3) := ⟨H2.out.1.below b3, H2.out.2.trans (b3.mono H2.out.2.size)⟩
  clear b3 H2 ew ew2
  have hL13 : (L.length : Int) ≤ 13 := by have := HG.out.1; omega
  go_wp2_with fail
  go_loopw [6, 26] (fun nw ix wr => ∃ (k : Nat) (t : Int) (P : List (Int × Int)) (ap : Option Addr) (cp : Nat), k ≤ L.length ∧ nw = .int .i64 t ∧ ix = .int .i64 k ∧ 0 ≤ t ∧ t ≤ 260 ∧ Hid (wr.heap[w3.heap.size]? = some (.cells #[.int .i64 span, .slice ap P.length cp] 26 (0, 0))) ∧ Hid (WOk wr ap P) ∧ Hid (WOk wr al L) ∧ Hid (Below w.heap.size w wr) ∧ Hid (Inv span t k (L.take k) P) ∧ Hid (∀ (j : Nat) (h : j < L.length), k ≤ j → t ≤ L[j].1)) (fun _ ix _ => L.length - (intOf ix).toNat)
  case atStart => exact ⟨0, 0, [], none, 0, by omega, rfl, rfl, by omega, by omega, heap_alloc_new w3 _, Or.inl rfl, H3.out.1.below ((Below.refl _ _).alloc (Nat.le_refl _) _), H3.out.2.alloc H3.out.2.size _, Inv.start sp0 (by omega), fun j h _ => (HG.out.2.1 _ (List.getElem_mem h)).1⟩
  case round =>
    obtain ⟨k, t, P, ap, cp, hk, rfl, rfl, ta, tb, HN, HP, HA, HB, HI, HT⟩ := hrel
    have hNlt : w3.heap.size < wr.heap.size := (Array.getElem?_eq_some_iff.1 HN.out).1
    have hwN : w.heap.size ≤ w3.heap.size := H3.out.2.size
    by_cases hlt : k < L.length
    · rcases HA.out with hnil | ⟨g, o, rfl, hr⟩
      · rw [hnil] at hlt; simp at hlt
      · have q0 := hr.c0 k hlt
        have q1 := hr.c1 k hlt
        have hgood := HG.out.2.1 _ (List.getElem_mem hlt)
        have htx := HT.out k hlt (Nat.le_refl _)
        have HTK : Hid (L.take (k + 1) = L.take k ++ [(L[k].1, L[k].2)]) := take_next hlt
        have HT2 : Hid (∀ (j : Nat) (h : j < L.length), k + 1 ≤ j → L[k].1 ≤ L[j].1) := fun j h hj => by
          have := HG.out.2.2
          rw [List.pairwise_iff_getElem] at this
          exact this k j hlt h (by omega)
        obtain ⟨x, hx⟩ : ∃ x, L[k].1 = x := ⟨_, rfl⟩
        obtain ⟨y, hy⟩ : ∃ y, L[k].2 = y := ⟨_, rfl⟩
        rw [hx] at q0 htx HTK HT2 hgood
        rw [hy] at q1 HTK hgood
        obtain ⟨xa, xb, ya, yb⟩ := hgood
        have hli : (k : Int) < (L.length : Int) := by omega
        have HI2 : Hid (Inv span x (k + 1) (L.take k ++ [(x, y)]) (pushed span x y P)) := HI.out.push (by have := HG.out.1; omega) htx xb ⟨ya, yb⟩
        have hpok : pushOk span x y P := ⟨HI.out.ok, ⟨by omega, by omega⟩, by omega, by omega⟩
        have hps := (pushed_good hpok).2
        have hPl : (P.length : Int) ≤ 1048577 := by have := HI.out.len; have := HG.out.1; omega
        have BX : Below wr.heap.size wr (wr.alloc (.cells #[.int .i64 x, .int .i64 y] 31)) := (Below.refl _ _).alloc (Nat.le_refl _) _
        have bN := (BX.block _ hNlt).trans HN.out
        have n0 := cell_blk bN 0
        have n1 := cell_blk bN 1
        simp only [List.getElem?_toArray, List.getElem?_cons_zero, List.getElem?_cons_succ] at n0 n1
        have HM := impl_push span x y ap cp P _ (HP.out.below BX) hPl
        rw [hps] at HM
        have H4 : Hid ((wr.alloc (.cells #[.int .i64 x, .int .i64 y] 31)).heap[w3.heap.size]? = some (.cells #[.int .i64 span, .slice ap P.length cp] 26 (0, 0)) ∧ WOk (wr.alloc (.cells #[.int .i64 x, .int .i64 y] 31)) (some ⟨g, o, none⟩) L ∧ Below w.heap.size w (wr.alloc (.cells #[.int .i64 x, .int .i64 y] 31))) := ⟨bN, HA.out.below BX, HB.out.alloc HB.out.size _⟩
        obtain ⟨P2, hP2⟩ : ∃ P2, pushed span x y P = P2 := ⟨_, rfl⟩
        rw [hP2] at HM HI2
        clear hx hy hr hpok hps bN BX hPl hP2 htx
        go_wp2_with fail
        refine HM.mono ?_
        rintro e w5 ⟨a2, c2, rfl, r5, _, b5⟩
        have bN5 : w5.heap[w3.heap.size]? = some (.cells #[.int .i64 span, .slice ap P.length cp] 26 (0, 0)) := (b5.block _ (by simp; omega)).trans H4.out.1
        have bX5 : w5.heap[wr.heap.size]? = some (.cells #[.int .i64 x, .int .i64 y] 31 (0, 0)) := (b5.block _ (by simp)).trans (heap_alloc_new wr _)
        have hs5 : wr.heap.size < w5.heap.size := (Array.getElem?_eq_some_iff.1 bX5).1
        have HB5 : Below w.heap.size w w5 := H4.out.2.2.trans (b5.mono H4.out.2.2.size)
        have H5 : Hid (((w5.setCell ⟨w3.heap.size, 0, none⟩ (.int .i64 span)).setCell ⟨w3.heap.size, 1, none⟩ (.slice a2 P2.length c2)).heap[w3.heap.size]? = some (.cells #[.int .i64 span, .slice a2 P2.length c2] 26 (0, 0)) ∧ WOk ((w5.setCell ⟨w3.heap.size, 0, none⟩ (.int .i64 span)).setCell ⟨w3.heap.size, 1, none⟩ (.slice a2 P2.length c2)) a2 P2 ∧ WOk ((w5.setCell ⟨w3.heap.size, 0, none⟩ (.int .i64 span)).setCell ⟨w3.heap.size, 1, none⟩ (.slice a2 P2.length c2)) (some ⟨g, o, none⟩) L ∧ Below w.heap.size w ((w5.setCell ⟨w3.heap.size, 0, none⟩ (.int .i64 span)).setCell ⟨w3.heap.size, 1, none⟩ (.slice a2 P2.length c2))) := ⟨store_two bN5, wok_ne r5 bN5 store_else, wok_ne (H4.out.2.1.below b5) bN5 store_else, (HB5.setCell (by show w.heap.size ≤ w3.heap.size; exact hwN) _).setCell (by show w.heap.size ≤ w3.heap.size; exact hwN) _⟩
        have m0 := cell_blk bN5 0
        have m1 := cell_blk bN5 1
        have f0 := fz_blk bN5 0
        have f1 := fz_blk bN5 1
        have x0 := cell_blk bX5 0
        have x1 := cell_blk bX5 1
        simp only [List.getElem?_toArray, List.getElem?_cons_zero, List.getElem?_cons_succ] at m0 m1 x0 x1
        have ne1 : wr.heap.size ≠ w3.heap.size := by omega
        have ne2 : w3.heap.size ≠ wr.heap.size := by omega
        have HOK : Hid ((true : Bool) = true ↔ winOk span P2) := ⟨fun _ => HI2.out.ok, fun _ => rfl⟩
        have hP2l : (P2.length : Int) ≤ 1048577 := by have := HI2.out.len; have := HG.out.1; omega
        have HOKC := impl_ok span a2 c2 P2 true _ H5.out.2.1 hP2l HOK
        clear b5 r5 bN5 bX5 HB5 hP2l n0 n1 q0 q1
        go_wp2_with (go_at_call 9; refine HOKC.mono ?_; rintro e w6 ⟨rfl, b6⟩; have H6 : Hid (w6.heap[w3.heap.size]? = some (.cells #[.int .i64 span, .slice a2 P2.length c2] 26 (0, 0)) ∧ WOk w6 a2 P2 ∧ WOk w6 (some ⟨g, o, none⟩) L ∧ Below w.heap.size w w6) := ⟨(b6.block _ (by simp; omega)).trans H5.out.1, H5.out.2.1.below b6, H5.out.2.2.1.below b6, H5.out.2.2.2.trans (b6.mono H5.out.2.2.2.size)⟩; clear b6)
        go_roundw
        case rel => exact ⟨k + 1, x, P2, a2, c2, by omega, rfl, by go_num, xa, xb, H6.out.1, H6.out.2.1, H6.out.2.2.1, H6.out.2.2.2, by rw [HTK.out]; exact HI2.out, HT2⟩
        case measure => simp [intOf]; omega
    · obtain rfl : k = L.length := by omega
      have HIL : Hid (Inv span t L.length L P) := by
        have := HI.out
        rw [List.take_length] at this
        exact this
      clear HI HT hlt hk
      go_wp2_with fail
      refine (make_small len 30 a cap _ hlen (by omega) (by omega) (code_below HO.out HB.out)).mono ?_
      rintro e w7 ⟨y2, rfl, y2a, y2b, b7⟩
      have bN7 : w7.heap[w3.heap.size]? = some (.cells #[.int .i64 span, .slice ap P.length cp] 26 (0, 0)) := (b7.block _ hNlt).trans HN.out
      have H7 : Hid (w7.heap[w3.heap.size]? = some (.cells #[.int .i64 span, .slice ap P.length cp] 26 (0, 0)) ∧ WOk w7 ap P ∧ WOk w7 al L ∧ Below w.heap.size w w7) := ⟨bN7, HP.out.below b7, HA.out.below b7, HB.out.trans (b7.mono HB.out.size)⟩
      clear b7 bN7 HN HP HA HB hNlt
      have hN7 : w3.heap.size < w7.heap.size := (Array.getElem?_eq_some_iff.1 H7.out.1).1
      obtain ⟨now, hnow⟩ : ∃ now, t + y2 = now := ⟨_, rfl⟩
      have na : 0 ≤ now := by omega
      have nb : now ≤ 290 := by omega
      have HNT : Hid (t ≤ now) := by show _ ≤ _; omega
      have en : IntKind.i64.wrap (t + y2) = now := by rw [IntKind.wrap_i64]; omega
      obtain ⟨T, hT⟩ : ∃ T, now - span = T := ⟨_, rfl⟩
      have eT : IntKind.i64.wrap (now - span) = T := by rw [IntKind.wrap_i64]; omega
      have HTT : Hid (now - span = T) := hT
      have Ta : -100 ≤ T := by omega
      have Tb : T ≤ 300 := by omega
      clear hnow hT
      go_wp2_with fail
      clear en
      go_loopw [9, 48] (fun bs ix wr2 => ∃ (k : Nat) (b : Int), k ≤ L.length ∧ bs = .int .i64 b ∧ ix = .int .i64 k ∧ -1 ≤ b ∧ b ≤ 50 ∧ Hid (b = bestOf T (L.take k)) ∧ Hid (Below w7.heap.size w7 wr2)) (fun _ ix _ => L.length - (intOf ix).toNat)
      case atStart => exact ⟨0, -1, by omega, rfl, rfl, by omega, by omega, rfl, Below.refl _ _⟩
      case round =>
        obtain ⟨k, b, hk, rfl, rfl, ba, bb, HBE, HW⟩ := hrel
        by_cases hlt : k < L.length
        · rcases (H7.out.2.2.1.below HW.out) with hnil | ⟨g, o, rfl, hr⟩
          · rw [hnil] at hlt; simp at hlt
          · have q0 := hr.c0 k hlt
            have q1 := hr.c1 k hlt
            have hgood := HG.out.2.1 _ (List.getElem_mem hlt)
            have HTK : Hid (L.take (k + 1) = L.take k ++ [(L[k].1, L[k].2)]) := take_next hlt
            obtain ⟨x, hx⟩ : ∃ x, L[k].1 = x := ⟨_, rfl⟩
            obtain ⟨y, hy⟩ : ∃ y, L[k].2 = y := ⟨_, rfl⟩
            rw [hx] at q0 HTK hgood
            rw [hy] at q1 HTK hgood
            obtain ⟨xa, xb, ya, yb⟩ := hgood
            have hli : (k : Int) < (L.length : Int) := by omega
            have hs2 := HW.out.size
            have bN : (wr.alloc (.cells #[.int .i64 x, .int .i64 y] 31)).heap[w3.heap.size]? = some (.cells #[.int .i64 span, .slice ap P.length cp] 26 (0, 0)) := (Below.heap_alloc _ _ _ (by omega)).trans ((HW.out.block _ hN7).trans H7.out.1)
            have n0 := cell_blk bN 0
            simp only [List.getElem?_toArray, List.getElem?_cons_zero] at n0
            have HW2 : Hid (Below w7.heap.size w7 (wr.alloc (.cells #[.int .i64 x, .int .i64 y] 31))) := HW.out.alloc hs2 _
            have HPK : Hid (bestOf T (L.take (k + 1)) = pick T b (x, y)) := by
              show _ = _
              rw [HTK.out, bestOf_snoc, HBE.out]
            clear hx hy hr bN
            by_cases h1 : T < x
            · by_cases h2 : b < 0
              · have E : Hid (pick T b (x, y) = y) := if_pos ⟨h1, Or.inl h2⟩
                go_wp2
                go_roundw
                case rel => exact ⟨k + 1, y, by omega, rfl, by go_num, by omega, by omega, by show _ = _; rw [HPK.out, E.out], HW2⟩
                case measure => simp [intOf]; omega
              · by_cases h3 : y < b
                · have E : Hid (pick T b (x, y) = y) := if_pos ⟨h1, Or.inr h3⟩
                  go_wp2
                  go_roundw
                  case rel => exact ⟨k + 1, y, by omega, rfl, by go_num, by omega, by omega, by show _ = _; rw [HPK.out, E.out], HW2⟩
                  case measure => simp [intOf]; omega
                · have E : Hid (pick T b (x, y) = b) := if_neg (fun hh => by have := hh.2; simp only at this; omega)
                  have d3 : decide (y < b) = false := by simp; omega
                  go_wp2
                  go_roundw
                  case rel => exact ⟨k + 1, b, by omega, rfl, by go_num, by omega, by omega, by show _ = _; rw [HPK.out, E.out], HW2⟩
                  case measure => simp [intOf]; omega
            · have E : Hid (pick T b (x, y) = b) := if_neg (fun hh => h1 hh.1)
              have d1 : decide (T < x) = false := by simp; omega
              go_wp2
              go_roundw
              case rel => exact ⟨k + 1, b, by omega, rfl, by go_num, by omega, by omega, by show _ = _; rw [HPK.out, E.out], HW2⟩
              case measure => simp [intOf]; omega
        · obtain rfl : k = L.length := by omega
          have hbest : leastOf span P now = b := by
            rw [HBE.out, List.take_length, ← HTT.out]
            exact least_hd HIL.out HNT.out (by omega)
          have hPl : (P.length : Int) ≤ 1048577 := by have := HIL.out.len; have := HG.out.1; omega
          have HLS := fun W h => impl_least span now ap cp P W h hPl
          have HTR := fun W h => impl_trim span now ap cp P W h hPl
          rw [hbest] at HLS
          have htl : ((TrimWalks.trimmed span P now).length : Int) ≤ (P.length : Int) := by
            have h5 : (TrimWalks.trimmed span P now).length ≤ P.length := by
              rw [(trimmed_good ⟨HIL.out.ok, na, by omega⟩).1]
              exact List.length_filter_le _ _
            omega
          obtain ⟨TL, hTL⟩ : ∃ TL, TrimWalks.trimmed span P now = TL := ⟨_, rfl⟩
          obtain ⟨ts, hts⟩ : ∃ ts, trimSpan span P now = ts := ⟨_, rfl⟩
          rw [hTL] at HTR htl
          rw [hts] at HTR
          have H8 : Hid (wr.drew.heap[w3.heap.size]? = some (.cells #[.int .i64 span, .slice ap P.length cp] 26 (0, 0)) ∧ WOk wr.drew ap P ∧ Below w.heap.size w wr.drew) := ⟨(HW.out.block _ hN7).trans H7.out.1, H7.out.2.1.below HW.out.drew, (H7.out.2.2.2.trans (HW.out.mono H7.out.2.2.2.size)).drew⟩
          have n0 := cell_blk H8.out.1 0
          have n1 := cell_blk H8.out.1 1
          simp only [List.getElem?_toArray, List.getElem?_cons_zero, List.getElem?_cons_succ] at n0 n1
          have fi := field_items
          clear hbest hTL hts hPl HBE
          have hbb : (b == b) = true := by simp
          have htd : decide ((TL.length : Int) ≤ (P.length : Int)) = true := by simpa using htl
          go_wp2
          go_region_with (first | (go_at_call 10; refine (HLS _ H8.out.2.1).mono ?_; rintro e w9 ⟨rfl, b9⟩; have bN9 := (b9.block w3.heap.size (by show w3.heap.size < wr.heap.size; have := HW.out.size; omega)).trans H8.out.1; have H9 : Hid (w9.heap[w3.heap.size]? = some (.cells #[.int .i64 span, .slice ap P.length cp] 26 (0, 0)) ∧ WOk w9 ap P ∧ Below w.heap.size w w9) := ⟨bN9, H8.out.2.1.below b9, H8.out.2.2.trans (b9.mono H8.out.2.2.size)⟩; have m0 := cell_blk bN9 0; have m1 := cell_blk bN9 1; have hs9 : w3.heap.size < w9.heap.size := (Array.getElem?_eq_some_iff.1 bN9).1; clear b9 bN9) | (go_at_call 11; refine (HTR _ H9.out.2.1).mono ?_; rintro e w10 ⟨a3, c3, rfl, _, _, b10⟩; have bN10 := (b10.block w3.heap.size hs9).trans H9.out.1; have k0 := cell_blk bN10 0; have k1 := cell_blk bN10 1; have H10 : Hid (Below w.heap.size w w10) := H9.out.2.2.trans (b10.mono H9.out.2.2.size); clear b10 bN10))
          all_goals
            go_wp2
            go_ret
            exact ⟨rfl, H10.out⟩

theorem walk (w : World) (a : Option Addr) (len cap : Nat) (zs : List Int) (hrow : IsRow .u8 w a len cap zs) :
    Calls Try.prog 3 #[.slice a len cap] w fun e w' => e = .returned (.bool true) ∧ Below w.heap.size w w' := by
  have hcap := row_len hrow
  have hok := code_of hrow
  by_cases hbig : 1048576 < (len : Int)
  · clear hrow hok
    go_enter Try.func3, Try.ntmps3
    go_wp2
    go_ret
    exact ⟨rfl, Below.refl _ _⟩
  · exact walk_in a len cap w (by omega) hok

theorem own : ownKnob Try.prog.godebug = none := by kernel_rfl
theorem laidOut : laidOutB Try.prog = true := by kernel_rfl

set_option maxRecDepth 100000 in
theorem lifted (os : Os) (started : os.Started) (H : Type) (enc : TypeId × Value → H) :
    ReturnsInHanded {} Try.checked os 3 .any (Rows.fnWindowSpec.pre6 enc Try.prog Try.f3 Rows.fnWindowRow.domain false) (Rows.fnWindowSpec.post enc Try.prog Try.f3 false true false false) := by
  refine returnsInHanded_of_change (C := Try.checked) own started (by kernel_rfl) Try.func3
    (ChangeSpec.witness6 (enc := enc) (C := Try.checked) false ⟨#[], #[.slice none 0 0], []⟩ 8 (by kernel_rfl) (by kernel_rfl) (by kernel_rfl) (by kernel_rfl)) ?_
  intro W base args ds gs before hval0 hW hcnd _
  have hval : ∀ (j : Nat) t v, Try.f3.params[j]? = some t → args[j]? = some v → Value.okWide Try.prog W .any base t v := hval0
  have hW' := hW
  obtain ⟨p, q, hA0, hV, rfl, hfz, hnd⟩ := hW
  have hA : DataW.TrodAll enc Try.prog W 0 (fun _ => true) true Try.f3.params.toList args.toList ds p := hA0
  rw [Try.params3] at hA hval
  obtain ⟨v0, vs0, d0, ds0, p0, q0, hargs, rfl, rfl, h0, r0⟩ := trodAll_cons hA
  obtain ⟨rfl, rfl, rfl⟩ := trodAll_nil r0
  obtain rfl : args = #[v0] := by cases args; simp_all
  obtain ⟨rfl, rfl⟩ := trodVars_none hV
  obtain ⟨a0, len0, cap0, rfl⟩ := okWide_slice Try.underlying22 (hval 0 22 v0 rfl rfl)
  have k0 := h0
  have lt0 : ∀ x ∈ p0, x.block < W.heap.size := by obtain ⟨m, hm⟩ := k0; exact DataW.trod_lt m _ _ _ hm
  obtain ⟨z0, w0⟩ : ∃ zs, IsRow .u8 W a0 len0 cap0 zs := by
    obtain ⟨fuel, hf⟩ := h0
    rcases open_ints Try.underlying22 Try.underlying5 (by kernel_rfl) hf with ⟨hcs, _⟩ | ⟨x, l, c, zs, hcs, _, hl, hm, hz, _, hcell, hwz⟩
    · simp [Value.cells] at hcs
      obtain ⟨rfl, rfl, rfl⟩ := hcs
      exact ⟨[], .inl ⟨rfl, rfl, rfl, rfl⟩⟩
    · simp [Value.cells] at hcs
      obtain ⟨rfl, rfl, rfl⟩ := hcs
      exact ⟨zs, .inr ⟨_, rfl, hl, hm, by simpa using hz, hcell, hwz⟩⟩
  clear hA0 hval0
  refine (walk W a0 len0 cap0 z0 w0).mono fun e W' ⟨he, hb⟩ => ?_
  subst he
  exact ⟨_, rfl, _, _, _, [], _, [], hW', trodAll_cons_mk (shut_bool Try.underlying4 _) trodAll_mk0, (trodAll_cons_mk (Below.trod laidOut (by kernel_rfl) (of_decide_eq_true (by kernel_rfl)) k0 hb lt0) trodAll_mk0), rfl, hb.frame _, fun h => by cases h⟩

theorem over : Rows.fnWindowRow.holds Try.pinned (OpenSpec.ofChange Rows.fnWindowSpec) :=
  OpenClaim.holds_of_wide 3 Try.f3 rfl rfl rfl rfl rfl rfl rfl ⟨rfl, rfl, rfl, rfl, rfl⟩ rfl rfl rfl rfl rfl (by kernel_rfl) Try.func3 (by kernel_rfl)
    (of_decide_eq_true (by kernel_rfl)) (by unfold Func.isWrapper; first | (rw [if_pos (by decide +kernel)]; kernel_rfl) | (rw [if_neg (by decide +kernel)]; exact ⟨rfl, rfl⟩))
    (fun os started H enc _ => lifted os started H enc)

theorem proved : Rows.FnWindowSaid :=
  over
end Go.Proofs.Ytnjjpfdhadmndaa.fnWindow
