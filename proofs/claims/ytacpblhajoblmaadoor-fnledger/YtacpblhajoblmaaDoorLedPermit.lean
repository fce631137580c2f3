/- What the model's and the program's PermitOf answer, at every ledger of at most 2 to the 20 slots and every request; nothing else turns. -/
import Derived.Test.YtacpblhajoblmaaDoorRows
import Derived.WalkKit
import Derived.WalkSmall
import Derived.BigQuiet
import Derived.Deep.RegionWith
import Derived.Test.YtacpblhajoblmaaDoorListKit
import Derived.Test.YtacpblhajoblmaaDoorSlotKit
import Derived.Test.YtacpblhajoblmaaDoorSlotOks
import Derived.Test.YtacpblhajoblmaaDoorLedFind
import Derived.Test.YtacpblhajoblmaaDoorLedOk
namespace Go.Proofs.YtacpblhajoblmaaDoor.LedPermit
open Go.RowKit ListKit SlotKit SlotOks LedFind LedOk
set_option maxRecDepth 8000
set_option linter.unusedVariables false
set_option linter.unusedSimpArgs false

/-- The permit of a request: its place and its generation, false where it has none or the ledger isn't right. -/
def Perm (L : List Slot) (req P G : Int) (B : Bool) : Prop :=
  (B = false ∧ P = 0 ∧ G = 0 ∧ ¬ ledOk L) ∨ (B = false ∧ P = 0 ∧ G = 0 ∧ ledOk L ∧ ∀ (j : Nat) (h : j < L.length), isOf req L[j] = false) ∨
  (B = true ∧ ledOk L ∧ ∃ k : Nat, P = (k : Int) ∧ ∃ h : k < L.length, isOf req L[k] = true ∧ G = L[k].x0 ∧ ∀ (j : Nat) (hj : j < k), isOf req (L[j]'(by omega)) = false)
theorem perm_ex (L : List Slot) (req : Int) : ∃ P G B, Perm L req P G B := by
  classical
  by_cases h : ledOk L
  · obtain ⟨r, ⟨_, h1⟩ | ⟨k, rfl, hk, h1, h2⟩⟩ := at_ex (isOf req) L
    · exact ⟨0, 0, false, Or.inr (Or.inl ⟨rfl, rfl, rfl, h, h1⟩)⟩
    · exact ⟨k, _, true, Or.inr (Or.inr ⟨rfl, h, k, rfl, hk, h1, rfl, h2⟩)⟩
  · exact ⟨0, 0, false, Or.inl ⟨rfl, rfl, rfl, h⟩⟩
theorem two {w w1 : World} {A B : Obj} (hb : Below ((w.alloc A).alloc B).heap.size ((w.alloc A).alloc B) w1) : Hid (w1.heap[w.heap.size]? = some A ∧ w1.heap[w.heap.size + 1]? = some B ∧ Below w.heap.size w w1 ∧ w.heap.size + 1 < w1.heap.size) := by
  have hs := hb.size
  simp at hs
  refine ⟨?_, ?_, (((Below.refl _ _).alloc (Nat.le_refl _) _).alloc (by simp) _).trans (hb.mono (by simp; omega)), by omega⟩
  · rw [hb.block _ (by simp; omega), Below.heap_alloc _ _ _ (by simp)]
    exact heap_alloc_new w _
  · rw [hb.block _ (by simp)]
    have h2 := heap_alloc_new (w.alloc A) B
    rw [World.size_alloc] at h2
    exact h2
theorem bel_two (w : World) (A B : Obj) : Below w.heap.size w ((w.alloc A).alloc B) := ((Below.refl _ _).alloc (Nat.le_refl _) _).alloc (by simp) _

set_option maxHeartbeats 4000000 in
theorem spec_permit (a : Option Addr) (c : Nat) (L : List Slot) (req P G : Int) (B : Bool) (w : World) (h : Own 35 5 cells w a L) (hl : (L.length : Int) ≤ 1048577) (hc : L.length ≤ c) (HP : Hid (Perm L req P G B)) :
    Calls Tryd.prog 39 #[.agg #[.slice a L.length c], .int .i64 req] w fun e w' => e = .returned (.tuple #[.agg #[.int .i64 P, .int .i64 G], .bool B]) ∧ Below w.heap.size w w' := by
  have HA : Hid (Own 35 5 cells w a L) := h
  clear h
  obtain ⟨n, hn⟩ : ∃ n, L.length = n := ⟨_, rfl⟩
  have HN : Hid (L.length = n) := hn
  rw [hn] at hl hc ⊢
  clear hn
  obtain ⟨BB, HB⟩ := flag (ledOk L)
  have HLO := fun (W : World) h => spec_ledok a c L BB W h (by rw [HN.out]; exact hl) (by rw [HN.out]; exact hc) HB
  rw [HN.out] at HLO
  have hP := HP.out
  cases BB with
  | false =>
    obtain ⟨rfl, rfl, rfl⟩ : B = false ∧ P = 0 ∧ G = 0 := by
      rcases hP with ⟨h1, h2, h3, _⟩ | ⟨_, _, _, h4, _⟩ | ⟨_, h4, _⟩
      · exact ⟨h1, h2, h3⟩
      · cases HB.out.2 h4
      · cases HB.out.2 h4
    clear hP
    go_enter Tryd.func39, Tryd.ntmps39
    go_wp2_with (go_at_call 36; refine (HLO _ (HA.out.below (bel_two _ _ _))).mono ?_; rintro e w1 ⟨rfl, b1⟩; have H1 := two b1; have c0 : w1.cell? ⟨w.heap.size, 0, none⟩ = some (.slice a n c) := cellB H1.out.1 0; have d0 : w1.cell? ⟨w.heap.size + 1, 0, none⟩ = some (.int .i64 0) := cellB H1.out.2.1 0; have d1 : w1.cell? ⟨w.heap.size + 1, 1, none⟩ = some (.int .i64 0) := cellB H1.out.2.1 1; have f0 := fzB H1.out.2.1 0; have f1 := fzB H1.out.2.1 1; have hz1 : w.heap.size + 1 < w1.heap.size := H1.out.2.2.2; clear b1)
    refine bodyPost_ret (v := .tuple #[.agg #[.int .i64 0, .int .i64 0], .bool false]) (by simp [results, Tryd.results39, go_sem, d0, d1]) rfl ⟨rfl, ?_⟩
    exact ((H1.out.2.2.1).setCell (Nat.le_add_right _ 1) _).setCell (Nat.le_add_right _ 1) _
  | true =>
    clear hP
    have HOK : Hid (ledOk L) := HB.out.1 rfl
    go_enter Tryd.func39, Tryd.ntmps39
    go_wp2_with (go_at_call 36; refine (HLO _ (HA.out.below (bel_two _ _ _))).mono ?_; rintro e w1 ⟨rfl, b1⟩; have H1 := two b1; have c0 : w1.cell? ⟨w.heap.size, 0, none⟩ = some (.slice a n c) := cellB H1.out.1 0; have d0 : w1.cell? ⟨w.heap.size + 1, 0, none⟩ = some (.int .i64 0) := cellB H1.out.2.1 0; have d1 : w1.cell? ⟨w.heap.size + 1, 1, none⟩ = some (.int .i64 0) := cellB H1.out.2.1 1; have f0 := fzB H1.out.2.1 0; have f1 := fzB H1.out.2.1 1; have hz1 : w.heap.size + 1 < w1.heap.size := H1.out.2.2.2; clear b1)
    clear c0 d0 d1 f0 f1
    go_loopw [15] (fun i wr => ∃ k : Nat, k ≤ n ∧ i = .int .i64 k ∧ Hid (∀ (j : Nat) (h : j < L.length), j < k → isOf req L[j] = false) ∧ Hid (Below w1.heap.size w1 wr)) (fun i _ => n - (intOf i).toNat)
    case atStart => exact ⟨0, by omega, rfl, fun j _ hj => by omega, Below.refl _ _⟩
    case round =>
      obtain ⟨k, hk, rfl, HK, HW⟩ := hrel
      have E0 := (HW.out.block _ hz1).trans H1.out.2.1
      have d0 : wr.cell? ⟨w.heap.size + 1, 0, none⟩ = some (.int .i64 0) := cellB E0 0
      have d1 : wr.cell? ⟨w.heap.size + 1, 1, none⟩ = some (.int .i64 0) := cellB E0 1
      have f0 := fzB E0 0
      have f1 := fzB E0 1
      have hz2 : w.heap.size + 1 < wr.heap.size := Nat.lt_of_lt_of_le hz1 HW.out.size
      have HZ : Hid (Below w.heap.size w wr) := H1.out.2.2.1.trans (HW.out.mono H1.out.2.2.1.size)
      clear E0
      by_cases hlt : k < n
      · have hlt2 : k < L.length := by rw [HN.out]; exact hlt
        rcases HA.out with hnil | ⟨g, o, rfl, hr⟩
        · rw [hnil] at hlt2; simp at hlt2
        · have hr1 : Row 35 5 cells wr g o L := hr.below HZ.out
          obtain ⟨sx, hsx⟩ : ∃ s, L[k] = s := ⟨_, rfl⟩
          obtain ⟨x0, x1, x2, x3, x4⟩ := sx
          have u9 := fun j hj => (hr1).cell k hlt2 j hj
          have p0 : wr.cell? ⟨g, o + k * 5, none⟩ = some (.int .i64 x0) := by have h9 := u9 0 (by omega); rw [hsx] at h9; exact h9
          have p1 : wr.cell? ⟨g, o + k * 5 + 1, none⟩ = some (.bool x1) := by have h9 := u9 1 (by omega); rw [hsx] at h9; exact h9
          have p2 : wr.cell? ⟨g, o + k * 5 + 2, none⟩ = some (.int .i64 x2) := by have h9 := u9 2 (by omega); rw [hsx] at h9; exact h9
          have p3 : wr.cell? ⟨g, o + k * 5 + 3, none⟩ = some (.int .i64 x3) := by have h9 := u9 3 (by omega); rw [hsx] at h9; exact h9
          have p4 : wr.cell? ⟨g, o + k * 5 + 4, none⟩ = some (.int .i64 x4) := by have h9 := u9 4 (by omega); rw [hsx] at h9; exact h9
          clear u9
          have hli : (k : Int) < (n : Int) := by omega
          have HS : Hid (L[k] = ⟨x0, x1, x2, x3, x4⟩) := hsx
          clear hr hr1 hsx
          have HG : Hid (∀ A : Obj, Below w.heap.size w (wr.alloc A)) := fun A => HZ.out.alloc HZ.out.size _
          have HG2 : Hid (∀ A : Obj, Below w1.heap.size w1 (wr.alloc A)) := fun A => HW.out.alloc HW.out.size _
          obtain ⟨v, hv⟩ : ∃ v, isOf req ⟨x0, x1, x2, x3, x4⟩ = v := ⟨_, rfl⟩
          have HV : Hid (isOf req ⟨x0, x1, x2, x3, x4⟩ = v) := hv
          clear hv
          have nx : Hid (v = false → ∀ (j : Nat) (h : j < L.length), j < k + 1 → isOf req L[j] = false) := fun hv j h hj => by
            by_cases e : j = k
            · subst e; rw [HS.out, HV.out, hv]
            · exact HK.out j h (by omega)
          cases x1 with
          | false =>
            have HK2 : Hid (∀ (j : Nat) (h : j < L.length), j < k + 1 → isOf req L[j] = false) := nx.out (by rw [← HV.out]; rfl)
            clear nx
            go_wp2
            go_roundw
            case rel => exact ⟨k + 1, by omega, by go_num, HK2, HG2.out _⟩
            case measure => simp [intOf]; omega
          | true =>
            by_cases e : x2 = req
            · have hv : isOf req ⟨x0, true, x2, x3, x4⟩ = true := by simp [isOf, e]
              have e1 : (x2 == req) = true := by simpa using e
              obtain ⟨rfl, rfl, rfl⟩ : B = true ∧ P = (k : Int) ∧ x0 = G := by
                rcases HP.out with ⟨_, _, _, h4⟩ | ⟨_, _, _, _, h5⟩ | ⟨h1, _, q, h2, hq, h3, h4, h5⟩
                · exact absurd HOK.out h4
                · have := h5 k hlt2; rw [HS.out, hv] at this; cases this
                · have hqk : q = k := by
                    rcases Nat.lt_trichotomy q k with hh | hh | hh
                    · rw [HK.out q hq hh] at h3; cases h3
                    · exact hh
                    · have := h5 k hh; rw [HS.out, hv] at this; cases this
                  subst hqk
                  exact ⟨h1, h2, by rw [h4, HS.out]⟩
              clear e nx hv HV
              go_wp2
              refine bodyPost_ret (v := .tuple #[.agg #[.int .i64 k, .int .i64 x0], .bool true]) (by simp [results, Tryd.results39, go_sem, d0, d1, hz2]) rfl ⟨rfl, ?_⟩
              exact (((HZ.out).setCell (Nat.le_add_right _ 1) _).setCell (Nat.le_add_right _ 1) _).alloc (by have := HZ.out.size; simpa using this) _
            · have e1 : (x2 == req) = false := by simpa using e
              have HK2 : Hid (∀ (j : Nat) (h : j < L.length), j < k + 1 → isOf req L[j] = false) := nx.out (by rw [← HV.out]; simp [isOf, e])
              clear nx e HV
              go_wp2
              go_roundw
              case rel => exact ⟨k + 1, by omega, by go_num, HK2, HG2.out _⟩
              case measure => simp [intOf]; omega
      · obtain rfl : k = n := by omega
        obtain ⟨rfl, rfl, rfl⟩ : B = false ∧ P = 0 ∧ G = 0 := by
          rcases HP.out with ⟨h1, h2, h3, _⟩ | ⟨h1, h2, h3, _⟩ | ⟨_, _, q, _, hq, h4, _⟩
          · exact ⟨h1, h2, h3⟩
          · exact ⟨h1, h2, h3⟩
          · rw [HK.out q hq (by rw [HN.out] at hq; exact hq)] at h4; cases h4
        go_wp2
        refine bodyPost_ret (v := .tuple #[.agg #[.int .i64 0, .int .i64 0], .bool false]) (by simp [results, Tryd.results39, go_sem, d0, d1]) rfl ⟨rfl, ?_⟩
        exact ((HZ.out).setCell (Nat.le_add_right _ 1) _).setCell (Nat.le_add_right _ 1) _
set_option maxHeartbeats 4000000 in
theorem impl_permit (a : Option Addr) (c : Nat) (L : List Slot) (req P G : Int) (B : Bool) (w : World) (h : Own 35 5 cells w a L) (hl : (L.length : Int) ≤ 1048577) (hc : L.length ≤ c) (HP : Hid (Perm L req P G B)) :
    Calls Tryd.prog 9 #[.agg #[.slice a L.length c], .int .i64 req] w fun e w' => e = .returned (.tuple #[.agg #[.int .i64 P, .int .i64 G], .bool B]) ∧ Below w.heap.size w w' := by
  have HA : Hid (Own 35 5 cells w a L) := h
  clear h
  obtain ⟨n, hn⟩ : ∃ n, L.length = n := ⟨_, rfl⟩
  have HN : Hid (L.length = n) := hn
  rw [hn] at hl hc ⊢
  clear hn
  obtain ⟨BB, HB⟩ := flag (ledOk L)
  have HLO := fun (W : World) h => impl_ledok a c L BB W h (by rw [HN.out]; exact hl) (by rw [HN.out]; exact hc) HB
  rw [HN.out] at HLO
  have hP := HP.out
  cases BB with
  | false =>
    obtain ⟨rfl, rfl, rfl⟩ : B = false ∧ P = 0 ∧ G = 0 := by
      rcases hP with ⟨h1, h2, h3, _⟩ | ⟨_, _, _, h4, _⟩ | ⟨_, h4, _⟩
      · exact ⟨h1, h2, h3⟩
      · cases HB.out.2 h4
      · cases HB.out.2 h4
    clear hP
    go_enter Tryd.func9, Tryd.ntmps9
    go_wp2_with (go_at_call 6; refine (HLO _ (HA.out.below (bel_two _ _ _))).mono ?_; rintro e w1 ⟨rfl, b1⟩; have H1 := two b1; have c0 : w1.cell? ⟨w.heap.size, 0, none⟩ = some (.slice a n c) := cellB H1.out.1 0; have d0 : w1.cell? ⟨w.heap.size + 1, 0, none⟩ = some (.int .i64 0) := cellB H1.out.2.1 0; have d1 : w1.cell? ⟨w.heap.size + 1, 1, none⟩ = some (.int .i64 0) := cellB H1.out.2.1 1; have f0 := fzB H1.out.2.1 0; have f1 := fzB H1.out.2.1 1; have hz1 : w.heap.size + 1 < w1.heap.size := H1.out.2.2.2; clear b1)
    refine bodyPost_ret (v := .tuple #[.agg #[.int .i64 0, .int .i64 0], .bool false]) (by simp [results, Tryd.results9, go_sem, d0, d1]) rfl ⟨rfl, ?_⟩
    exact ((H1.out.2.2.1).setCell (Nat.le_add_right _ 1) _).setCell (Nat.le_add_right _ 1) _
  | true =>
    have HOK : Hid (ledOk L) := HB.out.1 rfl
    obtain ⟨r, hr⟩ := at_ex (isOf req) L
    have HR : Hid (At (isOf req) L r) := hr
    have HPL := fun (W : World) h => place_of a c L req r W h (by rw [HN.out]; exact hl) HR
    rw [HN.out] at HPL
    rcases hr with ⟨rfl, h1⟩ | ⟨k, rfl, hk, h1, h2⟩
    · obtain ⟨rfl, rfl, rfl⟩ : B = false ∧ P = 0 ∧ G = 0 := by
        rcases hP with ⟨h1, h2, h3, _⟩ | ⟨h1, h2, h3, _⟩ | ⟨_, _, q, _, hq, h4, _⟩
        · exact ⟨h1, h2, h3⟩
        · exact ⟨h1, h2, h3⟩
        · rw [h1 q hq] at h4; cases h4
      clear hP h1
      go_enter Tryd.func9, Tryd.ntmps9
      go_wp2_with (first | (go_at_call 6; refine (HLO _ (HA.out.below (bel_two _ _ _))).mono ?_; rintro e w1 ⟨rfl, b1⟩; have H1 := two b1; have c0 : w1.cell? ⟨w.heap.size, 0, none⟩ = some (.slice a n c) := cellB H1.out.1 0; have d0 : w1.cell? ⟨w.heap.size + 1, 0, none⟩ = some (.int .i64 0) := cellB H1.out.2.1 0; have d1 : w1.cell? ⟨w.heap.size + 1, 1, none⟩ = some (.int .i64 0) := cellB H1.out.2.1 1; have f0 := fzB H1.out.2.1 0; have f1 := fzB H1.out.2.1 1; have hz1 : w.heap.size + 1 < w1.heap.size := H1.out.2.2.2; clear b1) | (go_at_call 15; refine (HPL _ (HA.out.below H1.out.2.2.1)).mono ?_; clear d0 d1 f0 f1 c0; rintro e w2 ⟨rfl, b2⟩; have E0 : Hid (w2.heap[w.heap.size + 1]? = some (.cells #[.int .i64 0, .int .i64 0] 28 (0, 0))) := (b2.block _ hz1).trans H1.out.2.1; have d0 : w2.cell? ⟨w.heap.size + 1, 0, none⟩ = some (.int .i64 0) := cellB E0.out 0; have d1 : w2.cell? ⟨w.heap.size + 1, 1, none⟩ = some (.int .i64 0) := cellB E0.out 1; have f0 := fzB E0.out 0; have f1 := fzB E0.out 1; have HZ : Hid (Below w.heap.size w w2) := H1.out.2.2.1.trans (b2.mono H1.out.2.2.1.size); have hz2 : w.heap.size + 1 < w2.heap.size := Nat.lt_of_lt_of_le hz1 b2.size; clear b2))
      refine bodyPost_ret (v := .tuple #[.agg #[.int .i64 0, .int .i64 0], .bool false]) (by simp [results, Tryd.results9, go_sem, d0, d1]) rfl ⟨rfl, ?_⟩
      exact ((HZ.out).setCell (Nat.le_add_right _ 1) _).setCell (Nat.le_add_right _ 1) _
    · obtain ⟨rfl, rfl, rfl⟩ : B = true ∧ P = (k : Int) ∧ G = L[k].x0 := by
        rcases hP with ⟨_, _, _, h4⟩ | ⟨_, _, _, _, h5⟩ | ⟨h0, _, q, hq1, hq, h3, h4, h5⟩
        · exact absurd HOK.out h4
        · have := h5 k hk; rw [h1] at this; cases this
        · have hqk : q = k := by
            rcases Nat.lt_trichotomy q k with hh | hh | hh
            · rw [h2 q hh] at h3; cases h3
            · exact hh
            · have := h5 k hh; rw [h1] at this; cases this
          subst hqk
          exact ⟨h0, hq1, h4⟩
      clear hP h1 h2
      rcases HA.out with hnil | ⟨g, o, rfl, hr⟩
      · rw [hnil] at hk; simp at hk
      · have HRW : Hid (Row 35 5 cells w g o L) := hr
        clear hr
        obtain ⟨sx, hsx⟩ : ∃ s, L[k] = s := ⟨_, rfl⟩
        obtain ⟨x0, x1, x2, x3, x4⟩ := sx
        rw [hsx]
        show Calls _ _ _ _ fun e w' => e = .returned (.tuple #[.agg #[.int .i64 k, .int .i64 x0], .bool true]) ∧ _
        have HS : Hid (L[k] = ⟨x0, x1, x2, x3, x4⟩) := hsx
        have hkn : (k : Int) < (n : Int) := by have := HN.out; omega
        have hk0 : decide ((k : Int) < 0) = false := by simp
        clear hsx HP
        go_enter Tryd.func9, Tryd.ntmps9
        go_wp2_with (first | (go_at_call 6; refine (HLO _ (HA.out.below (bel_two _ _ _))).mono ?_; rintro e w1 ⟨rfl, b1⟩; have H1 := two b1; have c0 : w1.cell? ⟨w.heap.size, 0, none⟩ = some (.slice (some ⟨g, o, none⟩) n c) := cellB H1.out.1 0; have d0 : w1.cell? ⟨w.heap.size + 1, 0, none⟩ = some (.int .i64 0) := cellB H1.out.2.1 0; have d1 : w1.cell? ⟨w.heap.size + 1, 1, none⟩ = some (.int .i64 0) := cellB H1.out.2.1 1; have f0 := fzB H1.out.2.1 0; have f1 := fzB H1.out.2.1 1; have hz1 : w.heap.size + 1 < w1.heap.size := H1.out.2.2.2; clear b1) | (go_at_call 15; refine (HPL _ (HA.out.below H1.out.2.2.1)).mono ?_; clear d0 d1 f0 f1 c0; rintro e w2 ⟨rfl, b2⟩; have E0 : Hid (w2.heap[w.heap.size + 1]? = some (.cells #[.int .i64 0, .int .i64 0] 28 (0, 0)) ∧ w2.heap[w.heap.size]? = some (.cells #[.slice (some ⟨g, o, none⟩) n c] 25 (0, 0))) := ⟨(b2.block _ hz1).trans H1.out.2.1, (b2.block _ (Nat.lt_of_succ_lt hz1)).trans H1.out.1⟩; have c0 : w2.cell? ⟨w.heap.size, 0, none⟩ = some (.slice (some ⟨g, o, none⟩) n c) := cellB E0.out.2 0; have d0 : w2.cell? ⟨w.heap.size + 1, 0, none⟩ = some (.int .i64 0) := cellB E0.out.1 0; have d1 : w2.cell? ⟨w.heap.size + 1, 1, none⟩ = some (.int .i64 0) := cellB E0.out.1 1; have f0 := fzB E0.out.1 0; have f1 := fzB E0.out.1 1; have HZ : Hid (Below w.heap.size w w2) := H1.out.2.2.1.trans (b2.mono H1.out.2.2.1.size); have hz2 : w.heap.size + 1 < w2.heap.size := Nat.lt_of_lt_of_le hz1 b2.size; have p0 : w2.cell? ⟨g, o + k * 5, none⟩ = some (.int .i64 x0) := (by have h9 := (HRW.out.below HZ.out).cell k hk 0 (by omega); rw [HS.out] at h9; exact h9); clear b2))
        refine bodyPost_ret (v := .tuple #[.agg #[.int .i64 k, .int .i64 x0], .bool true]) (by simp [results, Tryd.results9, go_sem, d0, d1]) rfl ⟨rfl, ?_⟩
        exact ((HZ.out).setCell (Nat.le_add_right _ 1) _).setCell (Nat.le_add_right _ 1) _
theorem both_permit (L : List Slot) (req : Int) (hl : (L.length : Int) ≤ 1048577) : ∃ (P G : Int) (B : Bool),
    (∀ (a : Option Addr) (c : Nat) (W : World), Own 35 5 cells W a L → L.length ≤ c → Calls Tryd.prog 39 #[.agg #[.slice a L.length c], .int .i64 req] W fun e w' => e = .returned (.tuple #[.agg #[.int .i64 P, .int .i64 G], .bool B]) ∧ Below W.heap.size W w') ∧
    (∀ (a : Option Addr) (c : Nat) (W : World), Own 35 5 cells W a L → L.length ≤ c → Calls Tryd.prog 9 #[.agg #[.slice a L.length c], .int .i64 req] W fun e w' => e = .returned (.tuple #[.agg #[.int .i64 P, .int .i64 G], .bool B]) ∧ Below W.heap.size W w') := by
  obtain ⟨P, G, B, h⟩ := perm_ex L req
  exact ⟨P, G, B, fun a c W ho hc => spec_permit a c L req P G B W ho hl hc h, fun a c W ho hc => impl_permit a c L req P G B W ho hl hc h⟩
end Go.Proofs.YtacpblhajoblmaaDoor.LedPermit
