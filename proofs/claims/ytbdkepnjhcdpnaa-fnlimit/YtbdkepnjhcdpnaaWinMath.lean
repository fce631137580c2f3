/- The least of a window that samples are pushed into is the least of all samples that are young enough: over lists alone; its conditions are written in each. -/
import Derived.Test.YtbdkepnjhcdpnaaRows
import Derived.Test.YtbdkepnjhcdpnaaPairWalks
import Derived.Test.YtbdkepnjhcdpnaaWinOk
import Derived.Test.YtbdkepnjhcdpnaaTrimWalks
import Derived.Test.YtbdkepnjhcdpnaaPushWalks
import Derived.Test.YtbdkepnjhcdpnaaQueue
import Derived.Test.YtbdkepnjhcdpnaaQueueOf
import Derived.Test.YtbdkepnjhcdpnaaImplOk
import Derived.Test.YtbdkepnjhcdpnaaImplTrim
namespace Go.Proofs.Ytbdkepnjhcdpnaa.WinMath
open Go.RowKit PairWalks WinOk TrimWalks PushWalks ImplTrim

/-- Samples as the law draws them. -/
def Drawable (L : List (Int × Int)) : Prop := L.length ≤ 13 ∧ (∀ p ∈ L, 0 ≤ p.1 ∧ p.1 ≤ 260 ∧ 0 ≤ p.2 ∧ p.2 < 50) ∧ L.Pairwise fun p q => p.1 ≤ q.1

/-- One step of the law's own search. -/
def pick (T b : Int) (x : Int × Int) : Int := if T < x.1 ∧ (b < 0 ∨ x.2 < b) then x.2 else b
def bestOf (T : Int) (M : List (Int × Int)) : Int := M.foldl (pick T) (-1)

theorem bestOf_snoc (T : Int) (M : List (Int × Int)) (x : Int × Int) : bestOf T (M ++ [x]) = pick T (bestOf T M) x := by simp [bestOf]

/-- The first one that is young enough. -/
def hd (T : Int) (P : List (Int × Int)) : Int := match P.filter fun p => decide (T < p.1) with
  | [] => -1
  | p :: _ => p.2

theorem winOk_of {span : Int} {L : List (Int × Int)} (h1 : 1 ≤ span) (h2 : span ≤ 100000) (hl : L.length ≤ 200) (hb : ∀ p ∈ L, inB p) (hr : L.Pairwise fun p q => p.1 < q.1 ∧ p.2 < q.2) : winOk span L := by
  refine ⟨h1, h2, hl, fun i hi => ⟨hb _ (List.getElem_mem hi), fun h0 => ?_⟩⟩
  rw [List.pairwise_iff_getElem] at hr
  exact hr (i - 1) i (by omega) hi (by omega)

theorem winOk_in {span : Int} {L : List (Int × Int)} (h : winOk span L) : ∀ p ∈ L, inB p := by
  intro p hp
  obtain ⟨i, hi, rfl⟩ := List.getElem_of_mem hp
  exact (h.2.2.2 i hi).1

/-- What holds behind k samples, the last of them at t. -/
structure Inv (span t : Int) (k : Nat) (M P : List (Int × Int)) : Prop where
  ok : winOk span P
  len : P.length ≤ k
  t0 : 0 ≤ t
  t1 : t ≤ 260
  old : ∀ p ∈ P, p.1 ≤ t
  best : ∀ T, t - span ≤ T → hd T P = bestOf T M

theorem Inv.start {span : Int} (h1 : 1 ≤ span) (h2 : span ≤ 100000) : Inv span 0 0 [] [] :=
  ⟨winOk_of h1 h2 (by simp) (fun p hp => by simp at hp) List.Pairwise.nil, Nat.le_refl _, Int.le_refl _, by omega, fun p hp => by simp at hp, fun T _ => rfl⟩

theorem last_of {D : List (Int × Int)} {p : Int × Int} (h : D.getLast? = some p) : ∃ E, D = E ++ [p] := by
  rcases List.eq_nil_or_concat D with rfl | ⟨E, q, rfl⟩
  · simp at h
  · rw [List.concat_eq_append] at h ⊢
    simp at h
    exact ⟨E, by rw [h]⟩

theorem put_ok {span t l : Int} {D : List (Int × Int)} (hD : winOk span D) (hl : D.length ≤ 199) (ht : 0 ≤ t ∧ t ≤ 1000000000) (hlat : 0 ≤ l ∧ l ≤ 1000000) (hless : ∀ p ∈ D, p.2 < l) : winOk span (put t l D) := by
  unfold put
  split
  · exact hD
  · rename_i hll
    refine winOk_of hD.1 hD.2.1 (by simp; omega) (fun p hp => ?_) ?_
    · rcases List.mem_append.1 hp with hp | hp
      · exact winOk_in hD p hp
      · simp at hp
        subst hp
        exact ⟨ht.1, ht.2, hlat.1, hlat.2⟩
    · rw [List.pairwise_append]
      refine ⟨rises hD, List.pairwise_singleton _ _, fun p hp q hq => ?_⟩
      simp at hq
      subst hq
      refine ⟨?_, hless p hp⟩
      show p.1 < t
      cases hg : D.getLast? with
      | none =>
        rw [List.getLast?_eq_none_iff] at hg
        rw [hg] at hp
        simp at hp
      | some z =>
        have hz : ¬ t ≤ z.1 := by
          simp only [lastLate, hg] at hll
          simpa using hll
        obtain ⟨E, hE⟩ := last_of hg
        have hr := rises hD
        rw [hE, List.pairwise_append] at hr
        rw [hE] at hp
        rcases List.mem_append.1 hp with hp | hp
        · have := (hr.2.2 p hp z (by simp)).1
          omega
        · simp at hp
          subst hp
          omega

theorem filter_put {T t l : Int} {D : List (Int × Int)} (hT : T < t) :
    ((put t l D).filter fun p => decide (T < p.1)) = if lastLate t D then D.filter (fun p => decide (T < p.1)) else D.filter (fun p => decide (T < p.1)) ++ [(t, l)] := by
  unfold put
  split
  · rfl
  · rw [List.filter_append]
    simp [hT]

theorem late_mem {T t : Int} {D : List (Int × Int)} (hT : T < t) (h : lastLate t D = true) : D.filter (fun p => decide (T < p.1)) ≠ [] := by
  unfold lastLate at h
  cases hg : D.getLast? with
  | none => rw [hg] at h; simp at h
  | some z =>
    rw [hg] at h
    simp at h
    obtain ⟨E, hE⟩ := last_of hg
    intro e
    have : z ∈ D.filter (fun p => decide (T < p.1)) := by
      rw [List.mem_filter]
      refine ⟨by rw [hE]; simp, ?_⟩
      simp
      omega
    rw [e] at this
    simp at this

theorem Inv.push {span t u l : Int} {k : Nat} {M P : List (Int × Int)} (h : Inv span t k M P) (hk : k ≤ 12) (htu : t ≤ u) (hu : u ≤ 260) (hl : 0 ≤ l ∧ l < 50) :
    Inv span u (k + 1) (M ++ [(u, l)]) (pushed span u l P) := by
  have hok : pushOk span u l P := ⟨h.ok, ⟨by have := h.t0; omega, by omega⟩, by omega, by omega⟩
  have hp := (pushed_good hok).1
  have hlY : (young span u P).length ≤ P.length := List.length_filter_le _ _
  have hlD : (less l (young span u P)).length ≤ (young span u P).length := List.length_filter_le _ _
  have hkl := h.len
  have hput : (put u l (less l (young span u P))).length ≤ k + 1 := by
    unfold put
    split
    · omega
    · simp; omega
  have hcut : pushed span u l P = put u l (less l (young span u P)) := by
    rw [hp]
    unfold cutOne
    rw [if_neg (by omega)]
  have hDmem : ∀ p ∈ less l (young span u P), p ∈ P ∧ p.2 < l ∧ u - span < p.1 := by
    intro p hp
    unfold less young at hp
    rw [List.mem_filter, List.mem_filter] at hp
    obtain ⟨⟨h1, h2⟩, h3⟩ := hp
    exact ⟨h1, by simpa using h3, by simpa using h2⟩
  have hDok : winOk span (less l (young span u P)) := winOk_of h.ok.1 h.ok.2.1 (by omega) (fun p hp => winOk_in h.ok p (hDmem p hp).1) (((rises h.ok).filter _).filter _)
  rw [hcut]
  have old : ∀ p ∈ put u l (less l (young span u P)), p.1 ≤ u := by
    intro p hp
    unfold put at hp
    split at hp
    · have := h.old p (hDmem p hp).1
      omega
    · rcases List.mem_append.1 hp with hp | hp
      · have := h.old p (hDmem p hp).1
        omega
      · simp at hp
        subst hp
        exact Int.le_refl _
  refine ⟨put_ok hDok (by omega) ⟨by have := h.t0; omega, by omega⟩ ⟨by omega, by omega⟩ (fun p hp => (hDmem p hp).2.1), by omega, by have := h.t0; omega, hu, old, fun T hT => ?_⟩
  rw [bestOf_snoc, ← h.best T (by omega)]
  by_cases hTu : T < u
  · -- the new one is young enough
    have hF : (less l (young span u P)).filter (fun p => decide (T < p.1)) = less l (P.filter fun p => decide (T < p.1)) := by
      unfold less young
      rw [List.filter_filter, List.filter_filter, List.filter_filter]
      apply List.filter_congr
      intro p hp
      by_cases a1 : T < p.1
      · have a2 : u - span < p.1 := by omega
        simp [a1, a2]
      · simp [a1]
    unfold hd
    rw [filter_put hTu, hF]
    have hpos : ∀ p ∈ P.filter (fun p => decide (T < p.1)), 0 ≤ p.2 := fun p hp => (winOk_in h.ok p (List.mem_filter.1 hp).1).2.2.1
    have hrise := (rises h.ok).filter fun p => decide (T < p.1)
    have hlate := late_mem (D := less l (young span u P)) hTu
    rw [hF] at hlate
    generalize P.filter (fun p => decide (T < p.1)) = F at *
    cases F with
    | nil =>
      have e0 : less l ([] : List (Int × Int)) = [] := rfl
      rw [e0] at hlate ⊢
      have hll : lastLate u (less l (young span u P)) = false := by
        cases hb : lastLate u (less l (young span u P)) with
        | false => rfl
        | true => exact absurd rfl (hlate hb)
      rw [hll]
      simp [pick, hTu]
    | cons q F =>
      have hq0 := hpos q (by simp)
      rw [List.pairwise_cons] at hrise
      by_cases hlq : l ≤ q.2
      · have e0 : less l (q :: F) = [] := by
          unfold less
          rw [List.filter_eq_nil_iff]
          intro p hp
          rcases List.mem_cons.1 hp with rfl | hp
          · simp; omega
          · have := (hrise.1 p hp).2
            simp
            omega
        rw [e0] at hlate ⊢
        have hll : lastLate u (less l (young span u P)) = false := by
          cases hb : lastLate u (less l (young span u P)) with
          | false => rfl
          | true => exact absurd rfl (hlate hb)
        rw [hll]
        simp only [Bool.false_eq_true, if_false, List.nil_append, pick]
        split
        · rfl
        · rename_i hn
          have : ¬ l < q.2 := fun hh => hn ⟨hTu, Or.inr hh⟩
          show l = q.2
          omega
      · have e0 : less l (q :: F) = q :: less l F := by
          unfold less
          rw [List.filter_cons_of_pos (by simp; omega)]
        rw [e0]
        have hpk : pick T q.2 (u, l) = q.2 := by
          unfold pick
          rw [if_neg (fun hh => by have := hh.2; simp at this; omega)]
        show _ = pick T q.2 (u, l)
        rw [hpk]
        by_cases hb : lastLate u (less l (young span u P)) = true
        · rw [if_pos hb]
        · rw [if_neg hb]
          rfl
  · -- nothing is young enough
    have e1 : ∀ Q : List (Int × Int), (∀ p ∈ Q, p.1 ≤ u) → hd T Q = -1 := by
      intro Q hQ
      unfold hd
      rw [List.filter_eq_nil_iff.2 (fun p hp => by have := hQ p hp; simp; omega)]
    rw [e1 _ old, e1 P (fun p hp => by have := h.old p hp; omega)]
    unfold pick
    rw [if_neg (fun hh => hTu hh.1)]

theorem least_hd {span t now : Int} {k : Nat} {M P : List (Int × Int)} (h : Inv span t k M P) (h1 : t ≤ now) (h2 : now ≤ 1000000000) : leastOf span P now = bestOf (now - span) M := by
  rw [← h.best (now - span) (by omega)]
  unfold leastOf hd
  rw [(trimmed_good ⟨h.ok, by have := h.t0; omega, h2⟩).1]
  rfl
end Go.Proofs.Ytbdkepnjhcdpnaa.WinMath
