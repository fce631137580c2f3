/- A look at a queue that may be slow leaves it right; looks one behind the other; no condition but those written in each. -/
import Derived.Test.YtdgkmiknnelddaaRows
import Derived.WalkKit
import Derived.Test.YtdgkmiknnelddaaCodKit
import Derived.Test.YtdgkmiknnelddaaCodOks
import Derived.Test.YtdgkmiknnelddaaCodPaceS
namespace Go.Proofs.Ytdgkmiknnelddaa.CodMath
open Go.RowKit CodKit CodPaceS
set_option linter.unusedVariables false
set_option linter.unusedSimpArgs false

theorem ok_parts {s : Cod} (h : codOk s = true) : 0 ≤ s.x0 ∧ s.x0 ≤ 100000 ∧ 1 ≤ s.x1 ∧ s.x1 ≤ 100000 ∧ 0 ≤ s.x2 ∧ s.x2 ≤ 1000000000 ∧ 0 ≤ s.x4 ∧ s.x4 ≤ 1000000000 ∧ 0 ≤ s.x5 ∧ s.x5 ≤ 100000 := by
  unfold codOk at h
  rw [Bool.and_eq_true] at h
  exact of_decide_eq_true h.1
theorem ok_drop {s : Cod} (h : codOk s = true) (hd : s.x3 = true) : 1 ≤ s.x5 ∧ 0 < s.x2 := by
  unfold codOk at h
  rw [Bool.and_eq_true, if_pos hd] at h
  exact of_decide_eq_true h.2
theorem ok_calm {s : Cod} (h : codOk s = true) (hd : s.x3 = false) : s.x4 = 0 ∧ s.x5 = 0 := by
  unfold codOk at h
  rw [Bool.and_eq_true, if_neg (by rw [hd]; simp)] at h
  exact of_decide_eq_true h.2
theorem ok_mk_drop {s : Cod} (h : 0 ≤ s.x0 ∧ s.x0 ≤ 100000 ∧ 1 ≤ s.x1 ∧ s.x1 ≤ 100000 ∧ 0 ≤ s.x2 ∧ s.x2 ≤ 1000000000 ∧ 0 ≤ s.x4 ∧ s.x4 ≤ 1000000000 ∧ 0 ≤ s.x5 ∧ s.x5 ≤ 100000) (hd : s.x3 = true) (h2 : 1 ≤ s.x5 ∧ 0 < s.x2) : codOk s = true := by
  unfold codOk
  rw [if_pos hd, decide_eq_true h, decide_eq_true h2]; rfl
theorem ok_mk_calm {s : Cod} (h : 0 ≤ s.x0 ∧ s.x0 ≤ 100000 ∧ 1 ≤ s.x1 ∧ s.x1 ≤ 100000 ∧ 0 ≤ s.x2 ∧ s.x2 ≤ 1000000000 ∧ 0 ≤ s.x4 ∧ s.x4 ≤ 1000000000 ∧ 0 ≤ s.x5 ∧ s.x5 ≤ 100000) (hd : s.x3 = false) (h2 : s.x4 = 0 ∧ s.x5 = 0) : codOk s = true := by
  unfold codOk
  rw [if_neg (by rw [hd]; simp), decide_eq_true h, decide_eq_true h2]; rfl
theorem up1_in {n : Int} (h : 0 ≤ n ∧ n ≤ 100000) : 1 ≤ up1 n ∧ up1 n ≤ 100000 := by unfold up1; split <;> omega
theorem atime_pos {a b : Int} (ha : 0 ≤ a) (hb : 1 ≤ b) : 1 ≤ atime a b := by unfold atime; split <;> omega
/-- A look leaves it right. -/
theorem see_keeps {s : Cod} {now w : Int} (h : codOk s = true) (hn : 0 ≤ now ∧ now ≤ 1000000000) : codOk (see s now w).1 = true := by
  have hp := ok_parts h
  have ha := atime_in (a := now) (b := s.x1) hn (by omega)
  have ha1 := atime_pos (a := now) (b := s.x1) hn.1 hp.2.2.1
  have hu := up1_in (n := s.x5) (by omega)
  have hpc := pace_in (e := s.x1) (c := up1 s.x5) (by omega)
  have hb := atime_in (a := s.x4) (b := pace s.x1 (up1 s.x5)) (by omega) (by omega)
  unfold see
  by_cases c1 : w < 0 ∨ w < s.x0
  · rw [if_pos c1]
    exact ok_mk_calm (by dsimp only; omega) rfl ⟨rfl, rfl⟩
  · rw [if_neg c1]
    by_cases c2 : s.x3 = false
    · rw [if_pos c2]
      have hc := ok_calm h c2
      by_cases c3 : s.x2 = 0
      · rw [if_pos c3]
        exact ok_mk_calm (by dsimp only; omega) c2 hc
      · rw [if_neg c3]
        by_cases c4 : s.x2 ≤ now
        · rw [if_pos c4]
          exact ok_mk_drop (by dsimp only; omega) rfl (by dsimp only; omega)
        · rw [if_neg c4]; exact h
    · rw [if_neg c2]
      have c3 : s.x3 = true := by simpa using c2
      have hd := ok_drop h c3
      by_cases c4 : s.x4 ≤ now
      · rw [if_pos c4]
        exact ok_mk_drop (by dsimp only; omega) c3 (by dsimp only; omega)
      · rw [if_neg c4]; exact h
/-- Nobody is dropped of an empty queue. -/
theorem see_none (s : Cod) (now : Int) : (see s now (-1)).2 = false := by unfold see; rw [if_pos (Or.inl (by omega))]
/-- Looks one behind the other, as long as one is dropped: what it is then, and how many went. -/
def looks (now : Int) : Cod → List Int → Cod × Nat
  | s, [] => ((see s now (-1)).1, 0)
  | s, w :: ws => if (see s now w).2 = true then ((looks now (see s now w).1 ws).1, (looks now (see s now w).1 ws).2 + 1) else ((see s now w).1, 0)
theorem looks_le (now : Int) : ∀ (s : Cod) (ws : List Int), (looks now s ws).2 ≤ ws.length
  | s, [] => by simp [looks]
  | s, w :: ws => by
    have := looks_le now (see s now w).1 ws
    unfold looks
    split <;> simp <;> omega
/-- One step of the looks from place k on. -/
theorem looks_drop (now : Int) (s : Cod) (ws : List Int) (k : Nat) (hk : k < ws.length) : looks now s (ws.drop k) = if (see s now ws[k]).2 = true then ((looks now (see s now ws[k]).1 (ws.drop (k + 1))).1, (looks now (see s now ws[k]).1 (ws.drop (k + 1))).2 + 1) else ((see s now ws[k]).1, 0) := by
  rw [List.drop_eq_getElem_cons hk]
  rfl
theorem looks_end (now : Int) (s : Cod) (ws : List Int) : looks now s (ws.drop ws.length) = ((see s now (-1)).1, 0) := by
  rw [List.drop_length]; rfl
end Go.Proofs.Ytdgkmiknnelddaa.CodMath
