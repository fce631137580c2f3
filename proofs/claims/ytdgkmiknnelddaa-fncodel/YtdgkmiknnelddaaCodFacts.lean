/- What a queue that may be slow does at looks of a chosen kind: it forgets, begins, waits, drops; plain facts for the law on such queues; no condition but those written in each. -/
import Derived.Test.YtdgkmiknnelddaaRows
import Derived.WalkKit
import Derived.Test.YtdgkmiknnelddaaCodKit
import Derived.Test.YtdgkmiknnelddaaCodOks
import Derived.Test.YtdgkmiknnelddaaCodPaceS
import Derived.Test.YtdgkmiknnelddaaCodMath
namespace Go.Proofs.Ytdgkmiknnelddaa.CodFacts
open Go.RowKit CodKit CodPaceS CodMath
set_option linter.unusedVariables false
set_option linter.unusedSimpArgs false

theorem looks_keeps {now : Int} (hn : 0 ≤ now ∧ now ≤ 1000000000) : ∀ (s : Cod) (ws : List Int), codOk s = true → codOk (looks now s ws).1 = true
  | s, [], h => by unfold looks; exact see_keeps h hn
  | s, w :: ws, h => by
    have ih := looks_keeps hn (see s now w).1 ws (see_keeps h hn)
    unfold looks
    split
    · exact ih
    · exact see_keeps h hn
theorem see_ok {s : Cod} {now w : Int} (h : codOk s = true) (hn : 0 ≤ now ∧ now ≤ 1000000000) (hw : -1 ≤ w ∧ w ≤ 1000000000) : seeOk s now w = true := by
  unfold seeOk
  rw [h, Bool.true_and]
  exact decide_eq_true (by omega)
/-- Below its target it forgets. -/
theorem see_under (s : Cod) (now : Int) : see s now (s.x0 - 1) = (⟨s.x0, s.x1, 0, false, 0, 0⟩, false) := by
  unfold see
  rw [if_pos (Or.inr (by omega))]
section
variable {t v now : Int}
theorem calm_ok (ht : 0 ≤ t ∧ t ≤ 100000) (hv : 1 ≤ v ∧ v ≤ 100000) : codOk ⟨t, v, 0, false, 0, 0⟩ = true := ok_mk_calm (by dsimp only; omega) rfl ⟨rfl, rfl⟩
/-- At its target it begins. -/
theorem see_start (ht : 0 ≤ t) (hs : now + v ≤ 1000000000) : see ⟨t, v, 0, false, 0, 0⟩ now t = (⟨t, v, now + v, false, 0, 0⟩, false) := by
  unfold see
  dsimp only
  rw [if_neg (by omega), if_pos rfl, if_pos rfl]
  unfold atime
  rw [if_pos hs]
/-- Ahead of its time nobody is dropped. -/
theorem see_soon (ht : 0 ≤ t) (hn : 0 ≤ now) (hv : 1 ≤ v) : see ⟨t, v, now + v, false, 0, 0⟩ (now + v - 1) t = (⟨t, v, now + v, false, 0, 0⟩, false) := by
  unfold see
  dsimp only
  rw [if_neg (by omega), if_pos rfl, if_neg (by omega), if_neg (by omega)]
/-- At its time one is dropped. -/
theorem see_then (ht : 0 ≤ t) (hn : 0 ≤ now) (hv : 1 ≤ v) (hs : now + v + v ≤ 1000000000) : see ⟨t, v, now + v, false, 0, 0⟩ (now + v) t = (⟨t, v, now + v, true, now + v + v, 1⟩, true) := by
  unfold see
  dsimp only
  rw [if_neg (by omega), if_pos rfl, if_neg (by omega), if_pos (by omega)]
  unfold atime
  rw [if_pos hs]
theorem slow_ok (ht : 0 ≤ t ∧ t ≤ 100000) (hn : 0 ≤ now) (hv : 1 ≤ v ∧ v ≤ 100000) (hs : now + v ≤ 1000000000) : codOk ⟨t, v, now + v, false, 0, 0⟩ = true := ok_mk_calm (by dsimp only; omega) rfl ⟨rfl, rfl⟩
theorem drop_ok (ht : 0 ≤ t ∧ t ≤ 100000) (hn : 0 ≤ now) (hv : 1 ≤ v ∧ v ≤ 100000) (hs : now + v + v ≤ 1000000000) : codOk ⟨t, v, now + v, true, now + v + v, 1⟩ = true := ok_mk_drop (by dsimp only; omega) rfl (by dsimp only; omega)
/-- Where the next one's time has come one at least goes. -/
theorem looks_some (ht : 0 ≤ t) (ws : List Int) (hl : now + v + v ≤ now + 3 * v) : 1 ≤ (looks (now + 3 * v) ⟨t, v, now + v, true, now + v + v, 1⟩ (t :: ws)).2 := by
  have e : (see ⟨t, v, now + v, true, now + v + v, 1⟩ (now + 3 * v) t).2 = true := by
    unfold see
    dsimp only
    rw [if_neg (by omega), if_neg (by simp), if_pos hl]
  unfold looks
  rw [if_pos e]
  omega
end
end Go.Proofs.Ytdgkmiknnelddaa.CodFacts
