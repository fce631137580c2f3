/- Plain facts on lines of numbers: the decimal digits of each, with blanks between. -/
import Derived.WalkKit
import Derived.Lib.ItoaNum
import Derived.Lib.Join
import Derived.Test.YtcpekobacoijdaaDoorTextMath
namespace Go.Proofs.YtcpekobacoijdaaDoor.LineMath
open Go.Lib

/-- Numbers as a line, with blanks between. -/
def nums (ns : List Nat) : List UInt8 := join (ns.map decDigits) [32]

/-- One number more behind a line. -/
def lineStep (s : List UInt8) (n : Nat) : List UInt8 := (if s = [] then [] else s ++ [32]) ++ decDigits n

/-- Numbers behind a line. -/
def lineFrom (s : List UInt8) : List Nat → List UInt8
  | [] => s
  | n :: r => lineFrom (lineStep s n) r

theorem lineFrom_snoc : ∀ (ns : List Nat) (s : List UInt8) (n : Nat), lineFrom s (ns ++ [n]) = lineStep (lineFrom s ns) n
  | [], _, _ => rfl
  | x :: r, s, n => lineFrom_snoc r (lineStep s x) n

theorem lineFrom_take (s : List UInt8) (ns : List Nat) (k : Nat) (h : k < ns.length) : lineFrom s (ns.take (k + 1)) = lineStep (lineFrom s (ns.take k)) ns[k] := by
  rw [List.take_add_one, List.getElem?_eq_getElem h]
  exact lineFrom_snoc _ _ _

theorem step_ne (s : List UInt8) (n : Nat) : lineStep s n ≠ [] := by
  unfold lineStep
  intro h
  exact TextMath.dec_ne_nil n (List.append_eq_nil_iff.1 h).2

theorem lineFrom_some : ∀ (ns : List Nat) (s : List UInt8), s ≠ [] → lineFrom s ns = s ++ joinTail [32] (ns.map decDigits)
  | [], s, _ => by simp [lineFrom, joinTail]
  | n :: r, s, h => by
    show lineFrom (lineStep s n) r = _
    rw [lineFrom_some r _ (step_ne s n)]
    simp [lineStep, h, joinTail]

theorem lineFrom_none (n : Nat) (r : List Nat) : lineFrom [] (n :: r) = nums (n :: r) := by
  show lineFrom (lineStep [] n) r = _
  rw [lineFrom_some r _ (step_ne [] n)]
  simp [nums, List.map_cons, join_cons, lineStep]

theorem lineFrom_word (s : List UInt8) (n : Nat) (r : List Nat) (h : s ≠ []) : lineFrom s (n :: r) = s ++ [32] ++ nums (n :: r) := by
  rw [lineFrom_some _ _ h]
  simp [nums, List.map_cons, join_cons, joinTail]

theorem dec_len (k n : Nat) (h : n < 10 ^ (k + 1)) : (decDigits n).length ≤ k + 1 := by
  induction k generalizing n with
  | zero => rw [decDigits_one (by simpa using h)]; simp
  | succ k ih =>
    by_cases h9 : n < 10
    · rw [decDigits_one h9]; simp
    · rw [decDigits, dif_neg h9, List.length_append]
      have := ih (n / 10) (by rw [Nat.pow_succ] at h; omega)
      simp
      omega

theorem dec_len13 (n : Nat) (h : n ≤ 1000000000000) : (decDigits n).length ≤ 13 := dec_len 12 n (by omega)

theorem step_len (s : List UInt8) (n : Nat) (h : n ≤ 1000000000000) : (lineStep s n).length ≤ s.length + 14 := by
  have := dec_len13 n h
  unfold lineStep
  split <;> simp <;> omega

theorem line_len : ∀ (ns : List Nat) (s : List UInt8), (∀ n ∈ ns, n ≤ 1000000000000) → (lineFrom s ns).length ≤ s.length + 14 * ns.length
  | [], s, _ => by simp [lineFrom]
  | n :: r, s, h => by
    have h1 := line_len r (lineStep s n) (fun x hx => h x (List.mem_cons_of_mem _ hx))
    have h2 := step_len s n (h n List.mem_cons_self)
    show (lineFrom (lineStep s n) r).length ≤ _
    simp
    omega

theorem nums_len (n : Nat) (r : List Nat) (h : ∀ x ∈ n :: r, x ≤ 1000000000000) : (nums (n :: r)).length ≤ 14 * (r.length + 1) := by
  rw [← lineFrom_none]
  have := line_len (n :: r) [] h
  simpa using this
end Go.Proofs.YtcpekobacoijdaaDoor.LineMath
