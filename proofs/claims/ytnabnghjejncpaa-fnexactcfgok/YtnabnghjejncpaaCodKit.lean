/- What a queue that may be slow is, and what its functions answer, as whole numbers; no condition. -/
import Derived.Test.YtnabnghjejncpaaRows
import Derived.WalkKit
namespace Go.Proofs.Ytnabnghjejncpaa.CodKit
open Go.RowKit
set_option linter.unusedVariables false

/-- The struct Codel. -/
structure Cod where
  x0 : Int
  x1 : Int
  x2 : Int
  x3 : Bool
  x4 : Int
  x5 : Int

def cells (s : Cod) : List Value := [.int .i64 s.x0, .int .i64 s.x1, .int .i64 s.x2, .bool s.x3, .int .i64 s.x4, .int .i64 s.x5]
def agg (s : Cod) : Value := .agg #[.int .i64 s.x0, .int .i64 s.x1, .int .i64 s.x2, .bool s.x3, .int .i64 s.x4, .int .i64 s.x5]
def zero : Cod := ⟨0, 0, 0, false, 0, 0⟩
/-- It is right. -/
def codOk (s : Cod) : Bool := decide (0 ≤ s.x0 ∧ s.x0 ≤ 100000 ∧ 1 ≤ s.x1 ∧ s.x1 ≤ 100000 ∧ 0 ≤ s.x2 ∧ s.x2 ≤ 1000000000 ∧ 0 ≤ s.x4 ∧ s.x4 ≤ 1000000000 ∧ 0 ≤ s.x5 ∧ s.x5 ≤ 100000) && (if s.x3 = true then decide (1 ≤ s.x5 ∧ 0 < s.x2) else decide (s.x4 = 0 ∧ s.x5 = 0))
/-- The root of a number, counted up to. -/
def rootN : Nat → Nat
  | 0 => 0
  | n + 1 => if (rootN n + 1) * (rootN n + 1) ≤ n + 1 then rootN n + 1 else rootN n
def rootI (n : Int) : Int := (rootN n.toNat : Int)
/-- How long until the next one goes. -/
def pace (e c : Int) : Int := if 1 ≤ e ∧ e ≤ 100000 ∧ 1 ≤ c ∧ c ≤ 100000 then (if 1000 * e / rootI (1000000 * c) < 1 then 1 else 1000 * e / rootI (1000000 * c)) else 0
/-- A time and a span behind it. -/
def atime (a b : Int) : Int := if a + b ≤ 1000000000 then a + b else 1000000000
def up1 (n : Int) : Int := if n + 1 ≤ 100000 then n + 1 else 100000
/-- What comes of a look that is right. -/
def see (s : Cod) (now w : Int) : Cod × Bool :=
  if w < 0 ∨ w < s.x0 then (⟨s.x0, s.x1, 0, false, 0, 0⟩, false)
  else if s.x3 = false then (if s.x2 = 0 then (⟨s.x0, s.x1, atime now s.x1, s.x3, s.x4, s.x5⟩, false) else if s.x2 ≤ now then (⟨s.x0, s.x1, s.x2, true, atime now s.x1, 1⟩, true) else (s, false))
  else if s.x4 ≤ now then (⟨s.x0, s.x1, s.x2, s.x3, atime s.x4 (pace s.x1 (up1 s.x5)), up1 s.x5⟩, true) else (s, false)
theorem cells_len (s : Cod) : (cells s).length = 6 := rfl
end Go.Proofs.Ytnabnghjejncpaa.CodKit
