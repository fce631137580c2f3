/-
  No cell of these rows narrows 'for every input' (looked for: loops, veiled, ifaces, maps, wideKeys, modest, calm, conditions, laid).
  DERIVED. THE GIVEN ROWS OF THIS SEAT. 5 by the template 'for every input the law returns true; each argument reads behind the call as it read before'; 0 by the template 'total and deterministic' (their statements: YtflngiakbhjnaaaTotals.lean).
  GIVEN WITH THE SEED: the statements are not yours to turn. If you find one false, say at which input.
  Laid BY PROGRAM, IN A SANDBOX (cutbox-rows.mjs): the forced cells as the released guide's own fill.sh prints them over the translation d4cd2fdf386ff974… (all of the seat's roots in one cut). By AI agents, Wed Nov 11 2026. No macro, syntax, notation, axiom, sorry.
-/
import Derived.Test.YtflngiakbhjnaaaChecked
import GoSem.Claim
import GoSem.ClaimJoined
import GoSem.ClaimMapViews
import Derived.JoinedTies
import Derived.KernelRfl
namespace Go.Proofs.Ytflngiakbhjnaaa
/- THE CELL 'sum', in the pinned program and in every row, IS THE sha256 OF THE DUMP (.gsa) THAT YtflngiakbhjnaaaProg.lean LOADS. Nothing in Lean hashes anything: it is a label: what it is worth is what the hold of that sum in a sandbox is worth. -/
noncomputable def Try.pinned : Pinned := { name := "ytflngiakbhjnaaa", sum := "d4cd2fdf386ff97414a590458e5d8df623ee640143ca33d8dbddbfb954cb05a4", checked := Try.checked }
namespace Rows
def none {H : Type} : Left H := { results := [], args := [] }

/-- 'laws.FnExactCodelOk': WHATEVER THE INPUT: true; the input reads as it did. -/
def fnExactCodelOkSpec : ChangeSpec := { name := "fnExactCodelOk", fn := fun _ => fun
  | [d] => { results := [.lit (.bool true)], args := [d] }
  | _ => none }
def fnExactCodelOkRow : OpenClaim := { program := "ytflngiakbhjnaaa", sum := "d4cd2fdf386ff97414a590458e5d8df623ee640143ca33d8dbddbfb954cb05a4", func := "loop.example/g00685/laws.FnExactCodelOk", spec := "fnExactCodelOk", apart := false }
def FnExactCodelOkSaid : Prop := fnExactCodelOkRow.holds Try.pinned (OpenSpec.ofChange fnExactCodelOkSpec)

/-- ITS FALSE NEIGHBOUR: 'it returns false'. Refute it at one input. -/
def fnExactCodelOkWrong : ChangeSpec := { name := "fnExactCodelOk", fn := fun _ => fun
  | [d] => { results := [.lit (.bool false)], args := [d] }
  | _ => none }
def FnExactCodelOkWrongFalsely : Prop := fnExactCodelOkRow.holds Try.pinned (OpenSpec.ofChange fnExactCodelOkWrong)

/-- 'laws.FnExactCodelNew': WHATEVER THE INPUT: true; the input reads as it did. -/
def fnExactCodelNewSpec : ChangeSpec := { name := "fnExactCodelNew", fn := fun _ => fun
  | [d1, d2] => { results := [.lit (.bool true)], args := [d1, d2] }
  | _ => none }
def fnExactCodelNewRow : OpenClaim := { program := "ytflngiakbhjnaaa", sum := "d4cd2fdf386ff97414a590458e5d8df623ee640143ca33d8dbddbfb954cb05a4", func := "loop.example/g00685/laws.FnExactCodelNew", spec := "fnExactCodelNew", apart := false }
def FnExactCodelNewSaid : Prop := fnExactCodelNewRow.holds Try.pinned (OpenSpec.ofChange fnExactCodelNewSpec)

/-- ITS FALSE NEIGHBOUR: 'it returns false'. Refute it at one input. -/
def fnExactCodelNewWrong : ChangeSpec := { name := "fnExactCodelNew", fn := fun _ => fun
  | [d1, d2] => { results := [.lit (.bool false)], args := [d1, d2] }
  | _ => none }
def FnExactCodelNewWrongFalsely : Prop := fnExactCodelNewRow.holds Try.pinned (OpenSpec.ofChange fnExactCodelNewWrong)

/-- 'laws.FnExactPace': WHATEVER THE INPUT: true; the input reads as it did. -/
def fnExactPaceSpec : ChangeSpec := { name := "fnExactPace", fn := fun _ => fun
  | [d1, d2] => { results := [.lit (.bool true)], args := [d1, d2] }
  | _ => none }
def fnExactPaceRow : OpenClaim := { program := "ytflngiakbhjnaaa", sum := "d4cd2fdf386ff97414a590458e5d8df623ee640143ca33d8dbddbfb954cb05a4", func := "loop.example/g00685/laws.FnExactPace", spec := "fnExactPace", unfollowed := true, recurses := true, apart := false }
def FnExactPaceSaid : Prop := fnExactPaceRow.holds Try.pinned (OpenSpec.ofChange fnExactPaceSpec)

/-- ITS FALSE NEIGHBOUR: 'it returns false'. Refute it at one input. -/
def fnExactPaceWrong : ChangeSpec := { name := "fnExactPace", fn := fun _ => fun
  | [d1, d2] => { results := [.lit (.bool false)], args := [d1, d2] }
  | _ => none }
def FnExactPaceWrongFalsely : Prop := fnExactPaceRow.holds Try.pinned (OpenSpec.ofChange fnExactPaceWrong)

/-- 'laws.FnExactSee': WHATEVER THE INPUT: true; the input reads as it did. -/
def fnExactSeeSpec : ChangeSpec := { name := "fnExactSee", fn := fun _ => fun
  | [d1, d2, d3] => { results := [.lit (.bool true)], args := [d1, d2, d3] }
  | _ => none }
def fnExactSeeRow : OpenClaim := { program := "ytflngiakbhjnaaa", sum := "d4cd2fdf386ff97414a590458e5d8df623ee640143ca33d8dbddbfb954cb05a4", func := "loop.example/g00685/laws.FnExactSee", spec := "fnExactSee", unfollowed := true, recurses := true, apart := false }
def FnExactSeeSaid : Prop := fnExactSeeRow.holds Try.pinned (OpenSpec.ofChange fnExactSeeSpec)

/-- ITS FALSE NEIGHBOUR: 'it returns false'. Refute it at one input. -/
def fnExactSeeWrong : ChangeSpec := { name := "fnExactSee", fn := fun _ => fun
  | [d1, d2, d3] => { results := [.lit (.bool false)], args := [d1, d2, d3] }
  | _ => none }
def FnExactSeeWrongFalsely : Prop := fnExactSeeRow.holds Try.pinned (OpenSpec.ofChange fnExactSeeWrong)

/-- 'laws.FnExactSeeAll': WHATEVER THE INPUT: true; the input reads as it did. -/
def fnExactSeeAllSpec : ChangeSpec := { name := "fnExactSeeAll", fn := fun _ => fun
  | [d1, d2, d3] => { results := [.lit (.bool true)], args := [d1, d2, d3] }
  | _ => none }
def fnExactSeeAllRow : OpenClaim := { program := "ytflngiakbhjnaaa", sum := "d4cd2fdf386ff97414a590458e5d8df623ee640143ca33d8dbddbfb954cb05a4", func := "loop.example/g00685/laws.FnExactSeeAll", spec := "fnExactSeeAll", unfollowed := true, recurses := true, apart := false }
def FnExactSeeAllSaid : Prop := fnExactSeeAllRow.holds Try.pinned (OpenSpec.ofChange fnExactSeeAllSpec)

/-- ITS FALSE NEIGHBOUR: 'it returns false'. Refute it at one input. -/
def fnExactSeeAllWrong : ChangeSpec := { name := "fnExactSeeAll", fn := fun _ => fun
  | [d1, d2, d3] => { results := [.lit (.bool false)], args := [d1, d2, d3] }
  | _ => none }
def FnExactSeeAllWrongFalsely : Prop := fnExactSeeAllRow.holds Try.pinned (OpenSpec.ofChange fnExactSeeAllWrong)

/- THE SECOND FORM. 'bulk': how many values and letters a reading holds, each counted each time it is reached (what is shared counts as often as it is met; a slice's spare places count too). A statement '..UptoSaid' is the law's where the arguments, and the package variables that the reading takes, are together of bulk at most 1048576: NARROWER than '..Said'. Prove '..Said' where nothing that the law and all that it calls make is longer than what came in: it says more and counts as full. Else prove '..UptoSaid'. A law counts once. -/
mutual
def uptoBulk {H : Type} : DataW H → Nat
  | .lit (.string bytes) => bytes.length + 1
  | .lit _ => 1
  | .nil => 1
  | .ptr d => uptoBulk d + 1
  | .slice elems spare => uptoBulkAll elems + uptoBulkAll spare + 1
  | .agg parts => uptoBulkAll parts + 1
  | .iface _ d => uptoBulk d + 1
  | .map entries => uptoBulkEntries entries + 1
  | .held _ => 1
def uptoBulkAll {H : Type} : List (DataW H) → Nat
  | [] => 0
  | d :: r => uptoBulk d + uptoBulkAll r
def uptoBulkEntries {H : Type} : List (Lit × DataW H) → Nat
  | [] => 0
  | x :: r => uptoBulkEntry x + uptoBulkEntries r
def uptoBulkEntry {H : Type} : Lit × DataW H → Nat
  | (.string bytes, d) => bytes.length + uptoBulk d + 1
  | (_, d) => uptoBulk d + 1
 end
def uptoSmall : (H : Type) → List (DataW H) → Bool := fun _ ds => decide (uptoBulkAll ds ≤ 1048576)
def OpenSpec.upto (s : _root_.Go.ChangeSpec) : _root_.Go.OpenSpec := { _root_.Go.OpenSpec.ofChange s with cond := some uptoSmall }

/-- 'laws.FnExactCodelOk', WHERE WHAT IT READS IS OF BULK AT MOST 1048576: true; the input reads as it did. -/
def fnExactCodelOkUptoRow : OpenClaim := { program := "ytflngiakbhjnaaa", sum := "d4cd2fdf386ff97414a590458e5d8df623ee640143ca33d8dbddbfb954cb05a4", func := "loop.example/g00685/laws.FnExactCodelOk", spec := "fnExactCodelOk", apart := false, narrowed := true }
def FnExactCodelOkUptoSaid : Prop := fnExactCodelOkUptoRow.holds Try.pinned (OpenSpec.upto fnExactCodelOkSpec)

/-- 'laws.FnExactCodelNew', WHERE WHAT IT READS IS OF BULK AT MOST 1048576: true; the input reads as it did. -/
def fnExactCodelNewUptoRow : OpenClaim := { program := "ytflngiakbhjnaaa", sum := "d4cd2fdf386ff97414a590458e5d8df623ee640143ca33d8dbddbfb954cb05a4", func := "loop.example/g00685/laws.FnExactCodelNew", spec := "fnExactCodelNew", apart := false, narrowed := true }
def FnExactCodelNewUptoSaid : Prop := fnExactCodelNewUptoRow.holds Try.pinned (OpenSpec.upto fnExactCodelNewSpec)

/-- 'laws.FnExactPace', WHERE WHAT IT READS IS OF BULK AT MOST 1048576: true; the input reads as it did. -/
def fnExactPaceUptoRow : OpenClaim := { program := "ytflngiakbhjnaaa", sum := "d4cd2fdf386ff97414a590458e5d8df623ee640143ca33d8dbddbfb954cb05a4", func := "loop.example/g00685/laws.FnExactPace", spec := "fnExactPace", unfollowed := true, recurses := true, apart := false, narrowed := true }
def FnExactPaceUptoSaid : Prop := fnExactPaceUptoRow.holds Try.pinned (OpenSpec.upto fnExactPaceSpec)

/-- 'laws.FnExactSee', WHERE WHAT IT READS IS OF BULK AT MOST 1048576: true; the input reads as it did. -/
def fnExactSeeUptoRow : OpenClaim := { program := "ytflngiakbhjnaaa", sum := "d4cd2fdf386ff97414a590458e5d8df623ee640143ca33d8dbddbfb954cb05a4", func := "loop.example/g00685/laws.FnExactSee", spec := "fnExactSee", unfollowed := true, recurses := true, apart := false, narrowed := true }
def FnExactSeeUptoSaid : Prop := fnExactSeeUptoRow.holds Try.pinned (OpenSpec.upto fnExactSeeSpec)

/-- 'laws.FnExactSeeAll', WHERE WHAT IT READS IS OF BULK AT MOST 1048576: true; the input reads as it did. -/
def fnExactSeeAllUptoRow : OpenClaim := { program := "ytflngiakbhjnaaa", sum := "d4cd2fdf386ff97414a590458e5d8df623ee640143ca33d8dbddbfb954cb05a4", func := "loop.example/g00685/laws.FnExactSeeAll", spec := "fnExactSeeAll", unfollowed := true, recurses := true, apart := false, narrowed := true }
def FnExactSeeAllUptoSaid : Prop := fnExactSeeAllUptoRow.holds Try.pinned (OpenSpec.upto fnExactSeeAllSpec)

end Rows
end Go.Proofs.Ytflngiakbhjnaaa
