/-
  NARROWER THAN 'FOR EVERY INPUT', by the rows' own cells (each row's printed sentence says how): FnLedger: ifaces, laid.
  DERIVED. THE GIVEN ROWS OF THIS SEAT. 1 by the template 'for every input the law returns true; each argument reads behind the call as it read before'; 0 by the template 'total and deterministic' (their statements: YtacpblhajoblmaaDoorTotals.lean).
  GIVEN WITH THE SEED: the statements are not yours to turn. If you find one false, say at which input.
  Laid BY PROGRAM, IN A SANDBOX (cutbox-rows.mjs): the forced cells as the released guide's own fill.sh prints them over the translation 0508060c4a245b5b… (all of the seat's roots in one cut). By AI agents, Wed Nov 11 2026. No macro, syntax, notation, axiom, sorry.
-/
import Derived.Test.YtacpblhajoblmaaDoorChecked
import GoSem.Claim
import GoSem.ClaimJoined
import GoSem.ClaimMapViews
import Derived.JoinedTies
import Derived.KernelRfl
namespace Go.Proofs.YtacpblhajoblmaaDoor
/- THE CELL 'sum', in the pinned program and in every row, IS THE sha256 OF THE DUMP (.gsa) THAT YtacpblhajoblmaaDoorProg.lean LOADS. Nothing in Lean hashes anything: it is a label: what it is worth is what the hold of that sum in a sandbox is worth. -/
noncomputable def Tryd.pinned : Pinned := { name := "ytacpblhajoblmaadoor", sum := "0508060c4a245b5b27b9de9e479fbf4994436245c491e42034629aca6d2a54b3", checked := Tryd.checked }
namespace Rows
def none {H : Type} : Left H := { results := [], args := [] }

/- WHAT THE LISTED PACKAGE-LEVEL VARIABLES READ AS WHEN THE CALL BEGINS. Each datum BY PROGRAM (the guide's laid-datum.mjs) off the statement by which the dump's own 'gosem.cut.vars' lays the variable. In a bare row this is a premise. The card (YtacpblhajoblmaaDoorCards.lean) ties it to the program's text. -/
def laid_loop_example_g00685_impl_errWrongLedger {H : Type} : DataW H := .iface "*errors.errorString" (.ptr (.agg [.lit (.string [116, 104, 101, 32, 108, 101, 100, 103, 101, 114, 32, 105, 115, 110, 39, 116, 32, 114, 105, 103, 104, 116])]))
def laid_loop_example_g00685_impl_errPermitGone {H : Type} : DataW H := .iface "*errors.errorString" (.ptr (.agg [.lit (.string [116, 104, 101, 32, 112, 101, 114, 109, 105, 116, 32, 105, 115, 32, 110, 111, 32, 109, 111, 114, 101])]))

/-- 'laws.FnLedger': WHATEVER THE INPUT: true; the input reads as it did. -/
def fnLedgerSpec : ChangeSpec := { name := "fnLedger", vars := ["loop.example/g00685/impl.errPermitGone", "loop.example/g00685/impl.errWrongLedger"], fn := fun _ => fun
  | [d, g1, g2] => { results := [.lit (.bool true)], args := [d], vars := [g1, g2] }
  | _ => none }
def fnLedgerRow : OpenClaim := { program := "ytacpblhajoblmaadoor", sum := "0508060c4a245b5b27b9de9e479fbf4994436245c491e42034629aca6d2a54b3", func := "loop.example/g00685/laws.FnLedger", spec := "fnLedger", inPlace := ["internal/reflectlite.TypeOf"], unfollowed := true, recurses := true, named := ["loop.example/g00685/impl.errPermitGone", "loop.example/g00685/impl.errWrongLedger"], ifaces := true, apart := false, laid := [("loop.example/g00685/impl.errWrongLedger", laid_loop_example_g00685_impl_errWrongLedger), ("loop.example/g00685/impl.errPermitGone", laid_loop_example_g00685_impl_errPermitGone)] }
def FnLedgerSaid : Prop := fnLedgerRow.holds Tryd.pinned (OpenSpec.ofChange fnLedgerSpec)

/-- ITS FALSE NEIGHBOUR: 'it returns false'. Refute it at one input. -/
def fnLedgerWrong : ChangeSpec := { name := "fnLedger", vars := ["loop.example/g00685/impl.errPermitGone", "loop.example/g00685/impl.errWrongLedger"], fn := fun _ => fun
  | [d, g1, g2] => { results := [.lit (.bool false)], args := [d], vars := [g1, g2] }
  | _ => none }
def FnLedgerWrongFalsely : Prop := fnLedgerRow.holds Tryd.pinned (OpenSpec.ofChange fnLedgerWrong)

/- THE SECOND FORM. 'bulk': how many values and letters a reading holds, each counted each time it is reached (what is shared counts as often as it is met; a slice's spare places count too). A statement '..UptoSaid' is the law's where the arguments, and the package variables that the reading takes, are together of bulk at most 1048576: NARROWER than '..Said'. Prove '..Said' where nothing that the law and all that it calls make is longer than what came in: it says more and counts as full. Else prove '..UptoSaid'. A law counts once. -/
mutual
def uptoBulk {H : Type} : DataW H → Nat
  | .lit (.string bytes) => bytes.length + 1
  | .lit _ => 1
  | .nil => 1
  | .ptr d => uptoBulk d + 1
  | .slice elems spare => uptoBulkAll elems + uptoBulkAll spare + 1
  | .agg parts => uptoBulkAll parts + 1
  | .iface _ d => uptoBulk d + 1
  | .map entries => uptoBulkEntries entries + 1
  | .held _ => 1
def uptoBulkAll {H : Type} : List (DataW H) → Nat
  | [] => 0
  | d :: r => uptoBulk d + uptoBulkAll r
def uptoBulkEntries {H : Type} : List (Lit × DataW H) → Nat
  | [] => 0
  | x :: r => uptoBulkEntry x + uptoBulkEntries r
def uptoBulkEntry {H : Type} : Lit × DataW H → Nat
  | (.string bytes, d) => bytes.length + uptoBulk d + 1
  | (_, d) => uptoBulk d + 1
 end
def uptoSmall : (H : Type) → List (DataW H) → Bool := fun _ ds => decide (uptoBulkAll ds ≤ 1048576)
def OpenSpec.upto (s : _root_.Go.ChangeSpec) : _root_.Go.OpenSpec := { _root_.Go.OpenSpec.ofChange s with cond := some uptoSmall }

/-- 'laws.FnLedger', WHERE WHAT IT READS IS OF BULK AT MOST 1048576: true; the input reads as it did. -/
def fnLedgerUptoRow : OpenClaim := { program := "ytacpblhajoblmaadoor", sum := "0508060c4a245b5b27b9de9e479fbf4994436245c491e42034629aca6d2a54b3", func := "loop.example/g00685/laws.FnLedger", spec := "fnLedger", inPlace := ["internal/reflectlite.TypeOf"], unfollowed := true, recurses := true, named := ["loop.example/g00685/impl.errPermitGone", "loop.example/g00685/impl.errWrongLedger"], ifaces := true, apart := false, laid := [("loop.example/g00685/impl.errWrongLedger", laid_loop_example_g00685_impl_errWrongLedger), ("loop.example/g00685/impl.errPermitGone", laid_loop_example_g00685_impl_errPermitGone)], narrowed := true }
def FnLedgerUptoSaid : Prop := fnLedgerUptoRow.holds Tryd.pinned (OpenSpec.upto fnLedgerSpec)

end Rows
end Go.Proofs.YtacpblhajoblmaaDoor
