/-
  No cell of these rows narrows 'for every input' (looked for: loops, veiled, ifaces, maps, wideKeys, modest, calm, conditions, laid).
  DERIVED. THE GIVEN ROWS OF THIS SEAT. 6 by the template 'for every input the law returns true; each argument reads behind the call as it read before'; 0 by the template 'total and deterministic' (their statements: YtdmjffkcjkcdnaaTotals.lean).
  GIVEN WITH THE SEED: the statements are not yours to turn. If you find one false, say at which input.
  Laid BY PROGRAM, IN A SANDBOX (cutbox-rows.mjs): the forced cells as the released guide's own fill.sh prints them over the translation ca433608c9891638… (all of the seat's roots in one cut). By AI agents, Wed Nov 11 2026. No macro, syntax, notation, axiom, sorry.
-/
import Derived.Test.YtdmjffkcjkcdnaaChecked
import GoSem.Claim
import GoSem.ClaimJoined
import GoSem.ClaimMapViews
import Derived.JoinedTies
import Derived.KernelRfl
namespace Go.Proofs.Ytdmjffkcjkcdnaa
/- THE CELL 'sum', in the pinned program and in every row, IS THE sha256 OF THE DUMP (.gsa) THAT YtdmjffkcjkcdnaaProg.lean LOADS. Nothing in Lean hashes anything: it is a label: what it is worth is what the hold of that sum in a sandbox is worth. -/
noncomputable def Try.pinned : Pinned := { name := "ytdmjffkcjkcdnaa", sum := "ca433608c989163836ba0bb1e73b94d59f46724d0dbc54a11bae34079fe40bb9", checked := Try.checked }
namespace Rows
def none {H : Type} : Left H := { results := [], args := [] }

/-- 'laws.FnExactSlotOk': WHATEVER THE INPUT: true; the input reads as it did. -/
def fnExactSlotOkSpec : ChangeSpec := { name := "fnExactSlotOk", fn := fun _ => fun
  | [d] => { results := [.lit (.bool true)], args := [d] }
  | _ => none }
def fnExactSlotOkRow : OpenClaim := { program := "ytdmjffkcjkcdnaa", sum := "ca433608c989163836ba0bb1e73b94d59f46724d0dbc54a11bae34079fe40bb9", func := "loop.example/g00685/laws.FnExactSlotOk", spec := "fnExactSlotOk", apart := false }
def FnExactSlotOkSaid : Prop := fnExactSlotOkRow.holds Try.pinned (OpenSpec.ofChange fnExactSlotOkSpec)

/-- ITS FALSE NEIGHBOUR: 'it returns false'. Refute it at one input. -/
def fnExactSlotOkWrong : ChangeSpec := { name := "fnExactSlotOk", fn := fun _ => fun
  | [d] => { results := [.lit (.bool false)], args := [d] }
  | _ => none }
def FnExactSlotOkWrongFalsely : Prop := fnExactSlotOkRow.holds Try.pinned (OpenSpec.ofChange fnExactSlotOkWrong)

/-- 'laws.FnExactLedgerOk': WHATEVER THE INPUT: true; the input reads as it did. -/
def fnExactLedgerOkSpec : ChangeSpec := { name := "fnExactLedgerOk", fn := fun _ => fun
  | [d] => { results := [.lit (.bool true)], args := [d] }
  | _ => none }
def fnExactLedgerOkRow : OpenClaim := { program := "ytdmjffkcjkcdnaa", sum := "ca433608c989163836ba0bb1e73b94d59f46724d0dbc54a11bae34079fe40bb9", func := "loop.example/g00685/laws.FnExactLedgerOk", spec := "fnExactLedgerOk", unfollowed := true, recurses := true, apart := false }
def FnExactLedgerOkSaid : Prop := fnExactLedgerOkRow.holds Try.pinned (OpenSpec.ofChange fnExactLedgerOkSpec)

/-- ITS FALSE NEIGHBOUR: 'it returns false'. Refute it at one input. -/
def fnExactLedgerOkWrong : ChangeSpec := { name := "fnExactLedgerOk", fn := fun _ => fun
  | [d] => { results := [.lit (.bool false)], args := [d] }
  | _ => none }
def FnExactLedgerOkWrongFalsely : Prop := fnExactLedgerOkRow.holds Try.pinned (OpenSpec.ofChange fnExactLedgerOkWrong)

/-- 'laws.FnExactFlying': WHATEVER THE INPUT: true; the input reads as it did. -/
def fnExactFlyingSpec : ChangeSpec := { name := "fnExactFlying", fn := fun _ => fun
  | [d] => { results := [.lit (.bool true)], args := [d] }
  | _ => none }
def fnExactFlyingRow : OpenClaim := { program := "ytdmjffkcjkcdnaa", sum := "ca433608c989163836ba0bb1e73b94d59f46724d0dbc54a11bae34079fe40bb9", func := "loop.example/g00685/laws.FnExactFlying", spec := "fnExactFlying", unfollowed := true, recurses := true, apart := false }
def FnExactFlyingSaid : Prop := fnExactFlyingRow.holds Try.pinned (OpenSpec.ofChange fnExactFlyingSpec)

/-- ITS FALSE NEIGHBOUR: 'it returns false'. Refute it at one input. -/
def fnExactFlyingWrong : ChangeSpec := { name := "fnExactFlying", fn := fun _ => fun
  | [d] => { results := [.lit (.bool false)], args := [d] }
  | _ => none }
def FnExactFlyingWrongFalsely : Prop := fnExactFlyingRow.holds Try.pinned (OpenSpec.ofChange fnExactFlyingWrong)

/-- 'laws.FnExactFlyingOf': WHATEVER THE INPUT: true; the input reads as it did. -/
def fnExactFlyingOfSpec : ChangeSpec := { name := "fnExactFlyingOf", fn := fun _ => fun
  | [d1, d2] => { results := [.lit (.bool true)], args := [d1, d2] }
  | _ => none }
def fnExactFlyingOfRow : OpenClaim := { program := "ytdmjffkcjkcdnaa", sum := "ca433608c989163836ba0bb1e73b94d59f46724d0dbc54a11bae34079fe40bb9", func := "loop.example/g00685/laws.FnExactFlyingOf", spec := "fnExactFlyingOf", unfollowed := true, recurses := true, apart := false }
def FnExactFlyingOfSaid : Prop := fnExactFlyingOfRow.holds Try.pinned (OpenSpec.ofChange fnExactFlyingOfSpec)

/-- ITS FALSE NEIGHBOUR: 'it returns false'. Refute it at one input. -/
def fnExactFlyingOfWrong : ChangeSpec := { name := "fnExactFlyingOf", fn := fun _ => fun
  | [d1, d2] => { results := [.lit (.bool false)], args := [d1, d2] }
  | _ => none }
def FnExactFlyingOfWrongFalsely : Prop := fnExactFlyingOfRow.holds Try.pinned (OpenSpec.ofChange fnExactFlyingOfWrong)

/-- 'laws.FnExactGrant': WHATEVER THE INPUT: true; the input reads as it did. -/
def fnExactGrantSpec : ChangeSpec := { name := "fnExactGrant", fn := fun _ => fun
  | [d1, d2, d3, d4] => { results := [.lit (.bool true)], args := [d1, d2, d3, d4] }
  | _ => none }
def fnExactGrantRow : OpenClaim := { program := "ytdmjffkcjkcdnaa", sum := "ca433608c989163836ba0bb1e73b94d59f46724d0dbc54a11bae34079fe40bb9", func := "loop.example/g00685/laws.FnExactGrant", spec := "fnExactGrant", unfollowed := true, recurses := true, apart := false }
def FnExactGrantSaid : Prop := fnExactGrantRow.holds Try.pinned (OpenSpec.ofChange fnExactGrantSpec)

/-- ITS FALSE NEIGHBOUR: 'it returns false'. Refute it at one input. -/
def fnExactGrantWrong : ChangeSpec := { name := "fnExactGrant", fn := fun _ => fun
  | [d1, d2, d3, d4] => { results := [.lit (.bool false)], args := [d1, d2, d3, d4] }
  | _ => none }
def FnExactGrantWrongFalsely : Prop := fnExactGrantRow.holds Try.pinned (OpenSpec.ofChange fnExactGrantWrong)

/-- 'laws.FnExactPermitOf': WHATEVER THE INPUT: true; the input reads as it did. -/
def fnExactPermitOfSpec : ChangeSpec := { name := "fnExactPermitOf", fn := fun _ => fun
  | [d1, d2] => { results := [.lit (.bool true)], args := [d1, d2] }
  | _ => none }
def fnExactPermitOfRow : OpenClaim := { program := "ytdmjffkcjkcdnaa", sum := "ca433608c989163836ba0bb1e73b94d59f46724d0dbc54a11bae34079fe40bb9", func := "loop.example/g00685/laws.FnExactPermitOf", spec := "fnExactPermitOf", unfollowed := true, recurses := true, apart := false }
def FnExactPermitOfSaid : Prop := fnExactPermitOfRow.holds Try.pinned (OpenSpec.ofChange fnExactPermitOfSpec)

/-- ITS FALSE NEIGHBOUR: 'it returns false'. Refute it at one input. -/
def fnExactPermitOfWrong : ChangeSpec := { name := "fnExactPermitOf", fn := fun _ => fun
  | [d1, d2] => { results := [.lit (.bool false)], args := [d1, d2] }
  | _ => none }
def FnExactPermitOfWrongFalsely : Prop := fnExactPermitOfRow.holds Try.pinned (OpenSpec.ofChange fnExactPermitOfWrong)

/- THE SECOND FORM. 'bulk': how many values and letters a reading holds, each counted each time it is reached (what is shared counts as often as it is met; a slice's spare places count too). A statement '..UptoSaid' is the law's where the arguments, and the package variables that the reading takes, are together of bulk at most 1048576: NARROWER than '..Said'. Prove '..Said' where nothing that the law and all that it calls make is longer than what came in: it says more and counts as full. Else prove '..UptoSaid'. A law counts once. -/
mutual
def uptoBulk {H : Type} : DataW H → Nat
  | .lit (.string bytes) => bytes.length + 1
  | .lit _ => 1
  | .nil => 1
  | .ptr d => uptoBulk d + 1
  | .slice elems spare => uptoBulkAll elems + uptoBulkAll spare + 1
  | .agg parts => uptoBulkAll parts + 1
  | .iface _ d => uptoBulk d + 1
  | .map entries => uptoBulkEntries entries + 1
  | .held _ => 1
def uptoBulkAll {H : Type} : List (DataW H) → Nat
  | [] => 0
  | d :: r => uptoBulk d + uptoBulkAll r
def uptoBulkEntries {H : Type} : List (Lit × DataW H) → Nat
  | [] => 0
  | x :: r => uptoBulkEntry x + uptoBulkEntries r
def uptoBulkEntry {H : Type} : Lit × DataW H → Nat
  | (.string bytes, d) => bytes.length + uptoBulk d + 1
  | (_, d) => uptoBulk d + 1
 end
def uptoSmall : (H : Type) → List (DataW H) → Bool := fun _ ds => decide (uptoBulkAll ds ≤ 1048576)
def OpenSpec.upto (s : _root_.Go.ChangeSpec) : _root_.Go.OpenSpec := { _root_.Go.OpenSpec.ofChange s with cond := some uptoSmall }

/-- 'laws.FnExactSlotOk', WHERE WHAT IT READS IS OF BULK AT MOST 1048576: true; the input reads as it did. -/
def fnExactSlotOkUptoRow : OpenClaim := { program := "ytdmjffkcjkcdnaa", sum := "ca433608c989163836ba0bb1e73b94d59f46724d0dbc54a11bae34079fe40bb9", func := "loop.example/g00685/laws.FnExactSlotOk", spec := "fnExactSlotOk", apart := false, narrowed := true }
def FnExactSlotOkUptoSaid : Prop := fnExactSlotOkUptoRow.holds Try.pinned (OpenSpec.upto fnExactSlotOkSpec)

/-- 'laws.FnExactLedgerOk', WHERE WHAT IT READS IS OF BULK AT MOST 1048576: true; the input reads as it did. -/
def fnExactLedgerOkUptoRow : OpenClaim := { program := "ytdmjffkcjkcdnaa", sum := "ca433608c989163836ba0bb1e73b94d59f46724d0dbc54a11bae34079fe40bb9", func := "loop.example/g00685/laws.FnExactLedgerOk", spec := "fnExactLedgerOk", unfollowed := true, recurses := true, apart := false, narrowed := true }
def FnExactLedgerOkUptoSaid : Prop := fnExactLedgerOkUptoRow.holds Try.pinned (OpenSpec.upto fnExactLedgerOkSpec)

/-- 'laws.FnExactFlying', WHERE WHAT IT READS IS OF BULK AT MOST 1048576: true; the input reads as it did. -/
def fnExactFlyingUptoRow : OpenClaim := { program := "ytdmjffkcjkcdnaa", sum := "ca433608c989163836ba0bb1e73b94d59f46724d0dbc54a11bae34079fe40bb9", func := "loop.example/g00685/laws.FnExactFlying", spec := "fnExactFlying", unfollowed := true, recurses := true, apart := false, narrowed := true }
def FnExactFlyingUptoSaid : Prop := fnExactFlyingUptoRow.holds Try.pinned (OpenSpec.upto fnExactFlyingSpec)

/-- 'laws.FnExactFlyingOf', WHERE WHAT IT READS IS OF BULK AT MOST 1048576: true; the input reads as it did. -/
def fnExactFlyingOfUptoRow : OpenClaim := { program := "ytdmjffkcjkcdnaa", sum := "ca433608c989163836ba0bb1e73b94d59f46724d0dbc54a11bae34079fe40bb9", func := "loop.example/g00685/laws.FnExactFlyingOf", spec := "fnExactFlyingOf", unfollowed := true, recurses := true, apart := false, narrowed := true }
def FnExactFlyingOfUptoSaid : Prop := fnExactFlyingOfUptoRow.holds Try.pinned (OpenSpec.upto fnExactFlyingOfSpec)

/-- 'laws.FnExactGrant', WHERE WHAT IT READS IS OF BULK AT MOST 1048576: true; the input reads as it did. -/
def fnExactGrantUptoRow : OpenClaim := { program := "ytdmjffkcjkcdnaa", sum := "ca433608c989163836ba0bb1e73b94d59f46724d0dbc54a11bae34079fe40bb9", func := "loop.example/g00685/laws.FnExactGrant", spec := "fnExactGrant", unfollowed := true, recurses := true, apart := false, narrowed := true }
def FnExactGrantUptoSaid : Prop := fnExactGrantUptoRow.holds Try.pinned (OpenSpec.upto fnExactGrantSpec)

/-- 'laws.FnExactPermitOf', WHERE WHAT IT READS IS OF BULK AT MOST 1048576: true; the input reads as it did. -/
def fnExactPermitOfUptoRow : OpenClaim := { program := "ytdmjffkcjkcdnaa", sum := "ca433608c989163836ba0bb1e73b94d59f46724d0dbc54a11bae34079fe40bb9", func := "loop.example/g00685/laws.FnExactPermitOf", spec := "fnExactPermitOf", unfollowed := true, recurses := true, apart := false, narrowed := true }
def FnExactPermitOfUptoSaid : Prop := fnExactPermitOfUptoRow.holds Try.pinned (OpenSpec.upto fnExactPermitOfSpec)

end Rows
end Go.Proofs.Ytdmjffkcjkcdnaa
