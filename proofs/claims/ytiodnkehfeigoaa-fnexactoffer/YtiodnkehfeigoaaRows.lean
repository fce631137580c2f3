/-
  No cell of these rows narrows 'for every input' (looked for: loops, veiled, ifaces, maps, wideKeys, modest, calm, conditions, laid).
  DERIVED. THE GIVEN ROWS OF THIS SEAT. 8 by the template 'for every input the law returns true; each argument reads behind the call as it read before'; 0 by the template 'total and deterministic' (their statements: YtiodnkehfeigoaaTotals.lean).
  GIVEN WITH THE SEED: the statements are not yours to turn. If you find one false, say at which input.
  Laid BY PROGRAM, IN A SANDBOX (cutbox-rows.mjs): the forced cells as the released guide's own fill.sh prints them over the translation c88faacf3e1c14b1… (all of the seat's roots in one cut). By AI agents, Wed Nov 11 2026. No macro, syntax, notation, axiom, sorry.
-/
import Derived.Test.YtiodnkehfeigoaaChecked
import GoSem.Claim
import GoSem.ClaimJoined
import GoSem.ClaimMapViews
import Derived.JoinedTies
import Derived.KernelRfl
namespace Go.Proofs.Ytiodnkehfeigoaa
/- THE CELL 'sum', in the pinned program and in every row, IS THE sha256 OF THE DUMP (.gsa) THAT YtiodnkehfeigoaaProg.lean LOADS. Nothing in Lean hashes anything: it is a label: what it is worth is what the hold of that sum in a sandbox is worth. -/
noncomputable def Try.pinned : Pinned := { name := "ytiodnkehfeigoaa", sum := "c88faacf3e1c14b1a67f810a3755b5257f624008cb81f4be5dd90117df90dc7c", checked := Try.checked }
namespace Rows
def none {H : Type} : Left H := { results := [], args := [] }

/-- 'laws.FnExactQueueOk': WHATEVER THE INPUT: true; the input reads as it did. -/
def fnExactQueueOkSpec : ChangeSpec := { name := "fnExactQueueOk", fn := fun _ => fun
  | [d] => { results := [.lit (.bool true)], args := [d] }
  | _ => none }
def fnExactQueueOkRow : OpenClaim := { program := "ytiodnkehfeigoaa", sum := "c88faacf3e1c14b1a67f810a3755b5257f624008cb81f4be5dd90117df90dc7c", func := "loop.example/g00685/laws.FnExactQueueOk", spec := "fnExactQueueOk", unfollowed := true, recurses := true, apart := false }
def FnExactQueueOkSaid : Prop := fnExactQueueOkRow.holds Try.pinned (OpenSpec.ofChange fnExactQueueOkSpec)

/-- ITS FALSE NEIGHBOUR: 'it returns false'. Refute it at one input. -/
def fnExactQueueOkWrong : ChangeSpec := { name := "fnExactQueueOk", fn := fun _ => fun
  | [d] => { results := [.lit (.bool false)], args := [d] }
  | _ => none }
def FnExactQueueOkWrongFalsely : Prop := fnExactQueueOkRow.holds Try.pinned (OpenSpec.ofChange fnExactQueueOkWrong)

/-- 'laws.FnExactQueueNew': WHATEVER THE INPUT: true; the input reads as it did. -/
def fnExactQueueNewSpec : ChangeSpec := { name := "fnExactQueueNew", fn := fun _ => fun
  | [d] => { results := [.lit (.bool true)], args := [d] }
  | _ => none }
def fnExactQueueNewRow : OpenClaim := { program := "ytiodnkehfeigoaa", sum := "c88faacf3e1c14b1a67f810a3755b5257f624008cb81f4be5dd90117df90dc7c", func := "loop.example/g00685/laws.FnExactQueueNew", spec := "fnExactQueueNew", apart := false }
def FnExactQueueNewSaid : Prop := fnExactQueueNewRow.holds Try.pinned (OpenSpec.ofChange fnExactQueueNewSpec)

/-- ITS FALSE NEIGHBOUR: 'it returns false'. Refute it at one input. -/
def fnExactQueueNewWrong : ChangeSpec := { name := "fnExactQueueNew", fn := fun _ => fun
  | [d] => { results := [.lit (.bool false)], args := [d] }
  | _ => none }
def FnExactQueueNewWrongFalsely : Prop := fnExactQueueNewRow.holds Try.pinned (OpenSpec.ofChange fnExactQueueNewWrong)

/-- 'laws.FnExactOffer': WHATEVER THE INPUT: true; the input reads as it did. -/
def fnExactOfferSpec : ChangeSpec := { name := "fnExactOffer", fn := fun _ => fun
  | [d1, d2] => { results := [.lit (.bool true)], args := [d1, d2] }
  | _ => none }
def fnExactOfferRow : OpenClaim := { program := "ytiodnkehfeigoaa", sum := "c88faacf3e1c14b1a67f810a3755b5257f624008cb81f4be5dd90117df90dc7c", func := "loop.example/g00685/laws.FnExactOffer", spec := "fnExactOffer", unfollowed := true, recurses := true, apart := false }
def FnExactOfferSaid : Prop := fnExactOfferRow.holds Try.pinned (OpenSpec.ofChange fnExactOfferSpec)

/-- ITS FALSE NEIGHBOUR: 'it returns false'. Refute it at one input. -/
def fnExactOfferWrong : ChangeSpec := { name := "fnExactOffer", fn := fun _ => fun
  | [d1, d2] => { results := [.lit (.bool false)], args := [d1, d2] }
  | _ => none }
def FnExactOfferWrongFalsely : Prop := fnExactOfferRow.holds Try.pinned (OpenSpec.ofChange fnExactOfferWrong)

/-- 'laws.FnExactPull': WHATEVER THE INPUT: true; the input reads as it did. -/
def fnExactPullSpec : ChangeSpec := { name := "fnExactPull", fn := fun _ => fun
  | [d1, d2] => { results := [.lit (.bool true)], args := [d1, d2] }
  | _ => none }
def fnExactPullRow : OpenClaim := { program := "ytiodnkehfeigoaa", sum := "c88faacf3e1c14b1a67f810a3755b5257f624008cb81f4be5dd90117df90dc7c", func := "loop.example/g00685/laws.FnExactPull", spec := "fnExactPull", unfollowed := true, recurses := true, apart := false }
def FnExactPullSaid : Prop := fnExactPullRow.holds Try.pinned (OpenSpec.ofChange fnExactPullSpec)

/-- ITS FALSE NEIGHBOUR: 'it returns false'. Refute it at one input. -/
def fnExactPullWrong : ChangeSpec := { name := "fnExactPull", fn := fun _ => fun
  | [d1, d2] => { results := [.lit (.bool false)], args := [d1, d2] }
  | _ => none }
def FnExactPullWrongFalsely : Prop := fnExactPullRow.holds Try.pinned (OpenSpec.ofChange fnExactPullWrong)

/-- 'laws.FnExactOfTier': WHATEVER THE INPUT: true; the input reads as it did. -/
def fnExactOfTierSpec : ChangeSpec := { name := "fnExactOfTier", fn := fun _ => fun
  | [d1, d2] => { results := [.lit (.bool true)], args := [d1, d2] }
  | _ => none }
def fnExactOfTierRow : OpenClaim := { program := "ytiodnkehfeigoaa", sum := "c88faacf3e1c14b1a67f810a3755b5257f624008cb81f4be5dd90117df90dc7c", func := "loop.example/g00685/laws.FnExactOfTier", spec := "fnExactOfTier", unfollowed := true, recurses := true, apart := false }
def FnExactOfTierSaid : Prop := fnExactOfTierRow.holds Try.pinned (OpenSpec.ofChange fnExactOfTierSpec)

/-- ITS FALSE NEIGHBOUR: 'it returns false'. Refute it at one input. -/
def fnExactOfTierWrong : ChangeSpec := { name := "fnExactOfTier", fn := fun _ => fun
  | [d1, d2] => { results := [.lit (.bool false)], args := [d1, d2] }
  | _ => none }
def FnExactOfTierWrongFalsely : Prop := fnExactOfTierRow.holds Try.pinned (OpenSpec.ofChange fnExactOfTierWrong)

/-- 'laws.FnExactHeads': WHATEVER THE INPUT: true; the input reads as it did. -/
def fnExactHeadsSpec : ChangeSpec := { name := "fnExactHeads", fn := fun _ => fun
  | [d] => { results := [.lit (.bool true)], args := [d] }
  | _ => none }
def fnExactHeadsRow : OpenClaim := { program := "ytiodnkehfeigoaa", sum := "c88faacf3e1c14b1a67f810a3755b5257f624008cb81f4be5dd90117df90dc7c", func := "loop.example/g00685/laws.FnExactHeads", spec := "fnExactHeads", unfollowed := true, recurses := true, apart := false }
def FnExactHeadsSaid : Prop := fnExactHeadsRow.holds Try.pinned (OpenSpec.ofChange fnExactHeadsSpec)

/-- ITS FALSE NEIGHBOUR: 'it returns false'. Refute it at one input. -/
def fnExactHeadsWrong : ChangeSpec := { name := "fnExactHeads", fn := fun _ => fun
  | [d] => { results := [.lit (.bool false)], args := [d] }
  | _ => none }
def FnExactHeadsWrongFalsely : Prop := fnExactHeadsRow.holds Try.pinned (OpenSpec.ofChange fnExactHeadsWrong)

/-- 'laws.FnExactLate': WHATEVER THE INPUT: true; the input reads as it did. -/
def fnExactLateSpec : ChangeSpec := { name := "fnExactLate", fn := fun _ => fun
  | [d1, d2, d3] => { results := [.lit (.bool true)], args := [d1, d2, d3] }
  | _ => none }
def fnExactLateRow : OpenClaim := { program := "ytiodnkehfeigoaa", sum := "c88faacf3e1c14b1a67f810a3755b5257f624008cb81f4be5dd90117df90dc7c", func := "loop.example/g00685/laws.FnExactLate", spec := "fnExactLate", unfollowed := true, recurses := true, apart := false }
def FnExactLateSaid : Prop := fnExactLateRow.holds Try.pinned (OpenSpec.ofChange fnExactLateSpec)

/-- ITS FALSE NEIGHBOUR: 'it returns false'. Refute it at one input. -/
def fnExactLateWrong : ChangeSpec := { name := "fnExactLate", fn := fun _ => fun
  | [d1, d2, d3] => { results := [.lit (.bool false)], args := [d1, d2, d3] }
  | _ => none }
def FnExactLateWrongFalsely : Prop := fnExactLateRow.holds Try.pinned (OpenSpec.ofChange fnExactLateWrong)

/-- 'laws.FnExactFirst': WHATEVER THE INPUT: true; the input reads as it did. -/
def fnExactFirstSpec : ChangeSpec := { name := "fnExactFirst", fn := fun _ => fun
  | [d1, d2, d3] => { results := [.lit (.bool true)], args := [d1, d2, d3] }
  | _ => none }
def fnExactFirstRow : OpenClaim := { program := "ytiodnkehfeigoaa", sum := "c88faacf3e1c14b1a67f810a3755b5257f624008cb81f4be5dd90117df90dc7c", func := "loop.example/g00685/laws.FnExactFirst", spec := "fnExactFirst", unfollowed := true, recurses := true, apart := false }
def FnExactFirstSaid : Prop := fnExactFirstRow.holds Try.pinned (OpenSpec.ofChange fnExactFirstSpec)

/-- ITS FALSE NEIGHBOUR: 'it returns false'. Refute it at one input. -/
def fnExactFirstWrong : ChangeSpec := { name := "fnExactFirst", fn := fun _ => fun
  | [d1, d2, d3] => { results := [.lit (.bool false)], args := [d1, d2, d3] }
  | _ => none }
def FnExactFirstWrongFalsely : Prop := fnExactFirstRow.holds Try.pinned (OpenSpec.ofChange fnExactFirstWrong)

/- THE SECOND FORM. 'bulk': how many values and letters a reading holds, each counted each time it is reached (what is shared counts as often as it is met; a slice's spare places count too). A statement '..UptoSaid' is the law's where the arguments, and the package variables that the reading takes, are together of bulk at most 1048576: NARROWER than '..Said'. Prove '..Said' where nothing that the law and all that it calls make is longer than what came in: it says more and counts as full. Else prove '..UptoSaid'. A law counts once. -/
mutual
def uptoBulk {H : Type} : DataW H → Nat
  | .lit (.string bytes) => bytes.length + 1
  | .lit _ => 1
  | .nil => 1
  | .ptr d => uptoBulk d + 1
  | .slice elems spare => uptoBulkAll elems + uptoBulkAll spare + 1
  | .agg parts => uptoBulkAll parts + 1
  | .iface _ d => uptoBulk d + 1
  | .map entries => uptoBulkEntries entries + 1
  | .held _ => 1
def uptoBulkAll {H : Type} : List (DataW H) → Nat
  | [] => 0
  | d :: r => uptoBulk d + uptoBulkAll r
def uptoBulkEntries {H : Type} : List (Lit × DataW H) → Nat
  | [] => 0
  | x :: r => uptoBulkEntry x + uptoBulkEntries r
def uptoBulkEntry {H : Type} : Lit × DataW H → Nat
  | (.string bytes, d) => bytes.length + uptoBulk d + 1
  | (_, d) => uptoBulk d + 1
 end
def uptoSmall : (H : Type) → List (DataW H) → Bool := fun _ ds => decide (uptoBulkAll ds ≤ 1048576)
def OpenSpec.upto (s : _root_.Go.ChangeSpec) : _root_.Go.OpenSpec := { _root_.Go.OpenSpec.ofChange s with cond := some uptoSmall }

/-- 'laws.FnExactQueueOk', WHERE WHAT IT READS IS OF BULK AT MOST 1048576: true; the input reads as it did. -/
def fnExactQueueOkUptoRow : OpenClaim := { program := "ytiodnkehfeigoaa", sum := "c88faacf3e1c14b1a67f810a3755b5257f624008cb81f4be5dd90117df90dc7c", func := "loop.example/g00685/laws.FnExactQueueOk", spec := "fnExactQueueOk", unfollowed := true, recurses := true, apart := false, narrowed := true }
def FnExactQueueOkUptoSaid : Prop := fnExactQueueOkUptoRow.holds Try.pinned (OpenSpec.upto fnExactQueueOkSpec)

/-- 'laws.FnExactQueueNew', WHERE WHAT IT READS IS OF BULK AT MOST 1048576: true; the input reads as it did. -/
def fnExactQueueNewUptoRow : OpenClaim := { program := "ytiodnkehfeigoaa", sum := "c88faacf3e1c14b1a67f810a3755b5257f624008cb81f4be5dd90117df90dc7c", func := "loop.example/g00685/laws.FnExactQueueNew", spec := "fnExactQueueNew", apart := false, narrowed := true }
def FnExactQueueNewUptoSaid : Prop := fnExactQueueNewUptoRow.holds Try.pinned (OpenSpec.upto fnExactQueueNewSpec)

/-- 'laws.FnExactOffer', WHERE WHAT IT READS IS OF BULK AT MOST 1048576: true; the input reads as it did. -/
def fnExactOfferUptoRow : OpenClaim := { program := "ytiodnkehfeigoaa", sum := "c88faacf3e1c14b1a67f810a3755b5257f624008cb81f4be5dd90117df90dc7c", func := "loop.example/g00685/laws.FnExactOffer", spec := "fnExactOffer", unfollowed := true, recurses := true, apart := false, narrowed := true }
def FnExactOfferUptoSaid : Prop := fnExactOfferUptoRow.holds Try.pinned (OpenSpec.upto fnExactOfferSpec)

/-- 'laws.FnExactPull', WHERE WHAT IT READS IS OF BULK AT MOST 1048576: true; the input reads as it did. -/
def fnExactPullUptoRow : OpenClaim := { program := "ytiodnkehfeigoaa", sum := "c88faacf3e1c14b1a67f810a3755b5257f624008cb81f4be5dd90117df90dc7c", func := "loop.example/g00685/laws.FnExactPull", spec := "fnExactPull", unfollowed := true, recurses := true, apart := false, narrowed := true }
def FnExactPullUptoSaid : Prop := fnExactPullUptoRow.holds Try.pinned (OpenSpec.upto fnExactPullSpec)

/-- 'laws.FnExactOfTier', WHERE WHAT IT READS IS OF BULK AT MOST 1048576: true; the input reads as it did. -/
def fnExactOfTierUptoRow : OpenClaim := { program := "ytiodnkehfeigoaa", sum := "c88faacf3e1c14b1a67f810a3755b5257f624008cb81f4be5dd90117df90dc7c", func := "loop.example/g00685/laws.FnExactOfTier", spec := "fnExactOfTier", unfollowed := true, recurses := true, apart := false, narrowed := true }
def FnExactOfTierUptoSaid : Prop := fnExactOfTierUptoRow.holds Try.pinned (OpenSpec.upto fnExactOfTierSpec)

/-- 'laws.FnExactHeads', WHERE WHAT IT READS IS OF BULK AT MOST 1048576: true; the input reads as it did. -/
def fnExactHeadsUptoRow : OpenClaim := { program := "ytiodnkehfeigoaa", sum := "c88faacf3e1c14b1a67f810a3755b5257f624008cb81f4be5dd90117df90dc7c", func := "loop.example/g00685/laws.FnExactHeads", spec := "fnExactHeads", unfollowed := true, recurses := true, apart := false, narrowed := true }
def FnExactHeadsUptoSaid : Prop := fnExactHeadsUptoRow.holds Try.pinned (OpenSpec.upto fnExactHeadsSpec)

/-- 'laws.FnExactLate', WHERE WHAT IT READS IS OF BULK AT MOST 1048576: true; the input reads as it did. -/
def fnExactLateUptoRow : OpenClaim := { program := "ytiodnkehfeigoaa", sum := "c88faacf3e1c14b1a67f810a3755b5257f624008cb81f4be5dd90117df90dc7c", func := "loop.example/g00685/laws.FnExactLate", spec := "fnExactLate", unfollowed := true, recurses := true, apart := false, narrowed := true }
def FnExactLateUptoSaid : Prop := fnExactLateUptoRow.holds Try.pinned (OpenSpec.upto fnExactLateSpec)

/-- 'laws.FnExactFirst', WHERE WHAT IT READS IS OF BULK AT MOST 1048576: true; the input reads as it did. -/
def fnExactFirstUptoRow : OpenClaim := { program := "ytiodnkehfeigoaa", sum := "c88faacf3e1c14b1a67f810a3755b5257f624008cb81f4be5dd90117df90dc7c", func := "loop.example/g00685/laws.FnExactFirst", spec := "fnExactFirst", unfollowed := true, recurses := true, apart := false, narrowed := true }
def FnExactFirstUptoSaid : Prop := fnExactFirstUptoRow.holds Try.pinned (OpenSpec.upto fnExactFirstSpec)

end Rows
end Go.Proofs.Ytiodnkehfeigoaa
