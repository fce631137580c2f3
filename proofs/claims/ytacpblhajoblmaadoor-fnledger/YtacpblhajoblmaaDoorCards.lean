/-
  DERIVED. GIVEN WITH THE SEED: THE CARDS: each row of YtacpblhajoblmaaDoorRows.lean that lists a variable, with what it lists TIED to the program's text (the seventh form; the later family's looks); each row that meets fmt, with fmt's text TOLD by the authors' own Lean function (tested against real Go, not proved from fmt's source: count such statements apart). THE CARD IS WHAT COUNTS. Prove the row's statement (the work); the ties are given (YtacpblhajoblmaaDoorTie.lean); close each card by the builder's one call (the guide's Derived/Test/ToyasCard.lean, 'card_holds'). Laid BY PROGRAM, IN A SANDBOX (cutbox-door.mjs). By AI agents, Wed Nov 11 2026. No macro, syntax, notation, axiom, sorry.
-/
import Derived.Test.YtacpblhajoblmaaDoorRows
import GoSem.ClaimSeven
namespace Go.Proofs.YtacpblhajoblmaaDoor
namespace Rows

/-- THE TIED CARD OF 'laws.FnLedger'. -/
def fnLedgerCard : Claim7 := { stood := { row := fnLedgerRow, standIns := [], harness := (true, "26714c1fcbece57b8dc8cd02ace0e922465478ac0a425469ceb5480edeb3ae41"), looks := true }, kinds := [], alts := [], laidByText := true, laidKinds := [.sentinel, .sentinel], laidTests := true, laidLooks := .later }
def FnLedgerCardSaid : Prop := Claim7.holds Tryd.pinned (.plain (OpenSpec.ofChange fnLedgerSpec)) fnLedgerCard

/-- THE SECOND FORM's CARD OF 'laws.FnLedger'. -/
def fnLedgerUptoCard : Claim7 := { stood := { row := fnLedgerUptoRow, standIns := [], harness := (true, "26714c1fcbece57b8dc8cd02ace0e922465478ac0a425469ceb5480edeb3ae41"), looks := true }, kinds := [], alts := [], laidByText := true, laidKinds := [.sentinel, .sentinel], laidTests := true, laidLooks := .later }
def FnLedgerUptoCardSaid : Prop := Claim7.holds Tryd.pinned (.plain (OpenSpec.upto fnLedgerSpec)) fnLedgerUptoCard
end Rows
end Go.Proofs.YtacpblhajoblmaaDoor
