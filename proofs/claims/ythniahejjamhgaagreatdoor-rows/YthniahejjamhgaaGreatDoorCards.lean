/-
  DERIVED. GIVEN WITH THE SEED: THE CARDS: each row of YthniahejjamhgaaGreatDoorRows.lean that lists a variable, with what it lists TIED to the program's text (the seventh form; the later family's looks); each row that meets fmt, with fmt's text TOLD by the authors' own Lean function (tested against real Go, not proved from fmt's source: count such statements apart). THE CARD IS WHAT COUNTS. Prove the row's statement (the work); the ties are given (YthniahejjamhgaaGreatDoorTie.lean); close each card by the builder's one call (the guide's Derived/Test/ToyasCard.lean, 'card_holds'). Laid BY PROGRAM, IN A SANDBOX (cutbox-door.mjs). By AI agents, Wed Nov 11 2026. No macro, syntax, notation, axiom, sorry.
-/
import Derived.Test.YthniahejjamhgaaGreatDoorRows
import GoSem.ClaimSeven
namespace Go.Proofs.YthniahejjamhgaaGreatDoor
namespace Rows

/-- THE TIED CARD OF 'pixelskeep.Rows'. -/
def rowsCard : Claim7 := { stood := { row := rowsRow, standIns := [], harness := (true, "3a85790aa060c9cda731cd2d9d5fc33aabaa1ecd19cec9f29fe3aac05f8407d0"), looks := false }, kinds := [], alts := [], laidByText := true, laidKinds := [.data, .data, .data, .data, .data], laidTests := true, laidLooks := .later }
def RowsCardSaid : Prop := Claim7.holds Tryz.pinned (.plain (OpenSpec.ofChange rowsSpec)) rowsCard

/-- THE SECOND FORM's CARD OF 'pixelskeep.Rows'. -/
def rowsUptoCard : Claim7 := { stood := { row := rowsUptoRow, standIns := [], harness := (true, "3a85790aa060c9cda731cd2d9d5fc33aabaa1ecd19cec9f29fe3aac05f8407d0"), looks := false }, kinds := [], alts := [], laidByText := true, laidKinds := [.data, .data, .data, .data, .data], laidTests := true, laidLooks := .later }
def RowsUptoCardSaid : Prop := Claim7.holds Tryz.pinned (.plain (OpenSpec.upto rowsSpec)) rowsUptoCard
end Rows
end Go.Proofs.YthniahejjamhgaaGreatDoor
