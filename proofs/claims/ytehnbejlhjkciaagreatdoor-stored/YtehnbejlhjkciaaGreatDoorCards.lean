/-
  DERIVED. GIVEN WITH THE SEED: THE CARDS: each row of YtehnbejlhjkciaaGreatDoorRows.lean that lists a variable, with what it lists TIED to the program's text (the seventh form; the later family's looks); each row that meets fmt, with fmt's text TOLD by the authors' own Lean function (tested against real Go, not proved from fmt's source: count such statements apart). THE CARD IS WHAT COUNTS. Prove the row's statement (the work); the ties are given (YtehnbejlhjkciaaGreatDoorTie.lean); close each card by the builder's one call (the guide's Derived/Test/ToyasCard.lean, 'card_holds'). Laid BY PROGRAM, IN A SANDBOX (cutbox-door.mjs). By AI agents, Wed Nov 11 2026. No macro, syntax, notation, axiom, sorry.
-/
import Derived.Test.YtehnbejlhjkciaaGreatDoorRows
import GoSem.ClaimSeven
namespace Go.Proofs.YtehnbejlhjkciaaGreatDoor
namespace Rows

/-- THE TIED CARD OF 'pixelskeep.Stored'. -/
def storedCard : Claim7 := { stood := { row := storedRow, standIns := [], harness := (true, "dce856f081fce40d769344c2d07ca20d43059eee5ccb5c71ec032d371273fb05"), looks := false }, kinds := [], alts := [], laidByText := true, laidKinds := [.data, .data, .data, .data, .data], laidTests := true, laidLooks := .later }
def StoredCardSaid : Prop := Claim7.holds Tryz.pinned (.plain (OpenSpec.ofChange storedSpec)) storedCard

/-- THE SECOND FORM's CARD OF 'pixelskeep.Stored'. -/
def storedUptoCard : Claim7 := { stood := { row := storedUptoRow, standIns := [], harness := (true, "dce856f081fce40d769344c2d07ca20d43059eee5ccb5c71ec032d371273fb05"), looks := false }, kinds := [], alts := [], laidByText := true, laidKinds := [.data, .data, .data, .data, .data], laidTests := true, laidLooks := .later }
def StoredUptoCardSaid : Prop := Claim7.holds Tryz.pinned (.plain (OpenSpec.upto storedSpec)) storedUptoCard
end Rows
end Go.Proofs.YtehnbejlhjkciaaGreatDoor
