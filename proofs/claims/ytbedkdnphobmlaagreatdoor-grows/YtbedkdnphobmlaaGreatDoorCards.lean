/-
  DERIVED. GIVEN WITH THE SEED: THE CARDS: each row of YtbedkdnphobmlaaGreatDoorRows.lean that lists a variable, with what it lists TIED to the program's text (the seventh form; the later family's looks); each row that meets fmt, with fmt's text TOLD by the authors' own Lean function (tested against real Go, not proved from fmt's source: count such statements apart). THE CARD IS WHAT COUNTS. Prove the row's statement (the work); the ties are given (YtbedkdnphobmlaaGreatDoorTie.lean); close each card by the builder's one call (the guide's Derived/Test/ToyasCard.lean, 'card_holds'). Laid BY PROGRAM, IN A SANDBOX (cutbox-door.mjs). By AI agents, Wed Nov 11 2026. No macro, syntax, notation, axiom, sorry.
-/
import Derived.Test.YtbedkdnphobmlaaGreatDoorRows
import GoSem.ClaimSeven
namespace Go.Proofs.YtbedkdnphobmlaaGreatDoor
namespace Rows

/-- THE TIED CARD OF 'pixelskeep.Round'. -/
def roundCard : Claim7 := { stood := { row := roundRow, standIns := [], harness := (true, "5f6c7f3688ed1b115efa45ea0d3acddfb6b8c805c11b24915e105f706cc6390f"), looks := false }, kinds := [], alts := [], laidByText := true, laidKinds := [.data, .data, .data, .data, .data], laidTests := true, laidLooks := .later }
def RoundCardSaid : Prop := Claim7.holds Tryz.pinned (.plain (OpenSpec.ofChange roundSpec)) roundCard

/-- THE TIED CARD OF 'pixelskeep.Grows'. -/
def growsCard : Claim7 := { stood := { row := growsRow, standIns := [], harness := (true, "5f6c7f3688ed1b115efa45ea0d3acddfb6b8c805c11b24915e105f706cc6390f"), looks := false }, kinds := [], alts := [], laidByText := true, laidKinds := [.data, .data, .data, .data, .data], laidTests := true, laidLooks := .later }
def GrowsCardSaid : Prop := Claim7.holds Tryz.pinned (.plain (OpenSpec.ofChange growsSpec)) growsCard

/-- THE TIED CARD OF 'pixelskeep.Turned'. -/
def turnedCard : Claim7 := { stood := { row := turnedRow, standIns := [], harness := (true, "5f6c7f3688ed1b115efa45ea0d3acddfb6b8c805c11b24915e105f706cc6390f"), looks := false }, kinds := [], alts := [], laidByText := true, laidKinds := [.data, .data, .data, .data, .data], laidTests := true, laidLooks := .later }
def TurnedCardSaid : Prop := Claim7.holds Tryz.pinned (.plain (OpenSpec.ofChange turnedSpec)) turnedCard

/-- THE TIED CARD OF 'pixelskeep.Short'. -/
def shortCard : Claim7 := { stood := { row := shortRow, standIns := [], harness := (true, "5f6c7f3688ed1b115efa45ea0d3acddfb6b8c805c11b24915e105f706cc6390f"), looks := false }, kinds := [], alts := [], laidByText := true, laidKinds := [.data, .data, .data, .data, .data], laidTests := true, laidLooks := .later }
def ShortCardSaid : Prop := Claim7.holds Tryz.pinned (.plain (OpenSpec.ofChange shortSpec)) shortCard

/-- THE TIED CARD OF 'pixelskeep.Behind'. -/
def behindCard : Claim7 := { stood := { row := behindRow, standIns := [], harness := (true, "5f6c7f3688ed1b115efa45ea0d3acddfb6b8c805c11b24915e105f706cc6390f"), looks := false }, kinds := [], alts := [], laidByText := true, laidKinds := [.data, .data, .data, .data, .data], laidTests := true, laidLooks := .later }
def BehindCardSaid : Prop := Claim7.holds Tryz.pinned (.plain (OpenSpec.ofChange behindSpec)) behindCard

/-- THE TIED CARD OF 'pixelskeep.More'. -/
def moreCard : Claim7 := { stood := { row := moreRow, standIns := [], harness := (true, "5f6c7f3688ed1b115efa45ea0d3acddfb6b8c805c11b24915e105f706cc6390f"), looks := false }, kinds := [], alts := [], laidByText := true, laidKinds := [.data, .data, .data, .data, .data], laidTests := true, laidLooks := .later }
def MoreCardSaid : Prop := Claim7.holds Tryz.pinned (.plain (OpenSpec.ofChange moreSpec)) moreCard

/-- THE SECOND FORM's CARD OF 'pixelskeep.Round'. -/
def roundUptoCard : Claim7 := { stood := { row := roundUptoRow, standIns := [], harness := (true, "5f6c7f3688ed1b115efa45ea0d3acddfb6b8c805c11b24915e105f706cc6390f"), looks := false }, kinds := [], alts := [], laidByText := true, laidKinds := [.data, .data, .data, .data, .data], laidTests := true, laidLooks := .later }
def RoundUptoCardSaid : Prop := Claim7.holds Tryz.pinned (.plain (OpenSpec.upto roundSpec)) roundUptoCard

/-- THE SECOND FORM's CARD OF 'pixelskeep.Grows'. -/
def growsUptoCard : Claim7 := { stood := { row := growsUptoRow, standIns := [], harness := (true, "5f6c7f3688ed1b115efa45ea0d3acddfb6b8c805c11b24915e105f706cc6390f"), looks := false }, kinds := [], alts := [], laidByText := true, laidKinds := [.data, .data, .data, .data, .data], laidTests := true, laidLooks := .later }
def GrowsUptoCardSaid : Prop := Claim7.holds Tryz.pinned (.plain (OpenSpec.upto growsSpec)) growsUptoCard

/-- THE SECOND FORM's CARD OF 'pixelskeep.Turned'. -/
def turnedUptoCard : Claim7 := { stood := { row := turnedUptoRow, standIns := [], harness := (true, "5f6c7f3688ed1b115efa45ea0d3acddfb6b8c805c11b24915e105f706cc6390f"), looks := false }, kinds := [], alts := [], laidByText := true, laidKinds := [.data, .data, .data, .data, .data], laidTests := true, laidLooks := .later }
def TurnedUptoCardSaid : Prop := Claim7.holds Tryz.pinned (.plain (OpenSpec.upto turnedSpec)) turnedUptoCard

/-- THE SECOND FORM's CARD OF 'pixelskeep.Short'. -/
def shortUptoCard : Claim7 := { stood := { row := shortUptoRow, standIns := [], harness := (true, "5f6c7f3688ed1b115efa45ea0d3acddfb6b8c805c11b24915e105f706cc6390f"), looks := false }, kinds := [], alts := [], laidByText := true, laidKinds := [.data, .data, .data, .data, .data], laidTests := true, laidLooks := .later }
def ShortUptoCardSaid : Prop := Claim7.holds Tryz.pinned (.plain (OpenSpec.upto shortSpec)) shortUptoCard

/-- THE SECOND FORM's CARD OF 'pixelskeep.Behind'. -/
def behindUptoCard : Claim7 := { stood := { row := behindUptoRow, standIns := [], harness := (true, "5f6c7f3688ed1b115efa45ea0d3acddfb6b8c805c11b24915e105f706cc6390f"), looks := false }, kinds := [], alts := [], laidByText := true, laidKinds := [.data, .data, .data, .data, .data], laidTests := true, laidLooks := .later }
def BehindUptoCardSaid : Prop := Claim7.holds Tryz.pinned (.plain (OpenSpec.upto behindSpec)) behindUptoCard

/-- THE SECOND FORM's CARD OF 'pixelskeep.More'. -/
def moreUptoCard : Claim7 := { stood := { row := moreUptoRow, standIns := [], harness := (true, "5f6c7f3688ed1b115efa45ea0d3acddfb6b8c805c11b24915e105f706cc6390f"), looks := false }, kinds := [], alts := [], laidByText := true, laidKinds := [.data, .data, .data, .data, .data], laidTests := true, laidLooks := .later }
def MoreUptoCardSaid : Prop := Claim7.holds Tryz.pinned (.plain (OpenSpec.upto moreSpec)) moreUptoCard
end Rows
end Go.Proofs.YtbedkdnphobmlaaGreatDoor
