/-
  NARROWER THAN 'FOR EVERY INPUT', by the rows' own cells (each row's printed sentence says how): Round: laid · Grows: laid · Turned: laid · Short: laid · Behind: laid · More: laid.
  DERIVED. THE GIVEN ROWS OF THIS SEAT. 6 by the template 'for every input the law returns true; each argument reads behind the call as it read before'; 0 by the template 'total and deterministic' (their statements: YtbedkdnphobmlaaGreatDoorTotals.lean).
  GIVEN WITH THE SEED: the statements are not yours to turn. If you find one false, say at which input.
  Laid BY PROGRAM, IN A SANDBOX (cutbox-rows.mjs): the forced cells as the released guide's own fill.sh prints them over the translation 2b495bf0f3fcab45… (all of the seat's roots in one cut). By AI agents, Wed Nov 11 2026. No macro, syntax, notation, axiom, sorry.
-/
import Derived.Test.YtbedkdnphobmlaaGreatDoorChecked
import GoSem.Claim
import GoSem.ClaimJoined
import GoSem.ClaimMapViews
import Derived.JoinedTies
import Derived.KernelRfl
namespace Go.Proofs.YtbedkdnphobmlaaGreatDoor
/- THE CELL 'sum', in the pinned program and in every row, IS THE sha256 OF THE DUMP (.gsa) THAT YtbedkdnphobmlaaGreatDoorProg.lean LOADS. Nothing in Lean hashes anything: it is a label: what it is worth is what the hold of that sum in a sandbox is worth. -/
noncomputable def Tryz.pinned : Pinned := { name := "ytbedkdnphobmlaagreatdoor", sum := "2b495bf0f3fcab45acbcee501b2de5f899df13d6c77ce7b8a019f2a1a007e471", checked := Tryz.checked }
namespace Rows
def none {H : Type} : Left H := { results := [], args := [] }

/- WHAT THE LISTED PACKAGE-LEVEL VARIABLES READ AS WHEN THE CALL BEGINS. Each datum BY PROGRAM (the guide's laid-datum.mjs) off the statement by which the dump's own 'gosem.cut.vars' lays the variable. In a bare row this is a premise. The card (YtbedkdnphobmlaaGreatDoorCards.lean) ties it to the program's text. -/
def laid_pixels_codes_order {H : Type} : DataW H := .agg [.lit (.int .i64 16), .lit (.int .i64 17), .lit (.int .i64 18), .lit (.int .i64 0), .lit (.int .i64 8), .lit (.int .i64 7), .lit (.int .i64 9), .lit (.int .i64 6), .lit (.int .i64 10), .lit (.int .i64 5), .lit (.int .i64 11), .lit (.int .i64 4), .lit (.int .i64 12), .lit (.int .i64 3), .lit (.int .i64 13), .lit (.int .i64 2), .lit (.int .i64 14), .lit (.int .i64 1), .lit (.int .i64 15)]
def laid_pixels_copies_lengths {H : Type} : DataW H := .agg [.lit (.int .i64 3), .lit (.int .i64 4), .lit (.int .i64 5), .lit (.int .i64 6), .lit (.int .i64 7), .lit (.int .i64 8), .lit (.int .i64 9), .lit (.int .i64 10), .lit (.int .i64 11), .lit (.int .i64 13), .lit (.int .i64 15), .lit (.int .i64 17), .lit (.int .i64 19), .lit (.int .i64 23), .lit (.int .i64 27), .lit (.int .i64 31), .lit (.int .i64 35), .lit (.int .i64 43), .lit (.int .i64 51), .lit (.int .i64 59), .lit (.int .i64 67), .lit (.int .i64 83), .lit (.int .i64 99), .lit (.int .i64 115), .lit (.int .i64 131), .lit (.int .i64 163), .lit (.int .i64 195), .lit (.int .i64 227), .lit (.int .i64 258)]
def laid_pixels_copies_lengthBits {H : Type} : DataW H := .agg [.lit (.int .i64 0), .lit (.int .i64 0), .lit (.int .i64 0), .lit (.int .i64 0), .lit (.int .i64 0), .lit (.int .i64 0), .lit (.int .i64 0), .lit (.int .i64 0), .lit (.int .i64 1), .lit (.int .i64 1), .lit (.int .i64 1), .lit (.int .i64 1), .lit (.int .i64 2), .lit (.int .i64 2), .lit (.int .i64 2), .lit (.int .i64 2), .lit (.int .i64 3), .lit (.int .i64 3), .lit (.int .i64 3), .lit (.int .i64 3), .lit (.int .i64 4), .lit (.int .i64 4), .lit (.int .i64 4), .lit (.int .i64 4), .lit (.int .i64 5), .lit (.int .i64 5), .lit (.int .i64 5), .lit (.int .i64 5), .lit (.int .i64 0)]
def laid_pixels_copies_distances {H : Type} : DataW H := .agg [.lit (.int .i64 1), .lit (.int .i64 2), .lit (.int .i64 3), .lit (.int .i64 4), .lit (.int .i64 5), .lit (.int .i64 7), .lit (.int .i64 9), .lit (.int .i64 13), .lit (.int .i64 17), .lit (.int .i64 25), .lit (.int .i64 33), .lit (.int .i64 49), .lit (.int .i64 65), .lit (.int .i64 97), .lit (.int .i64 129), .lit (.int .i64 193), .lit (.int .i64 257), .lit (.int .i64 385), .lit (.int .i64 513), .lit (.int .i64 769), .lit (.int .i64 1025), .lit (.int .i64 1537), .lit (.int .i64 2049), .lit (.int .i64 3073), .lit (.int .i64 4097), .lit (.int .i64 6145), .lit (.int .i64 8193), .lit (.int .i64 12289), .lit (.int .i64 16385), .lit (.int .i64 24577)]
def laid_pixels_passes_grid {H : Type} : DataW H := .agg [.agg [.lit (.int .i64 0), .lit (.int .i64 0), .lit (.int .i64 8), .lit (.int .i64 8), .lit (.int .i64 8), .lit (.int .i64 8)], .agg [.lit (.int .i64 4), .lit (.int .i64 0), .lit (.int .i64 8), .lit (.int .i64 8), .lit (.int .i64 4), .lit (.int .i64 8)], .agg [.lit (.int .i64 0), .lit (.int .i64 4), .lit (.int .i64 4), .lit (.int .i64 8), .lit (.int .i64 4), .lit (.int .i64 4)], .agg [.lit (.int .i64 2), .lit (.int .i64 0), .lit (.int .i64 4), .lit (.int .i64 4), .lit (.int .i64 2), .lit (.int .i64 4)], .agg [.lit (.int .i64 0), .lit (.int .i64 2), .lit (.int .i64 2), .lit (.int .i64 4), .lit (.int .i64 2), .lit (.int .i64 2)], .agg [.lit (.int .i64 1), .lit (.int .i64 0), .lit (.int .i64 2), .lit (.int .i64 2), .lit (.int .i64 1), .lit (.int .i64 2)], .agg [.lit (.int .i64 0), .lit (.int .i64 1), .lit (.int .i64 1), .lit (.int .i64 2), .lit (.int .i64 1), .lit (.int .i64 1)]]

/-- 'pixelskeep.Round': WHATEVER THE INPUT: true; the input reads as it did. -/
def roundSpec : ChangeSpec := { name := "round", fn := fun _ => fun
  | [d1, d2, d3, d4, d5, d6, d7, d8] => { results := [.lit (.bool true)], args := [d1, d2, d3, d4, d5, d6, d7, d8] }
  | _ => none }
def roundRow : OpenClaim := { program := "ytbedkdnphobmlaagreatdoor", sum := "2b495bf0f3fcab45acbcee501b2de5f899df13d6c77ce7b8a019f2a1a007e471", func := "pixels/pixelskeep.Round", spec := "round", named := ["pixels/passes.grid", "pixels/copies.lengths", "pixels/copies.distances", "pixels/codes.order", "pixels/copies.lengthBits"], apart := false, laid := [("pixels/codes.order", laid_pixels_codes_order), ("pixels/copies.lengths", laid_pixels_copies_lengths), ("pixels/copies.lengthBits", laid_pixels_copies_lengthBits), ("pixels/copies.distances", laid_pixels_copies_distances), ("pixels/passes.grid", laid_pixels_passes_grid)] }
def RoundSaid : Prop := roundRow.holds Tryz.pinned (OpenSpec.ofChange roundSpec)

/-- ITS FALSE NEIGHBOUR: 'it returns false'. Refute it at one input. -/
def roundWrong : ChangeSpec := { name := "round", fn := fun _ => fun
  | [d1, d2, d3, d4, d5, d6, d7, d8] => { results := [.lit (.bool false)], args := [d1, d2, d3, d4, d5, d6, d7, d8] }
  | _ => none }
def RoundWrongFalsely : Prop := roundRow.holds Tryz.pinned (OpenSpec.ofChange roundWrong)

/-- 'pixelskeep.Grows': WHATEVER THE INPUT: true; the input reads as it did. -/
def growsSpec : ChangeSpec := { name := "grows", fn := fun _ => fun
  | [d1, d2, d3, d4, d5, d6, d7] => { results := [.lit (.bool true)], args := [d1, d2, d3, d4, d5, d6, d7] }
  | _ => none }
def growsRow : OpenClaim := { program := "ytbedkdnphobmlaagreatdoor", sum := "2b495bf0f3fcab45acbcee501b2de5f899df13d6c77ce7b8a019f2a1a007e471", func := "pixels/pixelskeep.Grows", spec := "grows", named := ["pixels/passes.grid", "pixels/copies.lengths", "pixels/copies.distances", "pixels/codes.order", "pixels/copies.lengthBits"], apart := false, laid := [("pixels/codes.order", laid_pixels_codes_order), ("pixels/copies.lengths", laid_pixels_copies_lengths), ("pixels/copies.lengthBits", laid_pixels_copies_lengthBits), ("pixels/copies.distances", laid_pixels_copies_distances), ("pixels/passes.grid", laid_pixels_passes_grid)] }
def GrowsSaid : Prop := growsRow.holds Tryz.pinned (OpenSpec.ofChange growsSpec)

/-- ITS FALSE NEIGHBOUR: 'it returns false'. Refute it at one input. -/
def growsWrong : ChangeSpec := { name := "grows", fn := fun _ => fun
  | [d1, d2, d3, d4, d5, d6, d7] => { results := [.lit (.bool false)], args := [d1, d2, d3, d4, d5, d6, d7] }
  | _ => none }
def GrowsWrongFalsely : Prop := growsRow.holds Tryz.pinned (OpenSpec.ofChange growsWrong)

/-- 'pixelskeep.Turned': WHATEVER THE INPUT: true; the input reads as it did. -/
def turnedSpec : ChangeSpec := { name := "turned", fn := fun _ => fun
  | [d1, d2, d3, d4, d5, d6, d7, d8] => { results := [.lit (.bool true)], args := [d1, d2, d3, d4, d5, d6, d7, d8] }
  | _ => none }
def turnedRow : OpenClaim := { program := "ytbedkdnphobmlaagreatdoor", sum := "2b495bf0f3fcab45acbcee501b2de5f899df13d6c77ce7b8a019f2a1a007e471", func := "pixels/pixelskeep.Turned", spec := "turned", named := ["pixels/passes.grid", "pixels/copies.lengths", "pixels/copies.distances", "pixels/codes.order", "pixels/copies.lengthBits"], apart := false, laid := [("pixels/codes.order", laid_pixels_codes_order), ("pixels/copies.lengths", laid_pixels_copies_lengths), ("pixels/copies.lengthBits", laid_pixels_copies_lengthBits), ("pixels/copies.distances", laid_pixels_copies_distances), ("pixels/passes.grid", laid_pixels_passes_grid)] }
def TurnedSaid : Prop := turnedRow.holds Tryz.pinned (OpenSpec.ofChange turnedSpec)

/-- ITS FALSE NEIGHBOUR: 'it returns false'. Refute it at one input. -/
def turnedWrong : ChangeSpec := { name := "turned", fn := fun _ => fun
  | [d1, d2, d3, d4, d5, d6, d7, d8] => { results := [.lit (.bool false)], args := [d1, d2, d3, d4, d5, d6, d7, d8] }
  | _ => none }
def TurnedWrongFalsely : Prop := turnedRow.holds Tryz.pinned (OpenSpec.ofChange turnedWrong)

/-- 'pixelskeep.Short': WHATEVER THE INPUT: true; the input reads as it did. -/
def shortSpec : ChangeSpec := { name := "short", fn := fun _ => fun
  | [d1, d2, d3, d4, d5, d6, d7] => { results := [.lit (.bool true)], args := [d1, d2, d3, d4, d5, d6, d7] }
  | _ => none }
def shortRow : OpenClaim := { program := "ytbedkdnphobmlaagreatdoor", sum := "2b495bf0f3fcab45acbcee501b2de5f899df13d6c77ce7b8a019f2a1a007e471", func := "pixels/pixelskeep.Short", spec := "short", named := ["pixels/passes.grid", "pixels/copies.lengths", "pixels/copies.distances", "pixels/codes.order", "pixels/copies.lengthBits"], apart := false, laid := [("pixels/codes.order", laid_pixels_codes_order), ("pixels/copies.lengths", laid_pixels_copies_lengths), ("pixels/copies.lengthBits", laid_pixels_copies_lengthBits), ("pixels/copies.distances", laid_pixels_copies_distances), ("pixels/passes.grid", laid_pixels_passes_grid)] }
def ShortSaid : Prop := shortRow.holds Tryz.pinned (OpenSpec.ofChange shortSpec)

/-- ITS FALSE NEIGHBOUR: 'it returns false'. Refute it at one input. -/
def shortWrong : ChangeSpec := { name := "short", fn := fun _ => fun
  | [d1, d2, d3, d4, d5, d6, d7] => { results := [.lit (.bool false)], args := [d1, d2, d3, d4, d5, d6, d7] }
  | _ => none }
def ShortWrongFalsely : Prop := shortRow.holds Tryz.pinned (OpenSpec.ofChange shortWrong)

/-- 'pixelskeep.Behind': WHATEVER THE INPUT: true; the input reads as it did. -/
def behindSpec : ChangeSpec := { name := "behind", fn := fun _ => fun
  | [d1, d2, d3, d4, d5, d6, d7] => { results := [.lit (.bool true)], args := [d1, d2, d3, d4, d5, d6, d7] }
  | _ => none }
def behindRow : OpenClaim := { program := "ytbedkdnphobmlaagreatdoor", sum := "2b495bf0f3fcab45acbcee501b2de5f899df13d6c77ce7b8a019f2a1a007e471", func := "pixels/pixelskeep.Behind", spec := "behind", named := ["pixels/passes.grid", "pixels/copies.lengths", "pixels/copies.distances", "pixels/codes.order", "pixels/copies.lengthBits"], apart := false, laid := [("pixels/codes.order", laid_pixels_codes_order), ("pixels/copies.lengths", laid_pixels_copies_lengths), ("pixels/copies.lengthBits", laid_pixels_copies_lengthBits), ("pixels/copies.distances", laid_pixels_copies_distances), ("pixels/passes.grid", laid_pixels_passes_grid)] }
def BehindSaid : Prop := behindRow.holds Tryz.pinned (OpenSpec.ofChange behindSpec)

/-- ITS FALSE NEIGHBOUR: 'it returns false'. Refute it at one input. -/
def behindWrong : ChangeSpec := { name := "behind", fn := fun _ => fun
  | [d1, d2, d3, d4, d5, d6, d7] => { results := [.lit (.bool false)], args := [d1, d2, d3, d4, d5, d6, d7] }
  | _ => none }
def BehindWrongFalsely : Prop := behindRow.holds Tryz.pinned (OpenSpec.ofChange behindWrong)

/-- 'pixelskeep.More': WHATEVER THE INPUT: true; the input reads as it did. -/
def moreSpec : ChangeSpec := { name := "more", fn := fun _ => fun
  | [d1, d2, d3, d4, d5, d6, d7, d8] => { results := [.lit (.bool true)], args := [d1, d2, d3, d4, d5, d6, d7, d8] }
  | _ => none }
def moreRow : OpenClaim := { program := "ytbedkdnphobmlaagreatdoor", sum := "2b495bf0f3fcab45acbcee501b2de5f899df13d6c77ce7b8a019f2a1a007e471", func := "pixels/pixelskeep.More", spec := "more", named := ["pixels/passes.grid", "pixels/copies.lengths", "pixels/copies.distances", "pixels/codes.order", "pixels/copies.lengthBits"], apart := false, laid := [("pixels/codes.order", laid_pixels_codes_order), ("pixels/copies.lengths", laid_pixels_copies_lengths), ("pixels/copies.lengthBits", laid_pixels_copies_lengthBits), ("pixels/copies.distances", laid_pixels_copies_distances), ("pixels/passes.grid", laid_pixels_passes_grid)] }
def MoreSaid : Prop := moreRow.holds Tryz.pinned (OpenSpec.ofChange moreSpec)

/-- ITS FALSE NEIGHBOUR: 'it returns false'. Refute it at one input. -/
def moreWrong : ChangeSpec := { name := "more", fn := fun _ => fun
  | [d1, d2, d3, d4, d5, d6, d7, d8] => { results := [.lit (.bool false)], args := [d1, d2, d3, d4, d5, d6, d7, d8] }
  | _ => none }
def MoreWrongFalsely : Prop := moreRow.holds Tryz.pinned (OpenSpec.ofChange moreWrong)

/- THE SECOND FORM. 'bulk': how many values and letters a reading holds, each counted each time it is reached (what is shared counts as often as it is met; a slice's spare places count too). A statement '..UptoSaid' is the law's where the arguments, and the package variables that the reading takes, are together of bulk at most 1048576: NARROWER than '..Said'. Prove '..Said' where nothing that the law and all that it calls make is longer than what came in: it says more and counts as full. Else prove '..UptoSaid'. A law counts once. -/
mutual
def uptoBulk {H : Type} : DataW H → Nat
  | .lit (.string bytes) => bytes.length + 1
  | .lit _ => 1
  | .nil => 1
  | .ptr d => uptoBulk d + 1
  | .slice elems spare => uptoBulkAll elems + uptoBulkAll spare + 1
  | .agg parts => uptoBulkAll parts + 1
  | .iface _ d => uptoBulk d + 1
  | .map entries => uptoBulkEntries entries + 1
  | .held _ => 1
def uptoBulkAll {H : Type} : List (DataW H) → Nat
  | [] => 0
  | d :: r => uptoBulk d + uptoBulkAll r
def uptoBulkEntries {H : Type} : List (Lit × DataW H) → Nat
  | [] => 0
  | x :: r => uptoBulkEntry x + uptoBulkEntries r
def uptoBulkEntry {H : Type} : Lit × DataW H → Nat
  | (.string bytes, d) => bytes.length + uptoBulk d + 1
  | (_, d) => uptoBulk d + 1
 end
def uptoSmall : (H : Type) → List (DataW H) → Bool := fun _ ds => decide (uptoBulkAll ds ≤ 1048576)
def OpenSpec.upto (s : _root_.Go.ChangeSpec) : _root_.Go.OpenSpec := { _root_.Go.OpenSpec.ofChange s with cond := some uptoSmall }

/-- 'pixelskeep.Round', WHERE WHAT IT READS IS OF BULK AT MOST 1048576: true; the input reads as it did. -/
def roundUptoRow : OpenClaim := { program := "ytbedkdnphobmlaagreatdoor", sum := "2b495bf0f3fcab45acbcee501b2de5f899df13d6c77ce7b8a019f2a1a007e471", func := "pixels/pixelskeep.Round", spec := "round", named := ["pixels/passes.grid", "pixels/copies.lengths", "pixels/copies.distances", "pixels/codes.order", "pixels/copies.lengthBits"], apart := false, laid := [("pixels/codes.order", laid_pixels_codes_order), ("pixels/copies.lengths", laid_pixels_copies_lengths), ("pixels/copies.lengthBits", laid_pixels_copies_lengthBits), ("pixels/copies.distances", laid_pixels_copies_distances), ("pixels/passes.grid", laid_pixels_passes_grid)], narrowed := true }
def RoundUptoSaid : Prop := roundUptoRow.holds Tryz.pinned (OpenSpec.upto roundSpec)

/-- 'pixelskeep.Grows', WHERE WHAT IT READS IS OF BULK AT MOST 1048576: true; the input reads as it did. -/
def growsUptoRow : OpenClaim := { program := "ytbedkdnphobmlaagreatdoor", sum := "2b495bf0f3fcab45acbcee501b2de5f899df13d6c77ce7b8a019f2a1a007e471", func := "pixels/pixelskeep.Grows", spec := "grows", named := ["pixels/passes.grid", "pixels/copies.lengths", "pixels/copies.distances", "pixels/codes.order", "pixels/copies.lengthBits"], apart := false, laid := [("pixels/codes.order", laid_pixels_codes_order), ("pixels/copies.lengths", laid_pixels_copies_lengths), ("pixels/copies.lengthBits", laid_pixels_copies_lengthBits), ("pixels/copies.distances", laid_pixels_copies_distances), ("pixels/passes.grid", laid_pixels_passes_grid)], narrowed := true }
def GrowsUptoSaid : Prop := growsUptoRow.holds Tryz.pinned (OpenSpec.upto growsSpec)

/-- 'pixelskeep.Turned', WHERE WHAT IT READS IS OF BULK AT MOST 1048576: true; the input reads as it did. -/
def turnedUptoRow : OpenClaim := { program := "ytbedkdnphobmlaagreatdoor", sum := "2b495bf0f3fcab45acbcee501b2de5f899df13d6c77ce7b8a019f2a1a007e471", func := "pixels/pixelskeep.Turned", spec := "turned", named := ["pixels/passes.grid", "pixels/copies.lengths", "pixels/copies.distances", "pixels/codes.order", "pixels/copies.lengthBits"], apart := false, laid := [("pixels/codes.order", laid_pixels_codes_order), ("pixels/copies.lengths", laid_pixels_copies_lengths), ("pixels/copies.lengthBits", laid_pixels_copies_lengthBits), ("pixels/copies.distances", laid_pixels_copies_distances), ("pixels/passes.grid", laid_pixels_passes_grid)], narrowed := true }
def TurnedUptoSaid : Prop := turnedUptoRow.holds Tryz.pinned (OpenSpec.upto turnedSpec)

/-- 'pixelskeep.Short', WHERE WHAT IT READS IS OF BULK AT MOST 1048576: true; the input reads as it did. -/
def shortUptoRow : OpenClaim := { program := "ytbedkdnphobmlaagreatdoor", sum := "2b495bf0f3fcab45acbcee501b2de5f899df13d6c77ce7b8a019f2a1a007e471", func := "pixels/pixelskeep.Short", spec := "short", named := ["pixels/passes.grid", "pixels/copies.lengths", "pixels/copies.distances", "pixels/codes.order", "pixels/copies.lengthBits"], apart := false, laid := [("pixels/codes.order", laid_pixels_codes_order), ("pixels/copies.lengths", laid_pixels_copies_lengths), ("pixels/copies.lengthBits", laid_pixels_copies_lengthBits), ("pixels/copies.distances", laid_pixels_copies_distances), ("pixels/passes.grid", laid_pixels_passes_grid)], narrowed := true }
def ShortUptoSaid : Prop := shortUptoRow.holds Tryz.pinned (OpenSpec.upto shortSpec)

/-- 'pixelskeep.Behind', WHERE WHAT IT READS IS OF BULK AT MOST 1048576: true; the input reads as it did. -/
def behindUptoRow : OpenClaim := { program := "ytbedkdnphobmlaagreatdoor", sum := "2b495bf0f3fcab45acbcee501b2de5f899df13d6c77ce7b8a019f2a1a007e471", func := "pixels/pixelskeep.Behind", spec := "behind", named := ["pixels/passes.grid", "pixels/copies.lengths", "pixels/copies.distances", "pixels/codes.order", "pixels/copies.lengthBits"], apart := false, laid := [("pixels/codes.order", laid_pixels_codes_order), ("pixels/copies.lengths", laid_pixels_copies_lengths), ("pixels/copies.lengthBits", laid_pixels_copies_lengthBits), ("pixels/copies.distances", laid_pixels_copies_distances), ("pixels/passes.grid", laid_pixels_passes_grid)], narrowed := true }
def BehindUptoSaid : Prop := behindUptoRow.holds Tryz.pinned (OpenSpec.upto behindSpec)

/-- 'pixelskeep.More', WHERE WHAT IT READS IS OF BULK AT MOST 1048576: true; the input reads as it did. -/
def moreUptoRow : OpenClaim := { program := "ytbedkdnphobmlaagreatdoor", sum := "2b495bf0f3fcab45acbcee501b2de5f899df13d6c77ce7b8a019f2a1a007e471", func := "pixels/pixelskeep.More", spec := "more", named := ["pixels/passes.grid", "pixels/copies.lengths", "pixels/copies.distances", "pixels/codes.order", "pixels/copies.lengthBits"], apart := false, laid := [("pixels/codes.order", laid_pixels_codes_order), ("pixels/copies.lengths", laid_pixels_copies_lengths), ("pixels/copies.lengthBits", laid_pixels_copies_lengthBits), ("pixels/copies.distances", laid_pixels_copies_distances), ("pixels/passes.grid", laid_pixels_passes_grid)], narrowed := true }
def MoreUptoSaid : Prop := moreUptoRow.holds Tryz.pinned (OpenSpec.upto moreSpec)

end Rows
end Go.Proofs.YtbedkdnphobmlaaGreatDoor
