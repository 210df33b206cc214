/-
  DERIVED. GIVEN WITH THE SEED: THE CARDS: each row of YtcbkhlaiefiieacDoorRows.lean that lists a variable, with what it lists TIED to the program's text (the seventh form; the later family's looks); each row that meets fmt, with fmt's text TOLD by the authors' own Lean function (tested against real Go, not proved from fmt's source: count such statements apart). THE CARD IS WHAT COUNTS. Prove the row's statement (the work); the ties are given (YtcbkhlaiefiieacDoorTie.lean); close each card by the builder's one call (the guide's Derived/Test/ToyasCard.lean, 'card_holds'). Laid BY PROGRAM, IN A SANDBOX (cutbox-door.mjs). By AI agents, Wed Nov 11 2026. No macro, syntax, notation, axiom, sorry.
-/
import Derived.Test.YtcbkhlaiefiieacDoorRows
import GoSem.ClaimSeven
namespace Go.Proofs.YtcbkhlaiefiieacDoor
namespace Rows

/-- THE TIED CARD OF 'laws.FnExactCountLost'. -/
def fnExactCountLostCard : Claim7 := { stood := { row := fnExactCountLostRow, standIns := [], harness := (true, "69f18a84b317925591d1803539314cf99e40542496b805d3cf4e53baa5aff2cd"), looks := true }, kinds := [], alts := [], laidByText := true, laidKinds := [.data, .data], laidTests := true, laidLooks := .later }
def FnExactCountLostCardSaid : Prop := Claim7.holds Tryd.pinned (.plain (OpenSpec.ofChange fnExactCountLostSpec)) fnExactCountLostCard

/-- THE TIED CARD OF 'laws.FnExactCountShared'. -/
def fnExactCountSharedCard : Claim7 := { stood := { row := fnExactCountSharedRow, standIns := [], harness := (true, "69f18a84b317925591d1803539314cf99e40542496b805d3cf4e53baa5aff2cd"), looks := true }, kinds := [], alts := [], laidByText := true, laidKinds := [.data, .data], laidTests := true, laidLooks := .later }
def FnExactCountSharedCardSaid : Prop := Claim7.holds Tryd.pinned (.plain (OpenSpec.ofChange fnExactCountSharedSpec)) fnExactCountSharedCard

/-- THE TIED CARD OF 'laws.FnExactSingleOf'. -/
def fnExactSingleOfCard : Claim7 := { stood := { row := fnExactSingleOfRow, standIns := [], harness := (true, "69f18a84b317925591d1803539314cf99e40542496b805d3cf4e53baa5aff2cd"), looks := true }, kinds := [], alts := [], laidByText := true, laidKinds := [.data, .data], laidTests := true, laidLooks := .later }
def FnExactSingleOfCardSaid : Prop := Claim7.holds Tryd.pinned (.plain (OpenSpec.ofChange fnExactSingleOfSpec)) fnExactSingleOfCard

/-- THE TIED CARD OF 'laws.FnExactToWhole'. -/
def fnExactToWholeCard : Claim7 := { stood := { row := fnExactToWholeRow, standIns := [], harness := (true, "69f18a84b317925591d1803539314cf99e40542496b805d3cf4e53baa5aff2cd"), looks := true }, kinds := [], alts := [], laidByText := true, laidKinds := [.data, .data], laidTests := true, laidLooks := .later }
def FnExactToWholeCardSaid : Prop := Claim7.holds Tryd.pinned (.plain (OpenSpec.ofChange fnExactToWholeSpec)) fnExactToWholeCard

/-- THE TIED CARD OF 'laws.FnExactIsExactDifference'. -/
def fnExactIsExactDifferenceCard : Claim7 := { stood := { row := fnExactIsExactDifferenceRow, standIns := [], harness := (true, "69f18a84b317925591d1803539314cf99e40542496b805d3cf4e53baa5aff2cd"), looks := true }, kinds := [], alts := [], laidByText := true, laidKinds := [.data, .data], laidTests := true, laidLooks := .later }
def FnExactIsExactDifferenceCardSaid : Prop := Claim7.holds Tryd.pinned (.plain (OpenSpec.ofChange fnExactIsExactDifferenceSpec)) fnExactIsExactDifferenceCard

/-- THE TIED CARD OF 'laws.FnExactExactSum'. -/
def fnExactExactSumCard : Claim7 := { stood := { row := fnExactExactSumRow, standIns := [], harness := (true, "69f18a84b317925591d1803539314cf99e40542496b805d3cf4e53baa5aff2cd"), looks := true }, kinds := [], alts := [], laidByText := true, laidKinds := [.data, .data], laidTests := true, laidLooks := .later }
def FnExactExactSumCardSaid : Prop := Claim7.holds Tryd.pinned (.plain (OpenSpec.ofChange fnExactExactSumSpec)) fnExactExactSumCard

/-- THE TIED CARD OF 'laws.FnExactRoundedSum'. -/
def fnExactRoundedSumCard : Claim7 := { stood := { row := fnExactRoundedSumRow, standIns := [], harness := (true, "69f18a84b317925591d1803539314cf99e40542496b805d3cf4e53baa5aff2cd"), looks := true }, kinds := [], alts := [], laidByText := true, laidKinds := [.data, .data], laidTests := true, laidLooks := .later }
def FnExactRoundedSumCardSaid : Prop := Claim7.holds Tryd.pinned (.plain (OpenSpec.ofChange fnExactRoundedSumSpec)) fnExactRoundedSumCard

/-- THE TIED CARD OF 'laws.FnExactSignOfSum'. -/
def fnExactSignOfSumCard : Claim7 := { stood := { row := fnExactSignOfSumRow, standIns := [], harness := (true, "69f18a84b317925591d1803539314cf99e40542496b805d3cf4e53baa5aff2cd"), looks := true }, kinds := [], alts := [], laidByText := true, laidKinds := [.data, .data], laidTests := true, laidLooks := .later }
def FnExactSignOfSumCardSaid : Prop := Claim7.holds Tryd.pinned (.plain (OpenSpec.ofChange fnExactSignOfSumSpec)) fnExactSignOfSumCard

/-- THE TIED CARD OF 'laws.FnExactPlacesOf'. -/
def fnExactPlacesOfCard : Claim7 := { stood := { row := fnExactPlacesOfRow, standIns := [], harness := (true, "69f18a84b317925591d1803539314cf99e40542496b805d3cf4e53baa5aff2cd"), looks := true }, kinds := [], alts := [], laidByText := true, laidKinds := [.data, .data], laidTests := true, laidLooks := .later }
def FnExactPlacesOfCardSaid : Prop := Claim7.holds Tryd.pinned (.plain (OpenSpec.ofChange fnExactPlacesOfSpec)) fnExactPlacesOfCard

/-- THE TIED CARD OF 'laws.FnExactCompareDecimal'. -/
def fnExactCompareDecimalCard : Claim7 := { stood := { row := fnExactCompareDecimalRow, standIns := [], harness := (true, "69f18a84b317925591d1803539314cf99e40542496b805d3cf4e53baa5aff2cd"), looks := true }, kinds := [], alts := [], laidByText := true, laidKinds := [.data, .data], laidTests := true, laidLooks := .later }
def FnExactCompareDecimalCardSaid : Prop := Claim7.holds Tryd.pinned (.plain (OpenSpec.ofChange fnExactCompareDecimalSpec)) fnExactCompareDecimalCard

/-- THE TIED CARD OF 'laws.FnExactNearestDecimal'. -/
def fnExactNearestDecimalCard : Claim7 := { stood := { row := fnExactNearestDecimalRow, standIns := [], harness := (true, "69f18a84b317925591d1803539314cf99e40542496b805d3cf4e53baa5aff2cd"), looks := true }, kinds := [], alts := [], laidByText := true, laidKinds := [.data, .data], laidTests := true, laidLooks := .later }
def FnExactNearestDecimalCardSaid : Prop := Claim7.holds Tryd.pinned (.plain (OpenSpec.ofChange fnExactNearestDecimalSpec)) fnExactNearestDecimalCard

/-- THE SECOND FORM's CARD OF 'laws.FnExactCountLost'. -/
def fnExactCountLostUptoCard : Claim7 := { stood := { row := fnExactCountLostUptoRow, standIns := [], harness := (true, "69f18a84b317925591d1803539314cf99e40542496b805d3cf4e53baa5aff2cd"), looks := true }, kinds := [], alts := [], laidByText := true, laidKinds := [.data, .data], laidTests := true, laidLooks := .later }
def FnExactCountLostUptoCardSaid : Prop := Claim7.holds Tryd.pinned (.plain (OpenSpec.upto fnExactCountLostSpec)) fnExactCountLostUptoCard

/-- THE SECOND FORM's CARD OF 'laws.FnExactCountShared'. -/
def fnExactCountSharedUptoCard : Claim7 := { stood := { row := fnExactCountSharedUptoRow, standIns := [], harness := (true, "69f18a84b317925591d1803539314cf99e40542496b805d3cf4e53baa5aff2cd"), looks := true }, kinds := [], alts := [], laidByText := true, laidKinds := [.data, .data], laidTests := true, laidLooks := .later }
def FnExactCountSharedUptoCardSaid : Prop := Claim7.holds Tryd.pinned (.plain (OpenSpec.upto fnExactCountSharedSpec)) fnExactCountSharedUptoCard

/-- THE SECOND FORM's CARD OF 'laws.FnExactSingleOf'. -/
def fnExactSingleOfUptoCard : Claim7 := { stood := { row := fnExactSingleOfUptoRow, standIns := [], harness := (true, "69f18a84b317925591d1803539314cf99e40542496b805d3cf4e53baa5aff2cd"), looks := true }, kinds := [], alts := [], laidByText := true, laidKinds := [.data, .data], laidTests := true, laidLooks := .later }
def FnExactSingleOfUptoCardSaid : Prop := Claim7.holds Tryd.pinned (.plain (OpenSpec.upto fnExactSingleOfSpec)) fnExactSingleOfUptoCard

/-- THE SECOND FORM's CARD OF 'laws.FnExactToWhole'. -/
def fnExactToWholeUptoCard : Claim7 := { stood := { row := fnExactToWholeUptoRow, standIns := [], harness := (true, "69f18a84b317925591d1803539314cf99e40542496b805d3cf4e53baa5aff2cd"), looks := true }, kinds := [], alts := [], laidByText := true, laidKinds := [.data, .data], laidTests := true, laidLooks := .later }
def FnExactToWholeUptoCardSaid : Prop := Claim7.holds Tryd.pinned (.plain (OpenSpec.upto fnExactToWholeSpec)) fnExactToWholeUptoCard

/-- THE SECOND FORM's CARD OF 'laws.FnExactIsExactDifference'. -/
def fnExactIsExactDifferenceUptoCard : Claim7 := { stood := { row := fnExactIsExactDifferenceUptoRow, standIns := [], harness := (true, "69f18a84b317925591d1803539314cf99e40542496b805d3cf4e53baa5aff2cd"), looks := true }, kinds := [], alts := [], laidByText := true, laidKinds := [.data, .data], laidTests := true, laidLooks := .later }
def FnExactIsExactDifferenceUptoCardSaid : Prop := Claim7.holds Tryd.pinned (.plain (OpenSpec.upto fnExactIsExactDifferenceSpec)) fnExactIsExactDifferenceUptoCard

/-- THE SECOND FORM's CARD OF 'laws.FnExactExactSum'. -/
def fnExactExactSumUptoCard : Claim7 := { stood := { row := fnExactExactSumUptoRow, standIns := [], harness := (true, "69f18a84b317925591d1803539314cf99e40542496b805d3cf4e53baa5aff2cd"), looks := true }, kinds := [], alts := [], laidByText := true, laidKinds := [.data, .data], laidTests := true, laidLooks := .later }
def FnExactExactSumUptoCardSaid : Prop := Claim7.holds Tryd.pinned (.plain (OpenSpec.upto fnExactExactSumSpec)) fnExactExactSumUptoCard

/-- THE SECOND FORM's CARD OF 'laws.FnExactRoundedSum'. -/
def fnExactRoundedSumUptoCard : Claim7 := { stood := { row := fnExactRoundedSumUptoRow, standIns := [], harness := (true, "69f18a84b317925591d1803539314cf99e40542496b805d3cf4e53baa5aff2cd"), looks := true }, kinds := [], alts := [], laidByText := true, laidKinds := [.data, .data], laidTests := true, laidLooks := .later }
def FnExactRoundedSumUptoCardSaid : Prop := Claim7.holds Tryd.pinned (.plain (OpenSpec.upto fnExactRoundedSumSpec)) fnExactRoundedSumUptoCard

/-- THE SECOND FORM's CARD OF 'laws.FnExactSignOfSum'. -/
def fnExactSignOfSumUptoCard : Claim7 := { stood := { row := fnExactSignOfSumUptoRow, standIns := [], harness := (true, "69f18a84b317925591d1803539314cf99e40542496b805d3cf4e53baa5aff2cd"), looks := true }, kinds := [], alts := [], laidByText := true, laidKinds := [.data, .data], laidTests := true, laidLooks := .later }
def FnExactSignOfSumUptoCardSaid : Prop := Claim7.holds Tryd.pinned (.plain (OpenSpec.upto fnExactSignOfSumSpec)) fnExactSignOfSumUptoCard

/-- THE SECOND FORM's CARD OF 'laws.FnExactPlacesOf'. -/
def fnExactPlacesOfUptoCard : Claim7 := { stood := { row := fnExactPlacesOfUptoRow, standIns := [], harness := (true, "69f18a84b317925591d1803539314cf99e40542496b805d3cf4e53baa5aff2cd"), looks := true }, kinds := [], alts := [], laidByText := true, laidKinds := [.data, .data], laidTests := true, laidLooks := .later }
def FnExactPlacesOfUptoCardSaid : Prop := Claim7.holds Tryd.pinned (.plain (OpenSpec.upto fnExactPlacesOfSpec)) fnExactPlacesOfUptoCard

/-- THE SECOND FORM's CARD OF 'laws.FnExactCompareDecimal'. -/
def fnExactCompareDecimalUptoCard : Claim7 := { stood := { row := fnExactCompareDecimalUptoRow, standIns := [], harness := (true, "69f18a84b317925591d1803539314cf99e40542496b805d3cf4e53baa5aff2cd"), looks := true }, kinds := [], alts := [], laidByText := true, laidKinds := [.data, .data], laidTests := true, laidLooks := .later }
def FnExactCompareDecimalUptoCardSaid : Prop := Claim7.holds Tryd.pinned (.plain (OpenSpec.upto fnExactCompareDecimalSpec)) fnExactCompareDecimalUptoCard

/-- THE SECOND FORM's CARD OF 'laws.FnExactNearestDecimal'. -/
def fnExactNearestDecimalUptoCard : Claim7 := { stood := { row := fnExactNearestDecimalUptoRow, standIns := [], harness := (true, "69f18a84b317925591d1803539314cf99e40542496b805d3cf4e53baa5aff2cd"), looks := true }, kinds := [], alts := [], laidByText := true, laidKinds := [.data, .data], laidTests := true, laidLooks := .later }
def FnExactNearestDecimalUptoCardSaid : Prop := Claim7.holds Tryd.pinned (.plain (OpenSpec.upto fnExactNearestDecimalSpec)) fnExactNearestDecimalUptoCard
end Rows
end Go.Proofs.YtcbkhlaiefiieacDoor
