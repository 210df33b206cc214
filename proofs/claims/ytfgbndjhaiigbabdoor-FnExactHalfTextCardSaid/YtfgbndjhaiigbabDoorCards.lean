/-
  DERIVED. GIVEN WITH THE SEED: THE CARDS: each row of YtfgbndjhaiigbabDoorRows.lean that lists a variable, with what it lists TIED to the program's text (the seventh form; the later family's looks); each row that meets fmt, with fmt's text TOLD by the authors' own Lean function (tested against real Go, not proved from fmt's source: count such statements apart). THE CARD IS WHAT COUNTS. Prove the row's statement (the work); the ties are given (YtfgbndjhaiigbabDoorTie.lean); close each card by the builder's one call (the guide's Derived/Test/ToyasCard.lean, 'card_holds'). Laid BY PROGRAM, IN A SANDBOX (cutbox-door.mjs). By AI agents, Wed Nov 11 2026. No macro, syntax, notation, axiom, sorry.
-/
import Derived.Test.YtfgbndjhaiigbabDoorRows
import GoSem.ClaimSeven
namespace Go.Proofs.YtfgbndjhaiigbabDoor
namespace Rows

/-- THE TIED CARD OF 'laws.FnExactIsExactDifference'. -/
def fnExactIsExactDifferenceCard : Claim7 := { stood := { row := fnExactIsExactDifferenceRow, standIns := [], harness := (true, "aef92a8587f3df4e10c9708275132005f2cc86e9ec8278007632d45dce44bc34"), looks := true }, kinds := [], alts := [], laidByText := true, laidKinds := [.data, .data], laidTests := true, laidLooks := .later }
def FnExactIsExactDifferenceCardSaid : Prop := Claim7.holds Tryd.pinned (.plain (OpenSpec.ofChange fnExactIsExactDifferenceSpec)) fnExactIsExactDifferenceCard

/-- THE TIED CARD OF 'laws.FnExactExactSum'. -/
def fnExactExactSumCard : Claim7 := { stood := { row := fnExactExactSumRow, standIns := [], harness := (true, "aef92a8587f3df4e10c9708275132005f2cc86e9ec8278007632d45dce44bc34"), looks := true }, kinds := [], alts := [], laidByText := true, laidKinds := [.data, .data], laidTests := true, laidLooks := .later }
def FnExactExactSumCardSaid : Prop := Claim7.holds Tryd.pinned (.plain (OpenSpec.ofChange fnExactExactSumSpec)) fnExactExactSumCard

/-- THE TIED CARD OF 'laws.FnExactRoundedSum'. -/
def fnExactRoundedSumCard : Claim7 := { stood := { row := fnExactRoundedSumRow, standIns := [], harness := (true, "aef92a8587f3df4e10c9708275132005f2cc86e9ec8278007632d45dce44bc34"), looks := true }, kinds := [], alts := [], laidByText := true, laidKinds := [.data, .data], laidTests := true, laidLooks := .later }
def FnExactRoundedSumCardSaid : Prop := Claim7.holds Tryd.pinned (.plain (OpenSpec.ofChange fnExactRoundedSumSpec)) fnExactRoundedSumCard

/-- THE TIED CARD OF 'laws.FnExactSignOfSum'. -/
def fnExactSignOfSumCard : Claim7 := { stood := { row := fnExactSignOfSumRow, standIns := [], harness := (true, "aef92a8587f3df4e10c9708275132005f2cc86e9ec8278007632d45dce44bc34"), looks := true }, kinds := [], alts := [], laidByText := true, laidKinds := [.data, .data], laidTests := true, laidLooks := .later }
def FnExactSignOfSumCardSaid : Prop := Claim7.holds Tryd.pinned (.plain (OpenSpec.ofChange fnExactSignOfSumSpec)) fnExactSignOfSumCard

/-- THE TIED CARD OF 'laws.FnExactToWhole'. -/
def fnExactToWholeCard : Claim7 := { stood := { row := fnExactToWholeRow, standIns := [], harness := (true, "aef92a8587f3df4e10c9708275132005f2cc86e9ec8278007632d45dce44bc34"), looks := true }, kinds := [], alts := [], laidByText := true, laidKinds := [.data, .data], laidTests := true, laidLooks := .later }
def FnExactToWholeCardSaid : Prop := Claim7.holds Tryd.pinned (.plain (OpenSpec.ofChange fnExactToWholeSpec)) fnExactToWholeCard

/-- THE TIED CARD OF 'laws.FnExactPlacesOf'. -/
def fnExactPlacesOfCard : Claim7 := { stood := { row := fnExactPlacesOfRow, standIns := [], harness := (true, "aef92a8587f3df4e10c9708275132005f2cc86e9ec8278007632d45dce44bc34"), looks := true }, kinds := [], alts := [], laidByText := true, laidKinds := [.data, .data], laidTests := true, laidLooks := .later }
def FnExactPlacesOfCardSaid : Prop := Claim7.holds Tryd.pinned (.plain (OpenSpec.ofChange fnExactPlacesOfSpec)) fnExactPlacesOfCard

/-- THE TIED CARD OF 'laws.FnExactCompareDecimal'. -/
def fnExactCompareDecimalCard : Claim7 := { stood := { row := fnExactCompareDecimalRow, standIns := [], harness := (true, "aef92a8587f3df4e10c9708275132005f2cc86e9ec8278007632d45dce44bc34"), looks := true }, kinds := [], alts := [], laidByText := true, laidKinds := [.data, .data], laidTests := true, laidLooks := .later }
def FnExactCompareDecimalCardSaid : Prop := Claim7.holds Tryd.pinned (.plain (OpenSpec.ofChange fnExactCompareDecimalSpec)) fnExactCompareDecimalCard

/-- THE TIED CARD OF 'laws.FnExactNearestDecimal'. -/
def fnExactNearestDecimalCard : Claim7 := { stood := { row := fnExactNearestDecimalRow, standIns := [], harness := (true, "aef92a8587f3df4e10c9708275132005f2cc86e9ec8278007632d45dce44bc34"), looks := true }, kinds := [], alts := [], laidByText := true, laidKinds := [.data, .data], laidTests := true, laidLooks := .later }
def FnExactNearestDecimalCardSaid : Prop := Claim7.holds Tryd.pinned (.plain (OpenSpec.ofChange fnExactNearestDecimalSpec)) fnExactNearestDecimalCard

/-- THE TIED CARD OF 'laws.FnExactPatternText'. -/
def fnExactPatternTextCard : Claim7 := { stood := { row := fnExactPatternTextRow, standIns := [], harness := (true, "aef92a8587f3df4e10c9708275132005f2cc86e9ec8278007632d45dce44bc34"), looks := true }, kinds := [], alts := [], laidByText := true, laidKinds := [.data, .data, .data], laidTests := true, laidLooks := .later }
def FnExactPatternTextCardSaid : Prop := Claim7.holds Tryd.pinned (.plain (OpenSpec.ofChange fnExactPatternTextSpec)) fnExactPatternTextCard

/-- THE TIED CARD OF 'laws.FnExactExactText'. -/
def fnExactExactTextCard : Claim7 := { stood := { row := fnExactExactTextRow, standIns := [], harness := (true, "aef92a8587f3df4e10c9708275132005f2cc86e9ec8278007632d45dce44bc34"), looks := true }, kinds := [], alts := [], laidByText := true, laidKinds := [.data, .data, .data], laidTests := true, laidLooks := .later }
def FnExactExactTextCardSaid : Prop := Claim7.holds Tryd.pinned (.plain (OpenSpec.ofChange fnExactExactTextSpec)) fnExactExactTextCard

/-- THE TIED CARD OF 'laws.FnExactHalfText'. -/
def fnExactHalfTextCard : Claim7 := { stood := { row := fnExactHalfTextRow, standIns := [], harness := (true, "aef92a8587f3df4e10c9708275132005f2cc86e9ec8278007632d45dce44bc34"), looks := true }, kinds := [], alts := [], laidByText := true, laidKinds := [.data, .data, .data], laidTests := true, laidLooks := .later }
def FnExactHalfTextCardSaid : Prop := Claim7.holds Tryd.pinned (.plain (OpenSpec.ofChange fnExactHalfTextSpec)) fnExactHalfTextCard

/-- THE SECOND FORM's CARD OF 'laws.FnExactIsExactDifference'. -/
def fnExactIsExactDifferenceUptoCard : Claim7 := { stood := { row := fnExactIsExactDifferenceUptoRow, standIns := [], harness := (true, "aef92a8587f3df4e10c9708275132005f2cc86e9ec8278007632d45dce44bc34"), looks := true }, kinds := [], alts := [], laidByText := true, laidKinds := [.data, .data], laidTests := true, laidLooks := .later }
def FnExactIsExactDifferenceUptoCardSaid : Prop := Claim7.holds Tryd.pinned (.plain (OpenSpec.upto fnExactIsExactDifferenceSpec)) fnExactIsExactDifferenceUptoCard

/-- THE SECOND FORM's CARD OF 'laws.FnExactExactSum'. -/
def fnExactExactSumUptoCard : Claim7 := { stood := { row := fnExactExactSumUptoRow, standIns := [], harness := (true, "aef92a8587f3df4e10c9708275132005f2cc86e9ec8278007632d45dce44bc34"), looks := true }, kinds := [], alts := [], laidByText := true, laidKinds := [.data, .data], laidTests := true, laidLooks := .later }
def FnExactExactSumUptoCardSaid : Prop := Claim7.holds Tryd.pinned (.plain (OpenSpec.upto fnExactExactSumSpec)) fnExactExactSumUptoCard

/-- THE SECOND FORM's CARD OF 'laws.FnExactRoundedSum'. -/
def fnExactRoundedSumUptoCard : Claim7 := { stood := { row := fnExactRoundedSumUptoRow, standIns := [], harness := (true, "aef92a8587f3df4e10c9708275132005f2cc86e9ec8278007632d45dce44bc34"), looks := true }, kinds := [], alts := [], laidByText := true, laidKinds := [.data, .data], laidTests := true, laidLooks := .later }
def FnExactRoundedSumUptoCardSaid : Prop := Claim7.holds Tryd.pinned (.plain (OpenSpec.upto fnExactRoundedSumSpec)) fnExactRoundedSumUptoCard

/-- THE SECOND FORM's CARD OF 'laws.FnExactSignOfSum'. -/
def fnExactSignOfSumUptoCard : Claim7 := { stood := { row := fnExactSignOfSumUptoRow, standIns := [], harness := (true, "aef92a8587f3df4e10c9708275132005f2cc86e9ec8278007632d45dce44bc34"), looks := true }, kinds := [], alts := [], laidByText := true, laidKinds := [.data, .data], laidTests := true, laidLooks := .later }
def FnExactSignOfSumUptoCardSaid : Prop := Claim7.holds Tryd.pinned (.plain (OpenSpec.upto fnExactSignOfSumSpec)) fnExactSignOfSumUptoCard

/-- THE SECOND FORM's CARD OF 'laws.FnExactToWhole'. -/
def fnExactToWholeUptoCard : Claim7 := { stood := { row := fnExactToWholeUptoRow, standIns := [], harness := (true, "aef92a8587f3df4e10c9708275132005f2cc86e9ec8278007632d45dce44bc34"), looks := true }, kinds := [], alts := [], laidByText := true, laidKinds := [.data, .data], laidTests := true, laidLooks := .later }
def FnExactToWholeUptoCardSaid : Prop := Claim7.holds Tryd.pinned (.plain (OpenSpec.upto fnExactToWholeSpec)) fnExactToWholeUptoCard

/-- THE SECOND FORM's CARD OF 'laws.FnExactPlacesOf'. -/
def fnExactPlacesOfUptoCard : Claim7 := { stood := { row := fnExactPlacesOfUptoRow, standIns := [], harness := (true, "aef92a8587f3df4e10c9708275132005f2cc86e9ec8278007632d45dce44bc34"), looks := true }, kinds := [], alts := [], laidByText := true, laidKinds := [.data, .data], laidTests := true, laidLooks := .later }
def FnExactPlacesOfUptoCardSaid : Prop := Claim7.holds Tryd.pinned (.plain (OpenSpec.upto fnExactPlacesOfSpec)) fnExactPlacesOfUptoCard

/-- THE SECOND FORM's CARD OF 'laws.FnExactCompareDecimal'. -/
def fnExactCompareDecimalUptoCard : Claim7 := { stood := { row := fnExactCompareDecimalUptoRow, standIns := [], harness := (true, "aef92a8587f3df4e10c9708275132005f2cc86e9ec8278007632d45dce44bc34"), looks := true }, kinds := [], alts := [], laidByText := true, laidKinds := [.data, .data], laidTests := true, laidLooks := .later }
def FnExactCompareDecimalUptoCardSaid : Prop := Claim7.holds Tryd.pinned (.plain (OpenSpec.upto fnExactCompareDecimalSpec)) fnExactCompareDecimalUptoCard

/-- THE SECOND FORM's CARD OF 'laws.FnExactNearestDecimal'. -/
def fnExactNearestDecimalUptoCard : Claim7 := { stood := { row := fnExactNearestDecimalUptoRow, standIns := [], harness := (true, "aef92a8587f3df4e10c9708275132005f2cc86e9ec8278007632d45dce44bc34"), looks := true }, kinds := [], alts := [], laidByText := true, laidKinds := [.data, .data], laidTests := true, laidLooks := .later }
def FnExactNearestDecimalUptoCardSaid : Prop := Claim7.holds Tryd.pinned (.plain (OpenSpec.upto fnExactNearestDecimalSpec)) fnExactNearestDecimalUptoCard

/-- THE SECOND FORM's CARD OF 'laws.FnExactPatternText'. -/
def fnExactPatternTextUptoCard : Claim7 := { stood := { row := fnExactPatternTextUptoRow, standIns := [], harness := (true, "aef92a8587f3df4e10c9708275132005f2cc86e9ec8278007632d45dce44bc34"), looks := true }, kinds := [], alts := [], laidByText := true, laidKinds := [.data, .data, .data], laidTests := true, laidLooks := .later }
def FnExactPatternTextUptoCardSaid : Prop := Claim7.holds Tryd.pinned (.plain (OpenSpec.upto fnExactPatternTextSpec)) fnExactPatternTextUptoCard

/-- THE SECOND FORM's CARD OF 'laws.FnExactExactText'. -/
def fnExactExactTextUptoCard : Claim7 := { stood := { row := fnExactExactTextUptoRow, standIns := [], harness := (true, "aef92a8587f3df4e10c9708275132005f2cc86e9ec8278007632d45dce44bc34"), looks := true }, kinds := [], alts := [], laidByText := true, laidKinds := [.data, .data, .data], laidTests := true, laidLooks := .later }
def FnExactExactTextUptoCardSaid : Prop := Claim7.holds Tryd.pinned (.plain (OpenSpec.upto fnExactExactTextSpec)) fnExactExactTextUptoCard

/-- THE SECOND FORM's CARD OF 'laws.FnExactHalfText'. -/
def fnExactHalfTextUptoCard : Claim7 := { stood := { row := fnExactHalfTextUptoRow, standIns := [], harness := (true, "aef92a8587f3df4e10c9708275132005f2cc86e9ec8278007632d45dce44bc34"), looks := true }, kinds := [], alts := [], laidByText := true, laidKinds := [.data, .data, .data], laidTests := true, laidLooks := .later }
def FnExactHalfTextUptoCardSaid : Prop := Claim7.holds Tryd.pinned (.plain (OpenSpec.upto fnExactHalfTextSpec)) fnExactHalfTextUptoCard
end Rows
end Go.Proofs.YtfgbndjhaiigbabDoor
