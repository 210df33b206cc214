/-
  DERIVED. GIVEN WITH THE SEED: THE CARDS: each row of YtfihhhbdhppemaaGreatDoorRows.lean that lists a variable, with what it lists TIED to the program's text (the seventh form; the later family's looks); each row that meets fmt, with fmt's text TOLD by the authors' own Lean function (tested against real Go, not proved from fmt's source: count such statements apart). THE CARD IS WHAT COUNTS. Prove the row's statement (the work); the ties are given (YtfihhhbdhppemaaGreatDoorTie.lean); close each card by the builder's one call (the guide's Derived/Test/ToyasCard.lean, 'card_holds'). Laid BY PROGRAM, IN A SANDBOX (cutbox-door.mjs). By AI agents, Wed Nov 11 2026. No macro, syntax, notation, axiom, sorry.
-/
import Derived.Test.YtfihhhbdhppemaaGreatDoorRows
import GoSem.ClaimSeven
namespace Go.Proofs.YtfihhhbdhppemaaGreatDoor
namespace Rows

/-- THE TIED CARD OF 'laws.FnExactPlusInterval'. -/
def fnExactPlusIntervalCard : Claim7 := { stood := { row := fnExactPlusIntervalRow, standIns := [], harness := (true, "ef29784f3960eb9ff28c2f627ac5e6d9c22c2b18fbd132bf93df09ca0e0ab7ac"), looks := true }, kinds := [], alts := [], laidByText := true, laidKinds := [.data, .data], laidTests := true, laidLooks := .later }
def FnExactPlusIntervalCardSaid : Prop := Claim7.holds Tryz.pinned (.plain (OpenSpec.ofChange fnExactPlusIntervalSpec)) fnExactPlusIntervalCard

/-- THE TIED CARD OF 'laws.FnExactLessInterval'. -/
def fnExactLessIntervalCard : Claim7 := { stood := { row := fnExactLessIntervalRow, standIns := [], harness := (true, "ef29784f3960eb9ff28c2f627ac5e6d9c22c2b18fbd132bf93df09ca0e0ab7ac"), looks := true }, kinds := [], alts := [], laidByText := true, laidKinds := [.data, .data], laidTests := true, laidLooks := .later }
def FnExactLessIntervalCardSaid : Prop := Claim7.holds Tryz.pinned (.plain (OpenSpec.ofChange fnExactLessIntervalSpec)) fnExactLessIntervalCard

/-- THE TIED CARD OF 'laws.FnExactTimesInterval'. -/
def fnExactTimesIntervalCard : Claim7 := { stood := { row := fnExactTimesIntervalRow, standIns := [], harness := (true, "ef29784f3960eb9ff28c2f627ac5e6d9c22c2b18fbd132bf93df09ca0e0ab7ac"), looks := true }, kinds := [], alts := [], laidByText := true, laidKinds := [.data, .data], laidTests := true, laidLooks := .later }
def FnExactTimesIntervalCardSaid : Prop := Claim7.holds Tryz.pinned (.plain (OpenSpec.ofChange fnExactTimesIntervalSpec)) fnExactTimesIntervalCard

/-- THE TIED CARD OF 'laws.FnExactDivideInterval'. -/
def fnExactDivideIntervalCard : Claim7 := { stood := { row := fnExactDivideIntervalRow, standIns := [], harness := (true, "ef29784f3960eb9ff28c2f627ac5e6d9c22c2b18fbd132bf93df09ca0e0ab7ac"), looks := true }, kinds := [], alts := [], laidByText := true, laidKinds := [.data, .data], laidTests := true, laidLooks := .later }
def FnExactDivideIntervalCardSaid : Prop := Claim7.holds Tryz.pinned (.plain (OpenSpec.ofChange fnExactDivideIntervalSpec)) fnExactDivideIntervalCard

/-- THE TIED CARD OF 'laws.FnExactRootInterval'. -/
def fnExactRootIntervalCard : Claim7 := { stood := { row := fnExactRootIntervalRow, standIns := [], harness := (true, "ef29784f3960eb9ff28c2f627ac5e6d9c22c2b18fbd132bf93df09ca0e0ab7ac"), looks := true }, kinds := [], alts := [], laidByText := true, laidKinds := [.data, .data], laidTests := true, laidLooks := .later }
def FnExactRootIntervalCardSaid : Prop := Claim7.holds Tryz.pinned (.plain (OpenSpec.ofChange fnExactRootIntervalSpec)) fnExactRootIntervalCard

/-- THE TIED CARD OF 'laws.FnExactPolyInterval'. -/
def fnExactPolyIntervalCard : Claim7 := { stood := { row := fnExactPolyIntervalRow, standIns := [], harness := (true, "ef29784f3960eb9ff28c2f627ac5e6d9c22c2b18fbd132bf93df09ca0e0ab7ac"), looks := true }, kinds := [], alts := [], laidByText := true, laidKinds := [.data, .data], laidTests := true, laidLooks := .later }
def FnExactPolyIntervalCardSaid : Prop := Claim7.holds Tryz.pinned (.plain (OpenSpec.ofChange fnExactPolyIntervalSpec)) fnExactPolyIntervalCard

/-- THE TIED CARD OF 'laws.FnExactIntervalText'. -/
def fnExactIntervalTextCard : Claim7 := { stood := { row := fnExactIntervalTextRow, standIns := [], harness := (true, "ef29784f3960eb9ff28c2f627ac5e6d9c22c2b18fbd132bf93df09ca0e0ab7ac"), looks := true }, kinds := [], alts := [], laidByText := true, laidKinds := [.data, .data, .data], laidTests := true, laidLooks := .later }
def FnExactIntervalTextCardSaid : Prop := Claim7.holds Tryz.pinned (.plain (OpenSpec.ofChange fnExactIntervalTextSpec)) fnExactIntervalTextCard

/-- THE TIED CARD OF 'laws.FnExactRootOf'. -/
def fnExactRootOfCard : Claim7 := { stood := { row := fnExactRootOfRow, standIns := [], harness := (true, "ef29784f3960eb9ff28c2f627ac5e6d9c22c2b18fbd132bf93df09ca0e0ab7ac"), looks := true }, kinds := [], alts := [], laidByText := true, laidKinds := [.data, .data], laidTests := true, laidLooks := .later }
def FnExactRootOfCardSaid : Prop := Claim7.holds Tryz.pinned (.plain (OpenSpec.ofChange fnExactRootOfSpec)) fnExactRootOfCard

/-- THE TIED CARD OF 'laws.FnExactShortestOf'. -/
def fnExactShortestOfCard : Claim7 := { stood := { row := fnExactShortestOfRow, standIns := [], harness := (true, "ef29784f3960eb9ff28c2f627ac5e6d9c22c2b18fbd132bf93df09ca0e0ab7ac"), looks := true }, kinds := [], alts := [], laidByText := true, laidKinds := [.data, .data], laidTests := true, laidLooks := .later }
def FnExactShortestOfCardSaid : Prop := Claim7.holds Tryz.pinned (.plain (OpenSpec.ofChange fnExactShortestOfSpec)) fnExactShortestOfCard

/-- THE SECOND FORM's CARD OF 'laws.FnExactPlusInterval'. -/
def fnExactPlusIntervalUptoCard : Claim7 := { stood := { row := fnExactPlusIntervalUptoRow, standIns := [], harness := (true, "ef29784f3960eb9ff28c2f627ac5e6d9c22c2b18fbd132bf93df09ca0e0ab7ac"), looks := true }, kinds := [], alts := [], laidByText := true, laidKinds := [.data, .data], laidTests := true, laidLooks := .later }
def FnExactPlusIntervalUptoCardSaid : Prop := Claim7.holds Tryz.pinned (.plain (OpenSpec.upto fnExactPlusIntervalSpec)) fnExactPlusIntervalUptoCard

/-- THE SECOND FORM's CARD OF 'laws.FnExactLessInterval'. -/
def fnExactLessIntervalUptoCard : Claim7 := { stood := { row := fnExactLessIntervalUptoRow, standIns := [], harness := (true, "ef29784f3960eb9ff28c2f627ac5e6d9c22c2b18fbd132bf93df09ca0e0ab7ac"), looks := true }, kinds := [], alts := [], laidByText := true, laidKinds := [.data, .data], laidTests := true, laidLooks := .later }
def FnExactLessIntervalUptoCardSaid : Prop := Claim7.holds Tryz.pinned (.plain (OpenSpec.upto fnExactLessIntervalSpec)) fnExactLessIntervalUptoCard

/-- THE SECOND FORM's CARD OF 'laws.FnExactTimesInterval'. -/
def fnExactTimesIntervalUptoCard : Claim7 := { stood := { row := fnExactTimesIntervalUptoRow, standIns := [], harness := (true, "ef29784f3960eb9ff28c2f627ac5e6d9c22c2b18fbd132bf93df09ca0e0ab7ac"), looks := true }, kinds := [], alts := [], laidByText := true, laidKinds := [.data, .data], laidTests := true, laidLooks := .later }
def FnExactTimesIntervalUptoCardSaid : Prop := Claim7.holds Tryz.pinned (.plain (OpenSpec.upto fnExactTimesIntervalSpec)) fnExactTimesIntervalUptoCard

/-- THE SECOND FORM's CARD OF 'laws.FnExactDivideInterval'. -/
def fnExactDivideIntervalUptoCard : Claim7 := { stood := { row := fnExactDivideIntervalUptoRow, standIns := [], harness := (true, "ef29784f3960eb9ff28c2f627ac5e6d9c22c2b18fbd132bf93df09ca0e0ab7ac"), looks := true }, kinds := [], alts := [], laidByText := true, laidKinds := [.data, .data], laidTests := true, laidLooks := .later }
def FnExactDivideIntervalUptoCardSaid : Prop := Claim7.holds Tryz.pinned (.plain (OpenSpec.upto fnExactDivideIntervalSpec)) fnExactDivideIntervalUptoCard

/-- THE SECOND FORM's CARD OF 'laws.FnExactRootInterval'. -/
def fnExactRootIntervalUptoCard : Claim7 := { stood := { row := fnExactRootIntervalUptoRow, standIns := [], harness := (true, "ef29784f3960eb9ff28c2f627ac5e6d9c22c2b18fbd132bf93df09ca0e0ab7ac"), looks := true }, kinds := [], alts := [], laidByText := true, laidKinds := [.data, .data], laidTests := true, laidLooks := .later }
def FnExactRootIntervalUptoCardSaid : Prop := Claim7.holds Tryz.pinned (.plain (OpenSpec.upto fnExactRootIntervalSpec)) fnExactRootIntervalUptoCard

/-- THE SECOND FORM's CARD OF 'laws.FnExactPolyInterval'. -/
def fnExactPolyIntervalUptoCard : Claim7 := { stood := { row := fnExactPolyIntervalUptoRow, standIns := [], harness := (true, "ef29784f3960eb9ff28c2f627ac5e6d9c22c2b18fbd132bf93df09ca0e0ab7ac"), looks := true }, kinds := [], alts := [], laidByText := true, laidKinds := [.data, .data], laidTests := true, laidLooks := .later }
def FnExactPolyIntervalUptoCardSaid : Prop := Claim7.holds Tryz.pinned (.plain (OpenSpec.upto fnExactPolyIntervalSpec)) fnExactPolyIntervalUptoCard

/-- THE SECOND FORM's CARD OF 'laws.FnExactIntervalText'. -/
def fnExactIntervalTextUptoCard : Claim7 := { stood := { row := fnExactIntervalTextUptoRow, standIns := [], harness := (true, "ef29784f3960eb9ff28c2f627ac5e6d9c22c2b18fbd132bf93df09ca0e0ab7ac"), looks := true }, kinds := [], alts := [], laidByText := true, laidKinds := [.data, .data, .data], laidTests := true, laidLooks := .later }
def FnExactIntervalTextUptoCardSaid : Prop := Claim7.holds Tryz.pinned (.plain (OpenSpec.upto fnExactIntervalTextSpec)) fnExactIntervalTextUptoCard

/-- THE SECOND FORM's CARD OF 'laws.FnExactRootOf'. -/
def fnExactRootOfUptoCard : Claim7 := { stood := { row := fnExactRootOfUptoRow, standIns := [], harness := (true, "ef29784f3960eb9ff28c2f627ac5e6d9c22c2b18fbd132bf93df09ca0e0ab7ac"), looks := true }, kinds := [], alts := [], laidByText := true, laidKinds := [.data, .data], laidTests := true, laidLooks := .later }
def FnExactRootOfUptoCardSaid : Prop := Claim7.holds Tryz.pinned (.plain (OpenSpec.upto fnExactRootOfSpec)) fnExactRootOfUptoCard

/-- THE SECOND FORM's CARD OF 'laws.FnExactShortestOf'. -/
def fnExactShortestOfUptoCard : Claim7 := { stood := { row := fnExactShortestOfUptoRow, standIns := [], harness := (true, "ef29784f3960eb9ff28c2f627ac5e6d9c22c2b18fbd132bf93df09ca0e0ab7ac"), looks := true }, kinds := [], alts := [], laidByText := true, laidKinds := [.data, .data], laidTests := true, laidLooks := .later }
def FnExactShortestOfUptoCardSaid : Prop := Claim7.holds Tryz.pinned (.plain (OpenSpec.upto fnExactShortestOfSpec)) fnExactShortestOfUptoCard
end Rows
end Go.Proofs.YtfihhhbdhppemaaGreatDoor
