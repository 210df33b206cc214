/-
  DERIVED. GIVEN WITH THE SEED: THE CARDS: each row of YtfgbndjhaiigbaaGreatDoorRows.lean that lists a variable, with what it lists TIED to the program's text (the seventh form; the later family's looks); each row that meets fmt, with fmt's text TOLD by the authors' own Lean function (tested against real Go, not proved from fmt's source: count such statements apart). THE CARD IS WHAT COUNTS. Prove the row's statement (the work); the ties are given (YtfgbndjhaiigbaaGreatDoorTie.lean); close each card by the builder's one call (the guide's Derived/Test/ToyasCard.lean, 'card_holds'). Laid BY PROGRAM, IN A SANDBOX (cutbox-door.mjs). By AI agents, Wed Nov 11 2026. No macro, syntax, notation, axiom, sorry.
-/
import Derived.Test.YtfgbndjhaiigbaaGreatDoorRows
import GoSem.ClaimSeven
namespace Go.Proofs.YtfgbndjhaiigbaaGreatDoor
namespace Rows

/-- THE TIED CARD OF 'laws.FnExactTimesInterval'. -/
def fnExactTimesIntervalCard : Claim7 := { stood := { row := fnExactTimesIntervalRow, standIns := [], harness := (true, "89f4fc5f2b6b3a38e79aff4b774866027c471f844f2c84470e56548127dcee06"), looks := true }, kinds := [], alts := [], laidByText := true, laidKinds := [.data, .data], laidTests := true, laidLooks := .later }
def FnExactTimesIntervalCardSaid : Prop := Claim7.holds Tryz.pinned (.plain (OpenSpec.ofChange fnExactTimesIntervalSpec)) fnExactTimesIntervalCard

/-- THE TIED CARD OF 'laws.FnExactDivideInterval'. -/
def fnExactDivideIntervalCard : Claim7 := { stood := { row := fnExactDivideIntervalRow, standIns := [], harness := (true, "89f4fc5f2b6b3a38e79aff4b774866027c471f844f2c84470e56548127dcee06"), looks := true }, kinds := [], alts := [], laidByText := true, laidKinds := [.data, .data], laidTests := true, laidLooks := .later }
def FnExactDivideIntervalCardSaid : Prop := Claim7.holds Tryz.pinned (.plain (OpenSpec.ofChange fnExactDivideIntervalSpec)) fnExactDivideIntervalCard

/-- THE TIED CARD OF 'laws.FnExactRootInterval'. -/
def fnExactRootIntervalCard : Claim7 := { stood := { row := fnExactRootIntervalRow, standIns := [], harness := (true, "89f4fc5f2b6b3a38e79aff4b774866027c471f844f2c84470e56548127dcee06"), looks := true }, kinds := [], alts := [], laidByText := true, laidKinds := [.data, .data], laidTests := true, laidLooks := .later }
def FnExactRootIntervalCardSaid : Prop := Claim7.holds Tryz.pinned (.plain (OpenSpec.ofChange fnExactRootIntervalSpec)) fnExactRootIntervalCard

/-- THE TIED CARD OF 'laws.FnExactPolyInterval'. -/
def fnExactPolyIntervalCard : Claim7 := { stood := { row := fnExactPolyIntervalRow, standIns := [], harness := (true, "89f4fc5f2b6b3a38e79aff4b774866027c471f844f2c84470e56548127dcee06"), looks := true }, kinds := [], alts := [], laidByText := true, laidKinds := [.data, .data], laidTests := true, laidLooks := .later }
def FnExactPolyIntervalCardSaid : Prop := Claim7.holds Tryz.pinned (.plain (OpenSpec.ofChange fnExactPolyIntervalSpec)) fnExactPolyIntervalCard

/-- THE TIED CARD OF 'laws.FnExactPlusOf'. -/
def fnExactPlusOfCard : Claim7 := { stood := { row := fnExactPlusOfRow, standIns := [], harness := (true, "89f4fc5f2b6b3a38e79aff4b774866027c471f844f2c84470e56548127dcee06"), looks := true }, kinds := [], alts := [], laidByText := true, laidKinds := [.data, .data], laidTests := true, laidLooks := .later }
def FnExactPlusOfCardSaid : Prop := Claim7.holds Tryz.pinned (.plain (OpenSpec.ofChange fnExactPlusOfSpec)) fnExactPlusOfCard

/-- THE TIED CARD OF 'laws.FnExactLessOf'. -/
def fnExactLessOfCard : Claim7 := { stood := { row := fnExactLessOfRow, standIns := [], harness := (true, "89f4fc5f2b6b3a38e79aff4b774866027c471f844f2c84470e56548127dcee06"), looks := true }, kinds := [], alts := [], laidByText := true, laidKinds := [.data, .data], laidTests := true, laidLooks := .later }
def FnExactLessOfCardSaid : Prop := Claim7.holds Tryz.pinned (.plain (OpenSpec.ofChange fnExactLessOfSpec)) fnExactLessOfCard

/-- THE TIED CARD OF 'laws.FnExactTimesOf'. -/
def fnExactTimesOfCard : Claim7 := { stood := { row := fnExactTimesOfRow, standIns := [], harness := (true, "89f4fc5f2b6b3a38e79aff4b774866027c471f844f2c84470e56548127dcee06"), looks := true }, kinds := [], alts := [], laidByText := true, laidKinds := [.data, .data], laidTests := true, laidLooks := .later }
def FnExactTimesOfCardSaid : Prop := Claim7.holds Tryz.pinned (.plain (OpenSpec.ofChange fnExactTimesOfSpec)) fnExactTimesOfCard

/-- THE TIED CARD OF 'laws.FnExactDivideOf'. -/
def fnExactDivideOfCard : Claim7 := { stood := { row := fnExactDivideOfRow, standIns := [], harness := (true, "89f4fc5f2b6b3a38e79aff4b774866027c471f844f2c84470e56548127dcee06"), looks := true }, kinds := [], alts := [], laidByText := true, laidKinds := [.data, .data], laidTests := true, laidLooks := .later }
def FnExactDivideOfCardSaid : Prop := Claim7.holds Tryz.pinned (.plain (OpenSpec.ofChange fnExactDivideOfSpec)) fnExactDivideOfCard

/-- THE TIED CARD OF 'laws.FnExactRootOf'. -/
def fnExactRootOfCard : Claim7 := { stood := { row := fnExactRootOfRow, standIns := [], harness := (true, "89f4fc5f2b6b3a38e79aff4b774866027c471f844f2c84470e56548127dcee06"), looks := true }, kinds := [], alts := [], laidByText := true, laidKinds := [.data, .data], laidTests := true, laidLooks := .later }
def FnExactRootOfCardSaid : Prop := Claim7.holds Tryz.pinned (.plain (OpenSpec.ofChange fnExactRootOfSpec)) fnExactRootOfCard

/-- THE TIED CARD OF 'laws.FnExactFusedOf'. -/
def fnExactFusedOfCard : Claim7 := { stood := { row := fnExactFusedOfRow, standIns := [], harness := (true, "89f4fc5f2b6b3a38e79aff4b774866027c471f844f2c84470e56548127dcee06"), looks := true }, kinds := [], alts := [], laidByText := true, laidKinds := [.data, .data], laidTests := true, laidLooks := .later }
def FnExactFusedOfCardSaid : Prop := Claim7.holds Tryz.pinned (.plain (OpenSpec.ofChange fnExactFusedOfSpec)) fnExactFusedOfCard

/-- THE TIED CARD OF 'laws.FnExactRemainderOf'. -/
def fnExactRemainderOfCard : Claim7 := { stood := { row := fnExactRemainderOfRow, standIns := [], harness := (true, "89f4fc5f2b6b3a38e79aff4b774866027c471f844f2c84470e56548127dcee06"), looks := true }, kinds := [], alts := [], laidByText := true, laidKinds := [.data, .data], laidTests := true, laidLooks := .later }
def FnExactRemainderOfCardSaid : Prop := Claim7.holds Tryz.pinned (.plain (OpenSpec.ofChange fnExactRemainderOfSpec)) fnExactRemainderOfCard

/-- THE TIED CARD OF 'laws.FnExactWholeOf'. -/
def fnExactWholeOfCard : Claim7 := { stood := { row := fnExactWholeOfRow, standIns := [], harness := (true, "89f4fc5f2b6b3a38e79aff4b774866027c471f844f2c84470e56548127dcee06"), looks := true }, kinds := [], alts := [], laidByText := true, laidKinds := [.data, .data], laidTests := true, laidLooks := .later }
def FnExactWholeOfCardSaid : Prop := Claim7.holds Tryz.pinned (.plain (OpenSpec.ofChange fnExactWholeOfSpec)) fnExactWholeOfCard

/-- THE SECOND FORM's CARD OF 'laws.FnExactTimesInterval'. -/
def fnExactTimesIntervalUptoCard : Claim7 := { stood := { row := fnExactTimesIntervalUptoRow, standIns := [], harness := (true, "89f4fc5f2b6b3a38e79aff4b774866027c471f844f2c84470e56548127dcee06"), looks := true }, kinds := [], alts := [], laidByText := true, laidKinds := [.data, .data], laidTests := true, laidLooks := .later }
def FnExactTimesIntervalUptoCardSaid : Prop := Claim7.holds Tryz.pinned (.plain (OpenSpec.upto fnExactTimesIntervalSpec)) fnExactTimesIntervalUptoCard

/-- THE SECOND FORM's CARD OF 'laws.FnExactDivideInterval'. -/
def fnExactDivideIntervalUptoCard : Claim7 := { stood := { row := fnExactDivideIntervalUptoRow, standIns := [], harness := (true, "89f4fc5f2b6b3a38e79aff4b774866027c471f844f2c84470e56548127dcee06"), looks := true }, kinds := [], alts := [], laidByText := true, laidKinds := [.data, .data], laidTests := true, laidLooks := .later }
def FnExactDivideIntervalUptoCardSaid : Prop := Claim7.holds Tryz.pinned (.plain (OpenSpec.upto fnExactDivideIntervalSpec)) fnExactDivideIntervalUptoCard

/-- THE SECOND FORM's CARD OF 'laws.FnExactRootInterval'. -/
def fnExactRootIntervalUptoCard : Claim7 := { stood := { row := fnExactRootIntervalUptoRow, standIns := [], harness := (true, "89f4fc5f2b6b3a38e79aff4b774866027c471f844f2c84470e56548127dcee06"), looks := true }, kinds := [], alts := [], laidByText := true, laidKinds := [.data, .data], laidTests := true, laidLooks := .later }
def FnExactRootIntervalUptoCardSaid : Prop := Claim7.holds Tryz.pinned (.plain (OpenSpec.upto fnExactRootIntervalSpec)) fnExactRootIntervalUptoCard

/-- THE SECOND FORM's CARD OF 'laws.FnExactPolyInterval'. -/
def fnExactPolyIntervalUptoCard : Claim7 := { stood := { row := fnExactPolyIntervalUptoRow, standIns := [], harness := (true, "89f4fc5f2b6b3a38e79aff4b774866027c471f844f2c84470e56548127dcee06"), looks := true }, kinds := [], alts := [], laidByText := true, laidKinds := [.data, .data], laidTests := true, laidLooks := .later }
def FnExactPolyIntervalUptoCardSaid : Prop := Claim7.holds Tryz.pinned (.plain (OpenSpec.upto fnExactPolyIntervalSpec)) fnExactPolyIntervalUptoCard

/-- THE SECOND FORM's CARD OF 'laws.FnExactPlusOf'. -/
def fnExactPlusOfUptoCard : Claim7 := { stood := { row := fnExactPlusOfUptoRow, standIns := [], harness := (true, "89f4fc5f2b6b3a38e79aff4b774866027c471f844f2c84470e56548127dcee06"), looks := true }, kinds := [], alts := [], laidByText := true, laidKinds := [.data, .data], laidTests := true, laidLooks := .later }
def FnExactPlusOfUptoCardSaid : Prop := Claim7.holds Tryz.pinned (.plain (OpenSpec.upto fnExactPlusOfSpec)) fnExactPlusOfUptoCard

/-- THE SECOND FORM's CARD OF 'laws.FnExactLessOf'. -/
def fnExactLessOfUptoCard : Claim7 := { stood := { row := fnExactLessOfUptoRow, standIns := [], harness := (true, "89f4fc5f2b6b3a38e79aff4b774866027c471f844f2c84470e56548127dcee06"), looks := true }, kinds := [], alts := [], laidByText := true, laidKinds := [.data, .data], laidTests := true, laidLooks := .later }
def FnExactLessOfUptoCardSaid : Prop := Claim7.holds Tryz.pinned (.plain (OpenSpec.upto fnExactLessOfSpec)) fnExactLessOfUptoCard

/-- THE SECOND FORM's CARD OF 'laws.FnExactTimesOf'. -/
def fnExactTimesOfUptoCard : Claim7 := { stood := { row := fnExactTimesOfUptoRow, standIns := [], harness := (true, "89f4fc5f2b6b3a38e79aff4b774866027c471f844f2c84470e56548127dcee06"), looks := true }, kinds := [], alts := [], laidByText := true, laidKinds := [.data, .data], laidTests := true, laidLooks := .later }
def FnExactTimesOfUptoCardSaid : Prop := Claim7.holds Tryz.pinned (.plain (OpenSpec.upto fnExactTimesOfSpec)) fnExactTimesOfUptoCard

/-- THE SECOND FORM's CARD OF 'laws.FnExactDivideOf'. -/
def fnExactDivideOfUptoCard : Claim7 := { stood := { row := fnExactDivideOfUptoRow, standIns := [], harness := (true, "89f4fc5f2b6b3a38e79aff4b774866027c471f844f2c84470e56548127dcee06"), looks := true }, kinds := [], alts := [], laidByText := true, laidKinds := [.data, .data], laidTests := true, laidLooks := .later }
def FnExactDivideOfUptoCardSaid : Prop := Claim7.holds Tryz.pinned (.plain (OpenSpec.upto fnExactDivideOfSpec)) fnExactDivideOfUptoCard

/-- THE SECOND FORM's CARD OF 'laws.FnExactRootOf'. -/
def fnExactRootOfUptoCard : Claim7 := { stood := { row := fnExactRootOfUptoRow, standIns := [], harness := (true, "89f4fc5f2b6b3a38e79aff4b774866027c471f844f2c84470e56548127dcee06"), looks := true }, kinds := [], alts := [], laidByText := true, laidKinds := [.data, .data], laidTests := true, laidLooks := .later }
def FnExactRootOfUptoCardSaid : Prop := Claim7.holds Tryz.pinned (.plain (OpenSpec.upto fnExactRootOfSpec)) fnExactRootOfUptoCard

/-- THE SECOND FORM's CARD OF 'laws.FnExactFusedOf'. -/
def fnExactFusedOfUptoCard : Claim7 := { stood := { row := fnExactFusedOfUptoRow, standIns := [], harness := (true, "89f4fc5f2b6b3a38e79aff4b774866027c471f844f2c84470e56548127dcee06"), looks := true }, kinds := [], alts := [], laidByText := true, laidKinds := [.data, .data], laidTests := true, laidLooks := .later }
def FnExactFusedOfUptoCardSaid : Prop := Claim7.holds Tryz.pinned (.plain (OpenSpec.upto fnExactFusedOfSpec)) fnExactFusedOfUptoCard

/-- THE SECOND FORM's CARD OF 'laws.FnExactRemainderOf'. -/
def fnExactRemainderOfUptoCard : Claim7 := { stood := { row := fnExactRemainderOfUptoRow, standIns := [], harness := (true, "89f4fc5f2b6b3a38e79aff4b774866027c471f844f2c84470e56548127dcee06"), looks := true }, kinds := [], alts := [], laidByText := true, laidKinds := [.data, .data], laidTests := true, laidLooks := .later }
def FnExactRemainderOfUptoCardSaid : Prop := Claim7.holds Tryz.pinned (.plain (OpenSpec.upto fnExactRemainderOfSpec)) fnExactRemainderOfUptoCard

/-- THE SECOND FORM's CARD OF 'laws.FnExactWholeOf'. -/
def fnExactWholeOfUptoCard : Claim7 := { stood := { row := fnExactWholeOfUptoRow, standIns := [], harness := (true, "89f4fc5f2b6b3a38e79aff4b774866027c471f844f2c84470e56548127dcee06"), looks := true }, kinds := [], alts := [], laidByText := true, laidKinds := [.data, .data], laidTests := true, laidLooks := .later }
def FnExactWholeOfUptoCardSaid : Prop := Claim7.holds Tryz.pinned (.plain (OpenSpec.upto fnExactWholeOfSpec)) fnExactWholeOfUptoCard
end Rows
end Go.Proofs.YtfgbndjhaiigbaaGreatDoor
