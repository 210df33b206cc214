/-
  DERIVED. GIVEN WITH THE SEED: THE CARDS: each row of YtcbkhlaiefiieabDoorRows.lean that lists a variable, with what it lists TIED to the program's text (the seventh form; the later family's looks); each row that meets fmt, with fmt's text TOLD by the authors' own Lean function (tested against real Go, not proved from fmt's source: count such statements apart). THE CARD IS WHAT COUNTS. Prove the row's statement (the work); the ties are given (YtcbkhlaiefiieabDoorTie.lean); close each card by the builder's one call (the guide's Derived/Test/ToyasCard.lean, 'card_holds'). Laid BY PROGRAM, IN A SANDBOX (cutbox-door.mjs). By AI agents, Wed Nov 11 2026. No macro, syntax, notation, axiom, sorry.
-/
import Derived.Test.YtcbkhlaiefiieabDoorRows
import GoSem.ClaimSeven
namespace Go.Proofs.YtcbkhlaiefiieabDoor
namespace Rows

/-- THE TIED CARD OF 'laws.FnExactDyadicOf'. -/
def fnExactDyadicOfCard : Claim7 := { stood := { row := fnExactDyadicOfRow, standIns := [], harness := (true, "77eb8531e552528d1a106b537ce7471ced4dd3ab79b2a0248d6d6400cb3a06ee"), looks := false }, kinds := [], alts := [], laidByText := true, laidKinds := [.data, .data], laidTests := true, laidLooks := .later }
def FnExactDyadicOfCardSaid : Prop := Claim7.holds Tryd.pinned (.plain (OpenSpec.ofChange fnExactDyadicOfSpec)) fnExactDyadicOfCard

/-- THE TIED CARD OF 'laws.FnExactValueOf'. -/
def fnExactValueOfCard : Claim7 := { stood := { row := fnExactValueOfRow, standIns := [], harness := (true, "77eb8531e552528d1a106b537ce7471ced4dd3ab79b2a0248d6d6400cb3a06ee"), looks := false }, kinds := [], alts := [], laidByText := true, laidKinds := [.data, .data], laidTests := true, laidLooks := .later }
def FnExactValueOfCardSaid : Prop := Claim7.holds Tryd.pinned (.plain (OpenSpec.ofChange fnExactValueOfSpec)) fnExactValueOfCard

/-- THE TIED CARD OF 'laws.FnExactUnitOf'. -/
def fnExactUnitOfCard : Claim7 := { stood := { row := fnExactUnitOfRow, standIns := [], harness := (true, "77eb8531e552528d1a106b537ce7471ced4dd3ab79b2a0248d6d6400cb3a06ee"), looks := false }, kinds := [], alts := [], laidByText := true, laidKinds := [.data, .data], laidTests := true, laidLooks := .later }
def FnExactUnitOfCardSaid : Prop := Claim7.holds Tryd.pinned (.plain (OpenSpec.ofChange fnExactUnitOfSpec)) fnExactUnitOfCard

/-- THE TIED CARD OF 'laws.FnExactPlusDyadic'. -/
def fnExactPlusDyadicCard : Claim7 := { stood := { row := fnExactPlusDyadicRow, standIns := [], harness := (true, "77eb8531e552528d1a106b537ce7471ced4dd3ab79b2a0248d6d6400cb3a06ee"), looks := false }, kinds := [], alts := [], laidByText := true, laidKinds := [.data, .data], laidTests := true, laidLooks := .later }
def FnExactPlusDyadicCardSaid : Prop := Claim7.holds Tryd.pinned (.plain (OpenSpec.ofChange fnExactPlusDyadicSpec)) fnExactPlusDyadicCard

/-- THE TIED CARD OF 'laws.FnExactTimesDyadic'. -/
def fnExactTimesDyadicCard : Claim7 := { stood := { row := fnExactTimesDyadicRow, standIns := [], harness := (true, "77eb8531e552528d1a106b537ce7471ced4dd3ab79b2a0248d6d6400cb3a06ee"), looks := false }, kinds := [], alts := [], laidByText := true, laidKinds := [.data, .data], laidTests := true, laidLooks := .later }
def FnExactTimesDyadicCardSaid : Prop := Claim7.holds Tryd.pinned (.plain (OpenSpec.ofChange fnExactTimesDyadicSpec)) fnExactTimesDyadicCard

/-- THE TIED CARD OF 'laws.FnExactFlagsOf'. -/
def fnExactFlagsOfCard : Claim7 := { stood := { row := fnExactFlagsOfRow, standIns := [], harness := (true, "77eb8531e552528d1a106b537ce7471ced4dd3ab79b2a0248d6d6400cb3a06ee"), looks := false }, kinds := [], alts := [], laidByText := true, laidKinds := [.data, .data], laidTests := true, laidLooks := .later }
def FnExactFlagsOfCardSaid : Prop := Claim7.holds Tryd.pinned (.plain (OpenSpec.ofChange fnExactFlagsOfSpec)) fnExactFlagsOfCard

/-- THE TIED CARD OF 'laws.FnExactIsExact'. -/
def fnExactIsExactCard : Claim7 := { stood := { row := fnExactIsExactRow, standIns := [], harness := (true, "77eb8531e552528d1a106b537ce7471ced4dd3ab79b2a0248d6d6400cb3a06ee"), looks := false }, kinds := [], alts := [], laidByText := true, laidKinds := [.data, .data], laidTests := true, laidLooks := .later }
def FnExactIsExactCardSaid : Prop := Claim7.holds Tryd.pinned (.plain (OpenSpec.ofChange fnExactIsExactSpec)) fnExactIsExactCard

/-- THE TIED CARD OF 'laws.FnExactMidpointOf'. -/
def fnExactMidpointOfCard : Claim7 := { stood := { row := fnExactMidpointOfRow, standIns := [], harness := (true, "77eb8531e552528d1a106b537ce7471ced4dd3ab79b2a0248d6d6400cb3a06ee"), looks := false }, kinds := [], alts := [], laidByText := true, laidKinds := [.data, .data], laidTests := true, laidLooks := .later }
def FnExactMidpointOfCardSaid : Prop := Claim7.holds Tryd.pinned (.plain (OpenSpec.ofChange fnExactMidpointOfSpec)) fnExactMidpointOfCard

/-- THE TIED CARD OF 'laws.FnExactIsMidpoint'. -/
def fnExactIsMidpointCard : Claim7 := { stood := { row := fnExactIsMidpointRow, standIns := [], harness := (true, "77eb8531e552528d1a106b537ce7471ced4dd3ab79b2a0248d6d6400cb3a06ee"), looks := false }, kinds := [], alts := [], laidByText := true, laidKinds := [.data, .data], laidTests := true, laidLooks := .later }
def FnExactIsMidpointCardSaid : Prop := Claim7.holds Tryd.pinned (.plain (OpenSpec.ofChange fnExactIsMidpointSpec)) fnExactIsMidpointCard

/-- THE TIED CARD OF 'laws.FnExactErrorOf'. -/
def fnExactErrorOfCard : Claim7 := { stood := { row := fnExactErrorOfRow, standIns := [], harness := (true, "77eb8531e552528d1a106b537ce7471ced4dd3ab79b2a0248d6d6400cb3a06ee"), looks := false }, kinds := [], alts := [], laidByText := true, laidKinds := [.data, .data], laidTests := true, laidLooks := .later }
def FnExactErrorOfCardSaid : Prop := Claim7.holds Tryd.pinned (.plain (OpenSpec.ofChange fnExactErrorOfSpec)) fnExactErrorOfCard

/-- THE TIED CARD OF 'laws.FnExactExactPlus'. -/
def fnExactExactPlusCard : Claim7 := { stood := { row := fnExactExactPlusRow, standIns := [], harness := (true, "77eb8531e552528d1a106b537ce7471ced4dd3ab79b2a0248d6d6400cb3a06ee"), looks := false }, kinds := [], alts := [], laidByText := true, laidKinds := [.data, .data], laidTests := true, laidLooks := .later }
def FnExactExactPlusCardSaid : Prop := Claim7.holds Tryd.pinned (.plain (OpenSpec.ofChange fnExactExactPlusSpec)) fnExactExactPlusCard

/-- THE TIED CARD OF 'laws.FnExactExactTimes'. -/
def fnExactExactTimesCard : Claim7 := { stood := { row := fnExactExactTimesRow, standIns := [], harness := (true, "77eb8531e552528d1a106b537ce7471ced4dd3ab79b2a0248d6d6400cb3a06ee"), looks := false }, kinds := [], alts := [], laidByText := true, laidKinds := [.data, .data], laidTests := true, laidLooks := .later }
def FnExactExactTimesCardSaid : Prop := Claim7.holds Tryd.pinned (.plain (OpenSpec.ofChange fnExactExactTimesSpec)) fnExactExactTimesCard

/-- THE TIED CARD OF 'laws.FnExactHoldsFormat'. -/
def fnExactHoldsFormatCard : Claim7 := { stood := { row := fnExactHoldsFormatRow, standIns := [], harness := (true, "77eb8531e552528d1a106b537ce7471ced4dd3ab79b2a0248d6d6400cb3a06ee"), looks := false }, kinds := [], alts := [], laidByText := true, laidKinds := [.data, .data], laidTests := true, laidLooks := .later }
def FnExactHoldsFormatCardSaid : Prop := Claim7.holds Tryd.pinned (.plain (OpenSpec.ofChange fnExactHoldsFormatSpec)) fnExactHoldsFormatCard

/-- THE TIED CARD OF 'laws.FnExactLeastHolding'. -/
def fnExactLeastHoldingCard : Claim7 := { stood := { row := fnExactLeastHoldingRow, standIns := [], harness := (true, "77eb8531e552528d1a106b537ce7471ced4dd3ab79b2a0248d6d6400cb3a06ee"), looks := false }, kinds := [], alts := [], laidByText := true, laidKinds := [.data, .data], laidTests := true, laidLooks := .later }
def FnExactLeastHoldingCardSaid : Prop := Claim7.holds Tryd.pinned (.plain (OpenSpec.ofChange fnExactLeastHoldingSpec)) fnExactLeastHoldingCard

/-- THE SECOND FORM's CARD OF 'laws.FnExactDyadicOf'. -/
def fnExactDyadicOfUptoCard : Claim7 := { stood := { row := fnExactDyadicOfUptoRow, standIns := [], harness := (true, "77eb8531e552528d1a106b537ce7471ced4dd3ab79b2a0248d6d6400cb3a06ee"), looks := false }, kinds := [], alts := [], laidByText := true, laidKinds := [.data, .data], laidTests := true, laidLooks := .later }
def FnExactDyadicOfUptoCardSaid : Prop := Claim7.holds Tryd.pinned (.plain (OpenSpec.upto fnExactDyadicOfSpec)) fnExactDyadicOfUptoCard

/-- THE SECOND FORM's CARD OF 'laws.FnExactValueOf'. -/
def fnExactValueOfUptoCard : Claim7 := { stood := { row := fnExactValueOfUptoRow, standIns := [], harness := (true, "77eb8531e552528d1a106b537ce7471ced4dd3ab79b2a0248d6d6400cb3a06ee"), looks := false }, kinds := [], alts := [], laidByText := true, laidKinds := [.data, .data], laidTests := true, laidLooks := .later }
def FnExactValueOfUptoCardSaid : Prop := Claim7.holds Tryd.pinned (.plain (OpenSpec.upto fnExactValueOfSpec)) fnExactValueOfUptoCard

/-- THE SECOND FORM's CARD OF 'laws.FnExactUnitOf'. -/
def fnExactUnitOfUptoCard : Claim7 := { stood := { row := fnExactUnitOfUptoRow, standIns := [], harness := (true, "77eb8531e552528d1a106b537ce7471ced4dd3ab79b2a0248d6d6400cb3a06ee"), looks := false }, kinds := [], alts := [], laidByText := true, laidKinds := [.data, .data], laidTests := true, laidLooks := .later }
def FnExactUnitOfUptoCardSaid : Prop := Claim7.holds Tryd.pinned (.plain (OpenSpec.upto fnExactUnitOfSpec)) fnExactUnitOfUptoCard

/-- THE SECOND FORM's CARD OF 'laws.FnExactPlusDyadic'. -/
def fnExactPlusDyadicUptoCard : Claim7 := { stood := { row := fnExactPlusDyadicUptoRow, standIns := [], harness := (true, "77eb8531e552528d1a106b537ce7471ced4dd3ab79b2a0248d6d6400cb3a06ee"), looks := false }, kinds := [], alts := [], laidByText := true, laidKinds := [.data, .data], laidTests := true, laidLooks := .later }
def FnExactPlusDyadicUptoCardSaid : Prop := Claim7.holds Tryd.pinned (.plain (OpenSpec.upto fnExactPlusDyadicSpec)) fnExactPlusDyadicUptoCard

/-- THE SECOND FORM's CARD OF 'laws.FnExactTimesDyadic'. -/
def fnExactTimesDyadicUptoCard : Claim7 := { stood := { row := fnExactTimesDyadicUptoRow, standIns := [], harness := (true, "77eb8531e552528d1a106b537ce7471ced4dd3ab79b2a0248d6d6400cb3a06ee"), looks := false }, kinds := [], alts := [], laidByText := true, laidKinds := [.data, .data], laidTests := true, laidLooks := .later }
def FnExactTimesDyadicUptoCardSaid : Prop := Claim7.holds Tryd.pinned (.plain (OpenSpec.upto fnExactTimesDyadicSpec)) fnExactTimesDyadicUptoCard

/-- THE SECOND FORM's CARD OF 'laws.FnExactFlagsOf'. -/
def fnExactFlagsOfUptoCard : Claim7 := { stood := { row := fnExactFlagsOfUptoRow, standIns := [], harness := (true, "77eb8531e552528d1a106b537ce7471ced4dd3ab79b2a0248d6d6400cb3a06ee"), looks := false }, kinds := [], alts := [], laidByText := true, laidKinds := [.data, .data], laidTests := true, laidLooks := .later }
def FnExactFlagsOfUptoCardSaid : Prop := Claim7.holds Tryd.pinned (.plain (OpenSpec.upto fnExactFlagsOfSpec)) fnExactFlagsOfUptoCard

/-- THE SECOND FORM's CARD OF 'laws.FnExactIsExact'. -/
def fnExactIsExactUptoCard : Claim7 := { stood := { row := fnExactIsExactUptoRow, standIns := [], harness := (true, "77eb8531e552528d1a106b537ce7471ced4dd3ab79b2a0248d6d6400cb3a06ee"), looks := false }, kinds := [], alts := [], laidByText := true, laidKinds := [.data, .data], laidTests := true, laidLooks := .later }
def FnExactIsExactUptoCardSaid : Prop := Claim7.holds Tryd.pinned (.plain (OpenSpec.upto fnExactIsExactSpec)) fnExactIsExactUptoCard

/-- THE SECOND FORM's CARD OF 'laws.FnExactMidpointOf'. -/
def fnExactMidpointOfUptoCard : Claim7 := { stood := { row := fnExactMidpointOfUptoRow, standIns := [], harness := (true, "77eb8531e552528d1a106b537ce7471ced4dd3ab79b2a0248d6d6400cb3a06ee"), looks := false }, kinds := [], alts := [], laidByText := true, laidKinds := [.data, .data], laidTests := true, laidLooks := .later }
def FnExactMidpointOfUptoCardSaid : Prop := Claim7.holds Tryd.pinned (.plain (OpenSpec.upto fnExactMidpointOfSpec)) fnExactMidpointOfUptoCard

/-- THE SECOND FORM's CARD OF 'laws.FnExactIsMidpoint'. -/
def fnExactIsMidpointUptoCard : Claim7 := { stood := { row := fnExactIsMidpointUptoRow, standIns := [], harness := (true, "77eb8531e552528d1a106b537ce7471ced4dd3ab79b2a0248d6d6400cb3a06ee"), looks := false }, kinds := [], alts := [], laidByText := true, laidKinds := [.data, .data], laidTests := true, laidLooks := .later }
def FnExactIsMidpointUptoCardSaid : Prop := Claim7.holds Tryd.pinned (.plain (OpenSpec.upto fnExactIsMidpointSpec)) fnExactIsMidpointUptoCard

/-- THE SECOND FORM's CARD OF 'laws.FnExactErrorOf'. -/
def fnExactErrorOfUptoCard : Claim7 := { stood := { row := fnExactErrorOfUptoRow, standIns := [], harness := (true, "77eb8531e552528d1a106b537ce7471ced4dd3ab79b2a0248d6d6400cb3a06ee"), looks := false }, kinds := [], alts := [], laidByText := true, laidKinds := [.data, .data], laidTests := true, laidLooks := .later }
def FnExactErrorOfUptoCardSaid : Prop := Claim7.holds Tryd.pinned (.plain (OpenSpec.upto fnExactErrorOfSpec)) fnExactErrorOfUptoCard

/-- THE SECOND FORM's CARD OF 'laws.FnExactExactPlus'. -/
def fnExactExactPlusUptoCard : Claim7 := { stood := { row := fnExactExactPlusUptoRow, standIns := [], harness := (true, "77eb8531e552528d1a106b537ce7471ced4dd3ab79b2a0248d6d6400cb3a06ee"), looks := false }, kinds := [], alts := [], laidByText := true, laidKinds := [.data, .data], laidTests := true, laidLooks := .later }
def FnExactExactPlusUptoCardSaid : Prop := Claim7.holds Tryd.pinned (.plain (OpenSpec.upto fnExactExactPlusSpec)) fnExactExactPlusUptoCard

/-- THE SECOND FORM's CARD OF 'laws.FnExactExactTimes'. -/
def fnExactExactTimesUptoCard : Claim7 := { stood := { row := fnExactExactTimesUptoRow, standIns := [], harness := (true, "77eb8531e552528d1a106b537ce7471ced4dd3ab79b2a0248d6d6400cb3a06ee"), looks := false }, kinds := [], alts := [], laidByText := true, laidKinds := [.data, .data], laidTests := true, laidLooks := .later }
def FnExactExactTimesUptoCardSaid : Prop := Claim7.holds Tryd.pinned (.plain (OpenSpec.upto fnExactExactTimesSpec)) fnExactExactTimesUptoCard

/-- THE SECOND FORM's CARD OF 'laws.FnExactHoldsFormat'. -/
def fnExactHoldsFormatUptoCard : Claim7 := { stood := { row := fnExactHoldsFormatUptoRow, standIns := [], harness := (true, "77eb8531e552528d1a106b537ce7471ced4dd3ab79b2a0248d6d6400cb3a06ee"), looks := false }, kinds := [], alts := [], laidByText := true, laidKinds := [.data, .data], laidTests := true, laidLooks := .later }
def FnExactHoldsFormatUptoCardSaid : Prop := Claim7.holds Tryd.pinned (.plain (OpenSpec.upto fnExactHoldsFormatSpec)) fnExactHoldsFormatUptoCard

/-- THE SECOND FORM's CARD OF 'laws.FnExactLeastHolding'. -/
def fnExactLeastHoldingUptoCard : Claim7 := { stood := { row := fnExactLeastHoldingUptoRow, standIns := [], harness := (true, "77eb8531e552528d1a106b537ce7471ced4dd3ab79b2a0248d6d6400cb3a06ee"), looks := false }, kinds := [], alts := [], laidByText := true, laidKinds := [.data, .data], laidTests := true, laidLooks := .later }
def FnExactLeastHoldingUptoCardSaid : Prop := Claim7.holds Tryd.pinned (.plain (OpenSpec.upto fnExactLeastHoldingSpec)) fnExactLeastHoldingUptoCard
end Rows
end Go.Proofs.YtcbkhlaiefiieabDoor
