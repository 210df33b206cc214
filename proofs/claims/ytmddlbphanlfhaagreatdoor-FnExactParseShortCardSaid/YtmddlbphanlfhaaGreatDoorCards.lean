/-
  DERIVED. GIVEN WITH THE SEED: THE CARDS: each row of YtmddlbphanlfhaaGreatDoorRows.lean that lists a variable, with what it lists TIED to the program's text (the seventh form; the later family's looks); each row that meets fmt, with fmt's text TOLD by the authors' own Lean function (tested against real Go, not proved from fmt's source: count such statements apart). THE CARD IS WHAT COUNTS. Prove the row's statement (the work); the ties are given (YtmddlbphanlfhaaGreatDoorTie.lean); close each card by the builder's one call (the guide's Derived/Test/ToyasCard.lean, 'card_holds'). Laid BY PROGRAM, IN A SANDBOX (cutbox-door.mjs). By AI agents, Wed Nov 11 2026. No macro, syntax, notation, axiom, sorry.
-/
import Derived.Test.YtmddlbphanlfhaaGreatDoorRows
import GoSem.ClaimSeven
namespace Go.Proofs.YtmddlbphanlfhaaGreatDoor
namespace Rows

/-- THE TIED CARD OF 'laws.FnExactParseShort'. -/
def fnExactParseShortCard : Claim7 := { stood := { row := fnExactParseShortRow, standIns := [], harness := (true, "f25258e4c59975aed88b5fb66c93ed112f6e749dee6921ef518a9f30b052191e"), looks := true }, kinds := [], alts := [], laidByText := true, laidKinds := [.data, .data, .data, .data, .sentinel, .sentinel, .pinned], laidTests := true, laidLooks := .later }
def FnExactParseShortCardSaid : Prop := Claim7.holds Tryz.pinned (.plain (OpenSpec.ofChange fnExactParseShortSpec)) fnExactParseShortCard

/-- THE TIED CARD OF 'laws.FnExactPolyInterval'. -/
def fnExactPolyIntervalCard : Claim7 := { stood := { row := fnExactPolyIntervalRow, standIns := [], harness := (true, "f25258e4c59975aed88b5fb66c93ed112f6e749dee6921ef518a9f30b052191e"), looks := true }, kinds := [], alts := [], laidByText := true, laidKinds := [.data, .data], laidTests := true, laidLooks := .later }
def FnExactPolyIntervalCardSaid : Prop := Claim7.holds Tryz.pinned (.plain (OpenSpec.ofChange fnExactPolyIntervalSpec)) fnExactPolyIntervalCard

/-- THE SECOND FORM's CARD OF 'laws.FnExactParseShort'. -/
def fnExactParseShortUptoCard : Claim7 := { stood := { row := fnExactParseShortUptoRow, standIns := [], harness := (true, "f25258e4c59975aed88b5fb66c93ed112f6e749dee6921ef518a9f30b052191e"), looks := true }, kinds := [], alts := [], laidByText := true, laidKinds := [.data, .data, .data, .data, .sentinel, .sentinel, .pinned], laidTests := true, laidLooks := .later }
def FnExactParseShortUptoCardSaid : Prop := Claim7.holds Tryz.pinned (.plain (OpenSpec.upto fnExactParseShortSpec)) fnExactParseShortUptoCard

/-- THE SECOND FORM's CARD OF 'laws.FnExactPolyInterval'. -/
def fnExactPolyIntervalUptoCard : Claim7 := { stood := { row := fnExactPolyIntervalUptoRow, standIns := [], harness := (true, "f25258e4c59975aed88b5fb66c93ed112f6e749dee6921ef518a9f30b052191e"), looks := true }, kinds := [], alts := [], laidByText := true, laidKinds := [.data, .data], laidTests := true, laidLooks := .later }
def FnExactPolyIntervalUptoCardSaid : Prop := Claim7.holds Tryz.pinned (.plain (OpenSpec.upto fnExactPolyIntervalSpec)) fnExactPolyIntervalUptoCard
end Rows
end Go.Proofs.YtmddlbphanlfhaaGreatDoor
