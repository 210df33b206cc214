/-
  DERIVED. GIVEN WITH THE SEED: THE CARDS: each row of YtfgbndjhaiigbacGreatDoorRows.lean that lists a variable, with what it lists TIED to the program's text (the seventh form; the later family's looks); each row that meets fmt, with fmt's text TOLD by the authors' own Lean function (tested against real Go, not proved from fmt's source: count such statements apart). THE CARD IS WHAT COUNTS. Prove the row's statement (the work); the ties are given (YtfgbndjhaiigbacGreatDoorTie.lean); close each card by the builder's one call (the guide's Derived/Test/ToyasCard.lean, 'card_holds'). Laid BY PROGRAM, IN A SANDBOX (cutbox-door.mjs). By AI agents, Wed Nov 11 2026. No macro, syntax, notation, axiom, sorry.
-/
import Derived.Test.YtfgbndjhaiigbacGreatDoorRows
import GoSem.ClaimSeven
namespace Go.Proofs.YtfgbndjhaiigbacGreatDoor
namespace Rows

/-- THE TIED CARD OF 'laws.FnExactScaleOf'. -/
def fnExactScaleOfCard : Claim7 := { stood := { row := fnExactScaleOfRow, standIns := [], harness := (true, "fdf07d7551ca4a3e0d72eb0b04800bea435416d1ba37bb685256891b6ded4f51"), looks := true }, kinds := [], alts := [], laidByText := true, laidKinds := [.data, .data], laidTests := true, laidLooks := .later }
def FnExactScaleOfCardSaid : Prop := Claim7.holds Tryz.pinned (.plain (OpenSpec.ofChange fnExactScaleOfSpec)) fnExactScaleOfCard

/-- THE TIED CARD OF 'laws.FnExactThroughThird'. -/
def fnExactThroughThirdCard : Claim7 := { stood := { row := fnExactThroughThirdRow, standIns := [], harness := (true, "fdf07d7551ca4a3e0d72eb0b04800bea435416d1ba37bb685256891b6ded4f51"), looks := true }, kinds := [], alts := [], laidByText := true, laidKinds := [.data, .data], laidTests := true, laidLooks := .later }
def FnExactThroughThirdCardSaid : Prop := Claim7.holds Tryz.pinned (.plain (OpenSpec.ofChange fnExactThroughThirdSpec)) fnExactThroughThirdCard

/-- THE TIED CARD OF 'laws.FnExactThroughOdd'. -/
def fnExactThroughOddCard : Claim7 := { stood := { row := fnExactThroughOddRow, standIns := [], harness := (true, "fdf07d7551ca4a3e0d72eb0b04800bea435416d1ba37bb685256891b6ded4f51"), looks := true }, kinds := [], alts := [], laidByText := true, laidKinds := [.data, .data], laidTests := true, laidLooks := .later }
def FnExactThroughOddCardSaid : Prop := Claim7.holds Tryz.pinned (.plain (OpenSpec.ofChange fnExactThroughOddSpec)) fnExactThroughOddCard

/-- THE TIED CARD OF 'laws.FnExactConvertOf'. -/
def fnExactConvertOfCard : Claim7 := { stood := { row := fnExactConvertOfRow, standIns := [], harness := (true, "fdf07d7551ca4a3e0d72eb0b04800bea435416d1ba37bb685256891b6ded4f51"), looks := true }, kinds := [], alts := [], laidByText := true, laidKinds := [.data, .data], laidTests := true, laidLooks := .later }
def FnExactConvertOfCardSaid : Prop := Claim7.holds Tryz.pinned (.plain (OpenSpec.ofChange fnExactConvertOfSpec)) fnExactConvertOfCard

/-- THE TIED CARD OF 'laws.FnExactFirstDouble'. -/
def fnExactFirstDoubleCard : Claim7 := { stood := { row := fnExactFirstDoubleRow, standIns := [], harness := (true, "fdf07d7551ca4a3e0d72eb0b04800bea435416d1ba37bb685256891b6ded4f51"), looks := true }, kinds := [], alts := [], laidByText := true, laidKinds := [.data, .data], laidTests := true, laidLooks := .later }
def FnExactFirstDoubleCardSaid : Prop := Claim7.holds Tryz.pinned (.plain (OpenSpec.ofChange fnExactFirstDoubleSpec)) fnExactFirstDoubleCard

/-- THE TIED CARD OF 'laws.FnExactShortestOf'. -/
def fnExactShortestOfCard : Claim7 := { stood := { row := fnExactShortestOfRow, standIns := [], harness := (true, "fdf07d7551ca4a3e0d72eb0b04800bea435416d1ba37bb685256891b6ded4f51"), looks := true }, kinds := [], alts := [], laidByText := true, laidKinds := [.data, .data], laidTests := true, laidLooks := .later }
def FnExactShortestOfCardSaid : Prop := Claim7.holds Tryz.pinned (.plain (OpenSpec.ofChange fnExactShortestOfSpec)) fnExactShortestOfCard

/-- THE TIED CARD OF 'laws.FnExactLongestShortest'. -/
def fnExactLongestShortestCard : Claim7 := { stood := { row := fnExactLongestShortestRow, standIns := [], harness := (true, "fdf07d7551ca4a3e0d72eb0b04800bea435416d1ba37bb685256891b6ded4f51"), looks := true }, kinds := [], alts := [], laidByText := true, laidKinds := [.data, .data, .data], laidTests := true, laidLooks := .later }
def FnExactLongestShortestCardSaid : Prop := Claim7.holds Tryz.pinned (.plain (OpenSpec.ofChange fnExactLongestShortestSpec)) fnExactLongestShortestCard

/-- THE TIED CARD OF 'laws.FnExactChangeBlock'. -/
def fnExactChangeBlockCard : Claim7 := { stood := { row := fnExactChangeBlockRow, standIns := [], harness := (true, "fdf07d7551ca4a3e0d72eb0b04800bea435416d1ba37bb685256891b6ded4f51"), looks := true }, kinds := [], alts := [], laidByText := true, laidKinds := [.data, .data], laidTests := true, laidLooks := .later }
def FnExactChangeBlockCardSaid : Prop := Claim7.holds Tryz.pinned (.plain (OpenSpec.ofChange fnExactChangeBlockSpec)) fnExactChangeBlockCard

/-- THE TIED CARD OF 'laws.FnExactShortestText'. -/
def fnExactShortestTextCard : Claim7 := { stood := { row := fnExactShortestTextRow, standIns := [], harness := (true, "fdf07d7551ca4a3e0d72eb0b04800bea435416d1ba37bb685256891b6ded4f51"), looks := true }, kinds := [], alts := [], laidByText := true, laidKinds := [.data, .data, .data], laidTests := true, laidLooks := .later }
def FnExactShortestTextCardSaid : Prop := Claim7.holds Tryz.pinned (.plain (OpenSpec.ofChange fnExactShortestTextSpec)) fnExactShortestTextCard

/-- THE TIED CARD OF 'laws.FnExactParseShort'. -/
def fnExactParseShortCard : Claim7 := { stood := { row := fnExactParseShortRow, standIns := [], harness := (true, "fdf07d7551ca4a3e0d72eb0b04800bea435416d1ba37bb685256891b6ded4f51"), looks := true }, kinds := [], alts := [], laidByText := true, laidKinds := [.data, .data, .data, .data, .sentinel, .sentinel, .pinned], laidTests := true, laidLooks := .later }
def FnExactParseShortCardSaid : Prop := Claim7.holds Tryz.pinned (.plain (OpenSpec.ofChange fnExactParseShortSpec)) fnExactParseShortCard

/-- THE TIED CARD OF 'laws.FnExactIntervalText'. -/
def fnExactIntervalTextCard : Claim7 := { stood := { row := fnExactIntervalTextRow, standIns := [], harness := (true, "fdf07d7551ca4a3e0d72eb0b04800bea435416d1ba37bb685256891b6ded4f51"), looks := true }, kinds := [], alts := [], laidByText := true, laidKinds := [.data, .data, .data], laidTests := true, laidLooks := .later }
def FnExactIntervalTextCardSaid : Prop := Claim7.holds Tryz.pinned (.plain (OpenSpec.ofChange fnExactIntervalTextSpec)) fnExactIntervalTextCard

/-- THE SECOND FORM's CARD OF 'laws.FnExactScaleOf'. -/
def fnExactScaleOfUptoCard : Claim7 := { stood := { row := fnExactScaleOfUptoRow, standIns := [], harness := (true, "fdf07d7551ca4a3e0d72eb0b04800bea435416d1ba37bb685256891b6ded4f51"), looks := true }, kinds := [], alts := [], laidByText := true, laidKinds := [.data, .data], laidTests := true, laidLooks := .later }
def FnExactScaleOfUptoCardSaid : Prop := Claim7.holds Tryz.pinned (.plain (OpenSpec.upto fnExactScaleOfSpec)) fnExactScaleOfUptoCard

/-- THE SECOND FORM's CARD OF 'laws.FnExactThroughThird'. -/
def fnExactThroughThirdUptoCard : Claim7 := { stood := { row := fnExactThroughThirdUptoRow, standIns := [], harness := (true, "fdf07d7551ca4a3e0d72eb0b04800bea435416d1ba37bb685256891b6ded4f51"), looks := true }, kinds := [], alts := [], laidByText := true, laidKinds := [.data, .data], laidTests := true, laidLooks := .later }
def FnExactThroughThirdUptoCardSaid : Prop := Claim7.holds Tryz.pinned (.plain (OpenSpec.upto fnExactThroughThirdSpec)) fnExactThroughThirdUptoCard

/-- THE SECOND FORM's CARD OF 'laws.FnExactThroughOdd'. -/
def fnExactThroughOddUptoCard : Claim7 := { stood := { row := fnExactThroughOddUptoRow, standIns := [], harness := (true, "fdf07d7551ca4a3e0d72eb0b04800bea435416d1ba37bb685256891b6ded4f51"), looks := true }, kinds := [], alts := [], laidByText := true, laidKinds := [.data, .data], laidTests := true, laidLooks := .later }
def FnExactThroughOddUptoCardSaid : Prop := Claim7.holds Tryz.pinned (.plain (OpenSpec.upto fnExactThroughOddSpec)) fnExactThroughOddUptoCard

/-- THE SECOND FORM's CARD OF 'laws.FnExactConvertOf'. -/
def fnExactConvertOfUptoCard : Claim7 := { stood := { row := fnExactConvertOfUptoRow, standIns := [], harness := (true, "fdf07d7551ca4a3e0d72eb0b04800bea435416d1ba37bb685256891b6ded4f51"), looks := true }, kinds := [], alts := [], laidByText := true, laidKinds := [.data, .data], laidTests := true, laidLooks := .later }
def FnExactConvertOfUptoCardSaid : Prop := Claim7.holds Tryz.pinned (.plain (OpenSpec.upto fnExactConvertOfSpec)) fnExactConvertOfUptoCard

/-- THE SECOND FORM's CARD OF 'laws.FnExactFirstDouble'. -/
def fnExactFirstDoubleUptoCard : Claim7 := { stood := { row := fnExactFirstDoubleUptoRow, standIns := [], harness := (true, "fdf07d7551ca4a3e0d72eb0b04800bea435416d1ba37bb685256891b6ded4f51"), looks := true }, kinds := [], alts := [], laidByText := true, laidKinds := [.data, .data], laidTests := true, laidLooks := .later }
def FnExactFirstDoubleUptoCardSaid : Prop := Claim7.holds Tryz.pinned (.plain (OpenSpec.upto fnExactFirstDoubleSpec)) fnExactFirstDoubleUptoCard

/-- THE SECOND FORM's CARD OF 'laws.FnExactShortestOf'. -/
def fnExactShortestOfUptoCard : Claim7 := { stood := { row := fnExactShortestOfUptoRow, standIns := [], harness := (true, "fdf07d7551ca4a3e0d72eb0b04800bea435416d1ba37bb685256891b6ded4f51"), looks := true }, kinds := [], alts := [], laidByText := true, laidKinds := [.data, .data], laidTests := true, laidLooks := .later }
def FnExactShortestOfUptoCardSaid : Prop := Claim7.holds Tryz.pinned (.plain (OpenSpec.upto fnExactShortestOfSpec)) fnExactShortestOfUptoCard

/-- THE SECOND FORM's CARD OF 'laws.FnExactLongestShortest'. -/
def fnExactLongestShortestUptoCard : Claim7 := { stood := { row := fnExactLongestShortestUptoRow, standIns := [], harness := (true, "fdf07d7551ca4a3e0d72eb0b04800bea435416d1ba37bb685256891b6ded4f51"), looks := true }, kinds := [], alts := [], laidByText := true, laidKinds := [.data, .data, .data], laidTests := true, laidLooks := .later }
def FnExactLongestShortestUptoCardSaid : Prop := Claim7.holds Tryz.pinned (.plain (OpenSpec.upto fnExactLongestShortestSpec)) fnExactLongestShortestUptoCard

/-- THE SECOND FORM's CARD OF 'laws.FnExactChangeBlock'. -/
def fnExactChangeBlockUptoCard : Claim7 := { stood := { row := fnExactChangeBlockUptoRow, standIns := [], harness := (true, "fdf07d7551ca4a3e0d72eb0b04800bea435416d1ba37bb685256891b6ded4f51"), looks := true }, kinds := [], alts := [], laidByText := true, laidKinds := [.data, .data], laidTests := true, laidLooks := .later }
def FnExactChangeBlockUptoCardSaid : Prop := Claim7.holds Tryz.pinned (.plain (OpenSpec.upto fnExactChangeBlockSpec)) fnExactChangeBlockUptoCard

/-- THE SECOND FORM's CARD OF 'laws.FnExactShortestText'. -/
def fnExactShortestTextUptoCard : Claim7 := { stood := { row := fnExactShortestTextUptoRow, standIns := [], harness := (true, "fdf07d7551ca4a3e0d72eb0b04800bea435416d1ba37bb685256891b6ded4f51"), looks := true }, kinds := [], alts := [], laidByText := true, laidKinds := [.data, .data, .data], laidTests := true, laidLooks := .later }
def FnExactShortestTextUptoCardSaid : Prop := Claim7.holds Tryz.pinned (.plain (OpenSpec.upto fnExactShortestTextSpec)) fnExactShortestTextUptoCard

/-- THE SECOND FORM's CARD OF 'laws.FnExactParseShort'. -/
def fnExactParseShortUptoCard : Claim7 := { stood := { row := fnExactParseShortUptoRow, standIns := [], harness := (true, "fdf07d7551ca4a3e0d72eb0b04800bea435416d1ba37bb685256891b6ded4f51"), looks := true }, kinds := [], alts := [], laidByText := true, laidKinds := [.data, .data, .data, .data, .sentinel, .sentinel, .pinned], laidTests := true, laidLooks := .later }
def FnExactParseShortUptoCardSaid : Prop := Claim7.holds Tryz.pinned (.plain (OpenSpec.upto fnExactParseShortSpec)) fnExactParseShortUptoCard

/-- THE SECOND FORM's CARD OF 'laws.FnExactIntervalText'. -/
def fnExactIntervalTextUptoCard : Claim7 := { stood := { row := fnExactIntervalTextUptoRow, standIns := [], harness := (true, "fdf07d7551ca4a3e0d72eb0b04800bea435416d1ba37bb685256891b6ded4f51"), looks := true }, kinds := [], alts := [], laidByText := true, laidKinds := [.data, .data, .data], laidTests := true, laidLooks := .later }
def FnExactIntervalTextUptoCardSaid : Prop := Claim7.holds Tryz.pinned (.plain (OpenSpec.upto fnExactIntervalTextSpec)) fnExactIntervalTextUptoCard
end Rows
end Go.Proofs.YtfgbndjhaiigbacGreatDoor
