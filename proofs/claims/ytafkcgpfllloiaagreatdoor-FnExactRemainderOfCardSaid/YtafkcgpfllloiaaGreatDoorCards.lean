/-
  DERIVED. GIVEN WITH THE SEED: THE CARDS: each row of YtafkcgpfllloiaaGreatDoorRows.lean that lists a variable, with what it lists TIED to the program's text (the seventh form; the later family's looks); each row that meets fmt, with fmt's text TOLD by the authors' own Lean function (tested against real Go, not proved from fmt's source: count such statements apart). THE CARD IS WHAT COUNTS. Prove the row's statement (the work); the ties are given (YtafkcgpfllloiaaGreatDoorTie.lean); close each card by the builder's one call (the guide's Derived/Test/ToyasCard.lean, 'card_holds'). Laid BY PROGRAM, IN A SANDBOX (cutbox-door.mjs). By AI agents, Wed Nov 11 2026. No macro, syntax, notation, axiom, sorry.
-/
import Derived.Test.YtafkcgpfllloiaaGreatDoorRows
import GoSem.ClaimSeven
namespace Go.Proofs.YtafkcgpfllloiaaGreatDoor
namespace Rows

/-- THE TIED CARD OF 'laws.FnExactPlusOf'. -/
def fnExactPlusOfCard : Claim7 := { stood := { row := fnExactPlusOfRow, standIns := [], harness := (true, "1e75be0db4b6486d72ac4238822c48bfb201c2ce4cba0e93522c745d553c60c3"), looks := true }, kinds := [], alts := [], laidByText := true, laidKinds := [.data, .data], laidTests := true, laidLooks := .later }
def FnExactPlusOfCardSaid : Prop := Claim7.holds Tryz.pinned (.plain (OpenSpec.ofChange fnExactPlusOfSpec)) fnExactPlusOfCard

/-- THE TIED CARD OF 'laws.FnExactLessOf'. -/
def fnExactLessOfCard : Claim7 := { stood := { row := fnExactLessOfRow, standIns := [], harness := (true, "1e75be0db4b6486d72ac4238822c48bfb201c2ce4cba0e93522c745d553c60c3"), looks := true }, kinds := [], alts := [], laidByText := true, laidKinds := [.data, .data], laidTests := true, laidLooks := .later }
def FnExactLessOfCardSaid : Prop := Claim7.holds Tryz.pinned (.plain (OpenSpec.ofChange fnExactLessOfSpec)) fnExactLessOfCard

/-- THE TIED CARD OF 'laws.FnExactTimesOf'. -/
def fnExactTimesOfCard : Claim7 := { stood := { row := fnExactTimesOfRow, standIns := [], harness := (true, "1e75be0db4b6486d72ac4238822c48bfb201c2ce4cba0e93522c745d553c60c3"), looks := true }, kinds := [], alts := [], laidByText := true, laidKinds := [.data, .data], laidTests := true, laidLooks := .later }
def FnExactTimesOfCardSaid : Prop := Claim7.holds Tryz.pinned (.plain (OpenSpec.ofChange fnExactTimesOfSpec)) fnExactTimesOfCard

/-- THE TIED CARD OF 'laws.FnExactDivideOf'. -/
def fnExactDivideOfCard : Claim7 := { stood := { row := fnExactDivideOfRow, standIns := [], harness := (true, "1e75be0db4b6486d72ac4238822c48bfb201c2ce4cba0e93522c745d553c60c3"), looks := true }, kinds := [], alts := [], laidByText := true, laidKinds := [.data, .data], laidTests := true, laidLooks := .later }
def FnExactDivideOfCardSaid : Prop := Claim7.holds Tryz.pinned (.plain (OpenSpec.ofChange fnExactDivideOfSpec)) fnExactDivideOfCard

/-- THE TIED CARD OF 'laws.FnExactRootOf'. -/
def fnExactRootOfCard : Claim7 := { stood := { row := fnExactRootOfRow, standIns := [], harness := (true, "1e75be0db4b6486d72ac4238822c48bfb201c2ce4cba0e93522c745d553c60c3"), looks := true }, kinds := [], alts := [], laidByText := true, laidKinds := [.data, .data], laidTests := true, laidLooks := .later }
def FnExactRootOfCardSaid : Prop := Claim7.holds Tryz.pinned (.plain (OpenSpec.ofChange fnExactRootOfSpec)) fnExactRootOfCard

/-- THE TIED CARD OF 'laws.FnExactFusedOf'. -/
def fnExactFusedOfCard : Claim7 := { stood := { row := fnExactFusedOfRow, standIns := [], harness := (true, "1e75be0db4b6486d72ac4238822c48bfb201c2ce4cba0e93522c745d553c60c3"), looks := true }, kinds := [], alts := [], laidByText := true, laidKinds := [.data, .data], laidTests := true, laidLooks := .later }
def FnExactFusedOfCardSaid : Prop := Claim7.holds Tryz.pinned (.plain (OpenSpec.ofChange fnExactFusedOfSpec)) fnExactFusedOfCard

/-- THE TIED CARD OF 'laws.FnExactRemainderOf'. -/
def fnExactRemainderOfCard : Claim7 := { stood := { row := fnExactRemainderOfRow, standIns := [], harness := (true, "1e75be0db4b6486d72ac4238822c48bfb201c2ce4cba0e93522c745d553c60c3"), looks := true }, kinds := [], alts := [], laidByText := true, laidKinds := [.data, .data], laidTests := true, laidLooks := .later }
def FnExactRemainderOfCardSaid : Prop := Claim7.holds Tryz.pinned (.plain (OpenSpec.ofChange fnExactRemainderOfSpec)) fnExactRemainderOfCard

/-- THE TIED CARD OF 'laws.FnExactWholeOf'. -/
def fnExactWholeOfCard : Claim7 := { stood := { row := fnExactWholeOfRow, standIns := [], harness := (true, "1e75be0db4b6486d72ac4238822c48bfb201c2ce4cba0e93522c745d553c60c3"), looks := true }, kinds := [], alts := [], laidByText := true, laidKinds := [.data, .data], laidTests := true, laidLooks := .later }
def FnExactWholeOfCardSaid : Prop := Claim7.holds Tryz.pinned (.plain (OpenSpec.ofChange fnExactWholeOfSpec)) fnExactWholeOfCard

/-- THE TIED CARD OF 'laws.FnExactScaleOf'. -/
def fnExactScaleOfCard : Claim7 := { stood := { row := fnExactScaleOfRow, standIns := [], harness := (true, "1e75be0db4b6486d72ac4238822c48bfb201c2ce4cba0e93522c745d553c60c3"), looks := true }, kinds := [], alts := [], laidByText := true, laidKinds := [.data, .data], laidTests := true, laidLooks := .later }
def FnExactScaleOfCardSaid : Prop := Claim7.holds Tryz.pinned (.plain (OpenSpec.ofChange fnExactScaleOfSpec)) fnExactScaleOfCard

/-- THE TIED CARD OF 'laws.FnExactThroughThird'. -/
def fnExactThroughThirdCard : Claim7 := { stood := { row := fnExactThroughThirdRow, standIns := [], harness := (true, "1e75be0db4b6486d72ac4238822c48bfb201c2ce4cba0e93522c745d553c60c3"), looks := true }, kinds := [], alts := [], laidByText := true, laidKinds := [.data, .data], laidTests := true, laidLooks := .later }
def FnExactThroughThirdCardSaid : Prop := Claim7.holds Tryz.pinned (.plain (OpenSpec.ofChange fnExactThroughThirdSpec)) fnExactThroughThirdCard

/-- THE TIED CARD OF 'laws.FnExactThroughOdd'. -/
def fnExactThroughOddCard : Claim7 := { stood := { row := fnExactThroughOddRow, standIns := [], harness := (true, "1e75be0db4b6486d72ac4238822c48bfb201c2ce4cba0e93522c745d553c60c3"), looks := true }, kinds := [], alts := [], laidByText := true, laidKinds := [.data, .data], laidTests := true, laidLooks := .later }
def FnExactThroughOddCardSaid : Prop := Claim7.holds Tryz.pinned (.plain (OpenSpec.ofChange fnExactThroughOddSpec)) fnExactThroughOddCard

/-- THE SECOND FORM's CARD OF 'laws.FnExactPlusOf'. -/
def fnExactPlusOfUptoCard : Claim7 := { stood := { row := fnExactPlusOfUptoRow, standIns := [], harness := (true, "1e75be0db4b6486d72ac4238822c48bfb201c2ce4cba0e93522c745d553c60c3"), looks := true }, kinds := [], alts := [], laidByText := true, laidKinds := [.data, .data], laidTests := true, laidLooks := .later }
def FnExactPlusOfUptoCardSaid : Prop := Claim7.holds Tryz.pinned (.plain (OpenSpec.upto fnExactPlusOfSpec)) fnExactPlusOfUptoCard

/-- THE SECOND FORM's CARD OF 'laws.FnExactLessOf'. -/
def fnExactLessOfUptoCard : Claim7 := { stood := { row := fnExactLessOfUptoRow, standIns := [], harness := (true, "1e75be0db4b6486d72ac4238822c48bfb201c2ce4cba0e93522c745d553c60c3"), looks := true }, kinds := [], alts := [], laidByText := true, laidKinds := [.data, .data], laidTests := true, laidLooks := .later }
def FnExactLessOfUptoCardSaid : Prop := Claim7.holds Tryz.pinned (.plain (OpenSpec.upto fnExactLessOfSpec)) fnExactLessOfUptoCard

/-- THE SECOND FORM's CARD OF 'laws.FnExactTimesOf'. -/
def fnExactTimesOfUptoCard : Claim7 := { stood := { row := fnExactTimesOfUptoRow, standIns := [], harness := (true, "1e75be0db4b6486d72ac4238822c48bfb201c2ce4cba0e93522c745d553c60c3"), looks := true }, kinds := [], alts := [], laidByText := true, laidKinds := [.data, .data], laidTests := true, laidLooks := .later }
def FnExactTimesOfUptoCardSaid : Prop := Claim7.holds Tryz.pinned (.plain (OpenSpec.upto fnExactTimesOfSpec)) fnExactTimesOfUptoCard

/-- THE SECOND FORM's CARD OF 'laws.FnExactDivideOf'. -/
def fnExactDivideOfUptoCard : Claim7 := { stood := { row := fnExactDivideOfUptoRow, standIns := [], harness := (true, "1e75be0db4b6486d72ac4238822c48bfb201c2ce4cba0e93522c745d553c60c3"), looks := true }, kinds := [], alts := [], laidByText := true, laidKinds := [.data, .data], laidTests := true, laidLooks := .later }
def FnExactDivideOfUptoCardSaid : Prop := Claim7.holds Tryz.pinned (.plain (OpenSpec.upto fnExactDivideOfSpec)) fnExactDivideOfUptoCard

/-- THE SECOND FORM's CARD OF 'laws.FnExactRootOf'. -/
def fnExactRootOfUptoCard : Claim7 := { stood := { row := fnExactRootOfUptoRow, standIns := [], harness := (true, "1e75be0db4b6486d72ac4238822c48bfb201c2ce4cba0e93522c745d553c60c3"), looks := true }, kinds := [], alts := [], laidByText := true, laidKinds := [.data, .data], laidTests := true, laidLooks := .later }
def FnExactRootOfUptoCardSaid : Prop := Claim7.holds Tryz.pinned (.plain (OpenSpec.upto fnExactRootOfSpec)) fnExactRootOfUptoCard

/-- THE SECOND FORM's CARD OF 'laws.FnExactFusedOf'. -/
def fnExactFusedOfUptoCard : Claim7 := { stood := { row := fnExactFusedOfUptoRow, standIns := [], harness := (true, "1e75be0db4b6486d72ac4238822c48bfb201c2ce4cba0e93522c745d553c60c3"), looks := true }, kinds := [], alts := [], laidByText := true, laidKinds := [.data, .data], laidTests := true, laidLooks := .later }
def FnExactFusedOfUptoCardSaid : Prop := Claim7.holds Tryz.pinned (.plain (OpenSpec.upto fnExactFusedOfSpec)) fnExactFusedOfUptoCard

/-- THE SECOND FORM's CARD OF 'laws.FnExactRemainderOf'. -/
def fnExactRemainderOfUptoCard : Claim7 := { stood := { row := fnExactRemainderOfUptoRow, standIns := [], harness := (true, "1e75be0db4b6486d72ac4238822c48bfb201c2ce4cba0e93522c745d553c60c3"), looks := true }, kinds := [], alts := [], laidByText := true, laidKinds := [.data, .data], laidTests := true, laidLooks := .later }
def FnExactRemainderOfUptoCardSaid : Prop := Claim7.holds Tryz.pinned (.plain (OpenSpec.upto fnExactRemainderOfSpec)) fnExactRemainderOfUptoCard

/-- THE SECOND FORM's CARD OF 'laws.FnExactWholeOf'. -/
def fnExactWholeOfUptoCard : Claim7 := { stood := { row := fnExactWholeOfUptoRow, standIns := [], harness := (true, "1e75be0db4b6486d72ac4238822c48bfb201c2ce4cba0e93522c745d553c60c3"), looks := true }, kinds := [], alts := [], laidByText := true, laidKinds := [.data, .data], laidTests := true, laidLooks := .later }
def FnExactWholeOfUptoCardSaid : Prop := Claim7.holds Tryz.pinned (.plain (OpenSpec.upto fnExactWholeOfSpec)) fnExactWholeOfUptoCard

/-- THE SECOND FORM's CARD OF 'laws.FnExactScaleOf'. -/
def fnExactScaleOfUptoCard : Claim7 := { stood := { row := fnExactScaleOfUptoRow, standIns := [], harness := (true, "1e75be0db4b6486d72ac4238822c48bfb201c2ce4cba0e93522c745d553c60c3"), looks := true }, kinds := [], alts := [], laidByText := true, laidKinds := [.data, .data], laidTests := true, laidLooks := .later }
def FnExactScaleOfUptoCardSaid : Prop := Claim7.holds Tryz.pinned (.plain (OpenSpec.upto fnExactScaleOfSpec)) fnExactScaleOfUptoCard

/-- THE SECOND FORM's CARD OF 'laws.FnExactThroughThird'. -/
def fnExactThroughThirdUptoCard : Claim7 := { stood := { row := fnExactThroughThirdUptoRow, standIns := [], harness := (true, "1e75be0db4b6486d72ac4238822c48bfb201c2ce4cba0e93522c745d553c60c3"), looks := true }, kinds := [], alts := [], laidByText := true, laidKinds := [.data, .data], laidTests := true, laidLooks := .later }
def FnExactThroughThirdUptoCardSaid : Prop := Claim7.holds Tryz.pinned (.plain (OpenSpec.upto fnExactThroughThirdSpec)) fnExactThroughThirdUptoCard

/-- THE SECOND FORM's CARD OF 'laws.FnExactThroughOdd'. -/
def fnExactThroughOddUptoCard : Claim7 := { stood := { row := fnExactThroughOddUptoRow, standIns := [], harness := (true, "1e75be0db4b6486d72ac4238822c48bfb201c2ce4cba0e93522c745d553c60c3"), looks := true }, kinds := [], alts := [], laidByText := true, laidKinds := [.data, .data], laidTests := true, laidLooks := .later }
def FnExactThroughOddUptoCardSaid : Prop := Claim7.holds Tryz.pinned (.plain (OpenSpec.upto fnExactThroughOddSpec)) fnExactThroughOddUptoCard
end Rows
end Go.Proofs.YtafkcgpfllloiaaGreatDoor
