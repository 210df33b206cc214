/-
  DERIVED. GIVEN WITH THE SEED: THE CARDS: each row of YtcpamgmaijjhoaaGreatDoorRows.lean that lists a variable, with what it lists TIED to the program's text (the seventh form; the later family's looks); each row that meets fmt, with fmt's text TOLD by the authors' own Lean function (tested against real Go, not proved from fmt's source: count such statements apart). THE CARD IS WHAT COUNTS. Prove the row's statement (the work); the ties are given (YtcpamgmaijjhoaaGreatDoorTie.lean); close each card by the builder's one call (the guide's Derived/Test/ToyasCard.lean, 'card_holds'). Laid BY PROGRAM, IN A SANDBOX (cutbox-door.mjs). By AI agents, Wed Nov 11 2026. No macro, syntax, notation, axiom, sorry.
-/
import Derived.Test.YtcpamgmaijjhoaaGreatDoorRows
import GoSem.ClaimSeven
namespace Go.Proofs.YtcpamgmaijjhoaaGreatDoor
namespace Rows

/-- THE TIED CARD OF 'laws.FnExactRandomSum'. -/
def fnExactRandomSumCard : Claim7 := { stood := { row := fnExactRandomSumRow, standIns := [], harness := (true, "108417a9415b96954ee4f325c42cccdfbdc302537faaafa3023689409deb87c5"), looks := true }, kinds := [], alts := [], laidByText := true, laidKinds := [.data, .data], laidTests := true, laidLooks := .later }
def FnExactRandomSumCardSaid : Prop := Claim7.holds Tryz.pinned (.plain (OpenSpec.ofChange fnExactRandomSumSpec)) fnExactRandomSumCard

/-- THE TIED CARD OF 'laws.FnExactSpreadOfRound'. -/
def fnExactSpreadOfRoundCard : Claim7 := { stood := { row := fnExactSpreadOfRoundRow, standIns := [], harness := (true, "108417a9415b96954ee4f325c42cccdfbdc302537faaafa3023689409deb87c5"), looks := true }, kinds := [], alts := [], laidByText := true, laidKinds := [.data, .data], laidTests := true, laidLooks := .later }
def FnExactSpreadOfRoundCardSaid : Prop := Claim7.holds Tryz.pinned (.plain (OpenSpec.ofChange fnExactSpreadOfRoundSpec)) fnExactSpreadOfRoundCard

/-- THE TIED CARD OF 'laws.FnExactChangeBlock'. -/
def fnExactChangeBlockCard : Claim7 := { stood := { row := fnExactChangeBlockRow, standIns := [], harness := (true, "108417a9415b96954ee4f325c42cccdfbdc302537faaafa3023689409deb87c5"), looks := true }, kinds := [], alts := [], laidByText := true, laidKinds := [.data, .data], laidTests := true, laidLooks := .later }
def FnExactChangeBlockCardSaid : Prop := Claim7.holds Tryz.pinned (.plain (OpenSpec.ofChange fnExactChangeBlockSpec)) fnExactChangeBlockCard

/-- THE TIED CARD OF 'laws.FnExactShortestOf'. -/
def fnExactShortestOfCard : Claim7 := { stood := { row := fnExactShortestOfRow, standIns := [], harness := (true, "108417a9415b96954ee4f325c42cccdfbdc302537faaafa3023689409deb87c5"), looks := true }, kinds := [], alts := [], laidByText := true, laidKinds := [.data, .data], laidTests := true, laidLooks := .later }
def FnExactShortestOfCardSaid : Prop := Claim7.holds Tryz.pinned (.plain (OpenSpec.ofChange fnExactShortestOfSpec)) fnExactShortestOfCard

/-- THE TIED CARD OF 'laws.FnExactLongestShortest'. -/
def fnExactLongestShortestCard : Claim7 := { stood := { row := fnExactLongestShortestRow, standIns := [], harness := (true, "108417a9415b96954ee4f325c42cccdfbdc302537faaafa3023689409deb87c5"), looks := true }, kinds := [], alts := [], laidByText := true, laidKinds := [.data, .data, .data], laidTests := true, laidLooks := .later }
def FnExactLongestShortestCardSaid : Prop := Claim7.holds Tryz.pinned (.plain (OpenSpec.ofChange fnExactLongestShortestSpec)) fnExactLongestShortestCard

/-- THE TIED CARD OF 'laws.FnDyadicsAddOfAll'. -/
def fnDyadicsAddOfAllCard : Claim7 := { stood := { row := fnDyadicsAddOfAllRow, standIns := [], harness := (true, "108417a9415b96954ee4f325c42cccdfbdc302537faaafa3023689409deb87c5"), looks := true }, kinds := [], alts := [], laidByText := true, laidKinds := [.data, .data, .data, .sentinel, .sentinel], laidTests := true, laidLooks := .later }
def FnDyadicsAddOfAllCardSaid : Prop := Claim7.holds Tryz.pinned (.plain (OpenSpec.ofChange fnDyadicsAddOfAllSpec)) fnDyadicsAddOfAllCard

/-- THE SECOND FORM's CARD OF 'laws.FnExactRandomSum'. -/
def fnExactRandomSumUptoCard : Claim7 := { stood := { row := fnExactRandomSumUptoRow, standIns := [], harness := (true, "108417a9415b96954ee4f325c42cccdfbdc302537faaafa3023689409deb87c5"), looks := true }, kinds := [], alts := [], laidByText := true, laidKinds := [.data, .data], laidTests := true, laidLooks := .later }
def FnExactRandomSumUptoCardSaid : Prop := Claim7.holds Tryz.pinned (.plain (OpenSpec.upto fnExactRandomSumSpec)) fnExactRandomSumUptoCard

/-- THE SECOND FORM's CARD OF 'laws.FnExactSpreadOfRound'. -/
def fnExactSpreadOfRoundUptoCard : Claim7 := { stood := { row := fnExactSpreadOfRoundUptoRow, standIns := [], harness := (true, "108417a9415b96954ee4f325c42cccdfbdc302537faaafa3023689409deb87c5"), looks := true }, kinds := [], alts := [], laidByText := true, laidKinds := [.data, .data], laidTests := true, laidLooks := .later }
def FnExactSpreadOfRoundUptoCardSaid : Prop := Claim7.holds Tryz.pinned (.plain (OpenSpec.upto fnExactSpreadOfRoundSpec)) fnExactSpreadOfRoundUptoCard

/-- THE SECOND FORM's CARD OF 'laws.FnExactChangeBlock'. -/
def fnExactChangeBlockUptoCard : Claim7 := { stood := { row := fnExactChangeBlockUptoRow, standIns := [], harness := (true, "108417a9415b96954ee4f325c42cccdfbdc302537faaafa3023689409deb87c5"), looks := true }, kinds := [], alts := [], laidByText := true, laidKinds := [.data, .data], laidTests := true, laidLooks := .later }
def FnExactChangeBlockUptoCardSaid : Prop := Claim7.holds Tryz.pinned (.plain (OpenSpec.upto fnExactChangeBlockSpec)) fnExactChangeBlockUptoCard

/-- THE SECOND FORM's CARD OF 'laws.FnExactShortestOf'. -/
def fnExactShortestOfUptoCard : Claim7 := { stood := { row := fnExactShortestOfUptoRow, standIns := [], harness := (true, "108417a9415b96954ee4f325c42cccdfbdc302537faaafa3023689409deb87c5"), looks := true }, kinds := [], alts := [], laidByText := true, laidKinds := [.data, .data], laidTests := true, laidLooks := .later }
def FnExactShortestOfUptoCardSaid : Prop := Claim7.holds Tryz.pinned (.plain (OpenSpec.upto fnExactShortestOfSpec)) fnExactShortestOfUptoCard

/-- THE SECOND FORM's CARD OF 'laws.FnExactLongestShortest'. -/
def fnExactLongestShortestUptoCard : Claim7 := { stood := { row := fnExactLongestShortestUptoRow, standIns := [], harness := (true, "108417a9415b96954ee4f325c42cccdfbdc302537faaafa3023689409deb87c5"), looks := true }, kinds := [], alts := [], laidByText := true, laidKinds := [.data, .data, .data], laidTests := true, laidLooks := .later }
def FnExactLongestShortestUptoCardSaid : Prop := Claim7.holds Tryz.pinned (.plain (OpenSpec.upto fnExactLongestShortestSpec)) fnExactLongestShortestUptoCard

/-- THE SECOND FORM's CARD OF 'laws.FnDyadicsAddOfAll'. -/
def fnDyadicsAddOfAllUptoCard : Claim7 := { stood := { row := fnDyadicsAddOfAllUptoRow, standIns := [], harness := (true, "108417a9415b96954ee4f325c42cccdfbdc302537faaafa3023689409deb87c5"), looks := true }, kinds := [], alts := [], laidByText := true, laidKinds := [.data, .data, .data, .sentinel, .sentinel], laidTests := true, laidLooks := .later }
def FnDyadicsAddOfAllUptoCardSaid : Prop := Claim7.holds Tryz.pinned (.plain (OpenSpec.upto fnDyadicsAddOfAllSpec)) fnDyadicsAddOfAllUptoCard
end Rows
end Go.Proofs.YtcpamgmaijjhoaaGreatDoor
