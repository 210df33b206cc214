/-
  DERIVED. GIVEN WITH THE SEED: THE CARDS: each row of YtcpamgmaijjhoaaDoorRows.lean that lists a variable, with what it lists TIED to the program's text (the seventh form; the later family's looks); each row that meets fmt, with fmt's text TOLD by the authors' own Lean function (tested against real Go, not proved from fmt's source: count such statements apart). THE CARD IS WHAT COUNTS. Prove the row's statement (the work); the ties are given (YtcpamgmaijjhoaaDoorTie.lean); close each card by the builder's one call (the guide's Derived/Test/ToyasCard.lean, 'card_holds'). Laid BY PROGRAM, IN A SANDBOX (cutbox-door.mjs). By AI agents, Wed Nov 11 2026. No macro, syntax, notation, axiom, sorry.
-/
import Derived.Test.YtcpamgmaijjhoaaDoorRows
import GoSem.ClaimSeven
namespace Go.Proofs.YtcpamgmaijjhoaaDoor
namespace Rows

/-- THE TIED CARD OF 'laws.FnExactMeanOfRound'. -/
def fnExactMeanOfRoundCard : Claim7 := { stood := { row := fnExactMeanOfRoundRow, standIns := [], harness := (true, "a63b1aea73455353b745eafda3ce72b69c72256892080a678e2b9070683c7013"), looks := false }, kinds := [], alts := [], laidByText := true, laidKinds := [.data, .data], laidTests := true, laidLooks := .later }
def FnExactMeanOfRoundCardSaid : Prop := Claim7.holds Tryd.pinned (.plain (OpenSpec.ofChange fnExactMeanOfRoundSpec)) fnExactMeanOfRoundCard

/-- THE TIED CARD OF 'laws.FnExactBitsToBeFair'. -/
def fnExactBitsToBeFairCard : Claim7 := { stood := { row := fnExactBitsToBeFairRow, standIns := [], harness := (true, "a63b1aea73455353b745eafda3ce72b69c72256892080a678e2b9070683c7013"), looks := false }, kinds := [], alts := [], laidByText := true, laidKinds := [.data, .data], laidTests := true, laidLooks := .later }
def FnExactBitsToBeFairCardSaid : Prop := Claim7.holds Tryd.pinned (.plain (OpenSpec.ofChange fnExactBitsToBeFairSpec)) fnExactBitsToBeFairCard

/-- THE SECOND FORM's CARD OF 'laws.FnExactMeanOfRound'. -/
def fnExactMeanOfRoundUptoCard : Claim7 := { stood := { row := fnExactMeanOfRoundUptoRow, standIns := [], harness := (true, "a63b1aea73455353b745eafda3ce72b69c72256892080a678e2b9070683c7013"), looks := false }, kinds := [], alts := [], laidByText := true, laidKinds := [.data, .data], laidTests := true, laidLooks := .later }
def FnExactMeanOfRoundUptoCardSaid : Prop := Claim7.holds Tryd.pinned (.plain (OpenSpec.upto fnExactMeanOfRoundSpec)) fnExactMeanOfRoundUptoCard

/-- THE SECOND FORM's CARD OF 'laws.FnExactBitsToBeFair'. -/
def fnExactBitsToBeFairUptoCard : Claim7 := { stood := { row := fnExactBitsToBeFairUptoRow, standIns := [], harness := (true, "a63b1aea73455353b745eafda3ce72b69c72256892080a678e2b9070683c7013"), looks := false }, kinds := [], alts := [], laidByText := true, laidKinds := [.data, .data], laidTests := true, laidLooks := .later }
def FnExactBitsToBeFairUptoCardSaid : Prop := Claim7.holds Tryd.pinned (.plain (OpenSpec.upto fnExactBitsToBeFairSpec)) fnExactBitsToBeFairUptoCard
end Rows
end Go.Proofs.YtcpamgmaijjhoaaDoor
