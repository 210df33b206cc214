/-
  DERIVED. GIVEN WITH THE SEED: THE CARDS: each row of YtjebechmedhidaaDoorRows.lean that lists a variable, with what it lists TIED to the program's text (the seventh form; the later family's looks); each row that meets fmt, with fmt's text TOLD by the authors' own Lean function (tested against real Go, not proved from fmt's source: count such statements apart). THE CARD IS WHAT COUNTS. Prove the row's statement (the work); the ties are given (YtjebechmedhidaaDoorTie.lean); close each card by the builder's one call (the guide's Derived/Test/ToyasCard.lean, 'card_holds'). Laid BY PROGRAM, IN A SANDBOX (cutbox-door.mjs). By AI agents, Wed Nov 11 2026. No macro, syntax, notation, axiom, sorry.
-/
import Derived.Test.YtjebechmedhidaaDoorRows
import GoSem.ClaimSeven
namespace Go.Proofs.YtjebechmedhidaaDoor
namespace Rows

/-- THE TIED CARD OF 'laws.FnExactRoundedSum'. -/
def fnExactRoundedSumCard : Claim7 := { stood := { row := fnExactRoundedSumRow, standIns := [], harness := (true, "f1fc252d267d7ec34c34129001887426ba3d846af86185686807b3e965e36c88"), looks := true }, kinds := [], alts := [], laidByText := true, laidKinds := [.data, .data], laidTests := true, laidLooks := .later }
def FnExactRoundedSumCardSaid : Prop := Claim7.holds Tryd.pinned (.plain (OpenSpec.ofChange fnExactRoundedSumSpec)) fnExactRoundedSumCard

/-- THE TIED CARD OF 'laws.FnExactToWhole'. -/
def fnExactToWholeCard : Claim7 := { stood := { row := fnExactToWholeRow, standIns := [], harness := (true, "f1fc252d267d7ec34c34129001887426ba3d846af86185686807b3e965e36c88"), looks := true }, kinds := [], alts := [], laidByText := true, laidKinds := [.data, .data], laidTests := true, laidLooks := .later }
def FnExactToWholeCardSaid : Prop := Claim7.holds Tryd.pinned (.plain (OpenSpec.ofChange fnExactToWholeSpec)) fnExactToWholeCard

/-- THE TIED CARD OF 'laws.FnExactPlacesOf'. -/
def fnExactPlacesOfCard : Claim7 := { stood := { row := fnExactPlacesOfRow, standIns := [], harness := (true, "f1fc252d267d7ec34c34129001887426ba3d846af86185686807b3e965e36c88"), looks := true }, kinds := [], alts := [], laidByText := true, laidKinds := [.data, .data], laidTests := true, laidLooks := .later }
def FnExactPlacesOfCardSaid : Prop := Claim7.holds Tryd.pinned (.plain (OpenSpec.ofChange fnExactPlacesOfSpec)) fnExactPlacesOfCard

/-- THE TIED CARD OF 'laws.FnExactCompareDecimal'. -/
def fnExactCompareDecimalCard : Claim7 := { stood := { row := fnExactCompareDecimalRow, standIns := [], harness := (true, "f1fc252d267d7ec34c34129001887426ba3d846af86185686807b3e965e36c88"), looks := true }, kinds := [], alts := [], laidByText := true, laidKinds := [.data, .data], laidTests := true, laidLooks := .later }
def FnExactCompareDecimalCardSaid : Prop := Claim7.holds Tryd.pinned (.plain (OpenSpec.ofChange fnExactCompareDecimalSpec)) fnExactCompareDecimalCard

/-- THE TIED CARD OF 'laws.FnExactNearestDecimal'. -/
def fnExactNearestDecimalCard : Claim7 := { stood := { row := fnExactNearestDecimalRow, standIns := [], harness := (true, "f1fc252d267d7ec34c34129001887426ba3d846af86185686807b3e965e36c88"), looks := true }, kinds := [], alts := [], laidByText := true, laidKinds := [.data, .data], laidTests := true, laidLooks := .later }
def FnExactNearestDecimalCardSaid : Prop := Claim7.holds Tryd.pinned (.plain (OpenSpec.ofChange fnExactNearestDecimalSpec)) fnExactNearestDecimalCard

/-- THE SECOND FORM's CARD OF 'laws.FnExactRoundedSum'. -/
def fnExactRoundedSumUptoCard : Claim7 := { stood := { row := fnExactRoundedSumUptoRow, standIns := [], harness := (true, "f1fc252d267d7ec34c34129001887426ba3d846af86185686807b3e965e36c88"), looks := true }, kinds := [], alts := [], laidByText := true, laidKinds := [.data, .data], laidTests := true, laidLooks := .later }
def FnExactRoundedSumUptoCardSaid : Prop := Claim7.holds Tryd.pinned (.plain (OpenSpec.upto fnExactRoundedSumSpec)) fnExactRoundedSumUptoCard

/-- THE SECOND FORM's CARD OF 'laws.FnExactToWhole'. -/
def fnExactToWholeUptoCard : Claim7 := { stood := { row := fnExactToWholeUptoRow, standIns := [], harness := (true, "f1fc252d267d7ec34c34129001887426ba3d846af86185686807b3e965e36c88"), looks := true }, kinds := [], alts := [], laidByText := true, laidKinds := [.data, .data], laidTests := true, laidLooks := .later }
def FnExactToWholeUptoCardSaid : Prop := Claim7.holds Tryd.pinned (.plain (OpenSpec.upto fnExactToWholeSpec)) fnExactToWholeUptoCard

/-- THE SECOND FORM's CARD OF 'laws.FnExactPlacesOf'. -/
def fnExactPlacesOfUptoCard : Claim7 := { stood := { row := fnExactPlacesOfUptoRow, standIns := [], harness := (true, "f1fc252d267d7ec34c34129001887426ba3d846af86185686807b3e965e36c88"), looks := true }, kinds := [], alts := [], laidByText := true, laidKinds := [.data, .data], laidTests := true, laidLooks := .later }
def FnExactPlacesOfUptoCardSaid : Prop := Claim7.holds Tryd.pinned (.plain (OpenSpec.upto fnExactPlacesOfSpec)) fnExactPlacesOfUptoCard

/-- THE SECOND FORM's CARD OF 'laws.FnExactCompareDecimal'. -/
def fnExactCompareDecimalUptoCard : Claim7 := { stood := { row := fnExactCompareDecimalUptoRow, standIns := [], harness := (true, "f1fc252d267d7ec34c34129001887426ba3d846af86185686807b3e965e36c88"), looks := true }, kinds := [], alts := [], laidByText := true, laidKinds := [.data, .data], laidTests := true, laidLooks := .later }
def FnExactCompareDecimalUptoCardSaid : Prop := Claim7.holds Tryd.pinned (.plain (OpenSpec.upto fnExactCompareDecimalSpec)) fnExactCompareDecimalUptoCard

/-- THE SECOND FORM's CARD OF 'laws.FnExactNearestDecimal'. -/
def fnExactNearestDecimalUptoCard : Claim7 := { stood := { row := fnExactNearestDecimalUptoRow, standIns := [], harness := (true, "f1fc252d267d7ec34c34129001887426ba3d846af86185686807b3e965e36c88"), looks := true }, kinds := [], alts := [], laidByText := true, laidKinds := [.data, .data], laidTests := true, laidLooks := .later }
def FnExactNearestDecimalUptoCardSaid : Prop := Claim7.holds Tryd.pinned (.plain (OpenSpec.upto fnExactNearestDecimalSpec)) fnExactNearestDecimalUptoCard
end Rows
end Go.Proofs.YtjebechmedhidaaDoor
