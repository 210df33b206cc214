/-
  DERIVED. GIVEN WITH THE SEED: THE CARDS: each row of YtmomfjliahbaiaaDoorRows.lean that lists a variable, with what it lists TIED to the program's text (the seventh form; the later family's looks); each row that meets fmt, with fmt's text TOLD by the authors' own Lean function (tested against real Go, not proved from fmt's source: count such statements apart). THE CARD IS WHAT COUNTS. Prove the row's statement (the work); the ties are given (YtmomfjliahbaiaaDoorTie.lean); close each card by the builder's one call (the guide's Derived/Test/ToyasCard.lean, 'card_holds'). Laid BY PROGRAM, IN A SANDBOX (cutbox-door.mjs). By AI agents, Wed Nov 11 2026. No macro, syntax, notation, axiom, sorry.
-/
import Derived.Test.YtmomfjliahbaiaaDoorRows
import GoSem.ClaimSeven
namespace Go.Proofs.YtmomfjliahbaiaaDoor
namespace Rows

/-- THE TIED CARD OF 'laws.FnExactExactPlus'. -/
def fnExactExactPlusCard : Claim7 := { stood := { row := fnExactExactPlusRow, standIns := [], harness := (true, "bca5eceb37435d46b7cefe1143e0c20acb9c703e9f2ee01c5153eda3ccee34a5"), looks := false }, kinds := [], alts := [], laidByText := true, laidKinds := [.data, .data], laidTests := true, laidLooks := .later }
def FnExactExactPlusCardSaid : Prop := Claim7.holds Tryd.pinned (.plain (OpenSpec.ofChange fnExactExactPlusSpec)) fnExactExactPlusCard

/-- THE TIED CARD OF 'laws.FnExactExactTimes'. -/
def fnExactExactTimesCard : Claim7 := { stood := { row := fnExactExactTimesRow, standIns := [], harness := (true, "bca5eceb37435d46b7cefe1143e0c20acb9c703e9f2ee01c5153eda3ccee34a5"), looks := false }, kinds := [], alts := [], laidByText := true, laidKinds := [.data, .data], laidTests := true, laidLooks := .later }
def FnExactExactTimesCardSaid : Prop := Claim7.holds Tryd.pinned (.plain (OpenSpec.ofChange fnExactExactTimesSpec)) fnExactExactTimesCard

/-- THE SECOND FORM's CARD OF 'laws.FnExactExactPlus'. -/
def fnExactExactPlusUptoCard : Claim7 := { stood := { row := fnExactExactPlusUptoRow, standIns := [], harness := (true, "bca5eceb37435d46b7cefe1143e0c20acb9c703e9f2ee01c5153eda3ccee34a5"), looks := false }, kinds := [], alts := [], laidByText := true, laidKinds := [.data, .data], laidTests := true, laidLooks := .later }
def FnExactExactPlusUptoCardSaid : Prop := Claim7.holds Tryd.pinned (.plain (OpenSpec.upto fnExactExactPlusSpec)) fnExactExactPlusUptoCard

/-- THE SECOND FORM's CARD OF 'laws.FnExactExactTimes'. -/
def fnExactExactTimesUptoCard : Claim7 := { stood := { row := fnExactExactTimesUptoRow, standIns := [], harness := (true, "bca5eceb37435d46b7cefe1143e0c20acb9c703e9f2ee01c5153eda3ccee34a5"), looks := false }, kinds := [], alts := [], laidByText := true, laidKinds := [.data, .data], laidTests := true, laidLooks := .later }
def FnExactExactTimesUptoCardSaid : Prop := Claim7.holds Tryd.pinned (.plain (OpenSpec.upto fnExactExactTimesSpec)) fnExactExactTimesUptoCard
end Rows
end Go.Proofs.YtmomfjliahbaiaaDoor
