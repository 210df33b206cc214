/-
  DERIVED. GIVEN WITH THE SEED: THE CARDS: each row of YtkgphdicnjkgbaaDoorRows.lean that lists a variable, with what it lists TIED to the program's text (the seventh form; the later family's looks); each row that meets fmt, with fmt's text TOLD by the authors' own Lean function (tested against real Go, not proved from fmt's source: count such statements apart). THE CARD IS WHAT COUNTS. Prove the row's statement (the work); the ties are given (YtkgphdicnjkgbaaDoorTie.lean); close each card by the builder's one call (the guide's Derived/Test/ToyasCard.lean, 'card_holds'). Laid BY PROGRAM, IN A SANDBOX (cutbox-door.mjs). By AI agents, Wed Nov 11 2026. No macro, syntax, notation, axiom, sorry.
-/
import Derived.Test.YtkgphdicnjkgbaaDoorRows
import GoSem.ClaimSeven
namespace Go.Proofs.YtkgphdicnjkgbaaDoor
namespace Rows

/-- THE TIED CARD OF 'laws.FnExactIsExactDifference'. -/
def fnExactIsExactDifferenceCard : Claim7 := { stood := { row := fnExactIsExactDifferenceRow, standIns := [], harness := (true, "3d77b7ddfbc8f6795fd50041985ff4a9cb2c429916f17438d85c947d59959132"), looks := false }, kinds := [], alts := [], laidByText := true, laidKinds := [.data, .data], laidTests := true, laidLooks := .later }
def FnExactIsExactDifferenceCardSaid : Prop := Claim7.holds Tryd.pinned (.plain (OpenSpec.ofChange fnExactIsExactDifferenceSpec)) fnExactIsExactDifferenceCard

/-- THE TIED CARD OF 'laws.FnExactExactSum'. -/
def fnExactExactSumCard : Claim7 := { stood := { row := fnExactExactSumRow, standIns := [], harness := (true, "3d77b7ddfbc8f6795fd50041985ff4a9cb2c429916f17438d85c947d59959132"), looks := false }, kinds := [], alts := [], laidByText := true, laidKinds := [.data, .data], laidTests := true, laidLooks := .later }
def FnExactExactSumCardSaid : Prop := Claim7.holds Tryd.pinned (.plain (OpenSpec.ofChange fnExactExactSumSpec)) fnExactExactSumCard

/-- THE TIED CARD OF 'laws.FnExactRoundedSum'. -/
def fnExactRoundedSumCard : Claim7 := { stood := { row := fnExactRoundedSumRow, standIns := [], harness := (true, "3d77b7ddfbc8f6795fd50041985ff4a9cb2c429916f17438d85c947d59959132"), looks := false }, kinds := [], alts := [], laidByText := true, laidKinds := [.data, .data], laidTests := true, laidLooks := .later }
def FnExactRoundedSumCardSaid : Prop := Claim7.holds Tryd.pinned (.plain (OpenSpec.ofChange fnExactRoundedSumSpec)) fnExactRoundedSumCard

/-- THE TIED CARD OF 'laws.FnExactSignOfSum'. -/
def fnExactSignOfSumCard : Claim7 := { stood := { row := fnExactSignOfSumRow, standIns := [], harness := (true, "3d77b7ddfbc8f6795fd50041985ff4a9cb2c429916f17438d85c947d59959132"), looks := false }, kinds := [], alts := [], laidByText := true, laidKinds := [.data, .data], laidTests := true, laidLooks := .later }
def FnExactSignOfSumCardSaid : Prop := Claim7.holds Tryd.pinned (.plain (OpenSpec.ofChange fnExactSignOfSumSpec)) fnExactSignOfSumCard

/-- THE SECOND FORM's CARD OF 'laws.FnExactIsExactDifference'. -/
def fnExactIsExactDifferenceUptoCard : Claim7 := { stood := { row := fnExactIsExactDifferenceUptoRow, standIns := [], harness := (true, "3d77b7ddfbc8f6795fd50041985ff4a9cb2c429916f17438d85c947d59959132"), looks := false }, kinds := [], alts := [], laidByText := true, laidKinds := [.data, .data], laidTests := true, laidLooks := .later }
def FnExactIsExactDifferenceUptoCardSaid : Prop := Claim7.holds Tryd.pinned (.plain (OpenSpec.upto fnExactIsExactDifferenceSpec)) fnExactIsExactDifferenceUptoCard

/-- THE SECOND FORM's CARD OF 'laws.FnExactExactSum'. -/
def fnExactExactSumUptoCard : Claim7 := { stood := { row := fnExactExactSumUptoRow, standIns := [], harness := (true, "3d77b7ddfbc8f6795fd50041985ff4a9cb2c429916f17438d85c947d59959132"), looks := false }, kinds := [], alts := [], laidByText := true, laidKinds := [.data, .data], laidTests := true, laidLooks := .later }
def FnExactExactSumUptoCardSaid : Prop := Claim7.holds Tryd.pinned (.plain (OpenSpec.upto fnExactExactSumSpec)) fnExactExactSumUptoCard

/-- THE SECOND FORM's CARD OF 'laws.FnExactRoundedSum'. -/
def fnExactRoundedSumUptoCard : Claim7 := { stood := { row := fnExactRoundedSumUptoRow, standIns := [], harness := (true, "3d77b7ddfbc8f6795fd50041985ff4a9cb2c429916f17438d85c947d59959132"), looks := false }, kinds := [], alts := [], laidByText := true, laidKinds := [.data, .data], laidTests := true, laidLooks := .later }
def FnExactRoundedSumUptoCardSaid : Prop := Claim7.holds Tryd.pinned (.plain (OpenSpec.upto fnExactRoundedSumSpec)) fnExactRoundedSumUptoCard

/-- THE SECOND FORM's CARD OF 'laws.FnExactSignOfSum'. -/
def fnExactSignOfSumUptoCard : Claim7 := { stood := { row := fnExactSignOfSumUptoRow, standIns := [], harness := (true, "3d77b7ddfbc8f6795fd50041985ff4a9cb2c429916f17438d85c947d59959132"), looks := false }, kinds := [], alts := [], laidByText := true, laidKinds := [.data, .data], laidTests := true, laidLooks := .later }
def FnExactSignOfSumUptoCardSaid : Prop := Claim7.holds Tryd.pinned (.plain (OpenSpec.upto fnExactSignOfSumSpec)) fnExactSignOfSumUptoCard
end Rows
end Go.Proofs.YtkgphdicnjkgbaaDoor
