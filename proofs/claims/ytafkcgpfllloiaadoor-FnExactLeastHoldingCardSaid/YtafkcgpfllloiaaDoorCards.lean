/-
  DERIVED. GIVEN WITH THE SEED: THE CARDS: each row of YtafkcgpfllloiaaDoorRows.lean that lists a variable, with what it lists TIED to the program's text (the seventh form; the later family's looks); each row that meets fmt, with fmt's text TOLD by the authors' own Lean function (tested against real Go, not proved from fmt's source: count such statements apart). THE CARD IS WHAT COUNTS. Prove the row's statement (the work); the ties are given (YtafkcgpfllloiaaDoorTie.lean); close each card by the builder's one call (the guide's Derived/Test/ToyasCard.lean, 'card_holds'). Laid BY PROGRAM, IN A SANDBOX (cutbox-door.mjs). By AI agents, Wed Nov 11 2026. No macro, syntax, notation, axiom, sorry.
-/
import Derived.Test.YtafkcgpfllloiaaDoorRows
import GoSem.ClaimSeven
namespace Go.Proofs.YtafkcgpfllloiaaDoor
namespace Rows

/-- THE TIED CARD OF 'laws.FnExactConvertOf'. -/
def fnExactConvertOfCard : Claim7 := { stood := { row := fnExactConvertOfRow, standIns := [], harness := (true, "dcd9554b43b6542efadf2ef5a42e3fb206ba134ca73a319125e806e1dd5ccca5"), looks := false }, kinds := [], alts := [], laidByText := true, laidKinds := [.data, .data], laidTests := true, laidLooks := .later }
def FnExactConvertOfCardSaid : Prop := Claim7.holds Tryd.pinned (.plain (OpenSpec.ofChange fnExactConvertOfSpec)) fnExactConvertOfCard

/-- THE TIED CARD OF 'laws.FnExactHoldsFormat'. -/
def fnExactHoldsFormatCard : Claim7 := { stood := { row := fnExactHoldsFormatRow, standIns := [], harness := (true, "dcd9554b43b6542efadf2ef5a42e3fb206ba134ca73a319125e806e1dd5ccca5"), looks := false }, kinds := [], alts := [], laidByText := true, laidKinds := [.data, .data], laidTests := true, laidLooks := .later }
def FnExactHoldsFormatCardSaid : Prop := Claim7.holds Tryd.pinned (.plain (OpenSpec.ofChange fnExactHoldsFormatSpec)) fnExactHoldsFormatCard

/-- THE TIED CARD OF 'laws.FnExactLeastHolding'. -/
def fnExactLeastHoldingCard : Claim7 := { stood := { row := fnExactLeastHoldingRow, standIns := [], harness := (true, "dcd9554b43b6542efadf2ef5a42e3fb206ba134ca73a319125e806e1dd5ccca5"), looks := false }, kinds := [], alts := [], laidByText := true, laidKinds := [.data, .data], laidTests := true, laidLooks := .later }
def FnExactLeastHoldingCardSaid : Prop := Claim7.holds Tryd.pinned (.plain (OpenSpec.ofChange fnExactLeastHoldingSpec)) fnExactLeastHoldingCard

/-- THE TIED CARD OF 'laws.FnExactFirstDouble'. -/
def fnExactFirstDoubleCard : Claim7 := { stood := { row := fnExactFirstDoubleRow, standIns := [], harness := (true, "dcd9554b43b6542efadf2ef5a42e3fb206ba134ca73a319125e806e1dd5ccca5"), looks := false }, kinds := [], alts := [], laidByText := true, laidKinds := [.data, .data], laidTests := true, laidLooks := .later }
def FnExactFirstDoubleCardSaid : Prop := Claim7.holds Tryd.pinned (.plain (OpenSpec.ofChange fnExactFirstDoubleSpec)) fnExactFirstDoubleCard

/-- THE SECOND FORM's CARD OF 'laws.FnExactConvertOf'. -/
def fnExactConvertOfUptoCard : Claim7 := { stood := { row := fnExactConvertOfUptoRow, standIns := [], harness := (true, "dcd9554b43b6542efadf2ef5a42e3fb206ba134ca73a319125e806e1dd5ccca5"), looks := false }, kinds := [], alts := [], laidByText := true, laidKinds := [.data, .data], laidTests := true, laidLooks := .later }
def FnExactConvertOfUptoCardSaid : Prop := Claim7.holds Tryd.pinned (.plain (OpenSpec.upto fnExactConvertOfSpec)) fnExactConvertOfUptoCard

/-- THE SECOND FORM's CARD OF 'laws.FnExactHoldsFormat'. -/
def fnExactHoldsFormatUptoCard : Claim7 := { stood := { row := fnExactHoldsFormatUptoRow, standIns := [], harness := (true, "dcd9554b43b6542efadf2ef5a42e3fb206ba134ca73a319125e806e1dd5ccca5"), looks := false }, kinds := [], alts := [], laidByText := true, laidKinds := [.data, .data], laidTests := true, laidLooks := .later }
def FnExactHoldsFormatUptoCardSaid : Prop := Claim7.holds Tryd.pinned (.plain (OpenSpec.upto fnExactHoldsFormatSpec)) fnExactHoldsFormatUptoCard

/-- THE SECOND FORM's CARD OF 'laws.FnExactLeastHolding'. -/
def fnExactLeastHoldingUptoCard : Claim7 := { stood := { row := fnExactLeastHoldingUptoRow, standIns := [], harness := (true, "dcd9554b43b6542efadf2ef5a42e3fb206ba134ca73a319125e806e1dd5ccca5"), looks := false }, kinds := [], alts := [], laidByText := true, laidKinds := [.data, .data], laidTests := true, laidLooks := .later }
def FnExactLeastHoldingUptoCardSaid : Prop := Claim7.holds Tryd.pinned (.plain (OpenSpec.upto fnExactLeastHoldingSpec)) fnExactLeastHoldingUptoCard

/-- THE SECOND FORM's CARD OF 'laws.FnExactFirstDouble'. -/
def fnExactFirstDoubleUptoCard : Claim7 := { stood := { row := fnExactFirstDoubleUptoRow, standIns := [], harness := (true, "dcd9554b43b6542efadf2ef5a42e3fb206ba134ca73a319125e806e1dd5ccca5"), looks := false }, kinds := [], alts := [], laidByText := true, laidKinds := [.data, .data], laidTests := true, laidLooks := .later }
def FnExactFirstDoubleUptoCardSaid : Prop := Claim7.holds Tryd.pinned (.plain (OpenSpec.upto fnExactFirstDoubleSpec)) fnExactFirstDoubleUptoCard
end Rows
end Go.Proofs.YtafkcgpfllloiaaDoor
