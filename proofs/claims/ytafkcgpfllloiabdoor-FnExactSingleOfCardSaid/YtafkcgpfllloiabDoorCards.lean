/-
  DERIVED. GIVEN WITH THE SEED: THE CARDS: each row of YtafkcgpfllloiabDoorRows.lean that lists a variable, with what it lists TIED to the program's text (the seventh form; the later family's looks); each row that meets fmt, with fmt's text TOLD by the authors' own Lean function (tested against real Go, not proved from fmt's source: count such statements apart). THE CARD IS WHAT COUNTS. Prove the row's statement (the work); the ties are given (YtafkcgpfllloiabDoorTie.lean); close each card by the builder's one call (the guide's Derived/Test/ToyasCard.lean, 'card_holds'). Laid BY PROGRAM, IN A SANDBOX (cutbox-door.mjs). By AI agents, Wed Nov 11 2026. No macro, syntax, notation, axiom, sorry.
-/
import Derived.Test.YtafkcgpfllloiabDoorRows
import GoSem.ClaimSeven
namespace Go.Proofs.YtafkcgpfllloiabDoor
namespace Rows

/-- THE TIED CARD OF 'laws.FnExactCountLost'. -/
def fnExactCountLostCard : Claim7 := { stood := { row := fnExactCountLostRow, standIns := [], harness := (true, "0e0f63e511557eb3a310a2014e2b792942b222da543ebfcac5da197d322cac7f"), looks := true }, kinds := [], alts := [], laidByText := true, laidKinds := [.data, .data], laidTests := true, laidLooks := .later }
def FnExactCountLostCardSaid : Prop := Claim7.holds Tryd.pinned (.plain (OpenSpec.ofChange fnExactCountLostSpec)) fnExactCountLostCard

/-- THE TIED CARD OF 'laws.FnExactCountShared'. -/
def fnExactCountSharedCard : Claim7 := { stood := { row := fnExactCountSharedRow, standIns := [], harness := (true, "0e0f63e511557eb3a310a2014e2b792942b222da543ebfcac5da197d322cac7f"), looks := true }, kinds := [], alts := [], laidByText := true, laidKinds := [.data, .data], laidTests := true, laidLooks := .later }
def FnExactCountSharedCardSaid : Prop := Claim7.holds Tryd.pinned (.plain (OpenSpec.ofChange fnExactCountSharedSpec)) fnExactCountSharedCard

/-- THE TIED CARD OF 'laws.FnExactSingleOf'. -/
def fnExactSingleOfCard : Claim7 := { stood := { row := fnExactSingleOfRow, standIns := [], harness := (true, "0e0f63e511557eb3a310a2014e2b792942b222da543ebfcac5da197d322cac7f"), looks := true }, kinds := [], alts := [], laidByText := true, laidKinds := [.data, .data], laidTests := true, laidLooks := .later }
def FnExactSingleOfCardSaid : Prop := Claim7.holds Tryd.pinned (.plain (OpenSpec.ofChange fnExactSingleOfSpec)) fnExactSingleOfCard

/-- THE TIED CARD OF 'laws.FnExactToWhole'. -/
def fnExactToWholeCard : Claim7 := { stood := { row := fnExactToWholeRow, standIns := [], harness := (true, "0e0f63e511557eb3a310a2014e2b792942b222da543ebfcac5da197d322cac7f"), looks := true }, kinds := [], alts := [], laidByText := true, laidKinds := [.data, .data], laidTests := true, laidLooks := .later }
def FnExactToWholeCardSaid : Prop := Claim7.holds Tryd.pinned (.plain (OpenSpec.ofChange fnExactToWholeSpec)) fnExactToWholeCard

/-- THE SECOND FORM's CARD OF 'laws.FnExactCountLost'. -/
def fnExactCountLostUptoCard : Claim7 := { stood := { row := fnExactCountLostUptoRow, standIns := [], harness := (true, "0e0f63e511557eb3a310a2014e2b792942b222da543ebfcac5da197d322cac7f"), looks := true }, kinds := [], alts := [], laidByText := true, laidKinds := [.data, .data], laidTests := true, laidLooks := .later }
def FnExactCountLostUptoCardSaid : Prop := Claim7.holds Tryd.pinned (.plain (OpenSpec.upto fnExactCountLostSpec)) fnExactCountLostUptoCard

/-- THE SECOND FORM's CARD OF 'laws.FnExactCountShared'. -/
def fnExactCountSharedUptoCard : Claim7 := { stood := { row := fnExactCountSharedUptoRow, standIns := [], harness := (true, "0e0f63e511557eb3a310a2014e2b792942b222da543ebfcac5da197d322cac7f"), looks := true }, kinds := [], alts := [], laidByText := true, laidKinds := [.data, .data], laidTests := true, laidLooks := .later }
def FnExactCountSharedUptoCardSaid : Prop := Claim7.holds Tryd.pinned (.plain (OpenSpec.upto fnExactCountSharedSpec)) fnExactCountSharedUptoCard

/-- THE SECOND FORM's CARD OF 'laws.FnExactSingleOf'. -/
def fnExactSingleOfUptoCard : Claim7 := { stood := { row := fnExactSingleOfUptoRow, standIns := [], harness := (true, "0e0f63e511557eb3a310a2014e2b792942b222da543ebfcac5da197d322cac7f"), looks := true }, kinds := [], alts := [], laidByText := true, laidKinds := [.data, .data], laidTests := true, laidLooks := .later }
def FnExactSingleOfUptoCardSaid : Prop := Claim7.holds Tryd.pinned (.plain (OpenSpec.upto fnExactSingleOfSpec)) fnExactSingleOfUptoCard

/-- THE SECOND FORM's CARD OF 'laws.FnExactToWhole'. -/
def fnExactToWholeUptoCard : Claim7 := { stood := { row := fnExactToWholeUptoRow, standIns := [], harness := (true, "0e0f63e511557eb3a310a2014e2b792942b222da543ebfcac5da197d322cac7f"), looks := true }, kinds := [], alts := [], laidByText := true, laidKinds := [.data, .data], laidTests := true, laidLooks := .later }
def FnExactToWholeUptoCardSaid : Prop := Claim7.holds Tryd.pinned (.plain (OpenSpec.upto fnExactToWholeSpec)) fnExactToWholeUptoCard
end Rows
end Go.Proofs.YtafkcgpfllloiabDoor
