/-
  DERIVED. GIVEN WITH THE SEED: THE CARDS: each row of YtkppdcelhblgaaaDoorRows.lean that lists a variable, with what it lists TIED to the program's text (the seventh form; the later family's looks); each row that meets fmt, with fmt's text TOLD by the authors' own Lean function (tested against real Go, not proved from fmt's source: count such statements apart). THE CARD IS WHAT COUNTS. Prove the row's statement (the work); the ties are given (YtkppdcelhblgaaaDoorTie.lean); close each card by the builder's one call (the guide's Derived/Test/ToyasCard.lean, 'card_holds'). Laid BY PROGRAM, IN A SANDBOX (cutbox-door.mjs). By AI agents, Wed Nov 11 2026. No macro, syntax, notation, axiom, sorry.
-/
import Derived.Test.YtkppdcelhblgaaaDoorRows
import GoSem.ClaimSeven
namespace Go.Proofs.YtkppdcelhblgaaaDoor
namespace Rows

/-- THE TIED CARD OF 'laws.FnExactFlagsOf'. -/
def fnExactFlagsOfCard : Claim7 := { stood := { row := fnExactFlagsOfRow, standIns := [], harness := (true, "1ee552b94a5e151e99049a06428dc90e5e6aadb99219019681e97d0df4881329"), looks := false }, kinds := [], alts := [], laidByText := true, laidKinds := [.data, .data], laidTests := true, laidLooks := .later }
def FnExactFlagsOfCardSaid : Prop := Claim7.holds Tryd.pinned (.plain (OpenSpec.ofChange fnExactFlagsOfSpec)) fnExactFlagsOfCard

/-- THE TIED CARD OF 'laws.FnExactIsExact'. -/
def fnExactIsExactCard : Claim7 := { stood := { row := fnExactIsExactRow, standIns := [], harness := (true, "1ee552b94a5e151e99049a06428dc90e5e6aadb99219019681e97d0df4881329"), looks := false }, kinds := [], alts := [], laidByText := true, laidKinds := [.data, .data], laidTests := true, laidLooks := .later }
def FnExactIsExactCardSaid : Prop := Claim7.holds Tryd.pinned (.plain (OpenSpec.ofChange fnExactIsExactSpec)) fnExactIsExactCard

/-- THE TIED CARD OF 'laws.FnExactIsMidpoint'. -/
def fnExactIsMidpointCard : Claim7 := { stood := { row := fnExactIsMidpointRow, standIns := [], harness := (true, "1ee552b94a5e151e99049a06428dc90e5e6aadb99219019681e97d0df4881329"), looks := false }, kinds := [], alts := [], laidByText := true, laidKinds := [.data, .data], laidTests := true, laidLooks := .later }
def FnExactIsMidpointCardSaid : Prop := Claim7.holds Tryd.pinned (.plain (OpenSpec.ofChange fnExactIsMidpointSpec)) fnExactIsMidpointCard

/-- THE TIED CARD OF 'laws.FnExactErrorOf'. -/
def fnExactErrorOfCard : Claim7 := { stood := { row := fnExactErrorOfRow, standIns := [], harness := (true, "1ee552b94a5e151e99049a06428dc90e5e6aadb99219019681e97d0df4881329"), looks := false }, kinds := [], alts := [], laidByText := true, laidKinds := [.data, .data], laidTests := true, laidLooks := .later }
def FnExactErrorOfCardSaid : Prop := Claim7.holds Tryd.pinned (.plain (OpenSpec.ofChange fnExactErrorOfSpec)) fnExactErrorOfCard

/-- THE SECOND FORM's CARD OF 'laws.FnExactFlagsOf'. -/
def fnExactFlagsOfUptoCard : Claim7 := { stood := { row := fnExactFlagsOfUptoRow, standIns := [], harness := (true, "1ee552b94a5e151e99049a06428dc90e5e6aadb99219019681e97d0df4881329"), looks := false }, kinds := [], alts := [], laidByText := true, laidKinds := [.data, .data], laidTests := true, laidLooks := .later }
def FnExactFlagsOfUptoCardSaid : Prop := Claim7.holds Tryd.pinned (.plain (OpenSpec.upto fnExactFlagsOfSpec)) fnExactFlagsOfUptoCard

/-- THE SECOND FORM's CARD OF 'laws.FnExactIsExact'. -/
def fnExactIsExactUptoCard : Claim7 := { stood := { row := fnExactIsExactUptoRow, standIns := [], harness := (true, "1ee552b94a5e151e99049a06428dc90e5e6aadb99219019681e97d0df4881329"), looks := false }, kinds := [], alts := [], laidByText := true, laidKinds := [.data, .data], laidTests := true, laidLooks := .later }
def FnExactIsExactUptoCardSaid : Prop := Claim7.holds Tryd.pinned (.plain (OpenSpec.upto fnExactIsExactSpec)) fnExactIsExactUptoCard

/-- THE SECOND FORM's CARD OF 'laws.FnExactIsMidpoint'. -/
def fnExactIsMidpointUptoCard : Claim7 := { stood := { row := fnExactIsMidpointUptoRow, standIns := [], harness := (true, "1ee552b94a5e151e99049a06428dc90e5e6aadb99219019681e97d0df4881329"), looks := false }, kinds := [], alts := [], laidByText := true, laidKinds := [.data, .data], laidTests := true, laidLooks := .later }
def FnExactIsMidpointUptoCardSaid : Prop := Claim7.holds Tryd.pinned (.plain (OpenSpec.upto fnExactIsMidpointSpec)) fnExactIsMidpointUptoCard

/-- THE SECOND FORM's CARD OF 'laws.FnExactErrorOf'. -/
def fnExactErrorOfUptoCard : Claim7 := { stood := { row := fnExactErrorOfUptoRow, standIns := [], harness := (true, "1ee552b94a5e151e99049a06428dc90e5e6aadb99219019681e97d0df4881329"), looks := false }, kinds := [], alts := [], laidByText := true, laidKinds := [.data, .data], laidTests := true, laidLooks := .later }
def FnExactErrorOfUptoCardSaid : Prop := Claim7.holds Tryd.pinned (.plain (OpenSpec.upto fnExactErrorOfSpec)) fnExactErrorOfUptoCard
end Rows
end Go.Proofs.YtkppdcelhblgaaaDoor
