/-
  DERIVED. GIVEN WITH THE SEED: THE CARDS: each row of YtdagfocpbnamfaaDoorRows.lean that lists a variable, with what it lists TIED to the program's text (the seventh form; the later family's looks); each row that meets fmt, with fmt's text TOLD by the authors' own Lean function (tested against real Go, not proved from fmt's source: count such statements apart). THE CARD IS WHAT COUNTS. Prove the row's statement (the work); the ties are given (YtdagfocpbnamfaaDoorTie.lean); close each card by the builder's one call (the guide's Derived/Test/ToyasCard.lean, 'card_holds'). Laid BY PROGRAM, IN A SANDBOX (cutbox-door.mjs). By AI agents, Wed Nov 11 2026. No macro, syntax, notation, axiom, sorry.
-/
import Derived.Test.YtdagfocpbnamfaaDoorRows
import GoSem.ClaimSeven
namespace Go.Proofs.YtdagfocpbnamfaaDoor
namespace Rows

/-- THE TIED CARD OF 'laws.FnExactBoundOfBlock'. -/
def fnExactBoundOfBlockCard : Claim7 := { stood := { row := fnExactBoundOfBlockRow, standIns := [], harness := (true, "6fa072cc739ce5f7efb992f6fb0a0db1105d988caf895f2d1f55b36681f9709b"), looks := false }, kinds := [], alts := [], laidByText := true, laidKinds := [.data, .data], laidTests := true, laidLooks := .later }
def FnExactBoundOfBlockCardSaid : Prop := Claim7.holds Tryd.pinned (.plain (OpenSpec.ofChange fnExactBoundOfBlockSpec)) fnExactBoundOfBlockCard

/-- THE SECOND FORM's CARD OF 'laws.FnExactBoundOfBlock'. -/
def fnExactBoundOfBlockUptoCard : Claim7 := { stood := { row := fnExactBoundOfBlockUptoRow, standIns := [], harness := (true, "6fa072cc739ce5f7efb992f6fb0a0db1105d988caf895f2d1f55b36681f9709b"), looks := false }, kinds := [], alts := [], laidByText := true, laidKinds := [.data, .data], laidTests := true, laidLooks := .later }
def FnExactBoundOfBlockUptoCardSaid : Prop := Claim7.holds Tryd.pinned (.plain (OpenSpec.upto fnExactBoundOfBlockSpec)) fnExactBoundOfBlockUptoCard
end Rows
end Go.Proofs.YtdagfocpbnamfaaDoor
