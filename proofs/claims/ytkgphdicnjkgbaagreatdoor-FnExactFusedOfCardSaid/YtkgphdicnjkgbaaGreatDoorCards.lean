/-
  DERIVED. GIVEN WITH THE SEED: THE CARDS: each row of YtkgphdicnjkgbaaGreatDoorRows.lean that lists a variable, with what it lists TIED to the program's text (the seventh form; the later family's looks); each row that meets fmt, with fmt's text TOLD by the authors' own Lean function (tested against real Go, not proved from fmt's source: count such statements apart). THE CARD IS WHAT COUNTS. Prove the row's statement (the work); the ties are given (YtkgphdicnjkgbaaGreatDoorTie.lean); close each card by the builder's one call (the guide's Derived/Test/ToyasCard.lean, 'card_holds'). Laid BY PROGRAM, IN A SANDBOX (cutbox-door.mjs). By AI agents, Wed Nov 11 2026. No macro, syntax, notation, axiom, sorry.
-/
import Derived.Test.YtkgphdicnjkgbaaGreatDoorRows
import GoSem.ClaimSeven
namespace Go.Proofs.YtkgphdicnjkgbaaGreatDoor
namespace Rows

/-- THE TIED CARD OF 'laws.FnExactRootOf'. -/
def fnExactRootOfCard : Claim7 := { stood := { row := fnExactRootOfRow, standIns := [], harness := (true, "cc7cf9137b71854da55a7fab438719bbcf36e1f1454f374adfb9fb4eb6599185"), looks := true }, kinds := [], alts := [], laidByText := true, laidKinds := [.data, .data], laidTests := true, laidLooks := .later }
def FnExactRootOfCardSaid : Prop := Claim7.holds Tryz.pinned (.plain (OpenSpec.ofChange fnExactRootOfSpec)) fnExactRootOfCard

/-- THE TIED CARD OF 'laws.FnExactFusedOf'. -/
def fnExactFusedOfCard : Claim7 := { stood := { row := fnExactFusedOfRow, standIns := [], harness := (true, "cc7cf9137b71854da55a7fab438719bbcf36e1f1454f374adfb9fb4eb6599185"), looks := true }, kinds := [], alts := [], laidByText := true, laidKinds := [.data, .data], laidTests := true, laidLooks := .later }
def FnExactFusedOfCardSaid : Prop := Claim7.holds Tryz.pinned (.plain (OpenSpec.ofChange fnExactFusedOfSpec)) fnExactFusedOfCard

/-- THE SECOND FORM's CARD OF 'laws.FnExactRootOf'. -/
def fnExactRootOfUptoCard : Claim7 := { stood := { row := fnExactRootOfUptoRow, standIns := [], harness := (true, "cc7cf9137b71854da55a7fab438719bbcf36e1f1454f374adfb9fb4eb6599185"), looks := true }, kinds := [], alts := [], laidByText := true, laidKinds := [.data, .data], laidTests := true, laidLooks := .later }
def FnExactRootOfUptoCardSaid : Prop := Claim7.holds Tryz.pinned (.plain (OpenSpec.upto fnExactRootOfSpec)) fnExactRootOfUptoCard

/-- THE SECOND FORM's CARD OF 'laws.FnExactFusedOf'. -/
def fnExactFusedOfUptoCard : Claim7 := { stood := { row := fnExactFusedOfUptoRow, standIns := [], harness := (true, "cc7cf9137b71854da55a7fab438719bbcf36e1f1454f374adfb9fb4eb6599185"), looks := true }, kinds := [], alts := [], laidByText := true, laidKinds := [.data, .data], laidTests := true, laidLooks := .later }
def FnExactFusedOfUptoCardSaid : Prop := Claim7.holds Tryz.pinned (.plain (OpenSpec.upto fnExactFusedOfSpec)) fnExactFusedOfUptoCard
end Rows
end Go.Proofs.YtkgphdicnjkgbaaGreatDoor
