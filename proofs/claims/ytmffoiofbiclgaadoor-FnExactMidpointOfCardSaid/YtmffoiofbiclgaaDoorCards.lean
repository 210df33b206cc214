/-
  DERIVED. GIVEN WITH THE SEED: THE CARDS: each row of YtmffoiofbiclgaaDoorRows.lean that lists a variable, with what it lists TIED to the program's text (the seventh form; the later family's looks); each row that meets fmt, with fmt's text TOLD by the authors' own Lean function (tested against real Go, not proved from fmt's source: count such statements apart). THE CARD IS WHAT COUNTS. Prove the row's statement (the work); the ties are given (YtmffoiofbiclgaaDoorTie.lean); close each card by the builder's one call (the guide's Derived/Test/ToyasCard.lean, 'card_holds'). Laid BY PROGRAM, IN A SANDBOX (cutbox-door.mjs). By AI agents, Wed Nov 11 2026. No macro, syntax, notation, axiom, sorry.
-/
import Derived.Test.YtmffoiofbiclgaaDoorRows
import GoSem.ClaimSeven
namespace Go.Proofs.YtmffoiofbiclgaaDoor
namespace Rows

/-- THE TIED CARD OF 'laws.FnExactDyadicOf'. -/
def fnExactDyadicOfCard : Claim7 := { stood := { row := fnExactDyadicOfRow, standIns := [], harness := (true, "81b10b1bff5b3a2d98afdc37957211429d45523eb60fa545a8be14bbd19cfacd"), looks := false }, kinds := [], alts := [], laidByText := true, laidKinds := [.data, .data], laidTests := true, laidLooks := .later }
def FnExactDyadicOfCardSaid : Prop := Claim7.holds Tryd.pinned (.plain (OpenSpec.ofChange fnExactDyadicOfSpec)) fnExactDyadicOfCard

/-- THE TIED CARD OF 'laws.FnExactValueOf'. -/
def fnExactValueOfCard : Claim7 := { stood := { row := fnExactValueOfRow, standIns := [], harness := (true, "81b10b1bff5b3a2d98afdc37957211429d45523eb60fa545a8be14bbd19cfacd"), looks := false }, kinds := [], alts := [], laidByText := true, laidKinds := [.data, .data], laidTests := true, laidLooks := .later }
def FnExactValueOfCardSaid : Prop := Claim7.holds Tryd.pinned (.plain (OpenSpec.ofChange fnExactValueOfSpec)) fnExactValueOfCard

/-- THE TIED CARD OF 'laws.FnExactUnitOf'. -/
def fnExactUnitOfCard : Claim7 := { stood := { row := fnExactUnitOfRow, standIns := [], harness := (true, "81b10b1bff5b3a2d98afdc37957211429d45523eb60fa545a8be14bbd19cfacd"), looks := false }, kinds := [], alts := [], laidByText := true, laidKinds := [.data, .data], laidTests := true, laidLooks := .later }
def FnExactUnitOfCardSaid : Prop := Claim7.holds Tryd.pinned (.plain (OpenSpec.ofChange fnExactUnitOfSpec)) fnExactUnitOfCard

/-- THE TIED CARD OF 'laws.FnExactPlusDyadic'. -/
def fnExactPlusDyadicCard : Claim7 := { stood := { row := fnExactPlusDyadicRow, standIns := [], harness := (true, "81b10b1bff5b3a2d98afdc37957211429d45523eb60fa545a8be14bbd19cfacd"), looks := false }, kinds := [], alts := [], laidByText := true, laidKinds := [.data, .data], laidTests := true, laidLooks := .later }
def FnExactPlusDyadicCardSaid : Prop := Claim7.holds Tryd.pinned (.plain (OpenSpec.ofChange fnExactPlusDyadicSpec)) fnExactPlusDyadicCard

/-- THE TIED CARD OF 'laws.FnExactTimesDyadic'. -/
def fnExactTimesDyadicCard : Claim7 := { stood := { row := fnExactTimesDyadicRow, standIns := [], harness := (true, "81b10b1bff5b3a2d98afdc37957211429d45523eb60fa545a8be14bbd19cfacd"), looks := false }, kinds := [], alts := [], laidByText := true, laidKinds := [.data, .data], laidTests := true, laidLooks := .later }
def FnExactTimesDyadicCardSaid : Prop := Claim7.holds Tryd.pinned (.plain (OpenSpec.ofChange fnExactTimesDyadicSpec)) fnExactTimesDyadicCard

/-- THE TIED CARD OF 'laws.FnExactMidpointOf'. -/
def fnExactMidpointOfCard : Claim7 := { stood := { row := fnExactMidpointOfRow, standIns := [], harness := (true, "81b10b1bff5b3a2d98afdc37957211429d45523eb60fa545a8be14bbd19cfacd"), looks := false }, kinds := [], alts := [], laidByText := true, laidKinds := [.data, .data], laidTests := true, laidLooks := .later }
def FnExactMidpointOfCardSaid : Prop := Claim7.holds Tryd.pinned (.plain (OpenSpec.ofChange fnExactMidpointOfSpec)) fnExactMidpointOfCard

/-- THE SECOND FORM's CARD OF 'laws.FnExactDyadicOf'. -/
def fnExactDyadicOfUptoCard : Claim7 := { stood := { row := fnExactDyadicOfUptoRow, standIns := [], harness := (true, "81b10b1bff5b3a2d98afdc37957211429d45523eb60fa545a8be14bbd19cfacd"), looks := false }, kinds := [], alts := [], laidByText := true, laidKinds := [.data, .data], laidTests := true, laidLooks := .later }
def FnExactDyadicOfUptoCardSaid : Prop := Claim7.holds Tryd.pinned (.plain (OpenSpec.upto fnExactDyadicOfSpec)) fnExactDyadicOfUptoCard

/-- THE SECOND FORM's CARD OF 'laws.FnExactValueOf'. -/
def fnExactValueOfUptoCard : Claim7 := { stood := { row := fnExactValueOfUptoRow, standIns := [], harness := (true, "81b10b1bff5b3a2d98afdc37957211429d45523eb60fa545a8be14bbd19cfacd"), looks := false }, kinds := [], alts := [], laidByText := true, laidKinds := [.data, .data], laidTests := true, laidLooks := .later }
def FnExactValueOfUptoCardSaid : Prop := Claim7.holds Tryd.pinned (.plain (OpenSpec.upto fnExactValueOfSpec)) fnExactValueOfUptoCard

/-- THE SECOND FORM's CARD OF 'laws.FnExactUnitOf'. -/
def fnExactUnitOfUptoCard : Claim7 := { stood := { row := fnExactUnitOfUptoRow, standIns := [], harness := (true, "81b10b1bff5b3a2d98afdc37957211429d45523eb60fa545a8be14bbd19cfacd"), looks := false }, kinds := [], alts := [], laidByText := true, laidKinds := [.data, .data], laidTests := true, laidLooks := .later }
def FnExactUnitOfUptoCardSaid : Prop := Claim7.holds Tryd.pinned (.plain (OpenSpec.upto fnExactUnitOfSpec)) fnExactUnitOfUptoCard

/-- THE SECOND FORM's CARD OF 'laws.FnExactPlusDyadic'. -/
def fnExactPlusDyadicUptoCard : Claim7 := { stood := { row := fnExactPlusDyadicUptoRow, standIns := [], harness := (true, "81b10b1bff5b3a2d98afdc37957211429d45523eb60fa545a8be14bbd19cfacd"), looks := false }, kinds := [], alts := [], laidByText := true, laidKinds := [.data, .data], laidTests := true, laidLooks := .later }
def FnExactPlusDyadicUptoCardSaid : Prop := Claim7.holds Tryd.pinned (.plain (OpenSpec.upto fnExactPlusDyadicSpec)) fnExactPlusDyadicUptoCard

/-- THE SECOND FORM's CARD OF 'laws.FnExactTimesDyadic'. -/
def fnExactTimesDyadicUptoCard : Claim7 := { stood := { row := fnExactTimesDyadicUptoRow, standIns := [], harness := (true, "81b10b1bff5b3a2d98afdc37957211429d45523eb60fa545a8be14bbd19cfacd"), looks := false }, kinds := [], alts := [], laidByText := true, laidKinds := [.data, .data], laidTests := true, laidLooks := .later }
def FnExactTimesDyadicUptoCardSaid : Prop := Claim7.holds Tryd.pinned (.plain (OpenSpec.upto fnExactTimesDyadicSpec)) fnExactTimesDyadicUptoCard

/-- THE SECOND FORM's CARD OF 'laws.FnExactMidpointOf'. -/
def fnExactMidpointOfUptoCard : Claim7 := { stood := { row := fnExactMidpointOfUptoRow, standIns := [], harness := (true, "81b10b1bff5b3a2d98afdc37957211429d45523eb60fa545a8be14bbd19cfacd"), looks := false }, kinds := [], alts := [], laidByText := true, laidKinds := [.data, .data], laidTests := true, laidLooks := .later }
def FnExactMidpointOfUptoCardSaid : Prop := Claim7.holds Tryd.pinned (.plain (OpenSpec.upto fnExactMidpointOfSpec)) fnExactMidpointOfUptoCard
end Rows
end Go.Proofs.YtmffoiofbiclgaaDoor
