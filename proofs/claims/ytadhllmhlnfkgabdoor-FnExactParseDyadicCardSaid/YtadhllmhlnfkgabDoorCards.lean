/-
  DERIVED. GIVEN WITH THE SEED: THE CARDS: each row of YtadhllmhlnfkgabDoorRows.lean that lists a variable, with what it lists TIED to the program's text (the seventh form; the later family's looks); each row that meets fmt, with fmt's text TOLD by the authors' own Lean function (tested against real Go, not proved from fmt's source: count such statements apart). THE CARD IS WHAT COUNTS. Prove the row's statement (the work); the ties are given (YtadhllmhlnfkgabDoorTie.lean); close each card by the builder's one call (the guide's Derived/Test/ToyasCard.lean, 'card_holds'). Laid BY PROGRAM, IN A SANDBOX (cutbox-door.mjs). By AI agents, Wed Nov 11 2026. No macro, syntax, notation, axiom, sorry.
-/
import Derived.Test.YtadhllmhlnfkgabDoorRows
import GoSem.ClaimSeven
namespace Go.Proofs.YtadhllmhlnfkgabDoor
namespace Rows

/-- THE TIED CARD OF 'laws.FnExactPatternText'. -/
def fnExactPatternTextCard : Claim7 := { stood := { row := fnExactPatternTextRow, standIns := [], harness := (true, "b8c9a3d4c08bdda4e8d05c65dd656136019916632220c6b5c9275d608992316a"), looks := true }, kinds := [], alts := [], laidByText := true, laidKinds := [.data, .data, .data], laidTests := true, laidLooks := .later }
def FnExactPatternTextCardSaid : Prop := Claim7.holds Tryd.pinned (.plain (OpenSpec.ofChange fnExactPatternTextSpec)) fnExactPatternTextCard

/-- THE TIED CARD OF 'laws.FnExactDyadicText'. -/
def fnExactDyadicTextCard : Claim7 := { stood := { row := fnExactDyadicTextRow, standIns := [], harness := (true, "b8c9a3d4c08bdda4e8d05c65dd656136019916632220c6b5c9275d608992316a"), looks := true }, kinds := [], alts := [], laidByText := true, laidKinds := [.data, .data, .data], laidTests := true, laidLooks := .later }
def FnExactDyadicTextCardSaid : Prop := Claim7.holds Tryd.pinned (.plain (OpenSpec.ofChange fnExactDyadicTextSpec)) fnExactDyadicTextCard

/-- THE TIED CARD OF 'laws.FnExactParseDyadic'. -/
def fnExactParseDyadicCard : Claim7 := { stood := { row := fnExactParseDyadicRow, standIns := [], harness := (true, "b8c9a3d4c08bdda4e8d05c65dd656136019916632220c6b5c9275d608992316a"), looks := true }, kinds := [], alts := [], laidByText := true, laidKinds := [.data, .data, .data, .sentinel, .sentinel], laidTests := true, laidLooks := .later }
def FnExactParseDyadicCardSaid : Prop := Claim7.holds Tryd.pinned (.plain (OpenSpec.ofChange fnExactParseDyadicSpec)) fnExactParseDyadicCard

/-- THE TIED CARD OF 'laws.FnExactExactText'. -/
def fnExactExactTextCard : Claim7 := { stood := { row := fnExactExactTextRow, standIns := [], harness := (true, "b8c9a3d4c08bdda4e8d05c65dd656136019916632220c6b5c9275d608992316a"), looks := true }, kinds := [], alts := [], laidByText := true, laidKinds := [.data, .data, .data], laidTests := true, laidLooks := .later }
def FnExactExactTextCardSaid : Prop := Claim7.holds Tryd.pinned (.plain (OpenSpec.ofChange fnExactExactTextSpec)) fnExactExactTextCard

/-- THE TIED CARD OF 'laws.FnExactHalfText'. -/
def fnExactHalfTextCard : Claim7 := { stood := { row := fnExactHalfTextRow, standIns := [], harness := (true, "b8c9a3d4c08bdda4e8d05c65dd656136019916632220c6b5c9275d608992316a"), looks := true }, kinds := [], alts := [], laidByText := true, laidKinds := [.data, .data, .data], laidTests := true, laidLooks := .later }
def FnExactHalfTextCardSaid : Prop := Claim7.holds Tryd.pinned (.plain (OpenSpec.ofChange fnExactHalfTextSpec)) fnExactHalfTextCard

/-- THE TIED CARD OF 'laws.FnPatternsTakenOfAll'. -/
def fnPatternsTakenOfAllCard : Claim7 := { stood := { row := fnPatternsTakenOfAllRow, standIns := [], harness := (true, "b8c9a3d4c08bdda4e8d05c65dd656136019916632220c6b5c9275d608992316a"), looks := true }, kinds := [], alts := [], laidByText := true, laidKinds := [.data, .data, .data], laidTests := true, laidLooks := .later }
def FnPatternsTakenOfAllCardSaid : Prop := Claim7.holds Tryd.pinned (.plain (OpenSpec.ofChange fnPatternsTakenOfAllSpec)) fnPatternsTakenOfAllCard

/-- THE SECOND FORM's CARD OF 'laws.FnExactPatternText'. -/
def fnExactPatternTextUptoCard : Claim7 := { stood := { row := fnExactPatternTextUptoRow, standIns := [], harness := (true, "b8c9a3d4c08bdda4e8d05c65dd656136019916632220c6b5c9275d608992316a"), looks := true }, kinds := [], alts := [], laidByText := true, laidKinds := [.data, .data, .data], laidTests := true, laidLooks := .later }
def FnExactPatternTextUptoCardSaid : Prop := Claim7.holds Tryd.pinned (.plain (OpenSpec.upto fnExactPatternTextSpec)) fnExactPatternTextUptoCard

/-- THE SECOND FORM's CARD OF 'laws.FnExactDyadicText'. -/
def fnExactDyadicTextUptoCard : Claim7 := { stood := { row := fnExactDyadicTextUptoRow, standIns := [], harness := (true, "b8c9a3d4c08bdda4e8d05c65dd656136019916632220c6b5c9275d608992316a"), looks := true }, kinds := [], alts := [], laidByText := true, laidKinds := [.data, .data, .data], laidTests := true, laidLooks := .later }
def FnExactDyadicTextUptoCardSaid : Prop := Claim7.holds Tryd.pinned (.plain (OpenSpec.upto fnExactDyadicTextSpec)) fnExactDyadicTextUptoCard

/-- THE SECOND FORM's CARD OF 'laws.FnExactParseDyadic'. -/
def fnExactParseDyadicUptoCard : Claim7 := { stood := { row := fnExactParseDyadicUptoRow, standIns := [], harness := (true, "b8c9a3d4c08bdda4e8d05c65dd656136019916632220c6b5c9275d608992316a"), looks := true }, kinds := [], alts := [], laidByText := true, laidKinds := [.data, .data, .data, .sentinel, .sentinel], laidTests := true, laidLooks := .later }
def FnExactParseDyadicUptoCardSaid : Prop := Claim7.holds Tryd.pinned (.plain (OpenSpec.upto fnExactParseDyadicSpec)) fnExactParseDyadicUptoCard

/-- THE SECOND FORM's CARD OF 'laws.FnExactExactText'. -/
def fnExactExactTextUptoCard : Claim7 := { stood := { row := fnExactExactTextUptoRow, standIns := [], harness := (true, "b8c9a3d4c08bdda4e8d05c65dd656136019916632220c6b5c9275d608992316a"), looks := true }, kinds := [], alts := [], laidByText := true, laidKinds := [.data, .data, .data], laidTests := true, laidLooks := .later }
def FnExactExactTextUptoCardSaid : Prop := Claim7.holds Tryd.pinned (.plain (OpenSpec.upto fnExactExactTextSpec)) fnExactExactTextUptoCard

/-- THE SECOND FORM's CARD OF 'laws.FnExactHalfText'. -/
def fnExactHalfTextUptoCard : Claim7 := { stood := { row := fnExactHalfTextUptoRow, standIns := [], harness := (true, "b8c9a3d4c08bdda4e8d05c65dd656136019916632220c6b5c9275d608992316a"), looks := true }, kinds := [], alts := [], laidByText := true, laidKinds := [.data, .data, .data], laidTests := true, laidLooks := .later }
def FnExactHalfTextUptoCardSaid : Prop := Claim7.holds Tryd.pinned (.plain (OpenSpec.upto fnExactHalfTextSpec)) fnExactHalfTextUptoCard

/-- THE SECOND FORM's CARD OF 'laws.FnPatternsTakenOfAll'. -/
def fnPatternsTakenOfAllUptoCard : Claim7 := { stood := { row := fnPatternsTakenOfAllUptoRow, standIns := [], harness := (true, "b8c9a3d4c08bdda4e8d05c65dd656136019916632220c6b5c9275d608992316a"), looks := true }, kinds := [], alts := [], laidByText := true, laidKinds := [.data, .data, .data], laidTests := true, laidLooks := .later }
def FnPatternsTakenOfAllUptoCardSaid : Prop := Claim7.holds Tryd.pinned (.plain (OpenSpec.upto fnPatternsTakenOfAllSpec)) fnPatternsTakenOfAllUptoCard
end Rows
end Go.Proofs.YtadhllmhlnfkgabDoor
