/-
  No cell of these rows narrows 'for every input' (looked for: loops, veiled, ifaces, maps, wideKeys, modest, calm, conditions, laid).
  DERIVED. THE GIVEN ROWS OF THIS SEAT. 9 by the template 'for every input the law returns true; each argument reads behind the call as it read before'; 0 by the template 'total and deterministic' (their statements: YthnfdaegcjlldaaTotals.lean).
  GIVEN WITH THE SEED: the statements are not yours to turn. If you find one false, say at which input.
  Laid BY PROGRAM, IN A SANDBOX (cutbox-rows.mjs): the forced cells as the released guide's own fill.sh prints them over the translation 83d4e2803398bd03… (all of the seat's roots in one cut). By AI agents, Wed Nov 11 2026. No macro, syntax, notation, axiom, sorry.
-/
import Derived.Test.YthnfdaegcjlldaaChecked
import GoSem.Claim
import GoSem.ClaimJoined
import GoSem.ClaimMapViews
import Derived.JoinedTies
import Derived.KernelRfl
namespace Go.Proofs.Ythnfdaegcjlldaa
/- THE CELL 'sum', in the pinned program and in every row, IS THE sha256 OF THE DUMP (.gsa) THAT YthnfdaegcjlldaaProg.lean LOADS. Nothing in Lean hashes anything: it is a label: what it is worth is what the hold of that sum in a sandbox is worth. -/
noncomputable def Try.pinned : Pinned := { name := "ythnfdaegcjlldaa", sum := "83d4e2803398bd033e25c950be203131955b671bd0c7bb731a0922edc2104573", checked := Try.checked }
namespace Rows
def none {H : Type} : Left H := { results := [], args := [] }

/-- 'laws.FnExactKindOf': WHATEVER THE INPUT: true; the input reads as it did. -/
def fnExactKindOfSpec : ChangeSpec := { name := "fnExactKindOf", fn := fun _ => fun
  | [d1, d2] => { results := [.lit (.bool true)], args := [d1, d2] }
  | _ => none }
def fnExactKindOfRow : OpenClaim := { program := "ythnfdaegcjlldaa", sum := "83d4e2803398bd033e25c950be203131955b671bd0c7bb731a0922edc2104573", func := "loop.example/g01178/laws.FnExactKindOf", spec := "fnExactKindOf", unfollowed := true, recurses := true, apart := false }
def FnExactKindOfSaid : Prop := fnExactKindOfRow.holds Try.pinned (OpenSpec.ofChange fnExactKindOfSpec)

/-- ITS FALSE NEIGHBOUR: 'it returns false'. Refute it at one input. -/
def fnExactKindOfWrong : ChangeSpec := { name := "fnExactKindOf", fn := fun _ => fun
  | [d1, d2] => { results := [.lit (.bool false)], args := [d1, d2] }
  | _ => none }
def FnExactKindOfWrongFalsely : Prop := fnExactKindOfRow.holds Try.pinned (OpenSpec.ofChange fnExactKindOfWrong)

/-- 'laws.FnExactUnitsOf': WHATEVER THE INPUT: true; the input reads as it did. -/
def fnExactUnitsOfSpec : ChangeSpec := { name := "fnExactUnitsOf", fn := fun _ => fun
  | [d1, d2] => { results := [.lit (.bool true)], args := [d1, d2] }
  | _ => none }
def fnExactUnitsOfRow : OpenClaim := { program := "ythnfdaegcjlldaa", sum := "83d4e2803398bd033e25c950be203131955b671bd0c7bb731a0922edc2104573", func := "loop.example/g01178/laws.FnExactUnitsOf", spec := "fnExactUnitsOf", inPlace := ["math.Float32frombits"], unfollowed := true, recurses := true, apart := false }
def FnExactUnitsOfSaid : Prop := fnExactUnitsOfRow.holds Try.pinned (OpenSpec.ofChange fnExactUnitsOfSpec)

/-- ITS FALSE NEIGHBOUR: 'it returns false'. Refute it at one input. -/
def fnExactUnitsOfWrong : ChangeSpec := { name := "fnExactUnitsOf", fn := fun _ => fun
  | [d1, d2] => { results := [.lit (.bool false)], args := [d1, d2] }
  | _ => none }
def FnExactUnitsOfWrongFalsely : Prop := fnExactUnitsOfRow.holds Try.pinned (OpenSpec.ofChange fnExactUnitsOfWrong)

/-- 'laws.FnExactPatternOfUnits': WHATEVER THE INPUT: true; the input reads as it did. -/
def fnExactPatternOfUnitsSpec : ChangeSpec := { name := "fnExactPatternOfUnits", fn := fun _ => fun
  | [d1, d2] => { results := [.lit (.bool true)], args := [d1, d2] }
  | _ => none }
def fnExactPatternOfUnitsRow : OpenClaim := { program := "ythnfdaegcjlldaa", sum := "83d4e2803398bd033e25c950be203131955b671bd0c7bb731a0922edc2104573", func := "loop.example/g01178/laws.FnExactPatternOfUnits", spec := "fnExactPatternOfUnits", inPlace := ["math.Float32frombits", "math.Float32bits"], unfollowed := true, recurses := true, apart := false }
def FnExactPatternOfUnitsSaid : Prop := fnExactPatternOfUnitsRow.holds Try.pinned (OpenSpec.ofChange fnExactPatternOfUnitsSpec)

/-- ITS FALSE NEIGHBOUR: 'it returns false'. Refute it at one input. -/
def fnExactPatternOfUnitsWrong : ChangeSpec := { name := "fnExactPatternOfUnits", fn := fun _ => fun
  | [d1, d2] => { results := [.lit (.bool false)], args := [d1, d2] }
  | _ => none }
def FnExactPatternOfUnitsWrongFalsely : Prop := fnExactPatternOfUnitsRow.holds Try.pinned (OpenSpec.ofChange fnExactPatternOfUnitsWrong)

/-- 'laws.FnExactNearestBelow': WHATEVER THE INPUT: true; the input reads as it did. -/
def fnExactNearestBelowSpec : ChangeSpec := { name := "fnExactNearestBelow", fn := fun _ => fun
  | [d1, d2] => { results := [.lit (.bool true)], args := [d1, d2] }
  | _ => none }
def fnExactNearestBelowRow : OpenClaim := { program := "ythnfdaegcjlldaa", sum := "83d4e2803398bd033e25c950be203131955b671bd0c7bb731a0922edc2104573", func := "loop.example/g01178/laws.FnExactNearestBelow", spec := "fnExactNearestBelow", inPlace := ["math.Float32frombits", "math.Float32bits"], unfollowed := true, recurses := true, apart := false }
def FnExactNearestBelowSaid : Prop := fnExactNearestBelowRow.holds Try.pinned (OpenSpec.ofChange fnExactNearestBelowSpec)

/-- ITS FALSE NEIGHBOUR: 'it returns false'. Refute it at one input. -/
def fnExactNearestBelowWrong : ChangeSpec := { name := "fnExactNearestBelow", fn := fun _ => fun
  | [d1, d2] => { results := [.lit (.bool false)], args := [d1, d2] }
  | _ => none }
def FnExactNearestBelowWrongFalsely : Prop := fnExactNearestBelowRow.holds Try.pinned (OpenSpec.ofChange fnExactNearestBelowWrong)

/-- 'laws.FnExactNextUp': WHATEVER THE INPUT: true; the input reads as it did. -/
def fnExactNextUpSpec : ChangeSpec := { name := "fnExactNextUp", fn := fun _ => fun
  | [d1, d2] => { results := [.lit (.bool true)], args := [d1, d2] }
  | _ => none }
def fnExactNextUpRow : OpenClaim := { program := "ythnfdaegcjlldaa", sum := "83d4e2803398bd033e25c950be203131955b671bd0c7bb731a0922edc2104573", func := "loop.example/g01178/laws.FnExactNextUp", spec := "fnExactNextUp", unfollowed := true, recurses := true, apart := false }
def FnExactNextUpSaid : Prop := fnExactNextUpRow.holds Try.pinned (OpenSpec.ofChange fnExactNextUpSpec)

/-- ITS FALSE NEIGHBOUR: 'it returns false'. Refute it at one input. -/
def fnExactNextUpWrong : ChangeSpec := { name := "fnExactNextUp", fn := fun _ => fun
  | [d1, d2] => { results := [.lit (.bool false)], args := [d1, d2] }
  | _ => none }
def FnExactNextUpWrongFalsely : Prop := fnExactNextUpRow.holds Try.pinned (OpenSpec.ofChange fnExactNextUpWrong)

/-- 'laws.FnExactNextDown': WHATEVER THE INPUT: true; the input reads as it did. -/
def fnExactNextDownSpec : ChangeSpec := { name := "fnExactNextDown", fn := fun _ => fun
  | [d1, d2] => { results := [.lit (.bool true)], args := [d1, d2] }
  | _ => none }
def fnExactNextDownRow : OpenClaim := { program := "ythnfdaegcjlldaa", sum := "83d4e2803398bd033e25c950be203131955b671bd0c7bb731a0922edc2104573", func := "loop.example/g01178/laws.FnExactNextDown", spec := "fnExactNextDown", unfollowed := true, recurses := true, apart := false }
def FnExactNextDownSaid : Prop := fnExactNextDownRow.holds Try.pinned (OpenSpec.ofChange fnExactNextDownSpec)

/-- ITS FALSE NEIGHBOUR: 'it returns false'. Refute it at one input. -/
def fnExactNextDownWrong : ChangeSpec := { name := "fnExactNextDown", fn := fun _ => fun
  | [d1, d2] => { results := [.lit (.bool false)], args := [d1, d2] }
  | _ => none }
def FnExactNextDownWrongFalsely : Prop := fnExactNextDownRow.holds Try.pinned (OpenSpec.ofChange fnExactNextDownWrong)

/-- 'laws.FnExactCompareOf': WHATEVER THE INPUT: true; the input reads as it did. -/
def fnExactCompareOfSpec : ChangeSpec := { name := "fnExactCompareOf", fn := fun _ => fun
  | [d1, d2, d3] => { results := [.lit (.bool true)], args := [d1, d2, d3] }
  | _ => none }
def fnExactCompareOfRow : OpenClaim := { program := "ythnfdaegcjlldaa", sum := "83d4e2803398bd033e25c950be203131955b671bd0c7bb731a0922edc2104573", func := "loop.example/g01178/laws.FnExactCompareOf", spec := "fnExactCompareOf", unfollowed := true, recurses := true, apart := false }
def FnExactCompareOfSaid : Prop := fnExactCompareOfRow.holds Try.pinned (OpenSpec.ofChange fnExactCompareOfSpec)

/-- ITS FALSE NEIGHBOUR: 'it returns false'. Refute it at one input. -/
def fnExactCompareOfWrong : ChangeSpec := { name := "fnExactCompareOf", fn := fun _ => fun
  | [d1, d2, d3] => { results := [.lit (.bool false)], args := [d1, d2, d3] }
  | _ => none }
def FnExactCompareOfWrongFalsely : Prop := fnExactCompareOfRow.holds Try.pinned (OpenSpec.ofChange fnExactCompareOfWrong)

/-- 'laws.FnExactOrderKey': WHATEVER THE INPUT: true; the input reads as it did. -/
def fnExactOrderKeySpec : ChangeSpec := { name := "fnExactOrderKey", fn := fun _ => fun
  | [d1, d2] => { results := [.lit (.bool true)], args := [d1, d2] }
  | _ => none }
def fnExactOrderKeyRow : OpenClaim := { program := "ythnfdaegcjlldaa", sum := "83d4e2803398bd033e25c950be203131955b671bd0c7bb731a0922edc2104573", func := "loop.example/g01178/laws.FnExactOrderKey", spec := "fnExactOrderKey", unfollowed := true, recurses := true, apart := false }
def FnExactOrderKeySaid : Prop := fnExactOrderKeyRow.holds Try.pinned (OpenSpec.ofChange fnExactOrderKeySpec)

/-- ITS FALSE NEIGHBOUR: 'it returns false'. Refute it at one input. -/
def fnExactOrderKeyWrong : ChangeSpec := { name := "fnExactOrderKey", fn := fun _ => fun
  | [d1, d2] => { results := [.lit (.bool false)], args := [d1, d2] }
  | _ => none }
def FnExactOrderKeyWrongFalsely : Prop := fnExactOrderKeyRow.holds Try.pinned (OpenSpec.ofChange fnExactOrderKeyWrong)

/-- 'laws.FnExactStepUnits': WHATEVER THE INPUT: true; the input reads as it did. -/
def fnExactStepUnitsSpec : ChangeSpec := { name := "fnExactStepUnits", fn := fun _ => fun
  | [d1, d2] => { results := [.lit (.bool true)], args := [d1, d2] }
  | _ => none }
def fnExactStepUnitsRow : OpenClaim := { program := "ythnfdaegcjlldaa", sum := "83d4e2803398bd033e25c950be203131955b671bd0c7bb731a0922edc2104573", func := "loop.example/g01178/laws.FnExactStepUnits", spec := "fnExactStepUnits", unfollowed := true, recurses := true, apart := false }
def FnExactStepUnitsSaid : Prop := fnExactStepUnitsRow.holds Try.pinned (OpenSpec.ofChange fnExactStepUnitsSpec)

/-- ITS FALSE NEIGHBOUR: 'it returns false'. Refute it at one input. -/
def fnExactStepUnitsWrong : ChangeSpec := { name := "fnExactStepUnits", fn := fun _ => fun
  | [d1, d2] => { results := [.lit (.bool false)], args := [d1, d2] }
  | _ => none }
def FnExactStepUnitsWrongFalsely : Prop := fnExactStepUnitsRow.holds Try.pinned (OpenSpec.ofChange fnExactStepUnitsWrong)

/- THE SECOND FORM. 'bulk': how many values and letters a reading holds, each counted each time it is reached (what is shared counts as often as it is met; a slice's spare places count too). A statement '..UptoSaid' is the law's where the arguments, and the package variables that the reading takes, are together of bulk at most 1048576: NARROWER than '..Said'. Prove '..Said' where nothing that the law and all that it calls make is longer than what came in: it says more and counts as full. Else prove '..UptoSaid'. A law counts once. -/
mutual
def uptoBulk {H : Type} : DataW H → Nat
  | .lit (.string bytes) => bytes.length + 1
  | .lit _ => 1
  | .nil => 1
  | .ptr d => uptoBulk d + 1
  | .slice elems spare => uptoBulkAll elems + uptoBulkAll spare + 1
  | .agg parts => uptoBulkAll parts + 1
  | .iface _ d => uptoBulk d + 1
  | .map entries => uptoBulkEntries entries + 1
  | .held _ => 1
def uptoBulkAll {H : Type} : List (DataW H) → Nat
  | [] => 0
  | d :: r => uptoBulk d + uptoBulkAll r
def uptoBulkEntries {H : Type} : List (Lit × DataW H) → Nat
  | [] => 0
  | x :: r => uptoBulkEntry x + uptoBulkEntries r
def uptoBulkEntry {H : Type} : Lit × DataW H → Nat
  | (.string bytes, d) => bytes.length + uptoBulk d + 1
  | (_, d) => uptoBulk d + 1
 end
def uptoSmall : (H : Type) → List (DataW H) → Bool := fun _ ds => decide (uptoBulkAll ds ≤ 1048576)
def OpenSpec.upto (s : _root_.Go.ChangeSpec) : _root_.Go.OpenSpec := { _root_.Go.OpenSpec.ofChange s with cond := some uptoSmall }

/-- 'laws.FnExactKindOf', WHERE WHAT IT READS IS OF BULK AT MOST 1048576: true; the input reads as it did. -/
def fnExactKindOfUptoRow : OpenClaim := { program := "ythnfdaegcjlldaa", sum := "83d4e2803398bd033e25c950be203131955b671bd0c7bb731a0922edc2104573", func := "loop.example/g01178/laws.FnExactKindOf", spec := "fnExactKindOf", unfollowed := true, recurses := true, apart := false, narrowed := true }
def FnExactKindOfUptoSaid : Prop := fnExactKindOfUptoRow.holds Try.pinned (OpenSpec.upto fnExactKindOfSpec)

/-- 'laws.FnExactUnitsOf', WHERE WHAT IT READS IS OF BULK AT MOST 1048576: true; the input reads as it did. -/
def fnExactUnitsOfUptoRow : OpenClaim := { program := "ythnfdaegcjlldaa", sum := "83d4e2803398bd033e25c950be203131955b671bd0c7bb731a0922edc2104573", func := "loop.example/g01178/laws.FnExactUnitsOf", spec := "fnExactUnitsOf", inPlace := ["math.Float32frombits"], unfollowed := true, recurses := true, apart := false, narrowed := true }
def FnExactUnitsOfUptoSaid : Prop := fnExactUnitsOfUptoRow.holds Try.pinned (OpenSpec.upto fnExactUnitsOfSpec)

/-- 'laws.FnExactPatternOfUnits', WHERE WHAT IT READS IS OF BULK AT MOST 1048576: true; the input reads as it did. -/
def fnExactPatternOfUnitsUptoRow : OpenClaim := { program := "ythnfdaegcjlldaa", sum := "83d4e2803398bd033e25c950be203131955b671bd0c7bb731a0922edc2104573", func := "loop.example/g01178/laws.FnExactPatternOfUnits", spec := "fnExactPatternOfUnits", inPlace := ["math.Float32frombits", "math.Float32bits"], unfollowed := true, recurses := true, apart := false, narrowed := true }
def FnExactPatternOfUnitsUptoSaid : Prop := fnExactPatternOfUnitsUptoRow.holds Try.pinned (OpenSpec.upto fnExactPatternOfUnitsSpec)

/-- 'laws.FnExactNearestBelow', WHERE WHAT IT READS IS OF BULK AT MOST 1048576: true; the input reads as it did. -/
def fnExactNearestBelowUptoRow : OpenClaim := { program := "ythnfdaegcjlldaa", sum := "83d4e2803398bd033e25c950be203131955b671bd0c7bb731a0922edc2104573", func := "loop.example/g01178/laws.FnExactNearestBelow", spec := "fnExactNearestBelow", inPlace := ["math.Float32frombits", "math.Float32bits"], unfollowed := true, recurses := true, apart := false, narrowed := true }
def FnExactNearestBelowUptoSaid : Prop := fnExactNearestBelowUptoRow.holds Try.pinned (OpenSpec.upto fnExactNearestBelowSpec)

/-- 'laws.FnExactNextUp', WHERE WHAT IT READS IS OF BULK AT MOST 1048576: true; the input reads as it did. -/
def fnExactNextUpUptoRow : OpenClaim := { program := "ythnfdaegcjlldaa", sum := "83d4e2803398bd033e25c950be203131955b671bd0c7bb731a0922edc2104573", func := "loop.example/g01178/laws.FnExactNextUp", spec := "fnExactNextUp", unfollowed := true, recurses := true, apart := false, narrowed := true }
def FnExactNextUpUptoSaid : Prop := fnExactNextUpUptoRow.holds Try.pinned (OpenSpec.upto fnExactNextUpSpec)

/-- 'laws.FnExactNextDown', WHERE WHAT IT READS IS OF BULK AT MOST 1048576: true; the input reads as it did. -/
def fnExactNextDownUptoRow : OpenClaim := { program := "ythnfdaegcjlldaa", sum := "83d4e2803398bd033e25c950be203131955b671bd0c7bb731a0922edc2104573", func := "loop.example/g01178/laws.FnExactNextDown", spec := "fnExactNextDown", unfollowed := true, recurses := true, apart := false, narrowed := true }
def FnExactNextDownUptoSaid : Prop := fnExactNextDownUptoRow.holds Try.pinned (OpenSpec.upto fnExactNextDownSpec)

/-- 'laws.FnExactCompareOf', WHERE WHAT IT READS IS OF BULK AT MOST 1048576: true; the input reads as it did. -/
def fnExactCompareOfUptoRow : OpenClaim := { program := "ythnfdaegcjlldaa", sum := "83d4e2803398bd033e25c950be203131955b671bd0c7bb731a0922edc2104573", func := "loop.example/g01178/laws.FnExactCompareOf", spec := "fnExactCompareOf", unfollowed := true, recurses := true, apart := false, narrowed := true }
def FnExactCompareOfUptoSaid : Prop := fnExactCompareOfUptoRow.holds Try.pinned (OpenSpec.upto fnExactCompareOfSpec)

/-- 'laws.FnExactOrderKey', WHERE WHAT IT READS IS OF BULK AT MOST 1048576: true; the input reads as it did. -/
def fnExactOrderKeyUptoRow : OpenClaim := { program := "ythnfdaegcjlldaa", sum := "83d4e2803398bd033e25c950be203131955b671bd0c7bb731a0922edc2104573", func := "loop.example/g01178/laws.FnExactOrderKey", spec := "fnExactOrderKey", unfollowed := true, recurses := true, apart := false, narrowed := true }
def FnExactOrderKeyUptoSaid : Prop := fnExactOrderKeyUptoRow.holds Try.pinned (OpenSpec.upto fnExactOrderKeySpec)

/-- 'laws.FnExactStepUnits', WHERE WHAT IT READS IS OF BULK AT MOST 1048576: true; the input reads as it did. -/
def fnExactStepUnitsUptoRow : OpenClaim := { program := "ythnfdaegcjlldaa", sum := "83d4e2803398bd033e25c950be203131955b671bd0c7bb731a0922edc2104573", func := "loop.example/g01178/laws.FnExactStepUnits", spec := "fnExactStepUnits", unfollowed := true, recurses := true, apart := false, narrowed := true }
def FnExactStepUnitsUptoSaid : Prop := fnExactStepUnitsUptoRow.holds Try.pinned (OpenSpec.upto fnExactStepUnitsSpec)

end Rows
end Go.Proofs.Ythnfdaegcjlldaa
