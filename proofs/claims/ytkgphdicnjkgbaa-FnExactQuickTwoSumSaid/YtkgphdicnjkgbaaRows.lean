/-
  No cell of these rows narrows 'for every input' (looked for: loops, veiled, ifaces, maps, wideKeys, modest, calm, conditions, laid).
  DERIVED. THE GIVEN ROWS OF THIS SEAT. 12 by the template 'for every input the law returns true; each argument reads behind the call as it read before'; 0 by the template 'total and deterministic' (their statements: YtkgphdicnjkgbaaTotals.lean).
  GIVEN WITH THE SEED: the statements are not yours to turn. If you find one false, say at which input.
  Laid BY PROGRAM, IN A SANDBOX (cutbox-rows.mjs): the forced cells as the released guide's own fill.sh prints them over the translation b4709f1b5db04e1f… (all of the seat's roots in one cut). By AI agents, Wed Nov 11 2026. No macro, syntax, notation, axiom, sorry.
-/
import Derived.Test.YtkgphdicnjkgbaaChecked
import GoSem.Claim
import GoSem.ClaimJoined
import GoSem.ClaimMapViews
import Derived.JoinedTies
import Derived.KernelRfl
namespace Go.Proofs.Ytkgphdicnjkgbaa
/- THE CELL 'sum', in the pinned program and in every row, IS THE sha256 OF THE DUMP (.gsa) THAT YtkgphdicnjkgbaaProg.lean LOADS. Nothing in Lean hashes anything: it is a label: what it is worth is what the hold of that sum in a sandbox is worth. -/
noncomputable def Try.pinned : Pinned := { name := "ytkgphdicnjkgbaa", sum := "b4709f1b5db04e1f58770e21b78fb20398a97b31ddadf113c8c0541275f07584", checked := Try.checked }
namespace Rows
def none {H : Type} : Left H := { results := [], args := [] }

/-- 'laws.FnExactFromSingle': WHATEVER THE INPUT: true; the input reads as it did. -/
def fnExactFromSingleSpec : ChangeSpec := { name := "fnExactFromSingle", fn := fun _ => fun
  | [d1, d2, d3] => { results := [.lit (.bool true)], args := [d1, d2, d3] }
  | _ => none }
def fnExactFromSingleRow : OpenClaim := { program := "ytkgphdicnjkgbaa", sum := "b4709f1b5db04e1f58770e21b78fb20398a97b31ddadf113c8c0541275f07584", func := "loop.example/g01178/laws.FnExactFromSingle", spec := "fnExactFromSingle", inPlace := ["math.Float32frombits", "math.Float64bits", "math.Float64frombits"], unfollowed := true, recurses := true, apart := false }
def FnExactFromSingleSaid : Prop := fnExactFromSingleRow.holds Try.pinned (OpenSpec.ofChange fnExactFromSingleSpec)

/-- ITS FALSE NEIGHBOUR: 'it returns false'. Refute it at one input. -/
def fnExactFromSingleWrong : ChangeSpec := { name := "fnExactFromSingle", fn := fun _ => fun
  | [d1, d2, d3] => { results := [.lit (.bool false)], args := [d1, d2, d3] }
  | _ => none }
def FnExactFromSingleWrongFalsely : Prop := fnExactFromSingleRow.holds Try.pinned (OpenSpec.ofChange fnExactFromSingleWrong)

/-- 'laws.FnExactNearSum': WHATEVER THE INPUT: true; the input reads as it did. -/
def fnExactNearSumSpec : ChangeSpec := { name := "fnExactNearSum", fn := fun _ => fun
  | [d1, d2, d3] => { results := [.lit (.bool true)], args := [d1, d2, d3] }
  | _ => none }
def fnExactNearSumRow : OpenClaim := { program := "ytkgphdicnjkgbaa", sum := "b4709f1b5db04e1f58770e21b78fb20398a97b31ddadf113c8c0541275f07584", func := "loop.example/g01178/laws.FnExactNearSum", spec := "fnExactNearSum", inPlace := ["math.Float32frombits", "math.Float32bits", "math.Float64frombits", "math.Float64bits", "math.archTrunc"], unfollowed := true, recurses := true, apart := false }
def FnExactNearSumSaid : Prop := fnExactNearSumRow.holds Try.pinned (OpenSpec.ofChange fnExactNearSumSpec)

/-- ITS FALSE NEIGHBOUR: 'it returns false'. Refute it at one input. -/
def fnExactNearSumWrong : ChangeSpec := { name := "fnExactNearSum", fn := fun _ => fun
  | [d1, d2, d3] => { results := [.lit (.bool false)], args := [d1, d2, d3] }
  | _ => none }
def FnExactNearSumWrongFalsely : Prop := fnExactNearSumRow.holds Try.pinned (OpenSpec.ofChange fnExactNearSumWrong)

/-- 'laws.FnExactTwoSum': WHATEVER THE INPUT: true; the input reads as it did. -/
def fnExactTwoSumSpec : ChangeSpec := { name := "fnExactTwoSum", fn := fun _ => fun
  | [d1, d2, d3] => { results := [.lit (.bool true)], args := [d1, d2, d3] }
  | _ => none }
def fnExactTwoSumRow : OpenClaim := { program := "ytkgphdicnjkgbaa", sum := "b4709f1b5db04e1f58770e21b78fb20398a97b31ddadf113c8c0541275f07584", func := "loop.example/g01178/laws.FnExactTwoSum", spec := "fnExactTwoSum", inPlace := ["math.Float32frombits", "math.Float32bits", "math.Float64frombits", "math.Float64bits", "math.archTrunc"], unfollowed := true, recurses := true, apart := false }
def FnExactTwoSumSaid : Prop := fnExactTwoSumRow.holds Try.pinned (OpenSpec.ofChange fnExactTwoSumSpec)

/-- ITS FALSE NEIGHBOUR: 'it returns false'. Refute it at one input. -/
def fnExactTwoSumWrong : ChangeSpec := { name := "fnExactTwoSum", fn := fun _ => fun
  | [d1, d2, d3] => { results := [.lit (.bool false)], args := [d1, d2, d3] }
  | _ => none }
def FnExactTwoSumWrongFalsely : Prop := fnExactTwoSumRow.holds Try.pinned (OpenSpec.ofChange fnExactTwoSumWrong)

/-- 'laws.FnExactSixSteps': WHATEVER THE INPUT: true; the input reads as it did. -/
def fnExactSixStepsSpec : ChangeSpec := { name := "fnExactSixSteps", fn := fun _ => fun
  | [d1, d2, d3] => { results := [.lit (.bool true)], args := [d1, d2, d3] }
  | _ => none }
def fnExactSixStepsRow : OpenClaim := { program := "ytkgphdicnjkgbaa", sum := "b4709f1b5db04e1f58770e21b78fb20398a97b31ddadf113c8c0541275f07584", func := "loop.example/g01178/laws.FnExactSixSteps", spec := "fnExactSixSteps", inPlace := ["math.Float32frombits", "math.Float32bits", "math.Float64frombits", "math.Float64bits", "math.archTrunc"], unfollowed := true, recurses := true, apart := false }
def FnExactSixStepsSaid : Prop := fnExactSixStepsRow.holds Try.pinned (OpenSpec.ofChange fnExactSixStepsSpec)

/-- ITS FALSE NEIGHBOUR: 'it returns false'. Refute it at one input. -/
def fnExactSixStepsWrong : ChangeSpec := { name := "fnExactSixSteps", fn := fun _ => fun
  | [d1, d2, d3] => { results := [.lit (.bool false)], args := [d1, d2, d3] }
  | _ => none }
def FnExactSixStepsWrongFalsely : Prop := fnExactSixStepsRow.holds Try.pinned (OpenSpec.ofChange fnExactSixStepsWrong)

/-- 'laws.FnExactQuickTwoSum': WHATEVER THE INPUT: true; the input reads as it did. -/
def fnExactQuickTwoSumSpec : ChangeSpec := { name := "fnExactQuickTwoSum", fn := fun _ => fun
  | [d1, d2, d3] => { results := [.lit (.bool true)], args := [d1, d2, d3] }
  | _ => none }
def fnExactQuickTwoSumRow : OpenClaim := { program := "ytkgphdicnjkgbaa", sum := "b4709f1b5db04e1f58770e21b78fb20398a97b31ddadf113c8c0541275f07584", func := "loop.example/g01178/laws.FnExactQuickTwoSum", spec := "fnExactQuickTwoSum", inPlace := ["math.Float32frombits", "math.Float32bits", "math.Float64frombits", "math.Float64bits", "math.archTrunc"], unfollowed := true, recurses := true, apart := false }
def FnExactQuickTwoSumSaid : Prop := fnExactQuickTwoSumRow.holds Try.pinned (OpenSpec.ofChange fnExactQuickTwoSumSpec)

/-- ITS FALSE NEIGHBOUR: 'it returns false'. Refute it at one input. -/
def fnExactQuickTwoSumWrong : ChangeSpec := { name := "fnExactQuickTwoSum", fn := fun _ => fun
  | [d1, d2, d3] => { results := [.lit (.bool false)], args := [d1, d2, d3] }
  | _ => none }
def FnExactQuickTwoSumWrongFalsely : Prop := fnExactQuickTwoSumRow.holds Try.pinned (OpenSpec.ofChange fnExactQuickTwoSumWrong)

/-- 'laws.FnExactTwoProduct': WHATEVER THE INPUT: true; the input reads as it did. -/
def fnExactTwoProductSpec : ChangeSpec := { name := "fnExactTwoProduct", fn := fun _ => fun
  | [d1, d2, d3] => { results := [.lit (.bool true)], args := [d1, d2, d3] }
  | _ => none }
def fnExactTwoProductRow : OpenClaim := { program := "ytkgphdicnjkgbaa", sum := "b4709f1b5db04e1f58770e21b78fb20398a97b31ddadf113c8c0541275f07584", func := "loop.example/g01178/laws.FnExactTwoProduct", spec := "fnExactTwoProduct", inPlace := ["math.Float32frombits", "math.Float64bits", "math.Float64frombits", "math.Float32bits", "math.archTrunc"], unfollowed := true, recurses := true, apart := false }
def FnExactTwoProductSaid : Prop := fnExactTwoProductRow.holds Try.pinned (OpenSpec.ofChange fnExactTwoProductSpec)

/-- ITS FALSE NEIGHBOUR: 'it returns false'. Refute it at one input. -/
def fnExactTwoProductWrong : ChangeSpec := { name := "fnExactTwoProduct", fn := fun _ => fun
  | [d1, d2, d3] => { results := [.lit (.bool false)], args := [d1, d2, d3] }
  | _ => none }
def FnExactTwoProductWrongFalsely : Prop := fnExactTwoProductRow.holds Try.pinned (OpenSpec.ofChange fnExactTwoProductWrong)

/-- 'laws.FnExactIsNear': WHATEVER THE INPUT: true; the input reads as it did. -/
def fnExactIsNearSpec : ChangeSpec := { name := "fnExactIsNear", fn := fun _ => fun
  | [d1, d2, d3] => { results := [.lit (.bool true)], args := [d1, d2, d3] }
  | _ => none }
def fnExactIsNearRow : OpenClaim := { program := "ytkgphdicnjkgbaa", sum := "b4709f1b5db04e1f58770e21b78fb20398a97b31ddadf113c8c0541275f07584", func := "loop.example/g01178/laws.FnExactIsNear", spec := "fnExactIsNear", inPlace := ["math.Float32frombits"], unfollowed := true, recurses := true, apart := false }
def FnExactIsNearSaid : Prop := fnExactIsNearRow.holds Try.pinned (OpenSpec.ofChange fnExactIsNearSpec)

/-- ITS FALSE NEIGHBOUR: 'it returns false'. Refute it at one input. -/
def fnExactIsNearWrong : ChangeSpec := { name := "fnExactIsNear", fn := fun _ => fun
  | [d1, d2, d3] => { results := [.lit (.bool false)], args := [d1, d2, d3] }
  | _ => none }
def FnExactIsNearWrongFalsely : Prop := fnExactIsNearRow.holds Try.pinned (OpenSpec.ofChange fnExactIsNearWrong)

/-- 'laws.FnExactSumInOrder': WHATEVER THE INPUT: true; the input reads as it did. -/
def fnExactSumInOrderSpec : ChangeSpec := { name := "fnExactSumInOrder", fn := fun _ => fun
  | [d1, d2] => { results := [.lit (.bool true)], args := [d1, d2] }
  | _ => none }
def fnExactSumInOrderRow : OpenClaim := { program := "ytkgphdicnjkgbaa", sum := "b4709f1b5db04e1f58770e21b78fb20398a97b31ddadf113c8c0541275f07584", func := "loop.example/g01178/laws.FnExactSumInOrder", spec := "fnExactSumInOrder", inPlace := ["math.Float32frombits", "math.Float32bits", "math.Float64frombits", "math.Float64bits", "math.archTrunc"], unfollowed := true, recurses := true, apart := false }
def FnExactSumInOrderSaid : Prop := fnExactSumInOrderRow.holds Try.pinned (OpenSpec.ofChange fnExactSumInOrderSpec)

/-- ITS FALSE NEIGHBOUR: 'it returns false'. Refute it at one input. -/
def fnExactSumInOrderWrong : ChangeSpec := { name := "fnExactSumInOrder", fn := fun _ => fun
  | [d1, d2] => { results := [.lit (.bool false)], args := [d1, d2] }
  | _ => none }
def FnExactSumInOrderWrongFalsely : Prop := fnExactSumInOrderRow.holds Try.pinned (OpenSpec.ofChange fnExactSumInOrderWrong)

/-- 'laws.FnExactCompensatedSum': WHATEVER THE INPUT: true; the input reads as it did. -/
def fnExactCompensatedSumSpec : ChangeSpec := { name := "fnExactCompensatedSum", fn := fun _ => fun
  | [d1, d2] => { results := [.lit (.bool true)], args := [d1, d2] }
  | _ => none }
def fnExactCompensatedSumRow : OpenClaim := { program := "ytkgphdicnjkgbaa", sum := "b4709f1b5db04e1f58770e21b78fb20398a97b31ddadf113c8c0541275f07584", func := "loop.example/g01178/laws.FnExactCompensatedSum", spec := "fnExactCompensatedSum", inPlace := ["math.Float32frombits", "math.Float32bits", "math.Float64frombits", "math.Float64bits", "math.archTrunc"], unfollowed := true, recurses := true, apart := false }
def FnExactCompensatedSumSaid : Prop := fnExactCompensatedSumRow.holds Try.pinned (OpenSpec.ofChange fnExactCompensatedSumSpec)

/-- ITS FALSE NEIGHBOUR: 'it returns false'. Refute it at one input. -/
def fnExactCompensatedSumWrong : ChangeSpec := { name := "fnExactCompensatedSum", fn := fun _ => fun
  | [d1, d2] => { results := [.lit (.bool false)], args := [d1, d2] }
  | _ => none }
def FnExactCompensatedSumWrongFalsely : Prop := fnExactCompensatedSumRow.holds Try.pinned (OpenSpec.ofChange fnExactCompensatedSumWrong)

/-- 'laws.FnExactGrowExpansion': WHATEVER THE INPUT: true; the input reads as it did. -/
def fnExactGrowExpansionSpec : ChangeSpec := { name := "fnExactGrowExpansion", fn := fun _ => fun
  | [d1, d2, d3] => { results := [.lit (.bool true)], args := [d1, d2, d3] }
  | _ => none }
def fnExactGrowExpansionRow : OpenClaim := { program := "ytkgphdicnjkgbaa", sum := "b4709f1b5db04e1f58770e21b78fb20398a97b31ddadf113c8c0541275f07584", func := "loop.example/g01178/laws.FnExactGrowExpansion", spec := "fnExactGrowExpansion", inPlace := ["math.Float32frombits", "math.Float32bits", "math.Float64frombits", "math.Float64bits", "math.archTrunc"], unfollowed := true, recurses := true, apart := false }
def FnExactGrowExpansionSaid : Prop := fnExactGrowExpansionRow.holds Try.pinned (OpenSpec.ofChange fnExactGrowExpansionSpec)

/-- ITS FALSE NEIGHBOUR: 'it returns false'. Refute it at one input. -/
def fnExactGrowExpansionWrong : ChangeSpec := { name := "fnExactGrowExpansion", fn := fun _ => fun
  | [d1, d2, d3] => { results := [.lit (.bool false)], args := [d1, d2, d3] }
  | _ => none }
def FnExactGrowExpansionWrongFalsely : Prop := fnExactGrowExpansionRow.holds Try.pinned (OpenSpec.ofChange fnExactGrowExpansionWrong)

/-- 'laws.FnExactExpansionOf': WHATEVER THE INPUT: true; the input reads as it did. -/
def fnExactExpansionOfSpec : ChangeSpec := { name := "fnExactExpansionOf", fn := fun _ => fun
  | [d1, d2] => { results := [.lit (.bool true)], args := [d1, d2] }
  | _ => none }
def fnExactExpansionOfRow : OpenClaim := { program := "ytkgphdicnjkgbaa", sum := "b4709f1b5db04e1f58770e21b78fb20398a97b31ddadf113c8c0541275f07584", func := "loop.example/g01178/laws.FnExactExpansionOf", spec := "fnExactExpansionOf", inPlace := ["math.Float32frombits", "math.Float32bits", "math.Float64frombits", "math.Float64bits", "math.archTrunc"], unfollowed := true, recurses := true, apart := false }
def FnExactExpansionOfSaid : Prop := fnExactExpansionOfRow.holds Try.pinned (OpenSpec.ofChange fnExactExpansionOfSpec)

/-- ITS FALSE NEIGHBOUR: 'it returns false'. Refute it at one input. -/
def fnExactExpansionOfWrong : ChangeSpec := { name := "fnExactExpansionOf", fn := fun _ => fun
  | [d1, d2] => { results := [.lit (.bool false)], args := [d1, d2] }
  | _ => none }
def FnExactExpansionOfWrongFalsely : Prop := fnExactExpansionOfRow.holds Try.pinned (OpenSpec.ofChange fnExactExpansionOfWrong)

/-- 'laws.FnExactSpreadOfOrders': WHATEVER THE INPUT: true; the input reads as it did. -/
def fnExactSpreadOfOrdersSpec : ChangeSpec := { name := "fnExactSpreadOfOrders", fn := fun _ => fun
  | [d1, d2] => { results := [.lit (.bool true)], args := [d1, d2] }
  | _ => none }
def fnExactSpreadOfOrdersRow : OpenClaim := { program := "ytkgphdicnjkgbaa", sum := "b4709f1b5db04e1f58770e21b78fb20398a97b31ddadf113c8c0541275f07584", func := "loop.example/g01178/laws.FnExactSpreadOfOrders", spec := "fnExactSpreadOfOrders", inPlace := ["math.Float32frombits", "math.Float64frombits", "math.Float32bits", "math.Float64bits", "math.archTrunc"], unfollowed := true, recurses := true, apart := false }
def FnExactSpreadOfOrdersSaid : Prop := fnExactSpreadOfOrdersRow.holds Try.pinned (OpenSpec.ofChange fnExactSpreadOfOrdersSpec)

/-- ITS FALSE NEIGHBOUR: 'it returns false'. Refute it at one input. -/
def fnExactSpreadOfOrdersWrong : ChangeSpec := { name := "fnExactSpreadOfOrders", fn := fun _ => fun
  | [d1, d2] => { results := [.lit (.bool false)], args := [d1, d2] }
  | _ => none }
def FnExactSpreadOfOrdersWrongFalsely : Prop := fnExactSpreadOfOrdersRow.holds Try.pinned (OpenSpec.ofChange fnExactSpreadOfOrdersWrong)

/- THE SECOND FORM. 'bulk': how many values and letters a reading holds, each counted each time it is reached (what is shared counts as often as it is met; a slice's spare places count too). A statement '..UptoSaid' is the law's where the arguments, and the package variables that the reading takes, are together of bulk at most 1048576: NARROWER than '..Said'. Prove '..Said' where nothing that the law and all that it calls make is longer than what came in: it says more and counts as full. Else prove '..UptoSaid'. A law counts once. -/
mutual
def uptoBulk {H : Type} : DataW H → Nat
  | .lit (.string bytes) => bytes.length + 1
  | .lit _ => 1
  | .nil => 1
  | .ptr d => uptoBulk d + 1
  | .slice elems spare => uptoBulkAll elems + uptoBulkAll spare + 1
  | .agg parts => uptoBulkAll parts + 1
  | .iface _ d => uptoBulk d + 1
  | .map entries => uptoBulkEntries entries + 1
  | .held _ => 1
def uptoBulkAll {H : Type} : List (DataW H) → Nat
  | [] => 0
  | d :: r => uptoBulk d + uptoBulkAll r
def uptoBulkEntries {H : Type} : List (Lit × DataW H) → Nat
  | [] => 0
  | x :: r => uptoBulkEntry x + uptoBulkEntries r
def uptoBulkEntry {H : Type} : Lit × DataW H → Nat
  | (.string bytes, d) => bytes.length + uptoBulk d + 1
  | (_, d) => uptoBulk d + 1
 end
def uptoSmall : (H : Type) → List (DataW H) → Bool := fun _ ds => decide (uptoBulkAll ds ≤ 1048576)
def OpenSpec.upto (s : _root_.Go.ChangeSpec) : _root_.Go.OpenSpec := { _root_.Go.OpenSpec.ofChange s with cond := some uptoSmall }

/-- 'laws.FnExactFromSingle', WHERE WHAT IT READS IS OF BULK AT MOST 1048576: true; the input reads as it did. -/
def fnExactFromSingleUptoRow : OpenClaim := { program := "ytkgphdicnjkgbaa", sum := "b4709f1b5db04e1f58770e21b78fb20398a97b31ddadf113c8c0541275f07584", func := "loop.example/g01178/laws.FnExactFromSingle", spec := "fnExactFromSingle", inPlace := ["math.Float32frombits", "math.Float64bits", "math.Float64frombits"], unfollowed := true, recurses := true, apart := false, narrowed := true }
def FnExactFromSingleUptoSaid : Prop := fnExactFromSingleUptoRow.holds Try.pinned (OpenSpec.upto fnExactFromSingleSpec)

/-- 'laws.FnExactNearSum', WHERE WHAT IT READS IS OF BULK AT MOST 1048576: true; the input reads as it did. -/
def fnExactNearSumUptoRow : OpenClaim := { program := "ytkgphdicnjkgbaa", sum := "b4709f1b5db04e1f58770e21b78fb20398a97b31ddadf113c8c0541275f07584", func := "loop.example/g01178/laws.FnExactNearSum", spec := "fnExactNearSum", inPlace := ["math.Float32frombits", "math.Float32bits", "math.Float64frombits", "math.Float64bits", "math.archTrunc"], unfollowed := true, recurses := true, apart := false, narrowed := true }
def FnExactNearSumUptoSaid : Prop := fnExactNearSumUptoRow.holds Try.pinned (OpenSpec.upto fnExactNearSumSpec)

/-- 'laws.FnExactTwoSum', WHERE WHAT IT READS IS OF BULK AT MOST 1048576: true; the input reads as it did. -/
def fnExactTwoSumUptoRow : OpenClaim := { program := "ytkgphdicnjkgbaa", sum := "b4709f1b5db04e1f58770e21b78fb20398a97b31ddadf113c8c0541275f07584", func := "loop.example/g01178/laws.FnExactTwoSum", spec := "fnExactTwoSum", inPlace := ["math.Float32frombits", "math.Float32bits", "math.Float64frombits", "math.Float64bits", "math.archTrunc"], unfollowed := true, recurses := true, apart := false, narrowed := true }
def FnExactTwoSumUptoSaid : Prop := fnExactTwoSumUptoRow.holds Try.pinned (OpenSpec.upto fnExactTwoSumSpec)

/-- 'laws.FnExactSixSteps', WHERE WHAT IT READS IS OF BULK AT MOST 1048576: true; the input reads as it did. -/
def fnExactSixStepsUptoRow : OpenClaim := { program := "ytkgphdicnjkgbaa", sum := "b4709f1b5db04e1f58770e21b78fb20398a97b31ddadf113c8c0541275f07584", func := "loop.example/g01178/laws.FnExactSixSteps", spec := "fnExactSixSteps", inPlace := ["math.Float32frombits", "math.Float32bits", "math.Float64frombits", "math.Float64bits", "math.archTrunc"], unfollowed := true, recurses := true, apart := false, narrowed := true }
def FnExactSixStepsUptoSaid : Prop := fnExactSixStepsUptoRow.holds Try.pinned (OpenSpec.upto fnExactSixStepsSpec)

/-- 'laws.FnExactQuickTwoSum', WHERE WHAT IT READS IS OF BULK AT MOST 1048576: true; the input reads as it did. -/
def fnExactQuickTwoSumUptoRow : OpenClaim := { program := "ytkgphdicnjkgbaa", sum := "b4709f1b5db04e1f58770e21b78fb20398a97b31ddadf113c8c0541275f07584", func := "loop.example/g01178/laws.FnExactQuickTwoSum", spec := "fnExactQuickTwoSum", inPlace := ["math.Float32frombits", "math.Float32bits", "math.Float64frombits", "math.Float64bits", "math.archTrunc"], unfollowed := true, recurses := true, apart := false, narrowed := true }
def FnExactQuickTwoSumUptoSaid : Prop := fnExactQuickTwoSumUptoRow.holds Try.pinned (OpenSpec.upto fnExactQuickTwoSumSpec)

/-- 'laws.FnExactTwoProduct', WHERE WHAT IT READS IS OF BULK AT MOST 1048576: true; the input reads as it did. -/
def fnExactTwoProductUptoRow : OpenClaim := { program := "ytkgphdicnjkgbaa", sum := "b4709f1b5db04e1f58770e21b78fb20398a97b31ddadf113c8c0541275f07584", func := "loop.example/g01178/laws.FnExactTwoProduct", spec := "fnExactTwoProduct", inPlace := ["math.Float32frombits", "math.Float64bits", "math.Float64frombits", "math.Float32bits", "math.archTrunc"], unfollowed := true, recurses := true, apart := false, narrowed := true }
def FnExactTwoProductUptoSaid : Prop := fnExactTwoProductUptoRow.holds Try.pinned (OpenSpec.upto fnExactTwoProductSpec)

/-- 'laws.FnExactIsNear', WHERE WHAT IT READS IS OF BULK AT MOST 1048576: true; the input reads as it did. -/
def fnExactIsNearUptoRow : OpenClaim := { program := "ytkgphdicnjkgbaa", sum := "b4709f1b5db04e1f58770e21b78fb20398a97b31ddadf113c8c0541275f07584", func := "loop.example/g01178/laws.FnExactIsNear", spec := "fnExactIsNear", inPlace := ["math.Float32frombits"], unfollowed := true, recurses := true, apart := false, narrowed := true }
def FnExactIsNearUptoSaid : Prop := fnExactIsNearUptoRow.holds Try.pinned (OpenSpec.upto fnExactIsNearSpec)

/-- 'laws.FnExactSumInOrder', WHERE WHAT IT READS IS OF BULK AT MOST 1048576: true; the input reads as it did. -/
def fnExactSumInOrderUptoRow : OpenClaim := { program := "ytkgphdicnjkgbaa", sum := "b4709f1b5db04e1f58770e21b78fb20398a97b31ddadf113c8c0541275f07584", func := "loop.example/g01178/laws.FnExactSumInOrder", spec := "fnExactSumInOrder", inPlace := ["math.Float32frombits", "math.Float32bits", "math.Float64frombits", "math.Float64bits", "math.archTrunc"], unfollowed := true, recurses := true, apart := false, narrowed := true }
def FnExactSumInOrderUptoSaid : Prop := fnExactSumInOrderUptoRow.holds Try.pinned (OpenSpec.upto fnExactSumInOrderSpec)

/-- 'laws.FnExactCompensatedSum', WHERE WHAT IT READS IS OF BULK AT MOST 1048576: true; the input reads as it did. -/
def fnExactCompensatedSumUptoRow : OpenClaim := { program := "ytkgphdicnjkgbaa", sum := "b4709f1b5db04e1f58770e21b78fb20398a97b31ddadf113c8c0541275f07584", func := "loop.example/g01178/laws.FnExactCompensatedSum", spec := "fnExactCompensatedSum", inPlace := ["math.Float32frombits", "math.Float32bits", "math.Float64frombits", "math.Float64bits", "math.archTrunc"], unfollowed := true, recurses := true, apart := false, narrowed := true }
def FnExactCompensatedSumUptoSaid : Prop := fnExactCompensatedSumUptoRow.holds Try.pinned (OpenSpec.upto fnExactCompensatedSumSpec)

/-- 'laws.FnExactGrowExpansion', WHERE WHAT IT READS IS OF BULK AT MOST 1048576: true; the input reads as it did. -/
def fnExactGrowExpansionUptoRow : OpenClaim := { program := "ytkgphdicnjkgbaa", sum := "b4709f1b5db04e1f58770e21b78fb20398a97b31ddadf113c8c0541275f07584", func := "loop.example/g01178/laws.FnExactGrowExpansion", spec := "fnExactGrowExpansion", inPlace := ["math.Float32frombits", "math.Float32bits", "math.Float64frombits", "math.Float64bits", "math.archTrunc"], unfollowed := true, recurses := true, apart := false, narrowed := true }
def FnExactGrowExpansionUptoSaid : Prop := fnExactGrowExpansionUptoRow.holds Try.pinned (OpenSpec.upto fnExactGrowExpansionSpec)

/-- 'laws.FnExactExpansionOf', WHERE WHAT IT READS IS OF BULK AT MOST 1048576: true; the input reads as it did. -/
def fnExactExpansionOfUptoRow : OpenClaim := { program := "ytkgphdicnjkgbaa", sum := "b4709f1b5db04e1f58770e21b78fb20398a97b31ddadf113c8c0541275f07584", func := "loop.example/g01178/laws.FnExactExpansionOf", spec := "fnExactExpansionOf", inPlace := ["math.Float32frombits", "math.Float32bits", "math.Float64frombits", "math.Float64bits", "math.archTrunc"], unfollowed := true, recurses := true, apart := false, narrowed := true }
def FnExactExpansionOfUptoSaid : Prop := fnExactExpansionOfUptoRow.holds Try.pinned (OpenSpec.upto fnExactExpansionOfSpec)

/-- 'laws.FnExactSpreadOfOrders', WHERE WHAT IT READS IS OF BULK AT MOST 1048576: true; the input reads as it did. -/
def fnExactSpreadOfOrdersUptoRow : OpenClaim := { program := "ytkgphdicnjkgbaa", sum := "b4709f1b5db04e1f58770e21b78fb20398a97b31ddadf113c8c0541275f07584", func := "loop.example/g01178/laws.FnExactSpreadOfOrders", spec := "fnExactSpreadOfOrders", inPlace := ["math.Float32frombits", "math.Float64frombits", "math.Float32bits", "math.Float64bits", "math.archTrunc"], unfollowed := true, recurses := true, apart := false, narrowed := true }
def FnExactSpreadOfOrdersUptoSaid : Prop := fnExactSpreadOfOrdersUptoRow.holds Try.pinned (OpenSpec.upto fnExactSpreadOfOrdersSpec)

end Rows
end Go.Proofs.Ytkgphdicnjkgbaa
