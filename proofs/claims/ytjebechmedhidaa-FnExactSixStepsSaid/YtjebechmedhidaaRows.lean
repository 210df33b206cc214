/-
  No cell of these rows narrows 'for every input' (looked for: loops, veiled, ifaces, maps, wideKeys, modest, calm, conditions, laid).
  DERIVED. THE GIVEN ROWS OF THIS SEAT. 11 by the template 'for every input the law returns true; each argument reads behind the call as it read before'; 0 by the template 'total and deterministic' (their statements: YtjebechmedhidaaTotals.lean).
  GIVEN WITH THE SEED: the statements are not yours to turn. If you find one false, say at which input.
  Laid BY PROGRAM, IN A SANDBOX (cutbox-rows.mjs): the forced cells as the released guide's own fill.sh prints them over the translation 280dc98b62a715ab… (all of the seat's roots in one cut). By AI agents, Wed Nov 11 2026. No macro, syntax, notation, axiom, sorry.
-/
import Derived.Test.YtjebechmedhidaaChecked
import GoSem.Claim
import GoSem.ClaimJoined
import GoSem.ClaimMapViews
import Derived.JoinedTies
import Derived.KernelRfl
namespace Go.Proofs.Ytjebechmedhidaa
/- THE CELL 'sum', in the pinned program and in every row, IS THE sha256 OF THE DUMP (.gsa) THAT YtjebechmedhidaaProg.lean LOADS. Nothing in Lean hashes anything: it is a label: what it is worth is what the hold of that sum in a sandbox is worth. -/
noncomputable def Try.pinned : Pinned := { name := "ytjebechmedhidaa", sum := "280dc98b62a715ab0df1b6dad93db8eac24c8bcd54c7f3519cd32c2086ad32dd", checked := Try.checked }
namespace Rows
def none {H : Type} : Left H := { results := [], args := [] }

/-- 'laws.FnExactFromSingle': WHATEVER THE INPUT: true; the input reads as it did. -/
def fnExactFromSingleSpec : ChangeSpec := { name := "fnExactFromSingle", fn := fun _ => fun
  | [d1, d2, d3] => { results := [.lit (.bool true)], args := [d1, d2, d3] }
  | _ => none }
def fnExactFromSingleRow : OpenClaim := { program := "ytjebechmedhidaa", sum := "280dc98b62a715ab0df1b6dad93db8eac24c8bcd54c7f3519cd32c2086ad32dd", func := "loop.example/g01178/laws.FnExactFromSingle", spec := "fnExactFromSingle", inPlace := ["math.Float32frombits", "math.Float64bits", "math.Float64frombits"], unfollowed := true, recurses := true, apart := false }
def FnExactFromSingleSaid : Prop := fnExactFromSingleRow.holds Try.pinned (OpenSpec.ofChange fnExactFromSingleSpec)

/-- ITS FALSE NEIGHBOUR: 'it returns false'. Refute it at one input. -/
def fnExactFromSingleWrong : ChangeSpec := { name := "fnExactFromSingle", fn := fun _ => fun
  | [d1, d2, d3] => { results := [.lit (.bool false)], args := [d1, d2, d3] }
  | _ => none }
def FnExactFromSingleWrongFalsely : Prop := fnExactFromSingleRow.holds Try.pinned (OpenSpec.ofChange fnExactFromSingleWrong)

/-- 'laws.FnExactSixSteps': WHATEVER THE INPUT: true; the input reads as it did. -/
def fnExactSixStepsSpec : ChangeSpec := { name := "fnExactSixSteps", fn := fun _ => fun
  | [d1, d2, d3] => { results := [.lit (.bool true)], args := [d1, d2, d3] }
  | _ => none }
def fnExactSixStepsRow : OpenClaim := { program := "ytjebechmedhidaa", sum := "280dc98b62a715ab0df1b6dad93db8eac24c8bcd54c7f3519cd32c2086ad32dd", func := "loop.example/g01178/laws.FnExactSixSteps", spec := "fnExactSixSteps", inPlace := ["math.Float32frombits", "math.Float32bits", "math.Float64frombits", "math.Float64bits", "math.archTrunc"], unfollowed := true, recurses := true, apart := false }
def FnExactSixStepsSaid : Prop := fnExactSixStepsRow.holds Try.pinned (OpenSpec.ofChange fnExactSixStepsSpec)

/-- ITS FALSE NEIGHBOUR: 'it returns false'. Refute it at one input. -/
def fnExactSixStepsWrong : ChangeSpec := { name := "fnExactSixSteps", fn := fun _ => fun
  | [d1, d2, d3] => { results := [.lit (.bool false)], args := [d1, d2, d3] }
  | _ => none }
def FnExactSixStepsWrongFalsely : Prop := fnExactSixStepsRow.holds Try.pinned (OpenSpec.ofChange fnExactSixStepsWrong)

/-- 'laws.FnExactTwoProduct': WHATEVER THE INPUT: true; the input reads as it did. -/
def fnExactTwoProductSpec : ChangeSpec := { name := "fnExactTwoProduct", fn := fun _ => fun
  | [d1, d2, d3] => { results := [.lit (.bool true)], args := [d1, d2, d3] }
  | _ => none }
def fnExactTwoProductRow : OpenClaim := { program := "ytjebechmedhidaa", sum := "280dc98b62a715ab0df1b6dad93db8eac24c8bcd54c7f3519cd32c2086ad32dd", func := "loop.example/g01178/laws.FnExactTwoProduct", spec := "fnExactTwoProduct", inPlace := ["math.Float32frombits", "math.Float64bits", "math.Float64frombits", "math.Float32bits", "math.archTrunc"], unfollowed := true, recurses := true, apart := false }
def FnExactTwoProductSaid : Prop := fnExactTwoProductRow.holds Try.pinned (OpenSpec.ofChange fnExactTwoProductSpec)

/-- ITS FALSE NEIGHBOUR: 'it returns false'. Refute it at one input. -/
def fnExactTwoProductWrong : ChangeSpec := { name := "fnExactTwoProduct", fn := fun _ => fun
  | [d1, d2, d3] => { results := [.lit (.bool false)], args := [d1, d2, d3] }
  | _ => none }
def FnExactTwoProductWrongFalsely : Prop := fnExactTwoProductRow.holds Try.pinned (OpenSpec.ofChange fnExactTwoProductWrong)

/-- 'laws.FnExactSumInOrder': WHATEVER THE INPUT: true; the input reads as it did. -/
def fnExactSumInOrderSpec : ChangeSpec := { name := "fnExactSumInOrder", fn := fun _ => fun
  | [d1, d2] => { results := [.lit (.bool true)], args := [d1, d2] }
  | _ => none }
def fnExactSumInOrderRow : OpenClaim := { program := "ytjebechmedhidaa", sum := "280dc98b62a715ab0df1b6dad93db8eac24c8bcd54c7f3519cd32c2086ad32dd", func := "loop.example/g01178/laws.FnExactSumInOrder", spec := "fnExactSumInOrder", inPlace := ["math.Float32frombits", "math.Float32bits", "math.Float64frombits", "math.Float64bits", "math.archTrunc"], unfollowed := true, recurses := true, apart := false }
def FnExactSumInOrderSaid : Prop := fnExactSumInOrderRow.holds Try.pinned (OpenSpec.ofChange fnExactSumInOrderSpec)

/-- ITS FALSE NEIGHBOUR: 'it returns false'. Refute it at one input. -/
def fnExactSumInOrderWrong : ChangeSpec := { name := "fnExactSumInOrder", fn := fun _ => fun
  | [d1, d2] => { results := [.lit (.bool false)], args := [d1, d2] }
  | _ => none }
def FnExactSumInOrderWrongFalsely : Prop := fnExactSumInOrderRow.holds Try.pinned (OpenSpec.ofChange fnExactSumInOrderWrong)

/-- 'laws.FnExactCompensatedSum': WHATEVER THE INPUT: true; the input reads as it did. -/
def fnExactCompensatedSumSpec : ChangeSpec := { name := "fnExactCompensatedSum", fn := fun _ => fun
  | [d1, d2] => { results := [.lit (.bool true)], args := [d1, d2] }
  | _ => none }
def fnExactCompensatedSumRow : OpenClaim := { program := "ytjebechmedhidaa", sum := "280dc98b62a715ab0df1b6dad93db8eac24c8bcd54c7f3519cd32c2086ad32dd", func := "loop.example/g01178/laws.FnExactCompensatedSum", spec := "fnExactCompensatedSum", inPlace := ["math.Float32frombits", "math.Float32bits", "math.Float64frombits", "math.Float64bits", "math.archTrunc"], unfollowed := true, recurses := true, apart := false }
def FnExactCompensatedSumSaid : Prop := fnExactCompensatedSumRow.holds Try.pinned (OpenSpec.ofChange fnExactCompensatedSumSpec)

/-- ITS FALSE NEIGHBOUR: 'it returns false'. Refute it at one input. -/
def fnExactCompensatedSumWrong : ChangeSpec := { name := "fnExactCompensatedSum", fn := fun _ => fun
  | [d1, d2] => { results := [.lit (.bool false)], args := [d1, d2] }
  | _ => none }
def FnExactCompensatedSumWrongFalsely : Prop := fnExactCompensatedSumRow.holds Try.pinned (OpenSpec.ofChange fnExactCompensatedSumWrong)

/-- 'laws.FnExactGrowExpansion': WHATEVER THE INPUT: true; the input reads as it did. -/
def fnExactGrowExpansionSpec : ChangeSpec := { name := "fnExactGrowExpansion", fn := fun _ => fun
  | [d1, d2, d3] => { results := [.lit (.bool true)], args := [d1, d2, d3] }
  | _ => none }
def fnExactGrowExpansionRow : OpenClaim := { program := "ytjebechmedhidaa", sum := "280dc98b62a715ab0df1b6dad93db8eac24c8bcd54c7f3519cd32c2086ad32dd", func := "loop.example/g01178/laws.FnExactGrowExpansion", spec := "fnExactGrowExpansion", inPlace := ["math.Float32frombits", "math.Float32bits", "math.Float64frombits", "math.Float64bits", "math.archTrunc"], unfollowed := true, recurses := true, apart := false }
def FnExactGrowExpansionSaid : Prop := fnExactGrowExpansionRow.holds Try.pinned (OpenSpec.ofChange fnExactGrowExpansionSpec)

/-- ITS FALSE NEIGHBOUR: 'it returns false'. Refute it at one input. -/
def fnExactGrowExpansionWrong : ChangeSpec := { name := "fnExactGrowExpansion", fn := fun _ => fun
  | [d1, d2, d3] => { results := [.lit (.bool false)], args := [d1, d2, d3] }
  | _ => none }
def FnExactGrowExpansionWrongFalsely : Prop := fnExactGrowExpansionRow.holds Try.pinned (OpenSpec.ofChange fnExactGrowExpansionWrong)

/-- 'laws.FnExactExpansionOf': WHATEVER THE INPUT: true; the input reads as it did. -/
def fnExactExpansionOfSpec : ChangeSpec := { name := "fnExactExpansionOf", fn := fun _ => fun
  | [d1, d2] => { results := [.lit (.bool true)], args := [d1, d2] }
  | _ => none }
def fnExactExpansionOfRow : OpenClaim := { program := "ytjebechmedhidaa", sum := "280dc98b62a715ab0df1b6dad93db8eac24c8bcd54c7f3519cd32c2086ad32dd", func := "loop.example/g01178/laws.FnExactExpansionOf", spec := "fnExactExpansionOf", inPlace := ["math.Float32frombits", "math.Float32bits", "math.Float64frombits", "math.Float64bits", "math.archTrunc"], unfollowed := true, recurses := true, apart := false }
def FnExactExpansionOfSaid : Prop := fnExactExpansionOfRow.holds Try.pinned (OpenSpec.ofChange fnExactExpansionOfSpec)

/-- ITS FALSE NEIGHBOUR: 'it returns false'. Refute it at one input. -/
def fnExactExpansionOfWrong : ChangeSpec := { name := "fnExactExpansionOf", fn := fun _ => fun
  | [d1, d2] => { results := [.lit (.bool false)], args := [d1, d2] }
  | _ => none }
def FnExactExpansionOfWrongFalsely : Prop := fnExactExpansionOfRow.holds Try.pinned (OpenSpec.ofChange fnExactExpansionOfWrong)

/-- 'laws.FnExactSpreadOfOrders': WHATEVER THE INPUT: true; the input reads as it did. -/
def fnExactSpreadOfOrdersSpec : ChangeSpec := { name := "fnExactSpreadOfOrders", fn := fun _ => fun
  | [d1, d2] => { results := [.lit (.bool true)], args := [d1, d2] }
  | _ => none }
def fnExactSpreadOfOrdersRow : OpenClaim := { program := "ytjebechmedhidaa", sum := "280dc98b62a715ab0df1b6dad93db8eac24c8bcd54c7f3519cd32c2086ad32dd", func := "loop.example/g01178/laws.FnExactSpreadOfOrders", spec := "fnExactSpreadOfOrders", inPlace := ["math.Float32frombits", "math.Float64frombits", "math.Float32bits", "math.Float64bits", "math.archTrunc"], unfollowed := true, recurses := true, apart := false }
def FnExactSpreadOfOrdersSaid : Prop := fnExactSpreadOfOrdersRow.holds Try.pinned (OpenSpec.ofChange fnExactSpreadOfOrdersSpec)

/-- ITS FALSE NEIGHBOUR: 'it returns false'. Refute it at one input. -/
def fnExactSpreadOfOrdersWrong : ChangeSpec := { name := "fnExactSpreadOfOrders", fn := fun _ => fun
  | [d1, d2] => { results := [.lit (.bool false)], args := [d1, d2] }
  | _ => none }
def FnExactSpreadOfOrdersWrongFalsely : Prop := fnExactSpreadOfOrdersRow.holds Try.pinned (OpenSpec.ofChange fnExactSpreadOfOrdersWrong)

/-- 'laws.FnExactRoundFraction': WHATEVER THE INPUT: true; the input reads as it did. -/
def fnExactRoundFractionSpec : ChangeSpec := { name := "fnExactRoundFraction", fn := fun _ => fun
  | [d1, d2, d3, d4] => { results := [.lit (.bool true)], args := [d1, d2, d3, d4] }
  | _ => none }
def fnExactRoundFractionRow : OpenClaim := { program := "ytjebechmedhidaa", sum := "280dc98b62a715ab0df1b6dad93db8eac24c8bcd54c7f3519cd32c2086ad32dd", func := "loop.example/g01178/laws.FnExactRoundFraction", spec := "fnExactRoundFraction", inPlace := ["math.Float64bits", "math.Float64frombits", "math.Float32frombits", "math.Float32bits"], unfollowed := true, recurses := true, apart := false }
def FnExactRoundFractionSaid : Prop := fnExactRoundFractionRow.holds Try.pinned (OpenSpec.ofChange fnExactRoundFractionSpec)

/-- ITS FALSE NEIGHBOUR: 'it returns false'. Refute it at one input. -/
def fnExactRoundFractionWrong : ChangeSpec := { name := "fnExactRoundFraction", fn := fun _ => fun
  | [d1, d2, d3, d4] => { results := [.lit (.bool false)], args := [d1, d2, d3, d4] }
  | _ => none }
def FnExactRoundFractionWrongFalsely : Prop := fnExactRoundFractionRow.holds Try.pinned (OpenSpec.ofChange fnExactRoundFractionWrong)

/-- 'laws.FnExactReadDecimal': WHATEVER THE INPUT: true; the input reads as it did. -/
def fnExactReadDecimalSpec : ChangeSpec := { name := "fnExactReadDecimal", fn := fun _ => fun
  | [d1, d2, d3, d4] => { results := [.lit (.bool true)], args := [d1, d2, d3, d4] }
  | _ => none }
def fnExactReadDecimalRow : OpenClaim := { program := "ytjebechmedhidaa", sum := "280dc98b62a715ab0df1b6dad93db8eac24c8bcd54c7f3519cd32c2086ad32dd", func := "loop.example/g01178/laws.FnExactReadDecimal", spec := "fnExactReadDecimal", inPlace := ["math.Float64bits", "math.Float64frombits", "math.Float32frombits", "math.Float32bits"], unfollowed := true, recurses := true, apart := false }
def FnExactReadDecimalSaid : Prop := fnExactReadDecimalRow.holds Try.pinned (OpenSpec.ofChange fnExactReadDecimalSpec)

/-- ITS FALSE NEIGHBOUR: 'it returns false'. Refute it at one input. -/
def fnExactReadDecimalWrong : ChangeSpec := { name := "fnExactReadDecimal", fn := fun _ => fun
  | [d1, d2, d3, d4] => { results := [.lit (.bool false)], args := [d1, d2, d3, d4] }
  | _ => none }
def FnExactReadDecimalWrongFalsely : Prop := fnExactReadDecimalRow.holds Try.pinned (OpenSpec.ofChange fnExactReadDecimalWrong)

/-- 'laws.FnExactRoundsTo': WHATEVER THE INPUT: true; the input reads as it did. -/
def fnExactRoundsToSpec : ChangeSpec := { name := "fnExactRoundsTo", fn := fun _ => fun
  | [d1, d2, d3, d4] => { results := [.lit (.bool true)], args := [d1, d2, d3, d4] }
  | _ => none }
def fnExactRoundsToRow : OpenClaim := { program := "ytjebechmedhidaa", sum := "280dc98b62a715ab0df1b6dad93db8eac24c8bcd54c7f3519cd32c2086ad32dd", func := "loop.example/g01178/laws.FnExactRoundsTo", spec := "fnExactRoundsTo", inPlace := ["math.Float64bits", "math.Float64frombits", "math.Float32frombits", "math.Float32bits"], unfollowed := true, recurses := true, apart := false }
def FnExactRoundsToSaid : Prop := fnExactRoundsToRow.holds Try.pinned (OpenSpec.ofChange fnExactRoundsToSpec)

/-- ITS FALSE NEIGHBOUR: 'it returns false'. Refute it at one input. -/
def fnExactRoundsToWrong : ChangeSpec := { name := "fnExactRoundsTo", fn := fun _ => fun
  | [d1, d2, d3, d4] => { results := [.lit (.bool false)], args := [d1, d2, d3, d4] }
  | _ => none }
def FnExactRoundsToWrongFalsely : Prop := fnExactRoundsToRow.holds Try.pinned (OpenSpec.ofChange fnExactRoundsToWrong)

/- THE SECOND FORM. 'bulk': how many values and letters a reading holds, each counted each time it is reached (what is shared counts as often as it is met; a slice's spare places count too). A statement '..UptoSaid' is the law's where the arguments, and the package variables that the reading takes, are together of bulk at most 1048576: NARROWER than '..Said'. Prove '..Said' where nothing that the law and all that it calls make is longer than what came in: it says more and counts as full. Else prove '..UptoSaid'. A law counts once. -/
mutual
def uptoBulk {H : Type} : DataW H → Nat
  | .lit (.string bytes) => bytes.length + 1
  | .lit _ => 1
  | .nil => 1
  | .ptr d => uptoBulk d + 1
  | .slice elems spare => uptoBulkAll elems + uptoBulkAll spare + 1
  | .agg parts => uptoBulkAll parts + 1
  | .iface _ d => uptoBulk d + 1
  | .map entries => uptoBulkEntries entries + 1
  | .held _ => 1
def uptoBulkAll {H : Type} : List (DataW H) → Nat
  | [] => 0
  | d :: r => uptoBulk d + uptoBulkAll r
def uptoBulkEntries {H : Type} : List (Lit × DataW H) → Nat
  | [] => 0
  | x :: r => uptoBulkEntry x + uptoBulkEntries r
def uptoBulkEntry {H : Type} : Lit × DataW H → Nat
  | (.string bytes, d) => bytes.length + uptoBulk d + 1
  | (_, d) => uptoBulk d + 1
 end
def uptoSmall : (H : Type) → List (DataW H) → Bool := fun _ ds => decide (uptoBulkAll ds ≤ 1048576)
def OpenSpec.upto (s : _root_.Go.ChangeSpec) : _root_.Go.OpenSpec := { _root_.Go.OpenSpec.ofChange s with cond := some uptoSmall }

/-- 'laws.FnExactFromSingle', WHERE WHAT IT READS IS OF BULK AT MOST 1048576: true; the input reads as it did. -/
def fnExactFromSingleUptoRow : OpenClaim := { program := "ytjebechmedhidaa", sum := "280dc98b62a715ab0df1b6dad93db8eac24c8bcd54c7f3519cd32c2086ad32dd", func := "loop.example/g01178/laws.FnExactFromSingle", spec := "fnExactFromSingle", inPlace := ["math.Float32frombits", "math.Float64bits", "math.Float64frombits"], unfollowed := true, recurses := true, apart := false, narrowed := true }
def FnExactFromSingleUptoSaid : Prop := fnExactFromSingleUptoRow.holds Try.pinned (OpenSpec.upto fnExactFromSingleSpec)

/-- 'laws.FnExactSixSteps', WHERE WHAT IT READS IS OF BULK AT MOST 1048576: true; the input reads as it did. -/
def fnExactSixStepsUptoRow : OpenClaim := { program := "ytjebechmedhidaa", sum := "280dc98b62a715ab0df1b6dad93db8eac24c8bcd54c7f3519cd32c2086ad32dd", func := "loop.example/g01178/laws.FnExactSixSteps", spec := "fnExactSixSteps", inPlace := ["math.Float32frombits", "math.Float32bits", "math.Float64frombits", "math.Float64bits", "math.archTrunc"], unfollowed := true, recurses := true, apart := false, narrowed := true }
def FnExactSixStepsUptoSaid : Prop := fnExactSixStepsUptoRow.holds Try.pinned (OpenSpec.upto fnExactSixStepsSpec)

/-- 'laws.FnExactTwoProduct', WHERE WHAT IT READS IS OF BULK AT MOST 1048576: true; the input reads as it did. -/
def fnExactTwoProductUptoRow : OpenClaim := { program := "ytjebechmedhidaa", sum := "280dc98b62a715ab0df1b6dad93db8eac24c8bcd54c7f3519cd32c2086ad32dd", func := "loop.example/g01178/laws.FnExactTwoProduct", spec := "fnExactTwoProduct", inPlace := ["math.Float32frombits", "math.Float64bits", "math.Float64frombits", "math.Float32bits", "math.archTrunc"], unfollowed := true, recurses := true, apart := false, narrowed := true }
def FnExactTwoProductUptoSaid : Prop := fnExactTwoProductUptoRow.holds Try.pinned (OpenSpec.upto fnExactTwoProductSpec)

/-- 'laws.FnExactSumInOrder', WHERE WHAT IT READS IS OF BULK AT MOST 1048576: true; the input reads as it did. -/
def fnExactSumInOrderUptoRow : OpenClaim := { program := "ytjebechmedhidaa", sum := "280dc98b62a715ab0df1b6dad93db8eac24c8bcd54c7f3519cd32c2086ad32dd", func := "loop.example/g01178/laws.FnExactSumInOrder", spec := "fnExactSumInOrder", inPlace := ["math.Float32frombits", "math.Float32bits", "math.Float64frombits", "math.Float64bits", "math.archTrunc"], unfollowed := true, recurses := true, apart := false, narrowed := true }
def FnExactSumInOrderUptoSaid : Prop := fnExactSumInOrderUptoRow.holds Try.pinned (OpenSpec.upto fnExactSumInOrderSpec)

/-- 'laws.FnExactCompensatedSum', WHERE WHAT IT READS IS OF BULK AT MOST 1048576: true; the input reads as it did. -/
def fnExactCompensatedSumUptoRow : OpenClaim := { program := "ytjebechmedhidaa", sum := "280dc98b62a715ab0df1b6dad93db8eac24c8bcd54c7f3519cd32c2086ad32dd", func := "loop.example/g01178/laws.FnExactCompensatedSum", spec := "fnExactCompensatedSum", inPlace := ["math.Float32frombits", "math.Float32bits", "math.Float64frombits", "math.Float64bits", "math.archTrunc"], unfollowed := true, recurses := true, apart := false, narrowed := true }
def FnExactCompensatedSumUptoSaid : Prop := fnExactCompensatedSumUptoRow.holds Try.pinned (OpenSpec.upto fnExactCompensatedSumSpec)

/-- 'laws.FnExactGrowExpansion', WHERE WHAT IT READS IS OF BULK AT MOST 1048576: true; the input reads as it did. -/
def fnExactGrowExpansionUptoRow : OpenClaim := { program := "ytjebechmedhidaa", sum := "280dc98b62a715ab0df1b6dad93db8eac24c8bcd54c7f3519cd32c2086ad32dd", func := "loop.example/g01178/laws.FnExactGrowExpansion", spec := "fnExactGrowExpansion", inPlace := ["math.Float32frombits", "math.Float32bits", "math.Float64frombits", "math.Float64bits", "math.archTrunc"], unfollowed := true, recurses := true, apart := false, narrowed := true }
def FnExactGrowExpansionUptoSaid : Prop := fnExactGrowExpansionUptoRow.holds Try.pinned (OpenSpec.upto fnExactGrowExpansionSpec)

/-- 'laws.FnExactExpansionOf', WHERE WHAT IT READS IS OF BULK AT MOST 1048576: true; the input reads as it did. -/
def fnExactExpansionOfUptoRow : OpenClaim := { program := "ytjebechmedhidaa", sum := "280dc98b62a715ab0df1b6dad93db8eac24c8bcd54c7f3519cd32c2086ad32dd", func := "loop.example/g01178/laws.FnExactExpansionOf", spec := "fnExactExpansionOf", inPlace := ["math.Float32frombits", "math.Float32bits", "math.Float64frombits", "math.Float64bits", "math.archTrunc"], unfollowed := true, recurses := true, apart := false, narrowed := true }
def FnExactExpansionOfUptoSaid : Prop := fnExactExpansionOfUptoRow.holds Try.pinned (OpenSpec.upto fnExactExpansionOfSpec)

/-- 'laws.FnExactSpreadOfOrders', WHERE WHAT IT READS IS OF BULK AT MOST 1048576: true; the input reads as it did. -/
def fnExactSpreadOfOrdersUptoRow : OpenClaim := { program := "ytjebechmedhidaa", sum := "280dc98b62a715ab0df1b6dad93db8eac24c8bcd54c7f3519cd32c2086ad32dd", func := "loop.example/g01178/laws.FnExactSpreadOfOrders", spec := "fnExactSpreadOfOrders", inPlace := ["math.Float32frombits", "math.Float64frombits", "math.Float32bits", "math.Float64bits", "math.archTrunc"], unfollowed := true, recurses := true, apart := false, narrowed := true }
def FnExactSpreadOfOrdersUptoSaid : Prop := fnExactSpreadOfOrdersUptoRow.holds Try.pinned (OpenSpec.upto fnExactSpreadOfOrdersSpec)

/-- 'laws.FnExactRoundFraction', WHERE WHAT IT READS IS OF BULK AT MOST 1048576: true; the input reads as it did. -/
def fnExactRoundFractionUptoRow : OpenClaim := { program := "ytjebechmedhidaa", sum := "280dc98b62a715ab0df1b6dad93db8eac24c8bcd54c7f3519cd32c2086ad32dd", func := "loop.example/g01178/laws.FnExactRoundFraction", spec := "fnExactRoundFraction", inPlace := ["math.Float64bits", "math.Float64frombits", "math.Float32frombits", "math.Float32bits"], unfollowed := true, recurses := true, apart := false, narrowed := true }
def FnExactRoundFractionUptoSaid : Prop := fnExactRoundFractionUptoRow.holds Try.pinned (OpenSpec.upto fnExactRoundFractionSpec)

/-- 'laws.FnExactReadDecimal', WHERE WHAT IT READS IS OF BULK AT MOST 1048576: true; the input reads as it did. -/
def fnExactReadDecimalUptoRow : OpenClaim := { program := "ytjebechmedhidaa", sum := "280dc98b62a715ab0df1b6dad93db8eac24c8bcd54c7f3519cd32c2086ad32dd", func := "loop.example/g01178/laws.FnExactReadDecimal", spec := "fnExactReadDecimal", inPlace := ["math.Float64bits", "math.Float64frombits", "math.Float32frombits", "math.Float32bits"], unfollowed := true, recurses := true, apart := false, narrowed := true }
def FnExactReadDecimalUptoSaid : Prop := fnExactReadDecimalUptoRow.holds Try.pinned (OpenSpec.upto fnExactReadDecimalSpec)

/-- 'laws.FnExactRoundsTo', WHERE WHAT IT READS IS OF BULK AT MOST 1048576: true; the input reads as it did. -/
def fnExactRoundsToUptoRow : OpenClaim := { program := "ytjebechmedhidaa", sum := "280dc98b62a715ab0df1b6dad93db8eac24c8bcd54c7f3519cd32c2086ad32dd", func := "loop.example/g01178/laws.FnExactRoundsTo", spec := "fnExactRoundsTo", inPlace := ["math.Float64bits", "math.Float64frombits", "math.Float32frombits", "math.Float32bits"], unfollowed := true, recurses := true, apart := false, narrowed := true }
def FnExactRoundsToUptoSaid : Prop := fnExactRoundsToUptoRow.holds Try.pinned (OpenSpec.upto fnExactRoundsToSpec)

end Rows
end Go.Proofs.Ytjebechmedhidaa
