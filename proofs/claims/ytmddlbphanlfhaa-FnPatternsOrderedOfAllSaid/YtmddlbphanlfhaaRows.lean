/-
  No cell of these rows narrows 'for every input' (looked for: loops, veiled, ifaces, maps, wideKeys, modest, calm, conditions, laid).
  DERIVED. THE GIVEN ROWS OF THIS SEAT. 4 by the template 'for every input the law returns true; each argument reads behind the call as it read before'; 0 by the template 'total and deterministic' (their statements: YtmddlbphanlfhaaTotals.lean).
  GIVEN WITH THE SEED: the statements are not yours to turn. If you find one false, say at which input.
  Laid BY PROGRAM, IN A SANDBOX (cutbox-rows.mjs): the forced cells as the released guide's own fill.sh prints them over the translation 5b3ebdea3aab2a4f… (all of the seat's roots in one cut). By AI agents, Wed Nov 11 2026. No macro, syntax, notation, axiom, sorry.
-/
import Derived.Test.YtmddlbphanlfhaaChecked
import GoSem.Claim
import GoSem.ClaimJoined
import GoSem.ClaimMapViews
import Derived.JoinedTies
import Derived.KernelRfl
namespace Go.Proofs.Ytmddlbphanlfhaa
/- THE CELL 'sum', in the pinned program and in every row, IS THE sha256 OF THE DUMP (.gsa) THAT YtmddlbphanlfhaaProg.lean LOADS. Nothing in Lean hashes anything: it is a label: what it is worth is what the hold of that sum in a sandbox is worth. -/
noncomputable def Try.pinned : Pinned := { name := "ytmddlbphanlfhaa", sum := "5b3ebdea3aab2a4fc7f5792c7fbebd07afb9917e002db2e6ff5509e32959218d", checked := Try.checked }
namespace Rows
def none {H : Type} : Left H := { results := [], args := [] }

/-- 'laws.FnPatternsOrderedOfAll': WHATEVER THE INPUT: true; the input reads as it did. -/
def fnPatternsOrderedOfAllSpec : ChangeSpec := { name := "fnPatternsOrderedOfAll", fn := fun _ => fun
  | [d1, d2, d3, d4, d5, d6, d7, d8, d9] => { results := [.lit (.bool true)], args := [d1, d2, d3, d4, d5, d6, d7, d8, d9] }
  | _ => none }
def fnPatternsOrderedOfAllRow : OpenClaim := { program := "ytmddlbphanlfhaa", sum := "5b3ebdea3aab2a4fc7f5792c7fbebd07afb9917e002db2e6ff5509e32959218d", func := "loop.example/g01178/laws.FnPatternsOrderedOfAll", spec := "fnPatternsOrderedOfAll", inPlace := ["math.Float32frombits", "math.Float32bits"], unfollowed := true, recurses := true, apart := false }
def FnPatternsOrderedOfAllSaid : Prop := fnPatternsOrderedOfAllRow.holds Try.pinned (OpenSpec.ofChange fnPatternsOrderedOfAllSpec)

/-- ITS FALSE NEIGHBOUR: 'it returns false'. Refute it at one input. -/
def fnPatternsOrderedOfAllWrong : ChangeSpec := { name := "fnPatternsOrderedOfAll", fn := fun _ => fun
  | [d1, d2, d3, d4, d5, d6, d7, d8, d9] => { results := [.lit (.bool false)], args := [d1, d2, d3, d4, d5, d6, d7, d8, d9] }
  | _ => none }
def FnPatternsOrderedOfAllWrongFalsely : Prop := fnPatternsOrderedOfAllRow.holds Try.pinned (OpenSpec.ofChange fnPatternsOrderedOfAllWrong)

/-- 'laws.FnExactTwoProduct': WHATEVER THE INPUT: true; the input reads as it did. -/
def fnExactTwoProductSpec : ChangeSpec := { name := "fnExactTwoProduct", fn := fun _ => fun
  | [d1, d2, d3] => { results := [.lit (.bool true)], args := [d1, d2, d3] }
  | _ => none }
def fnExactTwoProductRow : OpenClaim := { program := "ytmddlbphanlfhaa", sum := "5b3ebdea3aab2a4fc7f5792c7fbebd07afb9917e002db2e6ff5509e32959218d", func := "loop.example/g01178/laws.FnExactTwoProduct", spec := "fnExactTwoProduct", inPlace := ["math.Float32frombits", "math.Float64bits", "math.Float64frombits", "math.Float32bits", "math.archTrunc"], unfollowed := true, recurses := true, apart := false }
def FnExactTwoProductSaid : Prop := fnExactTwoProductRow.holds Try.pinned (OpenSpec.ofChange fnExactTwoProductSpec)

/-- ITS FALSE NEIGHBOUR: 'it returns false'. Refute it at one input. -/
def fnExactTwoProductWrong : ChangeSpec := { name := "fnExactTwoProduct", fn := fun _ => fun
  | [d1, d2, d3] => { results := [.lit (.bool false)], args := [d1, d2, d3] }
  | _ => none }
def FnExactTwoProductWrongFalsely : Prop := fnExactTwoProductRow.holds Try.pinned (OpenSpec.ofChange fnExactTwoProductWrong)

/-- 'laws.FnExactFromSingle': WHATEVER THE INPUT: true; the input reads as it did. -/
def fnExactFromSingleSpec : ChangeSpec := { name := "fnExactFromSingle", fn := fun _ => fun
  | [d1, d2, d3] => { results := [.lit (.bool true)], args := [d1, d2, d3] }
  | _ => none }
def fnExactFromSingleRow : OpenClaim := { program := "ytmddlbphanlfhaa", sum := "5b3ebdea3aab2a4fc7f5792c7fbebd07afb9917e002db2e6ff5509e32959218d", func := "loop.example/g01178/laws.FnExactFromSingle", spec := "fnExactFromSingle", inPlace := ["math.Float32frombits", "math.Float64bits", "math.Float64frombits"], unfollowed := true, recurses := true, apart := false }
def FnExactFromSingleSaid : Prop := fnExactFromSingleRow.holds Try.pinned (OpenSpec.ofChange fnExactFromSingleSpec)

/-- ITS FALSE NEIGHBOUR: 'it returns false'. Refute it at one input. -/
def fnExactFromSingleWrong : ChangeSpec := { name := "fnExactFromSingle", fn := fun _ => fun
  | [d1, d2, d3] => { results := [.lit (.bool false)], args := [d1, d2, d3] }
  | _ => none }
def FnExactFromSingleWrongFalsely : Prop := fnExactFromSingleRow.holds Try.pinned (OpenSpec.ofChange fnExactFromSingleWrong)

/-- 'laws.FnExactSpreadOfOrders': WHATEVER THE INPUT: true; the input reads as it did. -/
def fnExactSpreadOfOrdersSpec : ChangeSpec := { name := "fnExactSpreadOfOrders", fn := fun _ => fun
  | [d1, d2] => { results := [.lit (.bool true)], args := [d1, d2] }
  | _ => none }
def fnExactSpreadOfOrdersRow : OpenClaim := { program := "ytmddlbphanlfhaa", sum := "5b3ebdea3aab2a4fc7f5792c7fbebd07afb9917e002db2e6ff5509e32959218d", func := "loop.example/g01178/laws.FnExactSpreadOfOrders", spec := "fnExactSpreadOfOrders", inPlace := ["math.Float32frombits", "math.Float64frombits", "math.Float32bits", "math.Float64bits", "math.archTrunc"], unfollowed := true, recurses := true, apart := false }
def FnExactSpreadOfOrdersSaid : Prop := fnExactSpreadOfOrdersRow.holds Try.pinned (OpenSpec.ofChange fnExactSpreadOfOrdersSpec)

/-- ITS FALSE NEIGHBOUR: 'it returns false'. Refute it at one input. -/
def fnExactSpreadOfOrdersWrong : ChangeSpec := { name := "fnExactSpreadOfOrders", fn := fun _ => fun
  | [d1, d2] => { results := [.lit (.bool false)], args := [d1, d2] }
  | _ => none }
def FnExactSpreadOfOrdersWrongFalsely : Prop := fnExactSpreadOfOrdersRow.holds Try.pinned (OpenSpec.ofChange fnExactSpreadOfOrdersWrong)

/- THE SECOND FORM. 'bulk': how many values and letters a reading holds, each counted each time it is reached (what is shared counts as often as it is met; a slice's spare places count too). A statement '..UptoSaid' is the law's where the arguments, and the package variables that the reading takes, are together of bulk at most 1048576: NARROWER than '..Said'. Prove '..Said' where nothing that the law and all that it calls make is longer than what came in: it says more and counts as full. Else prove '..UptoSaid'. A law counts once. -/
mutual
def uptoBulk {H : Type} : DataW H → Nat
  | .lit (.string bytes) => bytes.length + 1
  | .lit _ => 1
  | .nil => 1
  | .ptr d => uptoBulk d + 1
  | .slice elems spare => uptoBulkAll elems + uptoBulkAll spare + 1
  | .agg parts => uptoBulkAll parts + 1
  | .iface _ d => uptoBulk d + 1
  | .map entries => uptoBulkEntries entries + 1
  | .held _ => 1
def uptoBulkAll {H : Type} : List (DataW H) → Nat
  | [] => 0
  | d :: r => uptoBulk d + uptoBulkAll r
def uptoBulkEntries {H : Type} : List (Lit × DataW H) → Nat
  | [] => 0
  | x :: r => uptoBulkEntry x + uptoBulkEntries r
def uptoBulkEntry {H : Type} : Lit × DataW H → Nat
  | (.string bytes, d) => bytes.length + uptoBulk d + 1
  | (_, d) => uptoBulk d + 1
 end
def uptoSmall : (H : Type) → List (DataW H) → Bool := fun _ ds => decide (uptoBulkAll ds ≤ 1048576)
def OpenSpec.upto (s : _root_.Go.ChangeSpec) : _root_.Go.OpenSpec := { _root_.Go.OpenSpec.ofChange s with cond := some uptoSmall }

/-- 'laws.FnPatternsOrderedOfAll', WHERE WHAT IT READS IS OF BULK AT MOST 1048576: true; the input reads as it did. -/
def fnPatternsOrderedOfAllUptoRow : OpenClaim := { program := "ytmddlbphanlfhaa", sum := "5b3ebdea3aab2a4fc7f5792c7fbebd07afb9917e002db2e6ff5509e32959218d", func := "loop.example/g01178/laws.FnPatternsOrderedOfAll", spec := "fnPatternsOrderedOfAll", inPlace := ["math.Float32frombits", "math.Float32bits"], unfollowed := true, recurses := true, apart := false, narrowed := true }
def FnPatternsOrderedOfAllUptoSaid : Prop := fnPatternsOrderedOfAllUptoRow.holds Try.pinned (OpenSpec.upto fnPatternsOrderedOfAllSpec)

/-- 'laws.FnExactTwoProduct', WHERE WHAT IT READS IS OF BULK AT MOST 1048576: true; the input reads as it did. -/
def fnExactTwoProductUptoRow : OpenClaim := { program := "ytmddlbphanlfhaa", sum := "5b3ebdea3aab2a4fc7f5792c7fbebd07afb9917e002db2e6ff5509e32959218d", func := "loop.example/g01178/laws.FnExactTwoProduct", spec := "fnExactTwoProduct", inPlace := ["math.Float32frombits", "math.Float64bits", "math.Float64frombits", "math.Float32bits", "math.archTrunc"], unfollowed := true, recurses := true, apart := false, narrowed := true }
def FnExactTwoProductUptoSaid : Prop := fnExactTwoProductUptoRow.holds Try.pinned (OpenSpec.upto fnExactTwoProductSpec)

/-- 'laws.FnExactFromSingle', WHERE WHAT IT READS IS OF BULK AT MOST 1048576: true; the input reads as it did. -/
def fnExactFromSingleUptoRow : OpenClaim := { program := "ytmddlbphanlfhaa", sum := "5b3ebdea3aab2a4fc7f5792c7fbebd07afb9917e002db2e6ff5509e32959218d", func := "loop.example/g01178/laws.FnExactFromSingle", spec := "fnExactFromSingle", inPlace := ["math.Float32frombits", "math.Float64bits", "math.Float64frombits"], unfollowed := true, recurses := true, apart := false, narrowed := true }
def FnExactFromSingleUptoSaid : Prop := fnExactFromSingleUptoRow.holds Try.pinned (OpenSpec.upto fnExactFromSingleSpec)

/-- 'laws.FnExactSpreadOfOrders', WHERE WHAT IT READS IS OF BULK AT MOST 1048576: true; the input reads as it did. -/
def fnExactSpreadOfOrdersUptoRow : OpenClaim := { program := "ytmddlbphanlfhaa", sum := "5b3ebdea3aab2a4fc7f5792c7fbebd07afb9917e002db2e6ff5509e32959218d", func := "loop.example/g01178/laws.FnExactSpreadOfOrders", spec := "fnExactSpreadOfOrders", inPlace := ["math.Float32frombits", "math.Float64frombits", "math.Float32bits", "math.Float64bits", "math.archTrunc"], unfollowed := true, recurses := true, apart := false, narrowed := true }
def FnExactSpreadOfOrdersUptoSaid : Prop := fnExactSpreadOfOrdersUptoRow.holds Try.pinned (OpenSpec.upto fnExactSpreadOfOrdersSpec)

end Rows
end Go.Proofs.Ytmddlbphanlfhaa
