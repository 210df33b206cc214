/-
  No cell of these rows narrows 'for every input' (looked for: loops, veiled, ifaces, maps, wideKeys, modest, calm, conditions, laid).
  DERIVED. THE GIVEN ROWS OF THIS SEAT. 11 by the template 'for every input the law returns true; each argument reads behind the call as it read before'; 0 by the template 'total and deterministic' (their statements: YtdagfocpbnamfaaTotals.lean).
  GIVEN WITH THE SEED: the statements are not yours to turn. If you find one false, say at which input.
  Laid BY PROGRAM, IN A SANDBOX (cutbox-rows.mjs): the forced cells as the released guide's own fill.sh prints them over the translation 3a6b7ac3418d18b9… (all of the seat's roots in one cut). By AI agents, Wed Nov 11 2026. No macro, syntax, notation, axiom, sorry.
-/
import Derived.Test.YtdagfocpbnamfaaChecked
import GoSem.Claim
import GoSem.ClaimJoined
import GoSem.ClaimMapViews
import Derived.JoinedTies
import Derived.KernelRfl
namespace Go.Proofs.Ytdagfocpbnamfaa
/- THE CELL 'sum', in the pinned program and in every row, IS THE sha256 OF THE DUMP (.gsa) THAT YtdagfocpbnamfaaProg.lean LOADS. Nothing in Lean hashes anything: it is a label: what it is worth is what the hold of that sum in a sandbox is worth. -/
noncomputable def Try.pinned : Pinned := { name := "ytdagfocpbnamfaa", sum := "3a6b7ac3418d18b99ce505cd59f7e6fa2f5e8cf17fa28e124a3c3b82f4deca8c", checked := Try.checked }
namespace Rows
def none {H : Type} : Left H := { results := [], args := [] }

/-- 'laws.FnExactGrowExpansion': WHATEVER THE INPUT: true; the input reads as it did. -/
def fnExactGrowExpansionSpec : ChangeSpec := { name := "fnExactGrowExpansion", fn := fun _ => fun
  | [d1, d2, d3] => { results := [.lit (.bool true)], args := [d1, d2, d3] }
  | _ => none }
def fnExactGrowExpansionRow : OpenClaim := { program := "ytdagfocpbnamfaa", sum := "3a6b7ac3418d18b99ce505cd59f7e6fa2f5e8cf17fa28e124a3c3b82f4deca8c", func := "loop.example/g01178/laws.FnExactGrowExpansion", spec := "fnExactGrowExpansion", inPlace := ["math.Float32frombits", "math.Float32bits", "math.Float64frombits", "math.Float64bits", "math.archTrunc"], unfollowed := true, recurses := true, apart := false }
def FnExactGrowExpansionSaid : Prop := fnExactGrowExpansionRow.holds Try.pinned (OpenSpec.ofChange fnExactGrowExpansionSpec)

/-- ITS FALSE NEIGHBOUR: 'it returns false'. Refute it at one input. -/
def fnExactGrowExpansionWrong : ChangeSpec := { name := "fnExactGrowExpansion", fn := fun _ => fun
  | [d1, d2, d3] => { results := [.lit (.bool false)], args := [d1, d2, d3] }
  | _ => none }
def FnExactGrowExpansionWrongFalsely : Prop := fnExactGrowExpansionRow.holds Try.pinned (OpenSpec.ofChange fnExactGrowExpansionWrong)

/-- 'laws.FnExactExpansionOf': WHATEVER THE INPUT: true; the input reads as it did. -/
def fnExactExpansionOfSpec : ChangeSpec := { name := "fnExactExpansionOf", fn := fun _ => fun
  | [d1, d2] => { results := [.lit (.bool true)], args := [d1, d2] }
  | _ => none }
def fnExactExpansionOfRow : OpenClaim := { program := "ytdagfocpbnamfaa", sum := "3a6b7ac3418d18b99ce505cd59f7e6fa2f5e8cf17fa28e124a3c3b82f4deca8c", func := "loop.example/g01178/laws.FnExactExpansionOf", spec := "fnExactExpansionOf", inPlace := ["math.Float32frombits", "math.Float32bits", "math.Float64frombits", "math.Float64bits", "math.archTrunc"], unfollowed := true, recurses := true, apart := false }
def FnExactExpansionOfSaid : Prop := fnExactExpansionOfRow.holds Try.pinned (OpenSpec.ofChange fnExactExpansionOfSpec)

/-- ITS FALSE NEIGHBOUR: 'it returns false'. Refute it at one input. -/
def fnExactExpansionOfWrong : ChangeSpec := { name := "fnExactExpansionOf", fn := fun _ => fun
  | [d1, d2] => { results := [.lit (.bool false)], args := [d1, d2] }
  | _ => none }
def FnExactExpansionOfWrongFalsely : Prop := fnExactExpansionOfRow.holds Try.pinned (OpenSpec.ofChange fnExactExpansionOfWrong)

/-- 'laws.FnExactBitsOfBlock': WHATEVER THE INPUT: true; the input reads as it did. -/
def fnExactBitsOfBlockSpec : ChangeSpec := { name := "fnExactBitsOfBlock", fn := fun _ => fun
  | [d1, d2] => { results := [.lit (.bool true)], args := [d1, d2] }
  | _ => none }
def fnExactBitsOfBlockRow : OpenClaim := { program := "ytdagfocpbnamfaa", sum := "3a6b7ac3418d18b99ce505cd59f7e6fa2f5e8cf17fa28e124a3c3b82f4deca8c", func := "loop.example/g01178/laws.FnExactBitsOfBlock", spec := "fnExactBitsOfBlock", apart := false }
def FnExactBitsOfBlockSaid : Prop := fnExactBitsOfBlockRow.holds Try.pinned (OpenSpec.ofChange fnExactBitsOfBlockSpec)

/-- ITS FALSE NEIGHBOUR: 'it returns false'. Refute it at one input. -/
def fnExactBitsOfBlockWrong : ChangeSpec := { name := "fnExactBitsOfBlock", fn := fun _ => fun
  | [d1, d2] => { results := [.lit (.bool false)], args := [d1, d2] }
  | _ => none }
def FnExactBitsOfBlockWrongFalsely : Prop := fnExactBitsOfBlockRow.holds Try.pinned (OpenSpec.ofChange fnExactBitsOfBlockWrong)

/-- 'laws.FnExactIsBlock': WHATEVER THE INPUT: true; the input reads as it did. -/
def fnExactIsBlockSpec : ChangeSpec := { name := "fnExactIsBlock", fn := fun _ => fun
  | [d1, d2] => { results := [.lit (.bool true)], args := [d1, d2] }
  | _ => none }
def fnExactIsBlockRow : OpenClaim := { program := "ytdagfocpbnamfaa", sum := "3a6b7ac3418d18b99ce505cd59f7e6fa2f5e8cf17fa28e124a3c3b82f4deca8c", func := "loop.example/g01178/laws.FnExactIsBlock", spec := "fnExactIsBlock", unfollowed := true, recurses := true, apart := false }
def FnExactIsBlockSaid : Prop := fnExactIsBlockRow.holds Try.pinned (OpenSpec.ofChange fnExactIsBlockSpec)

/-- ITS FALSE NEIGHBOUR: 'it returns false'. Refute it at one input. -/
def fnExactIsBlockWrong : ChangeSpec := { name := "fnExactIsBlock", fn := fun _ => fun
  | [d1, d2] => { results := [.lit (.bool false)], args := [d1, d2] }
  | _ => none }
def FnExactIsBlockWrongFalsely : Prop := fnExactIsBlockRow.holds Try.pinned (OpenSpec.ofChange fnExactIsBlockWrong)

/-- 'laws.FnExactSharedPower': WHATEVER THE INPUT: true; the input reads as it did. -/
def fnExactSharedPowerSpec : ChangeSpec := { name := "fnExactSharedPower", fn := fun _ => fun
  | [d1, d2] => { results := [.lit (.bool true)], args := [d1, d2] }
  | _ => none }
def fnExactSharedPowerRow : OpenClaim := { program := "ytdagfocpbnamfaa", sum := "3a6b7ac3418d18b99ce505cd59f7e6fa2f5e8cf17fa28e124a3c3b82f4deca8c", func := "loop.example/g01178/laws.FnExactSharedPower", spec := "fnExactSharedPower", apart := false }
def FnExactSharedPowerSaid : Prop := fnExactSharedPowerRow.holds Try.pinned (OpenSpec.ofChange fnExactSharedPowerSpec)

/-- ITS FALSE NEIGHBOUR: 'it returns false'. Refute it at one input. -/
def fnExactSharedPowerWrong : ChangeSpec := { name := "fnExactSharedPower", fn := fun _ => fun
  | [d1, d2] => { results := [.lit (.bool false)], args := [d1, d2] }
  | _ => none }
def FnExactSharedPowerWrongFalsely : Prop := fnExactSharedPowerRow.holds Try.pinned (OpenSpec.ofChange fnExactSharedPowerWrong)

/-- 'laws.FnExactBlockOf': WHATEVER THE INPUT: true; the input reads as it did. -/
def fnExactBlockOfSpec : ChangeSpec := { name := "fnExactBlockOf", fn := fun _ => fun
  | [d1, d2, d3] => { results := [.lit (.bool true)], args := [d1, d2, d3] }
  | _ => none }
def fnExactBlockOfRow : OpenClaim := { program := "ytdagfocpbnamfaa", sum := "3a6b7ac3418d18b99ce505cd59f7e6fa2f5e8cf17fa28e124a3c3b82f4deca8c", func := "loop.example/g01178/laws.FnExactBlockOf", spec := "fnExactBlockOf", inPlace := ["math.Float64bits", "math.Float64frombits", "math.Float32frombits", "math.Float32bits"], unfollowed := true, recurses := true, apart := false }
def FnExactBlockOfSaid : Prop := fnExactBlockOfRow.holds Try.pinned (OpenSpec.ofChange fnExactBlockOfSpec)

/-- ITS FALSE NEIGHBOUR: 'it returns false'. Refute it at one input. -/
def fnExactBlockOfWrong : ChangeSpec := { name := "fnExactBlockOf", fn := fun _ => fun
  | [d1, d2, d3] => { results := [.lit (.bool false)], args := [d1, d2, d3] }
  | _ => none }
def FnExactBlockOfWrongFalsely : Prop := fnExactBlockOfRow.holds Try.pinned (OpenSpec.ofChange fnExactBlockOfWrong)

/-- 'laws.FnExactBlockWith': WHATEVER THE INPUT: true; the input reads as it did. -/
def fnExactBlockWithSpec : ChangeSpec := { name := "fnExactBlockWith", fn := fun _ => fun
  | [d1, d2, d3, d4] => { results := [.lit (.bool true)], args := [d1, d2, d3, d4] }
  | _ => none }
def fnExactBlockWithRow : OpenClaim := { program := "ytdagfocpbnamfaa", sum := "3a6b7ac3418d18b99ce505cd59f7e6fa2f5e8cf17fa28e124a3c3b82f4deca8c", func := "loop.example/g01178/laws.FnExactBlockWith", spec := "fnExactBlockWith", inPlace := ["math.Float64bits", "math.Float64frombits", "math.Float32frombits", "math.Float32bits"], unfollowed := true, recurses := true, apart := false }
def FnExactBlockWithSaid : Prop := fnExactBlockWithRow.holds Try.pinned (OpenSpec.ofChange fnExactBlockWithSpec)

/-- ITS FALSE NEIGHBOUR: 'it returns false'. Refute it at one input. -/
def fnExactBlockWithWrong : ChangeSpec := { name := "fnExactBlockWith", fn := fun _ => fun
  | [d1, d2, d3, d4] => { results := [.lit (.bool false)], args := [d1, d2, d3, d4] }
  | _ => none }
def FnExactBlockWithWrongFalsely : Prop := fnExactBlockWithRow.holds Try.pinned (OpenSpec.ofChange fnExactBlockWithWrong)

/-- 'laws.FnExactMoveBlock': WHATEVER THE INPUT: true; the input reads as it did. -/
def fnExactMoveBlockSpec : ChangeSpec := { name := "fnExactMoveBlock", fn := fun _ => fun
  | [d1, d2, d3] => { results := [.lit (.bool true)], args := [d1, d2, d3] }
  | _ => none }
def fnExactMoveBlockRow : OpenClaim := { program := "ytdagfocpbnamfaa", sum := "3a6b7ac3418d18b99ce505cd59f7e6fa2f5e8cf17fa28e124a3c3b82f4deca8c", func := "loop.example/g01178/laws.FnExactMoveBlock", spec := "fnExactMoveBlock", unfollowed := true, recurses := true, apart := false }
def FnExactMoveBlockSaid : Prop := fnExactMoveBlockRow.holds Try.pinned (OpenSpec.ofChange fnExactMoveBlockSpec)

/-- ITS FALSE NEIGHBOUR: 'it returns false'. Refute it at one input. -/
def fnExactMoveBlockWrong : ChangeSpec := { name := "fnExactMoveBlock", fn := fun _ => fun
  | [d1, d2, d3] => { results := [.lit (.bool false)], args := [d1, d2, d3] }
  | _ => none }
def FnExactMoveBlockWrongFalsely : Prop := fnExactMoveBlockRow.holds Try.pinned (OpenSpec.ofChange fnExactMoveBlockWrong)

/-- 'laws.FnExactCutBlock': WHATEVER THE INPUT: true; the input reads as it did. -/
def fnExactCutBlockSpec : ChangeSpec := { name := "fnExactCutBlock", fn := fun _ => fun
  | [d1, d2, d3, d4] => { results := [.lit (.bool true)], args := [d1, d2, d3, d4] }
  | _ => none }
def fnExactCutBlockRow : OpenClaim := { program := "ytdagfocpbnamfaa", sum := "3a6b7ac3418d18b99ce505cd59f7e6fa2f5e8cf17fa28e124a3c3b82f4deca8c", func := "loop.example/g01178/laws.FnExactCutBlock", spec := "fnExactCutBlock", unfollowed := true, recurses := true, apart := false }
def FnExactCutBlockSaid : Prop := fnExactCutBlockRow.holds Try.pinned (OpenSpec.ofChange fnExactCutBlockSpec)

/-- ITS FALSE NEIGHBOUR: 'it returns false'. Refute it at one input. -/
def fnExactCutBlockWrong : ChangeSpec := { name := "fnExactCutBlock", fn := fun _ => fun
  | [d1, d2, d3, d4] => { results := [.lit (.bool false)], args := [d1, d2, d3, d4] }
  | _ => none }
def FnExactCutBlockWrongFalsely : Prop := fnExactCutBlockRow.holds Try.pinned (OpenSpec.ofChange fnExactCutBlockWrong)

/-- 'laws.FnExactFromSingle': WHATEVER THE INPUT: true; the input reads as it did. -/
def fnExactFromSingleSpec : ChangeSpec := { name := "fnExactFromSingle", fn := fun _ => fun
  | [d1, d2, d3] => { results := [.lit (.bool true)], args := [d1, d2, d3] }
  | _ => none }
def fnExactFromSingleRow : OpenClaim := { program := "ytdagfocpbnamfaa", sum := "3a6b7ac3418d18b99ce505cd59f7e6fa2f5e8cf17fa28e124a3c3b82f4deca8c", func := "loop.example/g01178/laws.FnExactFromSingle", spec := "fnExactFromSingle", inPlace := ["math.Float32frombits", "math.Float64bits", "math.Float64frombits"], unfollowed := true, recurses := true, apart := false }
def FnExactFromSingleSaid : Prop := fnExactFromSingleRow.holds Try.pinned (OpenSpec.ofChange fnExactFromSingleSpec)

/-- ITS FALSE NEIGHBOUR: 'it returns false'. Refute it at one input. -/
def fnExactFromSingleWrong : ChangeSpec := { name := "fnExactFromSingle", fn := fun _ => fun
  | [d1, d2, d3] => { results := [.lit (.bool false)], args := [d1, d2, d3] }
  | _ => none }
def FnExactFromSingleWrongFalsely : Prop := fnExactFromSingleRow.holds Try.pinned (OpenSpec.ofChange fnExactFromSingleWrong)

/-- 'laws.FnPatternsOrderedOfAll': WHATEVER THE INPUT: true; the input reads as it did. -/
def fnPatternsOrderedOfAllSpec : ChangeSpec := { name := "fnPatternsOrderedOfAll", fn := fun _ => fun
  | [d1, d2, d3, d4, d5, d6, d7, d8, d9] => { results := [.lit (.bool true)], args := [d1, d2, d3, d4, d5, d6, d7, d8, d9] }
  | _ => none }
def fnPatternsOrderedOfAllRow : OpenClaim := { program := "ytdagfocpbnamfaa", sum := "3a6b7ac3418d18b99ce505cd59f7e6fa2f5e8cf17fa28e124a3c3b82f4deca8c", func := "loop.example/g01178/laws.FnPatternsOrderedOfAll", spec := "fnPatternsOrderedOfAll", inPlace := ["math.Float32frombits", "math.Float32bits"], unfollowed := true, recurses := true, apart := false }
def FnPatternsOrderedOfAllSaid : Prop := fnPatternsOrderedOfAllRow.holds Try.pinned (OpenSpec.ofChange fnPatternsOrderedOfAllSpec)

/-- ITS FALSE NEIGHBOUR: 'it returns false'. Refute it at one input. -/
def fnPatternsOrderedOfAllWrong : ChangeSpec := { name := "fnPatternsOrderedOfAll", fn := fun _ => fun
  | [d1, d2, d3, d4, d5, d6, d7, d8, d9] => { results := [.lit (.bool false)], args := [d1, d2, d3, d4, d5, d6, d7, d8, d9] }
  | _ => none }
def FnPatternsOrderedOfAllWrongFalsely : Prop := fnPatternsOrderedOfAllRow.holds Try.pinned (OpenSpec.ofChange fnPatternsOrderedOfAllWrong)

/- THE SECOND FORM. 'bulk': how many values and letters a reading holds, each counted each time it is reached (what is shared counts as often as it is met; a slice's spare places count too). A statement '..UptoSaid' is the law's where the arguments, and the package variables that the reading takes, are together of bulk at most 1048576: NARROWER than '..Said'. Prove '..Said' where nothing that the law and all that it calls make is longer than what came in: it says more and counts as full. Else prove '..UptoSaid'. A law counts once. -/
mutual
def uptoBulk {H : Type} : DataW H → Nat
  | .lit (.string bytes) => bytes.length + 1
  | .lit _ => 1
  | .nil => 1
  | .ptr d => uptoBulk d + 1
  | .slice elems spare => uptoBulkAll elems + uptoBulkAll spare + 1
  | .agg parts => uptoBulkAll parts + 1
  | .iface _ d => uptoBulk d + 1
  | .map entries => uptoBulkEntries entries + 1
  | .held _ => 1
def uptoBulkAll {H : Type} : List (DataW H) → Nat
  | [] => 0
  | d :: r => uptoBulk d + uptoBulkAll r
def uptoBulkEntries {H : Type} : List (Lit × DataW H) → Nat
  | [] => 0
  | x :: r => uptoBulkEntry x + uptoBulkEntries r
def uptoBulkEntry {H : Type} : Lit × DataW H → Nat
  | (.string bytes, d) => bytes.length + uptoBulk d + 1
  | (_, d) => uptoBulk d + 1
 end
def uptoSmall : (H : Type) → List (DataW H) → Bool := fun _ ds => decide (uptoBulkAll ds ≤ 1048576)
def OpenSpec.upto (s : _root_.Go.ChangeSpec) : _root_.Go.OpenSpec := { _root_.Go.OpenSpec.ofChange s with cond := some uptoSmall }

/-- 'laws.FnExactGrowExpansion', WHERE WHAT IT READS IS OF BULK AT MOST 1048576: true; the input reads as it did. -/
def fnExactGrowExpansionUptoRow : OpenClaim := { program := "ytdagfocpbnamfaa", sum := "3a6b7ac3418d18b99ce505cd59f7e6fa2f5e8cf17fa28e124a3c3b82f4deca8c", func := "loop.example/g01178/laws.FnExactGrowExpansion", spec := "fnExactGrowExpansion", inPlace := ["math.Float32frombits", "math.Float32bits", "math.Float64frombits", "math.Float64bits", "math.archTrunc"], unfollowed := true, recurses := true, apart := false, narrowed := true }
def FnExactGrowExpansionUptoSaid : Prop := fnExactGrowExpansionUptoRow.holds Try.pinned (OpenSpec.upto fnExactGrowExpansionSpec)

/-- 'laws.FnExactExpansionOf', WHERE WHAT IT READS IS OF BULK AT MOST 1048576: true; the input reads as it did. -/
def fnExactExpansionOfUptoRow : OpenClaim := { program := "ytdagfocpbnamfaa", sum := "3a6b7ac3418d18b99ce505cd59f7e6fa2f5e8cf17fa28e124a3c3b82f4deca8c", func := "loop.example/g01178/laws.FnExactExpansionOf", spec := "fnExactExpansionOf", inPlace := ["math.Float32frombits", "math.Float32bits", "math.Float64frombits", "math.Float64bits", "math.archTrunc"], unfollowed := true, recurses := true, apart := false, narrowed := true }
def FnExactExpansionOfUptoSaid : Prop := fnExactExpansionOfUptoRow.holds Try.pinned (OpenSpec.upto fnExactExpansionOfSpec)

/-- 'laws.FnExactBitsOfBlock', WHERE WHAT IT READS IS OF BULK AT MOST 1048576: true; the input reads as it did. -/
def fnExactBitsOfBlockUptoRow : OpenClaim := { program := "ytdagfocpbnamfaa", sum := "3a6b7ac3418d18b99ce505cd59f7e6fa2f5e8cf17fa28e124a3c3b82f4deca8c", func := "loop.example/g01178/laws.FnExactBitsOfBlock", spec := "fnExactBitsOfBlock", apart := false, narrowed := true }
def FnExactBitsOfBlockUptoSaid : Prop := fnExactBitsOfBlockUptoRow.holds Try.pinned (OpenSpec.upto fnExactBitsOfBlockSpec)

/-- 'laws.FnExactIsBlock', WHERE WHAT IT READS IS OF BULK AT MOST 1048576: true; the input reads as it did. -/
def fnExactIsBlockUptoRow : OpenClaim := { program := "ytdagfocpbnamfaa", sum := "3a6b7ac3418d18b99ce505cd59f7e6fa2f5e8cf17fa28e124a3c3b82f4deca8c", func := "loop.example/g01178/laws.FnExactIsBlock", spec := "fnExactIsBlock", unfollowed := true, recurses := true, apart := false, narrowed := true }
def FnExactIsBlockUptoSaid : Prop := fnExactIsBlockUptoRow.holds Try.pinned (OpenSpec.upto fnExactIsBlockSpec)

/-- 'laws.FnExactSharedPower', WHERE WHAT IT READS IS OF BULK AT MOST 1048576: true; the input reads as it did. -/
def fnExactSharedPowerUptoRow : OpenClaim := { program := "ytdagfocpbnamfaa", sum := "3a6b7ac3418d18b99ce505cd59f7e6fa2f5e8cf17fa28e124a3c3b82f4deca8c", func := "loop.example/g01178/laws.FnExactSharedPower", spec := "fnExactSharedPower", apart := false, narrowed := true }
def FnExactSharedPowerUptoSaid : Prop := fnExactSharedPowerUptoRow.holds Try.pinned (OpenSpec.upto fnExactSharedPowerSpec)

/-- 'laws.FnExactBlockOf', WHERE WHAT IT READS IS OF BULK AT MOST 1048576: true; the input reads as it did. -/
def fnExactBlockOfUptoRow : OpenClaim := { program := "ytdagfocpbnamfaa", sum := "3a6b7ac3418d18b99ce505cd59f7e6fa2f5e8cf17fa28e124a3c3b82f4deca8c", func := "loop.example/g01178/laws.FnExactBlockOf", spec := "fnExactBlockOf", inPlace := ["math.Float64bits", "math.Float64frombits", "math.Float32frombits", "math.Float32bits"], unfollowed := true, recurses := true, apart := false, narrowed := true }
def FnExactBlockOfUptoSaid : Prop := fnExactBlockOfUptoRow.holds Try.pinned (OpenSpec.upto fnExactBlockOfSpec)

/-- 'laws.FnExactBlockWith', WHERE WHAT IT READS IS OF BULK AT MOST 1048576: true; the input reads as it did. -/
def fnExactBlockWithUptoRow : OpenClaim := { program := "ytdagfocpbnamfaa", sum := "3a6b7ac3418d18b99ce505cd59f7e6fa2f5e8cf17fa28e124a3c3b82f4deca8c", func := "loop.example/g01178/laws.FnExactBlockWith", spec := "fnExactBlockWith", inPlace := ["math.Float64bits", "math.Float64frombits", "math.Float32frombits", "math.Float32bits"], unfollowed := true, recurses := true, apart := false, narrowed := true }
def FnExactBlockWithUptoSaid : Prop := fnExactBlockWithUptoRow.holds Try.pinned (OpenSpec.upto fnExactBlockWithSpec)

/-- 'laws.FnExactMoveBlock', WHERE WHAT IT READS IS OF BULK AT MOST 1048576: true; the input reads as it did. -/
def fnExactMoveBlockUptoRow : OpenClaim := { program := "ytdagfocpbnamfaa", sum := "3a6b7ac3418d18b99ce505cd59f7e6fa2f5e8cf17fa28e124a3c3b82f4deca8c", func := "loop.example/g01178/laws.FnExactMoveBlock", spec := "fnExactMoveBlock", unfollowed := true, recurses := true, apart := false, narrowed := true }
def FnExactMoveBlockUptoSaid : Prop := fnExactMoveBlockUptoRow.holds Try.pinned (OpenSpec.upto fnExactMoveBlockSpec)

/-- 'laws.FnExactCutBlock', WHERE WHAT IT READS IS OF BULK AT MOST 1048576: true; the input reads as it did. -/
def fnExactCutBlockUptoRow : OpenClaim := { program := "ytdagfocpbnamfaa", sum := "3a6b7ac3418d18b99ce505cd59f7e6fa2f5e8cf17fa28e124a3c3b82f4deca8c", func := "loop.example/g01178/laws.FnExactCutBlock", spec := "fnExactCutBlock", unfollowed := true, recurses := true, apart := false, narrowed := true }
def FnExactCutBlockUptoSaid : Prop := fnExactCutBlockUptoRow.holds Try.pinned (OpenSpec.upto fnExactCutBlockSpec)

/-- 'laws.FnExactFromSingle', WHERE WHAT IT READS IS OF BULK AT MOST 1048576: true; the input reads as it did. -/
def fnExactFromSingleUptoRow : OpenClaim := { program := "ytdagfocpbnamfaa", sum := "3a6b7ac3418d18b99ce505cd59f7e6fa2f5e8cf17fa28e124a3c3b82f4deca8c", func := "loop.example/g01178/laws.FnExactFromSingle", spec := "fnExactFromSingle", inPlace := ["math.Float32frombits", "math.Float64bits", "math.Float64frombits"], unfollowed := true, recurses := true, apart := false, narrowed := true }
def FnExactFromSingleUptoSaid : Prop := fnExactFromSingleUptoRow.holds Try.pinned (OpenSpec.upto fnExactFromSingleSpec)

/-- 'laws.FnPatternsOrderedOfAll', WHERE WHAT IT READS IS OF BULK AT MOST 1048576: true; the input reads as it did. -/
def fnPatternsOrderedOfAllUptoRow : OpenClaim := { program := "ytdagfocpbnamfaa", sum := "3a6b7ac3418d18b99ce505cd59f7e6fa2f5e8cf17fa28e124a3c3b82f4deca8c", func := "loop.example/g01178/laws.FnPatternsOrderedOfAll", spec := "fnPatternsOrderedOfAll", inPlace := ["math.Float32frombits", "math.Float32bits"], unfollowed := true, recurses := true, apart := false, narrowed := true }
def FnPatternsOrderedOfAllUptoSaid : Prop := fnPatternsOrderedOfAllUptoRow.holds Try.pinned (OpenSpec.upto fnPatternsOrderedOfAllSpec)

end Rows
end Go.Proofs.Ytdagfocpbnamfaa
