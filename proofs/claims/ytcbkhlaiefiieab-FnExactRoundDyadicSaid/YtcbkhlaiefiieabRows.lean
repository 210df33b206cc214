/-
  No cell of these rows narrows 'for every input' (looked for: loops, veiled, ifaces, maps, wideKeys, modest, calm, conditions, laid).
  DERIVED. THE GIVEN ROWS OF THIS SEAT. 4 by the template 'for every input the law returns true; each argument reads behind the call as it read before'; 0 by the template 'total and deterministic' (their statements: YtcbkhlaiefiieabTotals.lean).
  GIVEN WITH THE SEED: the statements are not yours to turn. If you find one false, say at which input.
  Laid BY PROGRAM, IN A SANDBOX (cutbox-rows.mjs): the forced cells as the released guide's own fill.sh prints them over the translation 8edab854596a9fbf… (all of the seat's roots in one cut). By AI agents, Wed Nov 11 2026. No macro, syntax, notation, axiom, sorry.
-/
import Derived.Test.YtcbkhlaiefiieabChecked
import GoSem.Claim
import GoSem.ClaimJoined
import GoSem.ClaimMapViews
import Derived.JoinedTies
import Derived.KernelRfl
namespace Go.Proofs.Ytcbkhlaiefiieab
/- THE CELL 'sum', in the pinned program and in every row, IS THE sha256 OF THE DUMP (.gsa) THAT YtcbkhlaiefiieabProg.lean LOADS. Nothing in Lean hashes anything: it is a label: what it is worth is what the hold of that sum in a sandbox is worth. -/
noncomputable def Try.pinned : Pinned := { name := "ytcbkhlaiefiieab", sum := "8edab854596a9fbf5f2251e772f87de788a52d96a450b7d2a242835e65b72955", checked := Try.checked }
namespace Rows
def none {H : Type} : Left H := { results := [], args := [] }

/-- 'laws.FnExactRoundDyadic': WHATEVER THE INPUT: true; the input reads as it did. -/
def fnExactRoundDyadicSpec : ChangeSpec := { name := "fnExactRoundDyadic", fn := fun _ => fun
  | [d1, d2, d3] => { results := [.lit (.bool true)], args := [d1, d2, d3] }
  | _ => none }
def fnExactRoundDyadicRow : OpenClaim := { program := "ytcbkhlaiefiieab", sum := "8edab854596a9fbf5f2251e772f87de788a52d96a450b7d2a242835e65b72955", func := "loop.example/g01178/laws.FnExactRoundDyadic", spec := "fnExactRoundDyadic", inPlace := ["math.Float64bits", "math.Float64frombits", "math.Float32frombits", "math.Float32bits"], unfollowed := true, recurses := true, apart := false }
def FnExactRoundDyadicSaid : Prop := fnExactRoundDyadicRow.holds Try.pinned (OpenSpec.ofChange fnExactRoundDyadicSpec)

/-- ITS FALSE NEIGHBOUR: 'it returns false'. Refute it at one input. -/
def fnExactRoundDyadicWrong : ChangeSpec := { name := "fnExactRoundDyadic", fn := fun _ => fun
  | [d1, d2, d3] => { results := [.lit (.bool false)], args := [d1, d2, d3] }
  | _ => none }
def FnExactRoundDyadicWrongFalsely : Prop := fnExactRoundDyadicRow.holds Try.pinned (OpenSpec.ofChange fnExactRoundDyadicWrong)

/-- 'laws.FnExactBoundsOf': WHATEVER THE INPUT: true; the input reads as it did. -/
def fnExactBoundsOfSpec : ChangeSpec := { name := "fnExactBoundsOf", fn := fun _ => fun
  | [d1, d2] => { results := [.lit (.bool true)], args := [d1, d2] }
  | _ => none }
def fnExactBoundsOfRow : OpenClaim := { program := "ytcbkhlaiefiieab", sum := "8edab854596a9fbf5f2251e772f87de788a52d96a450b7d2a242835e65b72955", func := "loop.example/g01178/laws.FnExactBoundsOf", spec := "fnExactBoundsOf", inPlace := ["math.Float64bits", "math.Float64frombits", "math.Float32frombits", "math.Float32bits"], unfollowed := true, recurses := true, apart := false }
def FnExactBoundsOfSaid : Prop := fnExactBoundsOfRow.holds Try.pinned (OpenSpec.ofChange fnExactBoundsOfSpec)

/-- ITS FALSE NEIGHBOUR: 'it returns false'. Refute it at one input. -/
def fnExactBoundsOfWrong : ChangeSpec := { name := "fnExactBoundsOf", fn := fun _ => fun
  | [d1, d2] => { results := [.lit (.bool false)], args := [d1, d2] }
  | _ => none }
def FnExactBoundsOfWrongFalsely : Prop := fnExactBoundsOfRow.holds Try.pinned (OpenSpec.ofChange fnExactBoundsOfWrong)

/-- 'laws.FnExactQuietOf': WHATEVER THE INPUT: true; the input reads as it did. -/
def fnExactQuietOfSpec : ChangeSpec := { name := "fnExactQuietOf", fn := fun _ => fun
  | [d] => { results := [.lit (.bool true)], args := [d] }
  | _ => none }
def fnExactQuietOfRow : OpenClaim := { program := "ytcbkhlaiefiieab", sum := "8edab854596a9fbf5f2251e772f87de788a52d96a450b7d2a242835e65b72955", func := "loop.example/g01178/laws.FnExactQuietOf", spec := "fnExactQuietOf", apart := false }
def FnExactQuietOfSaid : Prop := fnExactQuietOfRow.holds Try.pinned (OpenSpec.ofChange fnExactQuietOfSpec)

/-- ITS FALSE NEIGHBOUR: 'it returns false'. Refute it at one input. -/
def fnExactQuietOfWrong : ChangeSpec := { name := "fnExactQuietOf", fn := fun _ => fun
  | [d] => { results := [.lit (.bool false)], args := [d] }
  | _ => none }
def FnExactQuietOfWrongFalsely : Prop := fnExactQuietOfRow.holds Try.pinned (OpenSpec.ofChange fnExactQuietOfWrong)

/-- 'laws.FnExactMaxOf': WHATEVER THE INPUT: true; the input reads as it did. -/
def fnExactMaxOfSpec : ChangeSpec := { name := "fnExactMaxOf", fn := fun _ => fun
  | [d1, d2, d3] => { results := [.lit (.bool true)], args := [d1, d2, d3] }
  | _ => none }
def fnExactMaxOfRow : OpenClaim := { program := "ytcbkhlaiefiieab", sum := "8edab854596a9fbf5f2251e772f87de788a52d96a450b7d2a242835e65b72955", func := "loop.example/g01178/laws.FnExactMaxOf", spec := "fnExactMaxOf", unfollowed := true, recurses := true, apart := false }
def FnExactMaxOfSaid : Prop := fnExactMaxOfRow.holds Try.pinned (OpenSpec.ofChange fnExactMaxOfSpec)

/-- ITS FALSE NEIGHBOUR: 'it returns false'. Refute it at one input. -/
def fnExactMaxOfWrong : ChangeSpec := { name := "fnExactMaxOf", fn := fun _ => fun
  | [d1, d2, d3] => { results := [.lit (.bool false)], args := [d1, d2, d3] }
  | _ => none }
def FnExactMaxOfWrongFalsely : Prop := fnExactMaxOfRow.holds Try.pinned (OpenSpec.ofChange fnExactMaxOfWrong)

/- THE SECOND FORM. 'bulk': how many values and letters a reading holds, each counted each time it is reached (what is shared counts as often as it is met; a slice's spare places count too). A statement '..UptoSaid' is the law's where the arguments, and the package variables that the reading takes, are together of bulk at most 1048576: NARROWER than '..Said'. Prove '..Said' where nothing that the law and all that it calls make is longer than what came in: it says more and counts as full. Else prove '..UptoSaid'. A law counts once. -/
mutual
def uptoBulk {H : Type} : DataW H → Nat
  | .lit (.string bytes) => bytes.length + 1
  | .lit _ => 1
  | .nil => 1
  | .ptr d => uptoBulk d + 1
  | .slice elems spare => uptoBulkAll elems + uptoBulkAll spare + 1
  | .agg parts => uptoBulkAll parts + 1
  | .iface _ d => uptoBulk d + 1
  | .map entries => uptoBulkEntries entries + 1
  | .held _ => 1
def uptoBulkAll {H : Type} : List (DataW H) → Nat
  | [] => 0
  | d :: r => uptoBulk d + uptoBulkAll r
def uptoBulkEntries {H : Type} : List (Lit × DataW H) → Nat
  | [] => 0
  | x :: r => uptoBulkEntry x + uptoBulkEntries r
def uptoBulkEntry {H : Type} : Lit × DataW H → Nat
  | (.string bytes, d) => bytes.length + uptoBulk d + 1
  | (_, d) => uptoBulk d + 1
 end
def uptoSmall : (H : Type) → List (DataW H) → Bool := fun _ ds => decide (uptoBulkAll ds ≤ 1048576)
def OpenSpec.upto (s : _root_.Go.ChangeSpec) : _root_.Go.OpenSpec := { _root_.Go.OpenSpec.ofChange s with cond := some uptoSmall }

/-- 'laws.FnExactRoundDyadic', WHERE WHAT IT READS IS OF BULK AT MOST 1048576: true; the input reads as it did. -/
def fnExactRoundDyadicUptoRow : OpenClaim := { program := "ytcbkhlaiefiieab", sum := "8edab854596a9fbf5f2251e772f87de788a52d96a450b7d2a242835e65b72955", func := "loop.example/g01178/laws.FnExactRoundDyadic", spec := "fnExactRoundDyadic", inPlace := ["math.Float64bits", "math.Float64frombits", "math.Float32frombits", "math.Float32bits"], unfollowed := true, recurses := true, apart := false, narrowed := true }
def FnExactRoundDyadicUptoSaid : Prop := fnExactRoundDyadicUptoRow.holds Try.pinned (OpenSpec.upto fnExactRoundDyadicSpec)

/-- 'laws.FnExactBoundsOf', WHERE WHAT IT READS IS OF BULK AT MOST 1048576: true; the input reads as it did. -/
def fnExactBoundsOfUptoRow : OpenClaim := { program := "ytcbkhlaiefiieab", sum := "8edab854596a9fbf5f2251e772f87de788a52d96a450b7d2a242835e65b72955", func := "loop.example/g01178/laws.FnExactBoundsOf", spec := "fnExactBoundsOf", inPlace := ["math.Float64bits", "math.Float64frombits", "math.Float32frombits", "math.Float32bits"], unfollowed := true, recurses := true, apart := false, narrowed := true }
def FnExactBoundsOfUptoSaid : Prop := fnExactBoundsOfUptoRow.holds Try.pinned (OpenSpec.upto fnExactBoundsOfSpec)

/-- 'laws.FnExactQuietOf', WHERE WHAT IT READS IS OF BULK AT MOST 1048576: true; the input reads as it did. -/
def fnExactQuietOfUptoRow : OpenClaim := { program := "ytcbkhlaiefiieab", sum := "8edab854596a9fbf5f2251e772f87de788a52d96a450b7d2a242835e65b72955", func := "loop.example/g01178/laws.FnExactQuietOf", spec := "fnExactQuietOf", apart := false, narrowed := true }
def FnExactQuietOfUptoSaid : Prop := fnExactQuietOfUptoRow.holds Try.pinned (OpenSpec.upto fnExactQuietOfSpec)

/-- 'laws.FnExactMaxOf', WHERE WHAT IT READS IS OF BULK AT MOST 1048576: true; the input reads as it did. -/
def fnExactMaxOfUptoRow : OpenClaim := { program := "ytcbkhlaiefiieab", sum := "8edab854596a9fbf5f2251e772f87de788a52d96a450b7d2a242835e65b72955", func := "loop.example/g01178/laws.FnExactMaxOf", spec := "fnExactMaxOf", unfollowed := true, recurses := true, apart := false, narrowed := true }
def FnExactMaxOfUptoSaid : Prop := fnExactMaxOfUptoRow.holds Try.pinned (OpenSpec.upto fnExactMaxOfSpec)

end Rows
end Go.Proofs.Ytcbkhlaiefiieab
