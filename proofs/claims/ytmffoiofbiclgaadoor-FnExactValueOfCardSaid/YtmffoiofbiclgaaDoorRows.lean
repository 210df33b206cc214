/-
  NARROWER THAN 'FOR EVERY INPUT', by the rows' own cells (each row's printed sentence says how): FnExactDyadicOf: laid · FnExactValueOf: laid · FnExactUnitOf: laid · FnExactPlusDyadic: laid · FnExactTimesDyadic: laid · FnExactMidpointOf: laid.
  DERIVED. THE GIVEN ROWS OF THIS SEAT. 6 by the template 'for every input the law returns true; each argument reads behind the call as it read before'; 0 by the template 'total and deterministic' (their statements: YtmffoiofbiclgaaDoorTotals.lean).
  GIVEN WITH THE SEED: the statements are not yours to turn. If you find one false, say at which input.
  Laid BY PROGRAM, IN A SANDBOX (cutbox-rows.mjs): the forced cells as the released guide's own fill.sh prints them over the translation dceb0d54dee49adf… (all of the seat's roots in one cut). By AI agents, Wed Nov 11 2026. No macro, syntax, notation, axiom, sorry.
-/
import Derived.Test.YtmffoiofbiclgaaDoorChecked
import GoSem.Claim
import GoSem.ClaimJoined
import GoSem.ClaimMapViews
import Derived.JoinedTies
import Derived.KernelRfl
namespace Go.Proofs.YtmffoiofbiclgaaDoor
/- THE CELL 'sum', in the pinned program and in every row, IS THE sha256 OF THE DUMP (.gsa) THAT YtmffoiofbiclgaaDoorProg.lean LOADS. Nothing in Lean hashes anything: it is a label: what it is worth is what the hold of that sum in a sandbox is worth. -/
noncomputable def Tryd.pinned : Pinned := { name := "ytmffoiofbiclgaadoor", sum := "dceb0d54dee49adf32351c42ed6e6edaee3cf626e3c6f4ee2d7ea2d0f203c8b6", checked := Tryd.checked }
namespace Rows
def none {H : Type} : Left H := { results := [], args := [] }

/- WHAT THE LISTED PACKAGE-LEVEL VARIABLES READ AS WHEN THE CALL BEGINS. Each datum BY PROGRAM (the guide's laid-datum.mjs) off the statement by which the dump's own 'gosem.cut.vars' lays the variable. In a bare row this is a premise. The card (YtmffoiofbiclgaaDoorCards.lean) ties it to the program's text. -/
def laid_math_bits_deBruijn32tab {H : Type} : DataW H := .agg [.lit (.int .u8 0), .lit (.int .u8 1), .lit (.int .u8 28), .lit (.int .u8 2), .lit (.int .u8 29), .lit (.int .u8 14), .lit (.int .u8 24), .lit (.int .u8 3), .lit (.int .u8 30), .lit (.int .u8 22), .lit (.int .u8 20), .lit (.int .u8 15), .lit (.int .u8 25), .lit (.int .u8 17), .lit (.int .u8 4), .lit (.int .u8 8), .lit (.int .u8 31), .lit (.int .u8 27), .lit (.int .u8 13), .lit (.int .u8 23), .lit (.int .u8 21), .lit (.int .u8 19), .lit (.int .u8 16), .lit (.int .u8 7), .lit (.int .u8 26), .lit (.int .u8 12), .lit (.int .u8 18), .lit (.int .u8 6), .lit (.int .u8 11), .lit (.int .u8 5), .lit (.int .u8 10), .lit (.int .u8 9)]
def laid_math_bits_deBruijn64tab {H : Type} : DataW H := .agg [.lit (.int .u8 0), .lit (.int .u8 1), .lit (.int .u8 56), .lit (.int .u8 2), .lit (.int .u8 57), .lit (.int .u8 49), .lit (.int .u8 28), .lit (.int .u8 3), .lit (.int .u8 61), .lit (.int .u8 58), .lit (.int .u8 42), .lit (.int .u8 50), .lit (.int .u8 38), .lit (.int .u8 29), .lit (.int .u8 17), .lit (.int .u8 4), .lit (.int .u8 62), .lit (.int .u8 47), .lit (.int .u8 59), .lit (.int .u8 36), .lit (.int .u8 45), .lit (.int .u8 43), .lit (.int .u8 51), .lit (.int .u8 22), .lit (.int .u8 53), .lit (.int .u8 39), .lit (.int .u8 33), .lit (.int .u8 30), .lit (.int .u8 24), .lit (.int .u8 18), .lit (.int .u8 12), .lit (.int .u8 5), .lit (.int .u8 63), .lit (.int .u8 55), .lit (.int .u8 48), .lit (.int .u8 27), .lit (.int .u8 60), .lit (.int .u8 41), .lit (.int .u8 37), .lit (.int .u8 16), .lit (.int .u8 46), .lit (.int .u8 35), .lit (.int .u8 44), .lit (.int .u8 21), .lit (.int .u8 52), .lit (.int .u8 32), .lit (.int .u8 23), .lit (.int .u8 11), .lit (.int .u8 54), .lit (.int .u8 26), .lit (.int .u8 40), .lit (.int .u8 15), .lit (.int .u8 34), .lit (.int .u8 20), .lit (.int .u8 31), .lit (.int .u8 10), .lit (.int .u8 25), .lit (.int .u8 14), .lit (.int .u8 19), .lit (.int .u8 9), .lit (.int .u8 13), .lit (.int .u8 8), .lit (.int .u8 7), .lit (.int .u8 6)]

/-- 'laws.FnExactDyadicOf': WHATEVER THE INPUT: true; the input reads as it did. -/
def fnExactDyadicOfSpec : ChangeSpec := { name := "fnExactDyadicOf", fn := fun _ => fun
  | [d1, d2] => { results := [.lit (.bool true)], args := [d1, d2] }
  | _ => none }
def fnExactDyadicOfRow : OpenClaim := { program := "ytmffoiofbiclgaadoor", sum := "dceb0d54dee49adf32351c42ed6e6edaee3cf626e3c6f4ee2d7ea2d0f203c8b6", func := "loop.example/g01178/laws.FnExactDyadicOf", spec := "fnExactDyadicOf", named := ["math/bits.deBruijn32tab", "math/bits.deBruijn64tab"], apart := false, laid := [("math/bits.deBruijn32tab", laid_math_bits_deBruijn32tab), ("math/bits.deBruijn64tab", laid_math_bits_deBruijn64tab)] }
def FnExactDyadicOfSaid : Prop := fnExactDyadicOfRow.holds Tryd.pinned (OpenSpec.ofChange fnExactDyadicOfSpec)

/-- ITS FALSE NEIGHBOUR: 'it returns false'. Refute it at one input. -/
def fnExactDyadicOfWrong : ChangeSpec := { name := "fnExactDyadicOf", fn := fun _ => fun
  | [d1, d2] => { results := [.lit (.bool false)], args := [d1, d2] }
  | _ => none }
def FnExactDyadicOfWrongFalsely : Prop := fnExactDyadicOfRow.holds Tryd.pinned (OpenSpec.ofChange fnExactDyadicOfWrong)

/-- 'laws.FnExactValueOf': WHATEVER THE INPUT: true; the input reads as it did. -/
def fnExactValueOfSpec : ChangeSpec := { name := "fnExactValueOf", fn := fun _ => fun
  | [d1, d2] => { results := [.lit (.bool true)], args := [d1, d2] }
  | _ => none }
def fnExactValueOfRow : OpenClaim := { program := "ytmffoiofbiclgaadoor", sum := "dceb0d54dee49adf32351c42ed6e6edaee3cf626e3c6f4ee2d7ea2d0f203c8b6", func := "loop.example/g01178/laws.FnExactValueOf", spec := "fnExactValueOf", inPlace := ["math.Float32frombits"], unfollowed := true, recurses := true, named := ["math/bits.deBruijn32tab", "math/bits.deBruijn64tab"], apart := false, laid := [("math/bits.deBruijn32tab", laid_math_bits_deBruijn32tab), ("math/bits.deBruijn64tab", laid_math_bits_deBruijn64tab)] }
def FnExactValueOfSaid : Prop := fnExactValueOfRow.holds Tryd.pinned (OpenSpec.ofChange fnExactValueOfSpec)

/-- ITS FALSE NEIGHBOUR: 'it returns false'. Refute it at one input. -/
def fnExactValueOfWrong : ChangeSpec := { name := "fnExactValueOf", fn := fun _ => fun
  | [d1, d2] => { results := [.lit (.bool false)], args := [d1, d2] }
  | _ => none }
def FnExactValueOfWrongFalsely : Prop := fnExactValueOfRow.holds Tryd.pinned (OpenSpec.ofChange fnExactValueOfWrong)

/-- 'laws.FnExactUnitOf': WHATEVER THE INPUT: true; the input reads as it did. -/
def fnExactUnitOfSpec : ChangeSpec := { name := "fnExactUnitOf", fn := fun _ => fun
  | [d] => { results := [.lit (.bool true)], args := [d] }
  | _ => none }
def fnExactUnitOfRow : OpenClaim := { program := "ytmffoiofbiclgaadoor", sum := "dceb0d54dee49adf32351c42ed6e6edaee3cf626e3c6f4ee2d7ea2d0f203c8b6", func := "loop.example/g01178/laws.FnExactUnitOf", spec := "fnExactUnitOf", named := ["math/bits.deBruijn32tab", "math/bits.deBruijn64tab"], apart := false, laid := [("math/bits.deBruijn32tab", laid_math_bits_deBruijn32tab), ("math/bits.deBruijn64tab", laid_math_bits_deBruijn64tab)] }
def FnExactUnitOfSaid : Prop := fnExactUnitOfRow.holds Tryd.pinned (OpenSpec.ofChange fnExactUnitOfSpec)

/-- ITS FALSE NEIGHBOUR: 'it returns false'. Refute it at one input. -/
def fnExactUnitOfWrong : ChangeSpec := { name := "fnExactUnitOf", fn := fun _ => fun
  | [d] => { results := [.lit (.bool false)], args := [d] }
  | _ => none }
def FnExactUnitOfWrongFalsely : Prop := fnExactUnitOfRow.holds Tryd.pinned (OpenSpec.ofChange fnExactUnitOfWrong)

/-- 'laws.FnExactPlusDyadic': WHATEVER THE INPUT: true; the input reads as it did. -/
def fnExactPlusDyadicSpec : ChangeSpec := { name := "fnExactPlusDyadic", fn := fun _ => fun
  | [d1, d2] => { results := [.lit (.bool true)], args := [d1, d2] }
  | _ => none }
def fnExactPlusDyadicRow : OpenClaim := { program := "ytmffoiofbiclgaadoor", sum := "dceb0d54dee49adf32351c42ed6e6edaee3cf626e3c6f4ee2d7ea2d0f203c8b6", func := "loop.example/g01178/laws.FnExactPlusDyadic", spec := "fnExactPlusDyadic", named := ["math/bits.deBruijn32tab", "math/bits.deBruijn64tab"], apart := false, laid := [("math/bits.deBruijn32tab", laid_math_bits_deBruijn32tab), ("math/bits.deBruijn64tab", laid_math_bits_deBruijn64tab)] }
def FnExactPlusDyadicSaid : Prop := fnExactPlusDyadicRow.holds Tryd.pinned (OpenSpec.ofChange fnExactPlusDyadicSpec)

/-- ITS FALSE NEIGHBOUR: 'it returns false'. Refute it at one input. -/
def fnExactPlusDyadicWrong : ChangeSpec := { name := "fnExactPlusDyadic", fn := fun _ => fun
  | [d1, d2] => { results := [.lit (.bool false)], args := [d1, d2] }
  | _ => none }
def FnExactPlusDyadicWrongFalsely : Prop := fnExactPlusDyadicRow.holds Tryd.pinned (OpenSpec.ofChange fnExactPlusDyadicWrong)

/-- 'laws.FnExactTimesDyadic': WHATEVER THE INPUT: true; the input reads as it did. -/
def fnExactTimesDyadicSpec : ChangeSpec := { name := "fnExactTimesDyadic", fn := fun _ => fun
  | [d1, d2] => { results := [.lit (.bool true)], args := [d1, d2] }
  | _ => none }
def fnExactTimesDyadicRow : OpenClaim := { program := "ytmffoiofbiclgaadoor", sum := "dceb0d54dee49adf32351c42ed6e6edaee3cf626e3c6f4ee2d7ea2d0f203c8b6", func := "loop.example/g01178/laws.FnExactTimesDyadic", spec := "fnExactTimesDyadic", named := ["math/bits.deBruijn32tab", "math/bits.deBruijn64tab"], apart := false, laid := [("math/bits.deBruijn32tab", laid_math_bits_deBruijn32tab), ("math/bits.deBruijn64tab", laid_math_bits_deBruijn64tab)] }
def FnExactTimesDyadicSaid : Prop := fnExactTimesDyadicRow.holds Tryd.pinned (OpenSpec.ofChange fnExactTimesDyadicSpec)

/-- ITS FALSE NEIGHBOUR: 'it returns false'. Refute it at one input. -/
def fnExactTimesDyadicWrong : ChangeSpec := { name := "fnExactTimesDyadic", fn := fun _ => fun
  | [d1, d2] => { results := [.lit (.bool false)], args := [d1, d2] }
  | _ => none }
def FnExactTimesDyadicWrongFalsely : Prop := fnExactTimesDyadicRow.holds Tryd.pinned (OpenSpec.ofChange fnExactTimesDyadicWrong)

/-- 'laws.FnExactMidpointOf': WHATEVER THE INPUT: true; the input reads as it did. -/
def fnExactMidpointOfSpec : ChangeSpec := { name := "fnExactMidpointOf", fn := fun _ => fun
  | [d1, d2] => { results := [.lit (.bool true)], args := [d1, d2] }
  | _ => none }
def fnExactMidpointOfRow : OpenClaim := { program := "ytmffoiofbiclgaadoor", sum := "dceb0d54dee49adf32351c42ed6e6edaee3cf626e3c6f4ee2d7ea2d0f203c8b6", func := "loop.example/g01178/laws.FnExactMidpointOf", spec := "fnExactMidpointOf", inPlace := ["math.Float32frombits"], unfollowed := true, recurses := true, named := ["math/bits.deBruijn32tab", "math/bits.deBruijn64tab"], apart := false, laid := [("math/bits.deBruijn32tab", laid_math_bits_deBruijn32tab), ("math/bits.deBruijn64tab", laid_math_bits_deBruijn64tab)] }
def FnExactMidpointOfSaid : Prop := fnExactMidpointOfRow.holds Tryd.pinned (OpenSpec.ofChange fnExactMidpointOfSpec)

/-- ITS FALSE NEIGHBOUR: 'it returns false'. Refute it at one input. -/
def fnExactMidpointOfWrong : ChangeSpec := { name := "fnExactMidpointOf", fn := fun _ => fun
  | [d1, d2] => { results := [.lit (.bool false)], args := [d1, d2] }
  | _ => none }
def FnExactMidpointOfWrongFalsely : Prop := fnExactMidpointOfRow.holds Tryd.pinned (OpenSpec.ofChange fnExactMidpointOfWrong)

/- THE SECOND FORM. 'bulk': how many values and letters a reading holds, each counted each time it is reached (what is shared counts as often as it is met; a slice's spare places count too). A statement '..UptoSaid' is the law's where the arguments, and the package variables that the reading takes, are together of bulk at most 1048576: NARROWER than '..Said'. Prove '..Said' where nothing that the law and all that it calls make is longer than what came in: it says more and counts as full. Else prove '..UptoSaid'. A law counts once. -/
mutual
def uptoBulk {H : Type} : DataW H → Nat
  | .lit (.string bytes) => bytes.length + 1
  | .lit _ => 1
  | .nil => 1
  | .ptr d => uptoBulk d + 1
  | .slice elems spare => uptoBulkAll elems + uptoBulkAll spare + 1
  | .agg parts => uptoBulkAll parts + 1
  | .iface _ d => uptoBulk d + 1
  | .map entries => uptoBulkEntries entries + 1
  | .held _ => 1
def uptoBulkAll {H : Type} : List (DataW H) → Nat
  | [] => 0
  | d :: r => uptoBulk d + uptoBulkAll r
def uptoBulkEntries {H : Type} : List (Lit × DataW H) → Nat
  | [] => 0
  | x :: r => uptoBulkEntry x + uptoBulkEntries r
def uptoBulkEntry {H : Type} : Lit × DataW H → Nat
  | (.string bytes, d) => bytes.length + uptoBulk d + 1
  | (_, d) => uptoBulk d + 1
 end
def uptoSmall : (H : Type) → List (DataW H) → Bool := fun _ ds => decide (uptoBulkAll ds ≤ 1048576)
def OpenSpec.upto (s : _root_.Go.ChangeSpec) : _root_.Go.OpenSpec := { _root_.Go.OpenSpec.ofChange s with cond := some uptoSmall }

/-- 'laws.FnExactDyadicOf', WHERE WHAT IT READS IS OF BULK AT MOST 1048576: true; the input reads as it did. -/
def fnExactDyadicOfUptoRow : OpenClaim := { program := "ytmffoiofbiclgaadoor", sum := "dceb0d54dee49adf32351c42ed6e6edaee3cf626e3c6f4ee2d7ea2d0f203c8b6", func := "loop.example/g01178/laws.FnExactDyadicOf", spec := "fnExactDyadicOf", named := ["math/bits.deBruijn32tab", "math/bits.deBruijn64tab"], apart := false, laid := [("math/bits.deBruijn32tab", laid_math_bits_deBruijn32tab), ("math/bits.deBruijn64tab", laid_math_bits_deBruijn64tab)], narrowed := true }
def FnExactDyadicOfUptoSaid : Prop := fnExactDyadicOfUptoRow.holds Tryd.pinned (OpenSpec.upto fnExactDyadicOfSpec)

/-- 'laws.FnExactValueOf', WHERE WHAT IT READS IS OF BULK AT MOST 1048576: true; the input reads as it did. -/
def fnExactValueOfUptoRow : OpenClaim := { program := "ytmffoiofbiclgaadoor", sum := "dceb0d54dee49adf32351c42ed6e6edaee3cf626e3c6f4ee2d7ea2d0f203c8b6", func := "loop.example/g01178/laws.FnExactValueOf", spec := "fnExactValueOf", inPlace := ["math.Float32frombits"], unfollowed := true, recurses := true, named := ["math/bits.deBruijn32tab", "math/bits.deBruijn64tab"], apart := false, laid := [("math/bits.deBruijn32tab", laid_math_bits_deBruijn32tab), ("math/bits.deBruijn64tab", laid_math_bits_deBruijn64tab)], narrowed := true }
def FnExactValueOfUptoSaid : Prop := fnExactValueOfUptoRow.holds Tryd.pinned (OpenSpec.upto fnExactValueOfSpec)

/-- 'laws.FnExactUnitOf', WHERE WHAT IT READS IS OF BULK AT MOST 1048576: true; the input reads as it did. -/
def fnExactUnitOfUptoRow : OpenClaim := { program := "ytmffoiofbiclgaadoor", sum := "dceb0d54dee49adf32351c42ed6e6edaee3cf626e3c6f4ee2d7ea2d0f203c8b6", func := "loop.example/g01178/laws.FnExactUnitOf", spec := "fnExactUnitOf", named := ["math/bits.deBruijn32tab", "math/bits.deBruijn64tab"], apart := false, laid := [("math/bits.deBruijn32tab", laid_math_bits_deBruijn32tab), ("math/bits.deBruijn64tab", laid_math_bits_deBruijn64tab)], narrowed := true }
def FnExactUnitOfUptoSaid : Prop := fnExactUnitOfUptoRow.holds Tryd.pinned (OpenSpec.upto fnExactUnitOfSpec)

/-- 'laws.FnExactPlusDyadic', WHERE WHAT IT READS IS OF BULK AT MOST 1048576: true; the input reads as it did. -/
def fnExactPlusDyadicUptoRow : OpenClaim := { program := "ytmffoiofbiclgaadoor", sum := "dceb0d54dee49adf32351c42ed6e6edaee3cf626e3c6f4ee2d7ea2d0f203c8b6", func := "loop.example/g01178/laws.FnExactPlusDyadic", spec := "fnExactPlusDyadic", named := ["math/bits.deBruijn32tab", "math/bits.deBruijn64tab"], apart := false, laid := [("math/bits.deBruijn32tab", laid_math_bits_deBruijn32tab), ("math/bits.deBruijn64tab", laid_math_bits_deBruijn64tab)], narrowed := true }
def FnExactPlusDyadicUptoSaid : Prop := fnExactPlusDyadicUptoRow.holds Tryd.pinned (OpenSpec.upto fnExactPlusDyadicSpec)

/-- 'laws.FnExactTimesDyadic', WHERE WHAT IT READS IS OF BULK AT MOST 1048576: true; the input reads as it did. -/
def fnExactTimesDyadicUptoRow : OpenClaim := { program := "ytmffoiofbiclgaadoor", sum := "dceb0d54dee49adf32351c42ed6e6edaee3cf626e3c6f4ee2d7ea2d0f203c8b6", func := "loop.example/g01178/laws.FnExactTimesDyadic", spec := "fnExactTimesDyadic", named := ["math/bits.deBruijn32tab", "math/bits.deBruijn64tab"], apart := false, laid := [("math/bits.deBruijn32tab", laid_math_bits_deBruijn32tab), ("math/bits.deBruijn64tab", laid_math_bits_deBruijn64tab)], narrowed := true }
def FnExactTimesDyadicUptoSaid : Prop := fnExactTimesDyadicUptoRow.holds Tryd.pinned (OpenSpec.upto fnExactTimesDyadicSpec)

/-- 'laws.FnExactMidpointOf', WHERE WHAT IT READS IS OF BULK AT MOST 1048576: true; the input reads as it did. -/
def fnExactMidpointOfUptoRow : OpenClaim := { program := "ytmffoiofbiclgaadoor", sum := "dceb0d54dee49adf32351c42ed6e6edaee3cf626e3c6f4ee2d7ea2d0f203c8b6", func := "loop.example/g01178/laws.FnExactMidpointOf", spec := "fnExactMidpointOf", inPlace := ["math.Float32frombits"], unfollowed := true, recurses := true, named := ["math/bits.deBruijn32tab", "math/bits.deBruijn64tab"], apart := false, laid := [("math/bits.deBruijn32tab", laid_math_bits_deBruijn32tab), ("math/bits.deBruijn64tab", laid_math_bits_deBruijn64tab)], narrowed := true }
def FnExactMidpointOfUptoSaid : Prop := fnExactMidpointOfUptoRow.holds Tryd.pinned (OpenSpec.upto fnExactMidpointOfSpec)

end Rows
end Go.Proofs.YtmffoiofbiclgaaDoor
