/-
  NARROWER THAN 'FOR EVERY INPUT', by the rows' own cells (each row's printed sentence says how): FnExactDyadicOf: laid · FnExactValueOf: laid · FnExactUnitOf: laid · FnExactPlusDyadic: laid · FnExactTimesDyadic: laid · FnExactFlagsOf: laid · FnExactIsExact: laid · FnExactMidpointOf: laid · FnExactIsMidpoint: laid · FnExactErrorOf: laid · FnExactExactPlus: laid · FnExactExactTimes: laid · FnExactHoldsFormat: laid · FnExactLeastHolding: laid.
  DERIVED. THE GIVEN ROWS OF THIS SEAT. 14 by the template 'for every input the law returns true; each argument reads behind the call as it read before'; 0 by the template 'total and deterministic' (their statements: YtcbkhlaiefiieabDoorTotals.lean).
  GIVEN WITH THE SEED: the statements are not yours to turn. If you find one false, say at which input.
  Laid BY PROGRAM, IN A SANDBOX (cutbox-rows.mjs): the forced cells as the released guide's own fill.sh prints them over the translation 7fa0f475332b1ecb… (all of the seat's roots in one cut). By AI agents, Wed Nov 11 2026. No macro, syntax, notation, axiom, sorry.
-/
import Derived.Test.YtcbkhlaiefiieabDoorChecked
import GoSem.Claim
import GoSem.ClaimJoined
import GoSem.ClaimMapViews
import Derived.JoinedTies
import Derived.KernelRfl
namespace Go.Proofs.YtcbkhlaiefiieabDoor
/- THE CELL 'sum', in the pinned program and in every row, IS THE sha256 OF THE DUMP (.gsa) THAT YtcbkhlaiefiieabDoorProg.lean LOADS. Nothing in Lean hashes anything: it is a label: what it is worth is what the hold of that sum in a sandbox is worth. -/
noncomputable def Tryd.pinned : Pinned := { name := "ytcbkhlaiefiieabdoor", sum := "7fa0f475332b1ecb0c62fab112895a7715dce3de27c06b98ca0461a8ba70386a", checked := Tryd.checked }
namespace Rows
def none {H : Type} : Left H := { results := [], args := [] }

/- WHAT THE LISTED PACKAGE-LEVEL VARIABLES READ AS WHEN THE CALL BEGINS. Each datum BY PROGRAM (the guide's laid-datum.mjs) off the statement by which the dump's own 'gosem.cut.vars' lays the variable. In a bare row this is a premise. The card (YtcbkhlaiefiieabDoorCards.lean) ties it to the program's text. -/
def laid_math_bits_deBruijn32tab {H : Type} : DataW H := .agg [.lit (.int .u8 0), .lit (.int .u8 1), .lit (.int .u8 28), .lit (.int .u8 2), .lit (.int .u8 29), .lit (.int .u8 14), .lit (.int .u8 24), .lit (.int .u8 3), .lit (.int .u8 30), .lit (.int .u8 22), .lit (.int .u8 20), .lit (.int .u8 15), .lit (.int .u8 25), .lit (.int .u8 17), .lit (.int .u8 4), .lit (.int .u8 8), .lit (.int .u8 31), .lit (.int .u8 27), .lit (.int .u8 13), .lit (.int .u8 23), .lit (.int .u8 21), .lit (.int .u8 19), .lit (.int .u8 16), .lit (.int .u8 7), .lit (.int .u8 26), .lit (.int .u8 12), .lit (.int .u8 18), .lit (.int .u8 6), .lit (.int .u8 11), .lit (.int .u8 5), .lit (.int .u8 10), .lit (.int .u8 9)]
def laid_math_bits_deBruijn64tab {H : Type} : DataW H := .agg [.lit (.int .u8 0), .lit (.int .u8 1), .lit (.int .u8 56), .lit (.int .u8 2), .lit (.int .u8 57), .lit (.int .u8 49), .lit (.int .u8 28), .lit (.int .u8 3), .lit (.int .u8 61), .lit (.int .u8 58), .lit (.int .u8 42), .lit (.int .u8 50), .lit (.int .u8 38), .lit (.int .u8 29), .lit (.int .u8 17), .lit (.int .u8 4), .lit (.int .u8 62), .lit (.int .u8 47), .lit (.int .u8 59), .lit (.int .u8 36), .lit (.int .u8 45), .lit (.int .u8 43), .lit (.int .u8 51), .lit (.int .u8 22), .lit (.int .u8 53), .lit (.int .u8 39), .lit (.int .u8 33), .lit (.int .u8 30), .lit (.int .u8 24), .lit (.int .u8 18), .lit (.int .u8 12), .lit (.int .u8 5), .lit (.int .u8 63), .lit (.int .u8 55), .lit (.int .u8 48), .lit (.int .u8 27), .lit (.int .u8 60), .lit (.int .u8 41), .lit (.int .u8 37), .lit (.int .u8 16), .lit (.int .u8 46), .lit (.int .u8 35), .lit (.int .u8 44), .lit (.int .u8 21), .lit (.int .u8 52), .lit (.int .u8 32), .lit (.int .u8 23), .lit (.int .u8 11), .lit (.int .u8 54), .lit (.int .u8 26), .lit (.int .u8 40), .lit (.int .u8 15), .lit (.int .u8 34), .lit (.int .u8 20), .lit (.int .u8 31), .lit (.int .u8 10), .lit (.int .u8 25), .lit (.int .u8 14), .lit (.int .u8 19), .lit (.int .u8 9), .lit (.int .u8 13), .lit (.int .u8 8), .lit (.int .u8 7), .lit (.int .u8 6)]

/-- 'laws.FnExactDyadicOf': WHATEVER THE INPUT: true; the input reads as it did. -/
def fnExactDyadicOfSpec : ChangeSpec := { name := "fnExactDyadicOf", fn := fun _ => fun
  | [d1, d2] => { results := [.lit (.bool true)], args := [d1, d2] }
  | _ => none }
def fnExactDyadicOfRow : OpenClaim := { program := "ytcbkhlaiefiieabdoor", sum := "7fa0f475332b1ecb0c62fab112895a7715dce3de27c06b98ca0461a8ba70386a", func := "loop.example/g01178/laws.FnExactDyadicOf", spec := "fnExactDyadicOf", named := ["math/bits.deBruijn32tab", "math/bits.deBruijn64tab"], apart := false, laid := [("math/bits.deBruijn32tab", laid_math_bits_deBruijn32tab), ("math/bits.deBruijn64tab", laid_math_bits_deBruijn64tab)] }
def FnExactDyadicOfSaid : Prop := fnExactDyadicOfRow.holds Tryd.pinned (OpenSpec.ofChange fnExactDyadicOfSpec)

/-- ITS FALSE NEIGHBOUR: 'it returns false'. Refute it at one input. -/
def fnExactDyadicOfWrong : ChangeSpec := { name := "fnExactDyadicOf", fn := fun _ => fun
  | [d1, d2] => { results := [.lit (.bool false)], args := [d1, d2] }
  | _ => none }
def FnExactDyadicOfWrongFalsely : Prop := fnExactDyadicOfRow.holds Tryd.pinned (OpenSpec.ofChange fnExactDyadicOfWrong)

/-- 'laws.FnExactValueOf': WHATEVER THE INPUT: true; the input reads as it did. -/
def fnExactValueOfSpec : ChangeSpec := { name := "fnExactValueOf", fn := fun _ => fun
  | [d1, d2] => { results := [.lit (.bool true)], args := [d1, d2] }
  | _ => none }
def fnExactValueOfRow : OpenClaim := { program := "ytcbkhlaiefiieabdoor", sum := "7fa0f475332b1ecb0c62fab112895a7715dce3de27c06b98ca0461a8ba70386a", func := "loop.example/g01178/laws.FnExactValueOf", spec := "fnExactValueOf", inPlace := ["math.Float32frombits"], unfollowed := true, recurses := true, named := ["math/bits.deBruijn32tab", "math/bits.deBruijn64tab"], apart := false, laid := [("math/bits.deBruijn32tab", laid_math_bits_deBruijn32tab), ("math/bits.deBruijn64tab", laid_math_bits_deBruijn64tab)] }
def FnExactValueOfSaid : Prop := fnExactValueOfRow.holds Tryd.pinned (OpenSpec.ofChange fnExactValueOfSpec)

/-- ITS FALSE NEIGHBOUR: 'it returns false'. Refute it at one input. -/
def fnExactValueOfWrong : ChangeSpec := { name := "fnExactValueOf", fn := fun _ => fun
  | [d1, d2] => { results := [.lit (.bool false)], args := [d1, d2] }
  | _ => none }
def FnExactValueOfWrongFalsely : Prop := fnExactValueOfRow.holds Tryd.pinned (OpenSpec.ofChange fnExactValueOfWrong)

/-- 'laws.FnExactUnitOf': WHATEVER THE INPUT: true; the input reads as it did. -/
def fnExactUnitOfSpec : ChangeSpec := { name := "fnExactUnitOf", fn := fun _ => fun
  | [d] => { results := [.lit (.bool true)], args := [d] }
  | _ => none }
def fnExactUnitOfRow : OpenClaim := { program := "ytcbkhlaiefiieabdoor", sum := "7fa0f475332b1ecb0c62fab112895a7715dce3de27c06b98ca0461a8ba70386a", func := "loop.example/g01178/laws.FnExactUnitOf", spec := "fnExactUnitOf", named := ["math/bits.deBruijn32tab", "math/bits.deBruijn64tab"], apart := false, laid := [("math/bits.deBruijn32tab", laid_math_bits_deBruijn32tab), ("math/bits.deBruijn64tab", laid_math_bits_deBruijn64tab)] }
def FnExactUnitOfSaid : Prop := fnExactUnitOfRow.holds Tryd.pinned (OpenSpec.ofChange fnExactUnitOfSpec)

/-- ITS FALSE NEIGHBOUR: 'it returns false'. Refute it at one input. -/
def fnExactUnitOfWrong : ChangeSpec := { name := "fnExactUnitOf", fn := fun _ => fun
  | [d] => { results := [.lit (.bool false)], args := [d] }
  | _ => none }
def FnExactUnitOfWrongFalsely : Prop := fnExactUnitOfRow.holds Tryd.pinned (OpenSpec.ofChange fnExactUnitOfWrong)

/-- 'laws.FnExactPlusDyadic': WHATEVER THE INPUT: true; the input reads as it did. -/
def fnExactPlusDyadicSpec : ChangeSpec := { name := "fnExactPlusDyadic", fn := fun _ => fun
  | [d1, d2] => { results := [.lit (.bool true)], args := [d1, d2] }
  | _ => none }
def fnExactPlusDyadicRow : OpenClaim := { program := "ytcbkhlaiefiieabdoor", sum := "7fa0f475332b1ecb0c62fab112895a7715dce3de27c06b98ca0461a8ba70386a", func := "loop.example/g01178/laws.FnExactPlusDyadic", spec := "fnExactPlusDyadic", named := ["math/bits.deBruijn32tab", "math/bits.deBruijn64tab"], apart := false, laid := [("math/bits.deBruijn32tab", laid_math_bits_deBruijn32tab), ("math/bits.deBruijn64tab", laid_math_bits_deBruijn64tab)] }
def FnExactPlusDyadicSaid : Prop := fnExactPlusDyadicRow.holds Tryd.pinned (OpenSpec.ofChange fnExactPlusDyadicSpec)

/-- ITS FALSE NEIGHBOUR: 'it returns false'. Refute it at one input. -/
def fnExactPlusDyadicWrong : ChangeSpec := { name := "fnExactPlusDyadic", fn := fun _ => fun
  | [d1, d2] => { results := [.lit (.bool false)], args := [d1, d2] }
  | _ => none }
def FnExactPlusDyadicWrongFalsely : Prop := fnExactPlusDyadicRow.holds Tryd.pinned (OpenSpec.ofChange fnExactPlusDyadicWrong)

/-- 'laws.FnExactTimesDyadic': WHATEVER THE INPUT: true; the input reads as it did. -/
def fnExactTimesDyadicSpec : ChangeSpec := { name := "fnExactTimesDyadic", fn := fun _ => fun
  | [d1, d2] => { results := [.lit (.bool true)], args := [d1, d2] }
  | _ => none }
def fnExactTimesDyadicRow : OpenClaim := { program := "ytcbkhlaiefiieabdoor", sum := "7fa0f475332b1ecb0c62fab112895a7715dce3de27c06b98ca0461a8ba70386a", func := "loop.example/g01178/laws.FnExactTimesDyadic", spec := "fnExactTimesDyadic", named := ["math/bits.deBruijn32tab", "math/bits.deBruijn64tab"], apart := false, laid := [("math/bits.deBruijn32tab", laid_math_bits_deBruijn32tab), ("math/bits.deBruijn64tab", laid_math_bits_deBruijn64tab)] }
def FnExactTimesDyadicSaid : Prop := fnExactTimesDyadicRow.holds Tryd.pinned (OpenSpec.ofChange fnExactTimesDyadicSpec)

/-- ITS FALSE NEIGHBOUR: 'it returns false'. Refute it at one input. -/
def fnExactTimesDyadicWrong : ChangeSpec := { name := "fnExactTimesDyadic", fn := fun _ => fun
  | [d1, d2] => { results := [.lit (.bool false)], args := [d1, d2] }
  | _ => none }
def FnExactTimesDyadicWrongFalsely : Prop := fnExactTimesDyadicRow.holds Tryd.pinned (OpenSpec.ofChange fnExactTimesDyadicWrong)

/-- 'laws.FnExactFlagsOf': WHATEVER THE INPUT: true; the input reads as it did. -/
def fnExactFlagsOfSpec : ChangeSpec := { name := "fnExactFlagsOf", fn := fun _ => fun
  | [d1, d2] => { results := [.lit (.bool true)], args := [d1, d2] }
  | _ => none }
def fnExactFlagsOfRow : OpenClaim := { program := "ytcbkhlaiefiieabdoor", sum := "7fa0f475332b1ecb0c62fab112895a7715dce3de27c06b98ca0461a8ba70386a", func := "loop.example/g01178/laws.FnExactFlagsOf", spec := "fnExactFlagsOf", inPlace := ["math.Float64bits", "math.Float64frombits", "math.Float32frombits", "math.Float32bits"], unfollowed := true, recurses := true, named := ["math/bits.deBruijn32tab", "math/bits.deBruijn64tab"], apart := false, laid := [("math/bits.deBruijn32tab", laid_math_bits_deBruijn32tab), ("math/bits.deBruijn64tab", laid_math_bits_deBruijn64tab)] }
def FnExactFlagsOfSaid : Prop := fnExactFlagsOfRow.holds Tryd.pinned (OpenSpec.ofChange fnExactFlagsOfSpec)

/-- ITS FALSE NEIGHBOUR: 'it returns false'. Refute it at one input. -/
def fnExactFlagsOfWrong : ChangeSpec := { name := "fnExactFlagsOf", fn := fun _ => fun
  | [d1, d2] => { results := [.lit (.bool false)], args := [d1, d2] }
  | _ => none }
def FnExactFlagsOfWrongFalsely : Prop := fnExactFlagsOfRow.holds Tryd.pinned (OpenSpec.ofChange fnExactFlagsOfWrong)

/-- 'laws.FnExactIsExact': WHATEVER THE INPUT: true; the input reads as it did. -/
def fnExactIsExactSpec : ChangeSpec := { name := "fnExactIsExact", fn := fun _ => fun
  | [d1, d2] => { results := [.lit (.bool true)], args := [d1, d2] }
  | _ => none }
def fnExactIsExactRow : OpenClaim := { program := "ytcbkhlaiefiieabdoor", sum := "7fa0f475332b1ecb0c62fab112895a7715dce3de27c06b98ca0461a8ba70386a", func := "loop.example/g01178/laws.FnExactIsExact", spec := "fnExactIsExact", inPlace := ["math.Float64bits", "math.Float64frombits", "math.Float32frombits", "math.Float32bits"], unfollowed := true, recurses := true, named := ["math/bits.deBruijn32tab", "math/bits.deBruijn64tab"], apart := false, laid := [("math/bits.deBruijn32tab", laid_math_bits_deBruijn32tab), ("math/bits.deBruijn64tab", laid_math_bits_deBruijn64tab)] }
def FnExactIsExactSaid : Prop := fnExactIsExactRow.holds Tryd.pinned (OpenSpec.ofChange fnExactIsExactSpec)

/-- ITS FALSE NEIGHBOUR: 'it returns false'. Refute it at one input. -/
def fnExactIsExactWrong : ChangeSpec := { name := "fnExactIsExact", fn := fun _ => fun
  | [d1, d2] => { results := [.lit (.bool false)], args := [d1, d2] }
  | _ => none }
def FnExactIsExactWrongFalsely : Prop := fnExactIsExactRow.holds Tryd.pinned (OpenSpec.ofChange fnExactIsExactWrong)

/-- 'laws.FnExactMidpointOf': WHATEVER THE INPUT: true; the input reads as it did. -/
def fnExactMidpointOfSpec : ChangeSpec := { name := "fnExactMidpointOf", fn := fun _ => fun
  | [d1, d2] => { results := [.lit (.bool true)], args := [d1, d2] }
  | _ => none }
def fnExactMidpointOfRow : OpenClaim := { program := "ytcbkhlaiefiieabdoor", sum := "7fa0f475332b1ecb0c62fab112895a7715dce3de27c06b98ca0461a8ba70386a", func := "loop.example/g01178/laws.FnExactMidpointOf", spec := "fnExactMidpointOf", inPlace := ["math.Float32frombits"], unfollowed := true, recurses := true, named := ["math/bits.deBruijn32tab", "math/bits.deBruijn64tab"], apart := false, laid := [("math/bits.deBruijn32tab", laid_math_bits_deBruijn32tab), ("math/bits.deBruijn64tab", laid_math_bits_deBruijn64tab)] }
def FnExactMidpointOfSaid : Prop := fnExactMidpointOfRow.holds Tryd.pinned (OpenSpec.ofChange fnExactMidpointOfSpec)

/-- ITS FALSE NEIGHBOUR: 'it returns false'. Refute it at one input. -/
def fnExactMidpointOfWrong : ChangeSpec := { name := "fnExactMidpointOf", fn := fun _ => fun
  | [d1, d2] => { results := [.lit (.bool false)], args := [d1, d2] }
  | _ => none }
def FnExactMidpointOfWrongFalsely : Prop := fnExactMidpointOfRow.holds Tryd.pinned (OpenSpec.ofChange fnExactMidpointOfWrong)

/-- 'laws.FnExactIsMidpoint': WHATEVER THE INPUT: true; the input reads as it did. -/
def fnExactIsMidpointSpec : ChangeSpec := { name := "fnExactIsMidpoint", fn := fun _ => fun
  | [d1, d2] => { results := [.lit (.bool true)], args := [d1, d2] }
  | _ => none }
def fnExactIsMidpointRow : OpenClaim := { program := "ytcbkhlaiefiieabdoor", sum := "7fa0f475332b1ecb0c62fab112895a7715dce3de27c06b98ca0461a8ba70386a", func := "loop.example/g01178/laws.FnExactIsMidpoint", spec := "fnExactIsMidpoint", inPlace := ["math.Float64bits", "math.Float64frombits", "math.Float32frombits", "math.Float32bits"], unfollowed := true, recurses := true, named := ["math/bits.deBruijn32tab", "math/bits.deBruijn64tab"], apart := false, laid := [("math/bits.deBruijn32tab", laid_math_bits_deBruijn32tab), ("math/bits.deBruijn64tab", laid_math_bits_deBruijn64tab)] }
def FnExactIsMidpointSaid : Prop := fnExactIsMidpointRow.holds Tryd.pinned (OpenSpec.ofChange fnExactIsMidpointSpec)

/-- ITS FALSE NEIGHBOUR: 'it returns false'. Refute it at one input. -/
def fnExactIsMidpointWrong : ChangeSpec := { name := "fnExactIsMidpoint", fn := fun _ => fun
  | [d1, d2] => { results := [.lit (.bool false)], args := [d1, d2] }
  | _ => none }
def FnExactIsMidpointWrongFalsely : Prop := fnExactIsMidpointRow.holds Tryd.pinned (OpenSpec.ofChange fnExactIsMidpointWrong)

/-- 'laws.FnExactErrorOf': WHATEVER THE INPUT: true; the input reads as it did. -/
def fnExactErrorOfSpec : ChangeSpec := { name := "fnExactErrorOf", fn := fun _ => fun
  | [d1, d2, d3] => { results := [.lit (.bool true)], args := [d1, d2, d3] }
  | _ => none }
def fnExactErrorOfRow : OpenClaim := { program := "ytcbkhlaiefiieabdoor", sum := "7fa0f475332b1ecb0c62fab112895a7715dce3de27c06b98ca0461a8ba70386a", func := "loop.example/g01178/laws.FnExactErrorOf", spec := "fnExactErrorOf", inPlace := ["math.Float64bits", "math.Float64frombits", "math.Float32frombits", "math.Float32bits"], unfollowed := true, recurses := true, named := ["math/bits.deBruijn32tab", "math/bits.deBruijn64tab"], apart := false, laid := [("math/bits.deBruijn32tab", laid_math_bits_deBruijn32tab), ("math/bits.deBruijn64tab", laid_math_bits_deBruijn64tab)] }
def FnExactErrorOfSaid : Prop := fnExactErrorOfRow.holds Tryd.pinned (OpenSpec.ofChange fnExactErrorOfSpec)

/-- ITS FALSE NEIGHBOUR: 'it returns false'. Refute it at one input. -/
def fnExactErrorOfWrong : ChangeSpec := { name := "fnExactErrorOf", fn := fun _ => fun
  | [d1, d2, d3] => { results := [.lit (.bool false)], args := [d1, d2, d3] }
  | _ => none }
def FnExactErrorOfWrongFalsely : Prop := fnExactErrorOfRow.holds Tryd.pinned (OpenSpec.ofChange fnExactErrorOfWrong)

/-- 'laws.FnExactExactPlus': WHATEVER THE INPUT: true; the input reads as it did. -/
def fnExactExactPlusSpec : ChangeSpec := { name := "fnExactExactPlus", fn := fun _ => fun
  | [d1, d2, d3] => { results := [.lit (.bool true)], args := [d1, d2, d3] }
  | _ => none }
def fnExactExactPlusRow : OpenClaim := { program := "ytcbkhlaiefiieabdoor", sum := "7fa0f475332b1ecb0c62fab112895a7715dce3de27c06b98ca0461a8ba70386a", func := "loop.example/g01178/laws.FnExactExactPlus", spec := "fnExactExactPlus", inPlace := ["math.Float32frombits", "math.Float64bits", "math.Float64frombits", "math.Float32bits"], unfollowed := true, recurses := true, named := ["math/bits.deBruijn32tab", "math/bits.deBruijn64tab"], apart := false, laid := [("math/bits.deBruijn32tab", laid_math_bits_deBruijn32tab), ("math/bits.deBruijn64tab", laid_math_bits_deBruijn64tab)] }
def FnExactExactPlusSaid : Prop := fnExactExactPlusRow.holds Tryd.pinned (OpenSpec.ofChange fnExactExactPlusSpec)

/-- ITS FALSE NEIGHBOUR: 'it returns false'. Refute it at one input. -/
def fnExactExactPlusWrong : ChangeSpec := { name := "fnExactExactPlus", fn := fun _ => fun
  | [d1, d2, d3] => { results := [.lit (.bool false)], args := [d1, d2, d3] }
  | _ => none }
def FnExactExactPlusWrongFalsely : Prop := fnExactExactPlusRow.holds Tryd.pinned (OpenSpec.ofChange fnExactExactPlusWrong)

/-- 'laws.FnExactExactTimes': WHATEVER THE INPUT: true; the input reads as it did. -/
def fnExactExactTimesSpec : ChangeSpec := { name := "fnExactExactTimes", fn := fun _ => fun
  | [d1, d2, d3] => { results := [.lit (.bool true)], args := [d1, d2, d3] }
  | _ => none }
def fnExactExactTimesRow : OpenClaim := { program := "ytcbkhlaiefiieabdoor", sum := "7fa0f475332b1ecb0c62fab112895a7715dce3de27c06b98ca0461a8ba70386a", func := "loop.example/g01178/laws.FnExactExactTimes", spec := "fnExactExactTimes", inPlace := ["math.Float32frombits", "math.Float64bits", "math.Float64frombits", "math.Float32bits"], unfollowed := true, recurses := true, named := ["math/bits.deBruijn32tab", "math/bits.deBruijn64tab"], apart := false, laid := [("math/bits.deBruijn32tab", laid_math_bits_deBruijn32tab), ("math/bits.deBruijn64tab", laid_math_bits_deBruijn64tab)] }
def FnExactExactTimesSaid : Prop := fnExactExactTimesRow.holds Tryd.pinned (OpenSpec.ofChange fnExactExactTimesSpec)

/-- ITS FALSE NEIGHBOUR: 'it returns false'. Refute it at one input. -/
def fnExactExactTimesWrong : ChangeSpec := { name := "fnExactExactTimes", fn := fun _ => fun
  | [d1, d2, d3] => { results := [.lit (.bool false)], args := [d1, d2, d3] }
  | _ => none }
def FnExactExactTimesWrongFalsely : Prop := fnExactExactTimesRow.holds Tryd.pinned (OpenSpec.ofChange fnExactExactTimesWrong)

/-- 'laws.FnExactHoldsFormat': WHATEVER THE INPUT: true; the input reads as it did. -/
def fnExactHoldsFormatSpec : ChangeSpec := { name := "fnExactHoldsFormat", fn := fun _ => fun
  | [d1, d2] => { results := [.lit (.bool true)], args := [d1, d2] }
  | _ => none }
def fnExactHoldsFormatRow : OpenClaim := { program := "ytcbkhlaiefiieabdoor", sum := "7fa0f475332b1ecb0c62fab112895a7715dce3de27c06b98ca0461a8ba70386a", func := "loop.example/g01178/laws.FnExactHoldsFormat", spec := "fnExactHoldsFormat", inPlace := ["math.Float32frombits"], unfollowed := true, recurses := true, named := ["math/bits.deBruijn32tab", "math/bits.deBruijn64tab"], apart := false, laid := [("math/bits.deBruijn32tab", laid_math_bits_deBruijn32tab), ("math/bits.deBruijn64tab", laid_math_bits_deBruijn64tab)] }
def FnExactHoldsFormatSaid : Prop := fnExactHoldsFormatRow.holds Tryd.pinned (OpenSpec.ofChange fnExactHoldsFormatSpec)

/-- ITS FALSE NEIGHBOUR: 'it returns false'. Refute it at one input. -/
def fnExactHoldsFormatWrong : ChangeSpec := { name := "fnExactHoldsFormat", fn := fun _ => fun
  | [d1, d2] => { results := [.lit (.bool false)], args := [d1, d2] }
  | _ => none }
def FnExactHoldsFormatWrongFalsely : Prop := fnExactHoldsFormatRow.holds Tryd.pinned (OpenSpec.ofChange fnExactHoldsFormatWrong)

/-- 'laws.FnExactLeastHolding': WHATEVER THE INPUT: true; the input reads as it did. -/
def fnExactLeastHoldingSpec : ChangeSpec := { name := "fnExactLeastHolding", fn := fun _ => fun
  | [d1, d2] => { results := [.lit (.bool true)], args := [d1, d2] }
  | _ => none }
def fnExactLeastHoldingRow : OpenClaim := { program := "ytcbkhlaiefiieabdoor", sum := "7fa0f475332b1ecb0c62fab112895a7715dce3de27c06b98ca0461a8ba70386a", func := "loop.example/g01178/laws.FnExactLeastHolding", spec := "fnExactLeastHolding", inPlace := ["math.Float32frombits"], unfollowed := true, recurses := true, named := ["math/bits.deBruijn32tab", "math/bits.deBruijn64tab"], apart := false, laid := [("math/bits.deBruijn32tab", laid_math_bits_deBruijn32tab), ("math/bits.deBruijn64tab", laid_math_bits_deBruijn64tab)] }
def FnExactLeastHoldingSaid : Prop := fnExactLeastHoldingRow.holds Tryd.pinned (OpenSpec.ofChange fnExactLeastHoldingSpec)

/-- ITS FALSE NEIGHBOUR: 'it returns false'. Refute it at one input. -/
def fnExactLeastHoldingWrong : ChangeSpec := { name := "fnExactLeastHolding", fn := fun _ => fun
  | [d1, d2] => { results := [.lit (.bool false)], args := [d1, d2] }
  | _ => none }
def FnExactLeastHoldingWrongFalsely : Prop := fnExactLeastHoldingRow.holds Tryd.pinned (OpenSpec.ofChange fnExactLeastHoldingWrong)

/- THE SECOND FORM. 'bulk': how many values and letters a reading holds, each counted each time it is reached (what is shared counts as often as it is met; a slice's spare places count too). A statement '..UptoSaid' is the law's where the arguments, and the package variables that the reading takes, are together of bulk at most 1048576: NARROWER than '..Said'. Prove '..Said' where nothing that the law and all that it calls make is longer than what came in: it says more and counts as full. Else prove '..UptoSaid'. A law counts once. -/
mutual
def uptoBulk {H : Type} : DataW H → Nat
  | .lit (.string bytes) => bytes.length + 1
  | .lit _ => 1
  | .nil => 1
  | .ptr d => uptoBulk d + 1
  | .slice elems spare => uptoBulkAll elems + uptoBulkAll spare + 1
  | .agg parts => uptoBulkAll parts + 1
  | .iface _ d => uptoBulk d + 1
  | .map entries => uptoBulkEntries entries + 1
  | .held _ => 1
def uptoBulkAll {H : Type} : List (DataW H) → Nat
  | [] => 0
  | d :: r => uptoBulk d + uptoBulkAll r
def uptoBulkEntries {H : Type} : List (Lit × DataW H) → Nat
  | [] => 0
  | x :: r => uptoBulkEntry x + uptoBulkEntries r
def uptoBulkEntry {H : Type} : Lit × DataW H → Nat
  | (.string bytes, d) => bytes.length + uptoBulk d + 1
  | (_, d) => uptoBulk d + 1
 end
def uptoSmall : (H : Type) → List (DataW H) → Bool := fun _ ds => decide (uptoBulkAll ds ≤ 1048576)
def OpenSpec.upto (s : _root_.Go.ChangeSpec) : _root_.Go.OpenSpec := { _root_.Go.OpenSpec.ofChange s with cond := some uptoSmall }

/-- 'laws.FnExactDyadicOf', WHERE WHAT IT READS IS OF BULK AT MOST 1048576: true; the input reads as it did. -/
def fnExactDyadicOfUptoRow : OpenClaim := { program := "ytcbkhlaiefiieabdoor", sum := "7fa0f475332b1ecb0c62fab112895a7715dce3de27c06b98ca0461a8ba70386a", func := "loop.example/g01178/laws.FnExactDyadicOf", spec := "fnExactDyadicOf", named := ["math/bits.deBruijn32tab", "math/bits.deBruijn64tab"], apart := false, laid := [("math/bits.deBruijn32tab", laid_math_bits_deBruijn32tab), ("math/bits.deBruijn64tab", laid_math_bits_deBruijn64tab)], narrowed := true }
def FnExactDyadicOfUptoSaid : Prop := fnExactDyadicOfUptoRow.holds Tryd.pinned (OpenSpec.upto fnExactDyadicOfSpec)

/-- 'laws.FnExactValueOf', WHERE WHAT IT READS IS OF BULK AT MOST 1048576: true; the input reads as it did. -/
def fnExactValueOfUptoRow : OpenClaim := { program := "ytcbkhlaiefiieabdoor", sum := "7fa0f475332b1ecb0c62fab112895a7715dce3de27c06b98ca0461a8ba70386a", func := "loop.example/g01178/laws.FnExactValueOf", spec := "fnExactValueOf", inPlace := ["math.Float32frombits"], unfollowed := true, recurses := true, named := ["math/bits.deBruijn32tab", "math/bits.deBruijn64tab"], apart := false, laid := [("math/bits.deBruijn32tab", laid_math_bits_deBruijn32tab), ("math/bits.deBruijn64tab", laid_math_bits_deBruijn64tab)], narrowed := true }
def FnExactValueOfUptoSaid : Prop := fnExactValueOfUptoRow.holds Tryd.pinned (OpenSpec.upto fnExactValueOfSpec)

/-- 'laws.FnExactUnitOf', WHERE WHAT IT READS IS OF BULK AT MOST 1048576: true; the input reads as it did. -/
def fnExactUnitOfUptoRow : OpenClaim := { program := "ytcbkhlaiefiieabdoor", sum := "7fa0f475332b1ecb0c62fab112895a7715dce3de27c06b98ca0461a8ba70386a", func := "loop.example/g01178/laws.FnExactUnitOf", spec := "fnExactUnitOf", named := ["math/bits.deBruijn32tab", "math/bits.deBruijn64tab"], apart := false, laid := [("math/bits.deBruijn32tab", laid_math_bits_deBruijn32tab), ("math/bits.deBruijn64tab", laid_math_bits_deBruijn64tab)], narrowed := true }
def FnExactUnitOfUptoSaid : Prop := fnExactUnitOfUptoRow.holds Tryd.pinned (OpenSpec.upto fnExactUnitOfSpec)

/-- 'laws.FnExactPlusDyadic', WHERE WHAT IT READS IS OF BULK AT MOST 1048576: true; the input reads as it did. -/
def fnExactPlusDyadicUptoRow : OpenClaim := { program := "ytcbkhlaiefiieabdoor", sum := "7fa0f475332b1ecb0c62fab112895a7715dce3de27c06b98ca0461a8ba70386a", func := "loop.example/g01178/laws.FnExactPlusDyadic", spec := "fnExactPlusDyadic", named := ["math/bits.deBruijn32tab", "math/bits.deBruijn64tab"], apart := false, laid := [("math/bits.deBruijn32tab", laid_math_bits_deBruijn32tab), ("math/bits.deBruijn64tab", laid_math_bits_deBruijn64tab)], narrowed := true }
def FnExactPlusDyadicUptoSaid : Prop := fnExactPlusDyadicUptoRow.holds Tryd.pinned (OpenSpec.upto fnExactPlusDyadicSpec)

/-- 'laws.FnExactTimesDyadic', WHERE WHAT IT READS IS OF BULK AT MOST 1048576: true; the input reads as it did. -/
def fnExactTimesDyadicUptoRow : OpenClaim := { program := "ytcbkhlaiefiieabdoor", sum := "7fa0f475332b1ecb0c62fab112895a7715dce3de27c06b98ca0461a8ba70386a", func := "loop.example/g01178/laws.FnExactTimesDyadic", spec := "fnExactTimesDyadic", named := ["math/bits.deBruijn32tab", "math/bits.deBruijn64tab"], apart := false, laid := [("math/bits.deBruijn32tab", laid_math_bits_deBruijn32tab), ("math/bits.deBruijn64tab", laid_math_bits_deBruijn64tab)], narrowed := true }
def FnExactTimesDyadicUptoSaid : Prop := fnExactTimesDyadicUptoRow.holds Tryd.pinned (OpenSpec.upto fnExactTimesDyadicSpec)

/-- 'laws.FnExactFlagsOf', WHERE WHAT IT READS IS OF BULK AT MOST 1048576: true; the input reads as it did. -/
def fnExactFlagsOfUptoRow : OpenClaim := { program := "ytcbkhlaiefiieabdoor", sum := "7fa0f475332b1ecb0c62fab112895a7715dce3de27c06b98ca0461a8ba70386a", func := "loop.example/g01178/laws.FnExactFlagsOf", spec := "fnExactFlagsOf", inPlace := ["math.Float64bits", "math.Float64frombits", "math.Float32frombits", "math.Float32bits"], unfollowed := true, recurses := true, named := ["math/bits.deBruijn32tab", "math/bits.deBruijn64tab"], apart := false, laid := [("math/bits.deBruijn32tab", laid_math_bits_deBruijn32tab), ("math/bits.deBruijn64tab", laid_math_bits_deBruijn64tab)], narrowed := true }
def FnExactFlagsOfUptoSaid : Prop := fnExactFlagsOfUptoRow.holds Tryd.pinned (OpenSpec.upto fnExactFlagsOfSpec)

/-- 'laws.FnExactIsExact', WHERE WHAT IT READS IS OF BULK AT MOST 1048576: true; the input reads as it did. -/
def fnExactIsExactUptoRow : OpenClaim := { program := "ytcbkhlaiefiieabdoor", sum := "7fa0f475332b1ecb0c62fab112895a7715dce3de27c06b98ca0461a8ba70386a", func := "loop.example/g01178/laws.FnExactIsExact", spec := "fnExactIsExact", inPlace := ["math.Float64bits", "math.Float64frombits", "math.Float32frombits", "math.Float32bits"], unfollowed := true, recurses := true, named := ["math/bits.deBruijn32tab", "math/bits.deBruijn64tab"], apart := false, laid := [("math/bits.deBruijn32tab", laid_math_bits_deBruijn32tab), ("math/bits.deBruijn64tab", laid_math_bits_deBruijn64tab)], narrowed := true }
def FnExactIsExactUptoSaid : Prop := fnExactIsExactUptoRow.holds Tryd.pinned (OpenSpec.upto fnExactIsExactSpec)

/-- 'laws.FnExactMidpointOf', WHERE WHAT IT READS IS OF BULK AT MOST 1048576: true; the input reads as it did. -/
def fnExactMidpointOfUptoRow : OpenClaim := { program := "ytcbkhlaiefiieabdoor", sum := "7fa0f475332b1ecb0c62fab112895a7715dce3de27c06b98ca0461a8ba70386a", func := "loop.example/g01178/laws.FnExactMidpointOf", spec := "fnExactMidpointOf", inPlace := ["math.Float32frombits"], unfollowed := true, recurses := true, named := ["math/bits.deBruijn32tab", "math/bits.deBruijn64tab"], apart := false, laid := [("math/bits.deBruijn32tab", laid_math_bits_deBruijn32tab), ("math/bits.deBruijn64tab", laid_math_bits_deBruijn64tab)], narrowed := true }
def FnExactMidpointOfUptoSaid : Prop := fnExactMidpointOfUptoRow.holds Tryd.pinned (OpenSpec.upto fnExactMidpointOfSpec)

/-- 'laws.FnExactIsMidpoint', WHERE WHAT IT READS IS OF BULK AT MOST 1048576: true; the input reads as it did. -/
def fnExactIsMidpointUptoRow : OpenClaim := { program := "ytcbkhlaiefiieabdoor", sum := "7fa0f475332b1ecb0c62fab112895a7715dce3de27c06b98ca0461a8ba70386a", func := "loop.example/g01178/laws.FnExactIsMidpoint", spec := "fnExactIsMidpoint", inPlace := ["math.Float64bits", "math.Float64frombits", "math.Float32frombits", "math.Float32bits"], unfollowed := true, recurses := true, named := ["math/bits.deBruijn32tab", "math/bits.deBruijn64tab"], apart := false, laid := [("math/bits.deBruijn32tab", laid_math_bits_deBruijn32tab), ("math/bits.deBruijn64tab", laid_math_bits_deBruijn64tab)], narrowed := true }
def FnExactIsMidpointUptoSaid : Prop := fnExactIsMidpointUptoRow.holds Tryd.pinned (OpenSpec.upto fnExactIsMidpointSpec)

/-- 'laws.FnExactErrorOf', WHERE WHAT IT READS IS OF BULK AT MOST 1048576: true; the input reads as it did. -/
def fnExactErrorOfUptoRow : OpenClaim := { program := "ytcbkhlaiefiieabdoor", sum := "7fa0f475332b1ecb0c62fab112895a7715dce3de27c06b98ca0461a8ba70386a", func := "loop.example/g01178/laws.FnExactErrorOf", spec := "fnExactErrorOf", inPlace := ["math.Float64bits", "math.Float64frombits", "math.Float32frombits", "math.Float32bits"], unfollowed := true, recurses := true, named := ["math/bits.deBruijn32tab", "math/bits.deBruijn64tab"], apart := false, laid := [("math/bits.deBruijn32tab", laid_math_bits_deBruijn32tab), ("math/bits.deBruijn64tab", laid_math_bits_deBruijn64tab)], narrowed := true }
def FnExactErrorOfUptoSaid : Prop := fnExactErrorOfUptoRow.holds Tryd.pinned (OpenSpec.upto fnExactErrorOfSpec)

/-- 'laws.FnExactExactPlus', WHERE WHAT IT READS IS OF BULK AT MOST 1048576: true; the input reads as it did. -/
def fnExactExactPlusUptoRow : OpenClaim := { program := "ytcbkhlaiefiieabdoor", sum := "7fa0f475332b1ecb0c62fab112895a7715dce3de27c06b98ca0461a8ba70386a", func := "loop.example/g01178/laws.FnExactExactPlus", spec := "fnExactExactPlus", inPlace := ["math.Float32frombits", "math.Float64bits", "math.Float64frombits", "math.Float32bits"], unfollowed := true, recurses := true, named := ["math/bits.deBruijn32tab", "math/bits.deBruijn64tab"], apart := false, laid := [("math/bits.deBruijn32tab", laid_math_bits_deBruijn32tab), ("math/bits.deBruijn64tab", laid_math_bits_deBruijn64tab)], narrowed := true }
def FnExactExactPlusUptoSaid : Prop := fnExactExactPlusUptoRow.holds Tryd.pinned (OpenSpec.upto fnExactExactPlusSpec)

/-- 'laws.FnExactExactTimes', WHERE WHAT IT READS IS OF BULK AT MOST 1048576: true; the input reads as it did. -/
def fnExactExactTimesUptoRow : OpenClaim := { program := "ytcbkhlaiefiieabdoor", sum := "7fa0f475332b1ecb0c62fab112895a7715dce3de27c06b98ca0461a8ba70386a", func := "loop.example/g01178/laws.FnExactExactTimes", spec := "fnExactExactTimes", inPlace := ["math.Float32frombits", "math.Float64bits", "math.Float64frombits", "math.Float32bits"], unfollowed := true, recurses := true, named := ["math/bits.deBruijn32tab", "math/bits.deBruijn64tab"], apart := false, laid := [("math/bits.deBruijn32tab", laid_math_bits_deBruijn32tab), ("math/bits.deBruijn64tab", laid_math_bits_deBruijn64tab)], narrowed := true }
def FnExactExactTimesUptoSaid : Prop := fnExactExactTimesUptoRow.holds Tryd.pinned (OpenSpec.upto fnExactExactTimesSpec)

/-- 'laws.FnExactHoldsFormat', WHERE WHAT IT READS IS OF BULK AT MOST 1048576: true; the input reads as it did. -/
def fnExactHoldsFormatUptoRow : OpenClaim := { program := "ytcbkhlaiefiieabdoor", sum := "7fa0f475332b1ecb0c62fab112895a7715dce3de27c06b98ca0461a8ba70386a", func := "loop.example/g01178/laws.FnExactHoldsFormat", spec := "fnExactHoldsFormat", inPlace := ["math.Float32frombits"], unfollowed := true, recurses := true, named := ["math/bits.deBruijn32tab", "math/bits.deBruijn64tab"], apart := false, laid := [("math/bits.deBruijn32tab", laid_math_bits_deBruijn32tab), ("math/bits.deBruijn64tab", laid_math_bits_deBruijn64tab)], narrowed := true }
def FnExactHoldsFormatUptoSaid : Prop := fnExactHoldsFormatUptoRow.holds Tryd.pinned (OpenSpec.upto fnExactHoldsFormatSpec)

/-- 'laws.FnExactLeastHolding', WHERE WHAT IT READS IS OF BULK AT MOST 1048576: true; the input reads as it did. -/
def fnExactLeastHoldingUptoRow : OpenClaim := { program := "ytcbkhlaiefiieabdoor", sum := "7fa0f475332b1ecb0c62fab112895a7715dce3de27c06b98ca0461a8ba70386a", func := "loop.example/g01178/laws.FnExactLeastHolding", spec := "fnExactLeastHolding", inPlace := ["math.Float32frombits"], unfollowed := true, recurses := true, named := ["math/bits.deBruijn32tab", "math/bits.deBruijn64tab"], apart := false, laid := [("math/bits.deBruijn32tab", laid_math_bits_deBruijn32tab), ("math/bits.deBruijn64tab", laid_math_bits_deBruijn64tab)], narrowed := true }
def FnExactLeastHoldingUptoSaid : Prop := fnExactLeastHoldingUptoRow.holds Tryd.pinned (OpenSpec.upto fnExactLeastHoldingSpec)

end Rows
end Go.Proofs.YtcbkhlaiefiieabDoor
