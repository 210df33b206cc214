/-
  NARROWER THAN 'FOR EVERY INPUT', by the rows' own cells (each row's printed sentence says how): FnExactIsExactDifference: laid · FnExactExactSum: laid · FnExactRoundedSum: laid · FnExactSignOfSum: laid · FnExactToWhole: laid · FnExactPlacesOf: laid · FnExactCompareDecimal: laid · FnExactNearestDecimal: laid · FnExactPatternText: laid · FnExactExactText: laid · FnExactHalfText: laid.
  DERIVED. THE GIVEN ROWS OF THIS SEAT. 11 by the template 'for every input the law returns true; each argument reads behind the call as it read before'; 0 by the template 'total and deterministic' (their statements: YtfgbndjhaiigbabDoorTotals.lean).
  GIVEN WITH THE SEED: the statements are not yours to turn. If you find one false, say at which input.
  Laid BY PROGRAM, IN A SANDBOX (cutbox-rows.mjs): the forced cells as the released guide's own fill.sh prints them over the translation a1a919d844c4655c… (all of the seat's roots in one cut). By AI agents, Wed Nov 11 2026. No macro, syntax, notation, axiom, sorry.
-/
import Derived.Test.YtfgbndjhaiigbabDoorChecked
import GoSem.Claim
import GoSem.ClaimJoined
import GoSem.ClaimMapViews
import Derived.JoinedTies
import Derived.KernelRfl
namespace Go.Proofs.YtfgbndjhaiigbabDoor
/- THE CELL 'sum', in the pinned program and in every row, IS THE sha256 OF THE DUMP (.gsa) THAT YtfgbndjhaiigbabDoorProg.lean LOADS. Nothing in Lean hashes anything: it is a label: what it is worth is what the hold of that sum in a sandbox is worth. -/
noncomputable def Tryd.pinned : Pinned := { name := "ytfgbndjhaiigbabdoor", sum := "a1a919d844c4655cb221120edf0860f680e36dbfc145b86ba50c5c9f24aad4b0", checked := Tryd.checked }
namespace Rows
def none {H : Type} : Left H := { results := [], args := [] }

/- WHAT THE LISTED PACKAGE-LEVEL VARIABLES READ AS WHEN THE CALL BEGINS. Each datum BY PROGRAM (the guide's laid-datum.mjs) off the statement by which the dump's own 'gosem.cut.vars' lays the variable. In a bare row this is a premise. The card (YtfgbndjhaiigbabDoorCards.lean) ties it to the program's text. -/
def laid_math_bits_deBruijn32tab {H : Type} : DataW H := .agg [.lit (.int .u8 0), .lit (.int .u8 1), .lit (.int .u8 28), .lit (.int .u8 2), .lit (.int .u8 29), .lit (.int .u8 14), .lit (.int .u8 24), .lit (.int .u8 3), .lit (.int .u8 30), .lit (.int .u8 22), .lit (.int .u8 20), .lit (.int .u8 15), .lit (.int .u8 25), .lit (.int .u8 17), .lit (.int .u8 4), .lit (.int .u8 8), .lit (.int .u8 31), .lit (.int .u8 27), .lit (.int .u8 13), .lit (.int .u8 23), .lit (.int .u8 21), .lit (.int .u8 19), .lit (.int .u8 16), .lit (.int .u8 7), .lit (.int .u8 26), .lit (.int .u8 12), .lit (.int .u8 18), .lit (.int .u8 6), .lit (.int .u8 11), .lit (.int .u8 5), .lit (.int .u8 10), .lit (.int .u8 9)]
def laid_math_bits_deBruijn64tab {H : Type} : DataW H := .agg [.lit (.int .u8 0), .lit (.int .u8 1), .lit (.int .u8 56), .lit (.int .u8 2), .lit (.int .u8 57), .lit (.int .u8 49), .lit (.int .u8 28), .lit (.int .u8 3), .lit (.int .u8 61), .lit (.int .u8 58), .lit (.int .u8 42), .lit (.int .u8 50), .lit (.int .u8 38), .lit (.int .u8 29), .lit (.int .u8 17), .lit (.int .u8 4), .lit (.int .u8 62), .lit (.int .u8 47), .lit (.int .u8 59), .lit (.int .u8 36), .lit (.int .u8 45), .lit (.int .u8 43), .lit (.int .u8 51), .lit (.int .u8 22), .lit (.int .u8 53), .lit (.int .u8 39), .lit (.int .u8 33), .lit (.int .u8 30), .lit (.int .u8 24), .lit (.int .u8 18), .lit (.int .u8 12), .lit (.int .u8 5), .lit (.int .u8 63), .lit (.int .u8 55), .lit (.int .u8 48), .lit (.int .u8 27), .lit (.int .u8 60), .lit (.int .u8 41), .lit (.int .u8 37), .lit (.int .u8 16), .lit (.int .u8 46), .lit (.int .u8 35), .lit (.int .u8 44), .lit (.int .u8 21), .lit (.int .u8 52), .lit (.int .u8 32), .lit (.int .u8 23), .lit (.int .u8 11), .lit (.int .u8 54), .lit (.int .u8 26), .lit (.int .u8 40), .lit (.int .u8 15), .lit (.int .u8 34), .lit (.int .u8 20), .lit (.int .u8 31), .lit (.int .u8 10), .lit (.int .u8 25), .lit (.int .u8 14), .lit (.int .u8 19), .lit (.int .u8 9), .lit (.int .u8 13), .lit (.int .u8 8), .lit (.int .u8 7), .lit (.int .u8 6)]
def laid_internal_strconv_uint64pow10 {H : Type} : DataW H := .agg [.lit (.int .u64 1), .lit (.int .u64 10), .lit (.int .u64 100), .lit (.int .u64 1000), .lit (.int .u64 10000), .lit (.int .u64 100000), .lit (.int .u64 1000000), .lit (.int .u64 10000000), .lit (.int .u64 100000000), .lit (.int .u64 1000000000), .lit (.int .u64 10000000000), .lit (.int .u64 100000000000), .lit (.int .u64 1000000000000), .lit (.int .u64 10000000000000), .lit (.int .u64 100000000000000), .lit (.int .u64 1000000000000000), .lit (.int .u64 10000000000000000), .lit (.int .u64 100000000000000000), .lit (.int .u64 1000000000000000000), .lit (.int .u64 10000000000000000000)]

/-- 'laws.FnExactIsExactDifference': WHATEVER THE INPUT: true; the input reads as it did. -/
def fnExactIsExactDifferenceSpec : ChangeSpec := { name := "fnExactIsExactDifference", fn := fun _ => fun
  | [d1, d2, d3] => { results := [.lit (.bool true)], args := [d1, d2, d3] }
  | _ => none }
def fnExactIsExactDifferenceRow : OpenClaim := { program := "ytfgbndjhaiigbabdoor", sum := "a1a919d844c4655cb221120edf0860f680e36dbfc145b86ba50c5c9f24aad4b0", func := "loop.example/g01178/laws.FnExactIsExactDifference", spec := "fnExactIsExactDifference", inPlace := ["math.Float32frombits", "math.Float64bits", "math.Float64frombits", "math.Float32bits"], unfollowed := true, recurses := true, named := ["math/bits.deBruijn32tab", "math/bits.deBruijn64tab"], apart := false, laid := [("math/bits.deBruijn32tab", laid_math_bits_deBruijn32tab), ("math/bits.deBruijn64tab", laid_math_bits_deBruijn64tab)] }
def FnExactIsExactDifferenceSaid : Prop := fnExactIsExactDifferenceRow.holds Tryd.pinned (OpenSpec.ofChange fnExactIsExactDifferenceSpec)

/-- ITS FALSE NEIGHBOUR: 'it returns false'. Refute it at one input. -/
def fnExactIsExactDifferenceWrong : ChangeSpec := { name := "fnExactIsExactDifference", fn := fun _ => fun
  | [d1, d2, d3] => { results := [.lit (.bool false)], args := [d1, d2, d3] }
  | _ => none }
def FnExactIsExactDifferenceWrongFalsely : Prop := fnExactIsExactDifferenceRow.holds Tryd.pinned (OpenSpec.ofChange fnExactIsExactDifferenceWrong)

/-- 'laws.FnExactExactSum': WHATEVER THE INPUT: true; the input reads as it did. -/
def fnExactExactSumSpec : ChangeSpec := { name := "fnExactExactSum", fn := fun _ => fun
  | [d1, d2] => { results := [.lit (.bool true)], args := [d1, d2] }
  | _ => none }
def fnExactExactSumRow : OpenClaim := { program := "ytfgbndjhaiigbabdoor", sum := "a1a919d844c4655cb221120edf0860f680e36dbfc145b86ba50c5c9f24aad4b0", func := "loop.example/g01178/laws.FnExactExactSum", spec := "fnExactExactSum", inPlace := ["math.Float32frombits"], unfollowed := true, recurses := true, named := ["math/bits.deBruijn32tab", "math/bits.deBruijn64tab"], apart := false, laid := [("math/bits.deBruijn32tab", laid_math_bits_deBruijn32tab), ("math/bits.deBruijn64tab", laid_math_bits_deBruijn64tab)] }
def FnExactExactSumSaid : Prop := fnExactExactSumRow.holds Tryd.pinned (OpenSpec.ofChange fnExactExactSumSpec)

/-- ITS FALSE NEIGHBOUR: 'it returns false'. Refute it at one input. -/
def fnExactExactSumWrong : ChangeSpec := { name := "fnExactExactSum", fn := fun _ => fun
  | [d1, d2] => { results := [.lit (.bool false)], args := [d1, d2] }
  | _ => none }
def FnExactExactSumWrongFalsely : Prop := fnExactExactSumRow.holds Tryd.pinned (OpenSpec.ofChange fnExactExactSumWrong)

/-- 'laws.FnExactRoundedSum': WHATEVER THE INPUT: true; the input reads as it did. -/
def fnExactRoundedSumSpec : ChangeSpec := { name := "fnExactRoundedSum", fn := fun _ => fun
  | [d1, d2] => { results := [.lit (.bool true)], args := [d1, d2] }
  | _ => none }
def fnExactRoundedSumRow : OpenClaim := { program := "ytfgbndjhaiigbabdoor", sum := "a1a919d844c4655cb221120edf0860f680e36dbfc145b86ba50c5c9f24aad4b0", func := "loop.example/g01178/laws.FnExactRoundedSum", spec := "fnExactRoundedSum", inPlace := ["math.Float32frombits", "math.Float64bits", "math.Float64frombits", "math.Float32bits"], unfollowed := true, recurses := true, named := ["math/bits.deBruijn32tab", "math/bits.deBruijn64tab"], apart := false, laid := [("math/bits.deBruijn32tab", laid_math_bits_deBruijn32tab), ("math/bits.deBruijn64tab", laid_math_bits_deBruijn64tab)] }
def FnExactRoundedSumSaid : Prop := fnExactRoundedSumRow.holds Tryd.pinned (OpenSpec.ofChange fnExactRoundedSumSpec)

/-- ITS FALSE NEIGHBOUR: 'it returns false'. Refute it at one input. -/
def fnExactRoundedSumWrong : ChangeSpec := { name := "fnExactRoundedSum", fn := fun _ => fun
  | [d1, d2] => { results := [.lit (.bool false)], args := [d1, d2] }
  | _ => none }
def FnExactRoundedSumWrongFalsely : Prop := fnExactRoundedSumRow.holds Tryd.pinned (OpenSpec.ofChange fnExactRoundedSumWrong)

/-- 'laws.FnExactSignOfSum': WHATEVER THE INPUT: true; the input reads as it did. -/
def fnExactSignOfSumSpec : ChangeSpec := { name := "fnExactSignOfSum", fn := fun _ => fun
  | [d1, d2] => { results := [.lit (.bool true)], args := [d1, d2] }
  | _ => none }
def fnExactSignOfSumRow : OpenClaim := { program := "ytfgbndjhaiigbabdoor", sum := "a1a919d844c4655cb221120edf0860f680e36dbfc145b86ba50c5c9f24aad4b0", func := "loop.example/g01178/laws.FnExactSignOfSum", spec := "fnExactSignOfSum", inPlace := ["math.Float32frombits"], unfollowed := true, recurses := true, named := ["math/bits.deBruijn32tab", "math/bits.deBruijn64tab"], apart := false, laid := [("math/bits.deBruijn32tab", laid_math_bits_deBruijn32tab), ("math/bits.deBruijn64tab", laid_math_bits_deBruijn64tab)] }
def FnExactSignOfSumSaid : Prop := fnExactSignOfSumRow.holds Tryd.pinned (OpenSpec.ofChange fnExactSignOfSumSpec)

/-- ITS FALSE NEIGHBOUR: 'it returns false'. Refute it at one input. -/
def fnExactSignOfSumWrong : ChangeSpec := { name := "fnExactSignOfSum", fn := fun _ => fun
  | [d1, d2] => { results := [.lit (.bool false)], args := [d1, d2] }
  | _ => none }
def FnExactSignOfSumWrongFalsely : Prop := fnExactSignOfSumRow.holds Tryd.pinned (OpenSpec.ofChange fnExactSignOfSumWrong)

/-- 'laws.FnExactToWhole': WHATEVER THE INPUT: true; the input reads as it did. -/
def fnExactToWholeSpec : ChangeSpec := { name := "fnExactToWhole", fn := fun _ => fun
  | [d1, d2, d3] => { results := [.lit (.bool true)], args := [d1, d2, d3] }
  | _ => none }
def fnExactToWholeRow : OpenClaim := { program := "ytfgbndjhaiigbabdoor", sum := "a1a919d844c4655cb221120edf0860f680e36dbfc145b86ba50c5c9f24aad4b0", func := "loop.example/g01178/laws.FnExactToWhole", spec := "fnExactToWhole", inPlace := ["math.Float32frombits"], unfollowed := true, recurses := true, named := ["math/bits.deBruijn32tab", "math/bits.deBruijn64tab"], apart := false, laid := [("math/bits.deBruijn32tab", laid_math_bits_deBruijn32tab), ("math/bits.deBruijn64tab", laid_math_bits_deBruijn64tab)] }
def FnExactToWholeSaid : Prop := fnExactToWholeRow.holds Tryd.pinned (OpenSpec.ofChange fnExactToWholeSpec)

/-- ITS FALSE NEIGHBOUR: 'it returns false'. Refute it at one input. -/
def fnExactToWholeWrong : ChangeSpec := { name := "fnExactToWhole", fn := fun _ => fun
  | [d1, d2, d3] => { results := [.lit (.bool false)], args := [d1, d2, d3] }
  | _ => none }
def FnExactToWholeWrongFalsely : Prop := fnExactToWholeRow.holds Tryd.pinned (OpenSpec.ofChange fnExactToWholeWrong)

/-- 'laws.FnExactPlacesOf': WHATEVER THE INPUT: true; the input reads as it did. -/
def fnExactPlacesOfSpec : ChangeSpec := { name := "fnExactPlacesOf", fn := fun _ => fun
  | [d1, d2] => { results := [.lit (.bool true)], args := [d1, d2] }
  | _ => none }
def fnExactPlacesOfRow : OpenClaim := { program := "ytfgbndjhaiigbabdoor", sum := "a1a919d844c4655cb221120edf0860f680e36dbfc145b86ba50c5c9f24aad4b0", func := "loop.example/g01178/laws.FnExactPlacesOf", spec := "fnExactPlacesOf", inPlace := ["math.Float32frombits"], unfollowed := true, recurses := true, named := ["math/bits.deBruijn32tab", "math/bits.deBruijn64tab"], apart := false, laid := [("math/bits.deBruijn32tab", laid_math_bits_deBruijn32tab), ("math/bits.deBruijn64tab", laid_math_bits_deBruijn64tab)] }
def FnExactPlacesOfSaid : Prop := fnExactPlacesOfRow.holds Tryd.pinned (OpenSpec.ofChange fnExactPlacesOfSpec)

/-- ITS FALSE NEIGHBOUR: 'it returns false'. Refute it at one input. -/
def fnExactPlacesOfWrong : ChangeSpec := { name := "fnExactPlacesOf", fn := fun _ => fun
  | [d1, d2] => { results := [.lit (.bool false)], args := [d1, d2] }
  | _ => none }
def FnExactPlacesOfWrongFalsely : Prop := fnExactPlacesOfRow.holds Tryd.pinned (OpenSpec.ofChange fnExactPlacesOfWrong)

/-- 'laws.FnExactCompareDecimal': WHATEVER THE INPUT: true; the input reads as it did. -/
def fnExactCompareDecimalSpec : ChangeSpec := { name := "fnExactCompareDecimal", fn := fun _ => fun
  | [d1, d2, d3, d4] => { results := [.lit (.bool true)], args := [d1, d2, d3, d4] }
  | _ => none }
def fnExactCompareDecimalRow : OpenClaim := { program := "ytfgbndjhaiigbabdoor", sum := "a1a919d844c4655cb221120edf0860f680e36dbfc145b86ba50c5c9f24aad4b0", func := "loop.example/g01178/laws.FnExactCompareDecimal", spec := "fnExactCompareDecimal", inPlace := ["math.Float32frombits"], unfollowed := true, recurses := true, named := ["math/bits.deBruijn32tab", "math/bits.deBruijn64tab"], apart := false, laid := [("math/bits.deBruijn32tab", laid_math_bits_deBruijn32tab), ("math/bits.deBruijn64tab", laid_math_bits_deBruijn64tab)] }
def FnExactCompareDecimalSaid : Prop := fnExactCompareDecimalRow.holds Tryd.pinned (OpenSpec.ofChange fnExactCompareDecimalSpec)

/-- ITS FALSE NEIGHBOUR: 'it returns false'. Refute it at one input. -/
def fnExactCompareDecimalWrong : ChangeSpec := { name := "fnExactCompareDecimal", fn := fun _ => fun
  | [d1, d2, d3, d4] => { results := [.lit (.bool false)], args := [d1, d2, d3, d4] }
  | _ => none }
def FnExactCompareDecimalWrongFalsely : Prop := fnExactCompareDecimalRow.holds Tryd.pinned (OpenSpec.ofChange fnExactCompareDecimalWrong)

/-- 'laws.FnExactNearestDecimal': WHATEVER THE INPUT: true; the input reads as it did. -/
def fnExactNearestDecimalSpec : ChangeSpec := { name := "fnExactNearestDecimal", fn := fun _ => fun
  | [d1, d2, d3] => { results := [.lit (.bool true)], args := [d1, d2, d3] }
  | _ => none }
def fnExactNearestDecimalRow : OpenClaim := { program := "ytfgbndjhaiigbabdoor", sum := "a1a919d844c4655cb221120edf0860f680e36dbfc145b86ba50c5c9f24aad4b0", func := "loop.example/g01178/laws.FnExactNearestDecimal", spec := "fnExactNearestDecimal", inPlace := ["math.Float32frombits"], unfollowed := true, recurses := true, named := ["math/bits.deBruijn32tab", "math/bits.deBruijn64tab"], apart := false, laid := [("math/bits.deBruijn32tab", laid_math_bits_deBruijn32tab), ("math/bits.deBruijn64tab", laid_math_bits_deBruijn64tab)] }
def FnExactNearestDecimalSaid : Prop := fnExactNearestDecimalRow.holds Tryd.pinned (OpenSpec.ofChange fnExactNearestDecimalSpec)

/-- ITS FALSE NEIGHBOUR: 'it returns false'. Refute it at one input. -/
def fnExactNearestDecimalWrong : ChangeSpec := { name := "fnExactNearestDecimal", fn := fun _ => fun
  | [d1, d2, d3] => { results := [.lit (.bool false)], args := [d1, d2, d3] }
  | _ => none }
def FnExactNearestDecimalWrongFalsely : Prop := fnExactNearestDecimalRow.holds Tryd.pinned (OpenSpec.ofChange fnExactNearestDecimalWrong)

/-- 'laws.FnExactPatternText': WHATEVER THE INPUT: true; the input reads as it did. -/
def fnExactPatternTextSpec : ChangeSpec := { name := "fnExactPatternText", fn := fun _ => fun
  | [d1, d2] => { results := [.lit (.bool true)], args := [d1, d2] }
  | _ => none }
def fnExactPatternTextRow : OpenClaim := { program := "ytfgbndjhaiigbabdoor", sum := "a1a919d844c4655cb221120edf0860f680e36dbfc145b86ba50c5c9f24aad4b0", func := "loop.example/g01178/laws.FnExactPatternText", spec := "fnExactPatternText", inPlace := ["internal/abi.NoEscape", "internal/bytealg.MakeNoZero"], recurses := true, named := ["internal/strconv.uint64pow10", "math/bits.deBruijn32tab", "math/bits.deBruijn64tab"], apart := false, laid := [("math/bits.deBruijn32tab", laid_math_bits_deBruijn32tab), ("math/bits.deBruijn64tab", laid_math_bits_deBruijn64tab), ("internal/strconv.uint64pow10", laid_internal_strconv_uint64pow10)] }
def FnExactPatternTextSaid : Prop := fnExactPatternTextRow.holds Tryd.pinned (OpenSpec.ofChange fnExactPatternTextSpec)

/-- ITS FALSE NEIGHBOUR: 'it returns false'. Refute it at one input. -/
def fnExactPatternTextWrong : ChangeSpec := { name := "fnExactPatternText", fn := fun _ => fun
  | [d1, d2] => { results := [.lit (.bool false)], args := [d1, d2] }
  | _ => none }
def FnExactPatternTextWrongFalsely : Prop := fnExactPatternTextRow.holds Tryd.pinned (OpenSpec.ofChange fnExactPatternTextWrong)

/-- 'laws.FnExactExactText': WHATEVER THE INPUT: true; the input reads as it did. -/
def fnExactExactTextSpec : ChangeSpec := { name := "fnExactExactText", fn := fun _ => fun
  | [d1, d2] => { results := [.lit (.bool true)], args := [d1, d2] }
  | _ => none }
def fnExactExactTextRow : OpenClaim := { program := "ytfgbndjhaiigbabdoor", sum := "a1a919d844c4655cb221120edf0860f680e36dbfc145b86ba50c5c9f24aad4b0", func := "loop.example/g01178/laws.FnExactExactText", spec := "fnExactExactText", inPlace := ["math.Float32frombits", "internal/abi.NoEscape", "internal/bytealg.MakeNoZero"], unfollowed := true, recurses := true, named := ["math/bits.deBruijn32tab", "math/bits.deBruijn64tab", "internal/strconv.uint64pow10"], apart := false, laid := [("math/bits.deBruijn32tab", laid_math_bits_deBruijn32tab), ("math/bits.deBruijn64tab", laid_math_bits_deBruijn64tab), ("internal/strconv.uint64pow10", laid_internal_strconv_uint64pow10)] }
def FnExactExactTextSaid : Prop := fnExactExactTextRow.holds Tryd.pinned (OpenSpec.ofChange fnExactExactTextSpec)

/-- ITS FALSE NEIGHBOUR: 'it returns false'. Refute it at one input. -/
def fnExactExactTextWrong : ChangeSpec := { name := "fnExactExactText", fn := fun _ => fun
  | [d1, d2] => { results := [.lit (.bool false)], args := [d1, d2] }
  | _ => none }
def FnExactExactTextWrongFalsely : Prop := fnExactExactTextRow.holds Tryd.pinned (OpenSpec.ofChange fnExactExactTextWrong)

/-- 'laws.FnExactHalfText': WHATEVER THE INPUT: true; the input reads as it did. -/
def fnExactHalfTextSpec : ChangeSpec := { name := "fnExactHalfText", fn := fun _ => fun
  | [d1, d2] => { results := [.lit (.bool true)], args := [d1, d2] }
  | _ => none }
def fnExactHalfTextRow : OpenClaim := { program := "ytfgbndjhaiigbabdoor", sum := "a1a919d844c4655cb221120edf0860f680e36dbfc145b86ba50c5c9f24aad4b0", func := "loop.example/g01178/laws.FnExactHalfText", spec := "fnExactHalfText", inPlace := ["math.Float32frombits", "internal/abi.NoEscape", "internal/bytealg.MakeNoZero"], unfollowed := true, recurses := true, named := ["math/bits.deBruijn32tab", "math/bits.deBruijn64tab", "internal/strconv.uint64pow10"], apart := false, laid := [("math/bits.deBruijn32tab", laid_math_bits_deBruijn32tab), ("math/bits.deBruijn64tab", laid_math_bits_deBruijn64tab), ("internal/strconv.uint64pow10", laid_internal_strconv_uint64pow10)] }
def FnExactHalfTextSaid : Prop := fnExactHalfTextRow.holds Tryd.pinned (OpenSpec.ofChange fnExactHalfTextSpec)

/-- ITS FALSE NEIGHBOUR: 'it returns false'. Refute it at one input. -/
def fnExactHalfTextWrong : ChangeSpec := { name := "fnExactHalfText", fn := fun _ => fun
  | [d1, d2] => { results := [.lit (.bool false)], args := [d1, d2] }
  | _ => none }
def FnExactHalfTextWrongFalsely : Prop := fnExactHalfTextRow.holds Tryd.pinned (OpenSpec.ofChange fnExactHalfTextWrong)

/- THE SECOND FORM. 'bulk': how many values and letters a reading holds, each counted each time it is reached (what is shared counts as often as it is met; a slice's spare places count too). A statement '..UptoSaid' is the law's where the arguments, and the package variables that the reading takes, are together of bulk at most 1048576: NARROWER than '..Said'. Prove '..Said' where nothing that the law and all that it calls make is longer than what came in: it says more and counts as full. Else prove '..UptoSaid'. A law counts once. -/
mutual
def uptoBulk {H : Type} : DataW H → Nat
  | .lit (.string bytes) => bytes.length + 1
  | .lit _ => 1
  | .nil => 1
  | .ptr d => uptoBulk d + 1
  | .slice elems spare => uptoBulkAll elems + uptoBulkAll spare + 1
  | .agg parts => uptoBulkAll parts + 1
  | .iface _ d => uptoBulk d + 1
  | .map entries => uptoBulkEntries entries + 1
  | .held _ => 1
def uptoBulkAll {H : Type} : List (DataW H) → Nat
  | [] => 0
  | d :: r => uptoBulk d + uptoBulkAll r
def uptoBulkEntries {H : Type} : List (Lit × DataW H) → Nat
  | [] => 0
  | x :: r => uptoBulkEntry x + uptoBulkEntries r
def uptoBulkEntry {H : Type} : Lit × DataW H → Nat
  | (.string bytes, d) => bytes.length + uptoBulk d + 1
  | (_, d) => uptoBulk d + 1
 end
def uptoSmall : (H : Type) → List (DataW H) → Bool := fun _ ds => decide (uptoBulkAll ds ≤ 1048576)
def OpenSpec.upto (s : _root_.Go.ChangeSpec) : _root_.Go.OpenSpec := { _root_.Go.OpenSpec.ofChange s with cond := some uptoSmall }

/-- 'laws.FnExactIsExactDifference', WHERE WHAT IT READS IS OF BULK AT MOST 1048576: true; the input reads as it did. -/
def fnExactIsExactDifferenceUptoRow : OpenClaim := { program := "ytfgbndjhaiigbabdoor", sum := "a1a919d844c4655cb221120edf0860f680e36dbfc145b86ba50c5c9f24aad4b0", func := "loop.example/g01178/laws.FnExactIsExactDifference", spec := "fnExactIsExactDifference", inPlace := ["math.Float32frombits", "math.Float64bits", "math.Float64frombits", "math.Float32bits"], unfollowed := true, recurses := true, named := ["math/bits.deBruijn32tab", "math/bits.deBruijn64tab"], apart := false, laid := [("math/bits.deBruijn32tab", laid_math_bits_deBruijn32tab), ("math/bits.deBruijn64tab", laid_math_bits_deBruijn64tab)], narrowed := true }
def FnExactIsExactDifferenceUptoSaid : Prop := fnExactIsExactDifferenceUptoRow.holds Tryd.pinned (OpenSpec.upto fnExactIsExactDifferenceSpec)

/-- 'laws.FnExactExactSum', WHERE WHAT IT READS IS OF BULK AT MOST 1048576: true; the input reads as it did. -/
def fnExactExactSumUptoRow : OpenClaim := { program := "ytfgbndjhaiigbabdoor", sum := "a1a919d844c4655cb221120edf0860f680e36dbfc145b86ba50c5c9f24aad4b0", func := "loop.example/g01178/laws.FnExactExactSum", spec := "fnExactExactSum", inPlace := ["math.Float32frombits"], unfollowed := true, recurses := true, named := ["math/bits.deBruijn32tab", "math/bits.deBruijn64tab"], apart := false, laid := [("math/bits.deBruijn32tab", laid_math_bits_deBruijn32tab), ("math/bits.deBruijn64tab", laid_math_bits_deBruijn64tab)], narrowed := true }
def FnExactExactSumUptoSaid : Prop := fnExactExactSumUptoRow.holds Tryd.pinned (OpenSpec.upto fnExactExactSumSpec)

/-- 'laws.FnExactRoundedSum', WHERE WHAT IT READS IS OF BULK AT MOST 1048576: true; the input reads as it did. -/
def fnExactRoundedSumUptoRow : OpenClaim := { program := "ytfgbndjhaiigbabdoor", sum := "a1a919d844c4655cb221120edf0860f680e36dbfc145b86ba50c5c9f24aad4b0", func := "loop.example/g01178/laws.FnExactRoundedSum", spec := "fnExactRoundedSum", inPlace := ["math.Float32frombits", "math.Float64bits", "math.Float64frombits", "math.Float32bits"], unfollowed := true, recurses := true, named := ["math/bits.deBruijn32tab", "math/bits.deBruijn64tab"], apart := false, laid := [("math/bits.deBruijn32tab", laid_math_bits_deBruijn32tab), ("math/bits.deBruijn64tab", laid_math_bits_deBruijn64tab)], narrowed := true }
def FnExactRoundedSumUptoSaid : Prop := fnExactRoundedSumUptoRow.holds Tryd.pinned (OpenSpec.upto fnExactRoundedSumSpec)

/-- 'laws.FnExactSignOfSum', WHERE WHAT IT READS IS OF BULK AT MOST 1048576: true; the input reads as it did. -/
def fnExactSignOfSumUptoRow : OpenClaim := { program := "ytfgbndjhaiigbabdoor", sum := "a1a919d844c4655cb221120edf0860f680e36dbfc145b86ba50c5c9f24aad4b0", func := "loop.example/g01178/laws.FnExactSignOfSum", spec := "fnExactSignOfSum", inPlace := ["math.Float32frombits"], unfollowed := true, recurses := true, named := ["math/bits.deBruijn32tab", "math/bits.deBruijn64tab"], apart := false, laid := [("math/bits.deBruijn32tab", laid_math_bits_deBruijn32tab), ("math/bits.deBruijn64tab", laid_math_bits_deBruijn64tab)], narrowed := true }
def FnExactSignOfSumUptoSaid : Prop := fnExactSignOfSumUptoRow.holds Tryd.pinned (OpenSpec.upto fnExactSignOfSumSpec)

/-- 'laws.FnExactToWhole', WHERE WHAT IT READS IS OF BULK AT MOST 1048576: true; the input reads as it did. -/
def fnExactToWholeUptoRow : OpenClaim := { program := "ytfgbndjhaiigbabdoor", sum := "a1a919d844c4655cb221120edf0860f680e36dbfc145b86ba50c5c9f24aad4b0", func := "loop.example/g01178/laws.FnExactToWhole", spec := "fnExactToWhole", inPlace := ["math.Float32frombits"], unfollowed := true, recurses := true, named := ["math/bits.deBruijn32tab", "math/bits.deBruijn64tab"], apart := false, laid := [("math/bits.deBruijn32tab", laid_math_bits_deBruijn32tab), ("math/bits.deBruijn64tab", laid_math_bits_deBruijn64tab)], narrowed := true }
def FnExactToWholeUptoSaid : Prop := fnExactToWholeUptoRow.holds Tryd.pinned (OpenSpec.upto fnExactToWholeSpec)

/-- 'laws.FnExactPlacesOf', WHERE WHAT IT READS IS OF BULK AT MOST 1048576: true; the input reads as it did. -/
def fnExactPlacesOfUptoRow : OpenClaim := { program := "ytfgbndjhaiigbabdoor", sum := "a1a919d844c4655cb221120edf0860f680e36dbfc145b86ba50c5c9f24aad4b0", func := "loop.example/g01178/laws.FnExactPlacesOf", spec := "fnExactPlacesOf", inPlace := ["math.Float32frombits"], unfollowed := true, recurses := true, named := ["math/bits.deBruijn32tab", "math/bits.deBruijn64tab"], apart := false, laid := [("math/bits.deBruijn32tab", laid_math_bits_deBruijn32tab), ("math/bits.deBruijn64tab", laid_math_bits_deBruijn64tab)], narrowed := true }
def FnExactPlacesOfUptoSaid : Prop := fnExactPlacesOfUptoRow.holds Tryd.pinned (OpenSpec.upto fnExactPlacesOfSpec)

/-- 'laws.FnExactCompareDecimal', WHERE WHAT IT READS IS OF BULK AT MOST 1048576: true; the input reads as it did. -/
def fnExactCompareDecimalUptoRow : OpenClaim := { program := "ytfgbndjhaiigbabdoor", sum := "a1a919d844c4655cb221120edf0860f680e36dbfc145b86ba50c5c9f24aad4b0", func := "loop.example/g01178/laws.FnExactCompareDecimal", spec := "fnExactCompareDecimal", inPlace := ["math.Float32frombits"], unfollowed := true, recurses := true, named := ["math/bits.deBruijn32tab", "math/bits.deBruijn64tab"], apart := false, laid := [("math/bits.deBruijn32tab", laid_math_bits_deBruijn32tab), ("math/bits.deBruijn64tab", laid_math_bits_deBruijn64tab)], narrowed := true }
def FnExactCompareDecimalUptoSaid : Prop := fnExactCompareDecimalUptoRow.holds Tryd.pinned (OpenSpec.upto fnExactCompareDecimalSpec)

/-- 'laws.FnExactNearestDecimal', WHERE WHAT IT READS IS OF BULK AT MOST 1048576: true; the input reads as it did. -/
def fnExactNearestDecimalUptoRow : OpenClaim := { program := "ytfgbndjhaiigbabdoor", sum := "a1a919d844c4655cb221120edf0860f680e36dbfc145b86ba50c5c9f24aad4b0", func := "loop.example/g01178/laws.FnExactNearestDecimal", spec := "fnExactNearestDecimal", inPlace := ["math.Float32frombits"], unfollowed := true, recurses := true, named := ["math/bits.deBruijn32tab", "math/bits.deBruijn64tab"], apart := false, laid := [("math/bits.deBruijn32tab", laid_math_bits_deBruijn32tab), ("math/bits.deBruijn64tab", laid_math_bits_deBruijn64tab)], narrowed := true }
def FnExactNearestDecimalUptoSaid : Prop := fnExactNearestDecimalUptoRow.holds Tryd.pinned (OpenSpec.upto fnExactNearestDecimalSpec)

/-- 'laws.FnExactPatternText', WHERE WHAT IT READS IS OF BULK AT MOST 1048576: true; the input reads as it did. -/
def fnExactPatternTextUptoRow : OpenClaim := { program := "ytfgbndjhaiigbabdoor", sum := "a1a919d844c4655cb221120edf0860f680e36dbfc145b86ba50c5c9f24aad4b0", func := "loop.example/g01178/laws.FnExactPatternText", spec := "fnExactPatternText", inPlace := ["internal/abi.NoEscape", "internal/bytealg.MakeNoZero"], recurses := true, named := ["internal/strconv.uint64pow10", "math/bits.deBruijn32tab", "math/bits.deBruijn64tab"], apart := false, laid := [("math/bits.deBruijn32tab", laid_math_bits_deBruijn32tab), ("math/bits.deBruijn64tab", laid_math_bits_deBruijn64tab), ("internal/strconv.uint64pow10", laid_internal_strconv_uint64pow10)], narrowed := true }
def FnExactPatternTextUptoSaid : Prop := fnExactPatternTextUptoRow.holds Tryd.pinned (OpenSpec.upto fnExactPatternTextSpec)

/-- 'laws.FnExactExactText', WHERE WHAT IT READS IS OF BULK AT MOST 1048576: true; the input reads as it did. -/
def fnExactExactTextUptoRow : OpenClaim := { program := "ytfgbndjhaiigbabdoor", sum := "a1a919d844c4655cb221120edf0860f680e36dbfc145b86ba50c5c9f24aad4b0", func := "loop.example/g01178/laws.FnExactExactText", spec := "fnExactExactText", inPlace := ["math.Float32frombits", "internal/abi.NoEscape", "internal/bytealg.MakeNoZero"], unfollowed := true, recurses := true, named := ["math/bits.deBruijn32tab", "math/bits.deBruijn64tab", "internal/strconv.uint64pow10"], apart := false, laid := [("math/bits.deBruijn32tab", laid_math_bits_deBruijn32tab), ("math/bits.deBruijn64tab", laid_math_bits_deBruijn64tab), ("internal/strconv.uint64pow10", laid_internal_strconv_uint64pow10)], narrowed := true }
def FnExactExactTextUptoSaid : Prop := fnExactExactTextUptoRow.holds Tryd.pinned (OpenSpec.upto fnExactExactTextSpec)

/-- 'laws.FnExactHalfText', WHERE WHAT IT READS IS OF BULK AT MOST 1048576: true; the input reads as it did. -/
def fnExactHalfTextUptoRow : OpenClaim := { program := "ytfgbndjhaiigbabdoor", sum := "a1a919d844c4655cb221120edf0860f680e36dbfc145b86ba50c5c9f24aad4b0", func := "loop.example/g01178/laws.FnExactHalfText", spec := "fnExactHalfText", inPlace := ["math.Float32frombits", "internal/abi.NoEscape", "internal/bytealg.MakeNoZero"], unfollowed := true, recurses := true, named := ["math/bits.deBruijn32tab", "math/bits.deBruijn64tab", "internal/strconv.uint64pow10"], apart := false, laid := [("math/bits.deBruijn32tab", laid_math_bits_deBruijn32tab), ("math/bits.deBruijn64tab", laid_math_bits_deBruijn64tab), ("internal/strconv.uint64pow10", laid_internal_strconv_uint64pow10)], narrowed := true }
def FnExactHalfTextUptoSaid : Prop := fnExactHalfTextUptoRow.holds Tryd.pinned (OpenSpec.upto fnExactHalfTextSpec)

end Rows
end Go.Proofs.YtfgbndjhaiigbabDoor
