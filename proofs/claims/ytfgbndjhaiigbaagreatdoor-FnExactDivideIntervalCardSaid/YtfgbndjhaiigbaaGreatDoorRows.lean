/-
  NARROWER THAN 'FOR EVERY INPUT', by the rows' own cells (each row's printed sentence says how): FnExactTimesInterval: laid · FnExactDivideInterval: laid · FnExactRootInterval: laid · FnExactPolyInterval: laid · FnExactPlusOf: laid · FnExactLessOf: laid · FnExactTimesOf: laid · FnExactDivideOf: laid · FnExactRootOf: laid · FnExactFusedOf: laid · FnExactRemainderOf: laid · FnExactWholeOf: laid.
  DERIVED. THE GIVEN ROWS OF THIS SEAT. 12 by the template 'for every input the law returns true; each argument reads behind the call as it read before'; 0 by the template 'total and deterministic' (their statements: YtfgbndjhaiigbaaGreatDoorTotals.lean).
  GIVEN WITH THE SEED: the statements are not yours to turn. If you find one false, say at which input.
  Laid BY PROGRAM, IN A SANDBOX (cutbox-rows.mjs): the forced cells as the released guide's own fill.sh prints them over the translation 32a5338853d0b01f… (all of the seat's roots in one cut). By AI agents, Wed Nov 11 2026. No macro, syntax, notation, axiom, sorry.
-/
import Derived.Test.YtfgbndjhaiigbaaGreatDoorChecked
import GoSem.Claim
import GoSem.ClaimJoined
import GoSem.ClaimMapViews
import Derived.JoinedTies
import Derived.KernelRfl
namespace Go.Proofs.YtfgbndjhaiigbaaGreatDoor
/- THE CELL 'sum', in the pinned program and in every row, IS THE sha256 OF THE DUMP (.gsa) THAT YtfgbndjhaiigbaaGreatDoorProg.lean LOADS. Nothing in Lean hashes anything: it is a label: what it is worth is what the hold of that sum in a sandbox is worth. -/
noncomputable def Tryz.pinned : Pinned := { name := "ytfgbndjhaiigbaagreatdoor", sum := "32a5338853d0b01ff0e0a69a3a5c625b9f6a916fe55b223698d7f5ae49c736ff", checked := Tryz.checked }
namespace Rows
def none {H : Type} : Left H := { results := [], args := [] }

/- WHAT THE LISTED PACKAGE-LEVEL VARIABLES READ AS WHEN THE CALL BEGINS. Each datum BY PROGRAM (the guide's laid-datum.mjs) off the statement by which the dump's own 'gosem.cut.vars' lays the variable. In a bare row this is a premise. The card (YtfgbndjhaiigbaaGreatDoorCards.lean) ties it to the program's text. -/
def laid_math_bits_deBruijn32tab {H : Type} : DataW H := .agg [.lit (.int .u8 0), .lit (.int .u8 1), .lit (.int .u8 28), .lit (.int .u8 2), .lit (.int .u8 29), .lit (.int .u8 14), .lit (.int .u8 24), .lit (.int .u8 3), .lit (.int .u8 30), .lit (.int .u8 22), .lit (.int .u8 20), .lit (.int .u8 15), .lit (.int .u8 25), .lit (.int .u8 17), .lit (.int .u8 4), .lit (.int .u8 8), .lit (.int .u8 31), .lit (.int .u8 27), .lit (.int .u8 13), .lit (.int .u8 23), .lit (.int .u8 21), .lit (.int .u8 19), .lit (.int .u8 16), .lit (.int .u8 7), .lit (.int .u8 26), .lit (.int .u8 12), .lit (.int .u8 18), .lit (.int .u8 6), .lit (.int .u8 11), .lit (.int .u8 5), .lit (.int .u8 10), .lit (.int .u8 9)]
def laid_math_bits_deBruijn64tab {H : Type} : DataW H := .agg [.lit (.int .u8 0), .lit (.int .u8 1), .lit (.int .u8 56), .lit (.int .u8 2), .lit (.int .u8 57), .lit (.int .u8 49), .lit (.int .u8 28), .lit (.int .u8 3), .lit (.int .u8 61), .lit (.int .u8 58), .lit (.int .u8 42), .lit (.int .u8 50), .lit (.int .u8 38), .lit (.int .u8 29), .lit (.int .u8 17), .lit (.int .u8 4), .lit (.int .u8 62), .lit (.int .u8 47), .lit (.int .u8 59), .lit (.int .u8 36), .lit (.int .u8 45), .lit (.int .u8 43), .lit (.int .u8 51), .lit (.int .u8 22), .lit (.int .u8 53), .lit (.int .u8 39), .lit (.int .u8 33), .lit (.int .u8 30), .lit (.int .u8 24), .lit (.int .u8 18), .lit (.int .u8 12), .lit (.int .u8 5), .lit (.int .u8 63), .lit (.int .u8 55), .lit (.int .u8 48), .lit (.int .u8 27), .lit (.int .u8 60), .lit (.int .u8 41), .lit (.int .u8 37), .lit (.int .u8 16), .lit (.int .u8 46), .lit (.int .u8 35), .lit (.int .u8 44), .lit (.int .u8 21), .lit (.int .u8 52), .lit (.int .u8 32), .lit (.int .u8 23), .lit (.int .u8 11), .lit (.int .u8 54), .lit (.int .u8 26), .lit (.int .u8 40), .lit (.int .u8 15), .lit (.int .u8 34), .lit (.int .u8 20), .lit (.int .u8 31), .lit (.int .u8 10), .lit (.int .u8 25), .lit (.int .u8 14), .lit (.int .u8 19), .lit (.int .u8 9), .lit (.int .u8 13), .lit (.int .u8 8), .lit (.int .u8 7), .lit (.int .u8 6)]

/-- 'laws.FnExactTimesInterval': WHATEVER THE INPUT: true; the input reads as it did. -/
def fnExactTimesIntervalSpec : ChangeSpec := { name := "fnExactTimesInterval", fn := fun _ => fun
  | [d1, d2, d3] => { results := [.lit (.bool true)], args := [d1, d2, d3] }
  | _ => none }
def fnExactTimesIntervalRow : OpenClaim := { program := "ytfgbndjhaiigbaagreatdoor", sum := "32a5338853d0b01ff0e0a69a3a5c625b9f6a916fe55b223698d7f5ae49c736ff", func := "loop.example/g01178/laws.FnExactTimesInterval", spec := "fnExactTimesInterval", inPlace := ["math.Float32frombits"], unfollowed := true, recurses := true, named := ["math/bits.deBruijn32tab", "math/bits.deBruijn64tab"], plainKeys := false, apart := false, laid := [("math/bits.deBruijn32tab", laid_math_bits_deBruijn32tab), ("math/bits.deBruijn64tab", laid_math_bits_deBruijn64tab)] }
def FnExactTimesIntervalSaid : Prop := fnExactTimesIntervalRow.holds Tryz.pinned (OpenSpec.ofChange fnExactTimesIntervalSpec)

/-- ITS FALSE NEIGHBOUR: 'it returns false'. Refute it at one input. -/
def fnExactTimesIntervalWrong : ChangeSpec := { name := "fnExactTimesInterval", fn := fun _ => fun
  | [d1, d2, d3] => { results := [.lit (.bool false)], args := [d1, d2, d3] }
  | _ => none }
def FnExactTimesIntervalWrongFalsely : Prop := fnExactTimesIntervalRow.holds Tryz.pinned (OpenSpec.ofChange fnExactTimesIntervalWrong)

/-- 'laws.FnExactDivideInterval': WHATEVER THE INPUT: true; the input reads as it did. -/
def fnExactDivideIntervalSpec : ChangeSpec := { name := "fnExactDivideInterval", fn := fun _ => fun
  | [d1, d2, d3] => { results := [.lit (.bool true)], args := [d1, d2, d3] }
  | _ => none }
def fnExactDivideIntervalRow : OpenClaim := { program := "ytfgbndjhaiigbaagreatdoor", sum := "32a5338853d0b01ff0e0a69a3a5c625b9f6a916fe55b223698d7f5ae49c736ff", func := "loop.example/g01178/laws.FnExactDivideInterval", spec := "fnExactDivideInterval", inPlace := ["math.Float32frombits"], unfollowed := true, recurses := true, named := ["math/bits.deBruijn32tab", "math/bits.deBruijn64tab"], plainKeys := false, apart := false, laid := [("math/bits.deBruijn32tab", laid_math_bits_deBruijn32tab), ("math/bits.deBruijn64tab", laid_math_bits_deBruijn64tab)] }
def FnExactDivideIntervalSaid : Prop := fnExactDivideIntervalRow.holds Tryz.pinned (OpenSpec.ofChange fnExactDivideIntervalSpec)

/-- ITS FALSE NEIGHBOUR: 'it returns false'. Refute it at one input. -/
def fnExactDivideIntervalWrong : ChangeSpec := { name := "fnExactDivideInterval", fn := fun _ => fun
  | [d1, d2, d3] => { results := [.lit (.bool false)], args := [d1, d2, d3] }
  | _ => none }
def FnExactDivideIntervalWrongFalsely : Prop := fnExactDivideIntervalRow.holds Tryz.pinned (OpenSpec.ofChange fnExactDivideIntervalWrong)

/-- 'laws.FnExactRootInterval': WHATEVER THE INPUT: true; the input reads as it did. -/
def fnExactRootIntervalSpec : ChangeSpec := { name := "fnExactRootInterval", fn := fun _ => fun
  | [d1, d2] => { results := [.lit (.bool true)], args := [d1, d2] }
  | _ => none }
def fnExactRootIntervalRow : OpenClaim := { program := "ytfgbndjhaiigbaagreatdoor", sum := "32a5338853d0b01ff0e0a69a3a5c625b9f6a916fe55b223698d7f5ae49c736ff", func := "loop.example/g01178/laws.FnExactRootInterval", spec := "fnExactRootInterval", inPlace := ["math.Float32frombits", "math.sqrt"], unfollowed := true, recurses := true, named := ["math/bits.deBruijn32tab", "math/bits.deBruijn64tab"], plainKeys := false, apart := false, laid := [("math/bits.deBruijn32tab", laid_math_bits_deBruijn32tab), ("math/bits.deBruijn64tab", laid_math_bits_deBruijn64tab)] }
def FnExactRootIntervalSaid : Prop := fnExactRootIntervalRow.holds Tryz.pinned (OpenSpec.ofChange fnExactRootIntervalSpec)

/-- ITS FALSE NEIGHBOUR: 'it returns false'. Refute it at one input. -/
def fnExactRootIntervalWrong : ChangeSpec := { name := "fnExactRootInterval", fn := fun _ => fun
  | [d1, d2] => { results := [.lit (.bool false)], args := [d1, d2] }
  | _ => none }
def FnExactRootIntervalWrongFalsely : Prop := fnExactRootIntervalRow.holds Tryz.pinned (OpenSpec.ofChange fnExactRootIntervalWrong)

/-- 'laws.FnExactPolyInterval': WHATEVER THE INPUT: true; the input reads as it did. -/
def fnExactPolyIntervalSpec : ChangeSpec := { name := "fnExactPolyInterval", fn := fun _ => fun
  | [d1, d2, d3] => { results := [.lit (.bool true)], args := [d1, d2, d3] }
  | _ => none }
def fnExactPolyIntervalRow : OpenClaim := { program := "ytfgbndjhaiigbaagreatdoor", sum := "32a5338853d0b01ff0e0a69a3a5c625b9f6a916fe55b223698d7f5ae49c736ff", func := "loop.example/g01178/laws.FnExactPolyInterval", spec := "fnExactPolyInterval", inPlace := ["math.Float32frombits"], unfollowed := true, recurses := true, named := ["math/bits.deBruijn32tab", "math/bits.deBruijn64tab"], plainKeys := false, apart := false, laid := [("math/bits.deBruijn32tab", laid_math_bits_deBruijn32tab), ("math/bits.deBruijn64tab", laid_math_bits_deBruijn64tab)] }
def FnExactPolyIntervalSaid : Prop := fnExactPolyIntervalRow.holds Tryz.pinned (OpenSpec.ofChange fnExactPolyIntervalSpec)

/-- ITS FALSE NEIGHBOUR: 'it returns false'. Refute it at one input. -/
def fnExactPolyIntervalWrong : ChangeSpec := { name := "fnExactPolyInterval", fn := fun _ => fun
  | [d1, d2, d3] => { results := [.lit (.bool false)], args := [d1, d2, d3] }
  | _ => none }
def FnExactPolyIntervalWrongFalsely : Prop := fnExactPolyIntervalRow.holds Tryz.pinned (OpenSpec.ofChange fnExactPolyIntervalWrong)

/-- 'laws.FnExactPlusOf': WHATEVER THE INPUT: true; the input reads as it did. -/
def fnExactPlusOfSpec : ChangeSpec := { name := "fnExactPlusOf", fn := fun _ => fun
  | [d1, d2, d3, d4] => { results := [.lit (.bool true)], args := [d1, d2, d3, d4] }
  | _ => none }
def fnExactPlusOfRow : OpenClaim := { program := "ytfgbndjhaiigbaagreatdoor", sum := "32a5338853d0b01ff0e0a69a3a5c625b9f6a916fe55b223698d7f5ae49c736ff", func := "loop.example/g01178/laws.FnExactPlusOf", spec := "fnExactPlusOf", inPlace := ["math.Float32frombits"], unfollowed := true, recurses := true, named := ["math/bits.deBruijn32tab", "math/bits.deBruijn64tab"], plainKeys := false, apart := false, laid := [("math/bits.deBruijn32tab", laid_math_bits_deBruijn32tab), ("math/bits.deBruijn64tab", laid_math_bits_deBruijn64tab)] }
def FnExactPlusOfSaid : Prop := fnExactPlusOfRow.holds Tryz.pinned (OpenSpec.ofChange fnExactPlusOfSpec)

/-- ITS FALSE NEIGHBOUR: 'it returns false'. Refute it at one input. -/
def fnExactPlusOfWrong : ChangeSpec := { name := "fnExactPlusOf", fn := fun _ => fun
  | [d1, d2, d3, d4] => { results := [.lit (.bool false)], args := [d1, d2, d3, d4] }
  | _ => none }
def FnExactPlusOfWrongFalsely : Prop := fnExactPlusOfRow.holds Tryz.pinned (OpenSpec.ofChange fnExactPlusOfWrong)

/-- 'laws.FnExactLessOf': WHATEVER THE INPUT: true; the input reads as it did. -/
def fnExactLessOfSpec : ChangeSpec := { name := "fnExactLessOf", fn := fun _ => fun
  | [d1, d2, d3, d4] => { results := [.lit (.bool true)], args := [d1, d2, d3, d4] }
  | _ => none }
def fnExactLessOfRow : OpenClaim := { program := "ytfgbndjhaiigbaagreatdoor", sum := "32a5338853d0b01ff0e0a69a3a5c625b9f6a916fe55b223698d7f5ae49c736ff", func := "loop.example/g01178/laws.FnExactLessOf", spec := "fnExactLessOf", inPlace := ["math.Float32frombits"], unfollowed := true, recurses := true, named := ["math/bits.deBruijn32tab", "math/bits.deBruijn64tab"], plainKeys := false, apart := false, laid := [("math/bits.deBruijn32tab", laid_math_bits_deBruijn32tab), ("math/bits.deBruijn64tab", laid_math_bits_deBruijn64tab)] }
def FnExactLessOfSaid : Prop := fnExactLessOfRow.holds Tryz.pinned (OpenSpec.ofChange fnExactLessOfSpec)

/-- ITS FALSE NEIGHBOUR: 'it returns false'. Refute it at one input. -/
def fnExactLessOfWrong : ChangeSpec := { name := "fnExactLessOf", fn := fun _ => fun
  | [d1, d2, d3, d4] => { results := [.lit (.bool false)], args := [d1, d2, d3, d4] }
  | _ => none }
def FnExactLessOfWrongFalsely : Prop := fnExactLessOfRow.holds Tryz.pinned (OpenSpec.ofChange fnExactLessOfWrong)

/-- 'laws.FnExactTimesOf': WHATEVER THE INPUT: true; the input reads as it did. -/
def fnExactTimesOfSpec : ChangeSpec := { name := "fnExactTimesOf", fn := fun _ => fun
  | [d1, d2, d3, d4] => { results := [.lit (.bool true)], args := [d1, d2, d3, d4] }
  | _ => none }
def fnExactTimesOfRow : OpenClaim := { program := "ytfgbndjhaiigbaagreatdoor", sum := "32a5338853d0b01ff0e0a69a3a5c625b9f6a916fe55b223698d7f5ae49c736ff", func := "loop.example/g01178/laws.FnExactTimesOf", spec := "fnExactTimesOf", inPlace := ["math.Float32frombits"], unfollowed := true, recurses := true, named := ["math/bits.deBruijn32tab", "math/bits.deBruijn64tab"], plainKeys := false, apart := false, laid := [("math/bits.deBruijn32tab", laid_math_bits_deBruijn32tab), ("math/bits.deBruijn64tab", laid_math_bits_deBruijn64tab)] }
def FnExactTimesOfSaid : Prop := fnExactTimesOfRow.holds Tryz.pinned (OpenSpec.ofChange fnExactTimesOfSpec)

/-- ITS FALSE NEIGHBOUR: 'it returns false'. Refute it at one input. -/
def fnExactTimesOfWrong : ChangeSpec := { name := "fnExactTimesOf", fn := fun _ => fun
  | [d1, d2, d3, d4] => { results := [.lit (.bool false)], args := [d1, d2, d3, d4] }
  | _ => none }
def FnExactTimesOfWrongFalsely : Prop := fnExactTimesOfRow.holds Tryz.pinned (OpenSpec.ofChange fnExactTimesOfWrong)

/-- 'laws.FnExactDivideOf': WHATEVER THE INPUT: true; the input reads as it did. -/
def fnExactDivideOfSpec : ChangeSpec := { name := "fnExactDivideOf", fn := fun _ => fun
  | [d1, d2, d3, d4] => { results := [.lit (.bool true)], args := [d1, d2, d3, d4] }
  | _ => none }
def fnExactDivideOfRow : OpenClaim := { program := "ytfgbndjhaiigbaagreatdoor", sum := "32a5338853d0b01ff0e0a69a3a5c625b9f6a916fe55b223698d7f5ae49c736ff", func := "loop.example/g01178/laws.FnExactDivideOf", spec := "fnExactDivideOf", inPlace := ["math.Float32frombits"], unfollowed := true, recurses := true, named := ["math/bits.deBruijn32tab", "math/bits.deBruijn64tab"], plainKeys := false, apart := false, laid := [("math/bits.deBruijn32tab", laid_math_bits_deBruijn32tab), ("math/bits.deBruijn64tab", laid_math_bits_deBruijn64tab)] }
def FnExactDivideOfSaid : Prop := fnExactDivideOfRow.holds Tryz.pinned (OpenSpec.ofChange fnExactDivideOfSpec)

/-- ITS FALSE NEIGHBOUR: 'it returns false'. Refute it at one input. -/
def fnExactDivideOfWrong : ChangeSpec := { name := "fnExactDivideOf", fn := fun _ => fun
  | [d1, d2, d3, d4] => { results := [.lit (.bool false)], args := [d1, d2, d3, d4] }
  | _ => none }
def FnExactDivideOfWrongFalsely : Prop := fnExactDivideOfRow.holds Tryz.pinned (OpenSpec.ofChange fnExactDivideOfWrong)

/-- 'laws.FnExactRootOf': WHATEVER THE INPUT: true; the input reads as it did. -/
def fnExactRootOfSpec : ChangeSpec := { name := "fnExactRootOf", fn := fun _ => fun
  | [d1, d2, d3] => { results := [.lit (.bool true)], args := [d1, d2, d3] }
  | _ => none }
def fnExactRootOfRow : OpenClaim := { program := "ytfgbndjhaiigbaagreatdoor", sum := "32a5338853d0b01ff0e0a69a3a5c625b9f6a916fe55b223698d7f5ae49c736ff", func := "loop.example/g01178/laws.FnExactRootOf", spec := "fnExactRootOf", inPlace := ["math.Float32frombits", "math.sqrt"], unfollowed := true, recurses := true, named := ["math/bits.deBruijn32tab", "math/bits.deBruijn64tab"], plainKeys := false, apart := false, laid := [("math/bits.deBruijn32tab", laid_math_bits_deBruijn32tab), ("math/bits.deBruijn64tab", laid_math_bits_deBruijn64tab)] }
def FnExactRootOfSaid : Prop := fnExactRootOfRow.holds Tryz.pinned (OpenSpec.ofChange fnExactRootOfSpec)

/-- ITS FALSE NEIGHBOUR: 'it returns false'. Refute it at one input. -/
def fnExactRootOfWrong : ChangeSpec := { name := "fnExactRootOf", fn := fun _ => fun
  | [d1, d2, d3] => { results := [.lit (.bool false)], args := [d1, d2, d3] }
  | _ => none }
def FnExactRootOfWrongFalsely : Prop := fnExactRootOfRow.holds Tryz.pinned (OpenSpec.ofChange fnExactRootOfWrong)

/-- 'laws.FnExactFusedOf': WHATEVER THE INPUT: true; the input reads as it did. -/
def fnExactFusedOfSpec : ChangeSpec := { name := "fnExactFusedOf", fn := fun _ => fun
  | [d1, d2, d3, d4, d5] => { results := [.lit (.bool true)], args := [d1, d2, d3, d4, d5] }
  | _ => none }
def fnExactFusedOfRow : OpenClaim := { program := "ytfgbndjhaiigbaagreatdoor", sum := "32a5338853d0b01ff0e0a69a3a5c625b9f6a916fe55b223698d7f5ae49c736ff", func := "loop.example/g01178/laws.FnExactFusedOf", spec := "fnExactFusedOf", inPlace := ["math.Float32frombits"], unfollowed := true, recurses := true, named := ["math/bits.deBruijn32tab", "math/bits.deBruijn64tab"], plainKeys := false, apart := false, laid := [("math/bits.deBruijn32tab", laid_math_bits_deBruijn32tab), ("math/bits.deBruijn64tab", laid_math_bits_deBruijn64tab)] }
def FnExactFusedOfSaid : Prop := fnExactFusedOfRow.holds Tryz.pinned (OpenSpec.ofChange fnExactFusedOfSpec)

/-- ITS FALSE NEIGHBOUR: 'it returns false'. Refute it at one input. -/
def fnExactFusedOfWrong : ChangeSpec := { name := "fnExactFusedOf", fn := fun _ => fun
  | [d1, d2, d3, d4, d5] => { results := [.lit (.bool false)], args := [d1, d2, d3, d4, d5] }
  | _ => none }
def FnExactFusedOfWrongFalsely : Prop := fnExactFusedOfRow.holds Tryz.pinned (OpenSpec.ofChange fnExactFusedOfWrong)

/-- 'laws.FnExactRemainderOf': WHATEVER THE INPUT: true; the input reads as it did. -/
def fnExactRemainderOfSpec : ChangeSpec := { name := "fnExactRemainderOf", fn := fun _ => fun
  | [d1, d2, d3] => { results := [.lit (.bool true)], args := [d1, d2, d3] }
  | _ => none }
def fnExactRemainderOfRow : OpenClaim := { program := "ytfgbndjhaiigbaagreatdoor", sum := "32a5338853d0b01ff0e0a69a3a5c625b9f6a916fe55b223698d7f5ae49c736ff", func := "loop.example/g01178/laws.FnExactRemainderOf", spec := "fnExactRemainderOf", inPlace := ["math.Float32frombits"], unfollowed := true, recurses := true, named := ["math/bits.deBruijn32tab", "math/bits.deBruijn64tab"], plainKeys := false, apart := false, laid := [("math/bits.deBruijn32tab", laid_math_bits_deBruijn32tab), ("math/bits.deBruijn64tab", laid_math_bits_deBruijn64tab)] }
def FnExactRemainderOfSaid : Prop := fnExactRemainderOfRow.holds Tryz.pinned (OpenSpec.ofChange fnExactRemainderOfSpec)

/-- ITS FALSE NEIGHBOUR: 'it returns false'. Refute it at one input. -/
def fnExactRemainderOfWrong : ChangeSpec := { name := "fnExactRemainderOf", fn := fun _ => fun
  | [d1, d2, d3] => { results := [.lit (.bool false)], args := [d1, d2, d3] }
  | _ => none }
def FnExactRemainderOfWrongFalsely : Prop := fnExactRemainderOfRow.holds Tryz.pinned (OpenSpec.ofChange fnExactRemainderOfWrong)

/-- 'laws.FnExactWholeOf': WHATEVER THE INPUT: true; the input reads as it did. -/
def fnExactWholeOfSpec : ChangeSpec := { name := "fnExactWholeOf", fn := fun _ => fun
  | [d1, d2, d3] => { results := [.lit (.bool true)], args := [d1, d2, d3] }
  | _ => none }
def fnExactWholeOfRow : OpenClaim := { program := "ytfgbndjhaiigbaagreatdoor", sum := "32a5338853d0b01ff0e0a69a3a5c625b9f6a916fe55b223698d7f5ae49c736ff", func := "loop.example/g01178/laws.FnExactWholeOf", spec := "fnExactWholeOf", inPlace := ["math.Float32frombits", "math.Float64bits", "math.Float64frombits", "math.Float32bits"], unfollowed := true, recurses := true, named := ["math/bits.deBruijn32tab", "math/bits.deBruijn64tab"], plainKeys := false, apart := false, laid := [("math/bits.deBruijn32tab", laid_math_bits_deBruijn32tab), ("math/bits.deBruijn64tab", laid_math_bits_deBruijn64tab)] }
def FnExactWholeOfSaid : Prop := fnExactWholeOfRow.holds Tryz.pinned (OpenSpec.ofChange fnExactWholeOfSpec)

/-- ITS FALSE NEIGHBOUR: 'it returns false'. Refute it at one input. -/
def fnExactWholeOfWrong : ChangeSpec := { name := "fnExactWholeOf", fn := fun _ => fun
  | [d1, d2, d3] => { results := [.lit (.bool false)], args := [d1, d2, d3] }
  | _ => none }
def FnExactWholeOfWrongFalsely : Prop := fnExactWholeOfRow.holds Tryz.pinned (OpenSpec.ofChange fnExactWholeOfWrong)

/- THE SECOND FORM. 'bulk': how many values and letters a reading holds, each counted each time it is reached (what is shared counts as often as it is met; a slice's spare places count too). A statement '..UptoSaid' is the law's where the arguments, and the package variables that the reading takes, are together of bulk at most 1048576: NARROWER than '..Said'. Prove '..Said' where nothing that the law and all that it calls make is longer than what came in: it says more and counts as full. Else prove '..UptoSaid'. A law counts once. -/
mutual
def uptoBulk {H : Type} : DataW H → Nat
  | .lit (.string bytes) => bytes.length + 1
  | .lit _ => 1
  | .nil => 1
  | .ptr d => uptoBulk d + 1
  | .slice elems spare => uptoBulkAll elems + uptoBulkAll spare + 1
  | .agg parts => uptoBulkAll parts + 1
  | .iface _ d => uptoBulk d + 1
  | .map entries => uptoBulkEntries entries + 1
  | .held _ => 1
def uptoBulkAll {H : Type} : List (DataW H) → Nat
  | [] => 0
  | d :: r => uptoBulk d + uptoBulkAll r
def uptoBulkEntries {H : Type} : List (Lit × DataW H) → Nat
  | [] => 0
  | x :: r => uptoBulkEntry x + uptoBulkEntries r
def uptoBulkEntry {H : Type} : Lit × DataW H → Nat
  | (.string bytes, d) => bytes.length + uptoBulk d + 1
  | (_, d) => uptoBulk d + 1
 end
def uptoSmall : (H : Type) → List (DataW H) → Bool := fun _ ds => decide (uptoBulkAll ds ≤ 1048576)
def OpenSpec.upto (s : _root_.Go.ChangeSpec) : _root_.Go.OpenSpec := { _root_.Go.OpenSpec.ofChange s with cond := some uptoSmall }

/-- 'laws.FnExactTimesInterval', WHERE WHAT IT READS IS OF BULK AT MOST 1048576: true; the input reads as it did. -/
def fnExactTimesIntervalUptoRow : OpenClaim := { program := "ytfgbndjhaiigbaagreatdoor", sum := "32a5338853d0b01ff0e0a69a3a5c625b9f6a916fe55b223698d7f5ae49c736ff", func := "loop.example/g01178/laws.FnExactTimesInterval", spec := "fnExactTimesInterval", inPlace := ["math.Float32frombits"], unfollowed := true, recurses := true, named := ["math/bits.deBruijn32tab", "math/bits.deBruijn64tab"], plainKeys := false, apart := false, laid := [("math/bits.deBruijn32tab", laid_math_bits_deBruijn32tab), ("math/bits.deBruijn64tab", laid_math_bits_deBruijn64tab)], narrowed := true }
def FnExactTimesIntervalUptoSaid : Prop := fnExactTimesIntervalUptoRow.holds Tryz.pinned (OpenSpec.upto fnExactTimesIntervalSpec)

/-- 'laws.FnExactDivideInterval', WHERE WHAT IT READS IS OF BULK AT MOST 1048576: true; the input reads as it did. -/
def fnExactDivideIntervalUptoRow : OpenClaim := { program := "ytfgbndjhaiigbaagreatdoor", sum := "32a5338853d0b01ff0e0a69a3a5c625b9f6a916fe55b223698d7f5ae49c736ff", func := "loop.example/g01178/laws.FnExactDivideInterval", spec := "fnExactDivideInterval", inPlace := ["math.Float32frombits"], unfollowed := true, recurses := true, named := ["math/bits.deBruijn32tab", "math/bits.deBruijn64tab"], plainKeys := false, apart := false, laid := [("math/bits.deBruijn32tab", laid_math_bits_deBruijn32tab), ("math/bits.deBruijn64tab", laid_math_bits_deBruijn64tab)], narrowed := true }
def FnExactDivideIntervalUptoSaid : Prop := fnExactDivideIntervalUptoRow.holds Tryz.pinned (OpenSpec.upto fnExactDivideIntervalSpec)

/-- 'laws.FnExactRootInterval', WHERE WHAT IT READS IS OF BULK AT MOST 1048576: true; the input reads as it did. -/
def fnExactRootIntervalUptoRow : OpenClaim := { program := "ytfgbndjhaiigbaagreatdoor", sum := "32a5338853d0b01ff0e0a69a3a5c625b9f6a916fe55b223698d7f5ae49c736ff", func := "loop.example/g01178/laws.FnExactRootInterval", spec := "fnExactRootInterval", inPlace := ["math.Float32frombits", "math.sqrt"], unfollowed := true, recurses := true, named := ["math/bits.deBruijn32tab", "math/bits.deBruijn64tab"], plainKeys := false, apart := false, laid := [("math/bits.deBruijn32tab", laid_math_bits_deBruijn32tab), ("math/bits.deBruijn64tab", laid_math_bits_deBruijn64tab)], narrowed := true }
def FnExactRootIntervalUptoSaid : Prop := fnExactRootIntervalUptoRow.holds Tryz.pinned (OpenSpec.upto fnExactRootIntervalSpec)

/-- 'laws.FnExactPolyInterval', WHERE WHAT IT READS IS OF BULK AT MOST 1048576: true; the input reads as it did. -/
def fnExactPolyIntervalUptoRow : OpenClaim := { program := "ytfgbndjhaiigbaagreatdoor", sum := "32a5338853d0b01ff0e0a69a3a5c625b9f6a916fe55b223698d7f5ae49c736ff", func := "loop.example/g01178/laws.FnExactPolyInterval", spec := "fnExactPolyInterval", inPlace := ["math.Float32frombits"], unfollowed := true, recurses := true, named := ["math/bits.deBruijn32tab", "math/bits.deBruijn64tab"], plainKeys := false, apart := false, laid := [("math/bits.deBruijn32tab", laid_math_bits_deBruijn32tab), ("math/bits.deBruijn64tab", laid_math_bits_deBruijn64tab)], narrowed := true }
def FnExactPolyIntervalUptoSaid : Prop := fnExactPolyIntervalUptoRow.holds Tryz.pinned (OpenSpec.upto fnExactPolyIntervalSpec)

/-- 'laws.FnExactPlusOf', WHERE WHAT IT READS IS OF BULK AT MOST 1048576: true; the input reads as it did. -/
def fnExactPlusOfUptoRow : OpenClaim := { program := "ytfgbndjhaiigbaagreatdoor", sum := "32a5338853d0b01ff0e0a69a3a5c625b9f6a916fe55b223698d7f5ae49c736ff", func := "loop.example/g01178/laws.FnExactPlusOf", spec := "fnExactPlusOf", inPlace := ["math.Float32frombits"], unfollowed := true, recurses := true, named := ["math/bits.deBruijn32tab", "math/bits.deBruijn64tab"], plainKeys := false, apart := false, laid := [("math/bits.deBruijn32tab", laid_math_bits_deBruijn32tab), ("math/bits.deBruijn64tab", laid_math_bits_deBruijn64tab)], narrowed := true }
def FnExactPlusOfUptoSaid : Prop := fnExactPlusOfUptoRow.holds Tryz.pinned (OpenSpec.upto fnExactPlusOfSpec)

/-- 'laws.FnExactLessOf', WHERE WHAT IT READS IS OF BULK AT MOST 1048576: true; the input reads as it did. -/
def fnExactLessOfUptoRow : OpenClaim := { program := "ytfgbndjhaiigbaagreatdoor", sum := "32a5338853d0b01ff0e0a69a3a5c625b9f6a916fe55b223698d7f5ae49c736ff", func := "loop.example/g01178/laws.FnExactLessOf", spec := "fnExactLessOf", inPlace := ["math.Float32frombits"], unfollowed := true, recurses := true, named := ["math/bits.deBruijn32tab", "math/bits.deBruijn64tab"], plainKeys := false, apart := false, laid := [("math/bits.deBruijn32tab", laid_math_bits_deBruijn32tab), ("math/bits.deBruijn64tab", laid_math_bits_deBruijn64tab)], narrowed := true }
def FnExactLessOfUptoSaid : Prop := fnExactLessOfUptoRow.holds Tryz.pinned (OpenSpec.upto fnExactLessOfSpec)

/-- 'laws.FnExactTimesOf', WHERE WHAT IT READS IS OF BULK AT MOST 1048576: true; the input reads as it did. -/
def fnExactTimesOfUptoRow : OpenClaim := { program := "ytfgbndjhaiigbaagreatdoor", sum := "32a5338853d0b01ff0e0a69a3a5c625b9f6a916fe55b223698d7f5ae49c736ff", func := "loop.example/g01178/laws.FnExactTimesOf", spec := "fnExactTimesOf", inPlace := ["math.Float32frombits"], unfollowed := true, recurses := true, named := ["math/bits.deBruijn32tab", "math/bits.deBruijn64tab"], plainKeys := false, apart := false, laid := [("math/bits.deBruijn32tab", laid_math_bits_deBruijn32tab), ("math/bits.deBruijn64tab", laid_math_bits_deBruijn64tab)], narrowed := true }
def FnExactTimesOfUptoSaid : Prop := fnExactTimesOfUptoRow.holds Tryz.pinned (OpenSpec.upto fnExactTimesOfSpec)

/-- 'laws.FnExactDivideOf', WHERE WHAT IT READS IS OF BULK AT MOST 1048576: true; the input reads as it did. -/
def fnExactDivideOfUptoRow : OpenClaim := { program := "ytfgbndjhaiigbaagreatdoor", sum := "32a5338853d0b01ff0e0a69a3a5c625b9f6a916fe55b223698d7f5ae49c736ff", func := "loop.example/g01178/laws.FnExactDivideOf", spec := "fnExactDivideOf", inPlace := ["math.Float32frombits"], unfollowed := true, recurses := true, named := ["math/bits.deBruijn32tab", "math/bits.deBruijn64tab"], plainKeys := false, apart := false, laid := [("math/bits.deBruijn32tab", laid_math_bits_deBruijn32tab), ("math/bits.deBruijn64tab", laid_math_bits_deBruijn64tab)], narrowed := true }
def FnExactDivideOfUptoSaid : Prop := fnExactDivideOfUptoRow.holds Tryz.pinned (OpenSpec.upto fnExactDivideOfSpec)

/-- 'laws.FnExactRootOf', WHERE WHAT IT READS IS OF BULK AT MOST 1048576: true; the input reads as it did. -/
def fnExactRootOfUptoRow : OpenClaim := { program := "ytfgbndjhaiigbaagreatdoor", sum := "32a5338853d0b01ff0e0a69a3a5c625b9f6a916fe55b223698d7f5ae49c736ff", func := "loop.example/g01178/laws.FnExactRootOf", spec := "fnExactRootOf", inPlace := ["math.Float32frombits", "math.sqrt"], unfollowed := true, recurses := true, named := ["math/bits.deBruijn32tab", "math/bits.deBruijn64tab"], plainKeys := false, apart := false, laid := [("math/bits.deBruijn32tab", laid_math_bits_deBruijn32tab), ("math/bits.deBruijn64tab", laid_math_bits_deBruijn64tab)], narrowed := true }
def FnExactRootOfUptoSaid : Prop := fnExactRootOfUptoRow.holds Tryz.pinned (OpenSpec.upto fnExactRootOfSpec)

/-- 'laws.FnExactFusedOf', WHERE WHAT IT READS IS OF BULK AT MOST 1048576: true; the input reads as it did. -/
def fnExactFusedOfUptoRow : OpenClaim := { program := "ytfgbndjhaiigbaagreatdoor", sum := "32a5338853d0b01ff0e0a69a3a5c625b9f6a916fe55b223698d7f5ae49c736ff", func := "loop.example/g01178/laws.FnExactFusedOf", spec := "fnExactFusedOf", inPlace := ["math.Float32frombits"], unfollowed := true, recurses := true, named := ["math/bits.deBruijn32tab", "math/bits.deBruijn64tab"], plainKeys := false, apart := false, laid := [("math/bits.deBruijn32tab", laid_math_bits_deBruijn32tab), ("math/bits.deBruijn64tab", laid_math_bits_deBruijn64tab)], narrowed := true }
def FnExactFusedOfUptoSaid : Prop := fnExactFusedOfUptoRow.holds Tryz.pinned (OpenSpec.upto fnExactFusedOfSpec)

/-- 'laws.FnExactRemainderOf', WHERE WHAT IT READS IS OF BULK AT MOST 1048576: true; the input reads as it did. -/
def fnExactRemainderOfUptoRow : OpenClaim := { program := "ytfgbndjhaiigbaagreatdoor", sum := "32a5338853d0b01ff0e0a69a3a5c625b9f6a916fe55b223698d7f5ae49c736ff", func := "loop.example/g01178/laws.FnExactRemainderOf", spec := "fnExactRemainderOf", inPlace := ["math.Float32frombits"], unfollowed := true, recurses := true, named := ["math/bits.deBruijn32tab", "math/bits.deBruijn64tab"], plainKeys := false, apart := false, laid := [("math/bits.deBruijn32tab", laid_math_bits_deBruijn32tab), ("math/bits.deBruijn64tab", laid_math_bits_deBruijn64tab)], narrowed := true }
def FnExactRemainderOfUptoSaid : Prop := fnExactRemainderOfUptoRow.holds Tryz.pinned (OpenSpec.upto fnExactRemainderOfSpec)

/-- 'laws.FnExactWholeOf', WHERE WHAT IT READS IS OF BULK AT MOST 1048576: true; the input reads as it did. -/
def fnExactWholeOfUptoRow : OpenClaim := { program := "ytfgbndjhaiigbaagreatdoor", sum := "32a5338853d0b01ff0e0a69a3a5c625b9f6a916fe55b223698d7f5ae49c736ff", func := "loop.example/g01178/laws.FnExactWholeOf", spec := "fnExactWholeOf", inPlace := ["math.Float32frombits", "math.Float64bits", "math.Float64frombits", "math.Float32bits"], unfollowed := true, recurses := true, named := ["math/bits.deBruijn32tab", "math/bits.deBruijn64tab"], plainKeys := false, apart := false, laid := [("math/bits.deBruijn32tab", laid_math_bits_deBruijn32tab), ("math/bits.deBruijn64tab", laid_math_bits_deBruijn64tab)], narrowed := true }
def FnExactWholeOfUptoSaid : Prop := fnExactWholeOfUptoRow.holds Tryz.pinned (OpenSpec.upto fnExactWholeOfSpec)

end Rows
end Go.Proofs.YtfgbndjhaiigbaaGreatDoor
