/-
  NARROWER THAN 'FOR EVERY INPUT', by the rows' own cells (each row's printed sentence says how): FnExactPlusInterval: laid · FnExactLessInterval: laid · FnExactTimesInterval: laid · FnExactDivideInterval: laid · FnExactRootInterval: laid · FnExactPolyInterval: laid · FnExactIntervalText: laid · FnExactRootOf: laid · FnExactShortestOf: laid.
  DERIVED. THE GIVEN ROWS OF THIS SEAT. 9 by the template 'for every input the law returns true; each argument reads behind the call as it read before'; 0 by the template 'total and deterministic' (their statements: YtfihhhbdhppemaaGreatDoorTotals.lean).
  GIVEN WITH THE SEED: the statements are not yours to turn. If you find one false, say at which input.
  Laid BY PROGRAM, IN A SANDBOX (cutbox-rows.mjs): the forced cells as the released guide's own fill.sh prints them over the translation 9f8ce7b1e1814bb5… (all of the seat's roots in one cut). By AI agents, Wed Nov 11 2026. No macro, syntax, notation, axiom, sorry.
-/
import Derived.Test.YtfihhhbdhppemaaGreatDoorChecked
import GoSem.Claim
import GoSem.ClaimJoined
import GoSem.ClaimMapViews
import Derived.JoinedTies
import Derived.KernelRfl
namespace Go.Proofs.YtfihhhbdhppemaaGreatDoor
/- THE CELL 'sum', in the pinned program and in every row, IS THE sha256 OF THE DUMP (.gsa) THAT YtfihhhbdhppemaaGreatDoorProg.lean LOADS. Nothing in Lean hashes anything: it is a label: what it is worth is what the hold of that sum in a sandbox is worth. -/
noncomputable def Tryz.pinned : Pinned := { name := "ytfihhhbdhppemaagreatdoor", sum := "9f8ce7b1e1814bb508a8069c1ff6cede59fd60a2c5d754391b04402c5a05a7e5", checked := Tryz.checked }
namespace Rows
def none {H : Type} : Left H := { results := [], args := [] }

/- WHAT THE LISTED PACKAGE-LEVEL VARIABLES READ AS WHEN THE CALL BEGINS. Each datum BY PROGRAM (the guide's laid-datum.mjs) off the statement by which the dump's own 'gosem.cut.vars' lays the variable. In a bare row this is a premise. The card (YtfihhhbdhppemaaGreatDoorCards.lean) ties it to the program's text. -/
def laid_math_bits_deBruijn32tab {H : Type} : DataW H := .agg [.lit (.int .u8 0), .lit (.int .u8 1), .lit (.int .u8 28), .lit (.int .u8 2), .lit (.int .u8 29), .lit (.int .u8 14), .lit (.int .u8 24), .lit (.int .u8 3), .lit (.int .u8 30), .lit (.int .u8 22), .lit (.int .u8 20), .lit (.int .u8 15), .lit (.int .u8 25), .lit (.int .u8 17), .lit (.int .u8 4), .lit (.int .u8 8), .lit (.int .u8 31), .lit (.int .u8 27), .lit (.int .u8 13), .lit (.int .u8 23), .lit (.int .u8 21), .lit (.int .u8 19), .lit (.int .u8 16), .lit (.int .u8 7), .lit (.int .u8 26), .lit (.int .u8 12), .lit (.int .u8 18), .lit (.int .u8 6), .lit (.int .u8 11), .lit (.int .u8 5), .lit (.int .u8 10), .lit (.int .u8 9)]
def laid_math_bits_deBruijn64tab {H : Type} : DataW H := .agg [.lit (.int .u8 0), .lit (.int .u8 1), .lit (.int .u8 56), .lit (.int .u8 2), .lit (.int .u8 57), .lit (.int .u8 49), .lit (.int .u8 28), .lit (.int .u8 3), .lit (.int .u8 61), .lit (.int .u8 58), .lit (.int .u8 42), .lit (.int .u8 50), .lit (.int .u8 38), .lit (.int .u8 29), .lit (.int .u8 17), .lit (.int .u8 4), .lit (.int .u8 62), .lit (.int .u8 47), .lit (.int .u8 59), .lit (.int .u8 36), .lit (.int .u8 45), .lit (.int .u8 43), .lit (.int .u8 51), .lit (.int .u8 22), .lit (.int .u8 53), .lit (.int .u8 39), .lit (.int .u8 33), .lit (.int .u8 30), .lit (.int .u8 24), .lit (.int .u8 18), .lit (.int .u8 12), .lit (.int .u8 5), .lit (.int .u8 63), .lit (.int .u8 55), .lit (.int .u8 48), .lit (.int .u8 27), .lit (.int .u8 60), .lit (.int .u8 41), .lit (.int .u8 37), .lit (.int .u8 16), .lit (.int .u8 46), .lit (.int .u8 35), .lit (.int .u8 44), .lit (.int .u8 21), .lit (.int .u8 52), .lit (.int .u8 32), .lit (.int .u8 23), .lit (.int .u8 11), .lit (.int .u8 54), .lit (.int .u8 26), .lit (.int .u8 40), .lit (.int .u8 15), .lit (.int .u8 34), .lit (.int .u8 20), .lit (.int .u8 31), .lit (.int .u8 10), .lit (.int .u8 25), .lit (.int .u8 14), .lit (.int .u8 19), .lit (.int .u8 9), .lit (.int .u8 13), .lit (.int .u8 8), .lit (.int .u8 7), .lit (.int .u8 6)]
def laid_internal_strconv_uint64pow10 {H : Type} : DataW H := .agg [.lit (.int .u64 1), .lit (.int .u64 10), .lit (.int .u64 100), .lit (.int .u64 1000), .lit (.int .u64 10000), .lit (.int .u64 100000), .lit (.int .u64 1000000), .lit (.int .u64 10000000), .lit (.int .u64 100000000), .lit (.int .u64 1000000000), .lit (.int .u64 10000000000), .lit (.int .u64 100000000000), .lit (.int .u64 1000000000000), .lit (.int .u64 10000000000000), .lit (.int .u64 100000000000000), .lit (.int .u64 1000000000000000), .lit (.int .u64 10000000000000000), .lit (.int .u64 100000000000000000), .lit (.int .u64 1000000000000000000), .lit (.int .u64 10000000000000000000)]

/-- 'laws.FnExactPlusInterval': WHATEVER THE INPUT: true; the input reads as it did. -/
def fnExactPlusIntervalSpec : ChangeSpec := { name := "fnExactPlusInterval", fn := fun _ => fun
  | [d1, d2, d3] => { results := [.lit (.bool true)], args := [d1, d2, d3] }
  | _ => none }
def fnExactPlusIntervalRow : OpenClaim := { program := "ytfihhhbdhppemaagreatdoor", sum := "9f8ce7b1e1814bb508a8069c1ff6cede59fd60a2c5d754391b04402c5a05a7e5", func := "loop.example/g01178/laws.FnExactPlusInterval", spec := "fnExactPlusInterval", inPlace := ["math.Float32frombits"], unfollowed := true, recurses := true, named := ["math/bits.deBruijn32tab", "math/bits.deBruijn64tab"], plainKeys := false, apart := false, laid := [("math/bits.deBruijn32tab", laid_math_bits_deBruijn32tab), ("math/bits.deBruijn64tab", laid_math_bits_deBruijn64tab)] }
def FnExactPlusIntervalSaid : Prop := fnExactPlusIntervalRow.holds Tryz.pinned (OpenSpec.ofChange fnExactPlusIntervalSpec)

/-- ITS FALSE NEIGHBOUR: 'it returns false'. Refute it at one input. -/
def fnExactPlusIntervalWrong : ChangeSpec := { name := "fnExactPlusInterval", fn := fun _ => fun
  | [d1, d2, d3] => { results := [.lit (.bool false)], args := [d1, d2, d3] }
  | _ => none }
def FnExactPlusIntervalWrongFalsely : Prop := fnExactPlusIntervalRow.holds Tryz.pinned (OpenSpec.ofChange fnExactPlusIntervalWrong)

/-- 'laws.FnExactLessInterval': WHATEVER THE INPUT: true; the input reads as it did. -/
def fnExactLessIntervalSpec : ChangeSpec := { name := "fnExactLessInterval", fn := fun _ => fun
  | [d1, d2, d3] => { results := [.lit (.bool true)], args := [d1, d2, d3] }
  | _ => none }
def fnExactLessIntervalRow : OpenClaim := { program := "ytfihhhbdhppemaagreatdoor", sum := "9f8ce7b1e1814bb508a8069c1ff6cede59fd60a2c5d754391b04402c5a05a7e5", func := "loop.example/g01178/laws.FnExactLessInterval", spec := "fnExactLessInterval", inPlace := ["math.Float32frombits"], unfollowed := true, recurses := true, named := ["math/bits.deBruijn32tab", "math/bits.deBruijn64tab"], plainKeys := false, apart := false, laid := [("math/bits.deBruijn32tab", laid_math_bits_deBruijn32tab), ("math/bits.deBruijn64tab", laid_math_bits_deBruijn64tab)] }
def FnExactLessIntervalSaid : Prop := fnExactLessIntervalRow.holds Tryz.pinned (OpenSpec.ofChange fnExactLessIntervalSpec)

/-- ITS FALSE NEIGHBOUR: 'it returns false'. Refute it at one input. -/
def fnExactLessIntervalWrong : ChangeSpec := { name := "fnExactLessInterval", fn := fun _ => fun
  | [d1, d2, d3] => { results := [.lit (.bool false)], args := [d1, d2, d3] }
  | _ => none }
def FnExactLessIntervalWrongFalsely : Prop := fnExactLessIntervalRow.holds Tryz.pinned (OpenSpec.ofChange fnExactLessIntervalWrong)

/-- 'laws.FnExactTimesInterval': WHATEVER THE INPUT: true; the input reads as it did. -/
def fnExactTimesIntervalSpec : ChangeSpec := { name := "fnExactTimesInterval", fn := fun _ => fun
  | [d1, d2, d3] => { results := [.lit (.bool true)], args := [d1, d2, d3] }
  | _ => none }
def fnExactTimesIntervalRow : OpenClaim := { program := "ytfihhhbdhppemaagreatdoor", sum := "9f8ce7b1e1814bb508a8069c1ff6cede59fd60a2c5d754391b04402c5a05a7e5", func := "loop.example/g01178/laws.FnExactTimesInterval", spec := "fnExactTimesInterval", inPlace := ["math.Float32frombits"], unfollowed := true, recurses := true, named := ["math/bits.deBruijn32tab", "math/bits.deBruijn64tab"], plainKeys := false, apart := false, laid := [("math/bits.deBruijn32tab", laid_math_bits_deBruijn32tab), ("math/bits.deBruijn64tab", laid_math_bits_deBruijn64tab)] }
def FnExactTimesIntervalSaid : Prop := fnExactTimesIntervalRow.holds Tryz.pinned (OpenSpec.ofChange fnExactTimesIntervalSpec)

/-- ITS FALSE NEIGHBOUR: 'it returns false'. Refute it at one input. -/
def fnExactTimesIntervalWrong : ChangeSpec := { name := "fnExactTimesInterval", fn := fun _ => fun
  | [d1, d2, d3] => { results := [.lit (.bool false)], args := [d1, d2, d3] }
  | _ => none }
def FnExactTimesIntervalWrongFalsely : Prop := fnExactTimesIntervalRow.holds Tryz.pinned (OpenSpec.ofChange fnExactTimesIntervalWrong)

/-- 'laws.FnExactDivideInterval': WHATEVER THE INPUT: true; the input reads as it did. -/
def fnExactDivideIntervalSpec : ChangeSpec := { name := "fnExactDivideInterval", fn := fun _ => fun
  | [d1, d2, d3] => { results := [.lit (.bool true)], args := [d1, d2, d3] }
  | _ => none }
def fnExactDivideIntervalRow : OpenClaim := { program := "ytfihhhbdhppemaagreatdoor", sum := "9f8ce7b1e1814bb508a8069c1ff6cede59fd60a2c5d754391b04402c5a05a7e5", func := "loop.example/g01178/laws.FnExactDivideInterval", spec := "fnExactDivideInterval", inPlace := ["math.Float32frombits"], unfollowed := true, recurses := true, named := ["math/bits.deBruijn32tab", "math/bits.deBruijn64tab"], plainKeys := false, apart := false, laid := [("math/bits.deBruijn32tab", laid_math_bits_deBruijn32tab), ("math/bits.deBruijn64tab", laid_math_bits_deBruijn64tab)] }
def FnExactDivideIntervalSaid : Prop := fnExactDivideIntervalRow.holds Tryz.pinned (OpenSpec.ofChange fnExactDivideIntervalSpec)

/-- ITS FALSE NEIGHBOUR: 'it returns false'. Refute it at one input. -/
def fnExactDivideIntervalWrong : ChangeSpec := { name := "fnExactDivideInterval", fn := fun _ => fun
  | [d1, d2, d3] => { results := [.lit (.bool false)], args := [d1, d2, d3] }
  | _ => none }
def FnExactDivideIntervalWrongFalsely : Prop := fnExactDivideIntervalRow.holds Tryz.pinned (OpenSpec.ofChange fnExactDivideIntervalWrong)

/-- 'laws.FnExactRootInterval': WHATEVER THE INPUT: true; the input reads as it did. -/
def fnExactRootIntervalSpec : ChangeSpec := { name := "fnExactRootInterval", fn := fun _ => fun
  | [d1, d2] => { results := [.lit (.bool true)], args := [d1, d2] }
  | _ => none }
def fnExactRootIntervalRow : OpenClaim := { program := "ytfihhhbdhppemaagreatdoor", sum := "9f8ce7b1e1814bb508a8069c1ff6cede59fd60a2c5d754391b04402c5a05a7e5", func := "loop.example/g01178/laws.FnExactRootInterval", spec := "fnExactRootInterval", inPlace := ["math.Float32frombits", "math.sqrt"], unfollowed := true, recurses := true, named := ["math/bits.deBruijn32tab", "math/bits.deBruijn64tab"], plainKeys := false, apart := false, laid := [("math/bits.deBruijn32tab", laid_math_bits_deBruijn32tab), ("math/bits.deBruijn64tab", laid_math_bits_deBruijn64tab)] }
def FnExactRootIntervalSaid : Prop := fnExactRootIntervalRow.holds Tryz.pinned (OpenSpec.ofChange fnExactRootIntervalSpec)

/-- ITS FALSE NEIGHBOUR: 'it returns false'. Refute it at one input. -/
def fnExactRootIntervalWrong : ChangeSpec := { name := "fnExactRootInterval", fn := fun _ => fun
  | [d1, d2] => { results := [.lit (.bool false)], args := [d1, d2] }
  | _ => none }
def FnExactRootIntervalWrongFalsely : Prop := fnExactRootIntervalRow.holds Tryz.pinned (OpenSpec.ofChange fnExactRootIntervalWrong)

/-- 'laws.FnExactPolyInterval': WHATEVER THE INPUT: true; the input reads as it did. -/
def fnExactPolyIntervalSpec : ChangeSpec := { name := "fnExactPolyInterval", fn := fun _ => fun
  | [d1, d2, d3] => { results := [.lit (.bool true)], args := [d1, d2, d3] }
  | _ => none }
def fnExactPolyIntervalRow : OpenClaim := { program := "ytfihhhbdhppemaagreatdoor", sum := "9f8ce7b1e1814bb508a8069c1ff6cede59fd60a2c5d754391b04402c5a05a7e5", func := "loop.example/g01178/laws.FnExactPolyInterval", spec := "fnExactPolyInterval", inPlace := ["math.Float32frombits"], unfollowed := true, recurses := true, named := ["math/bits.deBruijn32tab", "math/bits.deBruijn64tab"], plainKeys := false, apart := false, laid := [("math/bits.deBruijn32tab", laid_math_bits_deBruijn32tab), ("math/bits.deBruijn64tab", laid_math_bits_deBruijn64tab)] }
def FnExactPolyIntervalSaid : Prop := fnExactPolyIntervalRow.holds Tryz.pinned (OpenSpec.ofChange fnExactPolyIntervalSpec)

/-- ITS FALSE NEIGHBOUR: 'it returns false'. Refute it at one input. -/
def fnExactPolyIntervalWrong : ChangeSpec := { name := "fnExactPolyInterval", fn := fun _ => fun
  | [d1, d2, d3] => { results := [.lit (.bool false)], args := [d1, d2, d3] }
  | _ => none }
def FnExactPolyIntervalWrongFalsely : Prop := fnExactPolyIntervalRow.holds Tryz.pinned (OpenSpec.ofChange fnExactPolyIntervalWrong)

/-- 'laws.FnExactIntervalText': WHATEVER THE INPUT: true; the input reads as it did. -/
def fnExactIntervalTextSpec : ChangeSpec := { name := "fnExactIntervalText", fn := fun _ => fun
  | [d1, d2] => { results := [.lit (.bool true)], args := [d1, d2] }
  | _ => none }
def fnExactIntervalTextRow : OpenClaim := { program := "ytfihhhbdhppemaagreatdoor", sum := "9f8ce7b1e1814bb508a8069c1ff6cede59fd60a2c5d754391b04402c5a05a7e5", func := "loop.example/g01178/laws.FnExactIntervalText", spec := "fnExactIntervalText", inPlace := ["math.Float32frombits", "math.Float64bits", "math.Float64frombits", "math.Float32bits", "internal/abi.NoEscape", "internal/bytealg.MakeNoZero"], unfollowed := true, recurses := true, named := ["math/bits.deBruijn32tab", "math/bits.deBruijn64tab", "internal/strconv.uint64pow10"], plainKeys := false, apart := false, laid := [("math/bits.deBruijn32tab", laid_math_bits_deBruijn32tab), ("math/bits.deBruijn64tab", laid_math_bits_deBruijn64tab), ("internal/strconv.uint64pow10", laid_internal_strconv_uint64pow10)] }
def FnExactIntervalTextSaid : Prop := fnExactIntervalTextRow.holds Tryz.pinned (OpenSpec.ofChange fnExactIntervalTextSpec)

/-- ITS FALSE NEIGHBOUR: 'it returns false'. Refute it at one input. -/
def fnExactIntervalTextWrong : ChangeSpec := { name := "fnExactIntervalText", fn := fun _ => fun
  | [d1, d2] => { results := [.lit (.bool false)], args := [d1, d2] }
  | _ => none }
def FnExactIntervalTextWrongFalsely : Prop := fnExactIntervalTextRow.holds Tryz.pinned (OpenSpec.ofChange fnExactIntervalTextWrong)

/-- 'laws.FnExactRootOf': WHATEVER THE INPUT: true; the input reads as it did. -/
def fnExactRootOfSpec : ChangeSpec := { name := "fnExactRootOf", fn := fun _ => fun
  | [d1, d2, d3] => { results := [.lit (.bool true)], args := [d1, d2, d3] }
  | _ => none }
def fnExactRootOfRow : OpenClaim := { program := "ytfihhhbdhppemaagreatdoor", sum := "9f8ce7b1e1814bb508a8069c1ff6cede59fd60a2c5d754391b04402c5a05a7e5", func := "loop.example/g01178/laws.FnExactRootOf", spec := "fnExactRootOf", inPlace := ["math.Float32frombits", "math.sqrt"], unfollowed := true, recurses := true, named := ["math/bits.deBruijn32tab", "math/bits.deBruijn64tab"], plainKeys := false, apart := false, laid := [("math/bits.deBruijn32tab", laid_math_bits_deBruijn32tab), ("math/bits.deBruijn64tab", laid_math_bits_deBruijn64tab)] }
def FnExactRootOfSaid : Prop := fnExactRootOfRow.holds Tryz.pinned (OpenSpec.ofChange fnExactRootOfSpec)

/-- ITS FALSE NEIGHBOUR: 'it returns false'. Refute it at one input. -/
def fnExactRootOfWrong : ChangeSpec := { name := "fnExactRootOf", fn := fun _ => fun
  | [d1, d2, d3] => { results := [.lit (.bool false)], args := [d1, d2, d3] }
  | _ => none }
def FnExactRootOfWrongFalsely : Prop := fnExactRootOfRow.holds Tryz.pinned (OpenSpec.ofChange fnExactRootOfWrong)

/-- 'laws.FnExactShortestOf': WHATEVER THE INPUT: true; the input reads as it did. -/
def fnExactShortestOfSpec : ChangeSpec := { name := "fnExactShortestOf", fn := fun _ => fun
  | [d1, d2] => { results := [.lit (.bool true)], args := [d1, d2] }
  | _ => none }
def fnExactShortestOfRow : OpenClaim := { program := "ytfihhhbdhppemaagreatdoor", sum := "9f8ce7b1e1814bb508a8069c1ff6cede59fd60a2c5d754391b04402c5a05a7e5", func := "loop.example/g01178/laws.FnExactShortestOf", spec := "fnExactShortestOf", inPlace := ["math.Float32frombits", "math.Float64bits", "math.Float64frombits", "math.Float32bits"], unfollowed := true, recurses := true, named := ["math/bits.deBruijn32tab", "math/bits.deBruijn64tab"], plainKeys := false, apart := false, laid := [("math/bits.deBruijn32tab", laid_math_bits_deBruijn32tab), ("math/bits.deBruijn64tab", laid_math_bits_deBruijn64tab)] }
def FnExactShortestOfSaid : Prop := fnExactShortestOfRow.holds Tryz.pinned (OpenSpec.ofChange fnExactShortestOfSpec)

/-- ITS FALSE NEIGHBOUR: 'it returns false'. Refute it at one input. -/
def fnExactShortestOfWrong : ChangeSpec := { name := "fnExactShortestOf", fn := fun _ => fun
  | [d1, d2] => { results := [.lit (.bool false)], args := [d1, d2] }
  | _ => none }
def FnExactShortestOfWrongFalsely : Prop := fnExactShortestOfRow.holds Tryz.pinned (OpenSpec.ofChange fnExactShortestOfWrong)

/- THE SECOND FORM. 'bulk': how many values and letters a reading holds, each counted each time it is reached (what is shared counts as often as it is met; a slice's spare places count too). A statement '..UptoSaid' is the law's where the arguments, and the package variables that the reading takes, are together of bulk at most 1048576: NARROWER than '..Said'. Prove '..Said' where nothing that the law and all that it calls make is longer than what came in: it says more and counts as full. Else prove '..UptoSaid'. A law counts once. -/
mutual
def uptoBulk {H : Type} : DataW H → Nat
  | .lit (.string bytes) => bytes.length + 1
  | .lit _ => 1
  | .nil => 1
  | .ptr d => uptoBulk d + 1
  | .slice elems spare => uptoBulkAll elems + uptoBulkAll spare + 1
  | .agg parts => uptoBulkAll parts + 1
  | .iface _ d => uptoBulk d + 1
  | .map entries => uptoBulkEntries entries + 1
  | .held _ => 1
def uptoBulkAll {H : Type} : List (DataW H) → Nat
  | [] => 0
  | d :: r => uptoBulk d + uptoBulkAll r
def uptoBulkEntries {H : Type} : List (Lit × DataW H) → Nat
  | [] => 0
  | x :: r => uptoBulkEntry x + uptoBulkEntries r
def uptoBulkEntry {H : Type} : Lit × DataW H → Nat
  | (.string bytes, d) => bytes.length + uptoBulk d + 1
  | (_, d) => uptoBulk d + 1
 end
def uptoSmall : (H : Type) → List (DataW H) → Bool := fun _ ds => decide (uptoBulkAll ds ≤ 1048576)
def OpenSpec.upto (s : _root_.Go.ChangeSpec) : _root_.Go.OpenSpec := { _root_.Go.OpenSpec.ofChange s with cond := some uptoSmall }

/-- 'laws.FnExactPlusInterval', WHERE WHAT IT READS IS OF BULK AT MOST 1048576: true; the input reads as it did. -/
def fnExactPlusIntervalUptoRow : OpenClaim := { program := "ytfihhhbdhppemaagreatdoor", sum := "9f8ce7b1e1814bb508a8069c1ff6cede59fd60a2c5d754391b04402c5a05a7e5", func := "loop.example/g01178/laws.FnExactPlusInterval", spec := "fnExactPlusInterval", inPlace := ["math.Float32frombits"], unfollowed := true, recurses := true, named := ["math/bits.deBruijn32tab", "math/bits.deBruijn64tab"], plainKeys := false, apart := false, laid := [("math/bits.deBruijn32tab", laid_math_bits_deBruijn32tab), ("math/bits.deBruijn64tab", laid_math_bits_deBruijn64tab)], narrowed := true }
def FnExactPlusIntervalUptoSaid : Prop := fnExactPlusIntervalUptoRow.holds Tryz.pinned (OpenSpec.upto fnExactPlusIntervalSpec)

/-- 'laws.FnExactLessInterval', WHERE WHAT IT READS IS OF BULK AT MOST 1048576: true; the input reads as it did. -/
def fnExactLessIntervalUptoRow : OpenClaim := { program := "ytfihhhbdhppemaagreatdoor", sum := "9f8ce7b1e1814bb508a8069c1ff6cede59fd60a2c5d754391b04402c5a05a7e5", func := "loop.example/g01178/laws.FnExactLessInterval", spec := "fnExactLessInterval", inPlace := ["math.Float32frombits"], unfollowed := true, recurses := true, named := ["math/bits.deBruijn32tab", "math/bits.deBruijn64tab"], plainKeys := false, apart := false, laid := [("math/bits.deBruijn32tab", laid_math_bits_deBruijn32tab), ("math/bits.deBruijn64tab", laid_math_bits_deBruijn64tab)], narrowed := true }
def FnExactLessIntervalUptoSaid : Prop := fnExactLessIntervalUptoRow.holds Tryz.pinned (OpenSpec.upto fnExactLessIntervalSpec)

/-- 'laws.FnExactTimesInterval', WHERE WHAT IT READS IS OF BULK AT MOST 1048576: true; the input reads as it did. -/
def fnExactTimesIntervalUptoRow : OpenClaim := { program := "ytfihhhbdhppemaagreatdoor", sum := "9f8ce7b1e1814bb508a8069c1ff6cede59fd60a2c5d754391b04402c5a05a7e5", func := "loop.example/g01178/laws.FnExactTimesInterval", spec := "fnExactTimesInterval", inPlace := ["math.Float32frombits"], unfollowed := true, recurses := true, named := ["math/bits.deBruijn32tab", "math/bits.deBruijn64tab"], plainKeys := false, apart := false, laid := [("math/bits.deBruijn32tab", laid_math_bits_deBruijn32tab), ("math/bits.deBruijn64tab", laid_math_bits_deBruijn64tab)], narrowed := true }
def FnExactTimesIntervalUptoSaid : Prop := fnExactTimesIntervalUptoRow.holds Tryz.pinned (OpenSpec.upto fnExactTimesIntervalSpec)

/-- 'laws.FnExactDivideInterval', WHERE WHAT IT READS IS OF BULK AT MOST 1048576: true; the input reads as it did. -/
def fnExactDivideIntervalUptoRow : OpenClaim := { program := "ytfihhhbdhppemaagreatdoor", sum := "9f8ce7b1e1814bb508a8069c1ff6cede59fd60a2c5d754391b04402c5a05a7e5", func := "loop.example/g01178/laws.FnExactDivideInterval", spec := "fnExactDivideInterval", inPlace := ["math.Float32frombits"], unfollowed := true, recurses := true, named := ["math/bits.deBruijn32tab", "math/bits.deBruijn64tab"], plainKeys := false, apart := false, laid := [("math/bits.deBruijn32tab", laid_math_bits_deBruijn32tab), ("math/bits.deBruijn64tab", laid_math_bits_deBruijn64tab)], narrowed := true }
def FnExactDivideIntervalUptoSaid : Prop := fnExactDivideIntervalUptoRow.holds Tryz.pinned (OpenSpec.upto fnExactDivideIntervalSpec)

/-- 'laws.FnExactRootInterval', WHERE WHAT IT READS IS OF BULK AT MOST 1048576: true; the input reads as it did. -/
def fnExactRootIntervalUptoRow : OpenClaim := { program := "ytfihhhbdhppemaagreatdoor", sum := "9f8ce7b1e1814bb508a8069c1ff6cede59fd60a2c5d754391b04402c5a05a7e5", func := "loop.example/g01178/laws.FnExactRootInterval", spec := "fnExactRootInterval", inPlace := ["math.Float32frombits", "math.sqrt"], unfollowed := true, recurses := true, named := ["math/bits.deBruijn32tab", "math/bits.deBruijn64tab"], plainKeys := false, apart := false, laid := [("math/bits.deBruijn32tab", laid_math_bits_deBruijn32tab), ("math/bits.deBruijn64tab", laid_math_bits_deBruijn64tab)], narrowed := true }
def FnExactRootIntervalUptoSaid : Prop := fnExactRootIntervalUptoRow.holds Tryz.pinned (OpenSpec.upto fnExactRootIntervalSpec)

/-- 'laws.FnExactPolyInterval', WHERE WHAT IT READS IS OF BULK AT MOST 1048576: true; the input reads as it did. -/
def fnExactPolyIntervalUptoRow : OpenClaim := { program := "ytfihhhbdhppemaagreatdoor", sum := "9f8ce7b1e1814bb508a8069c1ff6cede59fd60a2c5d754391b04402c5a05a7e5", func := "loop.example/g01178/laws.FnExactPolyInterval", spec := "fnExactPolyInterval", inPlace := ["math.Float32frombits"], unfollowed := true, recurses := true, named := ["math/bits.deBruijn32tab", "math/bits.deBruijn64tab"], plainKeys := false, apart := false, laid := [("math/bits.deBruijn32tab", laid_math_bits_deBruijn32tab), ("math/bits.deBruijn64tab", laid_math_bits_deBruijn64tab)], narrowed := true }
def FnExactPolyIntervalUptoSaid : Prop := fnExactPolyIntervalUptoRow.holds Tryz.pinned (OpenSpec.upto fnExactPolyIntervalSpec)

/-- 'laws.FnExactIntervalText', WHERE WHAT IT READS IS OF BULK AT MOST 1048576: true; the input reads as it did. -/
def fnExactIntervalTextUptoRow : OpenClaim := { program := "ytfihhhbdhppemaagreatdoor", sum := "9f8ce7b1e1814bb508a8069c1ff6cede59fd60a2c5d754391b04402c5a05a7e5", func := "loop.example/g01178/laws.FnExactIntervalText", spec := "fnExactIntervalText", inPlace := ["math.Float32frombits", "math.Float64bits", "math.Float64frombits", "math.Float32bits", "internal/abi.NoEscape", "internal/bytealg.MakeNoZero"], unfollowed := true, recurses := true, named := ["math/bits.deBruijn32tab", "math/bits.deBruijn64tab", "internal/strconv.uint64pow10"], plainKeys := false, apart := false, laid := [("math/bits.deBruijn32tab", laid_math_bits_deBruijn32tab), ("math/bits.deBruijn64tab", laid_math_bits_deBruijn64tab), ("internal/strconv.uint64pow10", laid_internal_strconv_uint64pow10)], narrowed := true }
def FnExactIntervalTextUptoSaid : Prop := fnExactIntervalTextUptoRow.holds Tryz.pinned (OpenSpec.upto fnExactIntervalTextSpec)

/-- 'laws.FnExactRootOf', WHERE WHAT IT READS IS OF BULK AT MOST 1048576: true; the input reads as it did. -/
def fnExactRootOfUptoRow : OpenClaim := { program := "ytfihhhbdhppemaagreatdoor", sum := "9f8ce7b1e1814bb508a8069c1ff6cede59fd60a2c5d754391b04402c5a05a7e5", func := "loop.example/g01178/laws.FnExactRootOf", spec := "fnExactRootOf", inPlace := ["math.Float32frombits", "math.sqrt"], unfollowed := true, recurses := true, named := ["math/bits.deBruijn32tab", "math/bits.deBruijn64tab"], plainKeys := false, apart := false, laid := [("math/bits.deBruijn32tab", laid_math_bits_deBruijn32tab), ("math/bits.deBruijn64tab", laid_math_bits_deBruijn64tab)], narrowed := true }
def FnExactRootOfUptoSaid : Prop := fnExactRootOfUptoRow.holds Tryz.pinned (OpenSpec.upto fnExactRootOfSpec)

/-- 'laws.FnExactShortestOf', WHERE WHAT IT READS IS OF BULK AT MOST 1048576: true; the input reads as it did. -/
def fnExactShortestOfUptoRow : OpenClaim := { program := "ytfihhhbdhppemaagreatdoor", sum := "9f8ce7b1e1814bb508a8069c1ff6cede59fd60a2c5d754391b04402c5a05a7e5", func := "loop.example/g01178/laws.FnExactShortestOf", spec := "fnExactShortestOf", inPlace := ["math.Float32frombits", "math.Float64bits", "math.Float64frombits", "math.Float32bits"], unfollowed := true, recurses := true, named := ["math/bits.deBruijn32tab", "math/bits.deBruijn64tab"], plainKeys := false, apart := false, laid := [("math/bits.deBruijn32tab", laid_math_bits_deBruijn32tab), ("math/bits.deBruijn64tab", laid_math_bits_deBruijn64tab)], narrowed := true }
def FnExactShortestOfUptoSaid : Prop := fnExactShortestOfUptoRow.holds Tryz.pinned (OpenSpec.upto fnExactShortestOfSpec)

end Rows
end Go.Proofs.YtfihhhbdhppemaaGreatDoor
