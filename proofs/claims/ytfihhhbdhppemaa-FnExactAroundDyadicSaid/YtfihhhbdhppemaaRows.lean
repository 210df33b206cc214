/-
  No cell of these rows narrows 'for every input' (looked for: loops, veiled, ifaces, maps, wideKeys, modest, calm, conditions, laid).
  DERIVED. THE GIVEN ROWS OF THIS SEAT. 10 by the template 'for every input the law returns true; each argument reads behind the call as it read before'; 0 by the template 'total and deterministic' (their statements: YtfihhhbdhppemaaTotals.lean).
  GIVEN WITH THE SEED: the statements are not yours to turn. If you find one false, say at which input.
  Laid BY PROGRAM, IN A SANDBOX (cutbox-rows.mjs): the forced cells as the released guide's own fill.sh prints them over the translation c852ef7483e79b62… (all of the seat's roots in one cut). By AI agents, Wed Nov 11 2026. No macro, syntax, notation, axiom, sorry.
-/
import Derived.Test.YtfihhhbdhppemaaChecked
import GoSem.Claim
import GoSem.ClaimJoined
import GoSem.ClaimMapViews
import Derived.JoinedTies
import Derived.KernelRfl
namespace Go.Proofs.Ytfihhhbdhppemaa
/- THE CELL 'sum', in the pinned program and in every row, IS THE sha256 OF THE DUMP (.gsa) THAT YtfihhhbdhppemaaProg.lean LOADS. Nothing in Lean hashes anything: it is a label: what it is worth is what the hold of that sum in a sandbox is worth. -/
noncomputable def Try.pinned : Pinned := { name := "ytfihhhbdhppemaa", sum := "c852ef7483e79b6222b629b5b755b17e5d2f958fad898099ae93a65e4a75589f", checked := Try.checked }
namespace Rows
def none {H : Type} : Left H := { results := [], args := [] }

/-- 'laws.FnExactIsInterval': WHATEVER THE INPUT: true; the input reads as it did. -/
def fnExactIsIntervalSpec : ChangeSpec := { name := "fnExactIsInterval", fn := fun _ => fun
  | [d1, d2] => { results := [.lit (.bool true)], args := [d1, d2] }
  | _ => none }
def fnExactIsIntervalRow : OpenClaim := { program := "ytfihhhbdhppemaa", sum := "c852ef7483e79b6222b629b5b755b17e5d2f958fad898099ae93a65e4a75589f", func := "loop.example/g01178/laws.FnExactIsInterval", spec := "fnExactIsInterval", unfollowed := true, recurses := true, plainKeys := false, apart := false }
def FnExactIsIntervalSaid : Prop := fnExactIsIntervalRow.holds Try.pinned (OpenSpec.ofChange fnExactIsIntervalSpec)

/-- ITS FALSE NEIGHBOUR: 'it returns false'. Refute it at one input. -/
def fnExactIsIntervalWrong : ChangeSpec := { name := "fnExactIsInterval", fn := fun _ => fun
  | [d1, d2] => { results := [.lit (.bool false)], args := [d1, d2] }
  | _ => none }
def FnExactIsIntervalWrongFalsely : Prop := fnExactIsIntervalRow.holds Try.pinned (OpenSpec.ofChange fnExactIsIntervalWrong)

/-- 'laws.FnExactPointInterval': WHATEVER THE INPUT: true; the input reads as it did. -/
def fnExactPointIntervalSpec : ChangeSpec := { name := "fnExactPointInterval", fn := fun _ => fun
  | [d1, d2] => { results := [.lit (.bool true)], args := [d1, d2] }
  | _ => none }
def fnExactPointIntervalRow : OpenClaim := { program := "ytfihhhbdhppemaa", sum := "c852ef7483e79b6222b629b5b755b17e5d2f958fad898099ae93a65e4a75589f", func := "loop.example/g01178/laws.FnExactPointInterval", spec := "fnExactPointInterval", unfollowed := true, recurses := true, plainKeys := false, apart := false }
def FnExactPointIntervalSaid : Prop := fnExactPointIntervalRow.holds Try.pinned (OpenSpec.ofChange fnExactPointIntervalSpec)

/-- ITS FALSE NEIGHBOUR: 'it returns false'. Refute it at one input. -/
def fnExactPointIntervalWrong : ChangeSpec := { name := "fnExactPointInterval", fn := fun _ => fun
  | [d1, d2] => { results := [.lit (.bool false)], args := [d1, d2] }
  | _ => none }
def FnExactPointIntervalWrongFalsely : Prop := fnExactPointIntervalRow.holds Try.pinned (OpenSpec.ofChange fnExactPointIntervalWrong)

/-- 'laws.FnExactAroundDyadic': WHATEVER THE INPUT: true; the input reads as it did. -/
def fnExactAroundDyadicSpec : ChangeSpec := { name := "fnExactAroundDyadic", fn := fun _ => fun
  | [d1, d2] => { results := [.lit (.bool true)], args := [d1, d2] }
  | _ => none }
def fnExactAroundDyadicRow : OpenClaim := { program := "ytfihhhbdhppemaa", sum := "c852ef7483e79b6222b629b5b755b17e5d2f958fad898099ae93a65e4a75589f", func := "loop.example/g01178/laws.FnExactAroundDyadic", spec := "fnExactAroundDyadic", inPlace := ["math.Float64bits", "math.Float64frombits", "math.Float32frombits", "math.Float32bits"], unfollowed := true, recurses := true, plainKeys := false, apart := false }
def FnExactAroundDyadicSaid : Prop := fnExactAroundDyadicRow.holds Try.pinned (OpenSpec.ofChange fnExactAroundDyadicSpec)

/-- ITS FALSE NEIGHBOUR: 'it returns false'. Refute it at one input. -/
def fnExactAroundDyadicWrong : ChangeSpec := { name := "fnExactAroundDyadic", fn := fun _ => fun
  | [d1, d2] => { results := [.lit (.bool false)], args := [d1, d2] }
  | _ => none }
def FnExactAroundDyadicWrongFalsely : Prop := fnExactAroundDyadicRow.holds Try.pinned (OpenSpec.ofChange fnExactAroundDyadicWrong)

/-- 'laws.FnExactEncloses': WHATEVER THE INPUT: true; the input reads as it did. -/
def fnExactEnclosesSpec : ChangeSpec := { name := "fnExactEncloses", fn := fun _ => fun
  | [d1, d2, d3] => { results := [.lit (.bool true)], args := [d1, d2, d3] }
  | _ => none }
def fnExactEnclosesRow : OpenClaim := { program := "ytfihhhbdhppemaa", sum := "c852ef7483e79b6222b629b5b755b17e5d2f958fad898099ae93a65e4a75589f", func := "loop.example/g01178/laws.FnExactEncloses", spec := "fnExactEncloses", unfollowed := true, recurses := true, plainKeys := false, apart := false }
def FnExactEnclosesSaid : Prop := fnExactEnclosesRow.holds Try.pinned (OpenSpec.ofChange fnExactEnclosesSpec)

/-- ITS FALSE NEIGHBOUR: 'it returns false'. Refute it at one input. -/
def fnExactEnclosesWrong : ChangeSpec := { name := "fnExactEncloses", fn := fun _ => fun
  | [d1, d2, d3] => { results := [.lit (.bool false)], args := [d1, d2, d3] }
  | _ => none }
def FnExactEnclosesWrongFalsely : Prop := fnExactEnclosesRow.holds Try.pinned (OpenSpec.ofChange fnExactEnclosesWrong)

/-- 'laws.FnExactIsWithin': WHATEVER THE INPUT: true; the input reads as it did. -/
def fnExactIsWithinSpec : ChangeSpec := { name := "fnExactIsWithin", fn := fun _ => fun
  | [d1, d2, d3] => { results := [.lit (.bool true)], args := [d1, d2, d3] }
  | _ => none }
def fnExactIsWithinRow : OpenClaim := { program := "ytfihhhbdhppemaa", sum := "c852ef7483e79b6222b629b5b755b17e5d2f958fad898099ae93a65e4a75589f", func := "loop.example/g01178/laws.FnExactIsWithin", spec := "fnExactIsWithin", unfollowed := true, recurses := true, plainKeys := false, apart := false }
def FnExactIsWithinSaid : Prop := fnExactIsWithinRow.holds Try.pinned (OpenSpec.ofChange fnExactIsWithinSpec)

/-- ITS FALSE NEIGHBOUR: 'it returns false'. Refute it at one input. -/
def fnExactIsWithinWrong : ChangeSpec := { name := "fnExactIsWithin", fn := fun _ => fun
  | [d1, d2, d3] => { results := [.lit (.bool false)], args := [d1, d2, d3] }
  | _ => none }
def FnExactIsWithinWrongFalsely : Prop := fnExactIsWithinRow.holds Try.pinned (OpenSpec.ofChange fnExactIsWithinWrong)

/-- 'laws.FnExactHullOf': WHATEVER THE INPUT: true; the input reads as it did. -/
def fnExactHullOfSpec : ChangeSpec := { name := "fnExactHullOf", fn := fun _ => fun
  | [d1, d2, d3] => { results := [.lit (.bool true)], args := [d1, d2, d3] }
  | _ => none }
def fnExactHullOfRow : OpenClaim := { program := "ytfihhhbdhppemaa", sum := "c852ef7483e79b6222b629b5b755b17e5d2f958fad898099ae93a65e4a75589f", func := "loop.example/g01178/laws.FnExactHullOf", spec := "fnExactHullOf", unfollowed := true, recurses := true, plainKeys := false, apart := false }
def FnExactHullOfSaid : Prop := fnExactHullOfRow.holds Try.pinned (OpenSpec.ofChange fnExactHullOfSpec)

/-- ITS FALSE NEIGHBOUR: 'it returns false'. Refute it at one input. -/
def fnExactHullOfWrong : ChangeSpec := { name := "fnExactHullOf", fn := fun _ => fun
  | [d1, d2, d3] => { results := [.lit (.bool false)], args := [d1, d2, d3] }
  | _ => none }
def FnExactHullOfWrongFalsely : Prop := fnExactHullOfRow.holds Try.pinned (OpenSpec.ofChange fnExactHullOfWrong)

/-- 'laws.FnExactMeetOf': WHATEVER THE INPUT: true; the input reads as it did. -/
def fnExactMeetOfSpec : ChangeSpec := { name := "fnExactMeetOf", fn := fun _ => fun
  | [d1, d2, d3] => { results := [.lit (.bool true)], args := [d1, d2, d3] }
  | _ => none }
def fnExactMeetOfRow : OpenClaim := { program := "ytfihhhbdhppemaa", sum := "c852ef7483e79b6222b629b5b755b17e5d2f958fad898099ae93a65e4a75589f", func := "loop.example/g01178/laws.FnExactMeetOf", spec := "fnExactMeetOf", unfollowed := true, recurses := true, plainKeys := false, apart := false }
def FnExactMeetOfSaid : Prop := fnExactMeetOfRow.holds Try.pinned (OpenSpec.ofChange fnExactMeetOfSpec)

/-- ITS FALSE NEIGHBOUR: 'it returns false'. Refute it at one input. -/
def fnExactMeetOfWrong : ChangeSpec := { name := "fnExactMeetOf", fn := fun _ => fun
  | [d1, d2, d3] => { results := [.lit (.bool false)], args := [d1, d2, d3] }
  | _ => none }
def FnExactMeetOfWrongFalsely : Prop := fnExactMeetOfRow.holds Try.pinned (OpenSpec.ofChange fnExactMeetOfWrong)

/-- 'laws.FnExactCountWithin': WHATEVER THE INPUT: true; the input reads as it did. -/
def fnExactCountWithinSpec : ChangeSpec := { name := "fnExactCountWithin", fn := fun _ => fun
  | [d1, d2] => { results := [.lit (.bool true)], args := [d1, d2] }
  | _ => none }
def fnExactCountWithinRow : OpenClaim := { program := "ytfihhhbdhppemaa", sum := "c852ef7483e79b6222b629b5b755b17e5d2f958fad898099ae93a65e4a75589f", func := "loop.example/g01178/laws.FnExactCountWithin", spec := "fnExactCountWithin", unfollowed := true, recurses := true, plainKeys := false, apart := false }
def FnExactCountWithinSaid : Prop := fnExactCountWithinRow.holds Try.pinned (OpenSpec.ofChange fnExactCountWithinSpec)

/-- ITS FALSE NEIGHBOUR: 'it returns false'. Refute it at one input. -/
def fnExactCountWithinWrong : ChangeSpec := { name := "fnExactCountWithin", fn := fun _ => fun
  | [d1, d2] => { results := [.lit (.bool false)], args := [d1, d2] }
  | _ => none }
def FnExactCountWithinWrongFalsely : Prop := fnExactCountWithinRow.holds Try.pinned (OpenSpec.ofChange fnExactCountWithinWrong)

/-- 'laws.FnExactFromSingle': WHATEVER THE INPUT: true; the input reads as it did. -/
def fnExactFromSingleSpec : ChangeSpec := { name := "fnExactFromSingle", fn := fun _ => fun
  | [d1, d2, d3] => { results := [.lit (.bool true)], args := [d1, d2, d3] }
  | _ => none }
def fnExactFromSingleRow : OpenClaim := { program := "ytfihhhbdhppemaa", sum := "c852ef7483e79b6222b629b5b755b17e5d2f958fad898099ae93a65e4a75589f", func := "loop.example/g01178/laws.FnExactFromSingle", spec := "fnExactFromSingle", inPlace := ["math.Float32frombits", "math.Float64bits", "math.Float64frombits"], unfollowed := true, recurses := true, plainKeys := false, apart := false }
def FnExactFromSingleSaid : Prop := fnExactFromSingleRow.holds Try.pinned (OpenSpec.ofChange fnExactFromSingleSpec)

/-- ITS FALSE NEIGHBOUR: 'it returns false'. Refute it at one input. -/
def fnExactFromSingleWrong : ChangeSpec := { name := "fnExactFromSingle", fn := fun _ => fun
  | [d1, d2, d3] => { results := [.lit (.bool false)], args := [d1, d2, d3] }
  | _ => none }
def FnExactFromSingleWrongFalsely : Prop := fnExactFromSingleRow.holds Try.pinned (OpenSpec.ofChange fnExactFromSingleWrong)

/-- 'laws.FnExactTwoProduct': WHATEVER THE INPUT: true; the input reads as it did. -/
def fnExactTwoProductSpec : ChangeSpec := { name := "fnExactTwoProduct", fn := fun _ => fun
  | [d1, d2, d3] => { results := [.lit (.bool true)], args := [d1, d2, d3] }
  | _ => none }
def fnExactTwoProductRow : OpenClaim := { program := "ytfihhhbdhppemaa", sum := "c852ef7483e79b6222b629b5b755b17e5d2f958fad898099ae93a65e4a75589f", func := "loop.example/g01178/laws.FnExactTwoProduct", spec := "fnExactTwoProduct", inPlace := ["math.Float32frombits", "math.Float64bits", "math.Float64frombits", "math.Float32bits", "math.archTrunc"], unfollowed := true, recurses := true, plainKeys := false, apart := false }
def FnExactTwoProductSaid : Prop := fnExactTwoProductRow.holds Try.pinned (OpenSpec.ofChange fnExactTwoProductSpec)

/-- ITS FALSE NEIGHBOUR: 'it returns false'. Refute it at one input. -/
def fnExactTwoProductWrong : ChangeSpec := { name := "fnExactTwoProduct", fn := fun _ => fun
  | [d1, d2, d3] => { results := [.lit (.bool false)], args := [d1, d2, d3] }
  | _ => none }
def FnExactTwoProductWrongFalsely : Prop := fnExactTwoProductRow.holds Try.pinned (OpenSpec.ofChange fnExactTwoProductWrong)

/- THE SECOND FORM. 'bulk': how many values and letters a reading holds, each counted each time it is reached (what is shared counts as often as it is met; a slice's spare places count too). A statement '..UptoSaid' is the law's where the arguments, and the package variables that the reading takes, are together of bulk at most 1048576: NARROWER than '..Said'. Prove '..Said' where nothing that the law and all that it calls make is longer than what came in: it says more and counts as full. Else prove '..UptoSaid'. A law counts once. -/
mutual
def uptoBulk {H : Type} : DataW H → Nat
  | .lit (.string bytes) => bytes.length + 1
  | .lit _ => 1
  | .nil => 1
  | .ptr d => uptoBulk d + 1
  | .slice elems spare => uptoBulkAll elems + uptoBulkAll spare + 1
  | .agg parts => uptoBulkAll parts + 1
  | .iface _ d => uptoBulk d + 1
  | .map entries => uptoBulkEntries entries + 1
  | .held _ => 1
def uptoBulkAll {H : Type} : List (DataW H) → Nat
  | [] => 0
  | d :: r => uptoBulk d + uptoBulkAll r
def uptoBulkEntries {H : Type} : List (Lit × DataW H) → Nat
  | [] => 0
  | x :: r => uptoBulkEntry x + uptoBulkEntries r
def uptoBulkEntry {H : Type} : Lit × DataW H → Nat
  | (.string bytes, d) => bytes.length + uptoBulk d + 1
  | (_, d) => uptoBulk d + 1
 end
def uptoSmall : (H : Type) → List (DataW H) → Bool := fun _ ds => decide (uptoBulkAll ds ≤ 1048576)
def OpenSpec.upto (s : _root_.Go.ChangeSpec) : _root_.Go.OpenSpec := { _root_.Go.OpenSpec.ofChange s with cond := some uptoSmall }

/-- 'laws.FnExactIsInterval', WHERE WHAT IT READS IS OF BULK AT MOST 1048576: true; the input reads as it did. -/
def fnExactIsIntervalUptoRow : OpenClaim := { program := "ytfihhhbdhppemaa", sum := "c852ef7483e79b6222b629b5b755b17e5d2f958fad898099ae93a65e4a75589f", func := "loop.example/g01178/laws.FnExactIsInterval", spec := "fnExactIsInterval", unfollowed := true, recurses := true, plainKeys := false, apart := false, narrowed := true }
def FnExactIsIntervalUptoSaid : Prop := fnExactIsIntervalUptoRow.holds Try.pinned (OpenSpec.upto fnExactIsIntervalSpec)

/-- 'laws.FnExactPointInterval', WHERE WHAT IT READS IS OF BULK AT MOST 1048576: true; the input reads as it did. -/
def fnExactPointIntervalUptoRow : OpenClaim := { program := "ytfihhhbdhppemaa", sum := "c852ef7483e79b6222b629b5b755b17e5d2f958fad898099ae93a65e4a75589f", func := "loop.example/g01178/laws.FnExactPointInterval", spec := "fnExactPointInterval", unfollowed := true, recurses := true, plainKeys := false, apart := false, narrowed := true }
def FnExactPointIntervalUptoSaid : Prop := fnExactPointIntervalUptoRow.holds Try.pinned (OpenSpec.upto fnExactPointIntervalSpec)

/-- 'laws.FnExactAroundDyadic', WHERE WHAT IT READS IS OF BULK AT MOST 1048576: true; the input reads as it did. -/
def fnExactAroundDyadicUptoRow : OpenClaim := { program := "ytfihhhbdhppemaa", sum := "c852ef7483e79b6222b629b5b755b17e5d2f958fad898099ae93a65e4a75589f", func := "loop.example/g01178/laws.FnExactAroundDyadic", spec := "fnExactAroundDyadic", inPlace := ["math.Float64bits", "math.Float64frombits", "math.Float32frombits", "math.Float32bits"], unfollowed := true, recurses := true, plainKeys := false, apart := false, narrowed := true }
def FnExactAroundDyadicUptoSaid : Prop := fnExactAroundDyadicUptoRow.holds Try.pinned (OpenSpec.upto fnExactAroundDyadicSpec)

/-- 'laws.FnExactEncloses', WHERE WHAT IT READS IS OF BULK AT MOST 1048576: true; the input reads as it did. -/
def fnExactEnclosesUptoRow : OpenClaim := { program := "ytfihhhbdhppemaa", sum := "c852ef7483e79b6222b629b5b755b17e5d2f958fad898099ae93a65e4a75589f", func := "loop.example/g01178/laws.FnExactEncloses", spec := "fnExactEncloses", unfollowed := true, recurses := true, plainKeys := false, apart := false, narrowed := true }
def FnExactEnclosesUptoSaid : Prop := fnExactEnclosesUptoRow.holds Try.pinned (OpenSpec.upto fnExactEnclosesSpec)

/-- 'laws.FnExactIsWithin', WHERE WHAT IT READS IS OF BULK AT MOST 1048576: true; the input reads as it did. -/
def fnExactIsWithinUptoRow : OpenClaim := { program := "ytfihhhbdhppemaa", sum := "c852ef7483e79b6222b629b5b755b17e5d2f958fad898099ae93a65e4a75589f", func := "loop.example/g01178/laws.FnExactIsWithin", spec := "fnExactIsWithin", unfollowed := true, recurses := true, plainKeys := false, apart := false, narrowed := true }
def FnExactIsWithinUptoSaid : Prop := fnExactIsWithinUptoRow.holds Try.pinned (OpenSpec.upto fnExactIsWithinSpec)

/-- 'laws.FnExactHullOf', WHERE WHAT IT READS IS OF BULK AT MOST 1048576: true; the input reads as it did. -/
def fnExactHullOfUptoRow : OpenClaim := { program := "ytfihhhbdhppemaa", sum := "c852ef7483e79b6222b629b5b755b17e5d2f958fad898099ae93a65e4a75589f", func := "loop.example/g01178/laws.FnExactHullOf", spec := "fnExactHullOf", unfollowed := true, recurses := true, plainKeys := false, apart := false, narrowed := true }
def FnExactHullOfUptoSaid : Prop := fnExactHullOfUptoRow.holds Try.pinned (OpenSpec.upto fnExactHullOfSpec)

/-- 'laws.FnExactMeetOf', WHERE WHAT IT READS IS OF BULK AT MOST 1048576: true; the input reads as it did. -/
def fnExactMeetOfUptoRow : OpenClaim := { program := "ytfihhhbdhppemaa", sum := "c852ef7483e79b6222b629b5b755b17e5d2f958fad898099ae93a65e4a75589f", func := "loop.example/g01178/laws.FnExactMeetOf", spec := "fnExactMeetOf", unfollowed := true, recurses := true, plainKeys := false, apart := false, narrowed := true }
def FnExactMeetOfUptoSaid : Prop := fnExactMeetOfUptoRow.holds Try.pinned (OpenSpec.upto fnExactMeetOfSpec)

/-- 'laws.FnExactCountWithin', WHERE WHAT IT READS IS OF BULK AT MOST 1048576: true; the input reads as it did. -/
def fnExactCountWithinUptoRow : OpenClaim := { program := "ytfihhhbdhppemaa", sum := "c852ef7483e79b6222b629b5b755b17e5d2f958fad898099ae93a65e4a75589f", func := "loop.example/g01178/laws.FnExactCountWithin", spec := "fnExactCountWithin", unfollowed := true, recurses := true, plainKeys := false, apart := false, narrowed := true }
def FnExactCountWithinUptoSaid : Prop := fnExactCountWithinUptoRow.holds Try.pinned (OpenSpec.upto fnExactCountWithinSpec)

/-- 'laws.FnExactFromSingle', WHERE WHAT IT READS IS OF BULK AT MOST 1048576: true; the input reads as it did. -/
def fnExactFromSingleUptoRow : OpenClaim := { program := "ytfihhhbdhppemaa", sum := "c852ef7483e79b6222b629b5b755b17e5d2f958fad898099ae93a65e4a75589f", func := "loop.example/g01178/laws.FnExactFromSingle", spec := "fnExactFromSingle", inPlace := ["math.Float32frombits", "math.Float64bits", "math.Float64frombits"], unfollowed := true, recurses := true, plainKeys := false, apart := false, narrowed := true }
def FnExactFromSingleUptoSaid : Prop := fnExactFromSingleUptoRow.holds Try.pinned (OpenSpec.upto fnExactFromSingleSpec)

/-- 'laws.FnExactTwoProduct', WHERE WHAT IT READS IS OF BULK AT MOST 1048576: true; the input reads as it did. -/
def fnExactTwoProductUptoRow : OpenClaim := { program := "ytfihhhbdhppemaa", sum := "c852ef7483e79b6222b629b5b755b17e5d2f958fad898099ae93a65e4a75589f", func := "loop.example/g01178/laws.FnExactTwoProduct", spec := "fnExactTwoProduct", inPlace := ["math.Float32frombits", "math.Float64bits", "math.Float64frombits", "math.Float32bits", "math.archTrunc"], unfollowed := true, recurses := true, plainKeys := false, apart := false, narrowed := true }
def FnExactTwoProductUptoSaid : Prop := fnExactTwoProductUptoRow.holds Try.pinned (OpenSpec.upto fnExactTwoProductSpec)

end Rows
end Go.Proofs.Ytfihhhbdhppemaa
