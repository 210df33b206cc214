/-
  No cell of these rows narrows 'for every input' (looked for: loops, veiled, ifaces, maps, wideKeys, modest, calm, conditions, laid).
  DERIVED. THE GIVEN ROWS OF THIS SEAT. 10 by the template 'for every input the law returns true; each argument reads behind the call as it read before'; 0 by the template 'total and deterministic' (their statements: YtadehelclgpnfaaTotals.lean).
  GIVEN WITH THE SEED: the statements are not yours to turn. If you find one false, say at which input.
  Laid BY PROGRAM, IN A SANDBOX (cutbox-rows.mjs): the forced cells as the released guide's own fill.sh prints them over the translation 1ec8382542aad980… (all of the seat's roots in one cut). By AI agents, Wed Nov 11 2026. No macro, syntax, notation, axiom, sorry.
-/
import Derived.Test.YtadehelclgpnfaaChecked
import GoSem.Claim
import GoSem.ClaimJoined
import GoSem.ClaimMapViews
import Derived.JoinedTies
import Derived.KernelRfl
namespace Go.Proofs.Ytadehelclgpnfaa
/- THE CELL 'sum', in the pinned program and in every row, IS THE sha256 OF THE DUMP (.gsa) THAT YtadehelclgpnfaaProg.lean LOADS. Nothing in Lean hashes anything: it is a label: what it is worth is what the hold of that sum in a sandbox is worth. -/
noncomputable def Try.pinned : Pinned := { name := "ytadehelclgpnfaa", sum := "1ec8382542aad980e715d17ee372415cd9de2966bc37b8a3250251a3bb470e77", checked := Try.checked }
namespace Rows
def none {H : Type} : Left H := { results := [], args := [] }

/-- 'laws.FnExactIsFormat': WHATEVER THE INPUT: true; the input reads as it did. -/
def fnExactIsFormatSpec : ChangeSpec := { name := "fnExactIsFormat", fn := fun _ => fun
  | [d] => { results := [.lit (.bool true)], args := [d] }
  | _ => none }
def fnExactIsFormatRow : OpenClaim := { program := "ytadehelclgpnfaa", sum := "1ec8382542aad980e715d17ee372415cd9de2966bc37b8a3250251a3bb470e77", func := "loop.example/g01178/laws.FnExactIsFormat", spec := "fnExactIsFormat", apart := false }
def FnExactIsFormatSaid : Prop := fnExactIsFormatRow.holds Try.pinned (OpenSpec.ofChange fnExactIsFormatSpec)

/-- ITS FALSE NEIGHBOUR: 'it returns false'. Refute it at one input. -/
def fnExactIsFormatWrong : ChangeSpec := { name := "fnExactIsFormat", fn := fun _ => fun
  | [d] => { results := [.lit (.bool false)], args := [d] }
  | _ => none }
def FnExactIsFormatWrongFalsely : Prop := fnExactIsFormatRow.holds Try.pinned (OpenSpec.ofChange fnExactIsFormatWrong)

/-- 'laws.FnExactWidthOf': WHATEVER THE INPUT: true; the input reads as it did. -/
def fnExactWidthOfSpec : ChangeSpec := { name := "fnExactWidthOf", fn := fun _ => fun
  | [d] => { results := [.lit (.bool true)], args := [d] }
  | _ => none }
def fnExactWidthOfRow : OpenClaim := { program := "ytadehelclgpnfaa", sum := "1ec8382542aad980e715d17ee372415cd9de2966bc37b8a3250251a3bb470e77", func := "loop.example/g01178/laws.FnExactWidthOf", spec := "fnExactWidthOf", apart := false }
def FnExactWidthOfSaid : Prop := fnExactWidthOfRow.holds Try.pinned (OpenSpec.ofChange fnExactWidthOfSpec)

/-- ITS FALSE NEIGHBOUR: 'it returns false'. Refute it at one input. -/
def fnExactWidthOfWrong : ChangeSpec := { name := "fnExactWidthOf", fn := fun _ => fun
  | [d] => { results := [.lit (.bool false)], args := [d] }
  | _ => none }
def FnExactWidthOfWrongFalsely : Prop := fnExactWidthOfRow.holds Try.pinned (OpenSpec.ofChange fnExactWidthOfWrong)

/-- 'laws.FnExactBiasOf': WHATEVER THE INPUT: true; the input reads as it did. -/
def fnExactBiasOfSpec : ChangeSpec := { name := "fnExactBiasOf", fn := fun _ => fun
  | [d] => { results := [.lit (.bool true)], args := [d] }
  | _ => none }
def fnExactBiasOfRow : OpenClaim := { program := "ytadehelclgpnfaa", sum := "1ec8382542aad980e715d17ee372415cd9de2966bc37b8a3250251a3bb470e77", func := "loop.example/g01178/laws.FnExactBiasOf", spec := "fnExactBiasOf", apart := false }
def FnExactBiasOfSaid : Prop := fnExactBiasOfRow.holds Try.pinned (OpenSpec.ofChange fnExactBiasOfSpec)

/-- ITS FALSE NEIGHBOUR: 'it returns false'. Refute it at one input. -/
def fnExactBiasOfWrong : ChangeSpec := { name := "fnExactBiasOf", fn := fun _ => fun
  | [d] => { results := [.lit (.bool false)], args := [d] }
  | _ => none }
def FnExactBiasOfWrongFalsely : Prop := fnExactBiasOfRow.holds Try.pinned (OpenSpec.ofChange fnExactBiasOfWrong)

/-- 'laws.FnExactFieldsOf': WHATEVER THE INPUT: true; the input reads as it did. -/
def fnExactFieldsOfSpec : ChangeSpec := { name := "fnExactFieldsOf", fn := fun _ => fun
  | [d1, d2] => { results := [.lit (.bool true)], args := [d1, d2] }
  | _ => none }
def fnExactFieldsOfRow : OpenClaim := { program := "ytadehelclgpnfaa", sum := "1ec8382542aad980e715d17ee372415cd9de2966bc37b8a3250251a3bb470e77", func := "loop.example/g01178/laws.FnExactFieldsOf", spec := "fnExactFieldsOf", apart := false }
def FnExactFieldsOfSaid : Prop := fnExactFieldsOfRow.holds Try.pinned (OpenSpec.ofChange fnExactFieldsOfSpec)

/-- ITS FALSE NEIGHBOUR: 'it returns false'. Refute it at one input. -/
def fnExactFieldsOfWrong : ChangeSpec := { name := "fnExactFieldsOf", fn := fun _ => fun
  | [d1, d2] => { results := [.lit (.bool false)], args := [d1, d2] }
  | _ => none }
def FnExactFieldsOfWrongFalsely : Prop := fnExactFieldsOfRow.holds Try.pinned (OpenSpec.ofChange fnExactFieldsOfWrong)

/-- 'laws.FnExactPatternOf': WHATEVER THE INPUT: true; the input reads as it did. -/
def fnExactPatternOfSpec : ChangeSpec := { name := "fnExactPatternOf", fn := fun _ => fun
  | [d1, d2, d3, d4] => { results := [.lit (.bool true)], args := [d1, d2, d3, d4] }
  | _ => none }
def fnExactPatternOfRow : OpenClaim := { program := "ytadehelclgpnfaa", sum := "1ec8382542aad980e715d17ee372415cd9de2966bc37b8a3250251a3bb470e77", func := "loop.example/g01178/laws.FnExactPatternOf", spec := "fnExactPatternOf", apart := false }
def FnExactPatternOfSaid : Prop := fnExactPatternOfRow.holds Try.pinned (OpenSpec.ofChange fnExactPatternOfSpec)

/-- ITS FALSE NEIGHBOUR: 'it returns false'. Refute it at one input. -/
def fnExactPatternOfWrong : ChangeSpec := { name := "fnExactPatternOf", fn := fun _ => fun
  | [d1, d2, d3, d4] => { results := [.lit (.bool false)], args := [d1, d2, d3, d4] }
  | _ => none }
def FnExactPatternOfWrongFalsely : Prop := fnExactPatternOfRow.holds Try.pinned (OpenSpec.ofChange fnExactPatternOfWrong)

/-- 'laws.FnExactNegateOf': WHATEVER THE INPUT: true; the input reads as it did. -/
def fnExactNegateOfSpec : ChangeSpec := { name := "fnExactNegateOf", fn := fun _ => fun
  | [d1, d2] => { results := [.lit (.bool true)], args := [d1, d2] }
  | _ => none }
def fnExactNegateOfRow : OpenClaim := { program := "ytadehelclgpnfaa", sum := "1ec8382542aad980e715d17ee372415cd9de2966bc37b8a3250251a3bb470e77", func := "loop.example/g01178/laws.FnExactNegateOf", spec := "fnExactNegateOf", apart := false }
def FnExactNegateOfSaid : Prop := fnExactNegateOfRow.holds Try.pinned (OpenSpec.ofChange fnExactNegateOfSpec)

/-- ITS FALSE NEIGHBOUR: 'it returns false'. Refute it at one input. -/
def fnExactNegateOfWrong : ChangeSpec := { name := "fnExactNegateOf", fn := fun _ => fun
  | [d1, d2] => { results := [.lit (.bool false)], args := [d1, d2] }
  | _ => none }
def FnExactNegateOfWrongFalsely : Prop := fnExactNegateOfRow.holds Try.pinned (OpenSpec.ofChange fnExactNegateOfWrong)

/-- 'laws.FnExactAbsOf': WHATEVER THE INPUT: true; the input reads as it did. -/
def fnExactAbsOfSpec : ChangeSpec := { name := "fnExactAbsOf", fn := fun _ => fun
  | [d1, d2] => { results := [.lit (.bool true)], args := [d1, d2] }
  | _ => none }
def fnExactAbsOfRow : OpenClaim := { program := "ytadehelclgpnfaa", sum := "1ec8382542aad980e715d17ee372415cd9de2966bc37b8a3250251a3bb470e77", func := "loop.example/g01178/laws.FnExactAbsOf", spec := "fnExactAbsOf", apart := false }
def FnExactAbsOfSaid : Prop := fnExactAbsOfRow.holds Try.pinned (OpenSpec.ofChange fnExactAbsOfSpec)

/-- ITS FALSE NEIGHBOUR: 'it returns false'. Refute it at one input. -/
def fnExactAbsOfWrong : ChangeSpec := { name := "fnExactAbsOf", fn := fun _ => fun
  | [d1, d2] => { results := [.lit (.bool false)], args := [d1, d2] }
  | _ => none }
def FnExactAbsOfWrongFalsely : Prop := fnExactAbsOfRow.holds Try.pinned (OpenSpec.ofChange fnExactAbsOfWrong)

/-- 'laws.FnExactGreatestOf': WHATEVER THE INPUT: true; the input reads as it did. -/
def fnExactGreatestOfSpec : ChangeSpec := { name := "fnExactGreatestOf", fn := fun _ => fun
  | [d] => { results := [.lit (.bool true)], args := [d] }
  | _ => none }
def fnExactGreatestOfRow : OpenClaim := { program := "ytadehelclgpnfaa", sum := "1ec8382542aad980e715d17ee372415cd9de2966bc37b8a3250251a3bb470e77", func := "loop.example/g01178/laws.FnExactGreatestOf", spec := "fnExactGreatestOf", apart := false }
def FnExactGreatestOfSaid : Prop := fnExactGreatestOfRow.holds Try.pinned (OpenSpec.ofChange fnExactGreatestOfSpec)

/-- ITS FALSE NEIGHBOUR: 'it returns false'. Refute it at one input. -/
def fnExactGreatestOfWrong : ChangeSpec := { name := "fnExactGreatestOf", fn := fun _ => fun
  | [d] => { results := [.lit (.bool false)], args := [d] }
  | _ => none }
def FnExactGreatestOfWrongFalsely : Prop := fnExactGreatestOfRow.holds Try.pinned (OpenSpec.ofChange fnExactGreatestOfWrong)

/-- 'laws.FnExactLeastNormal': WHATEVER THE INPUT: true; the input reads as it did. -/
def fnExactLeastNormalSpec : ChangeSpec := { name := "fnExactLeastNormal", fn := fun _ => fun
  | [d] => { results := [.lit (.bool true)], args := [d] }
  | _ => none }
def fnExactLeastNormalRow : OpenClaim := { program := "ytadehelclgpnfaa", sum := "1ec8382542aad980e715d17ee372415cd9de2966bc37b8a3250251a3bb470e77", func := "loop.example/g01178/laws.FnExactLeastNormal", spec := "fnExactLeastNormal", apart := false }
def FnExactLeastNormalSaid : Prop := fnExactLeastNormalRow.holds Try.pinned (OpenSpec.ofChange fnExactLeastNormalSpec)

/-- ITS FALSE NEIGHBOUR: 'it returns false'. Refute it at one input. -/
def fnExactLeastNormalWrong : ChangeSpec := { name := "fnExactLeastNormal", fn := fun _ => fun
  | [d] => { results := [.lit (.bool false)], args := [d] }
  | _ => none }
def FnExactLeastNormalWrongFalsely : Prop := fnExactLeastNormalRow.holds Try.pinned (OpenSpec.ofChange fnExactLeastNormalWrong)

/-- 'laws.FnExactCountKinds': WHATEVER THE INPUT: true; the input reads as it did. -/
def fnExactCountKindsSpec : ChangeSpec := { name := "fnExactCountKinds", fn := fun _ => fun
  | [d] => { results := [.lit (.bool true)], args := [d] }
  | _ => none }
def fnExactCountKindsRow : OpenClaim := { program := "ytadehelclgpnfaa", sum := "1ec8382542aad980e715d17ee372415cd9de2966bc37b8a3250251a3bb470e77", func := "loop.example/g01178/laws.FnExactCountKinds", spec := "fnExactCountKinds", apart := false }
def FnExactCountKindsSaid : Prop := fnExactCountKindsRow.holds Try.pinned (OpenSpec.ofChange fnExactCountKindsSpec)

/-- ITS FALSE NEIGHBOUR: 'it returns false'. Refute it at one input. -/
def fnExactCountKindsWrong : ChangeSpec := { name := "fnExactCountKinds", fn := fun _ => fun
  | [d] => { results := [.lit (.bool false)], args := [d] }
  | _ => none }
def FnExactCountKindsWrongFalsely : Prop := fnExactCountKindsRow.holds Try.pinned (OpenSpec.ofChange fnExactCountKindsWrong)

/- THE SECOND FORM. 'bulk': how many values and letters a reading holds, each counted each time it is reached (what is shared counts as often as it is met; a slice's spare places count too). A statement '..UptoSaid' is the law's where the arguments, and the package variables that the reading takes, are together of bulk at most 1048576: NARROWER than '..Said'. Prove '..Said' where nothing that the law and all that it calls make is longer than what came in: it says more and counts as full. Else prove '..UptoSaid'. A law counts once. -/
mutual
def uptoBulk {H : Type} : DataW H → Nat
  | .lit (.string bytes) => bytes.length + 1
  | .lit _ => 1
  | .nil => 1
  | .ptr d => uptoBulk d + 1
  | .slice elems spare => uptoBulkAll elems + uptoBulkAll spare + 1
  | .agg parts => uptoBulkAll parts + 1
  | .iface _ d => uptoBulk d + 1
  | .map entries => uptoBulkEntries entries + 1
  | .held _ => 1
def uptoBulkAll {H : Type} : List (DataW H) → Nat
  | [] => 0
  | d :: r => uptoBulk d + uptoBulkAll r
def uptoBulkEntries {H : Type} : List (Lit × DataW H) → Nat
  | [] => 0
  | x :: r => uptoBulkEntry x + uptoBulkEntries r
def uptoBulkEntry {H : Type} : Lit × DataW H → Nat
  | (.string bytes, d) => bytes.length + uptoBulk d + 1
  | (_, d) => uptoBulk d + 1
 end
def uptoSmall : (H : Type) → List (DataW H) → Bool := fun _ ds => decide (uptoBulkAll ds ≤ 1048576)
def OpenSpec.upto (s : _root_.Go.ChangeSpec) : _root_.Go.OpenSpec := { _root_.Go.OpenSpec.ofChange s with cond := some uptoSmall }

/-- 'laws.FnExactIsFormat', WHERE WHAT IT READS IS OF BULK AT MOST 1048576: true; the input reads as it did. -/
def fnExactIsFormatUptoRow : OpenClaim := { program := "ytadehelclgpnfaa", sum := "1ec8382542aad980e715d17ee372415cd9de2966bc37b8a3250251a3bb470e77", func := "loop.example/g01178/laws.FnExactIsFormat", spec := "fnExactIsFormat", apart := false, narrowed := true }
def FnExactIsFormatUptoSaid : Prop := fnExactIsFormatUptoRow.holds Try.pinned (OpenSpec.upto fnExactIsFormatSpec)

/-- 'laws.FnExactWidthOf', WHERE WHAT IT READS IS OF BULK AT MOST 1048576: true; the input reads as it did. -/
def fnExactWidthOfUptoRow : OpenClaim := { program := "ytadehelclgpnfaa", sum := "1ec8382542aad980e715d17ee372415cd9de2966bc37b8a3250251a3bb470e77", func := "loop.example/g01178/laws.FnExactWidthOf", spec := "fnExactWidthOf", apart := false, narrowed := true }
def FnExactWidthOfUptoSaid : Prop := fnExactWidthOfUptoRow.holds Try.pinned (OpenSpec.upto fnExactWidthOfSpec)

/-- 'laws.FnExactBiasOf', WHERE WHAT IT READS IS OF BULK AT MOST 1048576: true; the input reads as it did. -/
def fnExactBiasOfUptoRow : OpenClaim := { program := "ytadehelclgpnfaa", sum := "1ec8382542aad980e715d17ee372415cd9de2966bc37b8a3250251a3bb470e77", func := "loop.example/g01178/laws.FnExactBiasOf", spec := "fnExactBiasOf", apart := false, narrowed := true }
def FnExactBiasOfUptoSaid : Prop := fnExactBiasOfUptoRow.holds Try.pinned (OpenSpec.upto fnExactBiasOfSpec)

/-- 'laws.FnExactFieldsOf', WHERE WHAT IT READS IS OF BULK AT MOST 1048576: true; the input reads as it did. -/
def fnExactFieldsOfUptoRow : OpenClaim := { program := "ytadehelclgpnfaa", sum := "1ec8382542aad980e715d17ee372415cd9de2966bc37b8a3250251a3bb470e77", func := "loop.example/g01178/laws.FnExactFieldsOf", spec := "fnExactFieldsOf", apart := false, narrowed := true }
def FnExactFieldsOfUptoSaid : Prop := fnExactFieldsOfUptoRow.holds Try.pinned (OpenSpec.upto fnExactFieldsOfSpec)

/-- 'laws.FnExactPatternOf', WHERE WHAT IT READS IS OF BULK AT MOST 1048576: true; the input reads as it did. -/
def fnExactPatternOfUptoRow : OpenClaim := { program := "ytadehelclgpnfaa", sum := "1ec8382542aad980e715d17ee372415cd9de2966bc37b8a3250251a3bb470e77", func := "loop.example/g01178/laws.FnExactPatternOf", spec := "fnExactPatternOf", apart := false, narrowed := true }
def FnExactPatternOfUptoSaid : Prop := fnExactPatternOfUptoRow.holds Try.pinned (OpenSpec.upto fnExactPatternOfSpec)

/-- 'laws.FnExactNegateOf', WHERE WHAT IT READS IS OF BULK AT MOST 1048576: true; the input reads as it did. -/
def fnExactNegateOfUptoRow : OpenClaim := { program := "ytadehelclgpnfaa", sum := "1ec8382542aad980e715d17ee372415cd9de2966bc37b8a3250251a3bb470e77", func := "loop.example/g01178/laws.FnExactNegateOf", spec := "fnExactNegateOf", apart := false, narrowed := true }
def FnExactNegateOfUptoSaid : Prop := fnExactNegateOfUptoRow.holds Try.pinned (OpenSpec.upto fnExactNegateOfSpec)

/-- 'laws.FnExactAbsOf', WHERE WHAT IT READS IS OF BULK AT MOST 1048576: true; the input reads as it did. -/
def fnExactAbsOfUptoRow : OpenClaim := { program := "ytadehelclgpnfaa", sum := "1ec8382542aad980e715d17ee372415cd9de2966bc37b8a3250251a3bb470e77", func := "loop.example/g01178/laws.FnExactAbsOf", spec := "fnExactAbsOf", apart := false, narrowed := true }
def FnExactAbsOfUptoSaid : Prop := fnExactAbsOfUptoRow.holds Try.pinned (OpenSpec.upto fnExactAbsOfSpec)

/-- 'laws.FnExactGreatestOf', WHERE WHAT IT READS IS OF BULK AT MOST 1048576: true; the input reads as it did. -/
def fnExactGreatestOfUptoRow : OpenClaim := { program := "ytadehelclgpnfaa", sum := "1ec8382542aad980e715d17ee372415cd9de2966bc37b8a3250251a3bb470e77", func := "loop.example/g01178/laws.FnExactGreatestOf", spec := "fnExactGreatestOf", apart := false, narrowed := true }
def FnExactGreatestOfUptoSaid : Prop := fnExactGreatestOfUptoRow.holds Try.pinned (OpenSpec.upto fnExactGreatestOfSpec)

/-- 'laws.FnExactLeastNormal', WHERE WHAT IT READS IS OF BULK AT MOST 1048576: true; the input reads as it did. -/
def fnExactLeastNormalUptoRow : OpenClaim := { program := "ytadehelclgpnfaa", sum := "1ec8382542aad980e715d17ee372415cd9de2966bc37b8a3250251a3bb470e77", func := "loop.example/g01178/laws.FnExactLeastNormal", spec := "fnExactLeastNormal", apart := false, narrowed := true }
def FnExactLeastNormalUptoSaid : Prop := fnExactLeastNormalUptoRow.holds Try.pinned (OpenSpec.upto fnExactLeastNormalSpec)

/-- 'laws.FnExactCountKinds', WHERE WHAT IT READS IS OF BULK AT MOST 1048576: true; the input reads as it did. -/
def fnExactCountKindsUptoRow : OpenClaim := { program := "ytadehelclgpnfaa", sum := "1ec8382542aad980e715d17ee372415cd9de2966bc37b8a3250251a3bb470e77", func := "loop.example/g01178/laws.FnExactCountKinds", spec := "fnExactCountKinds", apart := false, narrowed := true }
def FnExactCountKindsUptoSaid : Prop := fnExactCountKindsUptoRow.holds Try.pinned (OpenSpec.upto fnExactCountKindsSpec)

end Rows
end Go.Proofs.Ytadehelclgpnfaa
