/-
  Contracts of the functions that the laws reach, and the plain facts that they rest on, each under the conditions that its line names; part 9.
-/
import Derived.Test.YtfgbndjhaiigbabDoorKyd1
import Derived.Test.YtfgbndjhaiigbabDoorKyd8
import Derived.Laws.BitsAllLaws
import Derived.Laws.Bits64b
namespace Go.Proofs.YtfgbndjhaiigbabDoor
open Go

theorem cmp_lt {a b : Nat} (h : a < b) : compare a b = .lt := Nat.compare_eq_lt.2 h

theorem cmp_gt {a b : Nat} (h : b < a) : compare a b = .gt := Nat.compare_eq_gt.2 h

theorem cmp_eq {a b : Nat} (h : a = b) : compare a b = .eq := Nat.compare_eq_eq.2 h

theorem inf32 : Ieee.Format.infRung FloatKind.f32.format = 2139095040 := by decide
end Go.Proofs.YtfgbndjhaiigbabDoor

