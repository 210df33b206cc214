/-
  Contracts of the functions that the laws reach, and the plain facts that they rest on, each under the conditions that its line names; part 9.
-/
import Derived.Test.YtkgphdicnjkgbaaDoorKss1
import Derived.Test.YtkgphdicnjkgbaaDoorKss3
import Derived.Test.YtkgphdicnjkgbaaDoorKss8
import Derived.Laws.BitsAllLaws
import Derived.Laws.Bits64b
namespace Go.Proofs.YtkgphdicnjkgbaaDoor
open Go

theorem fw_fin {f : Ieee.Format} {a : Nat} (ha : Ok f a) : fw f a < f.infRung := (fw_val f a ha.1 ha.2.1 ha.2.2).1
end Go.Proofs.YtkgphdicnjkgbaaDoor

