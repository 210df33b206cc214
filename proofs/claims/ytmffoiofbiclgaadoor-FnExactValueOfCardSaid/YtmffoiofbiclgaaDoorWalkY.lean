/-
  Contracts of the functions that compare numbers, each under the conditions that its line names.
-/
import Derived.Test.YtmffoiofbiclgaaDoorRows
import Derived.Test.YtmffoiofbiclgaaDoorPlain
import Derived.Test.YtmffoiofbiclgaaDoorDefs
import Derived.Test.YtmffoiofbiclgaaDoorWalkA
import Derived.Test.YtmffoiofbiclgaaDoorWalkF
import Derived.Test.YtmffoiofbiclgaaDoorWalkC
import Derived.Test.YtmffoiofbiclgaaDoorWalkD
import Derived.Test.YtmffoiofbiclgaaDoorWalkE
import Derived.Test.YtmffoiofbiclgaaDoorWalkS
import Derived.Test.YtmffoiofbiclgaaDoorWalkT
import Derived.Test.YtmffoiofbiclgaaDoorWalkU
import Derived.Test.YtmffoiofbiclgaaDoorWalkV
import Derived.Test.YtmffoiofbiclgaaDoorWalkW
import Derived.Test.YtmffoiofbiclgaaDoorWalkX
import Derived.WalkKit
import Derived.WalkSpells
import Derived.WalkLawsBesides
import Derived.StillTactics
import Derived.Laws.Pointers
import Derived.Deep.RegionHeld3
import Derived.Deep.QuietTactic
import Derived.BigQuiet
import Derived.Outline
import Derived.Lib.Hide
import Derived.RowKit3
import Derived.Carry
import Derived.IntWalk
namespace Go.Proofs.YtmffoiofbiclgaaDoor
open Go Go.RowKit
set_option linter.unusedSimpArgs false
set_option linter.unusedVariables false

theorem zer_iff (e f p : Int) (hp : patB e f p = true) : zerB e f p = (p % pw (e + f) == 0) := by
  obtain ⟨hg0, _, _⟩ := pat_iff.1 hp
  obtain ⟨h1, h2, h3, h4⟩ := good_iff.1 hg0
  obtain ⟨_, _, ⟨c1, c2⟩, hmul⟩ := pw_facts h1 h2 h3 h4
  obtain ⟨_, ⟨z0, z1⟩, ⟨x0, x1⟩, ⟨r0, r1⟩, _⟩ := field_bd e f p hp
  have hr : p % pw f = p % pw (e + f) % pw f := (Int.emod_emod_of_dvd p ⟨pw e, by rw [hmul, Int.mul_comm]⟩).symm
  unfold zerB
  rw [hp, Bool.true_and, Bool.eq_iff_iff]
  simp only [Bool.and_eq_true, beq_iff_eq]
  constructor
  · rintro ⟨a, b⟩
    have := Int.mul_ediv_add_emod (p % pw (e + f)) (pw f)
    rw [a, ← hr, b] at this
    omega
  · intro a
    rw [hr, a]
    exact ⟨Int.zero_ediv _, Int.zero_emod _⟩

/-- The key of a number, the same for both zeros. -/
def vkV (e f p : Int) : Int := if (p % pw (e + f) == 0) = true then 0 else keyV e f p

/-- The sign of a difference. -/
def cmpV (x y : Int) : Int := if x < y then -1 else if y < x then 1 else 0

/-- What comparing answers. -/
def cmpB (e f a b : Int) : Bool := numB e f a && numB e f b

end Go.Proofs.YtmffoiofbiclgaaDoor
