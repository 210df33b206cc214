/-
  Contracts of the functions that compare numbers, each under the conditions that its line names.
-/
import Derived.Test.YtkppdcelhblgaaaRows
import Derived.Test.YtkppdcelhblgaaaPlain
import Derived.Test.YtkppdcelhblgaaaDefs
import Derived.Test.YtkppdcelhblgaaaWalkA
import Derived.Test.YtkppdcelhblgaaaWalkF
import Derived.Test.YtkppdcelhblgaaaWalkC
import Derived.Test.YtkppdcelhblgaaaWalkD
import Derived.Test.YtkppdcelhblgaaaWalkE
import Derived.Test.YtkppdcelhblgaaaWalkS
import Derived.Test.YtkppdcelhblgaaaWalkT
import Derived.Test.YtkppdcelhblgaaaWalkU
import Derived.Test.YtkppdcelhblgaaaWalkV
import Derived.Test.YtkppdcelhblgaaaWalkW
import Derived.Test.YtkppdcelhblgaaaWalkX
import Derived.WalkKit
import Derived.WalkSpells
import Derived.WalkLawsBesides
import Derived.StillTactics
import Derived.Laws.Pointers
import Derived.Deep.RegionHeld3
import Derived.Deep.QuietTactic
import Derived.BigQuiet
import Derived.Outline
import Derived.Lib.Hide
import Derived.RowKit3
import Derived.Carry
import Derived.IntWalk
namespace Go.Proofs.Ytkppdcelhblgaaa
open Go Go.RowKit
set_option linter.unusedSimpArgs false
set_option linter.unusedVariables false

theorem zer_iff (e f p : Int) (hp : patB e f p = true) : zerB e f p = (p % pw (e + f) == 0) := by
  obtain ⟨hg0, _, _⟩ := pat_iff.1 hp
  obtain ⟨h1, h2, h3, h4⟩ := good_iff.1 hg0
  obtain ⟨_, _, ⟨c1, c2⟩, hmul⟩ := pw_facts h1 h2 h3 h4
  obtain ⟨_, ⟨z0, z1⟩, ⟨x0, x1⟩, ⟨r0, r1⟩, _⟩ := field_bd e f p hp
  have hr : p % pw f = p % pw (e + f) % pw f := (Int.emod_emod_of_dvd p ⟨pw e, by rw [hmul, Int.mul_comm]⟩).symm
  unfold zerB
  rw [hp, Bool.true_and, Bool.eq_iff_iff]
  simp only [Bool.and_eq_true, beq_iff_eq]
  constructor
  · rintro ⟨a, b⟩
    have := Int.mul_ediv_add_emod (p % pw (e + f)) (pw f)
    rw [a, ← hr, b] at this
    omega
  · intro a
    rw [hr, a]
    exact ⟨Int.zero_ediv _, Int.zero_emod _⟩

/-- The key of a number, the same for both zeros. -/
def vkV (e f p : Int) : Int := if (p % pw (e + f) == 0) = true then 0 else keyV e f p

theorem isNaN_any (x : Int) (w : World) : Calls Try.prog 79 #[.int .i64 x] w fun rv w' => rv = .returned (.bool false) ∧ w = w' := by
  go_enter Try.func79, Try.ntmps79
  go_wp2
  go_ret
  exact ⟨rfl, rfl⟩

/-- The sign of a difference. -/
def cmpV (x y : Int) : Int := if x < y then -1 else if y < x then 1 else 0

theorem compare_any (x y : Int) (w : World) : Calls Try.prog 60 #[.int .i64 x, .int .i64 y] w fun rv w' => rv = .returned (.int .i64 (cmpV x y)) ∧ w = w' := by
  by_cases h1 : x < y
  · have hk : cmpV x y = -1 := by unfold cmpV; rw [if_pos h1]
    have Hk := Lib.hid hk; clear hk
    go_enter Try.func60, Try.ntmps60
    go_wp2_with (go_at_call 79; refine (isNaN_any _ _).mono ?_; rintro rv w1 ⟨rfl, rfl⟩)
    go_ret
    exact ⟨ret_int Hk.out.symm, rfl⟩
  · by_cases h2 : y < x
    · have hk : cmpV x y = 1 := by unfold cmpV; rw [if_neg h1, if_pos h2]
      have Hk := Lib.hid hk; clear hk
      go_enter Try.func60, Try.ntmps60
      go_wp2_with (go_at_call 79; refine (isNaN_any _ _).mono ?_; rintro rv w1 ⟨rfl, rfl⟩)
      go_ret
      exact ⟨ret_int Hk.out.symm, rfl⟩
    · have hk : cmpV x y = 0 := by unfold cmpV; rw [if_neg h1, if_neg h2]
      have Hk := Lib.hid hk; clear hk
      go_enter Try.func60, Try.ntmps60
      go_wp2_with (go_at_call 79; refine (isNaN_any _ _).mono ?_; rintro rv w1 ⟨rfl, rfl⟩)
      go_ret
      exact ⟨ret_int Hk.out.symm, rfl⟩

/-- What comparing answers. -/
def cmpB (e f a b : Int) : Bool := numB e f a && numB e f b

end Go.Proofs.Ytkppdcelhblgaaa
