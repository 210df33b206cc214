/-
  Contracts of the functions that the laws reach, and the plain facts that they rest on, each under the conditions that its line names; part 14.
-/
import Derived.Test.YtafkcgpfllloiabDoorKSN1
import Derived.Test.YtafkcgpfllloiabDoorKSN2
import Derived.Test.YtafkcgpfllloiabDoorKSN3
import Derived.Test.YtafkcgpfllloiabDoorKSN4
import Derived.Test.YtafkcgpfllloiabDoorKSN5
import Derived.Test.YtafkcgpfllloiabDoorKSN6
import Derived.Test.YtafkcgpfllloiabDoorKSN7
import Derived.Test.YtafkcgpfllloiabDoorKSN8
import Derived.Test.YtafkcgpfllloiabDoorKSN9
import Derived.Test.YtafkcgpfllloiabDoorKSN10
import Derived.Test.YtafkcgpfllloiabDoorKSN11
import Derived.Test.YtafkcgpfllloiabDoorKSN12
import Derived.Test.YtafkcgpfllloiabDoorKSN13
import Derived.Test.YtafkcgpfllloiabDoorRows
import Derived.WalkKit
import Derived.LoopTactic
import Derived.Laws.Bits64b
import Derived.WalkSpells
import Derived.WalkLawsBesides
import Derived.StillTactics
import Derived.Laws.Pointers
import Derived.Deep.RegionHeld3
import Derived.Deep.QuietTactic
import Derived.BigQuiet
import Derived.Outline
import Derived.Lib.Hide
import Derived.RowKit3
import Derived.Carry
import Derived.IntWalk
import Derived.Shelf.Small.Bits
import Derived.Shelf.Strconv.Itoa0
import Derived.Test.YtafkcgpfllloiabDoorProg
namespace Go.Proofs.YtafkcgpfllloiabDoor
open Go Go.RowKit
set_option linter.unusedSimpArgs false
set_option linter.unusedVariables false

theorem ldexp_c (c b : Nat) (k : Int) (h0 : 0 < c) (h1 : c < 16777216) (hb : b ≤ 40) (hk : -200 ≤ k) (hk2 : k ≤ 200) (w : World) :
    Calls Tryd.prog 65 #[.float .f64 (fw Ieee.double (c * 2 ^ (1074 + b))), .int .i64 k] w fun rv w' => rv = .returned (.float .f64 (fw Ieee.double (c * 2 ^ ((1074 + (b : Int) + k).toNat)))) ∧ w = w' := by
  have l0 : 2 ^ c.log2 ≤ c := Nat.log2_self_le (by omega)
  have l1 : c < 2 ^ (c.log2 + 1) := Nat.lt_log2_self
  have lt : c.log2 < 24 := (Nat.log2_lt (by omega)).2 (by omega)
  obtain ⟨j, hj⟩ : ∃ j : Nat, ((j : Nat) : Int) = 1074 + (b : Int) + k := ⟨(1074 + (b : Int) + k).toNat, by omega⟩
  rw [show (1074 + (b : Int) + k).toNat = j by omega]
  generalize c.log2 = t at *
  obtain ⟨w1, hM⟩ := word64 c t l0 l1 (by omega) (1074 + b) (by omega) (by omega)
  obtain ⟨w2, _⟩ := word64 c t l0 l1 (by omega) j (by omega) (by omega)
  have hm : FloatKind.f64.format.mul 4607182418800017408 (fw Ieee.double (c * 2 ^ j)) = some (fw Ieee.double (c * 2 ^ j)) := one_mul64 (ok64 (by omega) (by omega))
  have e52 : (2 : Nat) ^ 52 = 4503599627370496 := by decide
  rw [e52] at w1 w2 hM
  exact ldexp_word _ _ _ _ _ k hM (by omega) (by omega) (by omega) (by omega) (by omega) w1 w2 hm w

theorem ldexp_zero (k : Int) (w : World) : Calls Tryd.prog 65 #[.float .f64 0, .int .i64 k] w fun rv w' => rv = .returned (.float .f64 0) ∧ w = w' := by
  have o1 : FloatKind.f64.format.order 0 0 = some .eq := by
    rw [order_pos (by rw [inf64]; decide) (by rw [inf64]; decide), cmp_eq rfl]
  go_enter Tryd.func65, Tryd.ntmps65
  go_wp2
  go_ret
  exact ⟨rfl, rfl⟩

theorem ldexpW_any (x y : Nat) (k : Int) (w : World) (h : Calls Tryd.prog 65 #[.float .f64 x, .int .i64 k] w fun rv w' => rv = .returned (.float .f64 y) ∧ w = w') : Calls Tryd.prog 49 #[.float .f64 x, .int .i64 k] w fun rv w' => rv = .returned (.float .f64 y) ∧ w = w' := by
  have H := Lib.hid h; clear h
  go_enter Tryd.func49, Tryd.ntmps49
  go_wp2_with (go_at_call 65; refine (H.out).mono ?_; rintro rv w1 ⟨rfl, rfl⟩)
  go_ret
  exact ⟨rfl, rfl⟩
end Go.Proofs.YtafkcgpfllloiabDoor

namespace Go.Proofs.YtafkcgpfllloiabDoor
open Go Go.RowKit
set_option linter.unusedSimpArgs false
set_option linter.unusedVariables false

theorem bits32_run (b : Nat) (w : World) : (callFunc 50 #[.float .f32 b]).run Tryd.prog w = .ok (.value (.int .u32 b)) w :=
  (run_callFunc_extern (e := Extern.MathFloatBits.float32bits) Tryd.func50 (by kernel_rfl) (by kernel_rfl) (by kernel_rfl) (by kernel_rfl) _ w).trans rfl
end Go.Proofs.YtafkcgpfllloiabDoor

