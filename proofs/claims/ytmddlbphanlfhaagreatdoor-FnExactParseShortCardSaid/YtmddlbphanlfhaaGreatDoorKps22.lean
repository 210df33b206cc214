/-
  Contracts of the functions that the laws reach, and the plain facts that they rest on, each under the conditions that its line names; part 22.
-/
import Derived.Test.YtmddlbphanlfhaaGreatDoorKps1
import Derived.Test.YtmddlbphanlfhaaGreatDoorKps2
import Derived.Test.YtmddlbphanlfhaaGreatDoorKps3
import Derived.Test.YtmddlbphanlfhaaGreatDoorKps4
import Derived.Test.YtmddlbphanlfhaaGreatDoorKps5
import Derived.Test.YtmddlbphanlfhaaGreatDoorKps13
import Derived.Test.YtmddlbphanlfhaaGreatDoorKps14
import Derived.Test.YtmddlbphanlfhaaGreatDoorRows
import Derived.WalkKit
import Derived.LoopTactic
import Derived.Laws.Bits64b
import Derived.WalkSpells
import Derived.WalkLawsBesides
import Derived.StillTactics
import Derived.Laws.Pointers
import Derived.Deep.RegionHeld3
import Derived.Deep.QuietTactic
import Derived.BigQuiet
import Derived.Outline
import Derived.Lib.Hide
import Derived.RowKit3
import Derived.Carry
import Derived.IntWalk
namespace Go.Proofs.YtmddlbphanlfhaaGreatDoor
open Go Go.RowKit
set_option linter.unusedSimpArgs false
set_option linter.unusedVariables false

theorem bits64_run (b : Nat) (w : World) : (callFunc 212 #[.float .f64 b]).run Tryz.prog w = .ok (.value (.int .u64 (b : Int))) w :=
  (run_callFunc_extern (e := Extern.MathFloatBits.float64bits) Tryz.func212 (by kernel_rfl) (by kernel_rfl) (by kernel_rfl) (by kernel_rfl) _ w).trans rfl

theorem from64_run (b : Nat) (w : World) : (callFunc 215 #[.int .u64 (b : Int)]).run Tryz.prog w = .ok (.value (.float .f64 b)) w :=
  (run_callFunc_extern (e := Extern.MathFloatBits.float64frombits) Tryz.func215 (by kernel_rfl) (by kernel_rfl) (by kernel_rfl) (by kernel_rfl) _ w).trans rfl

theorem absF_any (b : Nat) (h : b < 9223372036854775808) (w : World) : Calls Tryz.prog 217 #[.float .f64 b] w fun rv w' => rv = .returned (.float .f64 b) ∧ w = w' := by
  have k := abs_bits b h
  have q1 := bits64_run b
  have q2 := from64_run b
  go_enter Tryz.func217, Tryz.ntmps217
  go_wp2
  go_ret
  exact ⟨rfl, rfl⟩

theorem isInf_any (b : Nat) (h : b < 9218868437227405311) (w : World) : Calls Tryz.prog 209 #[.float .f64 b, .int .i64 0] w fun rv w' => rv = .returned (.bool false) ∧ w = w' := by
  have o : FloatKind.f64.format.order b 9218868437227405311 = some .lt := by
    rw [order_pos (by rw [inf64]; omega) (by rw [inf64]; decide), cmp_lt h]
  go_enter Tryz.func209, Tryz.ntmps209
  go_wp2_with (go_at_call 217; refine (absF_any b (by omega) _).mono ?_; rintro rv w1 ⟨rfl, rfl⟩)
  go_ret
  exact ⟨rfl, rfl⟩

theorem isNaN64_any (b : Nat) (h : b < 9218868437227405311) (w : World) : Calls Tryz.prog 210 #[.float .f64 b] w fun rv w' => rv = .returned (.bool false) ∧ w = w' := by
  have o : FloatKind.f64.format.order b b = some .eq := by
    rw [order_pos (by rw [inf64]; omega) (by rw [inf64]; omega), cmp_eq rfl]
  go_enter Tryz.func210, Tryz.ntmps210
  go_wp2
  go_ret
  exact ⟨rfl, rfl⟩

theorem normalize_any (b : Nat) (h0 : 4503599627370496 ≤ b) (h : b < 9218868437227405311) (w : World) : Calls Tryz.prog 211 #[.float .f64 b] w fun rv w' => rv = .returned (.tuple #[.float .f64 b, .int .i64 0]) ∧ w = w' := by
  by_cases he : b = 4503599627370496
  · have o : FloatKind.f64.format.order b 4503599627370496 = some .eq := by
      rw [order_pos (by rw [inf64]; omega) (by rw [inf64]; decide), cmp_eq he]
    clear he
    go_enter Tryz.func211, Tryz.ntmps211
    go_wp2_with (go_at_call 217; refine (absF_any b (by omega) _).mono ?_; rintro rv w1 ⟨rfl, rfl⟩)
    go_ret2
    exact ⟨rfl, rfl⟩
  · have o : FloatKind.f64.format.order b 4503599627370496 = some .gt := by
      rw [order_pos (by rw [inf64]; omega) (by rw [inf64]; decide), cmp_gt (by omega)]
    go_enter Tryz.func211, Tryz.ntmps211
    go_wp2_with (go_at_call 217; refine (absF_any b (by omega) _).mono ?_; rintro rv w1 ⟨rfl, rfl⟩)
    go_ret2
    exact ⟨rfl, rfl⟩

set_option maxRecDepth 100000 in
set_option maxHeartbeats 1600000 in
theorem ldexp_word (E M E2 b c : Nat) (k : Int) (hM : M < 4503599627370496) (hE : 900 ≤ E) (hE3 : E ≤ 1200) (hk : -300 ≤ k) (hk3 : k ≤ 300) (h2 : (E2 : Int) = E + k)
    (hb : b = E * 4503599627370496 + M) (hc : c = E2 * 4503599627370496 + M) (hmul : FloatKind.f64.format.mul 4607182418800017408 c = some c) (w : World) :
    Calls Tryz.prog 203 #[.float .f64 b, .int .i64 k] w fun rv w' => rv = .returned (.float .f64 c) ∧ w = w' := by
  have x1 : (b : Int) / 4503599627370496 = (E : Int) := by rw [hb]; exact (exp_bits E M hM).1
  have x3 := and_2047 E (by omega)
  have x4 : bits .or .u64 (M : Int) (((E : Int) + k) * 4503599627370496) = (c : Int) := by
    rw [← h2, hc, ← put_bits E2 M hM (by omega)]; congr 1
  have B1 := Lib.hid (show 4503599627370496 ≤ b by omega)
  have B2 := Lib.hid (show b < 9218868437227405311 by omega)
  have x5 : bits .andNot .u64 (b : Int) 9218868437227405312 = (M : Int) := by
    rw [clr_bits b (by omega), hb, (exp_bits E M hM).2]
  have o1 : FloatKind.f64.format.order b 0 = some .gt := by
    rw [order_pos (by rw [inf64]; omega) (by rw [inf64]; decide), cmp_gt (by omega)]
  have q1 := bits64_run b
  have q2 := from64_run c
  have k1 : IntKind.i64.wrap (k + ((E : Int) - 1023)) = k + ((E : Int) - 1023) := IntWalk.i64_in _ (by omega)
  have k2 : IntKind.i64.wrap (k + ((E : Int) - 1023) + 1023) = (E2 : Int) := by rw [IntWalk.i64_in _ (by omega)]; omega
  have k3 : IntKind.u64.wrap (E2 : Int) = (E2 : Int) := by rw [IntKind.wrap_u64]; omega
  have k4 : IntKind.i64.wrap ((E : Int)) = (E : Int) := IntWalk.i64_in _ (by omega)
  have k5 : IntKind.u64.wrap ((E2 : Int) * 4503599627370496) = ((E2 * 4503599627370496 : Nat) : Int) := by rw [IntKind.wrap_u64]; omega
  have hm2 : ∀ w, (binOp .mul 200 (.float .f64 4607182418800017408) (.float .f64 c)).run Tryz.prog w = .ok (.float .f64 c) w := fun w => run_float_arith w .mul _ .f64 _ _ _ hmul
  clear hmul
  have HM := Lib.hid hM; have HB := Lib.hid hb; have HC := Lib.hid hc; clear hM hb hc
  go_enter Tryz.func203, Tryz.ntmps203
  go_wp2_with (first | (go_at_call 209; refine (isInf_any b B2.out _).mono ?_; rintro rv w1 ⟨rfl, rfl⟩) | (go_at_call 210; refine (isNaN64_any b B2.out _).mono ?_; rintro rv w1 ⟨rfl, rfl⟩) | (go_at_call 211; refine (normalize_any b B1.out B2.out _).mono ?_; rintro rv w1 ⟨rfl, rfl⟩))
  go_ret
  exact ⟨rfl, rfl⟩
end Go.Proofs.YtmddlbphanlfhaaGreatDoor

