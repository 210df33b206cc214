/-
  Contracts of the functions that the laws reach, and the plain facts that they rest on, each under the conditions that its line names; part 14.
-/
import Derived.Test.YtmddlbphanlfhaaGreatDoorKps1
import Derived.Test.YtmddlbphanlfhaaGreatDoorKps13
import Derived.Laws.BitsAllLaws
import Derived.Laws.Bits64b
namespace Go.Proofs.YtmddlbphanlfhaaGreatDoor
open Go

theorem abs_bits (a : Nat) (h : a < 9223372036854775808) : bits .andNot .u64 (a : Int) 9223372036854775808 = (a : Int) := by
  have := u64_andNot_nat a 9223372036854775808 (by omega) (by decide)
  rw [show ((9223372036854775808 : Nat) : Int) = 9223372036854775808 from rfl] at this
  rw [this]
  have e : 18446744073709551615 - 9223372036854775808 = 2 ^ 63 - 1 := by decide
  rw [e, Nat.and_two_pow_sub_one_eq_mod, Nat.mod_eq_of_lt (by omega)]

theorem clr_bits (a : Nat) (h : a < 9223372036854775808) : bits .andNot .u64 (a : Int) 9218868437227405312 = ((a % 4503599627370496 : Nat) : Int) := by
  have := u64_andNot_nat a 9218868437227405312 (by omega) (by decide)
  rw [show ((9218868437227405312 : Nat) : Int) = 9218868437227405312 from rfl] at this
  rw [this]
  congr 1
  have e : 18446744073709551615 - 9218868437227405312 = 2 ^ 63 ||| (2 ^ 52 - 1) := by decide
  have e2 : a % 4503599627370496 = a &&& (2 ^ 52 - 1) := by rw [Nat.and_two_pow_sub_one_eq_mod]
  rw [e, e2]
  apply Nat.eq_of_testBit_eq
  intro i
  rw [Nat.testBit_and, Nat.testBit_and, Nat.testBit_or, Nat.testBit_two_pow]
  by_cases hi : 63 = i
  · subst hi
    rw [Nat.testBit_lt_two_pow (show a < 2 ^ 63 by omega)]
    simp
  · rw [decide_eq_false hi, Bool.false_or]

theorem exp_bits (E M : Nat) (hM : M < 4503599627370496) : ((E * 4503599627370496 + M : Nat) : Int) / 4503599627370496 = (E : Int) ∧ (E * 4503599627370496 + M) % 4503599627370496 = M := by omega

theorem and_2047 (E : Nat) (h : E < 2048) : bits .and .i64 (E : Int) 2047 = (E : Int) := by
  have := and_pw (E : Int) 11 (by omega) (by omega) (by decide)
  rw [show pw 11 = 2048 from rfl] at this
  have e : (2048 : Int) - 1 = 2047 := by decide
  rw [e] at this
  rw [this]
  omega

theorem put_bits (E M : Nat) (hM : M < 4503599627370496) (hE : E < 2048) : bits .or .u64 (M : Int) ((E * 4503599627370496 : Nat) : Int) = ((E * 4503599627370496 + M : Nat) : Int) := by
  rw [bits_or_u64_nat _ _ (by omega) (by omega)]
  congr 1
  rw [Nat.or_comm]
  have := Nat.two_pow_add_eq_or_of_lt (show M < 2 ^ 52 by omega) E
  rw [show E * 4503599627370496 = 2 ^ 52 * E by omega, ← this]

theorem cmp_lt {a b : Nat} (h : a < b) : compare a b = .lt := Nat.compare_eq_lt.2 h

theorem cmp_gt {a b : Nat} (h : b < a) : compare a b = .gt := Nat.compare_eq_gt.2 h

theorem cmp_eq {a b : Nat} (h : a = b) : compare a b = .eq := Nat.compare_eq_eq.2 h

theorem inf64 : Ieee.Format.infRung FloatKind.f64.format = 9218868437227405312 := by decide

theorem inf32 : Ieee.Format.infRung FloatKind.f32.format = 2139095040 := by decide
end Go.Proofs.YtmddlbphanlfhaaGreatDoor

