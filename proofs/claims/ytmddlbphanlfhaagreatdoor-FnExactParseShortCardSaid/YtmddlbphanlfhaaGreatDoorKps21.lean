/-
  Contracts of the functions that the laws reach, and the plain facts that they rest on, each under the conditions that its line names; part 21.
-/
import Derived.Test.YtmddlbphanlfhaaGreatDoorKps1
import Derived.Test.YtmddlbphanlfhaaGreatDoorKps4
import Derived.Test.YtmddlbphanlfhaaGreatDoorKps16
import Derived.Test.YtmddlbphanlfhaaGreatDoorRows
import Derived.WalkKit
import Derived.WalkSpells
import Derived.WalkLawsBesides
import Derived.StillTactics
import Derived.Laws.Pointers
import Derived.Deep.RegionHeld3
import Derived.Deep.QuietTactic
import Derived.BigQuiet
import Derived.Outline
import Derived.Lib.Hide
import Derived.RowKit3
import Derived.Carry
import Derived.IntWalk
namespace Go.Proofs.YtmddlbphanlfhaaGreatDoor
open Go Go.RowKit
set_option linter.unusedSimpArgs false
set_option linter.unusedVariables false

theorem floatOf_sub (e f s r : Int) (hg : goodB e f = true) (hr0 : 0 ≤ r) (hr1 : r < 1024) (w : World) : Calls Tryz.prog 188 #[fmt e f, .agg #[.int .i64 s, .int .i64 0, .int .i64 r]] w fun rv w' => rv = .returned (.float .f32 (floatOfInt .f32 r)) ∧ Ext w w' := by
  go_enter Tryz.func188, Tryz.ntmps188
  go_wp2
  go_ret
  exact ⟨rfl, Ext.auK⟩

theorem ret_float {k : FloatKind} {a b : Nat} (h : a = b) : Ending.returned (.float k a) = .returned (.float k b) := by rw [h]

theorem frombits (n : Int) (w : World) : (callFunc 198 #[.int .u32 n]).run Tryz.prog w = .ok (.value (.float .f32 n.toNat)) w :=
  (run_callFunc_extern (e := Extern.MathFloatBits.float32frombits) Tryz.func198 (by kernel_rfl) (by kernel_rfl) (by kernel_rfl) (by kernel_rfl) _ w).trans rfl

theorem fbits_eq (f x r : Int) (h3 : 1 ≤ f) (h4 : f ≤ 10) (hx0 : 1 ≤ x) (hx1 : x < 31) (hr0 : 0 ≤ r) (hr1 : r < pw f) :
    (0 ≤ r * pw (23 - f) ∧ r * pw (23 - f) < 8388608) ∧ bits .or .i64 ((x - 1 + f + 127) * 8388608) (r * pw (23 - f)) = (x - 1 + f + 127) * 8388608 + r * pw (23 - f) ∧
      ((x - 1 + f + 127) * 8388608 + r * pw (23 - f)).toNat = fbitsN f.toNat x.toNat r.toNat := by
  have q0 : pw (23 - f) * pw f = 8388608 := by rw [← pw_add _ _ (by omega) (by omega), show 23 - f + f = 23 by omega]; rfl
  have q1 := pw_pos (23 - f)
  have q2 : 0 ≤ r * pw (23 - f) := Int.mul_nonneg hr0 (by omega)
  have q3 : (r + 1) * pw (23 - f) ≤ pw f * pw (23 - f) := Int.mul_le_mul_of_nonneg_right (by omega) (by omega)
  rw [Int.add_mul, Int.one_mul, Int.mul_comm (pw f), q0] at q3
  have e23 : pw 23 = 8388608 := rfl
  refine ⟨⟨q2, by omega⟩, ?_, ?_⟩
  · have := or_pw (x - 1 + f + 127) (r * pw (23 - f)) 23 (by omega) q2 (by rw [e23]; omega) (by rw [e23]; omega)
    rwa [e23] at this
  · unfold fbitsN
    have e1 : ((r.toNat * 2 ^ (23 - f.toNat) : Nat) : Int) = r * pw (23 - f) := by
      rw [Int.natCast_mul, Int.toNat_of_nonneg hr0]
      congr 1
      rw [← pw_nat]
      congr 2
      omega
    generalize r.toNat * 2 ^ (23 - f.toNat) = m at e1 ⊢
    omega

theorem floatOf_norm (e f s x r : Int) (hg : goodB e f = true) (hx0 : 1 ≤ x) (hx1 : x < 31) (hr0 : 0 ≤ r) (hr1 : r < pw f) (w : World) : Calls Tryz.prog 188 #[fmt e f, .agg #[.int .i64 s, .int .i64 x, .int .i64 r]] w fun rv w' => rv = .returned (.float .f32 (fbitsN f.toNat x.toNat r.toNat)) ∧ Ext w w' := by
  obtain ⟨h1, h2, h3, h4⟩ := good_iff.1 hg
  have hx2 : (x == 0) = false := by simp; omega
  obtain ⟨⟨q1, q2⟩, q3, q4⟩ := fbits_eq f x r h3 h4 hx0 hx1 hr0 hr1
  have Q4 := Lib.hid q4; clear q4
  have k1 : (2 : Int) ^ (23 - f).toNat = pw (23 - f) := rfl
  go_enter Tryz.func188, Tryz.ntmps188
  go_wp2_with (simp only [frombits])
  go_ret
  exact ⟨ret_float (by rw [← Q4.out]), Ext.auK⟩
end Go.Proofs.YtmddlbphanlfhaaGreatDoor

