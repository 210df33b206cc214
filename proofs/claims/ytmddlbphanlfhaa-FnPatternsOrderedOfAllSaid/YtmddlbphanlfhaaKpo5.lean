/-
  Contracts of the functions that the laws reach, and the plain facts that they rest on, each under the conditions that its line names; part 5.
-/
import Derived.Test.YtmddlbphanlfhaaKpo1
import Derived.Test.YtmddlbphanlfhaaKpo3
import Derived.Test.YtmddlbphanlfhaaKpo4
import Derived.Test.YtmddlbphanlfhaaRows
import Derived.WalkKit
import Derived.WalkSpells
import Derived.WalkLawsBesides
import Derived.StillTactics
import Derived.Laws.Pointers
import Derived.Deep.RegionHeld3
import Derived.Deep.QuietTactic
import Derived.BigQuiet
import Derived.Outline
import Derived.Lib.Hide
import Derived.RowKit3
import Derived.Carry
import Derived.IntWalk
namespace Go.Proofs.Ytmddlbphanlfhaa
open Go Go.RowKit
set_option linter.unusedSimpArgs false
set_option linter.unusedVariables false

theorem floatOf_sub (e f s r : Int) (hg : goodB e f = true) (hr0 : 0 ≤ r) (hr1 : r < 1024) (w : World) : Calls Try.prog 53 #[fmt e f, .agg #[.int .i64 s, .int .i64 0, .int .i64 r]] w fun rv w' => rv = .returned (.float .f32 (floatOfInt .f32 r)) ∧ Ext w w' := by
  go_enter Try.func53, Try.ntmps53
  go_wp2
  go_ret
  exact ⟨rfl, Ext.auK⟩

theorem ret_float {k : FloatKind} {a b : Nat} (h : a = b) : Ending.returned (.float k a) = .returned (.float k b) := by rw [h]

theorem frombits (n : Int) (w : World) : (callFunc 102 #[.int .u32 n]).run Try.prog w = .ok (.value (.float .f32 n.toNat)) w :=
  (run_callFunc_extern (e := Extern.MathFloatBits.float32frombits) Try.func102 (by kernel_rfl) (by kernel_rfl) (by kernel_rfl) (by kernel_rfl) _ w).trans rfl

theorem fbits_eq (f x r : Int) (h3 : 1 ≤ f) (h4 : f ≤ 10) (hx0 : 1 ≤ x) (hx1 : x < 31) (hr0 : 0 ≤ r) (hr1 : r < pw f) :
    (0 ≤ r * pw (23 - f) ∧ r * pw (23 - f) < 8388608) ∧ bits .or .i64 ((x - 1 + f + 127) * 8388608) (r * pw (23 - f)) = (x - 1 + f + 127) * 8388608 + r * pw (23 - f) ∧
      ((x - 1 + f + 127) * 8388608 + r * pw (23 - f)).toNat = fbitsN f.toNat x.toNat r.toNat := by
  have q0 : pw (23 - f) * pw f = 8388608 := by rw [← pw_add _ _ (by omega) (by omega), show 23 - f + f = 23 by omega]; rfl
  have q1 := pw_pos (23 - f)
  have q2 : 0 ≤ r * pw (23 - f) := Int.mul_nonneg hr0 (by omega)
  have q3 : (r + 1) * pw (23 - f) ≤ pw f * pw (23 - f) := Int.mul_le_mul_of_nonneg_right (by omega) (by omega)
  rw [Int.add_mul, Int.one_mul, Int.mul_comm (pw f), q0] at q3
  have e23 : pw 23 = 8388608 := rfl
  refine ⟨⟨q2, by omega⟩, ?_, ?_⟩
  · have := or_pw (x - 1 + f + 127) (r * pw (23 - f)) 23 (by omega) q2 (by rw [e23]; omega) (by rw [e23]; omega)
    rwa [e23] at this
  · unfold fbitsN
    have e1 : ((r.toNat * 2 ^ (23 - f.toNat) : Nat) : Int) = r * pw (23 - f) := by
      rw [Int.natCast_mul, Int.toNat_of_nonneg hr0]
      congr 1
      rw [← pw_nat]
      congr 2
      omega
    generalize r.toNat * 2 ^ (23 - f.toNat) = m at e1 ⊢
    omega

theorem floatOf_norm (e f s x r : Int) (hg : goodB e f = true) (hx0 : 1 ≤ x) (hx1 : x < 31) (hr0 : 0 ≤ r) (hr1 : r < pw f) (w : World) : Calls Try.prog 53 #[fmt e f, .agg #[.int .i64 s, .int .i64 x, .int .i64 r]] w fun rv w' => rv = .returned (.float .f32 (fbitsN f.toNat x.toNat r.toNat)) ∧ Ext w w' := by
  obtain ⟨h1, h2, h3, h4⟩ := good_iff.1 hg
  have hx2 : (x == 0) = false := by simp; omega
  obtain ⟨⟨q1, q2⟩, q3, q4⟩ := fbits_eq f x r h3 h4 hx0 hx1 hr0 hr1
  have Q4 := Lib.hid q4; clear q4
  have k1 : (2 : Int) ^ (23 - f).toNat = pw (23 - f) := rfl
  go_enter Try.func53, Try.ntmps53
  go_wp2_with (simp only [frombits])
  go_ret
  exact ⟨ret_float (by rw [← Q4.out]), Ext.auK⟩
end Go.Proofs.Ytmddlbphanlfhaa

namespace Go.Proofs.Ytmddlbphanlfhaa
open Go Go.RowKit
set_option linter.unusedSimpArgs false
set_option linter.unusedVariables false

theorem iUnitsOf_no (e f p : Int) (hg : finB e f p = false) (w : World) : Calls Try.prog 17 #[fmt e f, .int .i64 p] w fun rv w' => rv = .returned (.tuple #[.int .i64 0, .bool false]) ∧ Ext w w' := by
  go_enter Try.func17, Try.ntmps17
  go_wp2_with (go_at_call 35; refine (hasFinite_any e f _ _).mono ?_; rintro rv w1 ⟨rfl, hb⟩; have ns : w.heap.size < w1.heap.size := hb.ltK; have n0 : w1.cell? ⟨w.heap.size, 0, none⟩ = some (.int .i64 e) := hb.cellK; have n1 : w1.cell? ⟨w.heap.size, 1, none⟩ = some (.int .i64 f) := hb.cellK; (first | (have nx := hx.trK hb; clear hx) | have nx := hb); clear hb; try clear hs; try clear g0; try clear g1; have hx := nx; clear nx; have hs := ns; clear ns; have g0 := n0; clear n0; have g1 := n1; clear n1)
  go_ret2
  exact ⟨rfl, Ext.auK⟩

theorem floatOf_sub2 (e f s x r : Int) (hg : goodB e f = true) (hx : x = 0) (hr0 : 0 ≤ r) (hr1 : r < 1024) (w : World) : Calls Try.prog 53 #[fmt e f, .agg #[.int .i64 s, .int .i64 x, .int .i64 r]] w fun rv w' => rv = .returned (.float .f32 (floatOfInt .f32 r)) ∧ Ext w w' := by
  subst hx
  exact floatOf_sub e f s r hg hr0 hr1 w

theorem cut_sub (r : Int) (hr0 : 0 ≤ r) (hr1 : r < 1024) (w : World) : (convert 52 3 (.float .f32 (floatOfInt .f32 r))).run Try.prog w = .ok (.int .i64 r) w := by
  obtain ⟨n, rfl⟩ := Int.eq_ofNat_of_zero_le hr0
  exact run_convert_float_int w 52 3 .f32 .i64 _ _ (by kernel_rfl) Try.underlying3 (sub_any n (by omega))

theorem cut_norm (f x r : Int) (h3 : 1 ≤ f) (h4 : f ≤ 10) (hx0 : 1 ≤ x) (hx1 : x < 31) (hr0 : 0 ≤ r) (hr1 : r < pw f) (w : World) : (convert 52 3 (.float .f32 (fbitsN f.toNat x.toNat r.toNat))).run Try.prog w = .ok (.int .i64 ((r + pw f) * pw (x - 1))) w := by
  have h := chk_any f.toNat x.toNat r.toNat (by omega) (by omega) (by omega) (by omega) (by rw [← pw_nat] at hr1; omega)
  have e1 : (((r.toNat + 2 ^ f.toNat) * 2 ^ (x.toNat - 1) : Nat) : Int) = (r + pw f) * pw (x - 1) := by
    rw [Int.natCast_mul, Int.natCast_add, Int.toNat_of_nonneg hr0, pw_nat]
    congr 1
    rw [← pw_nat]
    congr 2
    omega
  rw [e1] at h
  exact run_convert_float_int w 52 3 .f32 .i64 _ _ (by kernel_rfl) Try.underlying3 h

set_option maxHeartbeats 800000 in
theorem iUnitsOf_yes (e f p : Int) (hg : finB e f p = true) (w : World) : Calls Try.prog 17 #[fmt e f, .int .i64 p] w fun rv w' => rv = .returned (.tuple #[.int .i64 (unitsV e f p), .bool true]) ∧ Ext w w' := by
  have hp := (fin_pat hg).1
  obtain ⟨hg0, hp0, hp1⟩ := pat_iff.1 hp
  obtain ⟨h1, h2, h3, h4⟩ := good_iff.1 hg0
  obtain ⟨⟨a1, a2⟩, ⟨b1, b2⟩, ⟨c1, c2⟩, hmul⟩ := pw_facts h1 h2 h3 h4
  clear hmul
  obtain ⟨⟨s0, s1⟩, ⟨z0, z1⟩, ⟨x0, x1⟩, ⟨r0, r1⟩, hsum⟩ := field_bd e f p hp
  have Hsum := Lib.hid hsum; clear hsum
  have hx2 := (fin_pat hg).2
  have m0 := (mag_bd e f p hp).1
  have m1 := (mag_bd e f p hp).2
  by_cases hx : 1 ≤ p % pw (e + f) / pw f
  · have hm : magV e f p = (p % pw f + pw f) * pw (p % pw (e + f) / pw f - 1) := by unfold magV; rw [if_pos (by omega)]
    have cv := cut_norm f (p % pw (e + f) / pw f) (p % pw f) h3 h4 hx (by omega) r0 r1
    rw [← hm] at cv
    have Hm := Lib.hid hm; clear hm
    cases d1 : (p / pw (e + f) == 1)
    · have Hk : Hid (unitsV e f p = magV e f p) := by show _ = _; simp only [unitsV, d1, Bool.false_eq_true, if_false]
      go_enter Try.func17, Try.ntmps17
      go_wp2_with fail
      (go_at_call 35; refine (hasFinite_any e f _ _).mono ?_; rintro rv w1 ⟨rfl, hb⟩; have ns : w.heap.size < w1.heap.size := hb.ltK; have n0 : w1.cell? ⟨w.heap.size, 0, none⟩ = some (.int .i64 e) := hb.cellK; have n1 : w1.cell? ⟨w.heap.size, 1, none⟩ = some (.int .i64 f) := hb.cellK; (first | (have nx := hx.trK hb; clear hx) | have nx := hb); clear hb; try clear hs; try clear g0; try clear g1; have hx := nx; clear nx; have hs := ns; clear ns; have g0 := n0; clear n0; have g1 := n1; clear n1)
      go_wp2_with fail
      (go_at_call 52; refine (fieldsOf_any e f _ hg0 (by omega) (by omega) _).mono ?_; rintro rv w1 ⟨rfl, hb⟩; have ns : w.heap.size < w1.heap.size := hb.ltK; have n0 : w1.cell? ⟨w.heap.size, 0, none⟩ = some (.int .i64 e) := hb.cellK; have n1 : w1.cell? ⟨w.heap.size, 1, none⟩ = some (.int .i64 f) := hb.cellK; (first | (have nx := hx.trK hb; clear hx) | have nx := hb); clear hb; try clear hs; try clear g0; try clear g1; have hx := nx; clear nx; have hs := ns; clear ns; have g0 := n0; clear n0; have g1 := n1; clear n1)
      go_wp2_with fail
      (go_at_call 53; refine (floatOf_norm e f _ _ _ hg0 (by omega) (by omega) (by omega) (by omega) _).mono ?_; rintro rv w2 ⟨rfl, hb⟩; have ns : w1.heap.size < w2.heap.size := hb.ltK; have n0 : w2.cell? ⟨w1.heap.size, 0, none⟩ = some (.int .i64 (p / pw (e + f))) := hb.cellK; have n1 : w2.cell? ⟨w1.heap.size, 1, none⟩ = some (.int .i64 (p % pw (e + f) / pw f)) := hb.cellK; have n2 : w2.cell? ⟨w1.heap.size, 2, none⟩ = some (.int .i64 (p % pw f)) := hb.cellK; (first | (have nx := hx.trK hb; clear hx) | have nx := hb); clear hb; try clear hs; try clear g0; try clear g1; try clear g2; have hx := nx; clear nx; have hs := ns; clear ns; have g0 := n0; clear n0; have g1 := n1; clear n1; have g2 := n2; clear n2)
      go_wp2_with fail
      go_ret2
      exact ⟨ret_ib Hk.out.symm, Ext.auK⟩
    · have Hk : Hid (unitsV e f p = -magV e f p) := by show _ = _; simp only [unitsV, d1, if_true]
      go_enter Try.func17, Try.ntmps17
      go_wp2_with fail
      (go_at_call 35; refine (hasFinite_any e f _ _).mono ?_; rintro rv w1 ⟨rfl, hb⟩; have ns : w.heap.size < w1.heap.size := hb.ltK; have n0 : w1.cell? ⟨w.heap.size, 0, none⟩ = some (.int .i64 e) := hb.cellK; have n1 : w1.cell? ⟨w.heap.size, 1, none⟩ = some (.int .i64 f) := hb.cellK; (first | (have nx := hx.trK hb; clear hx) | have nx := hb); clear hb; try clear hs; try clear g0; try clear g1; have hx := nx; clear nx; have hs := ns; clear ns; have g0 := n0; clear n0; have g1 := n1; clear n1)
      go_wp2_with fail
      (go_at_call 52; refine (fieldsOf_any e f _ hg0 (by omega) (by omega) _).mono ?_; rintro rv w1 ⟨rfl, hb⟩; have ns : w.heap.size < w1.heap.size := hb.ltK; have n0 : w1.cell? ⟨w.heap.size, 0, none⟩ = some (.int .i64 e) := hb.cellK; have n1 : w1.cell? ⟨w.heap.size, 1, none⟩ = some (.int .i64 f) := hb.cellK; (first | (have nx := hx.trK hb; clear hx) | have nx := hb); clear hb; try clear hs; try clear g0; try clear g1; have hx := nx; clear nx; have hs := ns; clear ns; have g0 := n0; clear n0; have g1 := n1; clear n1)
      go_wp2_with fail
      (go_at_call 53; refine (floatOf_norm e f _ _ _ hg0 (by omega) (by omega) (by omega) (by omega) _).mono ?_; rintro rv w2 ⟨rfl, hb⟩; have ns : w1.heap.size < w2.heap.size := hb.ltK; have n0 : w2.cell? ⟨w1.heap.size, 0, none⟩ = some (.int .i64 (p / pw (e + f))) := hb.cellK; have n1 : w2.cell? ⟨w1.heap.size, 1, none⟩ = some (.int .i64 (p % pw (e + f) / pw f)) := hb.cellK; have n2 : w2.cell? ⟨w1.heap.size, 2, none⟩ = some (.int .i64 (p % pw f)) := hb.cellK; (first | (have nx := hx.trK hb; clear hx) | have nx := hb); clear hb; try clear hs; try clear g0; try clear g1; try clear g2; have hx := nx; clear nx; have hs := ns; clear ns; have g0 := n0; clear n0; have g1 := n1; clear n1; have g2 := n2; clear n2)
      go_wp2_with fail
      go_ret2
      exact ⟨ret_ib Hk.out.symm, Ext.auK⟩
  · have hm : magV e f p = p % pw f := by unfold magV; rw [if_neg (by omega)]
    have HX : Hid (p % pw (e + f) / pw f = 0) := by show _ = _; omega
    have cv := cut_sub (p % pw f) r0 (by omega)
    have Hm := Lib.hid hm; clear hm
    cases d1 : (p / pw (e + f) == 1)
    · have Hk : Hid (unitsV e f p = p % pw f) := by show _ = _; simp only [unitsV, d1, Bool.false_eq_true, if_false]; exact Hm.out
      go_enter Try.func17, Try.ntmps17
      go_wp2_with fail
      (go_at_call 35; refine (hasFinite_any e f _ _).mono ?_; rintro rv w1 ⟨rfl, hb⟩; have ns : w.heap.size < w1.heap.size := hb.ltK; have n0 : w1.cell? ⟨w.heap.size, 0, none⟩ = some (.int .i64 e) := hb.cellK; have n1 : w1.cell? ⟨w.heap.size, 1, none⟩ = some (.int .i64 f) := hb.cellK; (first | (have nx := hx.trK hb; clear hx) | have nx := hb); clear hb; try clear hs; try clear g0; try clear g1; have hx := nx; clear nx; have hs := ns; clear ns; have g0 := n0; clear n0; have g1 := n1; clear n1)
      go_wp2_with fail
      (go_at_call 52; refine (fieldsOf_any e f _ hg0 (by omega) (by omega) _).mono ?_; rintro rv w1 ⟨rfl, hb⟩; have ns : w.heap.size < w1.heap.size := hb.ltK; have n0 : w1.cell? ⟨w.heap.size, 0, none⟩ = some (.int .i64 e) := hb.cellK; have n1 : w1.cell? ⟨w.heap.size, 1, none⟩ = some (.int .i64 f) := hb.cellK; (first | (have nx := hx.trK hb; clear hx) | have nx := hb); clear hb; try clear hs; try clear g0; try clear g1; have hx := nx; clear nx; have hs := ns; clear ns; have g0 := n0; clear n0; have g1 := n1; clear n1)
      go_wp2_with fail
      (go_at_call 53; refine (floatOf_sub2 e f _ _ _ hg0 HX.out (by omega) (by omega) _).mono ?_; rintro rv w2 ⟨rfl, hb⟩; have ns : w1.heap.size < w2.heap.size := hb.ltK; have n0 : w2.cell? ⟨w1.heap.size, 0, none⟩ = some (.int .i64 (p / pw (e + f))) := hb.cellK; have n1 : w2.cell? ⟨w1.heap.size, 1, none⟩ = some (.int .i64 (p % pw (e + f) / pw f)) := hb.cellK; have n2 : w2.cell? ⟨w1.heap.size, 2, none⟩ = some (.int .i64 (p % pw f)) := hb.cellK; (first | (have nx := hx.trK hb; clear hx) | have nx := hb); clear hb; try clear hs; try clear g0; try clear g1; try clear g2; have hx := nx; clear nx; have hs := ns; clear ns; have g0 := n0; clear n0; have g1 := n1; clear n1; have g2 := n2; clear n2)
      go_wp2_with fail
      go_ret2
      exact ⟨ret_ib Hk.out.symm, Ext.auK⟩
    · have Hk : Hid (unitsV e f p = -(p % pw f)) := by show _ = _; simp only [unitsV, d1, if_true]; rw [Hm.out]
      go_enter Try.func17, Try.ntmps17
      go_wp2_with fail
      (go_at_call 35; refine (hasFinite_any e f _ _).mono ?_; rintro rv w1 ⟨rfl, hb⟩; have ns : w.heap.size < w1.heap.size := hb.ltK; have n0 : w1.cell? ⟨w.heap.size, 0, none⟩ = some (.int .i64 e) := hb.cellK; have n1 : w1.cell? ⟨w.heap.size, 1, none⟩ = some (.int .i64 f) := hb.cellK; (first | (have nx := hx.trK hb; clear hx) | have nx := hb); clear hb; try clear hs; try clear g0; try clear g1; have hx := nx; clear nx; have hs := ns; clear ns; have g0 := n0; clear n0; have g1 := n1; clear n1)
      go_wp2_with fail
      (go_at_call 52; refine (fieldsOf_any e f _ hg0 (by omega) (by omega) _).mono ?_; rintro rv w1 ⟨rfl, hb⟩; have ns : w.heap.size < w1.heap.size := hb.ltK; have n0 : w1.cell? ⟨w.heap.size, 0, none⟩ = some (.int .i64 e) := hb.cellK; have n1 : w1.cell? ⟨w.heap.size, 1, none⟩ = some (.int .i64 f) := hb.cellK; (first | (have nx := hx.trK hb; clear hx) | have nx := hb); clear hb; try clear hs; try clear g0; try clear g1; have hx := nx; clear nx; have hs := ns; clear ns; have g0 := n0; clear n0; have g1 := n1; clear n1)
      go_wp2_with fail
      (go_at_call 53; refine (floatOf_sub2 e f _ _ _ hg0 HX.out (by omega) (by omega) _).mono ?_; rintro rv w2 ⟨rfl, hb⟩; have ns : w1.heap.size < w2.heap.size := hb.ltK; have n0 : w2.cell? ⟨w1.heap.size, 0, none⟩ = some (.int .i64 (p / pw (e + f))) := hb.cellK; have n1 : w2.cell? ⟨w1.heap.size, 1, none⟩ = some (.int .i64 (p % pw (e + f) / pw f)) := hb.cellK; have n2 : w2.cell? ⟨w1.heap.size, 2, none⟩ = some (.int .i64 (p % pw f)) := hb.cellK; (first | (have nx := hx.trK hb; clear hx) | have nx := hb); clear hb; try clear hs; try clear g0; try clear g1; try clear g2; have hx := nx; clear nx; have hs := ns; clear ns; have g0 := n0; clear n0; have g1 := n1; clear n1; have g2 := n2; clear n2)
      go_wp2_with fail
      go_ret2
      exact ⟨ret_ib Hk.out.symm, Ext.auK⟩
end Go.Proofs.Ytmddlbphanlfhaa

