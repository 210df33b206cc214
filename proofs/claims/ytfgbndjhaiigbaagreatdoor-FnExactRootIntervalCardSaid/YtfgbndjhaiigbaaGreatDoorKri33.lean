/-
  Contracts of the functions that the laws reach, and the plain facts that they rest on, each under the conditions that its line names; part 33.
-/
import Derived.Test.YtfgbndjhaiigbaaGreatDoorKri1
import Derived.Test.YtfgbndjhaiigbaaGreatDoorKri2
import Derived.Test.YtfgbndjhaiigbaaGreatDoorKri3
import Derived.Test.YtfgbndjhaiigbaaGreatDoorKri4
import Derived.Test.YtfgbndjhaiigbaaGreatDoorKri5
import Derived.Test.YtfgbndjhaiigbaaGreatDoorKri6
import Derived.Test.YtfgbndjhaiigbaaGreatDoorKri7
import Derived.Test.YtfgbndjhaiigbaaGreatDoorKri8
import Derived.Test.YtfgbndjhaiigbaaGreatDoorKri9
import Derived.Test.YtfgbndjhaiigbaaGreatDoorKri10
import Derived.Test.YtfgbndjhaiigbaaGreatDoorKri11
import Derived.Test.YtfgbndjhaiigbaaGreatDoorKri12
import Derived.Test.YtfgbndjhaiigbaaGreatDoorKri13
import Derived.Test.YtfgbndjhaiigbaaGreatDoorKri14
import Derived.Test.YtfgbndjhaiigbaaGreatDoorKri15
import Derived.Test.YtfgbndjhaiigbaaGreatDoorKri16
import Derived.Test.YtfgbndjhaiigbaaGreatDoorKri17
import Derived.Test.YtfgbndjhaiigbaaGreatDoorKri18
import Derived.Test.YtfgbndjhaiigbaaGreatDoorKri19
import Derived.Test.YtfgbndjhaiigbaaGreatDoorKri20
import Derived.Test.YtfgbndjhaiigbaaGreatDoorKri21
import Derived.Test.YtfgbndjhaiigbaaGreatDoorKri22
import Derived.Test.YtfgbndjhaiigbaaGreatDoorKri23
import Derived.Test.YtfgbndjhaiigbaaGreatDoorKri24
import Derived.Test.YtfgbndjhaiigbaaGreatDoorKri25
import Derived.Test.YtfgbndjhaiigbaaGreatDoorKri26
import Derived.Test.YtfgbndjhaiigbaaGreatDoorKri27
import Derived.Test.YtfgbndjhaiigbaaGreatDoorKri28
import Derived.Test.YtfgbndjhaiigbaaGreatDoorKri29
import Derived.Test.YtfgbndjhaiigbaaGreatDoorKri30
import Derived.Test.YtfgbndjhaiigbaaGreatDoorKri31
import Derived.Test.YtfgbndjhaiigbaaGreatDoorKri32
import Derived.Test.YtfgbndjhaiigbaaGreatDoorRows
import Derived.WalkKit
import Derived.LoopTactic
import Derived.Laws.Bits64b
import Derived.WalkSpells
import Derived.WalkLawsBesides
import Derived.StillTactics
import Derived.Laws.Pointers
import Derived.Deep.RegionHeld3
import Derived.Deep.QuietTactic
import Derived.BigQuiet
import Derived.Outline
import Derived.Lib.Hide
import Derived.RowKit3
import Derived.Carry
import Derived.IntWalk
import Derived.Handy
import Derived.LoopN
import Derived.Laws.OwnMore
import Derived.OwnWalk
import Derived.Deep.AppendLies
import Derived.Laws.EntriesVeiled
namespace Go.Proofs.YtfgbndjhaiigbaaGreatDoor
open Go Go.RowKit
set_option linter.unusedSimpArgs false
set_option linter.unusedVariables false
set_option maxRecDepth 100000

theorem sm_num {e f s m : Int} (hg : goodB e f = true) (s0 : 0 ≤ s) (s1 : s ≤ inV e f) (hm : m = 0 ∨ m = 1) : numB e f (s + m * pw (e + f)) = true := by
  obtain ⟨i0, i1, i2⟩ := in_bd hg
  rcases hm with rfl | rfl
  · rw [Int.zero_mul, Int.add_zero]
    exact num_mag.2 ⟨pat_iff.2 ⟨hg, s0, by omega⟩, by rw [Int.emod_eq_of_lt s0 (by omega)]; exact s1⟩
  · rw [Int.one_mul]
    exact num_mag.2 ⟨pat_iff.2 ⟨hg, by omega, by omega⟩, by rw [Int.add_emod_right, Int.emod_eq_of_lt s0 (by omega)]; exact s1⟩

theorem num_kind {e f p : Int} (hn : numB e f p = true) : kindV e f p ≠ 4 := by
  have := (kind_lt e f p (num_mag.1 hn).1).2
  rw [hn, decide_eq_true_eq] at this
  omega

theorem in_gr (e f : Int) : inV e f = grV e f + 1 := by unfold inV grV; omega

theorem rnd_top2 {e f X D mode s : Int} {neg : Bool} (h : IsRnd f (grV e f) X D mode neg s) : 0 ≤ s ∧ s ≤ grV e f + 1 := by
  obtain ⟨p, ⟨p0, p1, _⟩, rfl⟩ := h
  unfold rndP
  split
  · omega
  · split <;> omega
end Go.Proofs.YtfgbndjhaiigbaaGreatDoor

namespace Go.Proofs.YtfgbndjhaiigbaaGreatDoor
open Go Go.RowKit
set_option linter.unusedSimpArgs false
set_option linter.unusedVariables false
set_option maxRecDepth 100000

theorem en_zero {e f p : Int} (hp : patB e f p = true) (hz : p % pw (e + f) = 0) : enV e f p = 0 := by
  unfold enV; rw [zer_mag.2 ⟨hp, hz⟩]; rfl
end Go.Proofs.YtfgbndjhaiigbaaGreatDoor

namespace Go.Proofs.YtfgbndjhaiigbaaGreatDoor
open Go Go.RowKit
set_option linter.unusedSimpArgs false
set_option linter.unusedVariables false
set_option maxRecDepth 100000

theorem zero_form {e f p : Int} (hp : patB e f p = true) (hk : kindV e f p = 0) : p / pw (e + f) * pw (e + f) = p := by
  have h0 : p % pw (e + f) = 0 := by
    obtain ⟨hg, p0, p1⟩ := pat_iff.1 hp
    obtain ⟨h1, h2, h3, h4⟩ := good_iff.1 hg
    have c1 := pw_pos f
    have c2 := pw_pos (e + f)
    have r0 := Int.emod_nonneg p (show pw (e + f) ≠ 0 by omega)
    have hd : pw (e + f) = pw e * pw f := pw_add e f (by omega) (by omega)
    have hm : p % pw (e + f) % pw f = p % pw f := by
      rw [hd]
      exact Int.emod_emod_of_dvd p ⟨pw e, Int.mul_comm _ _⟩
    have d2 := Int.mul_ediv_add_emod (p % pw (e + f)) (pw f)
    have q0 : 0 ≤ p % pw (e + f) / pw f := Int.ediv_nonneg r0 (by omega)
    have e0 := (pw_facts h1 h2 h3 h4).2.1.1
    have k1 : p % pw (e + f) / pw f = 0 ∧ p % pw f = 0 := by
      unfold kindV at hk
      have rr := Int.emod_nonneg p (show pw f ≠ 0 by omega)
      by_cases h : p % pw (e + f) / pw f = pw e - 1
      · by_cases g : p % pw f = 0 <;> simp [h, g] at hk
      · have : (p % pw (e + f) / pw f == pw e - 1) = false := by simpa using h
        rw [this] at hk
        by_cases g : 0 < p % pw (e + f) / pw f
        · simp [g] at hk
        · by_cases g2 : 0 < p % pw f
          · simp [g, g2] at hk
          · exact ⟨by omega, by omega⟩
    rw [hm, k1.1, k1.2] at d2
    omega
  have d1 := Int.mul_ediv_add_emod p (pw (e + f))
  rw [h0, Int.mul_comm] at d1
  omega
end Go.Proofs.YtfgbndjhaiigbaaGreatDoor

namespace Go.Proofs.YtfgbndjhaiigbaaGreatDoor
open Go Go.RowKit
set_option linter.unusedSimpArgs false
set_option linter.unusedVariables false
set_option maxRecDepth 100000

attribute [local go_sem] ta_finite_finite ta_finite_infinite ta_finite_noNumber ta_infinite_finite ta_infinite_infinite ta_infinite_noNumber ta_noNumber_finite ta_noNumber_infinite ta_noNumber_noNumber

theorem and_par (x : Int) (h0 : -100 ≤ x) (h1 : x ≤ 100) : bits .and .i64 x 1 = x % 2 := by
  have h : ∀ k : Fin 201, bits .and .i64 ((k.val : Int) - 100) 1 = ((k.val : Int) - 100) % 2 := by decide +kernel
  have := h ⟨(x + 100).toNat, by omega⟩
  simp only at this
  rw [show (((x + 100).toNat : Nat) : Int) - 100 = x by omega] at this
  exact this

theorem sqrtX_any (x y : Nat) (h : Ieee.double.sqrt x = some y) (w : World) : Calls Tryz.prog 156 #[.float .f64 x] w fun rv w' => rv = .returned (.float .f64 y) ∧ w = w' := by
  have q : (callFunc 168 #[.float .f64 x]).run Tryz.prog w = .ok (.value (.float .f64 y)) w := by
    refine (run_callFunc_extern (e := Extern.MathSqrt.sqrt) Tryz.func168 (by kernel_rfl) (by kernel_rfl) (by kernel_rfl) (by kernel_rfl) _ w).trans ?_
    have h' : FloatKind.f64.format.sqrt x = some y := h
    have e : Extern.MathSqrt.sqrt #[.float .f64 x] = (match FloatKind.f64.format.sqrt x with
      | some r => pure (.float .f64 r)
      | none => do pure (.float .f64 (← choose (.nanBits .f64 x x)))) := rfl
    rw [e, h']
    rfl
  go_enter Tryz.func156, Tryz.ntmps156
  go_wp2
  go_ret
  exact ⟨rfl, rfl⟩

theorem rq_sg {n v : Int} (h : SqI n v) : 2 * v + sgV (n - v * v) = rqV n v := by
  obtain ⟨h0, h1, h2⟩ := h
  unfold rqV
  by_cases e : n = v * v
  · rw [if_pos e, sg_zero (by omega)]
  · rw [if_neg e, sg_pos (by omega)]

theorem rq_bd {n v : Int} (h : SqI n v) (hn : n < 1099511627776) : v < 1048576 ∧ 0 ≤ rqV n v ∧ rqV n v < 4611686018427387904 := by
  obtain ⟨h0, h1, h2⟩ := h
  have a := sqi_lt (a := v) (b := 1048576) (by omega) (by omega)
  refine ⟨a, ?_⟩
  unfold rqV
  split <;> omega

set_option maxHeartbeats 1600000 in
theorem rootFin_any (m n x v : Int) (h0 : 0 < n) (h1 : n < 2048) (x0 : -60 ≤ x) (x1 : x ≤ 60) (hv : SqI (n * pw (28 + x % 2)) v) (w : World) : Calls Tryz.prog 121 #[.agg #[.int .i64 m, .int .i64 n, .int .i64 x]] w fun rv w' => rv = .returned (.agg #[.int .i64 0, .int .i64 (rqV (n * pw (28 + x % 2)) v), .int .i64 ((x - (28 + x % 2)) / 2 - 1)]) ∧ Ext w w' := by
  obtain ⟨B, hB⟩ : ∃ B : Nat, B = 1074 := ⟨_, rfl⟩
  have hA := and_par x (by omega) (by omega)
  have d1 := Int.emod_nonneg x (show (2 : Int) ≠ 0 by decide)
  have d2 := Int.emod_lt_of_pos x (show (0 : Int) < 2 by decide)
  have k1 : IntKind.i64.wrap (28 + x % 2) = (28 + x % 2) := IntWalk.i64_in _ (by omega)
  have z1 : min (28 + x % 2).toNat 64 = (28 + x % 2).toNat := by omega
  have y1 : ¬ (28 + x % 2) < 0 := by omega
  have e1 := pw_of (28 + x % 2)
  have p1 := pw_pos (28 + x % 2)
  have p2 : pw (28 + x % 2) ≤ 536870912 := pw_le 29 536870912 rfl (by omega)
  have s0 : 0 < (n * pw (28 + x % 2)) := Int.mul_pos h0 (by omega)
  have s1 : (n * pw (28 + x % 2)) ≤ 2047 * 536870912 := Int.mul_le_mul (by omega) p2 (by omega) (by omega)
  obtain ⟨v1, r0, r1⟩ := rq_bd hv (by omega)
  have hsg := rq_sg hv
  obtain ⟨v0, v2, v3⟩ := hv
  have hr : SqR (n * pw (28 + x % 2)).toNat v.toNat := sqi_of ⟨v0, v2, v3⟩
  obtain ⟨rw_, q1, q2⟩ := sqrt_word hB (show 0 < (n * pw (28 + x % 2)).toNat by omega) (by omega) hr
  have SQ := Lib.hid (fun w => sqrtX_any _ _ q1 w)
  have ic : floatOfInt .f64 (n * pw (28 + x % 2)) = fw Ieee.double ((n * pw (28 + x % 2)).toNat * 2 ^ B) := by
    have := int_fw (f := Ieee.double) (n * pw (28 + x % 2)).toNat B (by rw [hB]; decide)
    rw [Int.toNat_of_nonneg (by omega)] at this
    exact this
  have cv : ∀ w, (convert 135 3 (.float .f64 rw_)).run Tryz.prog w = .ok (.int .i64 v) w := by
    intro w
    refine run_convert_float_int w 135 3 .f64 .i64 _ _ (by kernel_rfl) Tryz.underlying3 ?_
    unfold floatToIntVal
    have h2 : (FloatKind.f64.decode rw_).toInt .zero = some ((v.toNat : Nat) : Int) := q2
    rw [h2]
    have a1 : IntKind.i64.min ≤ ((v.toNat : Nat) : Int) := by have : IntKind.i64.min ≤ 0 := by decide
                                                              omega
    have a2 : ((v.toNat : Nat) : Int) ≤ IntKind.i64.max := by have : (9007199254740992 : Int) ≤ IntKind.i64.max := by decide
                                                              omega
    simp only [a1, a2, and_self, if_true]
    rw [Int.toNat_of_nonneg v0]
  have k2 : IntKind.i64.wrap (n * pw (28 + x % 2)) = (n * pw (28 + x % 2)) := IntWalk.i64_in _ (by omega)
  have k3 : IntKind.i64.wrap (2 * v) = 2 * v := IntWalk.i64_in _ (by omega)
  have vv := Int.mul_nonneg v0 v0
  have k4 : IntKind.i64.wrap (v * v) = v * v := IntWalk.i64_in _ (by omega)
  have k5 : IntKind.i64.wrap (rqV (n * pw (28 + x % 2)) v) = rqV (n * pw (28 + x % 2)) v := IntWalk.i64_in _ (by omega)
  have k6 : IntKind.i64.wrap (x - (28 + x % 2)) = x - (28 + x % 2) := IntWalk.i64_in _ (by omega)
  have k7 : (x - (28 + x % 2)).tdiv 2 = (x - (28 + x % 2)) / 2 := Int.tdiv_eq_ediv_of_dvd (by omega)
  have k8 : IntKind.i64.wrap ((x - (28 + x % 2)) / 2) = (x - (28 + x % 2)) / 2 := IntWalk.i64_in _ (by omega)
  have k9 : IntKind.i64.wrap ((x - (28 + x % 2)) / 2 - 1) = (x - (28 + x % 2)) / 2 - 1 := IntWalk.i64_in _ (by omega)
  generalize fw Ieee.double ((n * pw (28 + x % 2)).toNat * 2 ^ B) = fx at *
  clear vv q1 q2 hr hB s0 s1 r0 r1 v0 v1 v2 v3 h0 h1 x0 x1 d1 d2 p1 p2
  generalize rqV (n * pw (28 + x % 2)) v = z at *
  generalize (x - (28 + x % 2)) / 2 = y at *
  go_enter Tryz.func121, Tryz.ntmps121
  go_wp2_with (first | (go_at_call 156; refine (SQ.out _).mono ?_; rintro rv w1 ⟨rfl, rfl⟩) | (go_at_call 157; refine (compare_sg _ _ _).mono ?_; rintro rv w1 ⟨rfl, rfl⟩))
  go_returns
  exact ⟨rfl, Ext.auK⟩

theorem finZ0 (m x : Int) (w : World) : Calls Tryz.prog 152 #[.agg #[.int .i64 m, .int .i64 0, .int .i64 x]] w fun rv w' => rv = .returned (.bool true) ∧ Ext w w' := finZero_t m 0 x rfl w

theorem root_zero (m x : Int)  (w : World) : Calls Tryz.prog 74 #[.iface 82 (.agg #[.int .i64 m, .int .i64 0, .int .i64 x])] w fun rv w' => rv = .returned (.iface 82 (.agg #[.int .i64 m, .int .i64 0, .int .i64 x])) ∧ Ext w w' := by
  have ZC := Lib.hid (fun w => finZ0 m x w)
  go_enter Tryz.func74, Tryz.ntmps74
  go_wp2_with (first | (go_at_call 152; (with_reducible refine (ZC.out _).mono ?_); rintro rv w1 ⟨rfl, hb⟩; (first | (have nx := Ext.trans hx hb; clear hx) | (have nx := Ext.trans (hx.alloc _) hb; clear hx) | (have nx := Ext.trans ((hx.alloc _).alloc _) hb; clear hx) | (have nx := Ext.trans (((hx.alloc _).alloc _).alloc _) hb; clear hx) | have nx := hb); clear hb; have hx := nx; clear nx))
  go_ret
  exact ⟨rfl, Ext.auK⟩

theorem root_minus (n x : Int) (h : ¬ n = 0) (w : World) : Calls Tryz.prog 74 #[.iface 82 (.agg #[.int .i64 1, .int .i64 n, .int .i64 x])] w fun rv w' => rv = .returned (.iface 107 (.agg #[])) ∧ Ext w w' := by
  have ZC := Lib.hid (fun w => finZero_f 1 n x h w)
  clear h
  go_enter Tryz.func74, Tryz.ntmps74
  go_wp2_with (first | (go_at_call 152; (with_reducible refine (ZC.out _).mono ?_); rintro rv w1 ⟨rfl, hb⟩; (first | (have nx := Ext.trans hx hb; clear hx) | (have nx := Ext.trans (hx.alloc _) hb; clear hx) | (have nx := Ext.trans ((hx.alloc _).alloc _) hb; clear hx) | (have nx := Ext.trans (((hx.alloc _).alloc _).alloc _) hb; clear hx) | have nx := hb); clear hb; have hx := nx; clear nx) | (go_at_call 221; (with_reducible refine (finSign_any _ _ _ _).mono ?_); rintro rv w1 ⟨rfl, hb⟩; (first | (have nx := Ext.trans hx hb; clear hx) | (have nx := Ext.trans (hx.alloc _) hb; clear hx) | (have nx := Ext.trans ((hx.alloc _).alloc _) hb; clear hx) | (have nx := Ext.trans (((hx.alloc _).alloc _).alloc _) hb; clear hx) | have nx := hb); clear hb; have hx := nx; clear nx))
  go_ret
  exact ⟨rfl, Ext.auK⟩

theorem root_plus (n x r y : Int) (h : ¬ n = 0) (rc : ∀ w, Calls Tryz.prog 121 #[.agg #[.int .i64 0, .int .i64 n, .int .i64 x]] w fun rv w' => rv = .returned (.agg #[.int .i64 0, .int .i64 r, .int .i64 y]) ∧ Ext w w') (w : World) : Calls Tryz.prog 74 #[.iface 82 (.agg #[.int .i64 0, .int .i64 n, .int .i64 x])] w fun rv w' => rv = .returned (.iface 82 (.agg #[.int .i64 0, .int .i64 r, .int .i64 y])) ∧ Ext w w' := by
  have ZC := Lib.hid (fun w => finZero_f 0 n x h w)
  have RC := Lib.hid rc
  clear h rc
  go_enter Tryz.func74, Tryz.ntmps74
  go_wp2_with (first | (go_at_call 152; (with_reducible refine (ZC.out _).mono ?_); rintro rv w1 ⟨rfl, hb⟩; (first | (have nx := Ext.trans hx hb; clear hx) | (have nx := Ext.trans (hx.alloc _) hb; clear hx) | (have nx := Ext.trans ((hx.alloc _).alloc _) hb; clear hx) | (have nx := Ext.trans (((hx.alloc _).alloc _).alloc _) hb; clear hx) | have nx := hb); clear hb; have hx := nx; clear nx) | (go_at_call 221; (with_reducible refine (finSign_any _ _ _ _).mono ?_); rintro rv w1 ⟨rfl, hb⟩; (first | (have nx := Ext.trans hx hb; clear hx) | (have nx := Ext.trans (hx.alloc _) hb; clear hx) | (have nx := Ext.trans ((hx.alloc _).alloc _) hb; clear hx) | (have nx := Ext.trans (((hx.alloc _).alloc _).alloc _) hb; clear hx) | have nx := hb); clear hb; have hx := nx; clear nx) | (go_at_call 121; (with_reducible refine (RC.out _).mono ?_); rintro rv w1 ⟨rfl, hb⟩; (first | (have nx := Ext.trans hx hb; clear hx) | (have nx := Ext.trans (hx.alloc _) hb; clear hx) | (have nx := Ext.trans ((hx.alloc _).alloc _) hb; clear hx) | (have nx := Ext.trans (((hx.alloc _).alloc _).alloc _) hb; clear hx) | have nx := hb); clear hb; have hx := nx; clear nx))
  go_ret
  exact ⟨rfl, Ext.auK⟩

theorem root_inf0   (w : World) : Calls Tryz.prog 74 #[.iface 104 (.agg #[.int .i64 0])] w fun rv w' => rv = .returned (.iface 104 (.agg #[.int .i64 0])) ∧ Ext w w' := by
  go_enter Tryz.func74, Tryz.ntmps74
  go_wp2_with (first | (go_at_call 222; (with_reducible refine (infZero_any _ _).mono ?_); rintro rv w1 ⟨rfl, hb⟩; (first | (have nx := Ext.trans hx hb; clear hx) | (have nx := Ext.trans (hx.alloc _) hb; clear hx) | (have nx := Ext.trans ((hx.alloc _).alloc _) hb; clear hx) | (have nx := Ext.trans (((hx.alloc _).alloc _).alloc _) hb; clear hx) | have nx := hb); clear hb; have hx := nx; clear nx) | (go_at_call 224; (with_reducible refine (infSign_any _ _).mono ?_); rintro rv w1 ⟨rfl, hb⟩; (first | (have nx := Ext.trans hx hb; clear hx) | (have nx := Ext.trans (hx.alloc _) hb; clear hx) | (have nx := Ext.trans ((hx.alloc _).alloc _) hb; clear hx) | (have nx := Ext.trans (((hx.alloc _).alloc _).alloc _) hb; clear hx) | have nx := hb); clear hb; have hx := nx; clear nx))
  go_ret
  exact ⟨rfl, Ext.auK⟩

theorem root_inf1   (w : World) : Calls Tryz.prog 74 #[.iface 104 (.agg #[.int .i64 1])] w fun rv w' => rv = .returned (.iface 107 (.agg #[])) ∧ Ext w w' := by
  go_enter Tryz.func74, Tryz.ntmps74
  go_wp2_with (first | (go_at_call 222; (with_reducible refine (infZero_any _ _).mono ?_); rintro rv w1 ⟨rfl, hb⟩; (first | (have nx := Ext.trans hx hb; clear hx) | (have nx := Ext.trans (hx.alloc _) hb; clear hx) | (have nx := Ext.trans ((hx.alloc _).alloc _) hb; clear hx) | (have nx := Ext.trans (((hx.alloc _).alloc _).alloc _) hb; clear hx) | have nx := hb); clear hb; have hx := nx; clear nx) | (go_at_call 224; (with_reducible refine (infSign_any _ _).mono ?_); rintro rv w1 ⟨rfl, hb⟩; (first | (have nx := Ext.trans hx hb; clear hx) | (have nx := Ext.trans (hx.alloc _) hb; clear hx) | (have nx := Ext.trans ((hx.alloc _).alloc _) hb; clear hx) | (have nx := Ext.trans (((hx.alloc _).alloc _).alloc _) hb; clear hx) | have nx := hb); clear hb; have hx := nx; clear nx))
  go_ret
  exact ⟨rfl, Ext.auK⟩

theorem root_none   (w : World) : Calls Tryz.prog 74 #[.iface 107 (.agg #[])] w fun rv w' => rv = .returned (.iface 107 (.agg #[])) ∧ Ext w w' := by
  go_enter Tryz.func74, Tryz.ntmps74
  go_wp2_with (first | (go_at_call 225; (with_reducible refine (noZero_any _).mono ?_); rintro rv w1 ⟨rfl, hb⟩; (first | (have nx := Ext.trans hx hb; clear hx) | (have nx := Ext.trans (hx.alloc _) hb; clear hx) | (have nx := Ext.trans ((hx.alloc _).alloc _) hb; clear hx) | (have nx := Ext.trans (((hx.alloc _).alloc _).alloc _) hb; clear hx) | have nx := hb); clear hb; have hx := nx; clear nx) | (go_at_call 227; (with_reducible refine (noSign_any _).mono ?_); rintro rv w1 ⟨rfl, hb⟩; (first | (have nx := Ext.trans hx hb; clear hx) | (have nx := Ext.trans (hx.alloc _) hb; clear hx) | (have nx := Ext.trans ((hx.alloc _).alloc _) hb; clear hx) | (have nx := Ext.trans (((hx.alloc _).alloc _).alloc _) hb; clear hx) | have nx := hb); clear hb; have hx := nx; clear nx))
  go_ret
  exact ⟨rfl, Ext.auK⟩

set_option maxHeartbeats 1600000 in
theorem rootOf_fin (e f a mode m n x : Int) (hap : patB e f a = true) (m0 : 0 ≤ mode) (m1 : mode ≤ 5) (hm : m = 0 ∨ m = 1) (v0 : 0 ≤ n) (v1 : n < 4611686018427387904) (k0 : -149 ≤ x - unV e f) (k1 : x - unV e f ≤ 149) 
    (op : ∀ w, Calls Tryz.prog 74 #[(Value.iface (opT e f a) (opX e f a))] w fun rv w' => rv = .returned (.iface 82 (.agg #[.int .i64 m, .int .i64 n, .int .i64 x])) ∧ Ext w w') (w : World) (hT : TW w) :
    Calls Tryz.prog 37 #[fmt e f, .int .i64 a, .int .i64 mode] w (OTout e f m n (x - unV e f) mode w) := by
  have hg := (pat_iff.1 hap).1
  have hmo : moB mode = true := mo_iff.2 ⟨m0, m1⟩
  have OP := Lib.hid op; clear op
  go_enter Tryz.func37, Tryz.ntmps37
  go_wp2_with (go_at_call 73; (with_reducible refine (operandsOf1 e f mode a (w.heap.size + 1) hmo hap _ (hT.ext Ext.auK) (by first | with_reducible assumption | (simp; done) | (simp [go_sem]; done)) (by simp; try omega)).mono ?_); rintro rv w1 ⟨v, rfl, how, hb⟩; obtain ⟨gl, cap, rfl, hg1, hg2⟩ := how.form (by omega); have c0 := how.cellAt 0 (by omega); simp only [List.getElem?_cons_zero] at c0; clear how; have ns : w.heap.size < w1.heap.size := hb.lt (by first | (simp; done) | (simp; omega)); have g0 : w1.cell? ⟨w.heap.size, 0, none⟩ = some (.int .i64 e) := (hb.cells _ _ (by first | (simp; done) | (simp; omega))).trans (by first | (simp; done) | (simp [go_sem, *]; done)); have g1 : w1.cell? ⟨w.heap.size, 1, none⟩ = some (.int .i64 f) := (hb.cells _ _ (by first | (simp; done) | (simp; omega))).trans (by first | (simp; done) | (simp [go_sem, *]; done)); have hx : Ext w w1 := Ext.trans Ext.auK hb; clear hb)
  have hs : max w.heap.size gl < w1.heap.size := by omega
  go_wp2_with fail
  go_region_held3 (fun w' => w'.cell? ⟨w.heap.size, 0, none⟩ = some (.int .i64 e) ∧ w'.cell? ⟨w.heap.size, 1, none⟩ = some (.int .i64 f) ∧ w'.cell? ⟨gl, 0, none⟩ = some ((Value.iface (opT e f a) (opX e f a))) ∧ max w.heap.size gl < w'.heap.size) ((refine ⟨?_, ?_, ?_, ?_⟩ <;> first | with_reducible assumption | ((repeat first | rw [cell_set_far _ _ _ _ _ _ (by omega)] | rw [cell_alloc_before _ _ _ _ (by omega)] | rw [cell_alloc_drew _ _ _ _ (by omega)] | rw [cell_drew]); with_reducible assumption) | ((rw [cell_setRow_far _ _ _ _ _ (by omega)]); with_reducible assumption) | ((rw [setRow_size]); with_reducible assumption) | (simp; done) | (simp [World.setCell]; first | done | omega) | (simp [go_sem, World.cell?_alloc_past, World.cell?_setCell_far, *]; done))) ((first | (go_at_call 74; refine (OP.out _).mono ?_; rintro rv w1 ⟨rfl, hb⟩; have ns : max w.heap.size gl < w1.heap.size := hb.ltK; have n0 : w1.cell? ⟨w.heap.size, 0, none⟩ = some (.int .i64 e) := hb.cellK; have n1 : w1.cell? ⟨w.heap.size, 1, none⟩ = some (.int .i64 f) := hb.cellK; have n2 : w1.cell? ⟨gl, 0, none⟩ = some ((Value.iface (opT e f a) (opX e f a))) := hb.cellK; (first | (have nx := Ext.trans hx hb; clear hx) | (have nx := Ext.trans (hx.alloc _) hb; clear hx) | (have nx := Ext.trans hx.drew hb; clear hx) | have nx := hb); clear hb; try clear hs; try clear g0; try clear g1; try clear g2; have hx := nx; clear nx; have hs := ns; clear ns; have g0 := n0; clear n0; have g1 := n1; clear n1; have g2 := n2; clear n2) | (go_at_call 133; refine (finRounded_any e f m n x mode hg hm v0 v1 k0 k1 m0 m1 _).mono ?_; rintro rv w1 ⟨s, rfl, hq, hb⟩; have HQ := Lib.hid hq; clear hq; have ns : max w.heap.size gl < w1.heap.size := hb.ltK; have n0 : w1.cell? ⟨w.heap.size, 0, none⟩ = some (.int .i64 e) := hb.cellK; have n1 : w1.cell? ⟨w.heap.size, 1, none⟩ = some (.int .i64 f) := hb.cellK; have n2 : w1.cell? ⟨gl, 0, none⟩ = some ((Value.iface (opT e f a) (opX e f a))) := hb.cellK; (first | (have nx := Ext.trans hx hb; clear hx) | (have nx := Ext.trans (hx.alloc _) hb; clear hx) | (have nx := Ext.trans hx.drew hb; clear hx) | have nx := hb); clear hb; try clear hs; try clear g0; try clear g1; try clear g2; have hx := nx; clear nx; have hs := ns; clear ns; have g0 := n0; clear n0; have g1 := n1; clear n1; have g2 := n2; clear n2)))
  go_wp2_with fail
  go_ret2
  exact ⟨s, rfl, HQ.out, Ext.auK⟩

set_option maxHeartbeats 1600000 in
theorem rootOf_inf (e f a mode m : Int) (hap : patB e f a = true) (m0 : 0 ≤ mode) (m1 : mode ≤ 5) (hm : m = 0 ∨ m = 1) 
    (op : ∀ w, Calls Tryz.prog 74 #[(Value.iface (opT e f a) (opX e f a))] w fun rv w' => rv = .returned (.iface 104 (.agg #[.int .i64 m])) ∧ Ext w w') (w : World) (hT : TW w) :
    Calls Tryz.prog 37 #[fmt e f, .int .i64 a, .int .i64 mode] w (fun rv w' => rv = .returned (.tuple #[.int .i64 (m * pw (e + f) + (pw e - 1) * pw f), .bool true]) ∧ Ext w w') := by
  have hg := (pat_iff.1 hap).1
  have hmo : moB mode = true := mo_iff.2 ⟨m0, m1⟩
  have OP := Lib.hid op; clear op
  go_enter Tryz.func37, Tryz.ntmps37
  go_wp2_with (go_at_call 73; (with_reducible refine (operandsOf1 e f mode a (w.heap.size + 1) hmo hap _ (hT.ext Ext.auK) (by first | with_reducible assumption | (simp; done) | (simp [go_sem]; done)) (by simp; try omega)).mono ?_); rintro rv w1 ⟨v, rfl, how, hb⟩; obtain ⟨gl, cap, rfl, hg1, hg2⟩ := how.form (by omega); have c0 := how.cellAt 0 (by omega); simp only [List.getElem?_cons_zero] at c0; clear how; have ns : w.heap.size < w1.heap.size := hb.lt (by first | (simp; done) | (simp; omega)); have g0 : w1.cell? ⟨w.heap.size, 0, none⟩ = some (.int .i64 e) := (hb.cells _ _ (by first | (simp; done) | (simp; omega))).trans (by first | (simp; done) | (simp [go_sem, *]; done)); have g1 : w1.cell? ⟨w.heap.size, 1, none⟩ = some (.int .i64 f) := (hb.cells _ _ (by first | (simp; done) | (simp; omega))).trans (by first | (simp; done) | (simp [go_sem, *]; done)); have hx : Ext w w1 := Ext.trans Ext.auK hb; clear hb)
  have hs : max w.heap.size gl < w1.heap.size := by omega
  go_wp2_with fail
  go_region_held3 (fun w' => w'.cell? ⟨w.heap.size, 0, none⟩ = some (.int .i64 e) ∧ w'.cell? ⟨w.heap.size, 1, none⟩ = some (.int .i64 f) ∧ w'.cell? ⟨gl, 0, none⟩ = some ((Value.iface (opT e f a) (opX e f a))) ∧ max w.heap.size gl < w'.heap.size) ((refine ⟨?_, ?_, ?_, ?_⟩ <;> first | with_reducible assumption | ((repeat first | rw [cell_set_far _ _ _ _ _ _ (by omega)] | rw [cell_alloc_before _ _ _ _ (by omega)] | rw [cell_alloc_drew _ _ _ _ (by omega)] | rw [cell_drew]); with_reducible assumption) | ((rw [cell_setRow_far _ _ _ _ _ (by omega)]); with_reducible assumption) | ((rw [setRow_size]); with_reducible assumption) | (simp; done) | (simp [World.setCell]; first | done | omega) | (simp [go_sem, World.cell?_alloc_past, World.cell?_setCell_far, *]; done))) ((first | (go_at_call 74; refine (OP.out _).mono ?_; rintro rv w1 ⟨rfl, hb⟩; have ns : max w.heap.size gl < w1.heap.size := hb.ltK; have n0 : w1.cell? ⟨w.heap.size, 0, none⟩ = some (.int .i64 e) := hb.cellK; have n1 : w1.cell? ⟨w.heap.size, 1, none⟩ = some (.int .i64 f) := hb.cellK; have n2 : w1.cell? ⟨gl, 0, none⟩ = some ((Value.iface (opT e f a) (opX e f a))) := hb.cellK; (first | (have nx := Ext.trans hx hb; clear hx) | (have nx := Ext.trans (hx.alloc _) hb; clear hx) | (have nx := Ext.trans hx.drew hb; clear hx) | have nx := hb); clear hb; try clear hs; try clear g0; try clear g1; try clear g2; have hx := nx; clear nx; have hs := ns; clear ns; have g0 := n0; clear n0; have g1 := n1; clear n1; have g2 := n2; clear n2) | (go_at_call 223; refine (infRounded_any e f m mode hg hm _).mono ?_; rintro rv w1 ⟨rfl, hb⟩; have ns : max w.heap.size gl < w1.heap.size := hb.ltK; have n0 : w1.cell? ⟨w.heap.size, 0, none⟩ = some (.int .i64 e) := hb.cellK; have n1 : w1.cell? ⟨w.heap.size, 1, none⟩ = some (.int .i64 f) := hb.cellK; have n2 : w1.cell? ⟨gl, 0, none⟩ = some ((Value.iface (opT e f a) (opX e f a))) := hb.cellK; (first | (have nx := Ext.trans hx hb; clear hx) | (have nx := Ext.trans (hx.alloc _) hb; clear hx) | (have nx := Ext.trans hx.drew hb; clear hx) | have nx := hb); clear hb; try clear hs; try clear g0; try clear g1; try clear g2; have hx := nx; clear nx; have hs := ns; clear ns; have g0 := n0; clear n0; have g1 := n1; clear n1; have g2 := n2; clear n2)))
  go_wp2_with fail
  go_ret2
  exact ⟨rfl, Ext.auK⟩

set_option maxHeartbeats 1600000 in
theorem rootOf_no (e f a mode : Int) (hap : patB e f a = true) (m0 : 0 ≤ mode) (m1 : mode ≤ 5) 
    (op : ∀ w, Calls Tryz.prog 74 #[(Value.iface (opT e f a) (opX e f a))] w fun rv w' => rv = .returned (.iface 107 (.agg #[])) ∧ Ext w w') (w : World) (hT : TW w) :
    Calls Tryz.prog 37 #[fmt e f, .int .i64 a, .int .i64 mode] w (fun rv w' => rv = .returned (.tuple #[.int .i64 (quV e f), .bool true]) ∧ Ext w w') := by
  have hg := (pat_iff.1 hap).1
  have hmo : moB mode = true := mo_iff.2 ⟨m0, m1⟩
  have OP := Lib.hid op; clear op
  go_enter Tryz.func37, Tryz.ntmps37
  go_wp2_with (go_at_call 73; (with_reducible refine (operandsOf1 e f mode a (w.heap.size + 1) hmo hap _ (hT.ext Ext.auK) (by first | with_reducible assumption | (simp; done) | (simp [go_sem]; done)) (by simp; try omega)).mono ?_); rintro rv w1 ⟨v, rfl, how, hb⟩; obtain ⟨gl, cap, rfl, hg1, hg2⟩ := how.form (by omega); have c0 := how.cellAt 0 (by omega); simp only [List.getElem?_cons_zero] at c0; clear how; have ns : w.heap.size < w1.heap.size := hb.lt (by first | (simp; done) | (simp; omega)); have g0 : w1.cell? ⟨w.heap.size, 0, none⟩ = some (.int .i64 e) := (hb.cells _ _ (by first | (simp; done) | (simp; omega))).trans (by first | (simp; done) | (simp [go_sem, *]; done)); have g1 : w1.cell? ⟨w.heap.size, 1, none⟩ = some (.int .i64 f) := (hb.cells _ _ (by first | (simp; done) | (simp; omega))).trans (by first | (simp; done) | (simp [go_sem, *]; done)); have hx : Ext w w1 := Ext.trans Ext.auK hb; clear hb)
  have hs : max w.heap.size gl < w1.heap.size := by omega
  go_wp2_with fail
  go_region_held3 (fun w' => w'.cell? ⟨w.heap.size, 0, none⟩ = some (.int .i64 e) ∧ w'.cell? ⟨w.heap.size, 1, none⟩ = some (.int .i64 f) ∧ w'.cell? ⟨gl, 0, none⟩ = some ((Value.iface (opT e f a) (opX e f a))) ∧ max w.heap.size gl < w'.heap.size) ((refine ⟨?_, ?_, ?_, ?_⟩ <;> first | with_reducible assumption | ((repeat first | rw [cell_set_far _ _ _ _ _ _ (by omega)] | rw [cell_alloc_before _ _ _ _ (by omega)] | rw [cell_alloc_drew _ _ _ _ (by omega)] | rw [cell_drew]); with_reducible assumption) | ((rw [cell_setRow_far _ _ _ _ _ (by omega)]); with_reducible assumption) | ((rw [setRow_size]); with_reducible assumption) | (simp; done) | (simp [World.setCell]; first | done | omega) | (simp [go_sem, World.cell?_alloc_past, World.cell?_setCell_far, *]; done))) ((first | (go_at_call 74; refine (OP.out _).mono ?_; rintro rv w1 ⟨rfl, hb⟩; have ns : max w.heap.size gl < w1.heap.size := hb.ltK; have n0 : w1.cell? ⟨w.heap.size, 0, none⟩ = some (.int .i64 e) := hb.cellK; have n1 : w1.cell? ⟨w.heap.size, 1, none⟩ = some (.int .i64 f) := hb.cellK; have n2 : w1.cell? ⟨gl, 0, none⟩ = some ((Value.iface (opT e f a) (opX e f a))) := hb.cellK; (first | (have nx := Ext.trans hx hb; clear hx) | (have nx := Ext.trans (hx.alloc _) hb; clear hx) | (have nx := Ext.trans hx.drew hb; clear hx) | have nx := hb); clear hb; try clear hs; try clear g0; try clear g1; try clear g2; have hx := nx; clear nx; have hs := ns; clear ns; have g0 := n0; clear n0; have g1 := n1; clear n1; have g2 := n2; clear n2) | (go_at_call 226; refine (noRounded_any e f mode hg _).mono ?_; rintro rv w1 ⟨rfl, hb⟩; have ns : max w.heap.size gl < w1.heap.size := hb.ltK; have n0 : w1.cell? ⟨w.heap.size, 0, none⟩ = some (.int .i64 e) := hb.cellK; have n1 : w1.cell? ⟨w.heap.size, 1, none⟩ = some (.int .i64 f) := hb.cellK; have n2 : w1.cell? ⟨gl, 0, none⟩ = some ((Value.iface (opT e f a) (opX e f a))) := hb.cellK; (first | (have nx := Ext.trans hx hb; clear hx) | (have nx := Ext.trans (hx.alloc _) hb; clear hx) | (have nx := Ext.trans hx.drew hb; clear hx) | have nx := hb); clear hb; try clear hs; try clear g0; try clear g1; try clear g2; have hx := nx; clear nx; have hs := ns; clear ns; have g0 := n0; clear n0; have g1 := n1; clear n1; have g2 := n2; clear n2)))
  go_wp2_with fail
  go_ret2
  exact ⟨rfl, Ext.auK⟩

/-- What a root is. -/
def RtD (e f a mode r : Int) : Prop := ((kindV e f a = 4 ∨ ((a / pw (e + f)) = 1 ∧ kindV e f a ≠ 0)) ∧ r = quV e f) ∨ ((kindV e f a = 0 ∨ (kindV e f a = 3 ∧ (a / pw (e + f)) = 0)) ∧ r = a) ∨
  ((kindV e f a = 1 ∨ kindV e f a = 2) ∧ (a / pw (e + f)) = 0 ∧ ∃ v, SqI (((odV (unitsV e f a)).natAbs : Int) * pw (28 + (shE (unitsV e f a) (unV e f)) % 2)) v ∧ RndD e f (rqV (((odV (unitsV e f a)).natAbs : Int) * pw (28 + (shE (unitsV e f a) (unV e f)) % 2)) v) (((shE (unitsV e f a) (unV e f)) - (28 + (shE (unitsV e f a) (unV e f)) % 2)) / 2 - 1 - (unV e f)) mode false r)

theorem rt_one {e f a mode r r2 : Int} (hg : goodB e f = true) (h : RtD e f a mode r) (h2 : RtD e f a mode r2) : r = r2 := by
  have hf := (good_iff.1 hg).2.2.1
  have hp : (0 : Int) < pw 149 := by have := pw_pos 149; omega
  rcases h with ⟨a1, b1⟩ | ⟨a1, b1⟩ | ⟨a1, s1, v, b1, c1⟩ <;> rcases h2 with ⟨a2, b2⟩ | ⟨a2, b2⟩ | ⟨a2, s2, v2, b2, c2⟩ <;> first | omega | (obtain rfl := sqi_one b1 b2; exact rnd_one hf hp c1 c2)

def rtB (e f a mode : Int) : Bool := patB e f a && moB mode

theorem rt_iff {e f a mode : Int} : rtB e f a mode = true ↔ patB e f a = true ∧ 0 ≤ mode ∧ mode ≤ 5 := by unfold rtB; rw [Bool.and_eq_true, mo_iff]

theorem na_bd {e f a : Int} (hap : patB e f a = true) (na : (unitsV e f a) ≠ 0) : 1 ≤ ((odV (unitsV e f a)).natAbs : Int) ∧ ((odV (unitsV e f a)).natAbs : Int) < 2048 ∧ (unV e f) ≤ (shE (unitsV e f a) (unV e f)) ∧ (shE (unitsV e f a) (unV e f)) ≤ (unV e f) + 42 ∧ -24 ≤ (unV e f) ∧ (unV e f) ≤ -1 := by
  obtain ⟨ua1, ua2, ua3, ua4, _⟩ := un_small hap
  have u1 := un_bd (pat_iff.1 hap).1
  have zA2 : ¬ ((odV (unitsV e f a)).natAbs : Int) = 0 := fun h2 => na ((od_sign (S := (unitsV e f a)) (by have := units_bd e f a hap; omega) (by have := units_bd e f a hap; omega)).2.1 (by omega))
  have := ua4 na
  omega

theorem iRootOf_yes (e f a mode : Int) (hg : rtB e f a mode = true) (w : World) (hT : TW w) : Calls Tryz.prog 37 #[fmt e f, .int .i64 a, .int .i64 mode] w (ARboth (RtD e f a mode) w) := by
  obtain ⟨hap, m0, m1⟩ := rt_iff.1 hg
  have hgg := (pat_iff.1 hap).1
  rcases kind_parts hap with ⟨ka, fa, na⟩ | ⟨ka, fa, na⟩ | ⟨ka, fa, na⟩ | ⟨ka, fa, na⟩
  · refine (rootOf_no e f a mode hap m0 m1 (fun w => by rw [show (Value.iface (opT e f a) (opX e f a)) = _ from op_no fa na]; exact root_none w) w hT).mono ?_
    rintro rv w1 ⟨rfl, hx⟩
    exact ⟨_, rfl, Or.inl ⟨Or.inl ka, rfl⟩, hx⟩
  · rcases sign_01 hap with hs | hs
    · refine (rootOf_inf e f a mode 0 hap m0 m1 (Or.inl rfl) (fun w => by rw [show (Value.iface (opT e f a) (opX e f a)) = _ from op_inf fa na, hs]; exact root_inf0 w) w hT).mono ?_
      rintro rv w1 ⟨rfl, hx⟩
      refine ⟨_, rfl, Or.inr (Or.inl ⟨Or.inr ⟨ka, hs⟩, ?_⟩), hx⟩
      have := inf_form hap ka
      rw [hs] at this
      exact this
    · refine (rootOf_no e f a mode hap m0 m1 (fun w => by rw [show (Value.iface (opT e f a) (opX e f a)) = _ from op_inf fa na, hs]; exact root_inf1 w) w hT).mono ?_
      rintro rv w1 ⟨rfl, hx⟩
      exact ⟨_, rfl, Or.inl ⟨Or.inr ⟨hs, by omega⟩, rfl⟩, hx⟩
  · have u1 := un_bd hgg
    have x0 : (shE (unitsV e f a) (unV e f)) = 0 := (un_small hap).2.2.2.2 na
    have z0 : ((odV (unitsV e f a)).natAbs : Int) = 0 := by rw [na, od_zero]; rfl
    have sga := sign_01 hap
    refine (rootOf_fin e f a mode (a / pw (e + f)) 0 (shE (unitsV e f a) (unV e f)) hap m0 m1 sga (by omega) (by omega) (by omega) (by omega) (fun w => by rw [show (Value.iface (opT e f a) (opX e f a)) = _ from op_fin fa, z0]; exact root_zero _ _ w) w hT).mono ?_
    rintro rv w1 ⟨s, rfl, hq, hx⟩
    refine ⟨_, rfl, Or.inr (Or.inl ⟨Or.inl ka, ?_⟩), hx⟩
    rw [pls_zero hgg hq, Int.zero_add]
    exact zero_form hap ka
  · obtain ⟨b1, b2, b3, b4, b5, b6⟩ := na_bd hap na
    rcases sign_01 hap with hs | hs
    · have e0 := Int.emod_nonneg (shE (unitsV e f a) (unV e f)) (show (2 : Int) ≠ 0 by decide)
      have e1 := Int.emod_lt_of_pos (shE (unitsV e f a) (unV e f)) (show (0 : Int) < 2 by decide)
      have p2 : pw (28 + (shE (unitsV e f a) (unV e f)) % 2) ≤ 536870912 := pw_le 29 536870912 rfl (by omega)
      have p1 := pw_pos (28 + (shE (unitsV e f a) (unV e f)) % 2)
      have q1 : (((odV (unitsV e f a)).natAbs : Int) * pw (28 + (shE (unitsV e f a) (unV e f)) % 2)) ≤ 2047 * 536870912 := Int.mul_le_mul (by omega) p2 (by omega) (by omega)
      obtain ⟨v, hv⟩ := sqi_ex (n := (((odV (unitsV e f a)).natAbs : Int) * pw (28 + (shE (unitsV e f a) (unV e f)) % 2))) (Int.mul_nonneg (by omega) (by omega))
      obtain ⟨_, r1, r2⟩ := rq_bd hv (by omega)
      refine (rootOf_fin e f a mode 0 (rqV (((odV (unitsV e f a)).natAbs : Int) * pw (28 + (shE (unitsV e f a) (unV e f)) % 2)) v) (((shE (unitsV e f a) (unV e f)) - (28 + (shE (unitsV e f a) (unV e f)) % 2)) / 2 - 1) hap m0 m1 (Or.inl rfl) r1 r2 (by omega) (by omega) (fun w => by rw [show (Value.iface (opT e f a) (opX e f a)) = _ from op_fin fa, hs]; exact root_plus _ _ _ _ (by omega) (fun w => rootFin_any 0 _ _ v (by omega) (by omega) (by omega) (by omega) hv w) w) w hT).mono ?_
      rintro rv w1 ⟨s, rfl, hq, hx⟩
      exact ⟨s + 0 * pw (e + f), rfl, Or.inr (Or.inr ⟨ka, hs, v, hv, by rw [Int.zero_mul, Int.add_zero]; exact hq⟩), hx⟩
    · refine (rootOf_no e f a mode hap m0 m1 (fun w => by rw [show (Value.iface (opT e f a) (opX e f a)) = _ from op_fin fa, hs]; exact root_minus _ _ (by omega) w) w hT).mono ?_
      rintro rv w1 ⟨rfl, hx⟩
      exact ⟨_, rfl, Or.inl ⟨Or.inr ⟨hs, by omega⟩, rfl⟩, hx⟩
end Go.Proofs.YtfgbndjhaiigbaaGreatDoor

namespace Go.Proofs.YtfgbndjhaiigbaaGreatDoor
open Go Go.RowKit
set_option linter.unusedSimpArgs false
set_option linter.unusedVariables false
set_option maxRecDepth 100000

theorem arFloor_any (n v : Int) (h0 : 0 ≤ n) (h1 : n < 1152921504606846976) (hv : SqI n v) (w : World) : Calls Tryz.prog 102 #[.int .i64 n] w fun rv w' => rv = .returned (.int .i64 v) ∧ w = w' := by
  have HV := Lib.hid hv; clear hv
  go_enter Tryz.func102, Tryz.ntmps102
  go_wp2
  go_loop [3, 4] (fun s3 s4 => ∃ r k : Int, s3 = .int .i64 r ∧ s4 = .int .i64 k ∧ -1 ≤ k ∧ k ≤ 30 ∧ 0 ≤ r ∧ r + pw (k + 1) ≤ 2147483648 ∧ Hid (r * r ≤ n) ∧ Hid (n < (r + pw (k + 1)) * (r + pw (k + 1)))) (fun _ x => (intOf x + 1).toNat)
  case atStart => exact ⟨0, 30, rfl, rfl, by decide, by decide, by decide, by decide, Lib.hid (by omega), Lib.hid (by rw [show pw (30 + 1) = 2147483648 from rfl]; omega)⟩
  case round =>
    obtain ⟨r, k, rfl, rfl, k0, k1, r0, r1, HA, HB⟩ := hrel
    by_cases hk : 0 ≤ k
    · have z1 : min k.toNat 64 = k.toNat := by omega
      have y1 : ¬ k < 0 := by omega
      have e1 := pw_of k
      have p1 := pw_pos k
      have p2 := pw_succ k hk
      have p3 : pw k ≤ 1073741824 := pw_le 30 1073741824 rfl (by omega)
      have w1 : IntKind.i64.wrap (pw k) = pw k := IntWalk.i64_in _ (by omega)
      have w2 : IntKind.i64.wrap (r + pw k) = r + pw k := IntWalk.i64_in _ (by omega)
      have q : (r + pw k) * (r + pw k) ≤ 2147483648 * 2147483648 := Int.mul_le_mul (by omega) (by omega) (by omega) (by omega)
      have q0 : 0 ≤ (r + pw k) * (r + pw k) := Int.mul_nonneg (by omega) (by omega)
      have w3 : IntKind.i64.wrap ((r + pw k) * (r + pw k)) = (r + pw k) * (r + pw k) := IntWalk.i64_in _ (by omega)
      have w4 : IntKind.i64.wrap (k - 1) = k - 1 := IntWalk.i64_in _ (by omega)
      by_cases hn : (r + pw k) * (r + pw k) ≤ n
      · have HC : Hid (n < (r + pw k + pw (k - 1 + 1)) * (r + pw k + pw (k - 1 + 1))) := Lib.hid (by
          have := HB.out
          rw [p2] at this
          rw [show k - 1 + 1 = k by omega, show r + pw k + pw k = r + 2 * pw k by omega]
          exact this)
        have HD := Lib.hid hn
        have r2 : r + pw k + pw (k - 1 + 1) ≤ 2147483648 := by rw [show k - 1 + 1 = k by omega]; omega
        clear HA HB q q0
        go_wp2
        go_round
        case rel => exact ⟨r + pw k, k - 1, rfl, rfl, by omega, by omega, by omega, r2, HD, HC⟩
        case measure => simp [intOf]; omega
      · have HC : Hid (n < (r + pw (k - 1 + 1)) * (r + pw (k - 1 + 1))) := Lib.hid (by
          rw [show k - 1 + 1 = k by omega]
          omega)
        have r2 : r + pw (k - 1 + 1) ≤ 2147483648 := by rw [show k - 1 + 1 = k by omega]; omega
        clear HB q q0
        go_wp2
        go_round
        case rel => exact ⟨r, k - 1, rfl, rfl, by omega, by omega, by omega, r2, HA, HC⟩
        case measure => simp [intOf]; omega
    · have hz : k = -1 := by omega
      subst hz
      have hsz : SqI n r := ⟨r0, HA.out, by have := HB.out; rwa [show pw (-1 + 1) = 1 from rfl] at this⟩
      obtain rfl := sqi_one HV.out hsz
      clear HA HB hsz
      go_wp2
      go_ret
      exact ⟨rfl, rfl⟩

theorem root_exps {N X P U o sh k : Int} (hP : 0 ≤ P) (hk : X - P = 2 * (k + 1 + U)) (hk2 : -150 ≤ k) (ho : 0 ≤ o) (hsz : 0 ≤ sh) (he : sh + 2 * o = X - 2 * U) :
    N * pw P * (pw (k + 150) * pw (k + 150)) = N * pw sh * (pw o * pw o) * (pw 149 * pw 149) := by
  rw [← pw_add (k + 150) (k + 150) (by omega) (by omega), ← pw_add o o ho ho, ← pw_add 149 149 (by omega) (by omega), Int.mul_assoc, ← pw_add _ _ hP (by omega), Int.mul_assoc N, ← pw_add _ _ hsz (by omega), Int.mul_assoc, ← pw_add _ _ (by omega) (by omega)]
  congr 2
  omega

theorem arRoot_x (e f a mode : Int) (hap : patB e f a = true) (ka : kindV e f a = 4) (w : World) : Calls Tryz.prog 53 #[fmt e f, .int .i64 a, .int .i64 mode] w (ARout (RtD e f a mode) w) := by
  have hg := (pat_iff.1 hap).1
  have a0 := (pat_iff.1 hap).2.1
  have NA_ := Lib.hid (fun w => arNoK e f a true hap (by simp; omega) w)
  go_enter Tryz.func53, Tryz.ntmps53
  go_wp2_with (first | (go_at_call 77; (with_reducible refine (NA_.out _).mono ?_); rintro rv w1 ⟨rfl, hb⟩; have ns : w.heap.size < w1.heap.size := hb.ltK; have n0 : w1.cell? ⟨w.heap.size, 0, none⟩ = some (.int .i64 e) := hb.cellK; have n1 : w1.cell? ⟨w.heap.size, 1, none⟩ = some (.int .i64 f) := hb.cellK; (first | (have nx := Ext.trans hx hb; clear hx) | (have nx := Ext.trans (hx.alloc _) hb; clear hx) | (have nx := Ext.trans hx.drew hb; clear hx) | have nx := hb); clear hb; try clear hs; try clear g0; try clear g1; have hx := nx; clear nx; have hs := ns; clear ns; have g0 := n0; clear n0; have g1 := n1; clear n1) | (go_at_call 80; refine (arQuiet_any e f hg _).mono ?_; rintro rv w1 ⟨rfl, hb⟩; have ns : w.heap.size < w1.heap.size := hb.ltK; have n0 : w1.cell? ⟨w.heap.size, 0, none⟩ = some (.int .i64 e) := hb.cellK; have n1 : w1.cell? ⟨w.heap.size, 1, none⟩ = some (.int .i64 f) := hb.cellK; (first | (have nx := Ext.trans hx hb; clear hx) | (have nx := Ext.trans (hx.alloc _) hb; clear hx) | (have nx := Ext.trans hx.drew hb; clear hx) | have nx := hb); clear hb; try clear hs; try clear g0; try clear g1; have hx := nx; clear nx; have hs := ns; clear ns; have g0 := n0; clear n0; have g1 := n1; clear n1))
  go_ret
  exact ⟨_, rfl, Or.inl ⟨Or.inl ka, rfl⟩, Ext.auK⟩

theorem arRoot_m (e f a mode : Int) (hap : patB e f a = true) (ka : kindV e f a ≠ 4) (kz : kindV e f a ≠ 0) (hsz : (a / pw (e + f)) = 1) (w : World) : Calls Tryz.prog 53 #[fmt e f, .int .i64 a, .int .i64 mode] w (ARout (RtD e f a mode) w) := by
  have hg := (pat_iff.1 hap).1
  have a0 := (pat_iff.1 hap).2.1
  have NA_ := Lib.hid (fun w => arNoK e f a false hap (by simp; omega) w)
  have SG := fun w => fmSign_any e f a hg a0 w
  rw [hsz] at SG
  have SG := Lib.hid SG
  have ZA_ := Lib.hid (fun w => arZeroK e f a false hap (by simp; omega) w)
  go_enter Tryz.func53, Tryz.ntmps53
  go_wp2_with (first | (go_at_call 77; (with_reducible refine (NA_.out _).mono ?_); rintro rv w1 ⟨rfl, hb⟩; have ns : w.heap.size < w1.heap.size := hb.ltK; have n0 : w1.cell? ⟨w.heap.size, 0, none⟩ = some (.int .i64 e) := hb.cellK; have n1 : w1.cell? ⟨w.heap.size, 1, none⟩ = some (.int .i64 f) := hb.cellK; (first | (have nx := Ext.trans hx hb; clear hx) | (have nx := Ext.trans (hx.alloc _) hb; clear hx) | (have nx := Ext.trans hx.drew hb; clear hx) | have nx := hb); clear hb; try clear hs; try clear g0; try clear g1; have hx := nx; clear nx; have hs := ns; clear ns; have g0 := n0; clear n0; have g1 := n1; clear n1) | (go_at_call 85; (with_reducible refine (SG.out _).mono ?_); rintro rv w1 ⟨rfl, hb⟩; have ns : w.heap.size < w1.heap.size := hb.ltK; have n0 : w1.cell? ⟨w.heap.size, 0, none⟩ = some (.int .i64 e) := hb.cellK; have n1 : w1.cell? ⟨w.heap.size, 1, none⟩ = some (.int .i64 f) := hb.cellK; (first | (have nx := Ext.trans hx hb; clear hx) | (have nx := Ext.trans (hx.alloc _) hb; clear hx) | (have nx := Ext.trans hx.drew hb; clear hx) | have nx := hb); clear hb; try clear hs; try clear g0; try clear g1; have hx := nx; clear nx; have hs := ns; clear ns; have g0 := n0; clear n0; have g1 := n1; clear n1) | (go_at_call 79; (with_reducible refine (ZA_.out _).mono ?_); rintro rv w1 ⟨rfl, hb⟩; have ns : w.heap.size < w1.heap.size := hb.ltK; have n0 : w1.cell? ⟨w.heap.size, 0, none⟩ = some (.int .i64 e) := hb.cellK; have n1 : w1.cell? ⟨w.heap.size, 1, none⟩ = some (.int .i64 f) := hb.cellK; (first | (have nx := Ext.trans hx hb; clear hx) | (have nx := Ext.trans (hx.alloc _) hb; clear hx) | (have nx := Ext.trans hx.drew hb; clear hx) | have nx := hb); clear hb; try clear hs; try clear g0; try clear g1; have hx := nx; clear nx; have hs := ns; clear ns; have g0 := n0; clear n0; have g1 := n1; clear n1) | (go_at_call 80; refine (arQuiet_any e f hg _).mono ?_; rintro rv w1 ⟨rfl, hb⟩; have ns : w.heap.size < w1.heap.size := hb.ltK; have n0 : w1.cell? ⟨w.heap.size, 0, none⟩ = some (.int .i64 e) := hb.cellK; have n1 : w1.cell? ⟨w.heap.size, 1, none⟩ = some (.int .i64 f) := hb.cellK; (first | (have nx := Ext.trans hx hb; clear hx) | (have nx := Ext.trans (hx.alloc _) hb; clear hx) | (have nx := Ext.trans hx.drew hb; clear hx) | have nx := hb); clear hb; try clear hs; try clear g0; try clear g1; have hx := nx; clear nx; have hs := ns; clear ns; have g0 := n0; clear n0; have g1 := n1; clear n1))
  go_ret
  exact ⟨_, rfl, Or.inl ⟨Or.inr ⟨hsz, kz⟩, rfl⟩, Ext.auK⟩

theorem arRoot_z1 (e f a mode : Int) (hap : patB e f a = true) (ka : kindV e f a = 0) (hsz : (a / pw (e + f)) = 1) (w : World) : Calls Tryz.prog 53 #[fmt e f, .int .i64 a, .int .i64 mode] w (ARout (RtD e f a mode) w) := by
  have hg := (pat_iff.1 hap).1
  have a0 := (pat_iff.1 hap).2.1
  have NA_ := Lib.hid (fun w => arNoK e f a false hap (by simp; omega) w)
  have SG := fun w => fmSign_any e f a hg a0 w
  rw [hsz] at SG
  have SG := Lib.hid SG
  have ZA_ := Lib.hid (fun w => arZeroK e f a true hap (by simp; omega) w)
  go_enter Tryz.func53, Tryz.ntmps53
  go_wp2_with (first | (go_at_call 77; (with_reducible refine (NA_.out _).mono ?_); rintro rv w1 ⟨rfl, hb⟩; have ns : w.heap.size < w1.heap.size := hb.ltK; have n0 : w1.cell? ⟨w.heap.size, 0, none⟩ = some (.int .i64 e) := hb.cellK; have n1 : w1.cell? ⟨w.heap.size, 1, none⟩ = some (.int .i64 f) := hb.cellK; (first | (have nx := Ext.trans hx hb; clear hx) | (have nx := Ext.trans (hx.alloc _) hb; clear hx) | (have nx := Ext.trans hx.drew hb; clear hx) | have nx := hb); clear hb; try clear hs; try clear g0; try clear g1; have hx := nx; clear nx; have hs := ns; clear ns; have g0 := n0; clear n0; have g1 := n1; clear n1) | (go_at_call 85; (with_reducible refine (SG.out _).mono ?_); rintro rv w1 ⟨rfl, hb⟩; have ns : w.heap.size < w1.heap.size := hb.ltK; have n0 : w1.cell? ⟨w.heap.size, 0, none⟩ = some (.int .i64 e) := hb.cellK; have n1 : w1.cell? ⟨w.heap.size, 1, none⟩ = some (.int .i64 f) := hb.cellK; (first | (have nx := Ext.trans hx hb; clear hx) | (have nx := Ext.trans (hx.alloc _) hb; clear hx) | (have nx := Ext.trans hx.drew hb; clear hx) | have nx := hb); clear hb; try clear hs; try clear g0; try clear g1; have hx := nx; clear nx; have hs := ns; clear ns; have g0 := n0; clear n0; have g1 := n1; clear n1) | (go_at_call 79; (with_reducible refine (ZA_.out _).mono ?_); rintro rv w1 ⟨rfl, hb⟩; have ns : w.heap.size < w1.heap.size := hb.ltK; have n0 : w1.cell? ⟨w.heap.size, 0, none⟩ = some (.int .i64 e) := hb.cellK; have n1 : w1.cell? ⟨w.heap.size, 1, none⟩ = some (.int .i64 f) := hb.cellK; (first | (have nx := Ext.trans hx hb; clear hx) | (have nx := Ext.trans (hx.alloc _) hb; clear hx) | (have nx := Ext.trans hx.drew hb; clear hx) | have nx := hb); clear hb; try clear hs; try clear g0; try clear g1; have hx := nx; clear nx; have hs := ns; clear ns; have g0 := n0; clear n0; have g1 := n1; clear n1))
  go_ret
  exact ⟨_, rfl, Or.inr (Or.inl ⟨Or.inl ka, rfl⟩), Ext.auK⟩

theorem arRoot_z0 (e f a mode : Int) (hap : patB e f a = true) (ka : kindV e f a = 0) (hsz : (a / pw (e + f)) = 0) (w : World) : Calls Tryz.prog 53 #[fmt e f, .int .i64 a, .int .i64 mode] w (ARout (RtD e f a mode) w) := by
  have hg := (pat_iff.1 hap).1
  have a0 := (pat_iff.1 hap).2.1
  have NA_ := Lib.hid (fun w => arNoK e f a false hap (by simp; omega) w)
  have SG := fun w => fmSign_any e f a hg a0 w
  rw [hsz] at SG
  have SG := Lib.hid SG
  have ZA_ := Lib.hid (fun w => arZeroK e f a true hap (by simp; omega) w)
  go_enter Tryz.func53, Tryz.ntmps53
  go_wp2_with (first | (go_at_call 77; (with_reducible refine (NA_.out _).mono ?_); rintro rv w1 ⟨rfl, hb⟩; have ns : w.heap.size < w1.heap.size := hb.ltK; have n0 : w1.cell? ⟨w.heap.size, 0, none⟩ = some (.int .i64 e) := hb.cellK; have n1 : w1.cell? ⟨w.heap.size, 1, none⟩ = some (.int .i64 f) := hb.cellK; (first | (have nx := Ext.trans hx hb; clear hx) | (have nx := Ext.trans (hx.alloc _) hb; clear hx) | (have nx := Ext.trans hx.drew hb; clear hx) | have nx := hb); clear hb; try clear hs; try clear g0; try clear g1; have hx := nx; clear nx; have hs := ns; clear ns; have g0 := n0; clear n0; have g1 := n1; clear n1) | (go_at_call 85; (with_reducible refine (SG.out _).mono ?_); rintro rv w1 ⟨rfl, hb⟩; have ns : w.heap.size < w1.heap.size := hb.ltK; have n0 : w1.cell? ⟨w.heap.size, 0, none⟩ = some (.int .i64 e) := hb.cellK; have n1 : w1.cell? ⟨w.heap.size, 1, none⟩ = some (.int .i64 f) := hb.cellK; (first | (have nx := Ext.trans hx hb; clear hx) | (have nx := Ext.trans (hx.alloc _) hb; clear hx) | (have nx := Ext.trans hx.drew hb; clear hx) | have nx := hb); clear hb; try clear hs; try clear g0; try clear g1; have hx := nx; clear nx; have hs := ns; clear ns; have g0 := n0; clear n0; have g1 := n1; clear n1) | (go_at_call 79; (with_reducible refine (ZA_.out _).mono ?_); rintro rv w1 ⟨rfl, hb⟩; have ns : w.heap.size < w1.heap.size := hb.ltK; have n0 : w1.cell? ⟨w.heap.size, 0, none⟩ = some (.int .i64 e) := hb.cellK; have n1 : w1.cell? ⟨w.heap.size, 1, none⟩ = some (.int .i64 f) := hb.cellK; (first | (have nx := Ext.trans hx hb; clear hx) | (have nx := Ext.trans (hx.alloc _) hb; clear hx) | (have nx := Ext.trans hx.drew hb; clear hx) | have nx := hb); clear hb; try clear hs; try clear g0; try clear g1; have hx := nx; clear nx; have hs := ns; clear ns; have g0 := n0; clear n0; have g1 := n1; clear n1))
  go_ret
  exact ⟨_, rfl, Or.inr (Or.inl ⟨Or.inl ka, rfl⟩), Ext.auK⟩

theorem arRoot_i (e f a mode : Int) (hap : patB e f a = true) (ka : kindV e f a = 3) (hsz : (a / pw (e + f)) = 0) (w : World) : Calls Tryz.prog 53 #[fmt e f, .int .i64 a, .int .i64 mode] w (ARout (RtD e f a mode) w) := by
  have hg := (pat_iff.1 hap).1
  have a0 := (pat_iff.1 hap).2.1
  have NA_ := Lib.hid (fun w => arNoK e f a false hap (by simp; omega) w)
  have SG := fun w => fmSign_any e f a hg a0 w
  rw [hsz] at SG
  have SG := Lib.hid SG
  have ZA_ := Lib.hid (fun w => arZeroK e f a false hap (by simp; omega) w)
  have IA_ := Lib.hid (fun w => arIsK e f a true hap (by simp; omega) w)
  go_enter Tryz.func53, Tryz.ntmps53
  go_wp2_with (first | (go_at_call 77; (with_reducible refine (NA_.out _).mono ?_); rintro rv w1 ⟨rfl, hb⟩; have ns : w.heap.size < w1.heap.size := hb.ltK; have n0 : w1.cell? ⟨w.heap.size, 0, none⟩ = some (.int .i64 e) := hb.cellK; have n1 : w1.cell? ⟨w.heap.size, 1, none⟩ = some (.int .i64 f) := hb.cellK; (first | (have nx := Ext.trans hx hb; clear hx) | (have nx := Ext.trans (hx.alloc _) hb; clear hx) | (have nx := Ext.trans hx.drew hb; clear hx) | have nx := hb); clear hb; try clear hs; try clear g0; try clear g1; have hx := nx; clear nx; have hs := ns; clear ns; have g0 := n0; clear n0; have g1 := n1; clear n1) | (go_at_call 85; (with_reducible refine (SG.out _).mono ?_); rintro rv w1 ⟨rfl, hb⟩; have ns : w.heap.size < w1.heap.size := hb.ltK; have n0 : w1.cell? ⟨w.heap.size, 0, none⟩ = some (.int .i64 e) := hb.cellK; have n1 : w1.cell? ⟨w.heap.size, 1, none⟩ = some (.int .i64 f) := hb.cellK; (first | (have nx := Ext.trans hx hb; clear hx) | (have nx := Ext.trans (hx.alloc _) hb; clear hx) | (have nx := Ext.trans hx.drew hb; clear hx) | have nx := hb); clear hb; try clear hs; try clear g0; try clear g1; have hx := nx; clear nx; have hs := ns; clear ns; have g0 := n0; clear n0; have g1 := n1; clear n1) | (go_at_call 79; (with_reducible refine (ZA_.out _).mono ?_); rintro rv w1 ⟨rfl, hb⟩; have ns : w.heap.size < w1.heap.size := hb.ltK; have n0 : w1.cell? ⟨w.heap.size, 0, none⟩ = some (.int .i64 e) := hb.cellK; have n1 : w1.cell? ⟨w.heap.size, 1, none⟩ = some (.int .i64 f) := hb.cellK; (first | (have nx := Ext.trans hx hb; clear hx) | (have nx := Ext.trans (hx.alloc _) hb; clear hx) | (have nx := Ext.trans hx.drew hb; clear hx) | have nx := hb); clear hb; try clear hs; try clear g0; try clear g1; have hx := nx; clear nx; have hs := ns; clear ns; have g0 := n0; clear n0; have g1 := n1; clear n1) | (go_at_call 78; (with_reducible refine (IA_.out _).mono ?_); rintro rv w1 ⟨rfl, hb⟩; have ns : w.heap.size < w1.heap.size := hb.ltK; have n0 : w1.cell? ⟨w.heap.size, 0, none⟩ = some (.int .i64 e) := hb.cellK; have n1 : w1.cell? ⟨w.heap.size, 1, none⟩ = some (.int .i64 f) := hb.cellK; (first | (have nx := Ext.trans hx hb; clear hx) | (have nx := Ext.trans (hx.alloc _) hb; clear hx) | (have nx := Ext.trans hx.drew hb; clear hx) | have nx := hb); clear hb; try clear hs; try clear g0; try clear g1; have hx := nx; clear nx; have hs := ns; clear ns; have g0 := n0; clear n0; have g1 := n1; clear n1))
  go_ret
  exact ⟨_, rfl, Or.inr (Or.inl ⟨Or.inr ⟨ka, hsz⟩, rfl⟩), Ext.auK⟩

set_option maxHeartbeats 6400000 in
theorem arRoot_core (e f a mode N X V : Int) (D : Int → Prop) (hg : goodB e f = true) (m0 : 0 ≤ mode) (m1 : mode ≤ 5) (hN0 : 1 ≤ N) (hN1 : N < 2048) (s0 : 0 ≤ X - 2 * V) (s1 : X - 2 * V ≤ 66) (v0 : -24 ≤ V) (v1 : V ≤ -1) (x0 : -24 ≤ X) (x1 : X ≤ 41)
    (NA_ : Hid (∀ w, Calls Tryz.prog 77 #[fmt e f, .int .i64 a] w fun rv w' => rv = .returned (.bool false) ∧ Ext w w')) (SG : Hid (∀ w, Calls Tryz.prog 85 #[fmt e f, .int .i64 a] w fun rv w' => rv = .returned (.int .i64 0) ∧ Ext w w')) (ZA_ : Hid (∀ w, Calls Tryz.prog 79 #[fmt e f, .int .i64 a] w fun rv w' => rv = .returned (.bool false) ∧ Ext w w')) (IA_ : Hid (∀ w, Calls Tryz.prog 78 #[fmt e f, .int .i64 a] w fun rv w' => rv = .returned (.bool false) ∧ Ext w w'))
    (RV : Hid (∀ w, Calls Tryz.prog 99 #[fmt e f, .int .i64 a] w fun rv w' => rv = .returned (two N X) ∧ Ext w w')) (RU : Hid (∀ w, Calls Tryz.prog 87 #[fmt e f] w fun rv w' => rv = .returned (.int .i64 V) ∧ Ext w w'))
    (RES : Hid (∀ m v o r, SqI m v → (o = 0 ∨ (0 < o ∧ 16777216 ≤ m)) → 0 ≤ o → (∃ sh, 0 ≤ sh ∧ m = N * pw sh ∧ sh + 2 * o = X - 2 * V) → IsRnd f (grV e f) ((v * pw o) * 4 + rsV m v o) 4 mode false r → D r)) (w : World) : Calls Tryz.prog 53 #[fmt e f, .int .i64 a, .int .i64 mode] w (ARout D w) := by
  have k1 : IntKind.i64.wrap (2 * V) = 2 * V := IntWalk.i64_in _ (by omega)
  have k2 : IntKind.i64.wrap (X - 2 * V) = X - 2 * V := IntWalk.i64_in _ (by omega)
  have pn := pl_nn N
  have pl := pl_le N 11 (by decide) (by decide) (by rw [show pw 11 = 2048 from rfl]; omega)
  have pb : N < pw (plV N) := by have := (pl_bd N (by omega) (by omega) (by omega)).2.2; omega
  go_enter Tryz.func53, Tryz.ntmps53
  go_wp2_with (first | (go_at_call 77; (with_reducible refine (NA_.out _).mono ?_); rintro rv w1 ⟨rfl, hb⟩; have ns : w.heap.size < w1.heap.size := hb.ltK; have n0 : w1.cell? ⟨w.heap.size, 0, none⟩ = some (.int .i64 e) := hb.cellK; have n1 : w1.cell? ⟨w.heap.size, 1, none⟩ = some (.int .i64 f) := hb.cellK; (first | (have nx := Ext.trans hx hb; clear hx) | (have nx := Ext.trans (hx.alloc _) hb; clear hx) | (have nx := Ext.trans hx.drew hb; clear hx) | have nx := hb); clear hb; try clear hs; try clear g0; try clear g1; have hx := nx; clear nx; have hs := ns; clear ns; have g0 := n0; clear n0; have g1 := n1; clear n1) | (go_at_call 85; (with_reducible refine (SG.out _).mono ?_); rintro rv w1 ⟨rfl, hb⟩; have ns : w.heap.size < w1.heap.size := hb.ltK; have n0 : w1.cell? ⟨w.heap.size, 0, none⟩ = some (.int .i64 e) := hb.cellK; have n1 : w1.cell? ⟨w.heap.size, 1, none⟩ = some (.int .i64 f) := hb.cellK; (first | (have nx := Ext.trans hx hb; clear hx) | (have nx := Ext.trans (hx.alloc _) hb; clear hx) | (have nx := Ext.trans hx.drew hb; clear hx) | have nx := hb); clear hb; try clear hs; try clear g0; try clear g1; have hx := nx; clear nx; have hs := ns; clear ns; have g0 := n0; clear n0; have g1 := n1; clear n1) | (go_at_call 79; (with_reducible refine (ZA_.out _).mono ?_); rintro rv w1 ⟨rfl, hb⟩; have ns : w.heap.size < w1.heap.size := hb.ltK; have n0 : w1.cell? ⟨w.heap.size, 0, none⟩ = some (.int .i64 e) := hb.cellK; have n1 : w1.cell? ⟨w.heap.size, 1, none⟩ = some (.int .i64 f) := hb.cellK; (first | (have nx := Ext.trans hx hb; clear hx) | (have nx := Ext.trans (hx.alloc _) hb; clear hx) | (have nx := Ext.trans hx.drew hb; clear hx) | have nx := hb); clear hb; try clear hs; try clear g0; try clear g1; have hx := nx; clear nx; have hs := ns; clear ns; have g0 := n0; clear n0; have g1 := n1; clear n1) | (go_at_call 78; (with_reducible refine (IA_.out _).mono ?_); rintro rv w1 ⟨rfl, hb⟩; have ns : w.heap.size < w1.heap.size := hb.ltK; have n0 : w1.cell? ⟨w.heap.size, 0, none⟩ = some (.int .i64 e) := hb.cellK; have n1 : w1.cell? ⟨w.heap.size, 1, none⟩ = some (.int .i64 f) := hb.cellK; (first | (have nx := Ext.trans hx hb; clear hx) | (have nx := Ext.trans (hx.alloc _) hb; clear hx) | (have nx := Ext.trans hx.drew hb; clear hx) | have nx := hb); clear hb; try clear hs; try clear g0; try clear g1; have hx := nx; clear nx; have hs := ns; clear ns; have g0 := n0; clear n0; have g1 := n1; clear n1) | (go_at_call 99; (with_reducible refine (RV.out _).mono ?_); rintro rv wv ⟨rfl, hb⟩; have hv : w.heap.size < wv.heap.size := hb.ltK; have ns : w.heap.size < wv.heap.size := hb.ltK; have n0 : wv.cell? ⟨w.heap.size, 0, none⟩ = some (.int .i64 e) := hb.cellK; have n1 : wv.cell? ⟨w.heap.size, 1, none⟩ = some (.int .i64 f) := hb.cellK; (first | (have nx := Ext.trans hx hb; clear hx) | (have nx := Ext.trans (hx.alloc _) hb; clear hx) | (have nx := Ext.trans hx.drew hb; clear hx) | have nx := hb); clear hb; try clear hs; try clear g0; try clear g1; have hx := nx; clear nx; have hs := ns; clear ns; have g0 := n0; clear n0; have g1 := n1; clear n1))
  go_region_held3 (fun w' => w'.cell? ⟨w.heap.size, 0, none⟩ = some (.int .i64 e) ∧ w'.cell? ⟨w.heap.size, 1, none⟩ = some (.int .i64 f) ∧ w'.cell? ⟨wv.heap.size, 0, none⟩ = some (.int .i64 N) ∧ w'.cell? ⟨wv.heap.size, 1, none⟩ = some (.int .i64 X) ∧ wv.heap.size < w'.heap.size) ((refine ⟨?_, ?_, ?_, ?_, ?_⟩ <;> first | with_reducible assumption | ((repeat first | rw [cell_set_far _ _ _ _ _ _ (by omega)] | rw [cell_alloc_before _ _ _ _ (by omega)] | rw [cell_alloc_drew _ _ _ _ (by omega)] | rw [cell_drew]); with_reducible assumption) | ((rw [cell_setRow_far _ _ _ _ _ (by omega)]); with_reducible assumption) | ((rw [setRow_size]); with_reducible assumption) | (simp; done) | (simp [World.setCell]; first | done | omega) | (simp [go_sem, World.cell?_alloc_past, World.cell?_setCell_far, *]; done))) ((first | (go_at_call 87; (with_reducible refine (RU.out _).mono ?_); rintro rv w3 ⟨rfl, hb⟩; have ns : wv.heap.size < w3.heap.size := hb.ltK; have n0 : w3.cell? ⟨w.heap.size, 0, none⟩ = some (.int .i64 e) := hb.cellK; have n1 : w3.cell? ⟨w.heap.size, 1, none⟩ = some (.int .i64 f) := hb.cellK; have n2 : w3.cell? ⟨wv.heap.size, 0, none⟩ = some (.int .i64 N) := hb.cellK; have n3 : w3.cell? ⟨wv.heap.size, 1, none⟩ = some (.int .i64 X) := hb.cellK; (first | (have nx := Ext.trans hx hb; clear hx) | (have nx := Ext.trans (hx.alloc _) hb; clear hx) | (have nx := Ext.trans hx.drew hb; clear hx) | have nx := hb); clear hb; try clear hs; try clear g0; try clear g1; try clear g2; try clear g3; have hx := nx; clear nx; have hs := ns; clear ns; have g0 := n0; clear n0; have g1 := n1; clear n1; have g2 := n2; clear n2; have g3 := n3; clear n3)))
  go_wp2_with go_in
  go_loopw [9, 10] (fun s9 s10 wr => ∃ o : Int, s9 = .int .i64 (X - 2 * V - 2 * o) ∧ s10 = .int .i64 o ∧ 0 ≤ o ∧ o ≤ 9 ∧ (o = 0 ∨ 58 ≤ plV N + (X - 2 * V - 2 * o)) ∧ wr.cell? ⟨w.heap.size, 0, none⟩ = some (.int .i64 e) ∧ wr.cell? ⟨w.heap.size, 1, none⟩ = some (.int .i64 f) ∧ w.heap.size < wr.heap.size ∧ Ext w wr) (fun x _ _ => (intOf x).toNat)
  case atStart => exact ⟨0, by simp, rfl, by omega, by omega, Or.inl rfl, by with_reducible assumption, by with_reducible assumption, by first | omega | (simp; omega), Ext.auK⟩
  case round =>
    obtain ⟨o, rfl, rfl, o0, o1, o2, c0, c1, hsz, hxr⟩ := hrel
    try clear g0
    try clear g1
    have ks : IntKind.i64.wrap (plV N + (X - 2 * V - 2 * o)) = plV N + (X - 2 * V - 2 * o) := IntWalk.i64_in _ (by omega)
    by_cases hc : 59 < plV N + (X - 2 * V - 2 * o)
    · have kd : IntKind.i64.wrap ((X - 2 * V - 2 * o) - 2) = (X - 2 * V - 2 * o) - 2 := IntWalk.i64_in _ (by omega)
      have ko : IntKind.i64.wrap (o + 1) = o + 1 := IntWalk.i64_in _ (by omega)
      go_wp2_with (go_at_call 100; refine (rdBits_any N (by omega) (by omega) _).mono ?_; rintro rv w1 ⟨rfl, rfl⟩)
      go_roundw
      all_goals first | (simp [intOf]; done) | (simp [intOf]; omega) | exact ⟨o + 1, by simp; omega, rfl, by omega, by omega, Or.inr (by omega), c0, c1, by omega, hxr⟩
    · obtain ⟨sh, hsh⟩ : ∃ sh, (X - 2 * V - 2 * o) = sh := ⟨_, rfl⟩
      have sh0 : 0 ≤ sh := by omega
      have sh1 : sh ≤ 59 := by omega
      have shp : 58 ≤ plV N + sh ∨ o = 0 := by omega
      have she : sh + 2 * o = X - 2 * V := by omega
      rw [hsh] at ks hc
      simp only [hsh]
      have p1 := pw_pos sh
      have q1 : N * pw sh < 576460752303423488 := by
        have a := Int.mul_lt_mul_of_pos_right pb (show 0 < pw sh by omega)
        rw [← pw_add _ _ pn sh0] at a
        have b := pw_le (a := plV N + sh) 59 576460752303423488 rfl (by omega)
        omega
      have q0 : 0 ≤ N * pw sh := Int.mul_nonneg (by omega) (by omega)
      have q2 : o = 0 ∨ (0 < o ∧ 16777216 ≤ N * pw sh) := by
        rcases shp with h | h
        · by_cases ho : o = 0
          · exact Or.inl ho
          · refine Or.inr ⟨by omega, ?_⟩
            have a : pw 47 ≤ pw sh := pw_mono (by omega)
            have b := Int.mul_le_mul hN0 a (by have := pw_pos 47; omega) (by omega)
            rw [show pw 47 = 140737488355328 from rfl] at b
            omega
        · exact Or.inl h
      obtain ⟨v, hv⟩ := sqi_ex q0
      have vb : v < 759250125 := by
        have vb1 := hv.2.1
        exact sqi_lt (by omega) (by omega)
      have vn := hv.1
      have AFC := Lib.hid (fun w => arFloor_any (N * pw sh) v q0 (by omega) hv w)
      have po := pw_pos o
      have po2 : pw o ≤ 512 := pw_le 9 512 rfl (by omega)
      have w1 : IntKind.i64.wrap (N * pw sh) = N * pw sh := IntWalk.i64_in _ (by omega)
      have r0 : 0 ≤ v * pw o := Int.mul_nonneg vn (by omega)
      have r1 : v * pw o ≤ 759250124 * 512 := Int.mul_le_mul (by omega) po2 (by omega) (by omega)
      have w2 : IntKind.i64.wrap (v * pw o) = v * pw o := IntWalk.i64_in _ (by omega)
      have vv : 0 ≤ v * v := Int.mul_nonneg vn vn
      have vv1 := hv.2.1
      have w3 : IntKind.i64.wrap (v * v) = v * v := IntWalk.i64_in _ (by omega)
      have w4 : IntKind.i64.wrap (N * pw sh - v * v) = N * pw sh - v * v := IntWalk.i64_in _ (by omega)
      have BLD : ∀ a b c : Int, ∀ w, (Instr.build 92 #[(0, .int .i64 a), (1, .int .i64 b), (2, .int .i64 c)]).run Tryz.prog w = .ok (.agg #[.int .i64 (a), .int .i64 (b), .int .i64 (c)]) w := fun a b c w => run_build w _ _ _ (by kernel_rfl)
      have FIN : Hid (∀ r, IsRnd f (grV e f) ((v * pw o) * 4 + rsV (N * pw sh) v o) 4 mode false r → D r) := Lib.hid (fun r h => RES.out _ v o r hv q2 o0 ⟨sh, sh0, rfl, she⟩ h)
      clear RES hv q2 she shp pb hsh
      have tri : (N * pw sh = v * v ∧ rsV (N * pw sh) v o = 0) ∨ (v < N * pw sh - v * v ∧ o = 0 ∧ rsV (N * pw sh) v o = 3) ∨ (0 < N * pw sh - v * v ∧ ¬ (v < N * pw sh - v * v ∧ o = 0) ∧ rsV (N * pw sh) v o = 1) := by
        unfold rsV
        by_cases h1 : N * pw sh = v * v
        · exact Or.inl ⟨h1, by rw [if_pos h1]⟩
        · rw [if_neg h1]
          by_cases h2 : v < N * pw sh - v * v ∧ o = 0
          · rw [if_pos h2]; exact Or.inr (Or.inl ⟨h2.1, h2.2, rfl⟩)
          · rw [if_neg h2]; exact Or.inr (Or.inr ⟨by omega, h2, rfl⟩)
      generalize hm : N * pw sh = m at *
      obtain ⟨ov, hov⟩ : ∃ ov, m - v * v = ov := ⟨_, rfl⟩
      rw [hov] at tri w4
      have ovn : 0 ≤ ov := by omega
      rcases tri with ⟨t1, t2⟩ | ⟨t1, t3, t2⟩ | ⟨t1, t3, t2⟩
      · rw [t2] at FIN
        have t4 : ov = 0 := by omega
        have t5 : ¬ v < ov := by omega
        clear t1 t2
        go_wp2_with (first | (go_at_call 100; refine (rdBits_any N (by omega) (by omega) _).mono ?_; rintro rv w1 ⟨rfl, rfl⟩) | (go_at_call 101; refine (rdPower_any _ (by omega) (by omega) _).mono ?_; rintro rv w1 ⟨rfl, rfl⟩) | (go_at_call 102; refine (AFC.out _).mono ?_; rintro rv w1 ⟨rfl, rfl⟩) | (go_at_call 103; refine (rdSize_any e f (v * pw o) 0 4 mode false hg (by omega) (by omega) (by omega) (by omega) (by omega) m0 m1 _).mono ?_; rintro rv w3 ⟨s, rfl, hq, hb⟩; have HQ := Lib.hid hq; clear hq; have ns : w.heap.size < w3.heap.size := hb.ltK; have n0 : w3.cell? ⟨w.heap.size, 0, none⟩ = some (.int .i64 e) := hb.cellK; have n1 : w3.cell? ⟨w.heap.size, 1, none⟩ = some (.int .i64 f) := hb.cellK; (first | (have nx := Ext.trans hx hb; clear hx) | (have nx := Ext.trans (hx.alloc _) hb; clear hx) | (have nx := Ext.trans hx.drew hb; clear hx) | have nx := hb); clear hb; try clear hs; try clear g0; try clear g1; have hx := nx; clear nx; have hs := ns; clear ns; have g0 := n0; clear n0; have g1 := n1; clear n1))
        go_ret
        exact ⟨_, rfl, FIN.out _ HQ.out, Ext.auK⟩
      · rw [t2] at FIN
        subst t3
        clear t2
        go_wp2_with (first | (go_at_call 100; refine (rdBits_any N (by omega) (by omega) _).mono ?_; rintro rv w1 ⟨rfl, rfl⟩) | (go_at_call 101; refine (rdPower_any _ (by omega) (by omega) _).mono ?_; rintro rv w1 ⟨rfl, rfl⟩) | (go_at_call 102; refine (AFC.out _).mono ?_; rintro rv w1 ⟨rfl, rfl⟩) | (go_at_call 103; refine (rdSize_any e f (v * pw 0) 3 4 mode false hg (by omega) (by omega) (by omega) (by omega) (by omega) m0 m1 _).mono ?_; rintro rv w3 ⟨s, rfl, hq, hb⟩; have HQ := Lib.hid hq; clear hq; have ns : w.heap.size < w3.heap.size := hb.ltK; have n0 : w3.cell? ⟨w.heap.size, 0, none⟩ = some (.int .i64 e) := hb.cellK; have n1 : w3.cell? ⟨w.heap.size, 1, none⟩ = some (.int .i64 f) := hb.cellK; (first | (have nx := Ext.trans hx hb; clear hx) | (have nx := Ext.trans (hx.alloc _) hb; clear hx) | (have nx := Ext.trans hx.drew hb; clear hx) | have nx := hb); clear hb; try clear hs; try clear g0; try clear g1; have hx := nx; clear nx; have hs := ns; clear ns; have g0 := n0; clear n0; have g1 := n1; clear n1))
        go_ret
        exact ⟨_, rfl, FIN.out _ HQ.out, Ext.auK⟩
      · rw [t2] at FIN
        by_cases t5 : v < ov
        · have t6 : ¬ o = 0 := fun h => t3 ⟨t5, h⟩
          go_wp2_with (first | (go_at_call 100; refine (rdBits_any N (by omega) (by omega) _).mono ?_; rintro rv w1 ⟨rfl, rfl⟩) | (go_at_call 101; refine (rdPower_any _ (by omega) (by omega) _).mono ?_; rintro rv w1 ⟨rfl, rfl⟩) | (go_at_call 102; refine (AFC.out _).mono ?_; rintro rv w1 ⟨rfl, rfl⟩) | (go_at_call 103; refine (rdSize_any e f (v * pw o) 1 4 mode false hg (by omega) (by omega) (by omega) (by omega) (by omega) m0 m1 _).mono ?_; rintro rv w3 ⟨s, rfl, hq, hb⟩; have HQ := Lib.hid hq; clear hq; have ns : w.heap.size < w3.heap.size := hb.ltK; have n0 : w3.cell? ⟨w.heap.size, 0, none⟩ = some (.int .i64 e) := hb.cellK; have n1 : w3.cell? ⟨w.heap.size, 1, none⟩ = some (.int .i64 f) := hb.cellK; (first | (have nx := Ext.trans hx hb; clear hx) | (have nx := Ext.trans (hx.alloc _) hb; clear hx) | (have nx := Ext.trans hx.drew hb; clear hx) | have nx := hb); clear hb; try clear hs; try clear g0; try clear g1; have hx := nx; clear nx; have hs := ns; clear ns; have g0 := n0; clear n0; have g1 := n1; clear n1))
          go_ret
          exact ⟨_, rfl, FIN.out _ HQ.out, Ext.auK⟩
        · skip
          go_wp2_with (first | (go_at_call 100; refine (rdBits_any N (by omega) (by omega) _).mono ?_; rintro rv w1 ⟨rfl, rfl⟩) | (go_at_call 101; refine (rdPower_any _ (by omega) (by omega) _).mono ?_; rintro rv w1 ⟨rfl, rfl⟩) | (go_at_call 102; refine (AFC.out _).mono ?_; rintro rv w1 ⟨rfl, rfl⟩) | (go_at_call 103; refine (rdSize_any e f (v * pw o) 1 4 mode false hg (by omega) (by omega) (by omega) (by omega) (by omega) m0 m1 _).mono ?_; rintro rv w3 ⟨s, rfl, hq, hb⟩; have HQ := Lib.hid hq; clear hq; have ns : w.heap.size < w3.heap.size := hb.ltK; have n0 : w3.cell? ⟨w.heap.size, 0, none⟩ = some (.int .i64 e) := hb.cellK; have n1 : w3.cell? ⟨w.heap.size, 1, none⟩ = some (.int .i64 f) := hb.cellK; (first | (have nx := Ext.trans hx hb; clear hx) | (have nx := Ext.trans (hx.alloc _) hb; clear hx) | (have nx := Ext.trans hx.drew hb; clear hx) | have nx := hb); clear hb; try clear hs; try clear g0; try clear g1; have hx := nx; clear nx; have hs := ns; clear ns; have g0 := n0; clear n0; have g1 := n1; clear n1))
          go_ret
          exact ⟨_, rfl, FIN.out _ HQ.out, Ext.auK⟩

theorem arRoot_f (e f a mode : Int) (hap : patB e f a = true) (m0 : 0 ≤ mode) (m1 : mode ≤ 5) (ka : kindV e f a = 1 ∨ kindV e f a = 2) (hsz : (a / pw (e + f)) = 0) (w : World) : Calls Tryz.prog 53 #[fmt e f, .int .i64 a, .int .i64 mode] w (ARout (RtD e f a mode) w) := by
  have hg := (pat_iff.1 hap).1
  have a0 := (pat_iff.1 hap).2.1
  have fa : finB e f a = true := by rcases kind_parts hap with ⟨k, _⟩ | ⟨k, _⟩ | ⟨_, q, _⟩ | ⟨_, q, _⟩ <;> first | exact q | omega
  have na : (unitsV e f a) ≠ 0 := (kind_units hap).2.1 ka
  obtain ⟨b1, b2, b3, b4, b5, b6⟩ := na_bd hap na
  have ub := units_bd e f a hap
  have us := units_sign hap na
  have on : odV (unitsV e f a) = ((odV (unitsV e f a)).natAbs : Int) := by
    have q := od_sign (S := (unitsV e f a)) (by omega) (by omega)
    rw [hsz] at us
    have : ¬ odV (unitsV e f a) < 0 := fun h => by have := q.1.1 h; omega
    omega
  have NA_ := Lib.hid (fun w => arNoK e f a false hap (by simp; omega) w)
  have SG := fun w => fmSign_any e f a hg a0 w
  rw [hsz] at SG
  have SG := Lib.hid SG
  have ZA_ := Lib.hid (fun w => arZeroK e f a false hap (by simp; omega) w)
  have IA_ := Lib.hid (fun w => arIsK e f a false hap (by simp; omega) w)
  have e0 := Int.emod_nonneg (shE (unitsV e f a) (unV e f)) (show (2 : Int) ≠ 0 by decide)
  have e1 := Int.emod_lt_of_pos (shE (unitsV e f a) (unV e f)) (show (0 : Int) < 2 by decide)
  have hq : ∃ k, ((shE (unitsV e f a) (unV e f)) - (28 + (shE (unitsV e f a) (unV e f)) % 2)) / 2 - 1 - (unV e f) = k ∧ -149 ≤ k ∧ (shE (unitsV e f a) (unV e f)) - (28 + (shE (unitsV e f a) (unV e f)) % 2) = 2 * (k + 1 + (unV e f)) := ⟨_, rfl, by omega, by omega⟩
  have rvc := fun w => rdValue_any e f a fa w
  rw [on] at rvc
  refine arRoot_core e f a mode ((odV (unitsV e f a)).natAbs : Int) (shE (unitsV e f a) (unV e f)) (unV e f) (RtD e f a mode) hg m0 m1 b1 b2 (by omega) (by omega) b5 b6 (by omega) (by omega) NA_ SG ZA_ IA_ (Lib.hid rvc) (Lib.hid (fun w => rdUnit_any e f hg w)) (Lib.hid ?_) w
  intro m v o r hm ho ho0 hsh hr
  obtain ⟨sh, s0, rfl, s1⟩ := hsh
  obtain ⟨k, hk, hk2, hk3⟩ := hq
  have p1 : 268435456 ≤ pw (28 + (shE (unitsV e f a) (unV e f)) % 2) := pw_ge 28 268435456 rfl (by omega)
  have n1 : 268435456 ≤ (((odV (unitsV e f a)).natAbs : Int) * pw (28 + (shE (unitsV e f a) (unV e f)) % 2)) := by
    have := Int.mul_le_mul b1 p1 (by omega) (by omega)
    omega
  obtain ⟨q, hq⟩ := sqi_ex (n := (((odV (unitsV e f a)).natAbs : Int) * pw (28 + (shE (unitsV e f a) (unV e f)) % 2))) (by omega)
  refine Or.inr (Or.inr ⟨ka, hsz, q, hq, ?_⟩)
  rw [hk]
  exact rnd_root hg hq n1 hk2 hm ho (root_exps (by omega) hk3 (by omega) ho0 s0 s1) hr

theorem arRoot_any (e f a mode : Int) (hap : patB e f a = true) (m0 : 0 ≤ mode) (m1 : mode ≤ 5) (w : World) : Calls Tryz.prog 53 #[fmt e f, .int .i64 a, .int .i64 mode] w (ARout (RtD e f a mode) w) := by
  rcases kind_parts hap with ⟨ka, _⟩ | ⟨ka, _⟩ | ⟨ka, _⟩ | ⟨ka, _⟩
  · exact arRoot_x e f a mode hap ka w
  · rcases sign_01 hap with hsz | hsz
    · exact arRoot_i e f a mode hap ka hsz w
    · exact arRoot_m e f a mode hap (by omega) (by omega) hsz w
  · rcases sign_01 hap with hsz | hsz
    · exact arRoot_z0 e f a mode hap ka hsz w
    · exact arRoot_z1 e f a mode hap ka hsz w
  · rcases sign_01 hap with hsz | hsz
    · exact arRoot_f e f a mode hap m0 m1 ka hsz w
    · exact arRoot_m e f a mode hap (by omega) (by omega) hsz w
end Go.Proofs.YtfgbndjhaiigbaaGreatDoor

