/-
  Contracts of the functions that the laws reach, and the plain facts that they rest on, each under the conditions that its line names; part 31.
-/
import Derived.Test.YtfgbndjhaiigbaaGreatDoorKfu1
import Derived.Test.YtfgbndjhaiigbaaGreatDoorKfu2
import Derived.Test.YtfgbndjhaiigbaaGreatDoorKfu3
import Derived.Test.YtfgbndjhaiigbaaGreatDoorKfu4
import Derived.Test.YtfgbndjhaiigbaaGreatDoorKfu5
import Derived.Test.YtfgbndjhaiigbaaGreatDoorKfu6
import Derived.Test.YtfgbndjhaiigbaaGreatDoorKfu7
import Derived.Test.YtfgbndjhaiigbaaGreatDoorKfu8
import Derived.Test.YtfgbndjhaiigbaaGreatDoorKfu9
import Derived.Test.YtfgbndjhaiigbaaGreatDoorKfu10
import Derived.Test.YtfgbndjhaiigbaaGreatDoorKfu11
import Derived.Test.YtfgbndjhaiigbaaGreatDoorKfu12
import Derived.Test.YtfgbndjhaiigbaaGreatDoorKfu13
import Derived.Test.YtfgbndjhaiigbaaGreatDoorKfu14
import Derived.Test.YtfgbndjhaiigbaaGreatDoorKfu15
import Derived.Test.YtfgbndjhaiigbaaGreatDoorKfu16
import Derived.Test.YtfgbndjhaiigbaaGreatDoorKfu17
import Derived.Test.YtfgbndjhaiigbaaGreatDoorKfu18
import Derived.Test.YtfgbndjhaiigbaaGreatDoorKfu19
import Derived.Test.YtfgbndjhaiigbaaGreatDoorKfu20
import Derived.Test.YtfgbndjhaiigbaaGreatDoorKfu21
import Derived.Test.YtfgbndjhaiigbaaGreatDoorKfu22
import Derived.Test.YtfgbndjhaiigbaaGreatDoorKfu23
import Derived.Test.YtfgbndjhaiigbaaGreatDoorKfu24
import Derived.Test.YtfgbndjhaiigbaaGreatDoorKfu25
import Derived.Test.YtfgbndjhaiigbaaGreatDoorKfu26
import Derived.Test.YtfgbndjhaiigbaaGreatDoorKfu27
import Derived.Test.YtfgbndjhaiigbaaGreatDoorKfu28
import Derived.Test.YtfgbndjhaiigbaaGreatDoorKfu29
import Derived.Test.YtfgbndjhaiigbaaGreatDoorKfu30
import Derived.Test.YtfgbndjhaiigbaaGreatDoorRows
import Derived.WalkKit
import Derived.Handy
import Derived.LoopTactic
import Derived.LoopN
import Derived.Laws.OwnMore
import Derived.OwnWalk
import Derived.Deep.AppendLies
import Derived.Laws.Bits64b
import Derived.WalkSpells
import Derived.WalkLawsBesides
import Derived.StillTactics
import Derived.Laws.Pointers
import Derived.Deep.RegionHeld3
import Derived.Deep.QuietTactic
import Derived.BigQuiet
import Derived.Outline
import Derived.Lib.Hide
import Derived.RowKit3
import Derived.Carry
import Derived.IntWalk
import Derived.Laws.EntriesVeiled
namespace Go.Proofs.YtfgbndjhaiigbaaGreatDoor
open Go Go.RowKit
set_option linter.unusedSimpArgs false
set_option linter.unusedVariables false
set_option maxRecDepth 100000

theorem qu_val {e f p : Int} (hp : patB e f p = true) : ((odV (unitsV e f p)).natAbs : Int) * pw (shE (unitsV e f p) (unV e f) - (unV e f - 2)) = 4 * ((unitsV e f p).natAbs : Int) := by
  have ub := units_bd e f p hp
  by_cases h0 : unitsV e f p = 0
  · rw [h0, od_zero]; simp
  · obtain ⟨t0, t1, t2, t3⟩ := tz_spec (unitsV e f p) h0 (by omega) (by omega)
    rw [show shE (unitsV e f p) (unV e f) - (unV e f - 2) = tzV (unitsV e f p) + 2 by rw [show shE (unitsV e f p) (unV e f) = unV e f + tzV (unitsV e f p) from if_neg h0]; omega, pw_add _ _ t0 (by omega), ← Int.mul_assoc, show pw 2 = 4 from rfl]
    have : ((odV (unitsV e f p)).natAbs : Int) * pw (tzV (unitsV e f p)) = ((unitsV e f p).natAbs : Int) := by
      have q : (unitsV e f p).natAbs = (odV (unitsV e f p) * pw (tzV (unitsV e f p))).natAbs := by rw [← t2]
      rw [q, Int.natAbs_mul, Int.natCast_mul]
      have := pw_pos (tzV (unitsV e f p))
      first | (congr 1; done) | (congr 1; omega)
    omega

theorem quarters_op (e f p : Int) (hp : patB e f p = true) (w : World) : Calls Tryz.prog 149 #[.agg #[.int .i64 (p / pw (e + f)), .int .i64 ((odV (unitsV e f p)).natAbs : Int), .int .i64 (shE (unitsV e f p) (unV e f))], fmt e f] w fun rv w' => rv = .returned (.int .i64 (4 * unitsV e f p)) ∧ Ext w w' := by
  have hg := (pat_iff.1 hp).1
  have u := un_bd hg
  obtain ⟨s1, s2, s3, s4, s5⟩ := un_small hp
  have ub := units_bd e f p hp
  have q := qu_val hp
  have k0 : unV e f - 2 ≤ shE (unitsV e f p) (unV e f) := by by_cases h : unitsV e f p = 0; have := s5 h; omega; have := s4 h; omega
  have oe : oqV (4 * ((unitsV e f p).natAbs : Int)) 2 = 4 * ((unitsV e f p).natAbs : Int) := by
    rw [oq_pos (by decide) (by omega)]
    have : 4 * ((unitsV e f p).natAbs : Int) % 2 = 0 := by omega
    rw [if_pos this]
    omega
  have us : ((p / pw (e + f)) = 1 → unitsV e f p ≤ 0) ∧ ((p / pw (e + f)) = 0 → 0 ≤ unitsV e f p) := by
    have m := mag_bd e f p hp
    unfold unitsV
    constructor <;> intro h <;> rw [h] <;> simp <;> omega
  rcases sign_01 hp with h | h
  · rw [h]
    have := quarters_p0 e f ((odV (unitsV e f p)).natAbs : Int) (shE (unitsV e f p) (unV e f)) hg (by omega) k0 (by omega) (by rw [q]; omega) w
    rw [q, oe] at this
    have e2 := us.2 h
    rwa [show 4 * ((unitsV e f p).natAbs : Int) = 4 * unitsV e f p by omega] at this
  · rw [h]
    have := quarters_p1 e f ((odV (unitsV e f p)).natAbs : Int) (shE (unitsV e f p) (unV e f)) hg (by omega) k0 (by omega) (by rw [q]; omega) w
    rw [q, oe] at this
    have e2 := us.1 h
    rwa [show -(4 * ((unitsV e f p).natAbs : Int)) = 4 * unitsV e f p by omega] at this

/-- The sign of a sum that is 0. -/
def zsV (e f a b mode : Int) : Int := if (a / pw (e + f)) = (b / pw (e + f)) then (a / pw (e + f)) else if mode = 4 then 1 else 0
end Go.Proofs.YtfgbndjhaiigbaaGreatDoor

namespace Go.Proofs.YtfgbndjhaiigbaaGreatDoor
open Go Go.RowKit
set_option linter.unusedSimpArgs false
set_option linter.unusedVariables false
set_option maxRecDepth 100000

theorem arBoth_nl (p1 q1 p2 q2 : Int) (h1 : -4194304 ≤ p1) (h2 : p1 ≤ 4194304) (h3 : -4194304 ≤ p2) (h4 : p2 ≤ 4194304) (k1 : -100 ≤ q1) (k2 : q1 ≤ 200) (k3 : -100 ≤ q2) (k4 : q2 ≤ 200) (hsw : ¬ q1 < q2) (hlg : q1 - q2 ≤ 35) (w : World) : Calls Tryz.prog 125 #[.agg #[.int .i64 p1, .int .i64 q1], .agg #[.int .i64 p2, .int .i64 q2]] w fun rv w' => rv = .returned (.tuple #[.int .i64 (p1 * pw (q1 - q2) + p2), .int .i64 q2]) ∧ Ext w w' := by
  have w1 : IntKind.i64.wrap (q1 - q2) = q1 - q2 := IntWalk.i64_in _ (by omega)
  have b1 := pw_pos (q1 - q2)
  have b2 : pw (q1 - q2) ≤ 34359738368 := pw_le 35 34359738368 rfl (by omega)
  have PW := Lib.hid (fun w => rdPower_any (q1 - q2) (by omega) (by omega) w)
  have PB : -(4194304 * 34359738368) ≤ p1 * pw (q1 - q2) ∧ p1 * pw (q1 - q2) ≤ 4194304 * 34359738368 := by
    have h : (p1 * pw (q1 - q2)).natAbs ≤ 4194304 * 34359738368 := by
      rw [Int.natAbs_mul]
      exact Nat.mul_le_mul (by omega) (by omega)
    omega
  have w2 : IntKind.i64.wrap (p1 * pw (q1 - q2)) = p1 * pw (q1 - q2) := IntWalk.i64_in _ (by omega)
  have w3 : IntKind.i64.wrap (p1 * pw (q1 - q2) + p2) = p1 * pw (q1 - q2) + p2 := IntWalk.i64_in _ (by omega)
  clear b1 b2 PB
  go_enter Tryz.func125, Tryz.ntmps125
  go_wp2_with (first | (go_at_call 101; refine (PW.out _).mono ?_; rintro rv w1 ⟨rfl, rfl⟩))
  try (go_region; go_wp2_with (first | (go_at_call 101; refine (PW.out _).mono ?_; rintro rv w1 ⟨rfl, rfl⟩)))
  try (go_region_held3 (fun w' => w'.cell? ⟨w.heap.size, 0, none⟩ = some (.int .i64 p1) ∧ w'.cell? ⟨w.heap.size, 1, none⟩ = some (.int .i64 q1) ∧ w'.cell? ⟨w.heap.size + 1, 0, none⟩ = some (.int .i64 p2) ∧ w'.cell? ⟨w.heap.size + 1, 1, none⟩ = some (.int .i64 q2) ∧ w.heap.size + 1 < w'.heap.size) ((refine ⟨?_, ?_, ?_, ?_, ?_⟩ <;> first | with_reducible assumption | ((repeat first | rw [cell_set_far _ _ _ _ _ _ (by omega)] | rw [cell_alloc_before _ _ _ _ (by omega)] | rw [cell_alloc_drew _ _ _ _ (by omega)] | rw [cell_drew]); with_reducible assumption) | ((rw [cell_setRow_far _ _ _ _ _ (by omega)]); with_reducible assumption) | ((rw [setRow_size]); with_reducible assumption) | (simp; done) | (simp [World.setCell]; first | done | omega) | (simp [go_sem, World.cell?_alloc_past, World.cell?_setCell_far, *]; done))) ((first | (go_at_call 101; refine (PW.out _).mono ?_; rintro rv w1 ⟨rfl, rfl⟩))))
  try go_wp2_with (first | (go_at_call 101; refine (PW.out _).mono ?_; rintro rv w1 ⟨rfl, rfl⟩))
  go_ret2
  exact ⟨rfl, Ext.auK⟩

theorem arBoth_ng (p1 q1 p2 q2 : Int) (h1 : -4194304 ≤ p1) (h2 : p1 ≤ 4194304) (h3 : -4194304 ≤ p2) (h4 : p2 ≤ 4194304) (k1 : -100 ≤ q1) (k2 : q1 ≤ 200) (k3 : -100 ≤ q2) (k4 : q2 ≤ 200) (hsw : ¬ q1 < q2) (hlg : ¬ q1 - q2 ≤ 35) (w : World) : Calls Tryz.prog 125 #[.agg #[.int .i64 p1, .int .i64 q1], .agg #[.int .i64 p2, .int .i64 q2]] w fun rv w' => rv = .returned (.tuple #[.int .i64 (p1 * 1073741824 + sgV p2), .int .i64 (q1 - 30)]) ∧ Ext w w' := by
  have w1 : IntKind.i64.wrap (q1 - q2) = q1 - q2 := IntWalk.i64_in _ (by omega)
  have PW := Lib.hid (fun w => rdPower_any 30 (by omega) (by omega) w)
  have P30 : pw 30 = 1073741824 := rfl
  have sb := sg_bd p2
  have w2 : IntKind.i64.wrap (p1 * 1073741824) = p1 * 1073741824 := IntWalk.i64_in _ (by omega)
  have w3 : IntKind.i64.wrap (p1 * 1073741824 + sgV p2) = p1 * 1073741824 + sgV p2 := IntWalk.i64_in _ (by omega)
  have w4 : IntKind.i64.wrap (q1 - 30) = q1 - 30 := IntWalk.i64_in _ (by omega)
  have SG := Lib.hid (fun w => rdSignOf_any p2 w)
  rw [P30] at PW
  go_enter Tryz.func125, Tryz.ntmps125
  go_wp2_with (first | (go_at_call 101; refine (PW.out _).mono ?_; rintro rv w1 ⟨rfl, rfl⟩) | (go_at_call 144; refine (SG.out _).mono ?_; rintro rv w1 ⟨rfl, rfl⟩))
  try (go_region; go_wp2_with (first | (go_at_call 101; refine (PW.out _).mono ?_; rintro rv w1 ⟨rfl, rfl⟩) | (go_at_call 144; refine (SG.out _).mono ?_; rintro rv w1 ⟨rfl, rfl⟩)))
  try (go_region_held3 (fun w' => w'.cell? ⟨w.heap.size, 0, none⟩ = some (.int .i64 p1) ∧ w'.cell? ⟨w.heap.size, 1, none⟩ = some (.int .i64 q1) ∧ w'.cell? ⟨w.heap.size + 1, 0, none⟩ = some (.int .i64 p2) ∧ w'.cell? ⟨w.heap.size + 1, 1, none⟩ = some (.int .i64 q2) ∧ w.heap.size + 1 < w'.heap.size) ((refine ⟨?_, ?_, ?_, ?_, ?_⟩ <;> first | with_reducible assumption | ((repeat first | rw [cell_set_far _ _ _ _ _ _ (by omega)] | rw [cell_alloc_before _ _ _ _ (by omega)] | rw [cell_alloc_drew _ _ _ _ (by omega)] | rw [cell_drew]); with_reducible assumption) | ((rw [cell_setRow_far _ _ _ _ _ (by omega)]); with_reducible assumption) | ((rw [setRow_size]); with_reducible assumption) | (simp; done) | (simp [World.setCell]; first | done | omega) | (simp [go_sem, World.cell?_alloc_past, World.cell?_setCell_far, *]; done))) ((first | (go_at_call 101; refine (PW.out _).mono ?_; rintro rv w1 ⟨rfl, rfl⟩) | (go_at_call 144; refine (SG.out _).mono ?_; rintro rv w1 ⟨rfl, rfl⟩))))
  try go_wp2_with (first | (go_at_call 101; refine (PW.out _).mono ?_; rintro rv w1 ⟨rfl, rfl⟩) | (go_at_call 144; refine (SG.out _).mono ?_; rintro rv w1 ⟨rfl, rfl⟩))
  go_ret2
  exact ⟨rfl, Ext.auK⟩

theorem arBoth_sl (p1 q1 p2 q2 : Int) (h1 : -4194304 ≤ p1) (h2 : p1 ≤ 4194304) (h3 : -4194304 ≤ p2) (h4 : p2 ≤ 4194304) (k1 : -100 ≤ q1) (k2 : q1 ≤ 200) (k3 : -100 ≤ q2) (k4 : q2 ≤ 200) (hsw : q1 < q2) (hlg : q2 - q1 ≤ 35) (w : World) : Calls Tryz.prog 125 #[.agg #[.int .i64 p1, .int .i64 q1], .agg #[.int .i64 p2, .int .i64 q2]] w fun rv w' => rv = .returned (.tuple #[.int .i64 (p2 * pw (q2 - q1) + p1), .int .i64 q1]) ∧ Ext w w' := by
  have w1 : IntKind.i64.wrap (q2 - q1) = q2 - q1 := IntWalk.i64_in _ (by omega)
  have b1 := pw_pos (q2 - q1)
  have b2 : pw (q2 - q1) ≤ 34359738368 := pw_le 35 34359738368 rfl (by omega)
  have PW := Lib.hid (fun w => rdPower_any (q2 - q1) (by omega) (by omega) w)
  have PB : -(4194304 * 34359738368) ≤ p2 * pw (q2 - q1) ∧ p2 * pw (q2 - q1) ≤ 4194304 * 34359738368 := by
    have h : (p2 * pw (q2 - q1)).natAbs ≤ 4194304 * 34359738368 := by
      rw [Int.natAbs_mul]
      exact Nat.mul_le_mul (by omega) (by omega)
    omega
  have w2 : IntKind.i64.wrap (p2 * pw (q2 - q1)) = p2 * pw (q2 - q1) := IntWalk.i64_in _ (by omega)
  have w3 : IntKind.i64.wrap (p2 * pw (q2 - q1) + p1) = p2 * pw (q2 - q1) + p1 := IntWalk.i64_in _ (by omega)
  clear b1 b2 PB
  go_enter Tryz.func125, Tryz.ntmps125
  go_wp2_with (first | (go_at_call 101; refine (PW.out _).mono ?_; rintro rv w1 ⟨rfl, rfl⟩))
  try (go_region; go_wp2_with (first | (go_at_call 101; refine (PW.out _).mono ?_; rintro rv w1 ⟨rfl, rfl⟩)))
  try (go_region_held3 (fun w' => w'.cell? ⟨w.heap.size, 0, none⟩ = some (.int .i64 p2) ∧ w'.cell? ⟨w.heap.size, 1, none⟩ = some (.int .i64 q2) ∧ w'.cell? ⟨w.heap.size + 1, 0, none⟩ = some (.int .i64 p1) ∧ w'.cell? ⟨w.heap.size + 1, 1, none⟩ = some (.int .i64 q1) ∧ w.heap.size + 1 < w'.heap.size) ((refine ⟨?_, ?_, ?_, ?_, ?_⟩ <;> first | with_reducible assumption | ((repeat first | rw [cell_set_far _ _ _ _ _ _ (by omega)] | rw [cell_alloc_before _ _ _ _ (by omega)] | rw [cell_alloc_drew _ _ _ _ (by omega)] | rw [cell_drew]); with_reducible assumption) | ((rw [cell_setRow_far _ _ _ _ _ (by omega)]); with_reducible assumption) | ((rw [setRow_size]); with_reducible assumption) | (simp; done) | (simp [World.setCell]; first | done | omega) | (simp [go_sem, World.cell?_alloc_past, World.cell?_setCell_far, *]; done))) ((first | (go_at_call 101; refine (PW.out _).mono ?_; rintro rv w1 ⟨rfl, rfl⟩))))
  try go_wp2_with (first | (go_at_call 101; refine (PW.out _).mono ?_; rintro rv w1 ⟨rfl, rfl⟩))
  go_ret2
  exact ⟨rfl, Ext.auK⟩

theorem arBoth_sg (p1 q1 p2 q2 : Int) (h1 : -4194304 ≤ p1) (h2 : p1 ≤ 4194304) (h3 : -4194304 ≤ p2) (h4 : p2 ≤ 4194304) (k1 : -100 ≤ q1) (k2 : q1 ≤ 200) (k3 : -100 ≤ q2) (k4 : q2 ≤ 200) (hsw : q1 < q2) (hlg : ¬ q2 - q1 ≤ 35) (w : World) : Calls Tryz.prog 125 #[.agg #[.int .i64 p1, .int .i64 q1], .agg #[.int .i64 p2, .int .i64 q2]] w fun rv w' => rv = .returned (.tuple #[.int .i64 (p2 * 1073741824 + sgV p1), .int .i64 (q2 - 30)]) ∧ Ext w w' := by
  have w1 : IntKind.i64.wrap (q2 - q1) = q2 - q1 := IntWalk.i64_in _ (by omega)
  have PW := Lib.hid (fun w => rdPower_any 30 (by omega) (by omega) w)
  have P30 : pw 30 = 1073741824 := rfl
  have sb := sg_bd p1
  have w2 : IntKind.i64.wrap (p2 * 1073741824) = p2 * 1073741824 := IntWalk.i64_in _ (by omega)
  have w3 : IntKind.i64.wrap (p2 * 1073741824 + sgV p1) = p2 * 1073741824 + sgV p1 := IntWalk.i64_in _ (by omega)
  have w4 : IntKind.i64.wrap (q2 - 30) = q2 - 30 := IntWalk.i64_in _ (by omega)
  have SG := Lib.hid (fun w => rdSignOf_any p1 w)
  rw [P30] at PW
  go_enter Tryz.func125, Tryz.ntmps125
  go_wp2_with (first | (go_at_call 101; refine (PW.out _).mono ?_; rintro rv w1 ⟨rfl, rfl⟩) | (go_at_call 144; refine (SG.out _).mono ?_; rintro rv w1 ⟨rfl, rfl⟩))
  try (go_region; go_wp2_with (first | (go_at_call 101; refine (PW.out _).mono ?_; rintro rv w1 ⟨rfl, rfl⟩) | (go_at_call 144; refine (SG.out _).mono ?_; rintro rv w1 ⟨rfl, rfl⟩)))
  try (go_region_held3 (fun w' => w'.cell? ⟨w.heap.size, 0, none⟩ = some (.int .i64 p2) ∧ w'.cell? ⟨w.heap.size, 1, none⟩ = some (.int .i64 q2) ∧ w'.cell? ⟨w.heap.size + 1, 0, none⟩ = some (.int .i64 p1) ∧ w'.cell? ⟨w.heap.size + 1, 1, none⟩ = some (.int .i64 q1) ∧ w.heap.size + 1 < w'.heap.size) ((refine ⟨?_, ?_, ?_, ?_, ?_⟩ <;> first | with_reducible assumption | ((repeat first | rw [cell_set_far _ _ _ _ _ _ (by omega)] | rw [cell_alloc_before _ _ _ _ (by omega)] | rw [cell_alloc_drew _ _ _ _ (by omega)] | rw [cell_drew]); with_reducible assumption) | ((rw [cell_setRow_far _ _ _ _ _ (by omega)]); with_reducible assumption) | ((rw [setRow_size]); with_reducible assumption) | (simp; done) | (simp [World.setCell]; first | done | omega) | (simp [go_sem, World.cell?_alloc_past, World.cell?_setCell_far, *]; done))) ((first | (go_at_call 101; refine (PW.out _).mono ?_; rintro rv w1 ⟨rfl, rfl⟩) | (go_at_call 144; refine (SG.out _).mono ?_; rintro rv w1 ⟨rfl, rfl⟩))))
  try go_wp2_with (first | (go_at_call 101; refine (PW.out _).mono ?_; rintro rv w1 ⟨rfl, rfl⟩) | (go_at_call 144; refine (SG.out _).mono ?_; rintro rv w1 ⟨rfl, rfl⟩))
  go_ret2
  exact ⟨rfl, Ext.auK⟩
end Go.Proofs.YtfgbndjhaiigbaaGreatDoor

