/-
  Contracts of the functions that the laws reach, and the plain facts that they rest on, each under the conditions that its line names; part 36.
-/
import Derived.Test.YtfgbndjhaiigbaaGreatDoorKri1
import Derived.Test.YtfgbndjhaiigbaaGreatDoorKri2
import Derived.Test.YtfgbndjhaiigbaaGreatDoorKri3
import Derived.Test.YtfgbndjhaiigbaaGreatDoorKri4
import Derived.Test.YtfgbndjhaiigbaaGreatDoorKri5
import Derived.Test.YtfgbndjhaiigbaaGreatDoorKri6
import Derived.Test.YtfgbndjhaiigbaaGreatDoorKri7
import Derived.Test.YtfgbndjhaiigbaaGreatDoorKri8
import Derived.Test.YtfgbndjhaiigbaaGreatDoorKri9
import Derived.Test.YtfgbndjhaiigbaaGreatDoorKri10
import Derived.Test.YtfgbndjhaiigbaaGreatDoorKri11
import Derived.Test.YtfgbndjhaiigbaaGreatDoorKri12
import Derived.Test.YtfgbndjhaiigbaaGreatDoorKri13
import Derived.Test.YtfgbndjhaiigbaaGreatDoorKri14
import Derived.Test.YtfgbndjhaiigbaaGreatDoorKri15
import Derived.Test.YtfgbndjhaiigbaaGreatDoorKri16
import Derived.Test.YtfgbndjhaiigbaaGreatDoorKri17
import Derived.Test.YtfgbndjhaiigbaaGreatDoorKri18
import Derived.Test.YtfgbndjhaiigbaaGreatDoorKri19
import Derived.Test.YtfgbndjhaiigbaaGreatDoorKri20
import Derived.Test.YtfgbndjhaiigbaaGreatDoorKri21
import Derived.Test.YtfgbndjhaiigbaaGreatDoorKri22
import Derived.Test.YtfgbndjhaiigbaaGreatDoorKri23
import Derived.Test.YtfgbndjhaiigbaaGreatDoorKri24
import Derived.Test.YtfgbndjhaiigbaaGreatDoorKri25
import Derived.Test.YtfgbndjhaiigbaaGreatDoorKri26
import Derived.Test.YtfgbndjhaiigbaaGreatDoorKri27
import Derived.Test.YtfgbndjhaiigbaaGreatDoorKri28
import Derived.Test.YtfgbndjhaiigbaaGreatDoorKri29
import Derived.Test.YtfgbndjhaiigbaaGreatDoorKri30
import Derived.Test.YtfgbndjhaiigbaaGreatDoorKri31
import Derived.Test.YtfgbndjhaiigbaaGreatDoorKri32
import Derived.Test.YtfgbndjhaiigbaaGreatDoorKri33
import Derived.Test.YtfgbndjhaiigbaaGreatDoorKri34
import Derived.Test.YtfgbndjhaiigbaaGreatDoorKri35
import Derived.Test.YtfgbndjhaiigbaaGreatDoorRows
import Derived.WalkKit
import Derived.LoopTactic
import Derived.Laws.Bits64b
import Derived.WalkSpells
import Derived.WalkLawsBesides
import Derived.StillTactics
import Derived.Laws.Pointers
import Derived.Deep.RegionHeld3
import Derived.Deep.QuietTactic
import Derived.BigQuiet
import Derived.Outline
import Derived.Lib.Hide
import Derived.RowKit3
import Derived.Carry
import Derived.IntWalk
import Derived.LoopN
import Derived.Maps.RangeWalk
import Derived.Maps.OwnSet
import Derived.DeepKeys4
import Derived.Handy
import Derived.Laws.OwnMore
import Derived.OwnWalk
import Derived.Deep.AppendLies
import Derived.Laws.EntriesVeiled
namespace Go.Proofs.YtfgbndjhaiigbaaGreatDoor
open Go Go.RowKit Go.Maps
set_option linter.unusedSimpArgs false
set_option linter.unusedVariables false
set_option maxRecDepth 100000

/-- A number with its sign, as an end. -/
theorem en_form {e f s m : Int} (hg : goodB e f = true) (s0 : 0 ≤ s) (s1 : s ≤ inV e f) (hm : m = 0 ∨ m = 1) :
    enB e f (enV e f (s + m * pw (e + f))) = true ∧ sfV e f (enV e f (s + m * pw (e + f))) = (if m = 0 then s else -s) ∧ numB e f (s + m * pw (e + f)) = true := by
  have hn := sm_num hg s0 s1 hm
  have hp := (num_mag.1 hn).1
  obtain ⟨i0, i1, i2⟩ := in_bd hg
  have hP := pw_pos (e + f)
  have em : (s + m * pw (e + f)) % pw (e + f) = s := by
    rw [Int.add_mul_emod_self_right]; exact Int.emod_eq_of_lt s0 (by omega)
  by_cases hz : s = 0
  · have e0 := en_zero hp (by rw [em]; exact hz)
    rw [e0]
    have p0 : patB e f 0 = true := pat_iff.2 ⟨hg, Int.le_refl _, by omega⟩
    have z0 : (0 : Int) % pw (e + f) = 0 := Int.zero_emod _
    refine ⟨en_iff.2 ⟨num_mag.2 ⟨p0, by omega⟩, by omega⟩, ?_, hn⟩
    unfold sfV
    rw [if_neg (by omega)]
    split <;> omega
  · have hzr : zerB e f (s + m * pw (e + f)) = false := Bool.eq_false_iff.2 (fun h => by
      have := (zer_mag.1 h).2; rw [em] at this; exact hz this)
    have e0 : enV e f (s + m * pw (e + f)) = s + m * pw (e + f) := by unfold enV; rw [hzr, hn]; rfl
    rw [e0]
    refine ⟨en_iff.2 ⟨hn, fun q => ?_⟩, ?_, hn⟩
    · rw [q, Int.emod_self] at em; omega
    · unfold sfV
      rcases hm with rfl | rfl
      · rw [Int.zero_mul, Int.add_zero, if_neg (by omega), if_pos rfl]
      · rw [Int.one_mul, if_pos (by omega), if_neg (by decide)]; omega
end Go.Proofs.YtfgbndjhaiigbaaGreatDoor

namespace Go.Proofs.YtfgbndjhaiigbaaGreatDoor
open Go Go.RowKit Go.Maps
set_option linter.unusedSimpArgs false
set_option linter.unusedVariables false
set_option maxRecDepth 100000

theorem zero_sf (e f : Int) (hg : goodB e f = true) : sfV e f 0 = 0 := by
  have := pw_pos (e + f)
  unfold sfV; rw [if_neg (by omega)]
end Go.Proofs.YtfgbndjhaiigbaaGreatDoor

namespace Go.Proofs.YtfgbndjhaiigbaaGreatDoor
open Go Go.RowKit Go.Maps
set_option linter.unusedSimpArgs false
set_option linter.unusedVariables false
set_option maxRecDepth 100000

/-- The root, as a function. -/
noncomputable def roF (e f a mode : Int) : Int := Classical.epsilon (fun r => RtD e f a mode r)

theorem ro_ex {e f a mode : Int} (ha : patB e f a = true) (m0 : 0 ≤ mode) (m1 : mode ≤ 5) (w : World) : RtD e f a mode (roF e f a mode) := by
  obtain ⟨_, _, _, ⟨r, _, hd, _⟩, _⟩ := arRoot_any e f a mode ha m0 m1 w []
  exact Classical.epsilon_spec (p := fun r => RtD e f a mode r) ⟨r, hd⟩

theorem arRoot_fn (e f a mode : Int) (ha : patB e f a = true) (m0 : 0 ≤ mode) (m1 : mode ≤ 5) (w : World) : Calls Tryz.prog 53 #[fmt e f, .int .i64 a, .int .i64 mode] w fun rv w' => rv = .returned (.int .i64 (roF e f a mode)) ∧ Ext w w' := by
  have hp := ro_ex ha m0 m1 w
  refine (arRoot_any e f a mode ha m0 m1 w).mono ?_
  rintro rv w' ⟨r, rfl, hd, hx⟩
  obtain rfl := rt_one (pat_iff.1 ha).1 hd hp
  exact ⟨rfl, hx⟩

theorem iRoot_fn (e f a mode : Int) (ha : patB e f a = true) (m0 : 0 ≤ mode) (m1 : mode ≤ 5) (w : World) (hT : TW w) : Calls Tryz.prog 37 #[fmt e f, .int .i64 a, .int .i64 mode] w fun rv w' => rv = .returned (.tuple #[.int .i64 (roF e f a mode), .bool true]) ∧ Ext w w' := by
  have hp := ro_ex ha m0 m1 w
  refine (iRootOf_yes e f a mode (rt_iff.2 ⟨ha, m0, m1⟩) w hT).mono ?_
  rintro rv w' ⟨r, rfl, hd, hx⟩
  obtain rfl := rt_one (pat_iff.1 ha).1 hd hp
  exact ⟨rfl, hx⟩

theorem en_sign0 {e f a : Int} (h : enB e f a = true) (hsz : 0 ≤ sfV e f a) : a / pw (e + f) = 0 := by
  obtain ⟨hg, _, hp, hc⟩ := en_parts h
  obtain ⟨_, p0, p1⟩ := pat_iff.1 hp
  have q := pw_pos (e + f)
  refine Int.ediv_eq_zero_of_lt p0 ?_
  by_cases hl : a < pw (e + f)
  · exact hl
  · exfalso
    unfold sfV at hsz
    rw [if_pos (by omega)] at hsz
    have he : a = pw (e + f) := by omega
    have hz := en_zero hp (show a % pw (e + f) = 0 by rw [he, Int.emod_self])
    have hb : a = enV e f a := by
      unfold enB at h
      rw [Bool.and_eq_true, beq_iff_eq] at h
      exact h.2
    omega

theorem ro_num {e f a mode r : Int} (h : enB e f a = true) (hsz : 0 ≤ sfV e f a) (hd : RtD e f a mode r) : numB e f r = true := by
  obtain ⟨hg, hn, hp, _⟩ := en_parts h
  have s0 := en_sign0 h hsz
  have hk := num_kind hn
  rcases hd with ⟨q | q, _⟩ | ⟨_, rfl⟩ | ⟨_, _, v, _, hr⟩
  · exact absurd q hk
  · omega
  · exact hn
  · obtain ⟨r0, r1⟩ := rnd_top2 hr
    have := sm_num (s := r) (m := 0) hg r0 (by rw [in_gr]; exact r1) (Or.inl rfl)
    rwa [Int.zero_mul, Int.add_zero] at this

theorem ls_zero {e f a : Int} (h : enB e f a = true) : lsB e f a 0 = decide (sfV e f a < 0) := by
  obtain ⟨hg, _, hp, _⟩ := en_parts h
  have z := zero_sf e f hg
  have p0 : patB e f 0 = true := pat_iff.2 ⟨hg, Int.le_refl _, by have := pw_pos (e + f); omega⟩
  have i0 : izV e f 0 = 0 := by unfold izV; rw [Int.zero_emod]; rfl
  have e0 : enV e f 0 = 0 := en_zero p0 (Int.zero_emod _)
  have n0 : enB e f 0 = true := by
    have q := (en_form (s := 0) (m := 0) hg (Int.le_refl _) (by have := (in_bd hg).1; omega) (.inl rfl)).1
    rw [Int.zero_mul, Int.add_zero, e0] at q
    exact q
  unfold lsB
  rw [iz_end h, i0, decide_eq_decide]
  have := key_sf n0 h
  rw [z] at this
  omega

theorem iRootInterval_no (e f a b : Int) (hg : ivB e f a b = false) (w : World) : Calls Tryz.prog 23 #[fmt e f, two a b] w fun rv w' => rv = .returned (.tuple #[two 0 0, .bool false]) ∧ Ext w w' := by
  have GI := Lib.hid (fun w => isInterval_any e f a b w)
  rw [hg] at GI
  go_enter Tryz.func23, Tryz.ntmps23
  go_wp2_with (go_at_call 54; refine (GI.out _).mono ?_; rintro rv w1 ⟨rfl, hb⟩; have ns : w.heap.size + 2 < w1.heap.size := hb.ltK; have n0 : w1.cell? ⟨w.heap.size, 0, none⟩ = some (.int .i64 e) := hb.cellK; have n1 : w1.cell? ⟨w.heap.size, 1, none⟩ = some (.int .i64 f) := hb.cellK; have n2 : w1.cell? ⟨w.heap.size + 1, 0, none⟩ = some (.int .i64 a) := hb.cellK; have n3 : w1.cell? ⟨w.heap.size + 1, 1, none⟩ = some (.int .i64 b) := hb.cellK; have n4 : w1.cell? ⟨w.heap.size + 2, 0, none⟩ = some (.int .i64 0) := hb.cellK; have n5 : w1.cell? ⟨w.heap.size + 2, 1, none⟩ = some (.int .i64 0) := hb.cellK; have nz0 : w1.frozen? ⟨w.heap.size + 2, 0, none⟩ = false := hb.frzK; have nz1 : w1.frozen? ⟨w.heap.size + 2, 1, none⟩ = false := hb.frzK; (first | (have nx := Ext.trans hx hb; clear hx) | (have nx := Ext.trans (hx.alloc _) hb; clear hx) | (have nx := Ext.trans hx.drew hb; clear hx) | have nx := hb); clear hb; try clear hs; try clear g0; try clear g1; try clear g2; try clear g3; try clear g4; try clear g5; try clear z0; try clear z1; have hx := nx; clear nx; have hs := ns; clear ns; have g0 := n0; clear n0; have g1 := n1; clear n1; have g2 := n2; clear n2; have g3 := n3; clear n3; have g4 := n4; clear n4; have g5 := n5; clear n5; have z0 := nz0; clear nz0; have z1 := nz1; clear nz1)
  exact bodyPost_ret (v := .tuple #[two 0 0, .bool false]) (by simp [results, Tryz.results23, go_sem, *]) rfl ⟨rfl, Ext.auK⟩

theorem iRootInterval_neg (e f a b : Int) (hg : ivB e f a b = true) (hsz : sfV e f a < 0) (w : World) : Calls Tryz.prog 23 #[fmt e f, two a b] w fun rv w' => rv = .returned (.tuple #[two 0 0, .bool false]) ∧ Ext w w' := by
  have GI := Lib.hid (fun w => isInterval_any e f a b w)
  rw [hg] at GI
  have GS := fun w => sfOf_any e f a (iv_pats hg).1 w
  have GS := Lib.hid GS
  clear hg
  go_enter Tryz.func23, Tryz.ntmps23
  go_wp2_with (first | (go_at_call 54; refine (GI.out _).mono ?_; rintro rv w1 ⟨rfl, hb⟩; have ns : w.heap.size + 2 < w1.heap.size := hb.ltK; have n0 : w1.cell? ⟨w.heap.size, 0, none⟩ = some (.int .i64 e) := hb.cellK; have n1 : w1.cell? ⟨w.heap.size, 1, none⟩ = some (.int .i64 f) := hb.cellK; have n2 : w1.cell? ⟨w.heap.size + 1, 0, none⟩ = some (.int .i64 a) := hb.cellK; have n3 : w1.cell? ⟨w.heap.size + 1, 1, none⟩ = some (.int .i64 b) := hb.cellK; have n4 : w1.cell? ⟨w.heap.size + 2, 0, none⟩ = some (.int .i64 0) := hb.cellK; have n5 : w1.cell? ⟨w.heap.size + 2, 1, none⟩ = some (.int .i64 0) := hb.cellK; have nz0 : w1.frozen? ⟨w.heap.size + 2, 0, none⟩ = false := hb.frzK; have nz1 : w1.frozen? ⟨w.heap.size + 2, 1, none⟩ = false := hb.frzK; (first | (have nx := Ext.trans hx hb; clear hx) | (have nx := Ext.trans (hx.alloc _) hb; clear hx) | (have nx := Ext.trans hx.drew hb; clear hx) | have nx := hb); clear hb; try clear hs; try clear g0; try clear g1; try clear g2; try clear g3; try clear g4; try clear g5; try clear z0; try clear z1; have hx := nx; clear nx; have hs := ns; clear ns; have g0 := n0; clear n0; have g1 := n1; clear n1; have g2 := n2; clear n2; have g3 := n3; clear n3; have g4 := n4; clear n4; have g5 := n5; clear n5; have z0 := nz0; clear nz0; have z1 := nz1; clear nz1) | (go_at_call 55; refine (GS.out _).mono ?_; rintro rv w1 ⟨rfl, hb⟩; have ns : w.heap.size + 2 < w1.heap.size := hb.ltK; have n0 : w1.cell? ⟨w.heap.size, 0, none⟩ = some (.int .i64 e) := hb.cellK; have n1 : w1.cell? ⟨w.heap.size, 1, none⟩ = some (.int .i64 f) := hb.cellK; have n2 : w1.cell? ⟨w.heap.size + 1, 0, none⟩ = some (.int .i64 a) := hb.cellK; have n3 : w1.cell? ⟨w.heap.size + 1, 1, none⟩ = some (.int .i64 b) := hb.cellK; have n4 : w1.cell? ⟨w.heap.size + 2, 0, none⟩ = some (.int .i64 0) := hb.cellK; have n5 : w1.cell? ⟨w.heap.size + 2, 1, none⟩ = some (.int .i64 0) := hb.cellK; have nz0 : w1.frozen? ⟨w.heap.size + 2, 0, none⟩ = false := hb.frzK; have nz1 : w1.frozen? ⟨w.heap.size + 2, 1, none⟩ = false := hb.frzK; (first | (have nx := Ext.trans hx hb; clear hx) | (have nx := Ext.trans (hx.alloc _) hb; clear hx) | (have nx := Ext.trans hx.drew hb; clear hx) | have nx := hb); clear hb; try clear hs; try clear g0; try clear g1; try clear g2; try clear g3; try clear g4; try clear g5; try clear z0; try clear z1; have hx := nx; clear nx; have hs := ns; clear ns; have g0 := n0; clear n0; have g1 := n1; clear n1; have g2 := n2; clear n2; have g3 := n3; clear n3; have g4 := n4; clear n4; have g5 := n5; clear n5; have z0 := nz0; clear nz0; have z1 := nz1; clear nz1))
  exact bodyPost_ret (v := .tuple #[two 0 0, .bool false]) (by simp [results, Tryz.results23, go_sem, *]) rfl ⟨rfl, Ext.auK⟩

set_option maxHeartbeats 3200000 in
theorem iRootInterval_yes (e f a b : Int) (hg : ivB e f a b = true) (hsz : 0 ≤ sfV e f a) (w : World) (hT : TW w) : Calls Tryz.prog 23 #[fmt e f, two a b] w fun rv w' => rv = .returned (.tuple #[two (enV e f (roF e f a 4)) (enV e f (roF e f b 3)), .bool true]) ∧ Ext w w' := by
  have GI := Lib.hid (fun w => isInterval_any e f a b w)
  rw [hg] at GI
  have GS := fun w => sfOf_any e f a (iv_pats hg).1 w
  have GS := Lib.hid GS
  have L1 := Lib.hid (fun w hT => iRoot_fn e f a 4 (iv_pats hg).1 (by decide) (by decide) w hT)
  have H1 := Lib.hid (fun w hT => iRoot_fn e f b 3 (iv_pats hg).2 (by decide) (by decide) w hT)
  have WQ := Lib.hid (fun w => withEnds_any e f (roF e f a 4) (roF e f b 3) w)
  clear hg
  generalize enV e f (roF e f a 4) = u at *
  generalize enV e f (roF e f b 3) = v at *
  generalize roF e f a 4 = p at *
  generalize roF e f b 3 = q at *
  go_enter Tryz.func23, Tryz.ntmps23
  go_wp2_with (first | (go_at_call 54; refine (GI.out _).mono ?_; rintro rv w1 ⟨rfl, hb⟩; have ns : w.heap.size + 2 < w1.heap.size := hb.ltK; have n0 : w1.cell? ⟨w.heap.size, 0, none⟩ = some (.int .i64 e) := hb.cellK; have n1 : w1.cell? ⟨w.heap.size, 1, none⟩ = some (.int .i64 f) := hb.cellK; have n2 : w1.cell? ⟨w.heap.size + 1, 0, none⟩ = some (.int .i64 a) := hb.cellK; have n3 : w1.cell? ⟨w.heap.size + 1, 1, none⟩ = some (.int .i64 b) := hb.cellK; have n4 : w1.cell? ⟨w.heap.size + 2, 0, none⟩ = some (.int .i64 0) := hb.cellK; have n5 : w1.cell? ⟨w.heap.size + 2, 1, none⟩ = some (.int .i64 0) := hb.cellK; have nz0 : w1.frozen? ⟨w.heap.size + 2, 0, none⟩ = false := hb.frzK; have nz1 : w1.frozen? ⟨w.heap.size + 2, 1, none⟩ = false := hb.frzK; (first | (have nx := Ext.trans hx hb; clear hx) | (have nx := Ext.trans (hx.alloc _) hb; clear hx) | (have nx := Ext.trans hx.drew hb; clear hx) | have nx := hb); clear hb; try clear hs; try clear g0; try clear g1; try clear g2; try clear g3; try clear g4; try clear g5; try clear z0; try clear z1; have hx := nx; clear nx; have hs := ns; clear ns; have g0 := n0; clear n0; have g1 := n1; clear n1; have g2 := n2; clear n2; have g3 := n3; clear n3; have g4 := n4; clear n4; have g5 := n5; clear n5; have z0 := nz0; clear nz0; have z1 := nz1; clear nz1) | (go_at_call 55; refine (GS.out _).mono ?_; rintro rv w1 ⟨rfl, hb⟩; have ns : w.heap.size + 2 < w1.heap.size := hb.ltK; have n0 : w1.cell? ⟨w.heap.size, 0, none⟩ = some (.int .i64 e) := hb.cellK; have n1 : w1.cell? ⟨w.heap.size, 1, none⟩ = some (.int .i64 f) := hb.cellK; have n2 : w1.cell? ⟨w.heap.size + 1, 0, none⟩ = some (.int .i64 a) := hb.cellK; have n3 : w1.cell? ⟨w.heap.size + 1, 1, none⟩ = some (.int .i64 b) := hb.cellK; have n4 : w1.cell? ⟨w.heap.size + 2, 0, none⟩ = some (.int .i64 0) := hb.cellK; have n5 : w1.cell? ⟨w.heap.size + 2, 1, none⟩ = some (.int .i64 0) := hb.cellK; have nz0 : w1.frozen? ⟨w.heap.size + 2, 0, none⟩ = false := hb.frzK; have nz1 : w1.frozen? ⟨w.heap.size + 2, 1, none⟩ = false := hb.frzK; (first | (have nx := Ext.trans hx hb; clear hx) | (have nx := Ext.trans (hx.alloc _) hb; clear hx) | (have nx := Ext.trans hx.drew hb; clear hx) | have nx := hb); clear hb; try clear hs; try clear g0; try clear g1; try clear g2; try clear g3; try clear g4; try clear g5; try clear z0; try clear z1; have hx := nx; clear nx; have hs := ns; clear ns; have g0 := n0; clear n0; have g1 := n1; clear n1; have g2 := n2; clear n2; have g3 := n3; clear n3; have g4 := n4; clear n4; have g5 := n5; clear n5; have z0 := nz0; clear nz0; have z1 := nz1; clear nz1) | (go_at_call 37; (with_reducible refine (L1.out _ (hT.ext Ext.auK)).mono ?_); rintro rv w1 ⟨rfl, hb⟩; have ns : w.heap.size + 2 < w1.heap.size := hb.ltK; have n0 : w1.cell? ⟨w.heap.size, 0, none⟩ = some (.int .i64 e) := hb.cellK; have n1 : w1.cell? ⟨w.heap.size, 1, none⟩ = some (.int .i64 f) := hb.cellK; have n2 : w1.cell? ⟨w.heap.size + 1, 0, none⟩ = some (.int .i64 a) := hb.cellK; have n3 : w1.cell? ⟨w.heap.size + 1, 1, none⟩ = some (.int .i64 b) := hb.cellK; have n4 : w1.cell? ⟨w.heap.size + 2, 0, none⟩ = some (.int .i64 0) := hb.cellK; have n5 : w1.cell? ⟨w.heap.size + 2, 1, none⟩ = some (.int .i64 0) := hb.cellK; have nz0 : w1.frozen? ⟨w.heap.size + 2, 0, none⟩ = false := hb.frzK; have nz1 : w1.frozen? ⟨w.heap.size + 2, 1, none⟩ = false := hb.frzK; (first | (have nx := Ext.trans hx hb; clear hx) | (have nx := Ext.trans (hx.alloc _) hb; clear hx) | (have nx := Ext.trans hx.drew hb; clear hx) | have nx := hb); clear hb; try clear hs; try clear g0; try clear g1; try clear g2; try clear g3; try clear g4; try clear g5; try clear z0; try clear z1; have hx := nx; clear nx; have hs := ns; clear ns; have g0 := n0; clear n0; have g1 := n1; clear n1; have g2 := n2; clear n2; have g3 := n3; clear n3; have g4 := n4; clear n4; have g5 := n5; clear n5; have z0 := nz0; clear nz0; have z1 := nz1; clear nz1) | (go_at_call 37; (with_reducible refine (H1.out _ (hT.ext Ext.auK)).mono ?_); rintro rv w1 ⟨rfl, hb⟩; have ns : w.heap.size + 2 < w1.heap.size := hb.ltK; have n0 : w1.cell? ⟨w.heap.size, 0, none⟩ = some (.int .i64 e) := hb.cellK; have n1 : w1.cell? ⟨w.heap.size, 1, none⟩ = some (.int .i64 f) := hb.cellK; have n2 : w1.cell? ⟨w.heap.size + 1, 0, none⟩ = some (.int .i64 a) := hb.cellK; have n3 : w1.cell? ⟨w.heap.size + 1, 1, none⟩ = some (.int .i64 b) := hb.cellK; have n4 : w1.cell? ⟨w.heap.size + 2, 0, none⟩ = some (.int .i64 0) := hb.cellK; have n5 : w1.cell? ⟨w.heap.size + 2, 1, none⟩ = some (.int .i64 0) := hb.cellK; have nz0 : w1.frozen? ⟨w.heap.size + 2, 0, none⟩ = false := hb.frzK; have nz1 : w1.frozen? ⟨w.heap.size + 2, 1, none⟩ = false := hb.frzK; (first | (have nx := Ext.trans hx hb; clear hx) | (have nx := Ext.trans (hx.alloc _) hb; clear hx) | (have nx := Ext.trans hx.drew hb; clear hx) | have nx := hb); clear hb; try clear hs; try clear g0; try clear g1; try clear g2; try clear g3; try clear g4; try clear g5; try clear z0; try clear z1; have hx := nx; clear nx; have hs := ns; clear ns; have g0 := n0; clear n0; have g1 := n1; clear n1; have g2 := n2; clear n2; have g3 := n3; clear n3; have g4 := n4; clear n4; have g5 := n5; clear n5; have z0 := nz0; clear nz0; have z1 := nz1; clear nz1) | (go_at_call 56; refine (WQ.out _).mono ?_; rintro rv w1 ⟨rfl, hb⟩; have ns : w.heap.size + 2 < w1.heap.size := hb.ltK; have n0 : w1.cell? ⟨w.heap.size, 0, none⟩ = some (.int .i64 e) := hb.cellK; have n1 : w1.cell? ⟨w.heap.size, 1, none⟩ = some (.int .i64 f) := hb.cellK; have n2 : w1.cell? ⟨w.heap.size + 1, 0, none⟩ = some (.int .i64 a) := hb.cellK; have n3 : w1.cell? ⟨w.heap.size + 1, 1, none⟩ = some (.int .i64 b) := hb.cellK; have n4 : w1.cell? ⟨w.heap.size + 2, 0, none⟩ = some (.int .i64 0) := hb.cellK; have n5 : w1.cell? ⟨w.heap.size + 2, 1, none⟩ = some (.int .i64 0) := hb.cellK; have nz0 : w1.frozen? ⟨w.heap.size + 2, 0, none⟩ = false := hb.frzK; have nz1 : w1.frozen? ⟨w.heap.size + 2, 1, none⟩ = false := hb.frzK; (first | (have nx := Ext.trans hx hb; clear hx) | (have nx := Ext.trans (hx.alloc _) hb; clear hx) | (have nx := Ext.trans hx.drew hb; clear hx) | have nx := hb); clear hb; try clear hs; try clear g0; try clear g1; try clear g2; try clear g3; try clear g4; try clear g5; try clear z0; try clear z1; have hx := nx; clear nx; have hs := ns; clear ns; have g0 := n0; clear n0; have g1 := n1; clear n1; have g2 := n2; clear n2; have g3 := n3; clear n3; have g4 := n4; clear n4; have g5 := n5; clear n5; have z0 := nz0; clear nz0; have z1 := nz1; clear nz1))
  all_goals exact bodyPost_ret (v := .tuple #[two u v, .bool true]) (by simp [results, Tryz.results23, go_sem, *]) rfl ⟨rfl, Ext.auK⟩

theorem sRootInterval_no (e f a b : Int) (hg : ivB e f a b = false) (w : World) : Calls Tryz.prog 22 #[fmt e f, two a b] w fun rv w' => rv = .returned (.tuple #[two 0 0, .bool false]) ∧ Ext w w' := by
  have GI := Lib.hid (fun w => ivGood_any e f a b w)
  rw [hg] at GI
  go_enter Tryz.func22, Tryz.ntmps22
  go_wp2_with (go_at_call 50; refine (GI.out _).mono ?_; rintro rv w1 ⟨rfl, hb⟩; have ns : w.heap.size + 2 < w1.heap.size := hb.ltK; have n0 : w1.cell? ⟨w.heap.size, 0, none⟩ = some (.int .i64 e) := hb.cellK; have n1 : w1.cell? ⟨w.heap.size, 1, none⟩ = some (.int .i64 f) := hb.cellK; have n2 : w1.cell? ⟨w.heap.size + 1, 0, none⟩ = some (.int .i64 a) := hb.cellK; have n3 : w1.cell? ⟨w.heap.size + 1, 1, none⟩ = some (.int .i64 b) := hb.cellK; have n4 : w1.cell? ⟨w.heap.size + 2, 0, none⟩ = some (.int .i64 0) := hb.cellK; have n5 : w1.cell? ⟨w.heap.size + 2, 1, none⟩ = some (.int .i64 0) := hb.cellK; have nz0 : w1.frozen? ⟨w.heap.size + 2, 0, none⟩ = false := hb.frzK; have nz1 : w1.frozen? ⟨w.heap.size + 2, 1, none⟩ = false := hb.frzK; (first | (have nx := Ext.trans hx hb; clear hx) | (have nx := Ext.trans (hx.alloc _) hb; clear hx) | (have nx := Ext.trans hx.drew hb; clear hx) | have nx := hb); clear hb; try clear hs; try clear g0; try clear g1; try clear g2; try clear g3; try clear g4; try clear g5; try clear z0; try clear z1; have hx := nx; clear nx; have hs := ns; clear ns; have g0 := n0; clear n0; have g1 := n1; clear n1; have g2 := n2; clear n2; have g3 := n3; clear n3; have g4 := n4; clear n4; have g5 := n5; clear n5; have z0 := nz0; clear nz0; have z1 := nz1; clear nz1)
  exact bodyPost_ret (v := .tuple #[two 0 0, .bool false]) (by simp [results, Tryz.results22, go_sem, *]) rfl ⟨rfl, Ext.auK⟩

theorem sRootInterval_neg (e f a b : Int) (hg : ivB e f a b = true) (hsz : sfV e f a < 0) (w : World) : Calls Tryz.prog 22 #[fmt e f, two a b] w fun rv w' => rv = .returned (.tuple #[two 0 0, .bool false]) ∧ Ext w w' := by
  have GI := Lib.hid (fun w => ivGood_any e f a b w)
  rw [hg] at GI
  have p0 : patB e f 0 = true := by have q := (pat_iff.1 (iv_pats hg).1).1; exact pat_iff.2 ⟨q, Int.le_refl _, by have := pw_pos (e + f); omega⟩
  have GS := fun w => ivLess_any e f a 0 (iv_pats hg).1 p0 w
  rw [ls_zero (iv_parts hg).1, decide_eq_true hsz] at GS
  have GS := Lib.hid GS
  clear hg
  go_enter Tryz.func22, Tryz.ntmps22
  go_wp2_with (first | (go_at_call 50; refine (GI.out _).mono ?_; rintro rv w1 ⟨rfl, hb⟩; have ns : w.heap.size + 2 < w1.heap.size := hb.ltK; have n0 : w1.cell? ⟨w.heap.size, 0, none⟩ = some (.int .i64 e) := hb.cellK; have n1 : w1.cell? ⟨w.heap.size, 1, none⟩ = some (.int .i64 f) := hb.cellK; have n2 : w1.cell? ⟨w.heap.size + 1, 0, none⟩ = some (.int .i64 a) := hb.cellK; have n3 : w1.cell? ⟨w.heap.size + 1, 1, none⟩ = some (.int .i64 b) := hb.cellK; have n4 : w1.cell? ⟨w.heap.size + 2, 0, none⟩ = some (.int .i64 0) := hb.cellK; have n5 : w1.cell? ⟨w.heap.size + 2, 1, none⟩ = some (.int .i64 0) := hb.cellK; have nz0 : w1.frozen? ⟨w.heap.size + 2, 0, none⟩ = false := hb.frzK; have nz1 : w1.frozen? ⟨w.heap.size + 2, 1, none⟩ = false := hb.frzK; (first | (have nx := Ext.trans hx hb; clear hx) | (have nx := Ext.trans (hx.alloc _) hb; clear hx) | (have nx := Ext.trans hx.drew hb; clear hx) | have nx := hb); clear hb; try clear hs; try clear g0; try clear g1; try clear g2; try clear g3; try clear g4; try clear g5; try clear z0; try clear z1; have hx := nx; clear nx; have hs := ns; clear ns; have g0 := n0; clear n0; have g1 := n1; clear n1; have g2 := n2; clear n2; have g3 := n3; clear n3; have g4 := n4; clear n4; have g5 := n5; clear n5; have z0 := nz0; clear nz0; have z1 := nz1; clear nz1) | (go_at_call 51; refine (GS.out _).mono ?_; rintro rv w1 ⟨rfl, hb⟩; have ns : w.heap.size + 2 < w1.heap.size := hb.ltK; have n0 : w1.cell? ⟨w.heap.size, 0, none⟩ = some (.int .i64 e) := hb.cellK; have n1 : w1.cell? ⟨w.heap.size, 1, none⟩ = some (.int .i64 f) := hb.cellK; have n2 : w1.cell? ⟨w.heap.size + 1, 0, none⟩ = some (.int .i64 a) := hb.cellK; have n3 : w1.cell? ⟨w.heap.size + 1, 1, none⟩ = some (.int .i64 b) := hb.cellK; have n4 : w1.cell? ⟨w.heap.size + 2, 0, none⟩ = some (.int .i64 0) := hb.cellK; have n5 : w1.cell? ⟨w.heap.size + 2, 1, none⟩ = some (.int .i64 0) := hb.cellK; have nz0 : w1.frozen? ⟨w.heap.size + 2, 0, none⟩ = false := hb.frzK; have nz1 : w1.frozen? ⟨w.heap.size + 2, 1, none⟩ = false := hb.frzK; (first | (have nx := Ext.trans hx hb; clear hx) | (have nx := Ext.trans (hx.alloc _) hb; clear hx) | (have nx := Ext.trans hx.drew hb; clear hx) | have nx := hb); clear hb; try clear hs; try clear g0; try clear g1; try clear g2; try clear g3; try clear g4; try clear g5; try clear z0; try clear z1; have hx := nx; clear nx; have hs := ns; clear ns; have g0 := n0; clear n0; have g1 := n1; clear n1; have g2 := n2; clear n2; have g3 := n3; clear n3; have g4 := n4; clear n4; have g5 := n5; clear n5; have z0 := nz0; clear nz0; have z1 := nz1; clear nz1))
  exact bodyPost_ret (v := .tuple #[two 0 0, .bool false]) (by simp [results, Tryz.results22, go_sem, *]) rfl ⟨rfl, Ext.auK⟩

set_option maxHeartbeats 3200000 in
theorem sRootInterval_yes (e f a b : Int) (hg : ivB e f a b = true) (hsz : 0 ≤ sfV e f a) (w : World) : Calls Tryz.prog 22 #[fmt e f, two a b] w fun rv w' => rv = .returned (.tuple #[two (enV e f (roF e f a 4)) (enV e f (roF e f b 3)), .bool true]) ∧ Ext w w' := by
  have GI := Lib.hid (fun w => ivGood_any e f a b w)
  rw [hg] at GI
  have p0 : patB e f 0 = true := by have q := (pat_iff.1 (iv_pats hg).1).1; exact pat_iff.2 ⟨q, Int.le_refl _, by have := pw_pos (e + f); omega⟩
  have GS := fun w => ivLess_any e f a 0 (iv_pats hg).1 p0 w
  rw [ls_zero (iv_parts hg).1, decide_eq_false (by omega)] at GS
  have GS := Lib.hid GS
  have n4 := ro_num (iv_parts hg).1 hsz (ro_ex (iv_pats hg).1 (show (0 : Int) ≤ 4 by decide) (by decide) w)
  have n3 := ro_num (iv_parts hg).2.1 (Int.le_trans hsz (iv_parts hg).2.2.1) (ro_ex (iv_pats hg).2 (show (0 : Int) ≤ 3 by decide) (by decide) w)
  have L1 := Lib.hid (fun w => arRoot_fn e f a 4 (iv_pats hg).1 (by decide) (by decide) w)
  have H1 := Lib.hid (fun w => arRoot_fn e f b 3 (iv_pats hg).2 (by decide) (by decide) w)
  have WQ := fun w => ivOf_any e f (roF e f a 4) (roF e f b 3) (num_mag.1 n4).1 (num_mag.1 n3).1 w
  rw [iz_en n4, iz_en n3] at WQ
  have WQ := Lib.hid WQ
  clear n4 n3
  clear hg p0
  generalize enV e f (roF e f a 4) = u at *
  generalize enV e f (roF e f b 3) = v at *
  generalize roF e f a 4 = p at *
  generalize roF e f b 3 = q at *
  go_enter Tryz.func22, Tryz.ntmps22
  go_wp2_with (first | (go_at_call 50; refine (GI.out _).mono ?_; rintro rv w1 ⟨rfl, hb⟩; have ns : w.heap.size + 2 < w1.heap.size := hb.ltK; have n0 : w1.cell? ⟨w.heap.size, 0, none⟩ = some (.int .i64 e) := hb.cellK; have n1 : w1.cell? ⟨w.heap.size, 1, none⟩ = some (.int .i64 f) := hb.cellK; have n2 : w1.cell? ⟨w.heap.size + 1, 0, none⟩ = some (.int .i64 a) := hb.cellK; have n3 : w1.cell? ⟨w.heap.size + 1, 1, none⟩ = some (.int .i64 b) := hb.cellK; have n4 : w1.cell? ⟨w.heap.size + 2, 0, none⟩ = some (.int .i64 0) := hb.cellK; have n5 : w1.cell? ⟨w.heap.size + 2, 1, none⟩ = some (.int .i64 0) := hb.cellK; have nz0 : w1.frozen? ⟨w.heap.size + 2, 0, none⟩ = false := hb.frzK; have nz1 : w1.frozen? ⟨w.heap.size + 2, 1, none⟩ = false := hb.frzK; (first | (have nx := Ext.trans hx hb; clear hx) | (have nx := Ext.trans (hx.alloc _) hb; clear hx) | (have nx := Ext.trans hx.drew hb; clear hx) | have nx := hb); clear hb; try clear hs; try clear g0; try clear g1; try clear g2; try clear g3; try clear g4; try clear g5; try clear z0; try clear z1; have hx := nx; clear nx; have hs := ns; clear ns; have g0 := n0; clear n0; have g1 := n1; clear n1; have g2 := n2; clear n2; have g3 := n3; clear n3; have g4 := n4; clear n4; have g5 := n5; clear n5; have z0 := nz0; clear nz0; have z1 := nz1; clear nz1) | (go_at_call 51; refine (GS.out _).mono ?_; rintro rv w1 ⟨rfl, hb⟩; have ns : w.heap.size + 2 < w1.heap.size := hb.ltK; have n0 : w1.cell? ⟨w.heap.size, 0, none⟩ = some (.int .i64 e) := hb.cellK; have n1 : w1.cell? ⟨w.heap.size, 1, none⟩ = some (.int .i64 f) := hb.cellK; have n2 : w1.cell? ⟨w.heap.size + 1, 0, none⟩ = some (.int .i64 a) := hb.cellK; have n3 : w1.cell? ⟨w.heap.size + 1, 1, none⟩ = some (.int .i64 b) := hb.cellK; have n4 : w1.cell? ⟨w.heap.size + 2, 0, none⟩ = some (.int .i64 0) := hb.cellK; have n5 : w1.cell? ⟨w.heap.size + 2, 1, none⟩ = some (.int .i64 0) := hb.cellK; have nz0 : w1.frozen? ⟨w.heap.size + 2, 0, none⟩ = false := hb.frzK; have nz1 : w1.frozen? ⟨w.heap.size + 2, 1, none⟩ = false := hb.frzK; (first | (have nx := Ext.trans hx hb; clear hx) | (have nx := Ext.trans (hx.alloc _) hb; clear hx) | (have nx := Ext.trans hx.drew hb; clear hx) | have nx := hb); clear hb; try clear hs; try clear g0; try clear g1; try clear g2; try clear g3; try clear g4; try clear g5; try clear z0; try clear z1; have hx := nx; clear nx; have hs := ns; clear ns; have g0 := n0; clear n0; have g1 := n1; clear n1; have g2 := n2; clear n2; have g3 := n3; clear n3; have g4 := n4; clear n4; have g5 := n5; clear n5; have z0 := nz0; clear nz0; have z1 := nz1; clear nz1))
  go_region_held3 (fun w' => w'.cell? ⟨w.heap.size, 0, none⟩ = some (.int .i64 e) ∧ w'.cell? ⟨w.heap.size, 1, none⟩ = some (.int .i64 f) ∧ w'.cell? ⟨w.heap.size + 1, 0, none⟩ = some (.int .i64 a) ∧ w'.cell? ⟨w.heap.size + 1, 1, none⟩ = some (.int .i64 b) ∧ w.heap.size + 2 < w'.heap.size) ((refine ⟨?_, ?_, ?_, ?_, ?_⟩ <;> first | with_reducible assumption | ((repeat first | rw [cell_set_far _ _ _ _ _ _ (by omega)] | rw [cell_alloc_before _ _ _ _ (by omega)] | rw [cell_alloc_drew _ _ _ _ (by omega)] | rw [cell_drew]); with_reducible assumption) | ((rw [cell_setRow_far _ _ _ _ _ (by omega)]); with_reducible assumption) | ((rw [setRow_size]); with_reducible assumption) | (simp; done) | (simp [World.setCell]; first | done | omega) | (simp [go_sem, World.cell?_alloc_past, World.cell?_setCell_far, *]; done))) ((first | (go_at_call 53; (with_reducible refine (L1.out _).mono ?_); rintro rv w1 ⟨rfl, hb⟩; have ns : w.heap.size + 2 < w1.heap.size := hb.ltK; have n0 : w1.cell? ⟨w.heap.size, 0, none⟩ = some (.int .i64 e) := hb.cellK; have n1 : w1.cell? ⟨w.heap.size, 1, none⟩ = some (.int .i64 f) := hb.cellK; have n2 : w1.cell? ⟨w.heap.size + 1, 0, none⟩ = some (.int .i64 a) := hb.cellK; have n3 : w1.cell? ⟨w.heap.size + 1, 1, none⟩ = some (.int .i64 b) := hb.cellK; have n4 : w1.cell? ⟨w.heap.size + 2, 0, none⟩ = some (.int .i64 0) := hb.cellK; have n5 : w1.cell? ⟨w.heap.size + 2, 1, none⟩ = some (.int .i64 0) := hb.cellK; have nz0 : w1.frozen? ⟨w.heap.size + 2, 0, none⟩ = false := hb.frzK; have nz1 : w1.frozen? ⟨w.heap.size + 2, 1, none⟩ = false := hb.frzK; (first | (have nx := Ext.trans hx hb; clear hx) | (have nx := Ext.trans (hx.alloc _) hb; clear hx) | (have nx := Ext.trans hx.drew hb; clear hx) | have nx := hb); clear hb; try clear hs; try clear g0; try clear g1; try clear g2; try clear g3; try clear g4; try clear g5; try clear z0; try clear z1; have hx := nx; clear nx; have hs := ns; clear ns; have g0 := n0; clear n0; have g1 := n1; clear n1; have g2 := n2; clear n2; have g3 := n3; clear n3; have g4 := n4; clear n4; have g5 := n5; clear n5; have z0 := nz0; clear nz0; have z1 := nz1; clear nz1) | (go_at_call 53; (with_reducible refine (H1.out _).mono ?_); rintro rv w1 ⟨rfl, hb⟩; have ns : w.heap.size + 2 < w1.heap.size := hb.ltK; have n0 : w1.cell? ⟨w.heap.size, 0, none⟩ = some (.int .i64 e) := hb.cellK; have n1 : w1.cell? ⟨w.heap.size, 1, none⟩ = some (.int .i64 f) := hb.cellK; have n2 : w1.cell? ⟨w.heap.size + 1, 0, none⟩ = some (.int .i64 a) := hb.cellK; have n3 : w1.cell? ⟨w.heap.size + 1, 1, none⟩ = some (.int .i64 b) := hb.cellK; have n4 : w1.cell? ⟨w.heap.size + 2, 0, none⟩ = some (.int .i64 0) := hb.cellK; have n5 : w1.cell? ⟨w.heap.size + 2, 1, none⟩ = some (.int .i64 0) := hb.cellK; have nz0 : w1.frozen? ⟨w.heap.size + 2, 0, none⟩ = false := hb.frzK; have nz1 : w1.frozen? ⟨w.heap.size + 2, 1, none⟩ = false := hb.frzK; (first | (have nx := Ext.trans hx hb; clear hx) | (have nx := Ext.trans (hx.alloc _) hb; clear hx) | (have nx := Ext.trans hx.drew hb; clear hx) | have nx := hb); clear hb; try clear hs; try clear g0; try clear g1; try clear g2; try clear g3; try clear g4; try clear g5; try clear z0; try clear z1; have hx := nx; clear nx; have hs := ns; clear ns; have g0 := n0; clear n0; have g1 := n1; clear n1; have g2 := n2; clear n2; have g3 := n3; clear n3; have g4 := n4; clear n4; have g5 := n5; clear n5; have z0 := nz0; clear nz0; have z1 := nz1; clear nz1) | (go_at_call 52; refine (WQ.out _).mono ?_; rintro rv w1 ⟨rfl, hb⟩; have ns : w.heap.size + 2 < w1.heap.size := hb.ltK; have n0 : w1.cell? ⟨w.heap.size, 0, none⟩ = some (.int .i64 e) := hb.cellK; have n1 : w1.cell? ⟨w.heap.size, 1, none⟩ = some (.int .i64 f) := hb.cellK; have n2 : w1.cell? ⟨w.heap.size + 1, 0, none⟩ = some (.int .i64 a) := hb.cellK; have n3 : w1.cell? ⟨w.heap.size + 1, 1, none⟩ = some (.int .i64 b) := hb.cellK; have n4 : w1.cell? ⟨w.heap.size + 2, 0, none⟩ = some (.int .i64 0) := hb.cellK; have n5 : w1.cell? ⟨w.heap.size + 2, 1, none⟩ = some (.int .i64 0) := hb.cellK; have nz0 : w1.frozen? ⟨w.heap.size + 2, 0, none⟩ = false := hb.frzK; have nz1 : w1.frozen? ⟨w.heap.size + 2, 1, none⟩ = false := hb.frzK; (first | (have nx := Ext.trans hx hb; clear hx) | (have nx := Ext.trans (hx.alloc _) hb; clear hx) | (have nx := Ext.trans hx.drew hb; clear hx) | have nx := hb); clear hb; try clear hs; try clear g0; try clear g1; try clear g2; try clear g3; try clear g4; try clear g5; try clear z0; try clear z1; have hx := nx; clear nx; have hs := ns; clear ns; have g0 := n0; clear n0; have g1 := n1; clear n1; have g2 := n2; clear n2; have g3 := n3; clear n3; have g4 := n4; clear n4; have g5 := n5; clear n5; have z0 := nz0; clear nz0; have z1 := nz1; clear nz1)))
  all_goals go_wp2_with fail
  all_goals exact bodyPost_ret (v := .tuple #[two u v, .bool true]) (by simp [results, Tryz.results22, go_sem, *]) rfl ⟨rfl, Ext.auK⟩
end Go.Proofs.YtfgbndjhaiigbaaGreatDoor

