/-
  Contracts of the functions that the laws reach, and the plain facts that they rest on, each under the conditions that its line names; part 35.
-/
import Derived.Test.YtfihhhbdhppemaaGreatDoorKpi1
import Derived.Test.YtfihhhbdhppemaaGreatDoorKpi2
import Derived.Test.YtfihhhbdhppemaaGreatDoorKpi3
import Derived.Test.YtfihhhbdhppemaaGreatDoorKpi4
import Derived.Test.YtfihhhbdhppemaaGreatDoorKpi5
import Derived.Test.YtfihhhbdhppemaaGreatDoorKpi6
import Derived.Test.YtfihhhbdhppemaaGreatDoorKpi7
import Derived.Test.YtfihhhbdhppemaaGreatDoorKpi8
import Derived.Test.YtfihhhbdhppemaaGreatDoorKpi9
import Derived.Test.YtfihhhbdhppemaaGreatDoorKpi10
import Derived.Test.YtfihhhbdhppemaaGreatDoorKpi11
import Derived.Test.YtfihhhbdhppemaaGreatDoorKpi12
import Derived.Test.YtfihhhbdhppemaaGreatDoorKpi13
import Derived.Test.YtfihhhbdhppemaaGreatDoorKpi14
import Derived.Test.YtfihhhbdhppemaaGreatDoorKpi15
import Derived.Test.YtfihhhbdhppemaaGreatDoorKpi16
import Derived.Test.YtfihhhbdhppemaaGreatDoorKpi17
import Derived.Test.YtfihhhbdhppemaaGreatDoorKpi18
import Derived.Test.YtfihhhbdhppemaaGreatDoorKpi19
import Derived.Test.YtfihhhbdhppemaaGreatDoorKpi20
import Derived.Test.YtfihhhbdhppemaaGreatDoorKpi21
import Derived.Test.YtfihhhbdhppemaaGreatDoorKpi22
import Derived.Test.YtfihhhbdhppemaaGreatDoorKpi23
import Derived.Test.YtfihhhbdhppemaaGreatDoorKpi24
import Derived.Test.YtfihhhbdhppemaaGreatDoorKpi25
import Derived.Test.YtfihhhbdhppemaaGreatDoorKpi26
import Derived.Test.YtfihhhbdhppemaaGreatDoorKpi27
import Derived.Test.YtfihhhbdhppemaaGreatDoorKpi28
import Derived.Test.YtfihhhbdhppemaaGreatDoorKpi29
import Derived.Test.YtfihhhbdhppemaaGreatDoorKpi30
import Derived.Test.YtfihhhbdhppemaaGreatDoorKpi31
import Derived.Test.YtfihhhbdhppemaaGreatDoorKpi32
import Derived.Test.YtfihhhbdhppemaaGreatDoorKpi33
import Derived.Test.YtfihhhbdhppemaaGreatDoorKpi34
import Derived.Test.YtfihhhbdhppemaaGreatDoorRows
import Derived.WalkKit
import Derived.LoopTactic
import Derived.Laws.Bits64b
import Derived.WalkSpells
import Derived.WalkLawsBesides
import Derived.StillTactics
import Derived.Laws.Pointers
import Derived.Deep.RegionHeld3
import Derived.Deep.QuietTactic
import Derived.BigQuiet
import Derived.Outline
import Derived.Lib.Hide
import Derived.RowKit3
import Derived.Carry
import Derived.IntWalk
import Derived.Handy
import Derived.LoopN
import Derived.Laws.OwnMore
import Derived.OwnWalk
import Derived.Deep.AppendLies
import Derived.Laws.EntriesVeiled
namespace Go.Proofs.YtfihhhbdhppemaaGreatDoor
open Go Go.RowKit
set_option linter.unusedSimpArgs false
set_option linter.unusedVariables false
set_option maxRecDepth 100000

theorem sm_num {e f s m : Int} (hg : goodB e f = true) (s0 : 0 ≤ s) (s1 : s ≤ inV e f) (hm : m = 0 ∨ m = 1) : numB e f (s + m * pw (e + f)) = true := by
  obtain ⟨i0, i1, i2⟩ := in_bd hg
  rcases hm with rfl | rfl
  · rw [Int.zero_mul, Int.add_zero]
    exact num_mag.2 ⟨pat_iff.2 ⟨hg, s0, by omega⟩, by rw [Int.emod_eq_of_lt s0 (by omega)]; exact s1⟩
  · rw [Int.one_mul]
    exact num_mag.2 ⟨pat_iff.2 ⟨hg, by omega, by omega⟩, by rw [Int.add_emod_right, Int.emod_eq_of_lt s0 (by omega)]; exact s1⟩

theorem sg_num {e f n s : Int} (hg : goodB e f = true) (s0 : 0 ≤ s) (s1 : s ≤ inV e f) : numB e f (sgP e f n s) = true := by
  unfold sgP
  split
  · have := sm_num (m := 1) hg s0 s1 (.inr rfl)
    rwa [Int.one_mul, Int.add_comm] at this
  · have := sm_num (m := 0) hg s0 s1 (.inl rfl)
    rwa [Int.zero_mul, Int.add_zero] at this

theorem kind_num {e f p : Int} (hp : patB e f p = true) (h : kindV e f p ≠ 4) : numB e f p = true := by
  rw [← (kind_lt e f p hp).2, decide_eq_true_eq]
  have : kindV e f p ≤ 4 := by
    unfold kindV
    split
    · split <;> omega
    · split
      · omega
      · split <;> omega
  omega

theorem num_kind {e f p : Int} (hn : numB e f p = true) : kindV e f p ≠ 4 := by
  have := (kind_lt e f p (num_mag.1 hn).1).2
  rw [hn, decide_eq_true_eq] at this
  omega

theorem in_gr (e f : Int) : inV e f = grV e f + 1 := by unfold inV grV; omega

theorem rnd_top2 {e f X D mode s : Int} {neg : Bool} (h : IsRnd f (grV e f) X D mode neg s) : 0 ≤ s ∧ s ≤ grV e f + 1 := by
  obtain ⟨p, ⟨p0, p1, _⟩, rfl⟩ := h
  unfold rndP
  split
  · omega
  · split <;> omega

theorem sign_or {e f p : Int} (hp : patB e f p = true) : p / pw (e + f) = 0 ∨ p / pw (e + f) = 1 := by
  rcases (pat_parts hp).2 with ⟨_, _, h, _⟩ | ⟨_, _, h, _⟩
  · exact .inl h
  · exact .inr h

/-- A sum that is not quiet is a number. -/
theorem pl_num {e f a b mode r : Int} (ha : patB e f a = true) (hb : patB e f b = true) (hq : ¬ pqP e f a b) (h : PlD e f a b mode r) : numB e f r = true := by
  have hg := (pat_iff.1 ha).1
  rcases h with ⟨h, _⟩ | ⟨_, h, rfl⟩ | ⟨_, _, h, rfl⟩ | ⟨_, _, _, rfl⟩ | ⟨_, _, _, s, rfl, h⟩
  · exact absurd h hq
  · exact kind_num ha (by omega)
  · exact kind_num hb (by omega)
  · have hz : zsV e f a b mode = 0 ∨ zsV e f a b mode = 1 := by
      unfold zsV
      split
      · exact sign_or ha
      · split
        · exact .inr rfl
        · exact .inl rfl
    have := sm_num (s := 0) hg (Int.le_refl _) (by have := in_bd hg; omega) hz
    rwa [Int.zero_add] at this
  · obtain ⟨s0, s1⟩ := rnd_top2 h
    exact sg_num hg s0 (by rw [in_gr]; exact s1)

/-- The sum, as a function. -/
noncomputable def plF (e f a b mode : Int) : Int := Classical.epsilon (fun r => PlD e f a b mode r)

theorem pl_ex {e f a b mode : Int} (ha : patB e f a = true) (hb : patB e f b = true) (m0 : 0 ≤ mode) (m1 : mode ≤ 5) (w : World) : PlD e f a b mode (plF e f a b mode) := by
  obtain ⟨_, _, _, ⟨r, _, hd, _⟩, _⟩ := arPlus_any e f a b mode ha hb m0 m1 w []
  exact Classical.epsilon_spec (p := fun r => PlD e f a b mode r) ⟨r, hd⟩

theorem arPlus_fn (e f a b mode : Int) (ha : patB e f a = true) (hb : patB e f b = true) (m0 : 0 ≤ mode) (m1 : mode ≤ 5) (w : World) : Calls Tryz.prog 67 #[fmt e f, .int .i64 a, .int .i64 b, .int .i64 mode] w fun rv w' => rv = .returned (.int .i64 (plF e f a b mode)) ∧ Ext w w' := by
  have hp := pl_ex ha hb m0 m1 w
  refine (arPlus_any e f a b mode ha hb m0 m1 w).mono ?_
  rintro rv w' ⟨r, rfl, hd, hx⟩
  obtain rfl := pl_one (pat_iff.1 ha).1 hd hp
  exact ⟨rfl, hx⟩

theorem iPlus_fn (e f a b mode : Int) (ha : patB e f a = true) (hb : patB e f b = true) (m0 : 0 ≤ mode) (m1 : mode ≤ 5) (w : World) (hT : TW w) : Calls Tryz.prog 39 #[fmt e f, .int .i64 a, .int .i64 b, .int .i64 mode] w fun rv w' => rv = .returned (.tuple #[.int .i64 (plF e f a b mode), .bool true]) ∧ Ext w w' := by
  have hp := pl_ex ha hb m0 m1 w
  refine (iPlusOf_yes e f a b mode (ab_iff.2 ⟨ha, hb, m0, m1⟩) w hT).mono ?_
  rintro rv w' ⟨r, rfl, hd, hx⟩
  obtain rfl := pl_one (pat_iff.1 ha).1 hd hp
  exact ⟨rfl, hx⟩

theorem pat_neg {e f p : Int} (hp : patB e f p = true) : patB e f (negV e f p) = true := by
  obtain ⟨hg, p0, p1⟩ := pat_iff.1 hp
  rcases (pat_parts hp).2 with ⟨a, b, c, d⟩ | ⟨a, b, c, d⟩
  · unfold negV; rw [c, d]; exact pat_iff.2 ⟨hg, by omega, by omega⟩
  · unfold negV; rw [c, d]; exact pat_iff.2 ⟨hg, by omega, by omega⟩

theorem iLess_fn (e f a b mode : Int) (ha : patB e f a = true) (hb : patB e f b = true) (m0 : 0 ≤ mode) (m1 : mode ≤ 5) (w : World) (hT : TW w) : Calls Tryz.prog 42 #[fmt e f, .int .i64 a, .int .i64 b, .int .i64 mode] w fun rv w' => rv = .returned (.tuple #[.int .i64 (plF e f a (negV e f b) mode), .bool true]) ∧ Ext w w' := by
  have hp := pl_ex ha (pat_neg hb) m0 m1 w
  refine (iLessOf_yes e f a b mode (ab_iff.2 ⟨ha, hb, m0, m1⟩) w hT).mono ?_
  rintro rv w' ⟨r, rfl, hd, hx⟩
  obtain rfl := pl_one (pat_iff.1 ha).1 hd hp
  exact ⟨rfl, hx⟩

set_option maxHeartbeats 3200000 in
theorem both_Plus (e f a b c d : Int) (ha : patB e f a = true) (hb : patB e f b = true) (hc : patB e f c = true) (hd : patB e f d = true) (w : World) (hT : TW w) :
    Calls Tryz.prog 38 #[fmt e f, .func (.func 39) #[] #[], two a b, two c d] w fun rv w' => rv = .returned (two (enV e f (plF e f a b 4)) (enV e f (plF e f c d 3))) ∧ Ext w w' := by
  have L1 := Lib.hid (fun w hT => iPlus_fn e f a b 4 ha hb (by decide) (by decide) w hT)
  have H1 := Lib.hid (fun w hT => iPlus_fn e f c d 3 hc hd (by decide) (by decide) w hT)
  have WE := Lib.hid (fun w => withEnds_any e f (plF e f a b 4) (plF e f c d 3) w)
  clear ha hb hc hd
  generalize enV e f (plF e f a b 4) = u at *
  generalize enV e f (plF e f c d 3) = v at *
  generalize plF e f a b 4 = p at *
  generalize plF e f c d 3 = q at *
  go_enter Tryz.func38, Tryz.ntmps38
  go_wp2_with (first | (go_at_call 39; (with_reducible refine (L1.out _ (hT.ext Ext.auK)).mono ?_); rintro rv w1 ⟨rfl, hb⟩; have ns : w.heap.size + 3 < w1.heap.size := hb.ltK; have n0 : w1.cell? ⟨w.heap.size, 0, none⟩ = some (.int .i64 e) := hb.cellK; have n1 : w1.cell? ⟨w.heap.size, 1, none⟩ = some (.int .i64 f) := hb.cellK; have n2 : w1.cell? ⟨w.heap.size + 1, 0, none⟩ = some (.int .i64 a) := hb.cellK; have n3 : w1.cell? ⟨w.heap.size + 1, 1, none⟩ = some (.int .i64 b) := hb.cellK; have n4 : w1.cell? ⟨w.heap.size + 2, 0, none⟩ = some (.int .i64 c) := hb.cellK; have n5 : w1.cell? ⟨w.heap.size + 2, 1, none⟩ = some (.int .i64 d) := hb.cellK; have n6 : w1.cell? ⟨w.heap.size + 3, 0, none⟩ = some (.int .i64 0) := hb.cellK; have n7 : w1.cell? ⟨w.heap.size + 3, 1, none⟩ = some (.int .i64 0) := hb.cellK; have nz0 : w1.frozen? ⟨w.heap.size + 3, 0, none⟩ = false := hb.frzK; have nz1 : w1.frozen? ⟨w.heap.size + 3, 1, none⟩ = false := hb.frzK; (first | (have nx := Ext.trans hx hb; clear hx) | (have nx := Ext.trans (hx.alloc _) hb; clear hx) | (have nx := Ext.trans hx.drew hb; clear hx) | have nx := hb); clear hb; try clear hs; try clear g0; try clear g1; try clear g2; try clear g3; try clear g4; try clear g5; try clear g6; try clear g7; try clear z0; try clear z1; have hx := nx; clear nx; have hs := ns; clear ns; have g0 := n0; clear n0; have g1 := n1; clear n1; have g2 := n2; clear n2; have g3 := n3; clear n3; have g4 := n4; clear n4; have g5 := n5; clear n5; have g6 := n6; clear n6; have g7 := n7; clear n7; have z0 := nz0; clear nz0; have z1 := nz1; clear nz1) | (go_at_call 39; (with_reducible refine (H1.out _ (hT.ext Ext.auK)).mono ?_); rintro rv w1 ⟨rfl, hb⟩; have ns : w.heap.size + 3 < w1.heap.size := hb.ltK; have n0 : w1.cell? ⟨w.heap.size, 0, none⟩ = some (.int .i64 e) := hb.cellK; have n1 : w1.cell? ⟨w.heap.size, 1, none⟩ = some (.int .i64 f) := hb.cellK; have n2 : w1.cell? ⟨w.heap.size + 1, 0, none⟩ = some (.int .i64 a) := hb.cellK; have n3 : w1.cell? ⟨w.heap.size + 1, 1, none⟩ = some (.int .i64 b) := hb.cellK; have n4 : w1.cell? ⟨w.heap.size + 2, 0, none⟩ = some (.int .i64 c) := hb.cellK; have n5 : w1.cell? ⟨w.heap.size + 2, 1, none⟩ = some (.int .i64 d) := hb.cellK; have n6 : w1.cell? ⟨w.heap.size + 3, 0, none⟩ = some (.int .i64 0) := hb.cellK; have n7 : w1.cell? ⟨w.heap.size + 3, 1, none⟩ = some (.int .i64 0) := hb.cellK; have nz0 : w1.frozen? ⟨w.heap.size + 3, 0, none⟩ = false := hb.frzK; have nz1 : w1.frozen? ⟨w.heap.size + 3, 1, none⟩ = false := hb.frzK; (first | (have nx := Ext.trans hx hb; clear hx) | (have nx := Ext.trans (hx.alloc _) hb; clear hx) | (have nx := Ext.trans hx.drew hb; clear hx) | have nx := hb); clear hb; try clear hs; try clear g0; try clear g1; try clear g2; try clear g3; try clear g4; try clear g5; try clear g6; try clear g7; try clear z0; try clear z1; have hx := nx; clear nx; have hs := ns; clear ns; have g0 := n0; clear n0; have g1 := n1; clear n1; have g2 := n2; clear n2; have g3 := n3; clear n3; have g4 := n4; clear n4; have g5 := n5; clear n5; have g6 := n6; clear n6; have g7 := n7; clear n7; have z0 := nz0; clear nz0; have z1 := nz1; clear nz1) | (go_at_call 54; refine (WE.out _).mono ?_; rintro rv w1 ⟨rfl, hb⟩; have ns : w.heap.size + 3 < w1.heap.size := hb.ltK; have n0 : w1.cell? ⟨w.heap.size, 0, none⟩ = some (.int .i64 e) := hb.cellK; have n1 : w1.cell? ⟨w.heap.size, 1, none⟩ = some (.int .i64 f) := hb.cellK; have n2 : w1.cell? ⟨w.heap.size + 1, 0, none⟩ = some (.int .i64 a) := hb.cellK; have n3 : w1.cell? ⟨w.heap.size + 1, 1, none⟩ = some (.int .i64 b) := hb.cellK; have n4 : w1.cell? ⟨w.heap.size + 2, 0, none⟩ = some (.int .i64 c) := hb.cellK; have n5 : w1.cell? ⟨w.heap.size + 2, 1, none⟩ = some (.int .i64 d) := hb.cellK; have n6 : w1.cell? ⟨w.heap.size + 3, 0, none⟩ = some (.int .i64 0) := hb.cellK; have n7 : w1.cell? ⟨w.heap.size + 3, 1, none⟩ = some (.int .i64 0) := hb.cellK; have nz0 : w1.frozen? ⟨w.heap.size + 3, 0, none⟩ = false := hb.frzK; have nz1 : w1.frozen? ⟨w.heap.size + 3, 1, none⟩ = false := hb.frzK; (first | (have nx := Ext.trans hx hb; clear hx) | (have nx := Ext.trans (hx.alloc _) hb; clear hx) | (have nx := Ext.trans hx.drew hb; clear hx) | have nx := hb); clear hb; try clear hs; try clear g0; try clear g1; try clear g2; try clear g3; try clear g4; try clear g5; try clear g6; try clear g7; try clear z0; try clear z1; have hx := nx; clear nx; have hs := ns; clear ns; have g0 := n0; clear n0; have g1 := n1; clear n1; have g2 := n2; clear n2; have g3 := n3; clear n3; have g4 := n4; clear n4; have g5 := n5; clear n5; have g6 := n6; clear n6; have g7 := n7; clear n7; have z0 := nz0; clear nz0; have z1 := nz1; clear nz1))
  exact bodyPost_ret (v := two u v) (by simp [results, Tryz.results38, go_sem, *]) rfl ⟨rfl, Ext.auK⟩

set_option maxHeartbeats 3200000 in
theorem both_Less (e f a b c d : Int) (ha : patB e f a = true) (hb : patB e f b = true) (hc : patB e f c = true) (hd : patB e f d = true) (w : World) (hT : TW w) :
    Calls Tryz.prog 38 #[fmt e f, .func (.func 42) #[] #[], two a b, two c d] w fun rv w' => rv = .returned (two (enV e f (plF e f a (negV e f b) 4)) (enV e f (plF e f c (negV e f d) 3))) ∧ Ext w w' := by
  have L1 := Lib.hid (fun w hT => iLess_fn e f a b 4 ha hb (by decide) (by decide) w hT)
  have H1 := Lib.hid (fun w hT => iLess_fn e f c d 3 hc hd (by decide) (by decide) w hT)
  have WE := Lib.hid (fun w => withEnds_any e f (plF e f a (negV e f b) 4) (plF e f c (negV e f d) 3) w)
  clear ha hb hc hd
  generalize enV e f (plF e f a (negV e f b) 4) = u at *
  generalize enV e f (plF e f c (negV e f d) 3) = v at *
  generalize plF e f a (negV e f b) 4 = p at *
  generalize plF e f c (negV e f d) 3 = q at *
  go_enter Tryz.func38, Tryz.ntmps38
  go_wp2_with (first | (go_at_call 42; (with_reducible refine (L1.out _ (hT.ext Ext.auK)).mono ?_); rintro rv w1 ⟨rfl, hb⟩; have ns : w.heap.size + 3 < w1.heap.size := hb.ltK; have n0 : w1.cell? ⟨w.heap.size, 0, none⟩ = some (.int .i64 e) := hb.cellK; have n1 : w1.cell? ⟨w.heap.size, 1, none⟩ = some (.int .i64 f) := hb.cellK; have n2 : w1.cell? ⟨w.heap.size + 1, 0, none⟩ = some (.int .i64 a) := hb.cellK; have n3 : w1.cell? ⟨w.heap.size + 1, 1, none⟩ = some (.int .i64 b) := hb.cellK; have n4 : w1.cell? ⟨w.heap.size + 2, 0, none⟩ = some (.int .i64 c) := hb.cellK; have n5 : w1.cell? ⟨w.heap.size + 2, 1, none⟩ = some (.int .i64 d) := hb.cellK; have n6 : w1.cell? ⟨w.heap.size + 3, 0, none⟩ = some (.int .i64 0) := hb.cellK; have n7 : w1.cell? ⟨w.heap.size + 3, 1, none⟩ = some (.int .i64 0) := hb.cellK; have nz0 : w1.frozen? ⟨w.heap.size + 3, 0, none⟩ = false := hb.frzK; have nz1 : w1.frozen? ⟨w.heap.size + 3, 1, none⟩ = false := hb.frzK; (first | (have nx := Ext.trans hx hb; clear hx) | (have nx := Ext.trans (hx.alloc _) hb; clear hx) | (have nx := Ext.trans hx.drew hb; clear hx) | have nx := hb); clear hb; try clear hs; try clear g0; try clear g1; try clear g2; try clear g3; try clear g4; try clear g5; try clear g6; try clear g7; try clear z0; try clear z1; have hx := nx; clear nx; have hs := ns; clear ns; have g0 := n0; clear n0; have g1 := n1; clear n1; have g2 := n2; clear n2; have g3 := n3; clear n3; have g4 := n4; clear n4; have g5 := n5; clear n5; have g6 := n6; clear n6; have g7 := n7; clear n7; have z0 := nz0; clear nz0; have z1 := nz1; clear nz1) | (go_at_call 42; (with_reducible refine (H1.out _ (hT.ext Ext.auK)).mono ?_); rintro rv w1 ⟨rfl, hb⟩; have ns : w.heap.size + 3 < w1.heap.size := hb.ltK; have n0 : w1.cell? ⟨w.heap.size, 0, none⟩ = some (.int .i64 e) := hb.cellK; have n1 : w1.cell? ⟨w.heap.size, 1, none⟩ = some (.int .i64 f) := hb.cellK; have n2 : w1.cell? ⟨w.heap.size + 1, 0, none⟩ = some (.int .i64 a) := hb.cellK; have n3 : w1.cell? ⟨w.heap.size + 1, 1, none⟩ = some (.int .i64 b) := hb.cellK; have n4 : w1.cell? ⟨w.heap.size + 2, 0, none⟩ = some (.int .i64 c) := hb.cellK; have n5 : w1.cell? ⟨w.heap.size + 2, 1, none⟩ = some (.int .i64 d) := hb.cellK; have n6 : w1.cell? ⟨w.heap.size + 3, 0, none⟩ = some (.int .i64 0) := hb.cellK; have n7 : w1.cell? ⟨w.heap.size + 3, 1, none⟩ = some (.int .i64 0) := hb.cellK; have nz0 : w1.frozen? ⟨w.heap.size + 3, 0, none⟩ = false := hb.frzK; have nz1 : w1.frozen? ⟨w.heap.size + 3, 1, none⟩ = false := hb.frzK; (first | (have nx := Ext.trans hx hb; clear hx) | (have nx := Ext.trans (hx.alloc _) hb; clear hx) | (have nx := Ext.trans hx.drew hb; clear hx) | have nx := hb); clear hb; try clear hs; try clear g0; try clear g1; try clear g2; try clear g3; try clear g4; try clear g5; try clear g6; try clear g7; try clear z0; try clear z1; have hx := nx; clear nx; have hs := ns; clear ns; have g0 := n0; clear n0; have g1 := n1; clear n1; have g2 := n2; clear n2; have g3 := n3; clear n3; have g4 := n4; clear n4; have g5 := n5; clear n5; have g6 := n6; clear n6; have g7 := n7; clear n7; have z0 := nz0; clear nz0; have z1 := nz1; clear nz1) | (go_at_call 54; refine (WE.out _).mono ?_; rintro rv w1 ⟨rfl, hb⟩; have ns : w.heap.size + 3 < w1.heap.size := hb.ltK; have n0 : w1.cell? ⟨w.heap.size, 0, none⟩ = some (.int .i64 e) := hb.cellK; have n1 : w1.cell? ⟨w.heap.size, 1, none⟩ = some (.int .i64 f) := hb.cellK; have n2 : w1.cell? ⟨w.heap.size + 1, 0, none⟩ = some (.int .i64 a) := hb.cellK; have n3 : w1.cell? ⟨w.heap.size + 1, 1, none⟩ = some (.int .i64 b) := hb.cellK; have n4 : w1.cell? ⟨w.heap.size + 2, 0, none⟩ = some (.int .i64 c) := hb.cellK; have n5 : w1.cell? ⟨w.heap.size + 2, 1, none⟩ = some (.int .i64 d) := hb.cellK; have n6 : w1.cell? ⟨w.heap.size + 3, 0, none⟩ = some (.int .i64 0) := hb.cellK; have n7 : w1.cell? ⟨w.heap.size + 3, 1, none⟩ = some (.int .i64 0) := hb.cellK; have nz0 : w1.frozen? ⟨w.heap.size + 3, 0, none⟩ = false := hb.frzK; have nz1 : w1.frozen? ⟨w.heap.size + 3, 1, none⟩ = false := hb.frzK; (first | (have nx := Ext.trans hx hb; clear hx) | (have nx := Ext.trans (hx.alloc _) hb; clear hx) | (have nx := Ext.trans hx.drew hb; clear hx) | have nx := hb); clear hb; try clear hs; try clear g0; try clear g1; try clear g2; try clear g3; try clear g4; try clear g5; try clear g6; try clear g7; try clear z0; try clear z1; have hx := nx; clear nx; have hs := ns; clear ns; have g0 := n0; clear n0; have g1 := n1; clear n1; have g2 := n2; clear n2; have g3 := n3; clear n3; have g4 := n4; clear n4; have g5 := n5; clear n5; have g6 := n6; clear n6; have g7 := n7; clear n7; have z0 := nz0; clear nz0; have z1 := nz1; clear nz1))
  exact bodyPost_ret (v := two u v) (by simp [results, Tryz.results38, go_sem, *]) rfl ⟨rfl, Ext.auK⟩
end Go.Proofs.YtfihhhbdhppemaaGreatDoor

namespace Go.Proofs.YtfihhhbdhppemaaGreatDoor
open Go Go.RowKit
set_option linter.unusedSimpArgs false
set_option linter.unusedVariables false
set_option maxRecDepth 100000

theorem kind3 {e f p : Int} (hp : patB e f p = true) (h : kindV e f p = 3) : p % pw (e + f) = inV e f := by
  have q := kind_lt e f p hp
  rw [h] at q
  have n1 := (num_mag.1 (show numB e f p = true from q.2 ▸ rfl)).2
  have n2 : ¬ p % pw (e + f) < inV e f := fun hl => by
    have := fin_mag2.2 ⟨hp, hl⟩
    rw [← q.1] at this; cases this
  omega

/-- An infinite Low is minus infinite, an infinite High plus infinite. -/
theorem low_sign {e f a b : Int} (h : ivB e f a b = true) (hk : kindV e f a = 3) : a / pw (e + f) = 1 := by
  obtain ⟨ha, hb, hle, hne⟩ := iv_parts h
  have pa := (iv_pats h).1
  have m := kind3 pa hk
  have nf : finB e f a = false := by rw [← (kind_lt e f a pa).1, hk]; rfl
  rw [nf] at hne
  have hne2 : ¬ a = b := by rcases hne with q | q; · simpa using q
                            · cases q
  obtain ⟨hg, _, _, ca⟩ := en_parts ha
  obtain ⟨_, _, _, cb⟩ := en_parts hb
  obtain ⟨i0, i1, i2⟩ := in_bd hg
  rcases (pat_parts pa).2 with ⟨p0, p1, p2, p3⟩ | ⟨p0, p1, p2, p3⟩
  · exfalso
    rcases ca with ⟨_, _, ea, _, _, _⟩ | ⟨q, _⟩
    · rcases cb with ⟨_, _, eb, _, _, _⟩ | ⟨_, _, eb, _, _⟩ <;> omega
    · omega
  · exact p2

theorem high_sign {e f a b : Int} (h : ivB e f a b = true) (hk : kindV e f b = 3) : b / pw (e + f) = 0 := by
  obtain ⟨ha, hb, hle, hne⟩ := iv_parts h
  have pb := (iv_pats h).2
  have m := kind3 pb hk
  obtain ⟨hg, _, _, ca⟩ := en_parts ha
  obtain ⟨_, _, _, cb⟩ := en_parts hb
  obtain ⟨i0, i1, i2⟩ := in_bd hg
  rcases (pat_parts pb).2 with ⟨p0, p1, p2, p3⟩ | ⟨p0, p1, p2, p3⟩
  · exact p2
  · exfalso
    have hab : a = b := by
      rcases ca with ⟨_, _, ea, _, _, _⟩ | ⟨_, _, ea, _, _⟩ <;> rcases cb with ⟨_, _, eb, _, _, _⟩ | ⟨_, _, eb, _, _⟩ <;> omega
    rw [hab] at hne
    have nf : finB e f b = false := by rw [← (kind_lt e f b pb).1, hk]; rfl
    rw [nf] at hne
    rcases hne with q | q
    · simp at q
    · cases q

theorem neg_parts {e f p : Int} (hp : patB e f p = true) : negV e f p / pw (e + f) = 1 - p / pw (e + f) ∧ negV e f p % pw (e + f) = p % pw (e + f) := by
  have hP := pw_pos (e + f)
  unfold negV
  rcases (pat_parts hp).2 with ⟨p0, p1, p2, p3⟩ | ⟨p0, p1, p2, p3⟩
  · rw [p2, p3]
    have e1 : (1 - 0) * pw (e + f) + p = p + 1 * pw (e + f) := by omega
    rw [e1, Int.add_mul_ediv_right _ _ (by omega), Int.ediv_eq_zero_of_lt p0 p1, Int.one_mul, Int.add_emod_right, Int.emod_eq_of_lt p0 p1]
    exact ⟨rfl, rfl⟩
  · rw [p2, p3]
    have e1 : (1 - 1) * pw (e + f) + (p - pw (e + f)) = p - pw (e + f) := by omega
    rw [e1, Int.ediv_eq_zero_of_lt (by omega) (by omega), Int.emod_eq_of_lt (by omega) (by omega)]
    exact ⟨rfl, rfl⟩

theorem kind_mag {e f p q : Int} (hp : patB e f p = true) (h : p % pw (e + f) = q % pw (e + f)) : kindV e f p = kindV e f q := by
  obtain ⟨i1, i2, i3, i4⟩ := good_iff.1 (pat_iff.1 hp).1
  have hd : pw f ∣ pw (e + f) := ⟨pw e, by rw [pw_add e f (by omega) (by omega), Int.mul_comm]⟩
  have e1 : p % pw f = q % pw f := by rw [← Int.emod_emod_of_dvd p hd, ← Int.emod_emod_of_dvd q hd, h]
  unfold kindV
  rw [h, e1]

theorem kind_neg {e f p : Int} (hp : patB e f p = true) : kindV e f (negV e f p) = kindV e f p := kind_mag (pat_neg hp) (neg_parts hp).2

theorem end_kind {e f p : Int} (h : enB e f p = true) : kindV e f p ≠ 4 := num_kind (en_parts h).2.1

theorem pq_plus {e f a b c d : Int} (h : ivB e f a b = true) (h2 : ivB e f c d = true) : ¬ pqP e f a c ∧ ¬ pqP e f b d := by
  obtain ⟨ha, hb, _⟩ := iv_parts h
  obtain ⟨hc, hd, _⟩ := iv_parts h2
  refine ⟨?_, ?_⟩
  · rintro (q | q | ⟨q, r, s⟩)
    · exact end_kind ha q
    · exact end_kind hc q
    · exact s ((low_sign h q).trans (low_sign h2 r).symm)
  · rintro (q | q | ⟨q, r, s⟩)
    · exact end_kind hb q
    · exact end_kind hd q
    · exact s ((high_sign h q).trans (high_sign h2 r).symm)

theorem pq_less {e f a b c d : Int} (h : ivB e f a b = true) (h2 : ivB e f c d = true) : ¬ pqP e f a (negV e f d) ∧ ¬ pqP e f b (negV e f c) := by
  obtain ⟨ha, hb, _⟩ := iv_parts h
  obtain ⟨hc, hd, _⟩ := iv_parts h2
  have pc := (iv_pats h2).1
  have pd := (iv_pats h2).2
  refine ⟨?_, ?_⟩
  · rintro (q | q | ⟨q, r, s⟩)
    · exact end_kind ha q
    · rw [kind_neg pd] at q; exact end_kind hd q
    · rw [kind_neg pd] at r
      rw [(neg_parts pd).1, low_sign h q, high_sign h2 r] at s
      exact s rfl
  · rintro (q | q | ⟨q, r, s⟩)
    · exact end_kind hb q
    · rw [kind_neg pc] at q; exact end_kind hc q
    · rw [kind_neg pc] at r
      rw [(neg_parts pc).1, high_sign h q, low_sign h2 r] at s
      exact s rfl

theorem en_zero {e f p : Int} (hp : patB e f p = true) (hz : p % pw (e + f) = 0) : enV e f p = 0 := by
  unfold enV; rw [zer_mag.2 ⟨hp, hz⟩]; rfl

theorem zero_kind {e f p : Int} (hp : patB e f p = true) (hz : p % pw (e + f) = 0) : kindV e f p = 0 ∧ unitsV e f p = 0 := by
  have h0 : kindV e f p = 0 := by
    have := kind_zer hp
    rw [hz] at this
    simpa using this
  rcases kind_parts hp with ⟨q, _⟩ | ⟨q, _⟩ | ⟨q, _, r⟩ | ⟨q, _⟩
  · omega
  · omega
  · exact ⟨h0, r⟩
  · omega

/-- Whether a zero that is added has a sign or not tells nothing but the sign of a zero. -/
theorem pl_izero {e f a q mode : Int} (ha : patB e f a = true) (hq : patB e f q = true) (m0 : 0 ≤ mode) (m1 : mode ≤ 5) (h4 : kindV e f a ≠ 4) (w : World) : enV e f (plF e f a (izV e f q) mode) = enV e f (plF e f a q mode) := by
  by_cases hz : q % pw (e + f) = 0
  · have e0 : izV e f q = 0 := by unfold izV; rw [hz]; rfl
    rw [e0]
    have hg := (pat_iff.1 hq).1
    have hP := pw_pos (e + f)
    have p0 : patB e f 0 = true := pat_iff.2 ⟨hg, Int.le_refl _, by omega⟩
    obtain ⟨k0, u0⟩ := zero_kind p0 (Int.zero_emod _)
    obtain ⟨k1, u1⟩ := zero_kind hq hz
    have d0 := pl_ex (mode := mode) ha p0 m0 m1 w
    have d1 := pl_ex (mode := mode) ha hq m0 m1 w
    have n0 : ¬ pqP e f a 0 := by rintro (q | q | ⟨q, r, s⟩) <;> omega
    have n1 : ¬ pqP e f a q := by rintro (q | q | ⟨q, r, s⟩) <;> omega
    by_cases hs : kindV e f a < 3 ∧ unitsV e f a = 0
    · have key : ∀ r x, patB e f x = true → kindV e f x = 0 → unitsV e f x = 0 → PlD e f a x mode r → enV e f r = 0 := by
        intro r x hx kx ux hd
        rcases hd with ⟨h, _⟩ | ⟨_, h, _⟩ | ⟨_, _, h, _⟩ | ⟨_, _, _, rfl⟩ | ⟨_, _, h, _⟩
        · exfalso; rcases h with h | h | ⟨h, h2, _⟩ <;> omega
        · omega
        · omega
        · have hzs : zsV e f a x mode = 0 ∨ zsV e f a x mode = 1 := by
            unfold zsV
            split
            · exact sign_or ha
            · split
              · exact .inr rfl
              · exact .inl rfl
          have hn := sm_num (s := 0) hg (Int.le_refl _) (by have := in_bd hg; omega) hzs
          rw [Int.zero_add] at hn
          exact en_zero (num_mag.1 hn).1 (Int.mul_emod_left _ _)
        · exfalso; apply h; rw [hs.2, ux]; rfl
      rw [key _ _ p0 k0 u0 d0, key _ _ hq k1 u1 d1]
    · have key : PlD e f a q mode (plF e f a 0 mode) := by
        rcases d0 with ⟨h, _⟩ | ⟨_, h, r⟩ | ⟨_, _, h, _⟩ | ⟨h, _, h2, _⟩ | ⟨h, h2, h3, s, r1, r2⟩
        · exact absurd h n0
        · exact .inr (.inl ⟨n1, h, r⟩)
        · omega
        · exfalso; apply hs; exact ⟨h, by rw [u0, Int.add_zero] at h2; exact h2⟩
        · have es : unitsV e f a + unitsV e f 0 = unitsV e f a + unitsV e f q := by rw [u0, u1]
          rw [es] at h3 r1 r2
          exact .inr (.inr (.inr (.inr ⟨h, by omega, h3, s, r1, r2⟩)))
      rw [pl_one hg key d1]
  · have e0 : izV e f q = q := by unfold izV; rw [if_neg (by simpa using hz)]
    rw [e0]

set_option maxHeartbeats 3200000 in
theorem ivPlus_any (e f a b c d : Int) (pa : patB e f a = true) (pb : patB e f b = true) (pc : patB e f c = true) (pd : patB e f d = true) (n1 : ¬ pqP e f a c) (n2 : ¬ pqP e f b d) (w : World) : Calls Tryz.prog 36 #[fmt e f, two a b, two c d] w fun rv w' => rv = .returned (two (enV e f (plF e f a c 4)) (enV e f (plF e f b d 3))) ∧ Ext w w' := by
  have h1 := pl_num pa pc n1 (pl_ex (mode := 4) pa pc (by decide) (by decide) w)
  have h2 := pl_num pb pd n2 (pl_ex (mode := 3) pb pd (by decide) (by decide) w)
  have L1 := Lib.hid (fun w => arPlus_fn e f a c 4 pa pc (by decide) (by decide) w)
  have H1 := Lib.hid (fun w => arPlus_fn e f b d 3 pb pd (by decide) (by decide) w)
  have IO := Lib.hid (fun w => ivOf_any e f (plF e f a c 4) (plF e f b d 3) (num_mag.1 h1).1 (num_mag.1 h2).1 w)
  rw [iz_en h1, iz_en h2] at IO
  clear pa pb pc pd n1 n2 h1 h2
  generalize enV e f (plF e f a c 4) = u at *
  generalize enV e f (plF e f b d 3) = v at *
  generalize plF e f a c 4 = p at *
  generalize plF e f b d 3 = q at *
  go_enter Tryz.func36, Tryz.ntmps36
  go_wp2_with fail
  go_region_held3 (fun w' => w'.cell? ⟨w.heap.size, 0, none⟩ = some (.int .i64 e) ∧ w'.cell? ⟨w.heap.size, 1, none⟩ = some (.int .i64 f) ∧ w'.cell? ⟨w.heap.size + 1, 0, none⟩ = some (.int .i64 a) ∧ w'.cell? ⟨w.heap.size + 1, 1, none⟩ = some (.int .i64 b) ∧ w'.cell? ⟨w.heap.size + 2, 0, none⟩ = some (.int .i64 c) ∧ w'.cell? ⟨w.heap.size + 2, 1, none⟩ = some (.int .i64 d) ∧ w.heap.size + 3 < w'.heap.size) ((refine ⟨?_, ?_, ?_, ?_, ?_, ?_, ?_⟩ <;> first | with_reducible assumption | ((repeat first | rw [cell_set_far _ _ _ _ _ _ (by omega)] | rw [cell_alloc_before _ _ _ _ (by omega)] | rw [cell_alloc_drew _ _ _ _ (by omega)] | rw [cell_drew]); with_reducible assumption) | ((rw [cell_setRow_far _ _ _ _ _ (by omega)]); with_reducible assumption) | ((rw [setRow_size]); with_reducible assumption) | (simp; done) | (simp [World.setCell]; first | done | omega) | (simp [go_sem, World.cell?_alloc_past, World.cell?_setCell_far, *]; done))) ((first | (go_at_call 67; (with_reducible refine (L1.out _).mono ?_); rintro rv w1 ⟨rfl, hb⟩; have ns : w.heap.size + 3 < w1.heap.size := hb.ltK; have n0 : w1.cell? ⟨w.heap.size, 0, none⟩ = some (.int .i64 e) := hb.cellK; have n1 : w1.cell? ⟨w.heap.size, 1, none⟩ = some (.int .i64 f) := hb.cellK; have n2 : w1.cell? ⟨w.heap.size + 1, 0, none⟩ = some (.int .i64 a) := hb.cellK; have n3 : w1.cell? ⟨w.heap.size + 1, 1, none⟩ = some (.int .i64 b) := hb.cellK; have n4 : w1.cell? ⟨w.heap.size + 2, 0, none⟩ = some (.int .i64 c) := hb.cellK; have n5 : w1.cell? ⟨w.heap.size + 2, 1, none⟩ = some (.int .i64 d) := hb.cellK; have n6 : w1.cell? ⟨w.heap.size + 3, 0, none⟩ = some (.int .i64 0) := hb.cellK; have n7 : w1.cell? ⟨w.heap.size + 3, 1, none⟩ = some (.int .i64 0) := hb.cellK; have nz0 : w1.frozen? ⟨w.heap.size + 3, 0, none⟩ = false := hb.frzK; have nz1 : w1.frozen? ⟨w.heap.size + 3, 1, none⟩ = false := hb.frzK; (first | (have nx := Ext.trans hx hb; clear hx) | (have nx := Ext.trans (hx.alloc _) hb; clear hx) | (have nx := Ext.trans hx.drew hb; clear hx) | have nx := hb); clear hb; try clear hs; try clear g0; try clear g1; try clear g2; try clear g3; try clear g4; try clear g5; try clear g6; try clear g7; try clear z0; try clear z1; have hx := nx; clear nx; have hs := ns; clear ns; have g0 := n0; clear n0; have g1 := n1; clear n1; have g2 := n2; clear n2; have g3 := n3; clear n3; have g4 := n4; clear n4; have g5 := n5; clear n5; have g6 := n6; clear n6; have g7 := n7; clear n7; have z0 := nz0; clear nz0; have z1 := nz1; clear nz1) | (go_at_call 67; (with_reducible refine (H1.out _).mono ?_); rintro rv w1 ⟨rfl, hb⟩; have ns : w.heap.size + 3 < w1.heap.size := hb.ltK; have n0 : w1.cell? ⟨w.heap.size, 0, none⟩ = some (.int .i64 e) := hb.cellK; have n1 : w1.cell? ⟨w.heap.size, 1, none⟩ = some (.int .i64 f) := hb.cellK; have n2 : w1.cell? ⟨w.heap.size + 1, 0, none⟩ = some (.int .i64 a) := hb.cellK; have n3 : w1.cell? ⟨w.heap.size + 1, 1, none⟩ = some (.int .i64 b) := hb.cellK; have n4 : w1.cell? ⟨w.heap.size + 2, 0, none⟩ = some (.int .i64 c) := hb.cellK; have n5 : w1.cell? ⟨w.heap.size + 2, 1, none⟩ = some (.int .i64 d) := hb.cellK; have n6 : w1.cell? ⟨w.heap.size + 3, 0, none⟩ = some (.int .i64 0) := hb.cellK; have n7 : w1.cell? ⟨w.heap.size + 3, 1, none⟩ = some (.int .i64 0) := hb.cellK; have nz0 : w1.frozen? ⟨w.heap.size + 3, 0, none⟩ = false := hb.frzK; have nz1 : w1.frozen? ⟨w.heap.size + 3, 1, none⟩ = false := hb.frzK; (first | (have nx := Ext.trans hx hb; clear hx) | (have nx := Ext.trans (hx.alloc _) hb; clear hx) | (have nx := Ext.trans hx.drew hb; clear hx) | have nx := hb); clear hb; try clear hs; try clear g0; try clear g1; try clear g2; try clear g3; try clear g4; try clear g5; try clear g6; try clear g7; try clear z0; try clear z1; have hx := nx; clear nx; have hs := ns; clear ns; have g0 := n0; clear n0; have g1 := n1; clear n1; have g2 := n2; clear n2; have g3 := n3; clear n3; have g4 := n4; clear n4; have g5 := n5; clear n5; have g6 := n6; clear n6; have g7 := n7; clear n7; have z0 := nz0; clear nz0; have z1 := nz1; clear nz1) | (go_at_call 40; refine (IO.out _).mono ?_; rintro rv w1 ⟨rfl, hb⟩; have ns : w.heap.size + 3 < w1.heap.size := hb.ltK; have n0 : w1.cell? ⟨w.heap.size, 0, none⟩ = some (.int .i64 e) := hb.cellK; have n1 : w1.cell? ⟨w.heap.size, 1, none⟩ = some (.int .i64 f) := hb.cellK; have n2 : w1.cell? ⟨w.heap.size + 1, 0, none⟩ = some (.int .i64 a) := hb.cellK; have n3 : w1.cell? ⟨w.heap.size + 1, 1, none⟩ = some (.int .i64 b) := hb.cellK; have n4 : w1.cell? ⟨w.heap.size + 2, 0, none⟩ = some (.int .i64 c) := hb.cellK; have n5 : w1.cell? ⟨w.heap.size + 2, 1, none⟩ = some (.int .i64 d) := hb.cellK; have n6 : w1.cell? ⟨w.heap.size + 3, 0, none⟩ = some (.int .i64 0) := hb.cellK; have n7 : w1.cell? ⟨w.heap.size + 3, 1, none⟩ = some (.int .i64 0) := hb.cellK; have nz0 : w1.frozen? ⟨w.heap.size + 3, 0, none⟩ = false := hb.frzK; have nz1 : w1.frozen? ⟨w.heap.size + 3, 1, none⟩ = false := hb.frzK; (first | (have nx := Ext.trans hx hb; clear hx) | (have nx := Ext.trans (hx.alloc _) hb; clear hx) | (have nx := Ext.trans hx.drew hb; clear hx) | have nx := hb); clear hb; try clear hs; try clear g0; try clear g1; try clear g2; try clear g3; try clear g4; try clear g5; try clear g6; try clear g7; try clear z0; try clear z1; have hx := nx; clear nx; have hs := ns; clear ns; have g0 := n0; clear n0; have g1 := n1; clear n1; have g2 := n2; clear n2; have g3 := n3; clear n3; have g4 := n4; clear n4; have g5 := n5; clear n5; have g6 := n6; clear n6; have g7 := n7; clear n7; have z0 := nz0; clear nz0; have z1 := nz1; clear nz1)))
  all_goals go_wp2_with fail
  all_goals exact bodyPost_ret (v := two u v) (by simp [results, Tryz.results36, go_sem, *]) rfl ⟨rfl, Ext.auK⟩

theorem sPlusInterval_no (e f a b c d : Int) (hg : (ivB e f a b && ivB e f c d) = false) (w : World) : Calls Tryz.prog 12 #[fmt e f, two a b, two c d] w fun rv w' => rv = .returned (.tuple #[two 0 0, .bool false]) ∧ Ext w w' := by
  have AI := Lib.hid (fun w => ivBoth_any e f a b c d w)
  rw [hg] at AI
  go_enter Tryz.func12, Tryz.ntmps12
  go_wp2_with (go_at_call 35; refine (AI.out _).mono ?_; rintro rv w1 ⟨rfl, hb⟩; have ns : w.heap.size + 3 < w1.heap.size := hb.ltK; have n0 : w1.cell? ⟨w.heap.size, 0, none⟩ = some (.int .i64 e) := hb.cellK; have n1 : w1.cell? ⟨w.heap.size, 1, none⟩ = some (.int .i64 f) := hb.cellK; have n2 : w1.cell? ⟨w.heap.size + 1, 0, none⟩ = some (.int .i64 a) := hb.cellK; have n3 : w1.cell? ⟨w.heap.size + 1, 1, none⟩ = some (.int .i64 b) := hb.cellK; have n4 : w1.cell? ⟨w.heap.size + 2, 0, none⟩ = some (.int .i64 c) := hb.cellK; have n5 : w1.cell? ⟨w.heap.size + 2, 1, none⟩ = some (.int .i64 d) := hb.cellK; have n6 : w1.cell? ⟨w.heap.size + 3, 0, none⟩ = some (.int .i64 0) := hb.cellK; have n7 : w1.cell? ⟨w.heap.size + 3, 1, none⟩ = some (.int .i64 0) := hb.cellK; have nz0 : w1.frozen? ⟨w.heap.size + 3, 0, none⟩ = false := hb.frzK; have nz1 : w1.frozen? ⟨w.heap.size + 3, 1, none⟩ = false := hb.frzK; (first | (have nx := Ext.trans hx hb; clear hx) | (have nx := Ext.trans (hx.alloc _) hb; clear hx) | (have nx := Ext.trans hx.drew hb; clear hx) | have nx := hb); clear hb; try clear hs; try clear g0; try clear g1; try clear g2; try clear g3; try clear g4; try clear g5; try clear g6; try clear g7; try clear z0; try clear z1; have hx := nx; clear nx; have hs := ns; clear ns; have g0 := n0; clear n0; have g1 := n1; clear n1; have g2 := n2; clear n2; have g3 := n3; clear n3; have g4 := n4; clear n4; have g5 := n5; clear n5; have g6 := n6; clear n6; have g7 := n7; clear n7; have z0 := nz0; clear nz0; have z1 := nz1; clear nz1)
  exact bodyPost_ret (v := .tuple #[two 0 0, .bool false]) (by simp [results, Tryz.results12, go_sem, *]) rfl ⟨rfl, Ext.auK⟩

theorem iPlusInterval_no (e f a b c d : Int) (hg : (ivB e f a b && ivB e f c d) = false) (w : World) : Calls Tryz.prog 15 #[fmt e f, two a b, two c d] w fun rv w' => rv = .returned (.tuple #[two 0 0, .bool false]) ∧ Ext w w' := by
  have AI := Lib.hid (fun w => areIv_any e f a b c d w)
  rw [hg] at AI
  go_enter Tryz.func15, Tryz.ntmps15
  go_wp2_with (go_at_call 37; refine (AI.out _).mono ?_; rintro rv w1 ⟨rfl, hb⟩; have ns : w.heap.size + 3 < w1.heap.size := hb.ltK; have n0 : w1.cell? ⟨w.heap.size, 0, none⟩ = some (.int .i64 e) := hb.cellK; have n1 : w1.cell? ⟨w.heap.size, 1, none⟩ = some (.int .i64 f) := hb.cellK; have n2 : w1.cell? ⟨w.heap.size + 1, 0, none⟩ = some (.int .i64 a) := hb.cellK; have n3 : w1.cell? ⟨w.heap.size + 1, 1, none⟩ = some (.int .i64 b) := hb.cellK; have n4 : w1.cell? ⟨w.heap.size + 2, 0, none⟩ = some (.int .i64 c) := hb.cellK; have n5 : w1.cell? ⟨w.heap.size + 2, 1, none⟩ = some (.int .i64 d) := hb.cellK; have n6 : w1.cell? ⟨w.heap.size + 3, 0, none⟩ = some (.int .i64 0) := hb.cellK; have n7 : w1.cell? ⟨w.heap.size + 3, 1, none⟩ = some (.int .i64 0) := hb.cellK; have nz0 : w1.frozen? ⟨w.heap.size + 3, 0, none⟩ = false := hb.frzK; have nz1 : w1.frozen? ⟨w.heap.size + 3, 1, none⟩ = false := hb.frzK; (first | (have nx := Ext.trans hx hb; clear hx) | (have nx := Ext.trans (hx.alloc _) hb; clear hx) | (have nx := Ext.trans hx.drew hb; clear hx) | have nx := hb); clear hb; try clear hs; try clear g0; try clear g1; try clear g2; try clear g3; try clear g4; try clear g5; try clear g6; try clear g7; try clear z0; try clear z1; have hx := nx; clear nx; have hs := ns; clear ns; have g0 := n0; clear n0; have g1 := n1; clear n1; have g2 := n2; clear n2; have g3 := n3; clear n3; have g4 := n4; clear n4; have g5 := n5; clear n5; have g6 := n6; clear n6; have g7 := n7; clear n7; have z0 := nz0; clear nz0; have z1 := nz1; clear nz1)
  exact bodyPost_ret (v := .tuple #[two 0 0, .bool false]) (by simp [results, Tryz.results15, go_sem, *]) rfl ⟨rfl, Ext.auK⟩

set_option maxHeartbeats 3200000 in
theorem iPlusInterval_yes (e f a b c d : Int) (hg : (ivB e f a b && ivB e f c d) = true) (w : World) (hT : TW w) : Calls Tryz.prog 15 #[fmt e f, two a b, two c d] w fun rv w' => rv = .returned (.tuple #[two (enV e f (plF e f a c 4)) (enV e f (plF e f b d 3)), .bool true]) ∧ Ext w w' := by
  have AI := Lib.hid (fun w => areIv_any e f a b c d w)
  rw [hg] at AI
  rw [Bool.and_eq_true] at hg
  obtain ⟨pa, pb⟩ := iv_pats hg.1
  obtain ⟨pc, pd⟩ := iv_pats hg.2
  have BO := Lib.hid (fun w hT => both_Plus e f a c b d pa pc pb pd w hT)
  have bu : ∀ (u v : Int) w, (Instr.build 53 #[(0, .int .i64 u), (1, .int .i64 v)]).run Tryz.prog w = .ok (two u v) w := fun u v w => run_build w _ _ _ (by kernel_rfl)
  clear hg pa pb pc pd
  generalize enV e f (plF e f a c 4) = u at *
  generalize enV e f (plF e f b d 3) = v at *
  go_enter Tryz.func15, Tryz.ntmps15
  go_wp2_with (first | (go_at_call 37; refine (AI.out _).mono ?_; rintro rv w1 ⟨rfl, hb⟩; have ns : w.heap.size + 3 < w1.heap.size := hb.ltK; have n0 : w1.cell? ⟨w.heap.size, 0, none⟩ = some (.int .i64 e) := hb.cellK; have n1 : w1.cell? ⟨w.heap.size, 1, none⟩ = some (.int .i64 f) := hb.cellK; have n2 : w1.cell? ⟨w.heap.size + 1, 0, none⟩ = some (.int .i64 a) := hb.cellK; have n3 : w1.cell? ⟨w.heap.size + 1, 1, none⟩ = some (.int .i64 b) := hb.cellK; have n4 : w1.cell? ⟨w.heap.size + 2, 0, none⟩ = some (.int .i64 c) := hb.cellK; have n5 : w1.cell? ⟨w.heap.size + 2, 1, none⟩ = some (.int .i64 d) := hb.cellK; have n6 : w1.cell? ⟨w.heap.size + 3, 0, none⟩ = some (.int .i64 0) := hb.cellK; have n7 : w1.cell? ⟨w.heap.size + 3, 1, none⟩ = some (.int .i64 0) := hb.cellK; have nz0 : w1.frozen? ⟨w.heap.size + 3, 0, none⟩ = false := hb.frzK; have nz1 : w1.frozen? ⟨w.heap.size + 3, 1, none⟩ = false := hb.frzK; (first | (have nx := Ext.trans hx hb; clear hx) | (have nx := Ext.trans (hx.alloc _) hb; clear hx) | (have nx := Ext.trans hx.drew hb; clear hx) | have nx := hb); clear hb; try clear hs; try clear g0; try clear g1; try clear g2; try clear g3; try clear g4; try clear g5; try clear g6; try clear g7; try clear z0; try clear z1; have hx := nx; clear nx; have hs := ns; clear ns; have g0 := n0; clear n0; have g1 := n1; clear n1; have g2 := n2; clear n2; have g3 := n3; clear n3; have g4 := n4; clear n4; have g5 := n5; clear n5; have g6 := n6; clear n6; have g7 := n7; clear n7; have z0 := nz0; clear nz0; have z1 := nz1; clear nz1) | (go_at_call 38; refine (BO.out _ (hT.ext Ext.auK)).mono ?_; rintro rv w1 ⟨rfl, hb⟩; have ns : w.heap.size + 3 < w1.heap.size := hb.ltK; have n0 : w1.cell? ⟨w.heap.size, 0, none⟩ = some (.int .i64 e) := hb.cellK; have n1 : w1.cell? ⟨w.heap.size, 1, none⟩ = some (.int .i64 f) := hb.cellK; have n2 : w1.cell? ⟨w.heap.size + 1, 0, none⟩ = some (.int .i64 a) := hb.cellK; have n3 : w1.cell? ⟨w.heap.size + 1, 1, none⟩ = some (.int .i64 b) := hb.cellK; have n4 : w1.cell? ⟨w.heap.size + 2, 0, none⟩ = some (.int .i64 c) := hb.cellK; have n5 : w1.cell? ⟨w.heap.size + 2, 1, none⟩ = some (.int .i64 d) := hb.cellK; have n6 : w1.cell? ⟨w.heap.size + 3, 0, none⟩ = some (.int .i64 0) := hb.cellK; have n7 : w1.cell? ⟨w.heap.size + 3, 1, none⟩ = some (.int .i64 0) := hb.cellK; have nz0 : w1.frozen? ⟨w.heap.size + 3, 0, none⟩ = false := hb.frzK; have nz1 : w1.frozen? ⟨w.heap.size + 3, 1, none⟩ = false := hb.frzK; (first | (have nx := Ext.trans hx hb; clear hx) | (have nx := Ext.trans (hx.alloc _) hb; clear hx) | (have nx := Ext.trans hx.drew hb; clear hx) | have nx := hb); clear hb; try clear hs; try clear g0; try clear g1; try clear g2; try clear g3; try clear g4; try clear g5; try clear g6; try clear g7; try clear z0; try clear z1; have hx := nx; clear nx; have hs := ns; clear ns; have g0 := n0; clear n0; have g1 := n1; clear n1; have g2 := n2; clear n2; have g3 := n3; clear n3; have g4 := n4; clear n4; have g5 := n5; clear n5; have g6 := n6; clear n6; have g7 := n7; clear n7; have z0 := nz0; clear nz0; have z1 := nz1; clear nz1))
  exact bodyPost_ret (v := .tuple #[two u v, .bool true]) (by simp [results, Tryz.results15, go_sem, *]) rfl ⟨rfl, Ext.auK⟩

theorem sLessInterval_no (e f a b c d : Int) (hg : (ivB e f a b && ivB e f c d) = false) (w : World) : Calls Tryz.prog 17 #[fmt e f, two a b, two c d] w fun rv w' => rv = .returned (.tuple #[two 0 0, .bool false]) ∧ Ext w w' := by
  have AI := Lib.hid (fun w => ivBoth_any e f a b c d w)
  rw [hg] at AI
  go_enter Tryz.func17, Tryz.ntmps17
  go_wp2_with (go_at_call 35; refine (AI.out _).mono ?_; rintro rv w1 ⟨rfl, hb⟩; have ns : w.heap.size + 3 < w1.heap.size := hb.ltK; have n0 : w1.cell? ⟨w.heap.size, 0, none⟩ = some (.int .i64 e) := hb.cellK; have n1 : w1.cell? ⟨w.heap.size, 1, none⟩ = some (.int .i64 f) := hb.cellK; have n2 : w1.cell? ⟨w.heap.size + 1, 0, none⟩ = some (.int .i64 a) := hb.cellK; have n3 : w1.cell? ⟨w.heap.size + 1, 1, none⟩ = some (.int .i64 b) := hb.cellK; have n4 : w1.cell? ⟨w.heap.size + 2, 0, none⟩ = some (.int .i64 c) := hb.cellK; have n5 : w1.cell? ⟨w.heap.size + 2, 1, none⟩ = some (.int .i64 d) := hb.cellK; have n6 : w1.cell? ⟨w.heap.size + 3, 0, none⟩ = some (.int .i64 0) := hb.cellK; have n7 : w1.cell? ⟨w.heap.size + 3, 1, none⟩ = some (.int .i64 0) := hb.cellK; have nz0 : w1.frozen? ⟨w.heap.size + 3, 0, none⟩ = false := hb.frzK; have nz1 : w1.frozen? ⟨w.heap.size + 3, 1, none⟩ = false := hb.frzK; (first | (have nx := Ext.trans hx hb; clear hx) | (have nx := Ext.trans (hx.alloc _) hb; clear hx) | (have nx := Ext.trans hx.drew hb; clear hx) | have nx := hb); clear hb; try clear hs; try clear g0; try clear g1; try clear g2; try clear g3; try clear g4; try clear g5; try clear g6; try clear g7; try clear z0; try clear z1; have hx := nx; clear nx; have hs := ns; clear ns; have g0 := n0; clear n0; have g1 := n1; clear n1; have g2 := n2; clear n2; have g3 := n3; clear n3; have g4 := n4; clear n4; have g5 := n5; clear n5; have g6 := n6; clear n6; have g7 := n7; clear n7; have z0 := nz0; clear nz0; have z1 := nz1; clear nz1)
  exact bodyPost_ret (v := .tuple #[two 0 0, .bool false]) (by simp [results, Tryz.results17, go_sem, *]) rfl ⟨rfl, Ext.auK⟩

theorem iLessInterval_no (e f a b c d : Int) (hg : (ivB e f a b && ivB e f c d) = false) (w : World) : Calls Tryz.prog 18 #[fmt e f, two a b, two c d] w fun rv w' => rv = .returned (.tuple #[two 0 0, .bool false]) ∧ Ext w w' := by
  have AI := Lib.hid (fun w => areIv_any e f a b c d w)
  rw [hg] at AI
  go_enter Tryz.func18, Tryz.ntmps18
  go_wp2_with (go_at_call 37; refine (AI.out _).mono ?_; rintro rv w1 ⟨rfl, hb⟩; have ns : w.heap.size + 3 < w1.heap.size := hb.ltK; have n0 : w1.cell? ⟨w.heap.size, 0, none⟩ = some (.int .i64 e) := hb.cellK; have n1 : w1.cell? ⟨w.heap.size, 1, none⟩ = some (.int .i64 f) := hb.cellK; have n2 : w1.cell? ⟨w.heap.size + 1, 0, none⟩ = some (.int .i64 a) := hb.cellK; have n3 : w1.cell? ⟨w.heap.size + 1, 1, none⟩ = some (.int .i64 b) := hb.cellK; have n4 : w1.cell? ⟨w.heap.size + 2, 0, none⟩ = some (.int .i64 c) := hb.cellK; have n5 : w1.cell? ⟨w.heap.size + 2, 1, none⟩ = some (.int .i64 d) := hb.cellK; have n6 : w1.cell? ⟨w.heap.size + 3, 0, none⟩ = some (.int .i64 0) := hb.cellK; have n7 : w1.cell? ⟨w.heap.size + 3, 1, none⟩ = some (.int .i64 0) := hb.cellK; have nz0 : w1.frozen? ⟨w.heap.size + 3, 0, none⟩ = false := hb.frzK; have nz1 : w1.frozen? ⟨w.heap.size + 3, 1, none⟩ = false := hb.frzK; (first | (have nx := Ext.trans hx hb; clear hx) | (have nx := Ext.trans (hx.alloc _) hb; clear hx) | (have nx := Ext.trans hx.drew hb; clear hx) | have nx := hb); clear hb; try clear hs; try clear g0; try clear g1; try clear g2; try clear g3; try clear g4; try clear g5; try clear g6; try clear g7; try clear z0; try clear z1; have hx := nx; clear nx; have hs := ns; clear ns; have g0 := n0; clear n0; have g1 := n1; clear n1; have g2 := n2; clear n2; have g3 := n3; clear n3; have g4 := n4; clear n4; have g5 := n5; clear n5; have g6 := n6; clear n6; have g7 := n7; clear n7; have z0 := nz0; clear nz0; have z1 := nz1; clear nz1)
  exact bodyPost_ret (v := .tuple #[two 0 0, .bool false]) (by simp [results, Tryz.results18, go_sem, *]) rfl ⟨rfl, Ext.auK⟩

set_option maxHeartbeats 3200000 in
theorem iLessInterval_yes (e f a b c d : Int) (hg : (ivB e f a b && ivB e f c d) = true) (w : World) (hT : TW w) : Calls Tryz.prog 18 #[fmt e f, two a b, two c d] w fun rv w' => rv = .returned (.tuple #[two (enV e f (plF e f a (negV e f d) 4)) (enV e f (plF e f b (negV e f c) 3)), .bool true]) ∧ Ext w w' := by
  have AI := Lib.hid (fun w => areIv_any e f a b c d w)
  rw [hg] at AI
  rw [Bool.and_eq_true] at hg
  obtain ⟨pa, pb⟩ := iv_pats hg.1
  obtain ⟨pc, pd⟩ := iv_pats hg.2
  have BO := Lib.hid (fun w hT => both_Less e f a d b c pa pd pb pc w hT)
  have bu : ∀ (u v : Int) w, (Instr.build 53 #[(0, .int .i64 u), (1, .int .i64 v)]).run Tryz.prog w = .ok (two u v) w := fun u v w => run_build w _ _ _ (by kernel_rfl)
  clear hg pa pb pc pd
  generalize enV e f (plF e f a (negV e f d) 4) = u at *
  generalize enV e f (plF e f b (negV e f c) 3) = v at *
  go_enter Tryz.func18, Tryz.ntmps18
  go_wp2_with (first | (go_at_call 37; refine (AI.out _).mono ?_; rintro rv w1 ⟨rfl, hb⟩; have ns : w.heap.size + 3 < w1.heap.size := hb.ltK; have n0 : w1.cell? ⟨w.heap.size, 0, none⟩ = some (.int .i64 e) := hb.cellK; have n1 : w1.cell? ⟨w.heap.size, 1, none⟩ = some (.int .i64 f) := hb.cellK; have n2 : w1.cell? ⟨w.heap.size + 1, 0, none⟩ = some (.int .i64 a) := hb.cellK; have n3 : w1.cell? ⟨w.heap.size + 1, 1, none⟩ = some (.int .i64 b) := hb.cellK; have n4 : w1.cell? ⟨w.heap.size + 2, 0, none⟩ = some (.int .i64 c) := hb.cellK; have n5 : w1.cell? ⟨w.heap.size + 2, 1, none⟩ = some (.int .i64 d) := hb.cellK; have n6 : w1.cell? ⟨w.heap.size + 3, 0, none⟩ = some (.int .i64 0) := hb.cellK; have n7 : w1.cell? ⟨w.heap.size + 3, 1, none⟩ = some (.int .i64 0) := hb.cellK; have nz0 : w1.frozen? ⟨w.heap.size + 3, 0, none⟩ = false := hb.frzK; have nz1 : w1.frozen? ⟨w.heap.size + 3, 1, none⟩ = false := hb.frzK; (first | (have nx := Ext.trans hx hb; clear hx) | (have nx := Ext.trans (hx.alloc _) hb; clear hx) | (have nx := Ext.trans hx.drew hb; clear hx) | have nx := hb); clear hb; try clear hs; try clear g0; try clear g1; try clear g2; try clear g3; try clear g4; try clear g5; try clear g6; try clear g7; try clear z0; try clear z1; have hx := nx; clear nx; have hs := ns; clear ns; have g0 := n0; clear n0; have g1 := n1; clear n1; have g2 := n2; clear n2; have g3 := n3; clear n3; have g4 := n4; clear n4; have g5 := n5; clear n5; have g6 := n6; clear n6; have g7 := n7; clear n7; have z0 := nz0; clear nz0; have z1 := nz1; clear nz1) | (go_at_call 38; refine (BO.out _ (hT.ext Ext.auK)).mono ?_; rintro rv w1 ⟨rfl, hb⟩; have ns : w.heap.size + 3 < w1.heap.size := hb.ltK; have n0 : w1.cell? ⟨w.heap.size, 0, none⟩ = some (.int .i64 e) := hb.cellK; have n1 : w1.cell? ⟨w.heap.size, 1, none⟩ = some (.int .i64 f) := hb.cellK; have n2 : w1.cell? ⟨w.heap.size + 1, 0, none⟩ = some (.int .i64 a) := hb.cellK; have n3 : w1.cell? ⟨w.heap.size + 1, 1, none⟩ = some (.int .i64 b) := hb.cellK; have n4 : w1.cell? ⟨w.heap.size + 2, 0, none⟩ = some (.int .i64 c) := hb.cellK; have n5 : w1.cell? ⟨w.heap.size + 2, 1, none⟩ = some (.int .i64 d) := hb.cellK; have n6 : w1.cell? ⟨w.heap.size + 3, 0, none⟩ = some (.int .i64 0) := hb.cellK; have n7 : w1.cell? ⟨w.heap.size + 3, 1, none⟩ = some (.int .i64 0) := hb.cellK; have nz0 : w1.frozen? ⟨w.heap.size + 3, 0, none⟩ = false := hb.frzK; have nz1 : w1.frozen? ⟨w.heap.size + 3, 1, none⟩ = false := hb.frzK; (first | (have nx := Ext.trans hx hb; clear hx) | (have nx := Ext.trans (hx.alloc _) hb; clear hx) | (have nx := Ext.trans hx.drew hb; clear hx) | have nx := hb); clear hb; try clear hs; try clear g0; try clear g1; try clear g2; try clear g3; try clear g4; try clear g5; try clear g6; try clear g7; try clear z0; try clear z1; have hx := nx; clear nx; have hs := ns; clear ns; have g0 := n0; clear n0; have g1 := n1; clear n1; have g2 := n2; clear n2; have g3 := n3; clear n3; have g4 := n4; clear n4; have g5 := n5; clear n5; have g6 := n6; clear n6; have g7 := n7; clear n7; have z0 := nz0; clear nz0; have z1 := nz1; clear nz1))
  exact bodyPost_ret (v := .tuple #[two u v, .bool true]) (by simp [results, Tryz.results18, go_sem, *]) rfl ⟨rfl, Ext.auK⟩

set_option maxHeartbeats 3200000 in
theorem sPlusInterval_yes (e f a b c d : Int) (hg : (ivB e f a b && ivB e f c d) = true) (w : World) : Calls Tryz.prog 12 #[fmt e f, two a b, two c d] w fun rv w' => rv = .returned (.tuple #[two (enV e f (plF e f a c 4)) (enV e f (plF e f b d 3)), .bool true]) ∧ Ext w w' := by
  have AI := Lib.hid (fun w => ivBoth_any e f a b c d w)
  rw [hg] at AI
  rw [Bool.and_eq_true] at hg
  obtain ⟨pa, pb⟩ := iv_pats hg.1
  obtain ⟨pc, pd⟩ := iv_pats hg.2
  obtain ⟨n1, n2⟩ := pq_plus hg.1 hg.2
  have IP := Lib.hid (fun w => ivPlus_any e f a b c d pa pb pc pd n1 n2 w)
  clear hg pa pb pc pd n1 n2
  generalize enV e f (plF e f a c 4) = u at *
  generalize enV e f (plF e f b d 3) = v at *
  go_enter Tryz.func12, Tryz.ntmps12
  go_wp2_with (first | (go_at_call 35; refine (AI.out _).mono ?_; rintro rv w1 ⟨rfl, hb⟩; have ns : w.heap.size + 3 < w1.heap.size := hb.ltK; have n0 : w1.cell? ⟨w.heap.size, 0, none⟩ = some (.int .i64 e) := hb.cellK; have n1 : w1.cell? ⟨w.heap.size, 1, none⟩ = some (.int .i64 f) := hb.cellK; have n2 : w1.cell? ⟨w.heap.size + 1, 0, none⟩ = some (.int .i64 a) := hb.cellK; have n3 : w1.cell? ⟨w.heap.size + 1, 1, none⟩ = some (.int .i64 b) := hb.cellK; have n4 : w1.cell? ⟨w.heap.size + 2, 0, none⟩ = some (.int .i64 c) := hb.cellK; have n5 : w1.cell? ⟨w.heap.size + 2, 1, none⟩ = some (.int .i64 d) := hb.cellK; have n6 : w1.cell? ⟨w.heap.size + 3, 0, none⟩ = some (.int .i64 0) := hb.cellK; have n7 : w1.cell? ⟨w.heap.size + 3, 1, none⟩ = some (.int .i64 0) := hb.cellK; have nz0 : w1.frozen? ⟨w.heap.size + 3, 0, none⟩ = false := hb.frzK; have nz1 : w1.frozen? ⟨w.heap.size + 3, 1, none⟩ = false := hb.frzK; (first | (have nx := Ext.trans hx hb; clear hx) | (have nx := Ext.trans (hx.alloc _) hb; clear hx) | (have nx := Ext.trans hx.drew hb; clear hx) | have nx := hb); clear hb; try clear hs; try clear g0; try clear g1; try clear g2; try clear g3; try clear g4; try clear g5; try clear g6; try clear g7; try clear z0; try clear z1; have hx := nx; clear nx; have hs := ns; clear ns; have g0 := n0; clear n0; have g1 := n1; clear n1; have g2 := n2; clear n2; have g3 := n3; clear n3; have g4 := n4; clear n4; have g5 := n5; clear n5; have g6 := n6; clear n6; have g7 := n7; clear n7; have z0 := nz0; clear nz0; have z1 := nz1; clear nz1) | (go_at_call 36; refine (IP.out _).mono ?_; rintro rv w1 ⟨rfl, hb⟩; have ns : w.heap.size + 3 < w1.heap.size := hb.ltK; have n0 : w1.cell? ⟨w.heap.size, 0, none⟩ = some (.int .i64 e) := hb.cellK; have n1 : w1.cell? ⟨w.heap.size, 1, none⟩ = some (.int .i64 f) := hb.cellK; have n2 : w1.cell? ⟨w.heap.size + 1, 0, none⟩ = some (.int .i64 a) := hb.cellK; have n3 : w1.cell? ⟨w.heap.size + 1, 1, none⟩ = some (.int .i64 b) := hb.cellK; have n4 : w1.cell? ⟨w.heap.size + 2, 0, none⟩ = some (.int .i64 c) := hb.cellK; have n5 : w1.cell? ⟨w.heap.size + 2, 1, none⟩ = some (.int .i64 d) := hb.cellK; have n6 : w1.cell? ⟨w.heap.size + 3, 0, none⟩ = some (.int .i64 0) := hb.cellK; have n7 : w1.cell? ⟨w.heap.size + 3, 1, none⟩ = some (.int .i64 0) := hb.cellK; have nz0 : w1.frozen? ⟨w.heap.size + 3, 0, none⟩ = false := hb.frzK; have nz1 : w1.frozen? ⟨w.heap.size + 3, 1, none⟩ = false := hb.frzK; (first | (have nx := Ext.trans hx hb; clear hx) | (have nx := Ext.trans (hx.alloc _) hb; clear hx) | (have nx := Ext.trans hx.drew hb; clear hx) | have nx := hb); clear hb; try clear hs; try clear g0; try clear g1; try clear g2; try clear g3; try clear g4; try clear g5; try clear g6; try clear g7; try clear z0; try clear z1; have hx := nx; clear nx; have hs := ns; clear ns; have g0 := n0; clear n0; have g1 := n1; clear n1; have g2 := n2; clear n2; have g3 := n3; clear n3; have g4 := n4; clear n4; have g5 := n5; clear n5; have g6 := n6; clear n6; have g7 := n7; clear n7; have z0 := nz0; clear nz0; have z1 := nz1; clear nz1))
  exact bodyPost_ret (v := .tuple #[two u v, .bool true]) (by simp [results, Tryz.results12, go_sem, *]) rfl ⟨rfl, Ext.auK⟩

theorem iz_neg {e f p : Int} (hp : patB e f p = true) : kindV e f (izV e f p) = kindV e f p ∧ (izV e f p = p ∨ kindV e f p = 0) := by
  unfold izV
  by_cases hz : p % pw (e + f) = 0
  · rw [if_pos (by simpa using hz)]
    have hg := (pat_iff.1 hp).1
    have hP := pw_pos (e + f)
    have p0 : patB e f 0 = true := pat_iff.2 ⟨hg, Int.le_refl _, by omega⟩
    exact ⟨by rw [(zero_kind p0 (Int.zero_emod _)).1, (zero_kind hp hz).1], .inr (zero_kind hp hz).1⟩
  · rw [if_neg (by simpa using hz)]
    exact ⟨rfl, .inl rfl⟩

theorem pq_iz {e f a q : Int} (hq : patB e f q = true) (h : ¬ pqP e f a q) : ¬ pqP e f a (izV e f q) := by
  obtain ⟨k1, k2⟩ := iz_neg hq
  rcases k2 with k2 | k2
  · rw [k2]; exact h
  · rintro (r | r | ⟨r, s, _⟩)
    · exact h (.inl r)
    · rw [k1] at r; exact h (.inr (.inl r))
    · rw [k1] at s; omega

set_option maxHeartbeats 6400000 in
theorem sLessInterval_yes (e f a b c d : Int) (hg : (ivB e f a b && ivB e f c d) = true) (w : World) : Calls Tryz.prog 17 #[fmt e f, two a b, two c d] w fun rv w' => rv = .returned (.tuple #[two (enV e f (plF e f a (negV e f d) 4)) (enV e f (plF e f b (negV e f c) 3)), .bool true]) ∧ Ext w w' := by
  have AI := Lib.hid (fun w => ivBoth_any e f a b c d w)
  rw [hg] at AI
  rw [Bool.and_eq_true] at hg
  obtain ⟨pa, pb⟩ := iv_pats hg.1
  obtain ⟨pc, pd⟩ := iv_pats hg.2
  obtain ⟨n1, n2⟩ := pq_less hg.1 hg.2
  have ka := end_kind (iv_parts hg.1).1
  have kb := end_kind (iv_parts hg.1).2.1
  have NC := Lib.hid (fun w => negateV_any e f c pc w)
  have ND := Lib.hid (fun w => negateV_any e f d pd w)
  have IO := Lib.hid (fun w => ivOf_any e f (negV e f d) (negV e f c) (pat_neg pd) (pat_neg pc) w)
  have IP := fun w => ivPlus_any e f a b (izV e f (negV e f d)) (izV e f (negV e f c)) pa pb (pat_iz (pat_neg pd)) (pat_iz (pat_neg pc)) (pq_iz (pat_neg pd) n1) (pq_iz (pat_neg pc) n2) w
  rw [pl_izero pa (pat_neg pd) (by decide) (by decide) ka w, pl_izero pb (pat_neg pc) (by decide) (by decide) kb w] at IP
  have IP := Lib.hid IP
  clear hg pa pb pc pd n1 n2 ka kb
  generalize enV e f (plF e f a (negV e f d) 4) = u at *
  generalize enV e f (plF e f b (negV e f c) 3) = v at *
  generalize izV e f (negV e f d) = x at *
  generalize izV e f (negV e f c) = y at *
  generalize negV e f d = nd at *
  generalize negV e f c = nc at *
  go_enter Tryz.func17, Tryz.ntmps17
  go_wp2_with (go_at_call 35; refine (AI.out _).mono ?_; rintro rv w1 ⟨rfl, hb⟩; have ns : w.heap.size + 3 < w1.heap.size := hb.ltK; have n0 : w1.cell? ⟨w.heap.size, 0, none⟩ = some (.int .i64 e) := hb.cellK; have n1 : w1.cell? ⟨w.heap.size, 1, none⟩ = some (.int .i64 f) := hb.cellK; have n2 : w1.cell? ⟨w.heap.size + 1, 0, none⟩ = some (.int .i64 a) := hb.cellK; have n3 : w1.cell? ⟨w.heap.size + 1, 1, none⟩ = some (.int .i64 b) := hb.cellK; have n4 : w1.cell? ⟨w.heap.size + 2, 0, none⟩ = some (.int .i64 c) := hb.cellK; have n5 : w1.cell? ⟨w.heap.size + 2, 1, none⟩ = some (.int .i64 d) := hb.cellK; have n6 : w1.cell? ⟨w.heap.size + 3, 0, none⟩ = some (.int .i64 0) := hb.cellK; have n7 : w1.cell? ⟨w.heap.size + 3, 1, none⟩ = some (.int .i64 0) := hb.cellK; have nz0 : w1.frozen? ⟨w.heap.size + 3, 0, none⟩ = false := hb.frzK; have nz1 : w1.frozen? ⟨w.heap.size + 3, 1, none⟩ = false := hb.frzK; (first | (have nx := Ext.trans hx hb; clear hx) | (have nx := Ext.trans (hx.alloc _) hb; clear hx) | (have nx := Ext.trans hx.drew hb; clear hx) | have nx := hb); clear hb; try clear hs; try clear g0; try clear g1; try clear g2; try clear g3; try clear g4; try clear g5; try clear g6; try clear g7; try clear z0; try clear z1; have hx := nx; clear nx; have hs := ns; clear ns; have g0 := n0; clear n0; have g1 := n1; clear n1; have g2 := n2; clear n2; have g3 := n3; clear n3; have g4 := n4; clear n4; have g5 := n5; clear n5; have g6 := n6; clear n6; have g7 := n7; clear n7; have z0 := nz0; clear nz0; have z1 := nz1; clear nz1)
  go_region_held3 (fun w' => w'.cell? ⟨w.heap.size, 0, none⟩ = some (.int .i64 e) ∧ w'.cell? ⟨w.heap.size, 1, none⟩ = some (.int .i64 f) ∧ w'.cell? ⟨w.heap.size + 1, 0, none⟩ = some (.int .i64 a) ∧ w'.cell? ⟨w.heap.size + 1, 1, none⟩ = some (.int .i64 b) ∧ w'.cell? ⟨w.heap.size + 2, 0, none⟩ = some (.int .i64 c) ∧ w'.cell? ⟨w.heap.size + 2, 1, none⟩ = some (.int .i64 d) ∧ w.heap.size + 3 < w'.heap.size) ((refine ⟨?_, ?_, ?_, ?_, ?_, ?_, ?_⟩ <;> first | with_reducible assumption | ((repeat first | rw [cell_set_far _ _ _ _ _ _ (by omega)] | rw [cell_alloc_before _ _ _ _ (by omega)] | rw [cell_alloc_drew _ _ _ _ (by omega)] | rw [cell_drew]); with_reducible assumption) | ((rw [cell_setRow_far _ _ _ _ _ (by omega)]); with_reducible assumption) | ((rw [setRow_size]); with_reducible assumption) | (simp; done) | (simp [World.setCell]; first | done | omega) | (simp [go_sem, World.cell?_alloc_past, World.cell?_setCell_far, *]; done))) ((first | (go_at_call 41; (with_reducible refine (NC.out _).mono ?_); rintro rv w1 ⟨rfl, hb⟩; have ns : w.heap.size + 3 < w1.heap.size := hb.ltK; have n0 : w1.cell? ⟨w.heap.size, 0, none⟩ = some (.int .i64 e) := hb.cellK; have n1 : w1.cell? ⟨w.heap.size, 1, none⟩ = some (.int .i64 f) := hb.cellK; have n2 : w1.cell? ⟨w.heap.size + 1, 0, none⟩ = some (.int .i64 a) := hb.cellK; have n3 : w1.cell? ⟨w.heap.size + 1, 1, none⟩ = some (.int .i64 b) := hb.cellK; have n4 : w1.cell? ⟨w.heap.size + 2, 0, none⟩ = some (.int .i64 c) := hb.cellK; have n5 : w1.cell? ⟨w.heap.size + 2, 1, none⟩ = some (.int .i64 d) := hb.cellK; have n6 : w1.cell? ⟨w.heap.size + 3, 0, none⟩ = some (.int .i64 0) := hb.cellK; have n7 : w1.cell? ⟨w.heap.size + 3, 1, none⟩ = some (.int .i64 0) := hb.cellK; have nz0 : w1.frozen? ⟨w.heap.size + 3, 0, none⟩ = false := hb.frzK; have nz1 : w1.frozen? ⟨w.heap.size + 3, 1, none⟩ = false := hb.frzK; (first | (have nx := Ext.trans hx hb; clear hx) | (have nx := Ext.trans (hx.alloc _) hb; clear hx) | (have nx := Ext.trans hx.drew hb; clear hx) | have nx := hb); clear hb; try clear hs; try clear g0; try clear g1; try clear g2; try clear g3; try clear g4; try clear g5; try clear g6; try clear g7; try clear z0; try clear z1; have hx := nx; clear nx; have hs := ns; clear ns; have g0 := n0; clear n0; have g1 := n1; clear n1; have g2 := n2; clear n2; have g3 := n3; clear n3; have g4 := n4; clear n4; have g5 := n5; clear n5; have g6 := n6; clear n6; have g7 := n7; clear n7; have z0 := nz0; clear nz0; have z1 := nz1; clear nz1) | (go_at_call 41; (with_reducible refine (ND.out _).mono ?_); rintro rv w1 ⟨rfl, hb⟩; have ns : w.heap.size + 3 < w1.heap.size := hb.ltK; have n0 : w1.cell? ⟨w.heap.size, 0, none⟩ = some (.int .i64 e) := hb.cellK; have n1 : w1.cell? ⟨w.heap.size, 1, none⟩ = some (.int .i64 f) := hb.cellK; have n2 : w1.cell? ⟨w.heap.size + 1, 0, none⟩ = some (.int .i64 a) := hb.cellK; have n3 : w1.cell? ⟨w.heap.size + 1, 1, none⟩ = some (.int .i64 b) := hb.cellK; have n4 : w1.cell? ⟨w.heap.size + 2, 0, none⟩ = some (.int .i64 c) := hb.cellK; have n5 : w1.cell? ⟨w.heap.size + 2, 1, none⟩ = some (.int .i64 d) := hb.cellK; have n6 : w1.cell? ⟨w.heap.size + 3, 0, none⟩ = some (.int .i64 0) := hb.cellK; have n7 : w1.cell? ⟨w.heap.size + 3, 1, none⟩ = some (.int .i64 0) := hb.cellK; have nz0 : w1.frozen? ⟨w.heap.size + 3, 0, none⟩ = false := hb.frzK; have nz1 : w1.frozen? ⟨w.heap.size + 3, 1, none⟩ = false := hb.frzK; (first | (have nx := Ext.trans hx hb; clear hx) | (have nx := Ext.trans (hx.alloc _) hb; clear hx) | (have nx := Ext.trans hx.drew hb; clear hx) | have nx := hb); clear hb; try clear hs; try clear g0; try clear g1; try clear g2; try clear g3; try clear g4; try clear g5; try clear g6; try clear g7; try clear z0; try clear z1; have hx := nx; clear nx; have hs := ns; clear ns; have g0 := n0; clear n0; have g1 := n1; clear n1; have g2 := n2; clear n2; have g3 := n3; clear n3; have g4 := n4; clear n4; have g5 := n5; clear n5; have g6 := n6; clear n6; have g7 := n7; clear n7; have z0 := nz0; clear nz0; have z1 := nz1; clear nz1) | (go_at_call 40; refine (IO.out _).mono ?_; rintro rv w1 ⟨rfl, hb⟩; have ns : w.heap.size + 3 < w1.heap.size := hb.ltK; have n0 : w1.cell? ⟨w.heap.size, 0, none⟩ = some (.int .i64 e) := hb.cellK; have n1 : w1.cell? ⟨w.heap.size, 1, none⟩ = some (.int .i64 f) := hb.cellK; have n2 : w1.cell? ⟨w.heap.size + 1, 0, none⟩ = some (.int .i64 a) := hb.cellK; have n3 : w1.cell? ⟨w.heap.size + 1, 1, none⟩ = some (.int .i64 b) := hb.cellK; have n4 : w1.cell? ⟨w.heap.size + 2, 0, none⟩ = some (.int .i64 c) := hb.cellK; have n5 : w1.cell? ⟨w.heap.size + 2, 1, none⟩ = some (.int .i64 d) := hb.cellK; have n6 : w1.cell? ⟨w.heap.size + 3, 0, none⟩ = some (.int .i64 0) := hb.cellK; have n7 : w1.cell? ⟨w.heap.size + 3, 1, none⟩ = some (.int .i64 0) := hb.cellK; have nz0 : w1.frozen? ⟨w.heap.size + 3, 0, none⟩ = false := hb.frzK; have nz1 : w1.frozen? ⟨w.heap.size + 3, 1, none⟩ = false := hb.frzK; (first | (have nx := Ext.trans hx hb; clear hx) | (have nx := Ext.trans (hx.alloc _) hb; clear hx) | (have nx := Ext.trans hx.drew hb; clear hx) | have nx := hb); clear hb; try clear hs; try clear g0; try clear g1; try clear g2; try clear g3; try clear g4; try clear g5; try clear g6; try clear g7; try clear z0; try clear z1; have hx := nx; clear nx; have hs := ns; clear ns; have g0 := n0; clear n0; have g1 := n1; clear n1; have g2 := n2; clear n2; have g3 := n3; clear n3; have g4 := n4; clear n4; have g5 := n5; clear n5; have g6 := n6; clear n6; have g7 := n7; clear n7; have z0 := nz0; clear nz0; have z1 := nz1; clear nz1) | (go_at_call 36; refine (IP.out _).mono ?_; rintro rv w1 ⟨rfl, hb⟩; have ns : w.heap.size + 3 < w1.heap.size := hb.ltK; have n0 : w1.cell? ⟨w.heap.size, 0, none⟩ = some (.int .i64 e) := hb.cellK; have n1 : w1.cell? ⟨w.heap.size, 1, none⟩ = some (.int .i64 f) := hb.cellK; have n2 : w1.cell? ⟨w.heap.size + 1, 0, none⟩ = some (.int .i64 a) := hb.cellK; have n3 : w1.cell? ⟨w.heap.size + 1, 1, none⟩ = some (.int .i64 b) := hb.cellK; have n4 : w1.cell? ⟨w.heap.size + 2, 0, none⟩ = some (.int .i64 c) := hb.cellK; have n5 : w1.cell? ⟨w.heap.size + 2, 1, none⟩ = some (.int .i64 d) := hb.cellK; have n6 : w1.cell? ⟨w.heap.size + 3, 0, none⟩ = some (.int .i64 0) := hb.cellK; have n7 : w1.cell? ⟨w.heap.size + 3, 1, none⟩ = some (.int .i64 0) := hb.cellK; have nz0 : w1.frozen? ⟨w.heap.size + 3, 0, none⟩ = false := hb.frzK; have nz1 : w1.frozen? ⟨w.heap.size + 3, 1, none⟩ = false := hb.frzK; (first | (have nx := Ext.trans hx hb; clear hx) | (have nx := Ext.trans (hx.alloc _) hb; clear hx) | (have nx := Ext.trans hx.drew hb; clear hx) | have nx := hb); clear hb; try clear hs; try clear g0; try clear g1; try clear g2; try clear g3; try clear g4; try clear g5; try clear g6; try clear g7; try clear z0; try clear z1; have hx := nx; clear nx; have hs := ns; clear ns; have g0 := n0; clear n0; have g1 := n1; clear n1; have g2 := n2; clear n2; have g3 := n3; clear n3; have g4 := n4; clear n4; have g5 := n5; clear n5; have g6 := n6; clear n6; have g7 := n7; clear n7; have z0 := nz0; clear nz0; have z1 := nz1; clear nz1)))
  all_goals go_wp2_with fail
  all_goals exact bodyPost_ret (v := .tuple #[two u v, .bool true]) (by simp [results, Tryz.results17, go_sem, *]) rfl ⟨rfl, Ext.auK⟩
end Go.Proofs.YtfihhhbdhppemaaGreatDoor

