/-
  Contracts of the functions that the laws reach, and the plain facts that they rest on, each under the conditions that its line names; part 24.
-/
import Derived.Test.YtfihhhbdhppemaaKiw1
import Derived.Test.YtfihhhbdhppemaaKiw2
import Derived.Test.YtfihhhbdhppemaaKiw3
import Derived.Test.YtfihhhbdhppemaaKiw4
import Derived.Test.YtfihhhbdhppemaaKiw5
import Derived.Test.YtfihhhbdhppemaaKiw6
import Derived.Test.YtfihhhbdhppemaaKiw7
import Derived.Test.YtfihhhbdhppemaaKiw8
import Derived.Test.YtfihhhbdhppemaaKiw9
import Derived.Test.YtfihhhbdhppemaaKiw10
import Derived.Test.YtfihhhbdhppemaaKiw11
import Derived.Test.YtfihhhbdhppemaaKiw12
import Derived.Test.YtfihhhbdhppemaaKiw13
import Derived.Test.YtfihhhbdhppemaaKiw14
import Derived.Test.YtfihhhbdhppemaaKiw15
import Derived.Test.YtfihhhbdhppemaaKiw16
import Derived.Test.YtfihhhbdhppemaaKiw17
import Derived.Test.YtfihhhbdhppemaaKiw18
import Derived.Test.YtfihhhbdhppemaaKiw19
import Derived.Test.YtfihhhbdhppemaaKiw20
import Derived.Test.YtfihhhbdhppemaaKiw21
import Derived.Test.YtfihhhbdhppemaaKiw22
import Derived.Test.YtfihhhbdhppemaaKiw23
import Derived.Test.YtfihhhbdhppemaaRows
import Derived.WalkKit
import Derived.LoopTactic
import Derived.Laws.Bits64b
import Derived.WalkSpells
import Derived.WalkLawsBesides
import Derived.StillTactics
import Derived.Laws.Pointers
import Derived.Deep.RegionHeld3
import Derived.Deep.QuietTactic
import Derived.BigQuiet
import Derived.Outline
import Derived.Lib.Hide
import Derived.RowKit3
import Derived.Carry
import Derived.IntWalk
import Derived.LoopN
import Derived.Maps.RangeWalk
import Derived.Maps.OwnSet
import Derived.DeepKeys4
import Derived.BigRegion
namespace Go.Proofs.Ytfihhhbdhppemaa
open Go Go.RowKit Go.Maps
set_option linter.unusedSimpArgs false
set_option linter.unusedVariables false
set_option maxRecDepth 100000

theorem rnd_topI {e f X D mode s : Int} {neg : Bool} (h : IsRnd f (grV e f) X D mode neg s) : 0 ≤ s ∧ s ≤ grV e f + 1 := by
  obtain ⟨p, ⟨p0, p1, _⟩, rfl⟩ := h
  unfold rndP
  split
  · omega
  · split <;> omega

theorem sg_numI {e f n s : Int} (hg : goodB e f = true) (s0 : 0 ≤ s) (s1 : s ≤ inV e f) : numB e f (sgP e f n s) = true := by
  obtain ⟨i0, i1, i2⟩ := in_bd hg
  unfold sgP
  split
  · refine num_mag.2 ⟨pat_iff.2 ⟨hg, by omega, by omega⟩, ?_⟩
    rw [Int.add_comm, Int.add_emod_right, Int.emod_eq_of_lt s0 (by omega)]; exact s1
  · exact num_mag.2 ⟨pat_iff.2 ⟨hg, s0, by omega⟩, by rw [Int.emod_eq_of_lt s0 (by omega)]; exact s1⟩

/-- To what size a dyadic number is rounded. -/
noncomputable def adF (e f n k mode : Int) : Int := Classical.epsilon (fun s => RndD e f (n.natAbs : Int) k mode (decide (n < 0)) s)

theorem ad_eq {e f n k mode s : Int} (hg : goodB e f = true) (h : RndD e f (n.natAbs : Int) k mode (decide (n < 0)) s) : s = adF e f n k mode ∧ numB e f (sgP e f n s) = true := by
  have h2 : RndD e f (n.natAbs : Int) k mode (decide (n < 0)) (adF e f n k mode) := Classical.epsilon_spec (p := fun s => RndD e f (n.natAbs : Int) k mode (decide (n < 0)) s) ⟨s, h⟩
  obtain ⟨s0, s1⟩ := rnd_topI h
  exact ⟨rnd_one (good_iff.1 hg).2.2.1 (by have := pw_pos 149; omega) h h2, sg_numI hg s0 (by unfold inV; unfold grV at s1; omega)⟩

theorem iBounds_fn (e f n d : Int) (hg : asB e f n d = true) (w : World) : Calls Try.prog 48 #[fmt e f, two n d] w fun rv w' => rv = .returned (.tuple #[.int .i64 (sgP e f n (adF e f n (d - unV e f) 4)), .int .i64 (sgP e f n (adF e f n (d - unV e f) 3)), .bool true]) ∧ Ext w w' := by
  refine (iBoundsOf_yes e f n d hg w).mono ?_
  rintro rv w' ⟨s1, s2, rfl, h1, h2, hx⟩
  have g0 := (as_iff.1 hg).1
  obtain rfl := (ad_eq g0 h1).1
  obtain rfl := (ad_eq g0 h2).1
  exact ⟨rfl, hx⟩

theorem ad_num {e f n d m : Int} (hg : asB e f n d = true) (m0 : 0 ≤ m) (m1 : m ≤ 5) (w : World) : numB e f (sgP e f n (adF e f n (d - unV e f) m)) = true := by
  have g0 := (as_iff.1 hg).1
  obtain ⟨_, _, _, ⟨s, _, h, _⟩, _⟩ := rdRound_any e f n d m g0 (rd_dy (as_iff.1 hg).1 (as_iff.1 hg).2) m0 m1 w []
  obtain ⟨rfl, q⟩ := ad_eq g0 h
  exact q

theorem rdRound_fn (e f n d m : Int) (hg : asB e f n d = true) (m0 : 0 ≤ m) (m1 : m ≤ 5) (w : World) : Calls Try.prog 47 #[fmt e f, two n d, .int .i64 m] w fun rv w' => rv = .returned (.int .i64 (sgP e f n (adF e f n (d - unV e f) m))) ∧ Ext w w' := by
  have g0 := (as_iff.1 hg).1
  refine (rdRound_any e f n d m g0 (rd_dy (as_iff.1 hg).1 (as_iff.1 hg).2) m0 m1 w).mono ?_
  rintro rv w' ⟨s, rfl, h, hx⟩
  obtain rfl := (ad_eq g0 h).1
  exact ⟨rfl, hx⟩

theorem iAroundDyadic_no (e f n d : Int) (hg : asB e f n d = false) (w : World) : Calls Try.prog 22 #[fmt e f, two n d] w fun rv w' => rv = .returned (.tuple #[two 0 0, .bool false]) ∧ Ext w w' := by
  have BN := Lib.hid (fun w => iBoundsOf_no e f n d hg w)
  go_enter Try.func22, Try.ntmps22
  have hs : True := trivial
  go_wp2_with (go_at_call 48; refine (BN.out _).mono ?_; rintro rv w1 ⟨rfl, hb⟩; have ns : w.heap.size + 2 < w1.heap.size := hb.ltK; have n0 : w1.cell? ⟨w.heap.size, 0, none⟩ = some (.int .i64 e) := hb.cellK; have n1 : w1.cell? ⟨w.heap.size, 1, none⟩ = some (.int .i64 f) := hb.cellK; have n2 : w1.cell? ⟨w.heap.size + 1, 0, none⟩ = some (.int .i64 n) := hb.cellK; have n3 : w1.cell? ⟨w.heap.size + 1, 1, none⟩ = some (.int .i64 d) := hb.cellK; have n4 : w1.cell? ⟨w.heap.size + 2, 0, none⟩ = some (.int .i64 0) := hb.cellK; have n5 : w1.cell? ⟨w.heap.size + 2, 1, none⟩ = some (.int .i64 0) := hb.cellK; have nz0 : w1.frozen? ⟨w.heap.size + 2, 0, none⟩ = false := hb.frzK; have nz1 : w1.frozen? ⟨w.heap.size + 2, 1, none⟩ = false := hb.frzK; (first | (have nx := Ext.trans hx hb; clear hx) | (have nx := Ext.trans (hx.alloc _) hb; clear hx) | (have nx := Ext.trans hx.drew hb; clear hx) | have nx := hb); clear hb; try clear hs; try clear g0; try clear g1; try clear g2; try clear g3; try clear g4; try clear g5; try clear z0; try clear z1; have hx := nx; clear nx; have hs := ns; clear ns; have g0 := n0; clear n0; have g1 := n1; clear n1; have g2 := n2; clear n2; have g3 := n3; clear n3; have g4 := n4; clear n4; have g5 := n5; clear n5; have z0 := nz0; clear nz0; have z1 := nz1; clear nz1)
  exact bodyPost_ret (v := .tuple #[two 0 0, .bool false]) (by simp [results, Try.results22, go_sem, *]) rfl ⟨rfl, Ext.auK⟩

set_option maxHeartbeats 1600000 in
theorem iAroundDyadic_yes (e f n d : Int) (hg : asB e f n d = true) (w : World) : Calls Try.prog 22 #[fmt e f, two n d] w fun rv w' => rv = .returned (.tuple #[two (enV e f (sgP e f n (adF e f n (d - unV e f) 4))) (enV e f (sgP e f n (adF e f n (d - unV e f) 3))), .bool true]) ∧ Ext w w' := by
  have BN := Lib.hid (fun w => iBounds_fn e f n d hg w)
  have WE := Lib.hid (fun w => withEnds_any e f (sgP e f n (adF e f n (d - unV e f) 4)) (sgP e f n (adF e f n (d - unV e f) 3)) w)
  clear hg
  generalize enV e f (sgP e f n (adF e f n (d - unV e f) 4)) = u at *
  generalize enV e f (sgP e f n (adF e f n (d - unV e f) 3)) = v at *
  generalize (sgP e f n (adF e f n (d - unV e f) 4)) = p at *
  generalize (sgP e f n (adF e f n (d - unV e f) 3)) = q at *
  go_enter Try.func22, Try.ntmps22
  have hs : True := trivial
  go_wp2_with (first | (go_at_call 48; refine (BN.out _).mono ?_; rintro rv w1 ⟨rfl, hb⟩; have ns : w.heap.size + 2 < w1.heap.size := hb.ltK; have n0 : w1.cell? ⟨w.heap.size, 0, none⟩ = some (.int .i64 e) := hb.cellK; have n1 : w1.cell? ⟨w.heap.size, 1, none⟩ = some (.int .i64 f) := hb.cellK; have n2 : w1.cell? ⟨w.heap.size + 1, 0, none⟩ = some (.int .i64 n) := hb.cellK; have n3 : w1.cell? ⟨w.heap.size + 1, 1, none⟩ = some (.int .i64 d) := hb.cellK; have n4 : w1.cell? ⟨w.heap.size + 2, 0, none⟩ = some (.int .i64 0) := hb.cellK; have n5 : w1.cell? ⟨w.heap.size + 2, 1, none⟩ = some (.int .i64 0) := hb.cellK; have nz0 : w1.frozen? ⟨w.heap.size + 2, 0, none⟩ = false := hb.frzK; have nz1 : w1.frozen? ⟨w.heap.size + 2, 1, none⟩ = false := hb.frzK; (first | (have nx := Ext.trans hx hb; clear hx) | (have nx := Ext.trans (hx.alloc _) hb; clear hx) | (have nx := Ext.trans hx.drew hb; clear hx) | have nx := hb); clear hb; try clear hs; try clear g0; try clear g1; try clear g2; try clear g3; try clear g4; try clear g5; try clear z0; try clear z1; have hx := nx; clear nx; have hs := ns; clear ns; have g0 := n0; clear n0; have g1 := n1; clear n1; have g2 := n2; clear n2; have g3 := n3; clear n3; have g4 := n4; clear n4; have g5 := n5; clear n5; have z0 := nz0; clear nz0; have z1 := nz1; clear nz1) | (go_at_call 45; refine (WE.out _).mono ?_; rintro rv w1 ⟨rfl, hb⟩; have ns : w.heap.size + 2 < w1.heap.size := hb.ltK; have n0 : w1.cell? ⟨w.heap.size, 0, none⟩ = some (.int .i64 e) := hb.cellK; have n1 : w1.cell? ⟨w.heap.size, 1, none⟩ = some (.int .i64 f) := hb.cellK; have n2 : w1.cell? ⟨w.heap.size + 1, 0, none⟩ = some (.int .i64 n) := hb.cellK; have n3 : w1.cell? ⟨w.heap.size + 1, 1, none⟩ = some (.int .i64 d) := hb.cellK; have n4 : w1.cell? ⟨w.heap.size + 2, 0, none⟩ = some (.int .i64 0) := hb.cellK; have n5 : w1.cell? ⟨w.heap.size + 2, 1, none⟩ = some (.int .i64 0) := hb.cellK; have nz0 : w1.frozen? ⟨w.heap.size + 2, 0, none⟩ = false := hb.frzK; have nz1 : w1.frozen? ⟨w.heap.size + 2, 1, none⟩ = false := hb.frzK; (first | (have nx := Ext.trans hx hb; clear hx) | (have nx := Ext.trans (hx.alloc _) hb; clear hx) | (have nx := Ext.trans hx.drew hb; clear hx) | have nx := hb); clear hb; try clear hs; try clear g0; try clear g1; try clear g2; try clear g3; try clear g4; try clear g5; try clear z0; try clear z1; have hx := nx; clear nx; have hs := ns; clear ns; have g0 := n0; clear n0; have g1 := n1; clear n1; have g2 := n2; clear n2; have g3 := n3; clear n3; have g4 := n4; clear n4; have g5 := n5; clear n5; have z0 := nz0; clear nz0; have z1 := nz1; clear nz1))
  exact bodyPost_ret (v := .tuple #[two u v, .bool true]) (by simp [results, Try.results22, go_sem, *]) rfl ⟨rfl, Ext.auK⟩

theorem sAroundDyadic_no (e f n d : Int) (hg : asB e f n d = false) (w : World) : Calls Try.prog 20 #[fmt e f, two n d] w fun rv w' => rv = .returned (.tuple #[two 0 0, .bool false]) ∧ Ext w w' := by
  have AC := Lib.hid (fun w => rdAsked_any e f n d w)
  rw [hg] at AC
  go_enter Try.func20, Try.ntmps20
  have hs : True := trivial
  go_wp2_with (go_at_call 46; refine (AC.out _).mono ?_; rintro rv w1 ⟨rfl, hb⟩; have ns : w.heap.size + 2 < w1.heap.size := hb.ltK; have n0 : w1.cell? ⟨w.heap.size, 0, none⟩ = some (.int .i64 e) := hb.cellK; have n1 : w1.cell? ⟨w.heap.size, 1, none⟩ = some (.int .i64 f) := hb.cellK; have n2 : w1.cell? ⟨w.heap.size + 1, 0, none⟩ = some (.int .i64 n) := hb.cellK; have n3 : w1.cell? ⟨w.heap.size + 1, 1, none⟩ = some (.int .i64 d) := hb.cellK; have n4 : w1.cell? ⟨w.heap.size + 2, 0, none⟩ = some (.int .i64 0) := hb.cellK; have n5 : w1.cell? ⟨w.heap.size + 2, 1, none⟩ = some (.int .i64 0) := hb.cellK; have nz0 : w1.frozen? ⟨w.heap.size + 2, 0, none⟩ = false := hb.frzK; have nz1 : w1.frozen? ⟨w.heap.size + 2, 1, none⟩ = false := hb.frzK; (first | (have nx := Ext.trans hx hb; clear hx) | (have nx := Ext.trans (hx.alloc _) hb; clear hx) | (have nx := Ext.trans hx.drew hb; clear hx) | have nx := hb); clear hb; try clear hs; try clear g0; try clear g1; try clear g2; try clear g3; try clear g4; try clear g5; try clear z0; try clear z1; have hx := nx; clear nx; have hs := ns; clear ns; have g0 := n0; clear n0; have g1 := n1; clear n1; have g2 := n2; clear n2; have g3 := n3; clear n3; have g4 := n4; clear n4; have g5 := n5; clear n5; have z0 := nz0; clear nz0; have z1 := nz1; clear nz1)
  exact bodyPost_ret (v := .tuple #[two 0 0, .bool false]) (by simp [results, Try.results20, go_sem, *]) rfl ⟨rfl, Ext.auK⟩

set_option maxHeartbeats 3200000 in
theorem sAroundDyadic_yes (e f n d : Int) (hg : asB e f n d = true) (w : World) : Calls Try.prog 20 #[fmt e f, two n d] w fun rv w' => rv = .returned (.tuple #[two (enV e f (sgP e f n (adF e f n (d - unV e f) 4))) (enV e f (sgP e f n (adF e f n (d - unV e f) 3))), .bool true]) ∧ Ext w w' := by
  have AC := Lib.hid (fun w => rdAsked_any e f n d w)
  have n4 := ad_num (m := 4) hg (by decide) (by decide) w
  have n3 := ad_num (m := 3) hg (by decide) (by decide) w
  have R4 := Lib.hid (fun w => rdRound_fn e f n d 4 hg (by decide) (by decide) w)
  have R3 := Lib.hid (fun w => rdRound_fn e f n d 3 hg (by decide) (by decide) w)
  have IO := fun w => ivOf_any e f (sgP e f n (adF e f n (d - unV e f) 4)) (sgP e f n (adF e f n (d - unV e f) 3)) (num_mag.1 n4).1 (num_mag.1 n3).1 w
  rw [iz_en n4, iz_en n3] at IO
  have IO := Lib.hid IO
  rw [hg] at AC
  clear hg n4 n3
  generalize enV e f (sgP e f n (adF e f n (d - unV e f) 4)) = u at *
  generalize enV e f (sgP e f n (adF e f n (d - unV e f) 3)) = v at *
  generalize (sgP e f n (adF e f n (d - unV e f) 4)) = p at *
  generalize (sgP e f n (adF e f n (d - unV e f) 3)) = q at *
  go_enter Try.func20, Try.ntmps20
  have hs : True := trivial
  go_wp2_with (go_at_call 46; refine (AC.out _).mono ?_; rintro rv w1 ⟨rfl, hb⟩; have ns : w.heap.size + 2 < w1.heap.size := hb.ltK; have n0 : w1.cell? ⟨w.heap.size, 0, none⟩ = some (.int .i64 e) := hb.cellK; have n1 : w1.cell? ⟨w.heap.size, 1, none⟩ = some (.int .i64 f) := hb.cellK; have n2 : w1.cell? ⟨w.heap.size + 1, 0, none⟩ = some (.int .i64 n) := hb.cellK; have n3 : w1.cell? ⟨w.heap.size + 1, 1, none⟩ = some (.int .i64 d) := hb.cellK; have n4 : w1.cell? ⟨w.heap.size + 2, 0, none⟩ = some (.int .i64 0) := hb.cellK; have n5 : w1.cell? ⟨w.heap.size + 2, 1, none⟩ = some (.int .i64 0) := hb.cellK; have nz0 : w1.frozen? ⟨w.heap.size + 2, 0, none⟩ = false := hb.frzK; have nz1 : w1.frozen? ⟨w.heap.size + 2, 1, none⟩ = false := hb.frzK; (first | (have nx := Ext.trans hx hb; clear hx) | (have nx := Ext.trans (hx.alloc _) hb; clear hx) | (have nx := Ext.trans hx.drew hb; clear hx) | have nx := hb); clear hb; try clear hs; try clear g0; try clear g1; try clear g2; try clear g3; try clear g4; try clear g5; try clear z0; try clear z1; have hx := nx; clear nx; have hs := ns; clear ns; have g0 := n0; clear n0; have g1 := n1; clear n1; have g2 := n2; clear n2; have g3 := n3; clear n3; have g4 := n4; clear n4; have g5 := n5; clear n5; have z0 := nz0; clear nz0; have z1 := nz1; clear nz1)
  go_region_held3 (fun w' => w'.cell? ⟨w.heap.size, 0, none⟩ = some (.int .i64 e) ∧ w'.cell? ⟨w.heap.size, 1, none⟩ = some (.int .i64 f) ∧ w'.cell? ⟨w.heap.size + 1, 0, none⟩ = some (.int .i64 n) ∧ w'.cell? ⟨w.heap.size + 1, 1, none⟩ = some (.int .i64 d) ∧ w.heap.size + 2 < w'.heap.size) ((refine ⟨?_, ?_, ?_, ?_, ?_⟩ <;> first | with_reducible assumption | ((repeat first | rw [cell_set_far _ _ _ _ _ _ (by omega)] | rw [cell_alloc_before _ _ _ _ (by omega)] | rw [cell_alloc_drew _ _ _ _ (by omega)] | rw [cell_drew]); with_reducible assumption) | ((rw [cell_setRow_far _ _ _ _ _ (by omega)]); with_reducible assumption) | ((rw [setRow_size]); with_reducible assumption) | (simp; done) | (simp [World.setCell]; first | done | omega) | (simp [go_sem, World.cell?_alloc_past, World.cell?_setCell_far, *]; done))) ((first | (go_at_call 47; (with_reducible refine (R4.out _).mono ?_); rintro rv w1 ⟨rfl, hb⟩; have ns : w.heap.size + 2 < w1.heap.size := hb.ltK; have n0 : w1.cell? ⟨w.heap.size, 0, none⟩ = some (.int .i64 e) := hb.cellK; have n1 : w1.cell? ⟨w.heap.size, 1, none⟩ = some (.int .i64 f) := hb.cellK; have n2 : w1.cell? ⟨w.heap.size + 1, 0, none⟩ = some (.int .i64 n) := hb.cellK; have n3 : w1.cell? ⟨w.heap.size + 1, 1, none⟩ = some (.int .i64 d) := hb.cellK; have n4 : w1.cell? ⟨w.heap.size + 2, 0, none⟩ = some (.int .i64 0) := hb.cellK; have n5 : w1.cell? ⟨w.heap.size + 2, 1, none⟩ = some (.int .i64 0) := hb.cellK; have nz0 : w1.frozen? ⟨w.heap.size + 2, 0, none⟩ = false := hb.frzK; have nz1 : w1.frozen? ⟨w.heap.size + 2, 1, none⟩ = false := hb.frzK; (first | (have nx := Ext.trans hx hb; clear hx) | (have nx := Ext.trans (hx.alloc _) hb; clear hx) | (have nx := Ext.trans hx.drew hb; clear hx) | have nx := hb); clear hb; try clear hs; try clear g0; try clear g1; try clear g2; try clear g3; try clear g4; try clear g5; try clear z0; try clear z1; have hx := nx; clear nx; have hs := ns; clear ns; have g0 := n0; clear n0; have g1 := n1; clear n1; have g2 := n2; clear n2; have g3 := n3; clear n3; have g4 := n4; clear n4; have g5 := n5; clear n5; have z0 := nz0; clear nz0; have z1 := nz1; clear nz1) | (go_at_call 47; (with_reducible refine (R3.out _).mono ?_); rintro rv w1 ⟨rfl, hb⟩; have ns : w.heap.size + 2 < w1.heap.size := hb.ltK; have n0 : w1.cell? ⟨w.heap.size, 0, none⟩ = some (.int .i64 e) := hb.cellK; have n1 : w1.cell? ⟨w.heap.size, 1, none⟩ = some (.int .i64 f) := hb.cellK; have n2 : w1.cell? ⟨w.heap.size + 1, 0, none⟩ = some (.int .i64 n) := hb.cellK; have n3 : w1.cell? ⟨w.heap.size + 1, 1, none⟩ = some (.int .i64 d) := hb.cellK; have n4 : w1.cell? ⟨w.heap.size + 2, 0, none⟩ = some (.int .i64 0) := hb.cellK; have n5 : w1.cell? ⟨w.heap.size + 2, 1, none⟩ = some (.int .i64 0) := hb.cellK; have nz0 : w1.frozen? ⟨w.heap.size + 2, 0, none⟩ = false := hb.frzK; have nz1 : w1.frozen? ⟨w.heap.size + 2, 1, none⟩ = false := hb.frzK; (first | (have nx := Ext.trans hx hb; clear hx) | (have nx := Ext.trans (hx.alloc _) hb; clear hx) | (have nx := Ext.trans hx.drew hb; clear hx) | have nx := hb); clear hb; try clear hs; try clear g0; try clear g1; try clear g2; try clear g3; try clear g4; try clear g5; try clear z0; try clear z1; have hx := nx; clear nx; have hs := ns; clear ns; have g0 := n0; clear n0; have g1 := n1; clear n1; have g2 := n2; clear n2; have g3 := n3; clear n3; have g4 := n4; clear n4; have g5 := n5; clear n5; have z0 := nz0; clear nz0; have z1 := nz1; clear nz1) | (go_at_call 42; refine (IO.out _).mono ?_; rintro rv w1 ⟨rfl, hb⟩; have ns : w.heap.size + 2 < w1.heap.size := hb.ltK; have n0 : w1.cell? ⟨w.heap.size, 0, none⟩ = some (.int .i64 e) := hb.cellK; have n1 : w1.cell? ⟨w.heap.size, 1, none⟩ = some (.int .i64 f) := hb.cellK; have n2 : w1.cell? ⟨w.heap.size + 1, 0, none⟩ = some (.int .i64 n) := hb.cellK; have n3 : w1.cell? ⟨w.heap.size + 1, 1, none⟩ = some (.int .i64 d) := hb.cellK; have n4 : w1.cell? ⟨w.heap.size + 2, 0, none⟩ = some (.int .i64 0) := hb.cellK; have n5 : w1.cell? ⟨w.heap.size + 2, 1, none⟩ = some (.int .i64 0) := hb.cellK; have nz0 : w1.frozen? ⟨w.heap.size + 2, 0, none⟩ = false := hb.frzK; have nz1 : w1.frozen? ⟨w.heap.size + 2, 1, none⟩ = false := hb.frzK; (first | (have nx := Ext.trans hx hb; clear hx) | (have nx := Ext.trans (hx.alloc _) hb; clear hx) | (have nx := Ext.trans hx.drew hb; clear hx) | have nx := hb); clear hb; try clear hs; try clear g0; try clear g1; try clear g2; try clear g3; try clear g4; try clear g5; try clear z0; try clear z1; have hx := nx; clear nx; have hs := ns; clear ns; have g0 := n0; clear n0; have g1 := n1; clear n1; have g2 := n2; clear n2; have g3 := n3; clear n3; have g4 := n4; clear n4; have g5 := n5; clear n5; have z0 := nz0; clear nz0; have z1 := nz1; clear nz1)))
  all_goals go_wp2_with fail
  all_goals exact bodyPost_ret (v := .tuple #[two u v, .bool true]) (by simp [results, Try.results20, go_sem, *]) rfl ⟨rfl, Ext.auK⟩
end Go.Proofs.Ytfihhhbdhppemaa

