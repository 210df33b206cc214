/-
  Contracts of the functions that the laws reach, and the plain facts that they rest on, each under the conditions that its line names; part 7.
-/
import Derived.Test.YtafkcgpfllloiaaDoorKLH1
import Derived.Test.YtafkcgpfllloiaaDoorKLH2
import Derived.Test.YtafkcgpfllloiaaDoorKLH3
import Derived.Test.YtafkcgpfllloiaaDoorKLH4
import Derived.Test.YtafkcgpfllloiaaDoorKLH5
import Derived.Test.YtafkcgpfllloiaaDoorKLH6
import Derived.Test.YtafkcgpfllloiaaDoorRows
import Derived.WalkKit
import Derived.LoopTactic
import Derived.Laws.Bits64b
import Derived.WalkSpells
import Derived.WalkLawsBesides
import Derived.StillTactics
import Derived.Laws.Pointers
import Derived.Deep.RegionHeld3
import Derived.Deep.QuietTactic
import Derived.BigQuiet
import Derived.Outline
import Derived.Lib.Hide
import Derived.RowKit3
import Derived.Carry
import Derived.IntWalk
namespace Go.Proofs.YtafkcgpfllloiaaDoor
open Go Go.RowKit
set_option linter.unusedSimpArgs false
set_option linter.unusedVariables false

theorem placesOf_any (n : Int) (h1 : -9223372036854775808 < n) (h2 : n < 9223372036854775808) (w : World) : Calls Tryd.prog 84 #[.int .i64 n] w fun rv w' => rv = .returned (.int .i64 (plV n)) ∧ w = w' := by
  have hk : (max n (-n)).toNat = n.natAbs := by omega
  have Hk := Lib.hid hk; clear hk
  go_enter Tryd.func84, Tryd.ntmps84
  go_wp2_with (go_at_call 87; refine (Tryd.bits_Len _ _ (by omega) (by omega)).mono ?_; rintro rv w1 ⟨rfl, rfl⟩)
  go_ret
  exact ⟨ret_int (by unfold plV; rw [← Hk.out]), rfl⟩

theorem compareInt_sg (x y : Int) : Lib.compareInt x y = sgV (x - y) := by
  unfold Lib.compareInt
  rcases Int.lt_trichotomy x y with h | h | h
  · rw [sg_neg (by omega)]; simp [h]
  · rw [sg_zero (by omega)]; simp [h]
  · rw [sg_pos (by omega)]; simp [h, Int.not_lt.2 (Int.le_of_lt h)]

theorem compare_sg (x y : Int) (w : World) : Calls Tryd.prog 70 #[.int .i64 x, .int .i64 y] w fun rv w' => rv = .returned (.int .i64 (sgV (x - y))) ∧ w = w' := by
  refine (Tryd.cmp_Compare_int x y w).mono ?_
  rintro rv w' ⟨rfl, rfl⟩
  exact ⟨ret_int (compareInt_sg x y), rfl⟩

theorem sg_bd (n : Int) : -1 ≤ sgV n ∧ sgV n ≤ 1 := by unfold sgV; split <;> (try split) <;> omega

theorem topOf_any (n d : Int) (hg : dyB n d = true) (w : World) : Calls Tryd.prog 71 #[two n d] w fun rv w' => rv = .returned (.int .i64 (topV n d)) ∧ Ext w w' := by
  obtain ⟨⟨h1, h2, h3, h4⟩, _⟩ := dy_iff.1 hg
  have p1 := (top_bd hg).2.2.1
  have p2 := (top_bd hg).2.2.2
  have b := sg_bd n
  have m1 : -251 ≤ sgV n * (100 + d + plV n) := (top_bd hg).1
  have m2 : sgV n * (100 + d + plV n) ≤ 251 := (top_bd hg).2.1
  have k1 : IntKind.i64.wrap (sgV n * (100 + d + plV n)) = sgV n * (100 + d + plV n) := IntWalk.i64_in _ (by omega)
  have k2 : sgV (n - 0) = sgV n := by rw [Int.sub_zero]
  go_enter Tryd.func71, Tryd.ntmps71
  go_wp2_with fail
  go_region_held3 (fun w' => w'.cell? ⟨w.heap.size, 0, none⟩ = some (.int .i64 n) ∧ w'.cell? ⟨w.heap.size, 1, none⟩ = some (.int .i64 d) ∧ w.heap.size < w'.heap.size) ((refine ⟨?_, ?_, ?_⟩ <;> first | with_reducible assumption | ((rw [cell_setRow_far _ _ _ _ _ (by omega)]); with_reducible assumption) | ((rw [setRow_size]); with_reducible assumption) | ((repeat rw [World.cell?_setCell_far _ _ _ _ (by simp)]); with_reducible assumption) | (simp; done) | (simp [World.setCell]; first | done | omega) | (simp [go_sem, World.cell?_alloc_past, World.cell?_setCell_far, *]; done))) ((first | (go_at_call 84; refine (placesOf_any n (by omega) (by omega) _).mono ?_; rintro rv w1 ⟨rfl, rfl⟩)))
  go_wp2_with (go_at_call 70; refine (compare_sg _ _ _).mono ?_; rintro rv w1 ⟨rfl, rfl⟩)
  go_ret
  exact ⟨ret_int (by unfold topV; first | rfl | (trace_state; rw [Int.sub_zero])), (by repeat (first | exact Ext.refl _ | with_reducible assumption | apply Ext.alloc | apply Ext.drew | apply Ext.drewN | (refine Ext.setRow ?_ (by first | (simp; done) | (simp; omega) | omega) _) | (refine Ext.setCell ?_ (by first | (simp; done) | (simp; omega) | omega) _) | (refine Ext.trans ?_ (by with_reducible assumption))))⟩
end Go.Proofs.YtafkcgpfllloiaaDoor

namespace Go.Proofs.YtafkcgpfllloiaaDoor
open Go Go.RowKit
set_option linter.unusedSimpArgs false
set_option linter.unusedVariables false

theorem low_few {na ea nb eb : Int} (ha : dyB na ea = true) (hb : dyB nb eb = true) (h0 : na ≠ 0) (h1 : nb ≠ 0) (h : plV na + ea = plV nb + eb) :
    0 ≤ ea - min ea eb ∧ ea - min ea eb ≤ 51 ∧ 0 ≤ eb - min ea eb ∧ eb - min ea eb ≤ 51 := by
  obtain ⟨⟨a1, a2, a3, a4⟩, _⟩ := dy_iff.1 ha
  obtain ⟨⟨b1, b2, b3, b4⟩, _⟩ := dy_iff.1 hb
  have := (top_bd ha).2.2; have := (top_bd hb).2.2
  have := (pl_bd na h0 (by omega) (by omega)).1
  have := (pl_bd nb h1 (by omega) (by omega)).1
  omega

theorem sg_nz {na nb : Int} (h : sgV na = sgV nb) (h0 : na ≠ 0) : nb ≠ 0 := by
  intro hb
  subst hb
  rcases Int.lt_or_gt_of_ne h0 with g | g
  · rw [sg_neg g] at h; cases h
  · rw [sg_pos g] at h; cases h
end Go.Proofs.YtafkcgpfllloiaaDoor

namespace Go.Proofs.YtafkcgpfllloiaaDoor
open Go Go.RowKit
set_option linter.unusedSimpArgs false
set_option linter.unusedVariables false

theorem iCompareDyadic_same (n d : Int) (hg : dyB n d = true) (w : World) : Calls Tryd.prog 53 #[two n d, two n d] w fun rv w' => rv = .returned (.tuple #[.int .i64 (cmpD n d n d), .bool true]) ∧ Ext w w' := by
  have q := eqDy n d n d
  have q2 : (n == n && d == d) = true := by simp
  rw [q2] at q
  have hk := cmp_same (na := n) (ea := d)
  have Hk := Lib.hid hk; clear hk q2
  go_enter Tryd.func53, Tryd.ntmps53
  go_wp2_with (go_at_call 69; refine (iIsDyadic_any _ _ _).mono ?_; rintro rv w1 ⟨rfl, hb⟩; have ns : w.heap.size + 1 < w1.heap.size := hb.lt (by first | with_reducible assumption | omega | (simp; done) | (simp; omega)); have n0 : w1.cell? ⟨w.heap.size, 0, none⟩ = some (.int .i64 n) := (hb.cells _ _ (by first | with_reducible assumption | omega | (simp; done) | (simp; omega))).trans (by first | with_reducible assumption | (simp; done) | (simp; with_reducible assumption) | (rw [cell_alloc_before _ _ _ _ (by omega)]; with_reducible assumption) | (simp [go_sem, *]; done)); have n1 : w1.cell? ⟨w.heap.size, 1, none⟩ = some (.int .i64 d) := (hb.cells _ _ (by first | with_reducible assumption | omega | (simp; done) | (simp; omega))).trans (by first | with_reducible assumption | (simp; done) | (simp; with_reducible assumption) | (rw [cell_alloc_before _ _ _ _ (by omega)]; with_reducible assumption) | (simp [go_sem, *]; done)); have n2 : w1.cell? ⟨w.heap.size + 1, 0, none⟩ = some (.int .i64 n) := (hb.cells _ _ (by first | with_reducible assumption | omega | (simp; done) | (simp; omega))).trans (by first | with_reducible assumption | (simp; done) | (simp; with_reducible assumption) | (rw [cell_alloc_before _ _ _ _ (by omega)]; with_reducible assumption) | (simp [go_sem, *]; done)); have n3 : w1.cell? ⟨w.heap.size + 1, 1, none⟩ = some (.int .i64 d) := (hb.cells _ _ (by first | with_reducible assumption | omega | (simp; done) | (simp; omega))).trans (by first | with_reducible assumption | (simp; done) | (simp; with_reducible assumption) | (rw [cell_alloc_before _ _ _ _ (by omega)]; with_reducible assumption) | (simp [go_sem, *]; done)); (first | (have nx := Ext.trans hx hb; clear hx) | (have nx := Ext.trans (hx.alloc _) hb; clear hx) | (have nx := Ext.trans hx.drew hb; clear hx) | have nx := hb); clear hb; try clear hs; try clear g0; try clear g1; try clear g2; try clear g3; have hx := nx; clear nx; have hs := ns; clear ns; have g0 := n0; clear n0; have g1 := n1; clear n1; have g2 := n2; clear n2; have g3 := n3; clear n3)
  go_ret2
  exact ⟨ret_i2 Hk.out.symm, (by repeat (first | exact Ext.refl _ | with_reducible assumption | apply Ext.alloc | apply Ext.drew | apply Ext.drewN | (refine Ext.setRow ?_ (by first | (simp; done) | (simp; omega) | omega) _) | (refine Ext.setCell ?_ (by first | (simp; done) | (simp; omega) | omega) _) | (refine Ext.trans ?_ (by with_reducible assumption))))⟩

theorem sg_top {n d : Int} (h : dyB n d = true) : sgV (topV n d) = sgV n := by
  obtain ⟨⟨h1, h2, h3, h4⟩, _⟩ := dy_iff.1 h
  have q := fun g => pl_bd n g (by omega) (by omega)
  unfold topV
  rcases Int.lt_trichotomy n 0 with g | g | g
  · have := q (by omega)
    rw [sg_neg g, sg_neg (by omega)]
  · rw [sg_zero g]; simp; rfl
  · have := q (by omega)
    rw [sg_pos g, sg_pos (by omega)]

theorem top_few {na ea nb eb : Int} (ha : dyB na ea = true) (hb : dyB nb eb = true) (hn : ¬ (na = nb ∧ ea = eb)) (h : topV na ea = topV nb eb) :
    0 ≤ ea - min ea eb ∧ ea - min ea eb ≤ 51 ∧ 0 ≤ eb - min ea eb ∧ eb - min ea eb ≤ 51 := by
  have hs : sgV na = sgV nb := by rw [← sg_top ha, ← sg_top hb, h]
  obtain ⟨⟨a1, a2, a3, a4⟩, a5⟩ := dy_iff.1 ha
  obtain ⟨⟨b1, b2, b3, b4⟩, b5⟩ := dy_iff.1 hb
  have h0 : na ≠ 0 := by
    intro h0
    have : nb = 0 := by
      subst h0
      rcases Int.lt_trichotomy nb 0 with g | g | g
      · rw [sg_neg g] at hs; cases hs
      · exact g
      · rw [sg_pos g] at hs; cases hs
    omega
  refine low_few ha hb h0 (sg_nz hs h0) ?_
  unfold topV at h
  rw [← hs] at h
  rcases Int.lt_or_gt_of_ne h0 with g | g
  · rw [sg_neg g] at h; omega
  · rw [sg_pos g] at h; omega

set_option maxHeartbeats 1600000 in
theorem iCompareDyadic_top (na ea nb eb : Int) (ha : dyB na ea = true) (hb : dyB nb eb = true) (hn : ¬ (na = nb ∧ ea = eb)) (h : topV na ea ≠ topV nb eb) (w : World) : Calls Tryd.prog 53 #[two na ea, two nb eb] w fun rv w' => rv = .returned (.tuple #[.int .i64 (cmpD na ea nb eb), .bool true]) ∧ Ext w w' := by
  have q := eqDy na ea nb eb
  have q2 : (na == nb && ea == eb) = false := by simpa using hn
  rw [q2] at q
  have hk := cmp_top ha hb h
  have Hk := Lib.hid hk; clear hk q2
  have s1 : ¬ sgV (topV na ea - topV nb eb) = 0 := by
    rcases Int.lt_or_gt_of_ne h with g | g
    · rw [sg_neg (by omega)]; decide
    · rw [sg_pos (by omega)]; decide
  have s2 : (sgV (topV na ea - topV nb eb) == 0) = false := by simpa using s1
  have s3 : (sgV (topV na ea - topV nb eb) != 0) = true := by simpa using s1
  clear h hn
  go_enter Tryd.func53, Tryd.ntmps53
  go_wp2_with (go_at_call 69; refine (iIsDyadic_any _ _ _).mono ?_; rintro rv w1 ⟨rfl, hb⟩; have ns : w.heap.size + 1 < w1.heap.size := hb.lt (by first | with_reducible assumption | omega | (simp; done) | (simp; omega)); have n0 : w1.cell? ⟨w.heap.size, 0, none⟩ = some (.int .i64 na) := (hb.cells _ _ (by first | with_reducible assumption | omega | (simp; done) | (simp; omega))).trans (by first | with_reducible assumption | (simp; done) | (simp; with_reducible assumption) | (rw [cell_alloc_before _ _ _ _ (by omega)]; with_reducible assumption) | (simp [go_sem, *]; done)); have n1 : w1.cell? ⟨w.heap.size, 1, none⟩ = some (.int .i64 ea) := (hb.cells _ _ (by first | with_reducible assumption | omega | (simp; done) | (simp; omega))).trans (by first | with_reducible assumption | (simp; done) | (simp; with_reducible assumption) | (rw [cell_alloc_before _ _ _ _ (by omega)]; with_reducible assumption) | (simp [go_sem, *]; done)); have n2 : w1.cell? ⟨w.heap.size + 1, 0, none⟩ = some (.int .i64 nb) := (hb.cells _ _ (by first | with_reducible assumption | omega | (simp; done) | (simp; omega))).trans (by first | with_reducible assumption | (simp; done) | (simp; with_reducible assumption) | (rw [cell_alloc_before _ _ _ _ (by omega)]; with_reducible assumption) | (simp [go_sem, *]; done)); have n3 : w1.cell? ⟨w.heap.size + 1, 1, none⟩ = some (.int .i64 eb) := (hb.cells _ _ (by first | with_reducible assumption | omega | (simp; done) | (simp; omega))).trans (by first | with_reducible assumption | (simp; done) | (simp; with_reducible assumption) | (rw [cell_alloc_before _ _ _ _ (by omega)]; with_reducible assumption) | (simp [go_sem, *]; done)); (first | (have nx := Ext.trans hx hb; clear hx) | (have nx := Ext.trans (hx.alloc _) hb; clear hx) | (have nx := Ext.trans hx.drew hb; clear hx) | have nx := hb); clear hb; try clear hs; try clear g0; try clear g1; try clear g2; try clear g3; have hx := nx; clear nx; have hs := ns; clear ns; have g0 := n0; clear n0; have g1 := n1; clear n1; have g2 := n2; clear n2; have g3 := n3; clear n3)
  go_region_held3 (fun w' => w'.cell? ⟨w.heap.size, 0, none⟩ = some (.int .i64 na) ∧ w'.cell? ⟨w.heap.size, 1, none⟩ = some (.int .i64 ea) ∧ w'.cell? ⟨w.heap.size + 1, 0, none⟩ = some (.int .i64 nb) ∧ w'.cell? ⟨w.heap.size + 1, 1, none⟩ = some (.int .i64 eb) ∧ w.heap.size + 1 < w'.heap.size) ((refine ⟨?_, ?_, ?_, ?_, ?_⟩ <;> first | with_reducible assumption | ((rw [cell_setRow_far _ _ _ _ _ (by omega)]); with_reducible assumption) | ((rw [setRow_size]); with_reducible assumption) | ((repeat rw [World.cell?_setCell_far _ _ _ _ (by simp)]); with_reducible assumption) | (simp; done) | (simp [World.setCell]; first | done | omega) | (simp [go_sem, World.cell?_alloc_past, World.cell?_setCell_far, *]; done))) ((first | (go_at_call 71; refine (topOf_any _ _ (by assumption) _).mono ?_; rintro rv w1 ⟨rfl, hb⟩; have ns : w.heap.size + 1 < w1.heap.size := hb.lt (by first | with_reducible assumption | omega | (simp; done) | (simp; omega)); have n0 : w1.cell? ⟨w.heap.size, 0, none⟩ = some (.int .i64 na) := (hb.cells _ _ (by first | with_reducible assumption | omega | (simp; done) | (simp; omega))).trans (by first | with_reducible assumption | (simp; done) | (simp; with_reducible assumption) | (rw [cell_alloc_before _ _ _ _ (by omega)]; with_reducible assumption) | (simp [go_sem, *]; done)); have n1 : w1.cell? ⟨w.heap.size, 1, none⟩ = some (.int .i64 ea) := (hb.cells _ _ (by first | with_reducible assumption | omega | (simp; done) | (simp; omega))).trans (by first | with_reducible assumption | (simp; done) | (simp; with_reducible assumption) | (rw [cell_alloc_before _ _ _ _ (by omega)]; with_reducible assumption) | (simp [go_sem, *]; done)); have n2 : w1.cell? ⟨w.heap.size + 1, 0, none⟩ = some (.int .i64 nb) := (hb.cells _ _ (by first | with_reducible assumption | omega | (simp; done) | (simp; omega))).trans (by first | with_reducible assumption | (simp; done) | (simp; with_reducible assumption) | (rw [cell_alloc_before _ _ _ _ (by omega)]; with_reducible assumption) | (simp [go_sem, *]; done)); have n3 : w1.cell? ⟨w.heap.size + 1, 1, none⟩ = some (.int .i64 eb) := (hb.cells _ _ (by first | with_reducible assumption | omega | (simp; done) | (simp; omega))).trans (by first | with_reducible assumption | (simp; done) | (simp; with_reducible assumption) | (rw [cell_alloc_before _ _ _ _ (by omega)]; with_reducible assumption) | (simp [go_sem, *]; done)); (first | (have nx := Ext.trans hx hb; clear hx) | (have nx := Ext.trans (hx.alloc _) hb; clear hx) | (have nx := Ext.trans hx.drew hb; clear hx) | have nx := hb); clear hb; try clear hs; try clear g0; try clear g1; try clear g2; try clear g3; have hx := nx; clear nx; have hs := ns; clear ns; have g0 := n0; clear n0; have g1 := n1; clear n1; have g2 := n2; clear n2; have g3 := n3; clear n3) | (go_at_call 70; refine (compare_sg _ _ _).mono ?_; rintro rv w1 ⟨rfl, rfl⟩)))
  go_wp2_with fail
  go_ret2
  exact ⟨ret_i2 Hk.out.symm, (by repeat (first | exact Ext.refl _ | with_reducible assumption | apply Ext.alloc | apply Ext.drew | apply Ext.drewN | (refine Ext.setRow ?_ (by first | (simp; done) | (simp; omega) | omega) _) | (refine Ext.setCell ?_ (by first | (simp; done) | (simp; omega) | omega) _) | (refine Ext.trans ?_ (by with_reducible assumption))))⟩

set_option maxHeartbeats 1600000 in
theorem iCompareDyadic_low (na ea nb eb : Int) (ha : dyB na ea = true) (hb : dyB nb eb = true) (hn : ¬ (na = nb ∧ ea = eb)) (h : topV na ea = topV nb eb) (w : World) : Calls Tryd.prog 53 #[two na ea, two nb eb] w fun rv w' => rv = .returned (.tuple #[.int .i64 (cmpD na ea nb eb), .bool true]) ∧ Ext w w' := by
  obtain ⟨⟨a1, a2, a3, a4⟩, _⟩ := dy_iff.1 ha
  obtain ⟨⟨b1, b2, b3, b4⟩, _⟩ := dy_iff.1 hb
  have q := eqDy na ea nb eb
  have q2 : (na == nb && ea == eb) = false := by simpa using hn
  rw [q2] at q
  have hk := cmp_low (na := na) (ea := ea) (nb := nb) (eb := eb) (l := min ea eb) (by omega) (by omega) (by omega)
  have Hk := Lib.hid hk; clear hk q2
  obtain ⟨f1, f2, f5⟩ := low_fits ha hb h
  obtain ⟨f3, f4, f6⟩ := low_fits hb ha h.symm
  rw [show min eb ea = min ea eb by omega] at f3 f4 f6
  have s1 : sgV (topV na ea - topV nb eb) = 0 := sg_zero (by omega)
  have H1 := Lib.hid s1; clear s1
  have s2 : (sgV (topV na ea - topV nb eb) == 0) = true := by simp [H1.out]
  have s3 : (sgV (topV na ea - topV nb eb) != 0) = false := by simp [H1.out]
  have k3 : IntKind.i64.wrap (ea - min ea eb) = ea - min ea eb := IntWalk.i64_in _ (by omega)
  have k4 : IntKind.i64.wrap (eb - min ea eb) = eb - min ea eb := IntWalk.i64_in _ (by omega)
  have p1 := pw_of (ea - min ea eb)
  have p2 := pw_of (eb - min ea eb)
  have k5 : IntKind.i64.wrap (na * pw (ea - min ea eb)) = na * pw (ea - min ea eb) := IntWalk.i64_in _ (by omega)
  have k6 : IntKind.i64.wrap (nb * pw (eb - min ea eb)) = nb * pw (eb - min ea eb) := IntWalk.i64_in _ (by omega)
  obtain ⟨j1, j2, j3, j4⟩ := top_few ha hb hn h
  clear h hn
  go_enter Tryd.func53, Tryd.ntmps53
  go_wp2_with (go_at_call 69; refine (iIsDyadic_any _ _ _).mono ?_; rintro rv w1 ⟨rfl, hb⟩; have ns : w.heap.size + 1 < w1.heap.size := hb.lt (by first | with_reducible assumption | omega | (simp; done) | (simp; omega)); have n0 : w1.cell? ⟨w.heap.size, 0, none⟩ = some (.int .i64 na) := (hb.cells _ _ (by first | with_reducible assumption | omega | (simp; done) | (simp; omega))).trans (by first | with_reducible assumption | (simp; done) | (simp; with_reducible assumption) | (rw [cell_alloc_before _ _ _ _ (by omega)]; with_reducible assumption) | (simp [go_sem, *]; done)); have n1 : w1.cell? ⟨w.heap.size, 1, none⟩ = some (.int .i64 ea) := (hb.cells _ _ (by first | with_reducible assumption | omega | (simp; done) | (simp; omega))).trans (by first | with_reducible assumption | (simp; done) | (simp; with_reducible assumption) | (rw [cell_alloc_before _ _ _ _ (by omega)]; with_reducible assumption) | (simp [go_sem, *]; done)); have n2 : w1.cell? ⟨w.heap.size + 1, 0, none⟩ = some (.int .i64 nb) := (hb.cells _ _ (by first | with_reducible assumption | omega | (simp; done) | (simp; omega))).trans (by first | with_reducible assumption | (simp; done) | (simp; with_reducible assumption) | (rw [cell_alloc_before _ _ _ _ (by omega)]; with_reducible assumption) | (simp [go_sem, *]; done)); have n3 : w1.cell? ⟨w.heap.size + 1, 1, none⟩ = some (.int .i64 eb) := (hb.cells _ _ (by first | with_reducible assumption | omega | (simp; done) | (simp; omega))).trans (by first | with_reducible assumption | (simp; done) | (simp; with_reducible assumption) | (rw [cell_alloc_before _ _ _ _ (by omega)]; with_reducible assumption) | (simp [go_sem, *]; done)); (first | (have nx := Ext.trans hx hb; clear hx) | (have nx := Ext.trans (hx.alloc _) hb; clear hx) | (have nx := Ext.trans hx.drew hb; clear hx) | have nx := hb); clear hb; try clear hs; try clear g0; try clear g1; try clear g2; try clear g3; have hx := nx; clear nx; have hs := ns; clear ns; have g0 := n0; clear n0; have g1 := n1; clear n1; have g2 := n2; clear n2; have g3 := n3; clear n3)
  go_region_held3 (fun w' => w'.cell? ⟨w.heap.size, 0, none⟩ = some (.int .i64 na) ∧ w'.cell? ⟨w.heap.size, 1, none⟩ = some (.int .i64 ea) ∧ w'.cell? ⟨w.heap.size + 1, 0, none⟩ = some (.int .i64 nb) ∧ w'.cell? ⟨w.heap.size + 1, 1, none⟩ = some (.int .i64 eb) ∧ w.heap.size + 1 < w'.heap.size) ((refine ⟨?_, ?_, ?_, ?_, ?_⟩ <;> first | with_reducible assumption | ((rw [cell_setRow_far _ _ _ _ _ (by omega)]); with_reducible assumption) | ((rw [setRow_size]); with_reducible assumption) | ((repeat rw [World.cell?_setCell_far _ _ _ _ (by simp)]); with_reducible assumption) | (simp; done) | (simp [World.setCell]; first | done | omega) | (simp [go_sem, World.cell?_alloc_past, World.cell?_setCell_far, *]; done))) ((first | (go_at_call 71; refine (topOf_any _ _ (by assumption) _).mono ?_; rintro rv w1 ⟨rfl, hb⟩; have ns : w.heap.size + 1 < w1.heap.size := hb.lt (by first | with_reducible assumption | omega | (simp; done) | (simp; omega)); have n0 : w1.cell? ⟨w.heap.size, 0, none⟩ = some (.int .i64 na) := (hb.cells _ _ (by first | with_reducible assumption | omega | (simp; done) | (simp; omega))).trans (by first | with_reducible assumption | (simp; done) | (simp; with_reducible assumption) | (rw [cell_alloc_before _ _ _ _ (by omega)]; with_reducible assumption) | (simp [go_sem, *]; done)); have n1 : w1.cell? ⟨w.heap.size, 1, none⟩ = some (.int .i64 ea) := (hb.cells _ _ (by first | with_reducible assumption | omega | (simp; done) | (simp; omega))).trans (by first | with_reducible assumption | (simp; done) | (simp; with_reducible assumption) | (rw [cell_alloc_before _ _ _ _ (by omega)]; with_reducible assumption) | (simp [go_sem, *]; done)); have n2 : w1.cell? ⟨w.heap.size + 1, 0, none⟩ = some (.int .i64 nb) := (hb.cells _ _ (by first | with_reducible assumption | omega | (simp; done) | (simp; omega))).trans (by first | with_reducible assumption | (simp; done) | (simp; with_reducible assumption) | (rw [cell_alloc_before _ _ _ _ (by omega)]; with_reducible assumption) | (simp [go_sem, *]; done)); have n3 : w1.cell? ⟨w.heap.size + 1, 1, none⟩ = some (.int .i64 eb) := (hb.cells _ _ (by first | with_reducible assumption | omega | (simp; done) | (simp; omega))).trans (by first | with_reducible assumption | (simp; done) | (simp; with_reducible assumption) | (rw [cell_alloc_before _ _ _ _ (by omega)]; with_reducible assumption) | (simp [go_sem, *]; done)); (first | (have nx := Ext.trans hx hb; clear hx) | (have nx := Ext.trans (hx.alloc _) hb; clear hx) | (have nx := Ext.trans hx.drew hb; clear hx) | have nx := hb); clear hb; try clear hs; try clear g0; try clear g1; try clear g2; try clear g3; have hx := nx; clear nx; have hs := ns; clear ns; have g0 := n0; clear n0; have g1 := n1; clear n1; have g2 := n2; clear n2; have g3 := n3; clear n3) | (go_at_call 70; refine (compare_sg _ _ _).mono ?_; rintro rv w1 ⟨rfl, rfl⟩)))
  go_wp2_with fail
  go_region_held3 (fun w' => w'.cell? ⟨w.heap.size, 0, none⟩ = some (.int .i64 na) ∧ w'.cell? ⟨w.heap.size, 1, none⟩ = some (.int .i64 ea) ∧ w'.cell? ⟨w.heap.size + 1, 0, none⟩ = some (.int .i64 nb) ∧ w'.cell? ⟨w.heap.size + 1, 1, none⟩ = some (.int .i64 eb) ∧ w.heap.size + 1 < w'.heap.size) ((refine ⟨?_, ?_, ?_, ?_, ?_⟩ <;> first | with_reducible assumption | ((rw [cell_setRow_far _ _ _ _ _ (by omega)]); with_reducible assumption) | ((rw [setRow_size]); with_reducible assumption) | ((repeat rw [World.cell?_setCell_far _ _ _ _ (by simp)]); with_reducible assumption) | (simp; done) | (simp [World.setCell]; first | done | omega) | (simp [go_sem, World.cell?_alloc_past, World.cell?_setCell_far, *]; done))) ((first | (go_at_call 70; refine (compare_sg _ _ _).mono ?_; rintro rv w1 ⟨rfl, rfl⟩)))
  go_wp2_with fail
  go_ret2
  exact ⟨ret_i2 Hk.out.symm, (by repeat (first | exact Ext.refl _ | with_reducible assumption | apply Ext.alloc | apply Ext.drew | apply Ext.drewN | (refine Ext.setRow ?_ (by first | (simp; done) | (simp; omega) | omega) _) | (refine Ext.setCell ?_ (by first | (simp; done) | (simp; omega) | omega) _) | (refine Ext.trans ?_ (by with_reducible assumption))))⟩

theorem iCompareDyadic_yes (na ea nb eb : Int) (hg : dy2B na ea nb eb = true) (w : World) : Calls Tryd.prog 53 #[two na ea, two nb eb] w fun rv w' => rv = .returned (.tuple #[.int .i64 (cmpD na ea nb eb), .bool true]) ∧ Ext w w' := by
  obtain ⟨ha, hb⟩ := dy2_iff.1 hg
  by_cases hn : na = nb ∧ ea = eb
  · obtain ⟨rfl, rfl⟩ := hn
    exact iCompareDyadic_same na ea ha w
  · by_cases h : topV na ea = topV nb eb
    · exact iCompareDyadic_low na ea nb eb ha hb hn h w
    · exact iCompareDyadic_top na ea nb eb ha hb hn h w
end Go.Proofs.YtafkcgpfllloiaaDoor

