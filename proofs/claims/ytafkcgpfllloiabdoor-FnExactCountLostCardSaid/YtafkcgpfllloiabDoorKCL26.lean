/-
  Contracts of the functions that the laws reach, and the plain facts that they rest on, each under the conditions that its line names; part 26.
-/
import Derived.Test.YtafkcgpfllloiabDoorKCL1
import Derived.Test.YtafkcgpfllloiabDoorKCL2
import Derived.Test.YtafkcgpfllloiabDoorKCL3
import Derived.Test.YtafkcgpfllloiabDoorKCL4
import Derived.Test.YtafkcgpfllloiabDoorKCL5
import Derived.Test.YtafkcgpfllloiabDoorKCL6
import Derived.Test.YtafkcgpfllloiabDoorKCL7
import Derived.Test.YtafkcgpfllloiabDoorKCL8
import Derived.Test.YtafkcgpfllloiabDoorKCL9
import Derived.Test.YtafkcgpfllloiabDoorKCL10
import Derived.Test.YtafkcgpfllloiabDoorKCL11
import Derived.Test.YtafkcgpfllloiabDoorKCL12
import Derived.Test.YtafkcgpfllloiabDoorKCL13
import Derived.Test.YtafkcgpfllloiabDoorKCL14
import Derived.Test.YtafkcgpfllloiabDoorKCL15
import Derived.Test.YtafkcgpfllloiabDoorKCL16
import Derived.Test.YtafkcgpfllloiabDoorKCL17
import Derived.Test.YtafkcgpfllloiabDoorKCL18
import Derived.Test.YtafkcgpfllloiabDoorKCL19
import Derived.Test.YtafkcgpfllloiabDoorKCL20
import Derived.Test.YtafkcgpfllloiabDoorKCL21
import Derived.Test.YtafkcgpfllloiabDoorKCL22
import Derived.Test.YtafkcgpfllloiabDoorKCL23
import Derived.Test.YtafkcgpfllloiabDoorKCL24
import Derived.Test.YtafkcgpfllloiabDoorKCL25
import Derived.Test.YtafkcgpfllloiabDoorRows
import Derived.WalkKit
import Derived.LoopTactic
import Derived.Laws.Bits64b
import Derived.WalkSpells
import Derived.WalkLawsBesides
import Derived.StillTactics
import Derived.Laws.Pointers
import Derived.Deep.RegionHeld3
import Derived.Deep.QuietTactic
import Derived.BigQuiet
import Derived.Outline
import Derived.Lib.Hide
import Derived.RowKit3
import Derived.Carry
import Derived.IntWalk
namespace Go.Proofs.YtafkcgpfllloiabDoor
open Go Go.RowKit
set_option linter.unusedSimpArgs false
set_option linter.unusedVariables false

theorem rnd2 {e f N k s : Int} {neg : Bool} (h : RndD e f N k 2 neg s) : BelowQ f (grV e f) (N * pw (k + 149)) (pw 149) s := by
  obtain ⟨q, hq, e⟩ := h
  rw [rnd_two] at e
  rw [e]
  exact hq

/-- A number of units with a sign. -/
def vsV (n m : Int) : Int := if n < 0 then -m else m

theorem sg_parts {e f n s : Int} (hg : goodB e f = true) (s0 : 0 ≤ s) (s1 : s ≤ grV e f) : patB e f (sgP e f n s) = true ∧ sgP e f n s % pw (e + f) = s ∧ sgP e f n s / pw (e + f) = (if n < 0 then 1 else 0) := by
  obtain ⟨g0, g1, g2⟩ := gr_bd2 hg
  have hP : pw (e + f) ≠ 0 := by omega
  unfold sgP
  by_cases hn : n < 0
  · rw [if_pos hn, if_pos hn]
    refine ⟨pat_iff.2 ⟨hg, by omega, by omega⟩, ?_, ?_⟩
    · rw [Int.add_emod_left]; exact Int.emod_eq_of_lt s0 (by omega)
    · rw [Int.add_ediv_of_dvd_left (Int.dvd_refl _), Int.ediv_self hP, Int.ediv_eq_zero_of_lt s0 (by omega)]; rfl
  · rw [if_neg hn, if_neg hn]
    exact ⟨pat_iff.2 ⟨hg, by omega, by omega⟩, Int.emod_eq_of_lt s0 (by omega), Int.ediv_eq_zero_of_lt s0 (by omega)⟩

theorem fin_sg {e f n s : Int} (hg : goodB e f = true) (s0 : 0 ≤ s) (s1 : s ≤ grV e f) : finB e f (sgP e f n s) = true := by
  obtain ⟨hp, hm, _⟩ := sg_parts (n := n) hg s0 s1
  unfold finB
  rw [hp, hm, Bool.true_and, decide_eq_true_eq]
  exact (p_parts hg s0 s1).2.2.1

theorem mag_sg {e f p : Int} (hp : patB e f p = true) : magV e f p = magV e f (p % pw (e + f)) := by
  obtain ⟨hg, p0, p1⟩ := pat_iff.1 hp
  obtain ⟨h1, h2, h3, h4⟩ := good_iff.1 hg
  have hd : pw (e + f) = pw e * pw f := pw_add e f (by omega) (by omega)
  have hm : p % pw (e + f) % pw f = p % pw f := by
    rw [hd]
    exact Int.emod_emod_of_dvd p ⟨pw e, Int.mul_comm _ _⟩
  unfold magV
  rw [Int.emod_emod, hm]

theorem units_sg {e f n s : Int} (hg : goodB e f = true) (s0 : 0 ≤ s) (s1 : s ≤ grV e f) : unitsV e f (sgP e f n s) = vsV n (mgV f s) := by
  obtain ⟨hp, hm, hs⟩ := sg_parts (n := n) hg s0 s1
  obtain ⟨g0, g1, g2⟩ := gr_bd2 hg
  have hp2 : patB e f s = true := pat_iff.2 ⟨hg, s0, by omega⟩
  have hu := units_mg e f s hp2 (by omega)
  have hq : s / pw (e + f) = 0 := Int.ediv_eq_zero_of_lt s0 (by omega)
  have e1 : magV e f s = mgV f s := by
    rw [← hu]
    unfold unitsV
    rw [hq]
    simp
  unfold unitsV vsV
  rw [mag_sg hp, hm, hs, e1]
  by_cases hn : n < 0
  · rw [if_pos hn, if_pos hn]; rfl
  · rw [if_neg hn, if_neg hn]; rfl

theorem ival_sg (e f n s : Int) (hg : goodB e f = true) (s0 : 0 ≤ s) (s1 : s ≤ grV e f) (w : World) (hT : TW w) : Calls Tryd.prog 43 #[fmt e f, .int .i64 (sgP e f n s)] w fun rv w' => rv = .returned (.tuple #[two (odV (vsV n (mgV f s))) (shE (vsV n (mgV f s)) (unV e f)), .bool true]) ∧ Ext w w' := by
  have := iValueOf_yes e f (sgP e f n s) (fin_sg hg s0 s1) w hT
  rwa [units_sg hg s0 s1] at this

theorem val_b {e f n d s : Int} (hg : goodB e f = true) (hd : dyB n d = true) (hq : BelowQ f (grV e f) ((n.natAbs : Int) * pw ((d - unV e f) + 149)) (pw 149) s) :
    (odV (vsV n (mgV f s)) == n && shE (vsV n (mgV f s)) (unV e f) == d) = exB e f (n.natAbs : Int) (d - unV e f) := by
  obtain ⟨_, ⟨i3, i4⟩, _⟩ := rd_dy hg hd
  obtain ⟨m0, m1⟩ := mg_bd hg hq.1 hq.2.1
  have hv := val_ex (s := s) (e := e) (f := f) hd m0 m1 i3
  rw [Bool.eq_iff_iff, ex_iff, ex_low (good_iff.1 hg).2.2.1 hq, ← hv, Bool.and_eq_true, beq_iff_eq, beq_iff_eq]
  rfl

theorem iIsExact_yes (e f n d : Int) (hg : asB e f n d = true) (w : World) (hT : TW w) : Calls Tryd.prog 44 #[fmt e f, two n d] w fun rv w' => rv = .returned (.tuple #[.bool (exB e f (n.natAbs : Int) (d - unV e f)), .bool true]) ∧ Ext w w' := by
  obtain ⟨g0, g1⟩ := as_iff.1 hg
  have q := fun a b => eqDy a b n d
  go_enter Tryd.func44, Tryd.ntmps44
  go_wp2_with (first | (go_at_call 62; refine (iRoundDyadic_yes e f n d 2 (rq_iff.2 ⟨⟨g0, g1⟩, by decide, by decide⟩) _).mono ?_; rintro rv w1 ⟨s, rfl, hq, hb⟩; have HQ := Lib.hid (rnd2 hq); clear hq; have s0 := HQ.out.1; have s1 := HQ.out.2.1; have ns : w.heap.size + 1 < w1.heap.size := hb.lt (by first | with_reducible assumption | omega | (simp; done) | (simp; omega)); have n0 : w1.cell? ⟨w.heap.size, 0, none⟩ = some (.int .i64 e) := (hb.cells _ _ (by first | with_reducible assumption | omega | (simp; done) | (simp; omega))).trans (by first | with_reducible assumption | (simp; done) | (simp; with_reducible assumption) | (rw [cell_alloc_before _ _ _ _ (by omega)]; with_reducible assumption) | (simp [go_sem, *]; done)); have n1 : w1.cell? ⟨w.heap.size, 1, none⟩ = some (.int .i64 f) := (hb.cells _ _ (by first | with_reducible assumption | omega | (simp; done) | (simp; omega))).trans (by first | with_reducible assumption | (simp; done) | (simp; with_reducible assumption) | (rw [cell_alloc_before _ _ _ _ (by omega)]; with_reducible assumption) | (simp [go_sem, *]; done)); have n2 : w1.cell? ⟨w.heap.size + 1, 0, none⟩ = some (.int .i64 n) := (hb.cells _ _ (by first | with_reducible assumption | omega | (simp; done) | (simp; omega))).trans (by first | with_reducible assumption | (simp; done) | (simp; with_reducible assumption) | (rw [cell_alloc_before _ _ _ _ (by omega)]; with_reducible assumption) | (simp [go_sem, *]; done)); have n3 : w1.cell? ⟨w.heap.size + 1, 1, none⟩ = some (.int .i64 d) := (hb.cells _ _ (by first | with_reducible assumption | omega | (simp; done) | (simp; omega))).trans (by first | with_reducible assumption | (simp; done) | (simp; with_reducible assumption) | (rw [cell_alloc_before _ _ _ _ (by omega)]; with_reducible assumption) | (simp [go_sem, *]; done)); (first | (have nx := Ext.trans hx hb; clear hx) | (have nx := Ext.trans (hx.alloc _) hb; clear hx) | (have nx := Ext.trans hx.drew hb; clear hx) | have nx := hb); clear hb; try clear hs; try clear g0; try clear g1; try clear g2; try clear g3; have hx := nx; clear nx; have hs := ns; clear ns; have g0 := n0; clear n0; have g1 := n1; clear n1; have g2 := n2; clear n2; have g3 := n3; clear n3) | (go_at_call 43; refine (ival_sg e f n s g0 s0 s1 _ (hT.ext (by repeat (first | exact Ext.refl _ | with_reducible assumption | apply Ext.alloc | apply Ext.drew | apply Ext.drewN | (refine Ext.setRow ?_ (by first | (simp; done) | (simp; omega) | omega) _) | (refine Ext.setCell ?_ (by first | (simp; done) | (simp; omega) | omega) _) | (refine Ext.trans ?_ (by with_reducible assumption)))))).mono ?_; rintro rv w1 ⟨rfl, hb⟩; have ns : w.heap.size + 1 < w1.heap.size := hb.lt (by first | with_reducible assumption | omega | (simp; done) | (simp; omega)); have n0 : w1.cell? ⟨w.heap.size, 0, none⟩ = some (.int .i64 e) := (hb.cells _ _ (by first | with_reducible assumption | omega | (simp; done) | (simp; omega))).trans (by first | with_reducible assumption | (simp; done) | (simp; with_reducible assumption) | (rw [cell_alloc_before _ _ _ _ (by omega)]; with_reducible assumption) | (simp [go_sem, *]; done)); have n1 : w1.cell? ⟨w.heap.size, 1, none⟩ = some (.int .i64 f) := (hb.cells _ _ (by first | with_reducible assumption | omega | (simp; done) | (simp; omega))).trans (by first | with_reducible assumption | (simp; done) | (simp; with_reducible assumption) | (rw [cell_alloc_before _ _ _ _ (by omega)]; with_reducible assumption) | (simp [go_sem, *]; done)); have n2 : w1.cell? ⟨w.heap.size + 1, 0, none⟩ = some (.int .i64 n) := (hb.cells _ _ (by first | with_reducible assumption | omega | (simp; done) | (simp; omega))).trans (by first | with_reducible assumption | (simp; done) | (simp; with_reducible assumption) | (rw [cell_alloc_before _ _ _ _ (by omega)]; with_reducible assumption) | (simp [go_sem, *]; done)); have n3 : w1.cell? ⟨w.heap.size + 1, 1, none⟩ = some (.int .i64 d) := (hb.cells _ _ (by first | with_reducible assumption | omega | (simp; done) | (simp; omega))).trans (by first | with_reducible assumption | (simp; done) | (simp; with_reducible assumption) | (rw [cell_alloc_before _ _ _ _ (by omega)]; with_reducible assumption) | (simp [go_sem, *]; done)); (first | (have nx := Ext.trans hx hb; clear hx) | (have nx := Ext.trans (hx.alloc _) hb; clear hx) | (have nx := Ext.trans hx.drew hb; clear hx) | have nx := hb); clear hb; try clear hs; try clear g0; try clear g1; try clear g2; try clear g3; have hx := nx; clear nx; have hs := ns; clear ns; have g0 := n0; clear n0; have g1 := n1; clear n1; have g2 := n2; clear n2; have g3 := n3; clear n3))
  go_ret2
  exact ⟨by rw [val_b g0 g1 HQ.out]; rfl, (by repeat (first | exact Ext.refl _ | with_reducible assumption | apply Ext.alloc | apply Ext.drew | apply Ext.drewN | (refine Ext.setRow ?_ (by first | (simp; done) | (simp; omega) | omega) _) | (refine Ext.setCell ?_ (by first | (simp; done) | (simp; omega) | omega) _) | (refine Ext.trans ?_ (by with_reducible assumption))))⟩

theorem below_ex {e f u : Int} (hg : goodB e f = true) (hu : 0 ≤ u) : ∃ p, IsBelow f (grV e f) u p := by
  obtain ⟨p, hp⟩ := belowq_ex f u 1 (good_iff.1 hg).2.2.1 hu (grV e f).toNat
  rw [Int.toNat_of_nonneg (by have := (gr_bd2 hg).1; omega)] at hp
  obtain ⟨p0, p1, p2, p3⟩ := hp
  rw [Int.mul_one] at p2 p3
  exact ⟨p, p0, p1, p2, p3⟩

theorem exact_no {e f N k u r h : Int} (hg : goodB e f = true) (hs : SizeOf e f N k u r h) (hr : r ≠ 0) : exB e f N k = false := by
  obtain ⟨p, hp⟩ := below_ex hg hs.1
  have := (size_low hg hs hp).2
  rw [← Bool.not_eq_true, ex_iff, ← this]
  exact fun h => hr h.2

theorem exact_if {e f N k u r h p : Int} (hg : goodB e f = true) (hs : SizeOf e f N k u r h) (hp : IsBelow f (grV e f) u p) (hr : r = 0) : exB e f N k = (mgV f p == u) := by
  have := (size_low hg hs hp).2
  rw [Bool.eq_iff_iff, ex_iff, ← this, beq_iff_eq]
  exact ⟨fun h => h.1, fun h => ⟨h, hr⟩⟩

theorem fmUnits_below {e f u p : Int} (hg : goodB e f = true) (hp : IsBelow f (grV e f) u p) (w : World) : Calls Tryd.prog 33 #[fmt e f, .int .i64 p] w fun rv w' => rv = .returned (.int .i64 (mgV f p)) ∧ Ext w w' := by
  obtain ⟨g0, g1, g2⟩ := gr_bd2 hg
  exact fmUnits_size e f p (pat_iff.2 ⟨hg, hp.1, by have := hp.2.1; omega⟩) (by have := hp.2.1; omega) w

set_option maxHeartbeats 1600000 in
theorem rdExact_any (e f n d : Int) (g0 : goodB e f = true) (hd : RdIn n (d - unV e f)) (w : World) : Calls Tryd.prog 19 #[fmt e f, two n d] w fun rv w' => rv = .returned (.bool (exB e f (n.natAbs : Int) (d - unV e f))) ∧ Ext w w' := by
  go_enter Tryd.func19, Tryd.ntmps19
  go_wp2_with fail
  go_at_call 38; refine (rdOf_any e f n d g0 hd _).mono ?_; rintro rv w1 ⟨u, r, h, rfl, hsz, hb⟩; have HS := Lib.hid hsz; clear hsz; have ns : w.heap.size + 1 < w1.heap.size := hb.lt (by first | with_reducible assumption | omega | (simp; done) | (simp; omega)); have n0 : w1.cell? ⟨w.heap.size, 0, none⟩ = some (.int .i64 e) := (hb.cells _ _ (by first | with_reducible assumption | omega | (simp; done) | (simp; omega))).trans (by first | with_reducible assumption | (simp; done) | (simp; with_reducible assumption) | (rw [cell_alloc_before _ _ _ _ (by omega)]; with_reducible assumption) | (simp [go_sem, *]; done)); have n1 : w1.cell? ⟨w.heap.size, 1, none⟩ = some (.int .i64 f) := (hb.cells _ _ (by first | with_reducible assumption | omega | (simp; done) | (simp; omega))).trans (by first | with_reducible assumption | (simp; done) | (simp; with_reducible assumption) | (rw [cell_alloc_before _ _ _ _ (by omega)]; with_reducible assumption) | (simp [go_sem, *]; done)); have n2 : w1.cell? ⟨w.heap.size + 1, 0, none⟩ = some (.int .i64 n) := (hb.cells _ _ (by first | with_reducible assumption | omega | (simp; done) | (simp; omega))).trans (by first | with_reducible assumption | (simp; done) | (simp; with_reducible assumption) | (rw [cell_alloc_before _ _ _ _ (by omega)]; with_reducible assumption) | (simp [go_sem, *]; done)); have n3 : w1.cell? ⟨w.heap.size + 1, 1, none⟩ = some (.int .i64 d) := (hb.cells _ _ (by first | with_reducible assumption | omega | (simp; done) | (simp; omega))).trans (by first | with_reducible assumption | (simp; done) | (simp; with_reducible assumption) | (rw [cell_alloc_before _ _ _ _ (by omega)]; with_reducible assumption) | (simp [go_sem, *]; done)); (first | (have nx := Ext.trans hx hb; clear hx) | (have nx := Ext.trans (hx.alloc _) hb; clear hx) | (have nx := Ext.trans hx.drew hb; clear hx) | have nx := hb); clear hb; try clear hs; try clear g0; try clear g1; try clear g2; try clear g3; have hx := nx; clear nx; have hs := ns; clear ns; have g0 := n0; clear n0; have g1 := n1; clear n1; have g2 := n2; clear n2; have g3 := n3; clear n3
  obtain ⟨u0, u1, r0, r1, hh, _⟩ := id HS.out
  by_cases hr : r = 0
  · have r2 : (r == 0) = true := by simpa using hr
    have EX := Lib.hid (fun p hp => exact_if (p := p) g0 HS.out hp hr)
    clear hr
    go_wp2_with fail
    go_region_held3 (fun w' => w'.cell? ⟨w.heap.size, 0, none⟩ = some (.int .i64 e) ∧ w'.cell? ⟨w.heap.size, 1, none⟩ = some (.int .i64 f) ∧ w'.cell? ⟨w.heap.size + 1, 0, none⟩ = some (.int .i64 n) ∧ w'.cell? ⟨w.heap.size + 1, 1, none⟩ = some (.int .i64 d) ∧ w'.cell? ⟨w1.heap.size, 0, none⟩ = some (.int .i64 u) ∧ w'.cell? ⟨w1.heap.size, 1, none⟩ = some (.int .i64 r) ∧ w'.cell? ⟨w1.heap.size, 2, none⟩ = some (.int .i64 h) ∧ w1.heap.size < w'.heap.size) ((refine ⟨?_, ?_, ?_, ?_, ?_, ?_, ?_, ?_⟩ <;> first | with_reducible assumption | ((repeat first | rw [cell_set_far _ _ _ _ _ _ (by omega)] | rw [cell_alloc_before _ _ _ _ (by omega)] | rw [cell_alloc_drew _ _ _ _ (by omega)] | rw [cell_drew]); with_reducible assumption) | ((rw [cell_setRow_far _ _ _ _ _ (by omega)]); with_reducible assumption) | ((rw [setRow_size]); with_reducible assumption) | (simp; done) | (simp [World.setCell]; first | done | omega) | (simp [go_sem, World.cell?_alloc_past, World.cell?_setCell_far, *]; done))) ((first | (go_at_call 39; refine (fmBelow_any e f u g0 u0 _).mono ?_; rintro rv w2 ⟨p, rfl, hq, hb⟩; have HP : RowKit.Hid (IsBelow f (grV e f) u p) := hq; clear hq; have HU := Lib.hid (fmUnits_below g0 HP.out); have ns : w1.heap.size < w2.heap.size := hb.lt (by first | with_reducible assumption | omega | (simp; done) | (simp; omega)); have n0 : w2.cell? ⟨w.heap.size, 0, none⟩ = some (.int .i64 e) := (hb.cells _ _ (by first | with_reducible assumption | omega | (simp; done) | (simp; omega))).trans (by first | with_reducible assumption | (simp; done) | (simp; with_reducible assumption) | (rw [cell_alloc_before _ _ _ _ (by omega)]; with_reducible assumption) | (simp [go_sem, *]; done)); have n1 : w2.cell? ⟨w.heap.size, 1, none⟩ = some (.int .i64 f) := (hb.cells _ _ (by first | with_reducible assumption | omega | (simp; done) | (simp; omega))).trans (by first | with_reducible assumption | (simp; done) | (simp; with_reducible assumption) | (rw [cell_alloc_before _ _ _ _ (by omega)]; with_reducible assumption) | (simp [go_sem, *]; done)); have n2 : w2.cell? ⟨w.heap.size + 1, 0, none⟩ = some (.int .i64 n) := (hb.cells _ _ (by first | with_reducible assumption | omega | (simp; done) | (simp; omega))).trans (by first | with_reducible assumption | (simp; done) | (simp; with_reducible assumption) | (rw [cell_alloc_before _ _ _ _ (by omega)]; with_reducible assumption) | (simp [go_sem, *]; done)); have n3 : w2.cell? ⟨w.heap.size + 1, 1, none⟩ = some (.int .i64 d) := (hb.cells _ _ (by first | with_reducible assumption | omega | (simp; done) | (simp; omega))).trans (by first | with_reducible assumption | (simp; done) | (simp; with_reducible assumption) | (rw [cell_alloc_before _ _ _ _ (by omega)]; with_reducible assumption) | (simp [go_sem, *]; done)); have n4 : w2.cell? ⟨w1.heap.size, 0, none⟩ = some (.int .i64 u) := (hb.cells _ _ (by first | with_reducible assumption | omega | (simp; done) | (simp; omega))).trans (by first | with_reducible assumption | (simp; done) | (simp; with_reducible assumption) | (rw [cell_alloc_before _ _ _ _ (by omega)]; with_reducible assumption) | (simp [go_sem, *]; done)); have n5 : w2.cell? ⟨w1.heap.size, 1, none⟩ = some (.int .i64 r) := (hb.cells _ _ (by first | with_reducible assumption | omega | (simp; done) | (simp; omega))).trans (by first | with_reducible assumption | (simp; done) | (simp; with_reducible assumption) | (rw [cell_alloc_before _ _ _ _ (by omega)]; with_reducible assumption) | (simp [go_sem, *]; done)); have n6 : w2.cell? ⟨w1.heap.size, 2, none⟩ = some (.int .i64 h) := (hb.cells _ _ (by first | with_reducible assumption | omega | (simp; done) | (simp; omega))).trans (by first | with_reducible assumption | (simp; done) | (simp; with_reducible assumption) | (rw [cell_alloc_before _ _ _ _ (by omega)]; with_reducible assumption) | (simp [go_sem, *]; done)); (first | (have nx := Ext.trans hx hb; clear hx) | (have nx := Ext.trans (hx.alloc _) hb; clear hx) | (have nx := Ext.trans hx.drew hb; clear hx) | have nx := hb); clear hb; try clear hs; try clear g0; try clear g1; try clear g2; try clear g3; try clear g4; try clear g5; try clear g6; have hx := nx; clear nx; have hs := ns; clear ns; have g0 := n0; clear n0; have g1 := n1; clear n1; have g2 := n2; clear n2; have g3 := n3; clear n3; have g4 := n4; clear n4; have g5 := n5; clear n5; have g6 := n6; clear n6) | (go_at_call 33; refine (HU.out _).mono ?_; rintro rv w3 ⟨rfl, hb⟩; have ns : w1.heap.size < w3.heap.size := hb.lt (by first | with_reducible assumption | omega | (simp; done) | (simp; omega)); have n0 : w3.cell? ⟨w.heap.size, 0, none⟩ = some (.int .i64 e) := (hb.cells _ _ (by first | with_reducible assumption | omega | (simp; done) | (simp; omega))).trans (by first | with_reducible assumption | (simp; done) | (simp; with_reducible assumption) | (rw [cell_alloc_before _ _ _ _ (by omega)]; with_reducible assumption) | (simp [go_sem, *]; done)); have n1 : w3.cell? ⟨w.heap.size, 1, none⟩ = some (.int .i64 f) := (hb.cells _ _ (by first | with_reducible assumption | omega | (simp; done) | (simp; omega))).trans (by first | with_reducible assumption | (simp; done) | (simp; with_reducible assumption) | (rw [cell_alloc_before _ _ _ _ (by omega)]; with_reducible assumption) | (simp [go_sem, *]; done)); have n2 : w3.cell? ⟨w.heap.size + 1, 0, none⟩ = some (.int .i64 n) := (hb.cells _ _ (by first | with_reducible assumption | omega | (simp; done) | (simp; omega))).trans (by first | with_reducible assumption | (simp; done) | (simp; with_reducible assumption) | (rw [cell_alloc_before _ _ _ _ (by omega)]; with_reducible assumption) | (simp [go_sem, *]; done)); have n3 : w3.cell? ⟨w.heap.size + 1, 1, none⟩ = some (.int .i64 d) := (hb.cells _ _ (by first | with_reducible assumption | omega | (simp; done) | (simp; omega))).trans (by first | with_reducible assumption | (simp; done) | (simp; with_reducible assumption) | (rw [cell_alloc_before _ _ _ _ (by omega)]; with_reducible assumption) | (simp [go_sem, *]; done)); have n4 : w3.cell? ⟨w1.heap.size, 0, none⟩ = some (.int .i64 u) := (hb.cells _ _ (by first | with_reducible assumption | omega | (simp; done) | (simp; omega))).trans (by first | with_reducible assumption | (simp; done) | (simp; with_reducible assumption) | (rw [cell_alloc_before _ _ _ _ (by omega)]; with_reducible assumption) | (simp [go_sem, *]; done)); have n5 : w3.cell? ⟨w1.heap.size, 1, none⟩ = some (.int .i64 r) := (hb.cells _ _ (by first | with_reducible assumption | omega | (simp; done) | (simp; omega))).trans (by first | with_reducible assumption | (simp; done) | (simp; with_reducible assumption) | (rw [cell_alloc_before _ _ _ _ (by omega)]; with_reducible assumption) | (simp [go_sem, *]; done)); have n6 : w3.cell? ⟨w1.heap.size, 2, none⟩ = some (.int .i64 h) := (hb.cells _ _ (by first | with_reducible assumption | omega | (simp; done) | (simp; omega))).trans (by first | with_reducible assumption | (simp; done) | (simp; with_reducible assumption) | (rw [cell_alloc_before _ _ _ _ (by omega)]; with_reducible assumption) | (simp [go_sem, *]; done)); (first | (have nx := Ext.trans hx hb; clear hx) | (have nx := Ext.trans (hx.alloc _) hb; clear hx) | (have nx := Ext.trans hx.drew hb; clear hx) | have nx := hb); clear hb; try clear hs; try clear g0; try clear g1; try clear g2; try clear g3; try clear g4; try clear g5; try clear g6; have hx := nx; clear nx; have hs := ns; clear ns; have g0 := n0; clear n0; have g1 := n1; clear n1; have g2 := n2; clear n2; have g3 := n3; clear n3; have g4 := n4; clear n4; have g5 := n5; clear n5; have g6 := n6; clear n6)))
    all_goals go_wp2_with fail
    all_goals go_ret
    all_goals exact ⟨ret_bool (EX.out _ HP.out).symm, (by repeat (first | exact Ext.refl _ | with_reducible assumption | apply Ext.alloc | apply Ext.drew | apply Ext.drewN | (refine Ext.setRow ?_ (by first | (simp; done) | (simp; omega) | omega) _) | (refine Ext.setCell ?_ (by first | (simp; done) | (simp; omega) | omega) _) | (refine Ext.trans ?_ (by with_reducible assumption))))⟩
  · have r2 : (r == 0) = false := by simpa using hr
    have EX := Lib.hid (exact_no g0 HS.out hr)
    go_wp2_with fail
    go_quiet (fail)
    all_goals go_wp2_with fail
    all_goals go_ret
    all_goals exact ⟨ret_bool EX.out.symm, (by repeat (first | exact Ext.refl _ | with_reducible assumption | apply Ext.alloc | apply Ext.drew | apply Ext.drewN | (refine Ext.setRow ?_ (by first | (simp; done) | (simp; omega) | omega) _) | (refine Ext.setCell ?_ (by first | (simp; done) | (simp; omega) | omega) _) | (refine Ext.trans ?_ (by with_reducible assumption))))⟩
end Go.Proofs.YtafkcgpfllloiabDoor

