/-
  Contracts of the functions that the laws reach, and the plain facts that they rest on, each under the conditions that its line names; part 26.
-/
import Derived.Test.YtkppdcelhblgaaaDoorKM1
import Derived.Test.YtkppdcelhblgaaaDoorKM2
import Derived.Test.YtkppdcelhblgaaaDoorKM3
import Derived.Test.YtkppdcelhblgaaaDoorKM4
import Derived.Test.YtkppdcelhblgaaaDoorKM5
import Derived.Test.YtkppdcelhblgaaaDoorKM6
import Derived.Test.YtkppdcelhblgaaaDoorKM7
import Derived.Test.YtkppdcelhblgaaaDoorKM8
import Derived.Test.YtkppdcelhblgaaaDoorKM9
import Derived.Test.YtkppdcelhblgaaaDoorKM10
import Derived.Test.YtkppdcelhblgaaaDoorKM11
import Derived.Test.YtkppdcelhblgaaaDoorKM12
import Derived.Test.YtkppdcelhblgaaaDoorKM13
import Derived.Test.YtkppdcelhblgaaaDoorKM14
import Derived.Test.YtkppdcelhblgaaaDoorKM15
import Derived.Test.YtkppdcelhblgaaaDoorKM16
import Derived.Test.YtkppdcelhblgaaaDoorKM17
import Derived.Test.YtkppdcelhblgaaaDoorKM18
import Derived.Test.YtkppdcelhblgaaaDoorKM19
import Derived.Test.YtkppdcelhblgaaaDoorKM20
import Derived.Test.YtkppdcelhblgaaaDoorKM21
import Derived.Test.YtkppdcelhblgaaaDoorKM22
import Derived.Test.YtkppdcelhblgaaaDoorKM23
import Derived.Test.YtkppdcelhblgaaaDoorKM24
import Derived.Test.YtkppdcelhblgaaaDoorKM25
import Derived.Test.YtkppdcelhblgaaaDoorRows
import Derived.WalkKit
import Derived.LoopTactic
import Derived.Laws.Bits64b
import Derived.WalkSpells
import Derived.WalkLawsBesides
import Derived.StillTactics
import Derived.Laws.Pointers
import Derived.Deep.RegionHeld3
import Derived.Deep.QuietTactic
import Derived.BigQuiet
import Derived.Outline
import Derived.Lib.Hide
import Derived.RowKit3
import Derived.Carry
import Derived.IntWalk
namespace Go.Proofs.YtkppdcelhblgaaaDoor
open Go Go.RowKit
set_option linter.unusedSimpArgs false
set_option linter.unusedVariables false

/-- A number of units with a sign. -/
def vsV (n m : Int) : Int := if n < 0 then -m else m

theorem sg_parts {e f n s : Int} (hg : goodB e f = true) (s0 : 0 ≤ s) (s1 : s ≤ grV e f) : patB e f (sgP e f n s) = true ∧ sgP e f n s % pw (e + f) = s ∧ sgP e f n s / pw (e + f) = (if n < 0 then 1 else 0) := by
  obtain ⟨g0, g1, g2⟩ := gr_bd2 hg
  have hP : pw (e + f) ≠ 0 := by omega
  unfold sgP
  by_cases hn : n < 0
  · rw [if_pos hn, if_pos hn]
    refine ⟨pat_iff.2 ⟨hg, by omega, by omega⟩, ?_, ?_⟩
    · rw [Int.add_emod_left]; exact Int.emod_eq_of_lt s0 (by omega)
    · rw [Int.add_ediv_of_dvd_left (Int.dvd_refl _), Int.ediv_self hP, Int.ediv_eq_zero_of_lt s0 (by omega)]; rfl
  · rw [if_neg hn, if_neg hn]
    exact ⟨pat_iff.2 ⟨hg, by omega, by omega⟩, Int.emod_eq_of_lt s0 (by omega), Int.ediv_eq_zero_of_lt s0 (by omega)⟩

theorem fin_sg {e f n s : Int} (hg : goodB e f = true) (s0 : 0 ≤ s) (s1 : s ≤ grV e f) : finB e f (sgP e f n s) = true := by
  obtain ⟨hp, hm, _⟩ := sg_parts (n := n) hg s0 s1
  unfold finB
  rw [hp, hm, Bool.true_and, decide_eq_true_eq]
  exact (p_parts hg s0 s1).2.2.1

theorem mag_sg {e f p : Int} (hp : patB e f p = true) : magV e f p = magV e f (p % pw (e + f)) := by
  obtain ⟨hg, p0, p1⟩ := pat_iff.1 hp
  obtain ⟨h1, h2, h3, h4⟩ := good_iff.1 hg
  have hd : pw (e + f) = pw e * pw f := pw_add e f (by omega) (by omega)
  have hm : p % pw (e + f) % pw f = p % pw f := by
    rw [hd]
    exact Int.emod_emod_of_dvd p ⟨pw e, Int.mul_comm _ _⟩
  unfold magV
  rw [Int.emod_emod, hm]

theorem units_sg {e f n s : Int} (hg : goodB e f = true) (s0 : 0 ≤ s) (s1 : s ≤ grV e f) : unitsV e f (sgP e f n s) = vsV n (mgV f s) := by
  obtain ⟨hp, hm, hs⟩ := sg_parts (n := n) hg s0 s1
  obtain ⟨g0, g1, g2⟩ := gr_bd2 hg
  have hp2 : patB e f s = true := pat_iff.2 ⟨hg, s0, by omega⟩
  have hu := units_mg e f s hp2 (by omega)
  have hq : s / pw (e + f) = 0 := Int.ediv_eq_zero_of_lt s0 (by omega)
  have e1 : magV e f s = mgV f s := by
    rw [← hu]
    unfold unitsV
    rw [hq]
    simp
  unfold unitsV vsV
  rw [mag_sg hp, hm, hs, e1]
  by_cases hn : n < 0
  · rw [if_pos hn, if_pos hn]; rfl
  · rw [if_neg hn, if_neg hn]; rfl

theorem below_ex {e f u : Int} (hg : goodB e f = true) (hu : 0 ≤ u) : ∃ p, IsBelow f (grV e f) u p := by
  obtain ⟨p, hp⟩ := belowq_ex f u 1 (good_iff.1 hg).2.2.1 hu (grV e f).toNat
  rw [Int.toNat_of_nonneg (by have := (gr_bd2 hg).1; omega)] at hp
  obtain ⟨p0, p1, p2, p3⟩ := hp
  rw [Int.mul_one] at p2 p3
  exact ⟨p, p0, p1, p2, p3⟩

theorem exact_no {e f N k u r h : Int} (hg : goodB e f = true) (hs : SizeOf e f N k u r h) (hr : r ≠ 0) : exB e f N k = false := by
  obtain ⟨p, hp⟩ := below_ex hg hs.1
  have := (size_low hg hs hp).2
  rw [← Bool.not_eq_true, ex_iff, ← this]
  exact fun h => hr h.2

theorem exact_if {e f N k u r h p : Int} (hg : goodB e f = true) (hs : SizeOf e f N k u r h) (hp : IsBelow f (grV e f) u p) (hr : r = 0) : exB e f N k = (mgV f p == u) := by
  have := (size_low hg hs hp).2
  rw [Bool.eq_iff_iff, ex_iff, ← this, beq_iff_eq]
  exact ⟨fun h => h.1, fun h => ⟨h, hr⟩⟩

theorem fmUnits_below {e f u p : Int} (hg : goodB e f = true) (hp : IsBelow f (grV e f) u p) (w : World) : Calls Tryd.prog 21 #[fmt e f, .int .i64 p] w fun rv w' => rv = .returned (.int .i64 (mgV f p)) ∧ Ext w w' := by
  obtain ⟨g0, g1, g2⟩ := gr_bd2 hg
  exact fmUnits_size e f p (pat_iff.2 ⟨hg, hp.1, by have := hp.2.1; omega⟩) (by have := hp.2.1; omega) w

set_option maxHeartbeats 1600000 in
theorem rdExact_any (e f n d : Int) (g0 : goodB e f = true) (hd : RdIn n (d - unV e f)) (w : World) : Calls Tryd.prog 19 #[fmt e f, two n d] w fun rv w' => rv = .returned (.bool (exB e f (n.natAbs : Int) (d - unV e f))) ∧ Ext w w' := by
  go_enter Tryd.func19, Tryd.ntmps19
  go_wp2_with fail
  go_at_call 20; refine (rdOf_any e f n d g0 hd _).mono ?_; rintro rv w1 ⟨u, r, h, rfl, hsz, hb⟩; have HS := Lib.hid hsz; clear hsz; have ns : w.heap.size + 1 < w1.heap.size := hb.lt (by first | with_reducible assumption | omega | (simp; done) | (simp; omega)); have n0 : w1.cell? ⟨w.heap.size, 0, none⟩ = some (.int .i64 e) := (hb.cells _ _ (by first | with_reducible assumption | omega | (simp; done) | (simp; omega))).trans (by first | with_reducible assumption | (simp; done) | (simp; with_reducible assumption) | (rw [cell_alloc_before _ _ _ _ (by omega)]; with_reducible assumption) | (simp [go_sem, *]; done)); have n1 : w1.cell? ⟨w.heap.size, 1, none⟩ = some (.int .i64 f) := (hb.cells _ _ (by first | with_reducible assumption | omega | (simp; done) | (simp; omega))).trans (by first | with_reducible assumption | (simp; done) | (simp; with_reducible assumption) | (rw [cell_alloc_before _ _ _ _ (by omega)]; with_reducible assumption) | (simp [go_sem, *]; done)); have n2 : w1.cell? ⟨w.heap.size + 1, 0, none⟩ = some (.int .i64 n) := (hb.cells _ _ (by first | with_reducible assumption | omega | (simp; done) | (simp; omega))).trans (by first | with_reducible assumption | (simp; done) | (simp; with_reducible assumption) | (rw [cell_alloc_before _ _ _ _ (by omega)]; with_reducible assumption) | (simp [go_sem, *]; done)); have n3 : w1.cell? ⟨w.heap.size + 1, 1, none⟩ = some (.int .i64 d) := (hb.cells _ _ (by first | with_reducible assumption | omega | (simp; done) | (simp; omega))).trans (by first | with_reducible assumption | (simp; done) | (simp; with_reducible assumption) | (rw [cell_alloc_before _ _ _ _ (by omega)]; with_reducible assumption) | (simp [go_sem, *]; done)); (first | (have nx := Ext.trans hx hb; clear hx) | (have nx := Ext.trans (hx.alloc _) hb; clear hx) | (have nx := Ext.trans hx.drew hb; clear hx) | have nx := hb); clear hb; try clear hs; try clear g0; try clear g1; try clear g2; try clear g3; have hx := nx; clear nx; have hs := ns; clear ns; have g0 := n0; clear n0; have g1 := n1; clear n1; have g2 := n2; clear n2; have g3 := n3; clear n3
  obtain ⟨u0, u1, r0, r1, hh, _⟩ := id HS.out
  by_cases hr : r = 0
  · have r2 : (r == 0) = true := by simpa using hr
    have EX := Lib.hid (fun p hp => exact_if (p := p) g0 HS.out hp hr)
    clear hr
    go_wp2_with fail
    go_region_held3 (fun w' => w'.cell? ⟨w.heap.size, 0, none⟩ = some (.int .i64 e) ∧ w'.cell? ⟨w.heap.size, 1, none⟩ = some (.int .i64 f) ∧ w'.cell? ⟨w.heap.size + 1, 0, none⟩ = some (.int .i64 n) ∧ w'.cell? ⟨w.heap.size + 1, 1, none⟩ = some (.int .i64 d) ∧ w'.cell? ⟨w1.heap.size, 0, none⟩ = some (.int .i64 u) ∧ w'.cell? ⟨w1.heap.size, 1, none⟩ = some (.int .i64 r) ∧ w'.cell? ⟨w1.heap.size, 2, none⟩ = some (.int .i64 h) ∧ w1.heap.size < w'.heap.size) ((refine ⟨?_, ?_, ?_, ?_, ?_, ?_, ?_, ?_⟩ <;> first | with_reducible assumption | ((repeat first | rw [cell_set_far _ _ _ _ _ _ (by omega)] | rw [cell_alloc_before _ _ _ _ (by omega)] | rw [cell_alloc_drew _ _ _ _ (by omega)] | rw [cell_drew]); with_reducible assumption) | ((rw [cell_setRow_far _ _ _ _ _ (by omega)]); with_reducible assumption) | ((rw [setRow_size]); with_reducible assumption) | (simp; done) | (simp [World.setCell]; first | done | omega) | (simp [go_sem, World.cell?_alloc_past, World.cell?_setCell_far, *]; done))) ((first | (go_at_call 28; refine (fmBelow_any e f u g0 u0 _).mono ?_; rintro rv w2 ⟨p, rfl, hq, hb⟩; have HP : RowKit.Hid (IsBelow f (grV e f) u p) := hq; clear hq; have HU := Lib.hid (fmUnits_below g0 HP.out); have ns : w1.heap.size < w2.heap.size := hb.lt (by first | with_reducible assumption | omega | (simp; done) | (simp; omega)); have n0 : w2.cell? ⟨w.heap.size, 0, none⟩ = some (.int .i64 e) := (hb.cells _ _ (by first | with_reducible assumption | omega | (simp; done) | (simp; omega))).trans (by first | with_reducible assumption | (simp; done) | (simp; with_reducible assumption) | (rw [cell_alloc_before _ _ _ _ (by omega)]; with_reducible assumption) | (simp [go_sem, *]; done)); have n1 : w2.cell? ⟨w.heap.size, 1, none⟩ = some (.int .i64 f) := (hb.cells _ _ (by first | with_reducible assumption | omega | (simp; done) | (simp; omega))).trans (by first | with_reducible assumption | (simp; done) | (simp; with_reducible assumption) | (rw [cell_alloc_before _ _ _ _ (by omega)]; with_reducible assumption) | (simp [go_sem, *]; done)); have n2 : w2.cell? ⟨w.heap.size + 1, 0, none⟩ = some (.int .i64 n) := (hb.cells _ _ (by first | with_reducible assumption | omega | (simp; done) | (simp; omega))).trans (by first | with_reducible assumption | (simp; done) | (simp; with_reducible assumption) | (rw [cell_alloc_before _ _ _ _ (by omega)]; with_reducible assumption) | (simp [go_sem, *]; done)); have n3 : w2.cell? ⟨w.heap.size + 1, 1, none⟩ = some (.int .i64 d) := (hb.cells _ _ (by first | with_reducible assumption | omega | (simp; done) | (simp; omega))).trans (by first | with_reducible assumption | (simp; done) | (simp; with_reducible assumption) | (rw [cell_alloc_before _ _ _ _ (by omega)]; with_reducible assumption) | (simp [go_sem, *]; done)); have n4 : w2.cell? ⟨w1.heap.size, 0, none⟩ = some (.int .i64 u) := (hb.cells _ _ (by first | with_reducible assumption | omega | (simp; done) | (simp; omega))).trans (by first | with_reducible assumption | (simp; done) | (simp; with_reducible assumption) | (rw [cell_alloc_before _ _ _ _ (by omega)]; with_reducible assumption) | (simp [go_sem, *]; done)); have n5 : w2.cell? ⟨w1.heap.size, 1, none⟩ = some (.int .i64 r) := (hb.cells _ _ (by first | with_reducible assumption | omega | (simp; done) | (simp; omega))).trans (by first | with_reducible assumption | (simp; done) | (simp; with_reducible assumption) | (rw [cell_alloc_before _ _ _ _ (by omega)]; with_reducible assumption) | (simp [go_sem, *]; done)); have n6 : w2.cell? ⟨w1.heap.size, 2, none⟩ = some (.int .i64 h) := (hb.cells _ _ (by first | with_reducible assumption | omega | (simp; done) | (simp; omega))).trans (by first | with_reducible assumption | (simp; done) | (simp; with_reducible assumption) | (rw [cell_alloc_before _ _ _ _ (by omega)]; with_reducible assumption) | (simp [go_sem, *]; done)); (first | (have nx := Ext.trans hx hb; clear hx) | (have nx := Ext.trans (hx.alloc _) hb; clear hx) | (have nx := Ext.trans hx.drew hb; clear hx) | have nx := hb); clear hb; try clear hs; try clear g0; try clear g1; try clear g2; try clear g3; try clear g4; try clear g5; try clear g6; have hx := nx; clear nx; have hs := ns; clear ns; have g0 := n0; clear n0; have g1 := n1; clear n1; have g2 := n2; clear n2; have g3 := n3; clear n3; have g4 := n4; clear n4; have g5 := n5; clear n5; have g6 := n6; clear n6) | (go_at_call 21; refine (HU.out _).mono ?_; rintro rv w3 ⟨rfl, hb⟩; have ns : w1.heap.size < w3.heap.size := hb.lt (by first | with_reducible assumption | omega | (simp; done) | (simp; omega)); have n0 : w3.cell? ⟨w.heap.size, 0, none⟩ = some (.int .i64 e) := (hb.cells _ _ (by first | with_reducible assumption | omega | (simp; done) | (simp; omega))).trans (by first | with_reducible assumption | (simp; done) | (simp; with_reducible assumption) | (rw [cell_alloc_before _ _ _ _ (by omega)]; with_reducible assumption) | (simp [go_sem, *]; done)); have n1 : w3.cell? ⟨w.heap.size, 1, none⟩ = some (.int .i64 f) := (hb.cells _ _ (by first | with_reducible assumption | omega | (simp; done) | (simp; omega))).trans (by first | with_reducible assumption | (simp; done) | (simp; with_reducible assumption) | (rw [cell_alloc_before _ _ _ _ (by omega)]; with_reducible assumption) | (simp [go_sem, *]; done)); have n2 : w3.cell? ⟨w.heap.size + 1, 0, none⟩ = some (.int .i64 n) := (hb.cells _ _ (by first | with_reducible assumption | omega | (simp; done) | (simp; omega))).trans (by first | with_reducible assumption | (simp; done) | (simp; with_reducible assumption) | (rw [cell_alloc_before _ _ _ _ (by omega)]; with_reducible assumption) | (simp [go_sem, *]; done)); have n3 : w3.cell? ⟨w.heap.size + 1, 1, none⟩ = some (.int .i64 d) := (hb.cells _ _ (by first | with_reducible assumption | omega | (simp; done) | (simp; omega))).trans (by first | with_reducible assumption | (simp; done) | (simp; with_reducible assumption) | (rw [cell_alloc_before _ _ _ _ (by omega)]; with_reducible assumption) | (simp [go_sem, *]; done)); have n4 : w3.cell? ⟨w1.heap.size, 0, none⟩ = some (.int .i64 u) := (hb.cells _ _ (by first | with_reducible assumption | omega | (simp; done) | (simp; omega))).trans (by first | with_reducible assumption | (simp; done) | (simp; with_reducible assumption) | (rw [cell_alloc_before _ _ _ _ (by omega)]; with_reducible assumption) | (simp [go_sem, *]; done)); have n5 : w3.cell? ⟨w1.heap.size, 1, none⟩ = some (.int .i64 r) := (hb.cells _ _ (by first | with_reducible assumption | omega | (simp; done) | (simp; omega))).trans (by first | with_reducible assumption | (simp; done) | (simp; with_reducible assumption) | (rw [cell_alloc_before _ _ _ _ (by omega)]; with_reducible assumption) | (simp [go_sem, *]; done)); have n6 : w3.cell? ⟨w1.heap.size, 2, none⟩ = some (.int .i64 h) := (hb.cells _ _ (by first | with_reducible assumption | omega | (simp; done) | (simp; omega))).trans (by first | with_reducible assumption | (simp; done) | (simp; with_reducible assumption) | (rw [cell_alloc_before _ _ _ _ (by omega)]; with_reducible assumption) | (simp [go_sem, *]; done)); (first | (have nx := Ext.trans hx hb; clear hx) | (have nx := Ext.trans (hx.alloc _) hb; clear hx) | (have nx := Ext.trans hx.drew hb; clear hx) | have nx := hb); clear hb; try clear hs; try clear g0; try clear g1; try clear g2; try clear g3; try clear g4; try clear g5; try clear g6; have hx := nx; clear nx; have hs := ns; clear ns; have g0 := n0; clear n0; have g1 := n1; clear n1; have g2 := n2; clear n2; have g3 := n3; clear n3; have g4 := n4; clear n4; have g5 := n5; clear n5; have g6 := n6; clear n6)))
    all_goals go_wp2_with fail
    all_goals go_ret
    all_goals exact ⟨ret_bool (EX.out _ HP.out).symm, (by repeat (first | exact Ext.refl _ | with_reducible assumption | apply Ext.alloc | apply Ext.drew | apply Ext.drewN | (refine Ext.setRow ?_ (by first | (simp; done) | (simp; omega) | omega) _) | (refine Ext.setCell ?_ (by first | (simp; done) | (simp; omega) | omega) _) | (refine Ext.trans ?_ (by with_reducible assumption))))⟩
  · have r2 : (r == 0) = false := by simpa using hr
    have EX := Lib.hid (exact_no g0 HS.out hr)
    go_wp2_with fail
    go_quiet (fail)
    all_goals go_wp2_with fail
    all_goals go_ret
    all_goals exact ⟨ret_bool EX.out.symm, (by repeat (first | exact Ext.refl _ | with_reducible assumption | apply Ext.alloc | apply Ext.drew | apply Ext.drewN | (refine Ext.setRow ?_ (by first | (simp; done) | (simp; omega) | omega) _) | (refine Ext.setCell ?_ (by first | (simp; done) | (simp; omega) | omega) _) | (refine Ext.trans ?_ (by with_reducible assumption))))⟩
end Go.Proofs.YtkppdcelhblgaaaDoor

namespace Go.Proofs.YtkppdcelhblgaaaDoor
open Go Go.RowKit
set_option linter.unusedSimpArgs false
set_option linter.unusedVariables false

theorem four_lo (A B p : Int) : rndP A B p 4 false = p := by
  unfold rndP
  split
  · rfl
  · rw [if_neg]
    unfold upR
    simp

theorem four_up (A B p : Int) : rndP A B p 4 true = if A = 0 then p else p + 1 := by
  unfold rndP
  split
  · rfl
  · rw [if_pos]
    unfold upR
    simp

theorem up_sg {e f n s : Int} (hg : goodB e f = true) (s0 : 0 ≤ s) (s1 : s ≤ grV e f) (h : n < 0 → 1 ≤ s) : upV e f (sgP e f n s) = if n < 0 then sgP e f n (s - 1) else s + 1 := by
  obtain ⟨hp, hm, hs⟩ := sg_parts (n := n) hg s0 s1
  unfold upV
  rw [hm, hs]
  by_cases hn : n < 0
  · have := h hn
    rw [if_neg (show ¬ (s == 0) = true by simp; omega), if_pos hn, if_neg (show ¬ ((1 : Int) == 0) = true by decide), if_pos hn]
    unfold sgP
    rw [if_pos hn, if_pos hn]
    omega
  · rw [if_neg hn, if_neg hn]
    unfold sgP
    rw [if_neg hn]
    by_cases hz : s = 0
    · subst hz; rfl
    · rw [if_neg (show ¬ (s == 0) = true by simpa using hz)]
      rfl

theorem mi_no0 {e f k : Int} (hf : 1 ≤ f) : ¬ miD e f 0 k := by
  rintro ⟨q, q0, q1, hq⟩
  rw [Int.zero_mul] at hq
  have hD : 0 < pw 149 := by have := pw_pos 149; omega
  have h1 := mg_next hf q0
  have h2 := mg_mono f 0 q hf (by decide) q0
  rw [mg_small f 0 (by decide) (by have := pw_pos f; omega)] at h2
  have := Int.mul_pos (show 0 < mgV f q + mgV f (q + 1) by omega) hD
  omega

set_option maxHeartbeats 800000 in
theorem mid_imp {e f n d s : Int} (hg : goodB e f = true) (hd : dyB n d = true) (h : RndD e f (n.natAbs : Int) (d - unV e f) 4 (decide (n < 0)) s) :
    (mdB e f (sgP e f n s) = true → (odV (unitsV e f (sgP e f n s) + unitsV e f (upV e f (sgP e f n s))) == n && shE (unitsV e f (sgP e f n s) + unitsV e f (upV e f (sgP e f n s))) (unV e f - 1) == d) = miB e f (n.natAbs : Int) (d - unV e f)) ∧ (mdB e f (sgP e f n s) = false → miB e f (n.natAbs : Int) (d - unV e f) = false) := by
  obtain ⟨_, ⟨i3, i4⟩, _⟩ := rd_dy hg hd
  have hf := (good_iff.1 hg).2.2.1
  have hD : 0 < pw 149 := by have := pw_pos 149; omega
  obtain ⟨p, hp, es⟩ := h
  have p0 := hp.1
  have p1 := hp.2.1
  obtain ⟨gg0, gg1, gg2⟩ := gr_bd2 hg
  have hmi := mi_here (k := (d - unV e f)) (N := (n.natAbs : Int)) hf i3 hp
  have fmi : ¬ miD e f (n.natAbs : Int) (d - unV e f) → miB e f (n.natAbs : Int) (d - unV e f) = false := fun h => by rw [← Bool.not_eq_true, mi_iff]; exact h
  obtain ⟨mp0, mp1⟩ := mg_bd hg p0 p1
  have mn := mg_next hf p0
  by_cases hn : n < 0
  · rw [decide_eq_true hn, four_up] at es
    have nn : (n.natAbs : Int) = -n := by omega
    by_cases hA : (n.natAbs : Int) * pw ((d - unV e f) + 149) - mgV f p * pw 149 = 0
    · rw [if_pos hA] at es
      subst es
      have hx : exD e f (n.natAbs : Int) (d - unV e f) := ⟨s, p0, p1, by omega⟩
      have hX : 0 < (n.natAbs : Int) * pw ((d - unV e f) + 149) := Int.mul_pos (by omega) (by have := pw_pos ((d - unV e f) + 149); omega)
      have s1 : 1 ≤ s := by
        apply Int.le_of_not_gt
        intro hz
        have : s = 0 := by omega
        subst this
        rw [mg_small f 0 (by decide) (by have := pw_pos f; omega), Int.zero_mul] at hA
        omega
      have hno := fmi (fun h => mi_ex hf i3 h hx)
      refine ⟨fun _ => ?_, fun _ => hno⟩
      rw [hno, ← Bool.not_eq_true, Bool.and_eq_true, beq_iff_eq, beq_iff_eq, up_sg hg p0 p1 (fun _ => s1), if_pos hn, units_sg hg p0 p1, units_sg hg (show 0 ≤ s - 1 by omega) (show s - 1 ≤ grV e f by omega)]
      obtain ⟨mq0, mq1⟩ := mg_bd (p := s - 1) hg (by omega) (by omega)
      have mn2 := mg_next (p := s - 1) hf (by omega)
      rw [show s - 1 + 1 = s by omega] at mn2
      unfold vsV
      rw [if_pos hn, if_pos hn, mid_ex hd (by omega) (by omega) (by omega) i3]
      intro h2
      have e1 : pw ((d - unV e f) + 150) = 2 * pw ((d - unV e f) + 149) := by
        have := pw_succ ((d - unV e f) + 149) (by omega)
        rwa [show (d - unV e f) + 149 + 1 = (d - unV e f) + 150 by omega] at this
      have e2 : n * pw ((d - unV e f) + 150) = -(2 * ((n.natAbs : Int) * pw ((d - unV e f) + 149))) := by
        rw [e1, Int.mul_left_comm, nn, Int.neg_mul]; omega
      rw [e2, show (n.natAbs : Int) * pw ((d - unV e f) + 149) = mgV f s * pw 149 by omega] at h2
      have e3 : (-mgV f s + -mgV f (s - 1)) * pw 149 = -(mgV f s * pw 149) + -(mgV f (s - 1) * pw 149) := by rw [Int.add_mul, Int.neg_mul, Int.neg_mul]
      rw [e3] at h2
      have := Int.mul_lt_mul_of_pos_right (show mgV f (s - 1) < mgV f s by omega) hD
      omega
    · rw [if_neg hA] at es
      subst es
      by_cases hgr : p = grV e f
      · have hno := fmi (fun h => by have := (hmi.1 h).1; omega)
        refine ⟨fun h => ?_, fun _ => hno⟩
        exfalso
        have hfin := (md_iff.1 h).1
        have hm := (fin_mag.1 hfin).2
        obtain ⟨_, gb⟩ := gr_bd hg
        have e1 : sgP e f n (p + 1) % pw (e + f) = p + 1 := by
          unfold sgP
          rw [if_pos hn, Int.add_emod_left]
          exact Int.emod_eq_of_lt (by omega) (by rw [hgr]; unfold grV; omega)
        rw [e1, hgr] at hm
        unfold grV at hm
        omega
      · have hlt : p < grV e f := by omega
        have hmd : mdB e f (sgP e f n (p + 1)) = true := by
          unfold mdB
          rw [fin_sg hg (by omega) (by omega), Bool.true_and, Bool.not_eq_true', beq_eq_false_iff_ne]
          unfold sgP
          rw [if_pos hn]
          show _ ≠ grV e f
          omega
        refine ⟨fun _ => ?_, fun h => by rw [hmd] at h; cases h⟩
        obtain ⟨mq0, mq1⟩ := mg_bd (p := p + 1) hg (by omega) (by omega)
        rw [Bool.eq_iff_iff, mi_iff, hmi, Bool.and_eq_true, beq_iff_eq, beq_iff_eq, up_sg hg (by omega) (by omega) (fun _ => by omega), if_pos hn, units_sg hg (show 0 ≤ p + 1 by omega) (by omega), show p + 1 - 1 = p by omega, units_sg hg p0 p1]
        unfold vsV
        rw [if_pos hn, if_pos hn, mid_ex hd (by omega) (by omega) (by omega) i3]
        have e2 : (-mgV f (p + 1) + -mgV f p) * pw 149 = -((mgV f p + mgV f (p + 1)) * pw 149) := by
          rw [← Int.neg_mul]; congr 1; omega
        have e3 : (n.natAbs : Int) * pw ((d - unV e f) + 150) = -(n * pw ((d - unV e f) + 150)) := by rw [nn, Int.neg_mul]
        rw [e2, e3]
        constructor
        · intro h; exact ⟨hlt, by omega⟩
        · intro h; omega
  · rw [decide_eq_false hn, four_lo] at es
    subst es
    have nn : (n.natAbs : Int) = n := by omega
    have hsg : sgP e f n s = s := by unfold sgP; rw [if_neg hn]
    rw [hsg]
    by_cases hgr : s = grV e f
    · have hno := fmi (fun h => by have := (hmi.1 h).1; omega)
      refine ⟨fun h => ?_, fun _ => hno⟩
      exfalso
      have := (md_iff.1 h).2.2
      rw [beq_eq_false_iff_ne] at this
      exact this hgr
    · have hlt : s < grV e f := by omega
      have hfs := fin_sg (n := n) hg p0 p1
      rw [hsg] at hfs
      have hmd : mdB e f s = true := by
        unfold mdB
        rw [hfs, Bool.true_and, Bool.not_eq_true', beq_eq_false_iff_ne]
        exact hgr
      refine ⟨fun _ => ?_, fun h => by rw [hmd] at h; cases h⟩
      obtain ⟨mq0, mq1⟩ := mg_bd (p := s + 1) hg (by omega) (by omega)
      have hu := up_sg (n := n) hg p0 p1 (fun h => absurd h hn)
      rw [if_neg hn, hsg] at hu
      have u1 := units_sg (n := n) hg p0 p1
      have u2 := units_sg (n := n) hg (show 0 ≤ s + 1 by omega) (show s + 1 ≤ grV e f by omega)
      have hsg2 : sgP e f n (s + 1) = s + 1 := by unfold sgP; rw [if_neg hn]
      rw [hsg] at u1
      rw [hsg2] at u2
      unfold vsV at u1 u2
      rw [if_neg hn] at u1 u2
      rw [Bool.eq_iff_iff, mi_iff, hmi, Bool.and_eq_true, beq_iff_eq, beq_iff_eq, hu, u1, u2, mid_ex hd (by omega) (by omega) (by omega) i3, nn]
      exact ⟨fun h => ⟨hlt, h⟩, fun h => h.2⟩

theorem mid_spec {e f n d p : Int} (hg : goodB e f = true) (hd : dyB n d = true) (hp : BelowQ f (grV e f) ((n.natAbs : Int) * pw ((d - unV e f) + 149)) (pw 149) p) (hlt : p < grV e f) :
    ((n.natAbs : Int) == odV (mgV f p + mgV f (p + 1)) && d == shE (mgV f p + mgV f (p + 1)) (unV e f - 1)) = miB e f (n.natAbs : Int) (d - unV e f) := by
  obtain ⟨_, ⟨i3, i4⟩, _⟩ := rd_dy hg hd
  have hf := (good_iff.1 hg).2.2.1
  have p0 := hp.1
  obtain ⟨mp0, mp1⟩ := mg_bd hg p0 hp.2.1
  obtain ⟨mq0, mq1⟩ := mg_bd (p := p + 1) hg (by omega) (by omega)
  have mn := mg_next hf p0
  rw [Bool.eq_iff_iff, mi_iff, mi_here hf i3 hp, Bool.and_eq_true, beq_iff_eq, beq_iff_eq]
  have := mid_ex (n := (n.natAbs : Int)) (d := d) (S := mgV f p + mgV f (p + 1)) (u := unV e f) (dy_abs hd) (by omega) (by omega) (by omega) i3
  constructor
  · rintro ⟨a, b⟩
    exact ⟨hlt, this.1 ⟨a.symm, b.symm⟩⟩
  · rintro ⟨_, h⟩
    have := this.2 h
    exact ⟨this.1.symm, this.2.symm⟩

theorem iIsMidpoint_no (e f n d : Int) (hg : asB e f n d = false) (w : World) : Calls Tryd.prog 14 #[fmt e f, two n d] w fun rv w' => rv = .returned (.tuple #[.bool false, .bool false]) ∧ Ext w w' := by
  go_enter Tryd.func14, Tryd.ntmps14
  go_wp2_with (go_at_call 32; refine (iBoundsOf_no e f n d hg _).mono ?_; rintro rv w1 ⟨rfl, hb⟩; have ns : w.heap.size + 1 < w1.heap.size := hb.lt (by first | with_reducible assumption | omega | (simp; done) | (simp; omega)); have n0 : w1.cell? ⟨w.heap.size, 0, none⟩ = some (.int .i64 e) := (hb.cells _ _ (by first | with_reducible assumption | omega | (simp; done) | (simp; omega))).trans (by first | with_reducible assumption | (simp; done) | (simp; with_reducible assumption) | (rw [cell_alloc_before _ _ _ _ (by omega)]; with_reducible assumption) | (simp [go_sem, *]; done)); have n1 : w1.cell? ⟨w.heap.size, 1, none⟩ = some (.int .i64 f) := (hb.cells _ _ (by first | with_reducible assumption | omega | (simp; done) | (simp; omega))).trans (by first | with_reducible assumption | (simp; done) | (simp; with_reducible assumption) | (rw [cell_alloc_before _ _ _ _ (by omega)]; with_reducible assumption) | (simp [go_sem, *]; done)); have n2 : w1.cell? ⟨w.heap.size + 1, 0, none⟩ = some (.int .i64 n) := (hb.cells _ _ (by first | with_reducible assumption | omega | (simp; done) | (simp; omega))).trans (by first | with_reducible assumption | (simp; done) | (simp; with_reducible assumption) | (rw [cell_alloc_before _ _ _ _ (by omega)]; with_reducible assumption) | (simp [go_sem, *]; done)); have n3 : w1.cell? ⟨w.heap.size + 1, 1, none⟩ = some (.int .i64 d) := (hb.cells _ _ (by first | with_reducible assumption | omega | (simp; done) | (simp; omega))).trans (by first | with_reducible assumption | (simp; done) | (simp; with_reducible assumption) | (rw [cell_alloc_before _ _ _ _ (by omega)]; with_reducible assumption) | (simp [go_sem, *]; done)); (first | (have nx := Ext.trans hx hb; clear hx) | (have nx := Ext.trans (hx.alloc _) hb; clear hx) | (have nx := Ext.trans hx.drew hb; clear hx) | have nx := hb); clear hb; try clear hs; try clear g0; try clear g1; try clear g2; try clear g3; have hx := nx; clear nx; have hs := ns; clear ns; have g0 := n0; clear n0; have g1 := n1; clear n1; have g2 := n2; clear n2; have g3 := n3; clear n3)
  go_ret2
  exact ⟨rfl, (by repeat (first | exact Ext.refl _ | with_reducible assumption | apply Ext.alloc | apply Ext.drew | apply Ext.drewN | (refine Ext.setRow ?_ (by first | (simp; done) | (simp; omega) | omega) _) | (refine Ext.setCell ?_ (by first | (simp; done) | (simp; omega) | omega) _) | (refine Ext.trans ?_ (by with_reducible assumption))))⟩

set_option maxHeartbeats 1600000 in
theorem iIsMidpoint_yes (e f n d : Int) (hg : asB e f n d = true) (w : World) (hT : TW w) : Calls Tryd.prog 14 #[fmt e f, two n d] w fun rv w' => rv = .returned (.tuple #[.bool (miB e f (n.natAbs : Int) (d - unV e f)), .bool true]) ∧ Ext w w' := by
  obtain ⟨g0, g1⟩ := as_iff.1 hg
  have q := fun a b => eqDy a b n d
  go_enter Tryd.func14, Tryd.ntmps14
  go_wp2_with fail
  go_at_call 32; refine (iBoundsOf_yes e f n d hg _).mono ?_; rintro rv w1 ⟨s, s2, rfl, hq, _, hb⟩; have HM := Lib.hid (mid_imp g0 g1 hq); clear hq; have ns : w.heap.size + 1 < w1.heap.size := hb.lt (by first | with_reducible assumption | omega | (simp; done) | (simp; omega)); have n0 : w1.cell? ⟨w.heap.size, 0, none⟩ = some (.int .i64 e) := (hb.cells _ _ (by first | with_reducible assumption | omega | (simp; done) | (simp; omega))).trans (by first | with_reducible assumption | (simp; done) | (simp; with_reducible assumption) | (rw [cell_alloc_before _ _ _ _ (by omega)]; with_reducible assumption) | (simp [go_sem, *]; done)); have n1 : w1.cell? ⟨w.heap.size, 1, none⟩ = some (.int .i64 f) := (hb.cells _ _ (by first | with_reducible assumption | omega | (simp; done) | (simp; omega))).trans (by first | with_reducible assumption | (simp; done) | (simp; with_reducible assumption) | (rw [cell_alloc_before _ _ _ _ (by omega)]; with_reducible assumption) | (simp [go_sem, *]; done)); have n2 : w1.cell? ⟨w.heap.size + 1, 0, none⟩ = some (.int .i64 n) := (hb.cells _ _ (by first | with_reducible assumption | omega | (simp; done) | (simp; omega))).trans (by first | with_reducible assumption | (simp; done) | (simp; with_reducible assumption) | (rw [cell_alloc_before _ _ _ _ (by omega)]; with_reducible assumption) | (simp [go_sem, *]; done)); have n3 : w1.cell? ⟨w.heap.size + 1, 1, none⟩ = some (.int .i64 d) := (hb.cells _ _ (by first | with_reducible assumption | omega | (simp; done) | (simp; omega))).trans (by first | with_reducible assumption | (simp; done) | (simp; with_reducible assumption) | (rw [cell_alloc_before _ _ _ _ (by omega)]; with_reducible assumption) | (simp [go_sem, *]; done)); (first | (have nx := Ext.trans hx hb; clear hx) | (have nx := Ext.trans (hx.alloc _) hb; clear hx) | (have nx := Ext.trans hx.drew hb; clear hx) | have nx := hb); clear hb; try clear hs; try clear g0; try clear g1; try clear g2; try clear g3; have hx := nx; clear nx; have hs := ns; clear ns; have g0 := n0; clear n0; have g1 := n1; clear n1; have g2 := n2; clear n2; have g3 := n3; clear n3
  cases hmd : mdB e f (sgP e f n s)
  · have HV := Lib.hid (HM.out.2 hmd)
    go_wp2_with (go_at_call 33; refine (iMidpointOf_no e f (sgP e f n s) hmd _).mono ?_; rintro rv w1 ⟨rfl, hb⟩; have ns : w.heap.size + 1 < w1.heap.size := hb.lt (by first | with_reducible assumption | omega | (simp; done) | (simp; omega)); have n0 : w1.cell? ⟨w.heap.size, 0, none⟩ = some (.int .i64 e) := (hb.cells _ _ (by first | with_reducible assumption | omega | (simp; done) | (simp; omega))).trans (by first | with_reducible assumption | (simp; done) | (simp; with_reducible assumption) | (rw [cell_alloc_before _ _ _ _ (by omega)]; with_reducible assumption) | (simp [go_sem, *]; done)); have n1 : w1.cell? ⟨w.heap.size, 1, none⟩ = some (.int .i64 f) := (hb.cells _ _ (by first | with_reducible assumption | omega | (simp; done) | (simp; omega))).trans (by first | with_reducible assumption | (simp; done) | (simp; with_reducible assumption) | (rw [cell_alloc_before _ _ _ _ (by omega)]; with_reducible assumption) | (simp [go_sem, *]; done)); have n2 : w1.cell? ⟨w.heap.size + 1, 0, none⟩ = some (.int .i64 n) := (hb.cells _ _ (by first | with_reducible assumption | omega | (simp; done) | (simp; omega))).trans (by first | with_reducible assumption | (simp; done) | (simp; with_reducible assumption) | (rw [cell_alloc_before _ _ _ _ (by omega)]; with_reducible assumption) | (simp [go_sem, *]; done)); have n3 : w1.cell? ⟨w.heap.size + 1, 1, none⟩ = some (.int .i64 d) := (hb.cells _ _ (by first | with_reducible assumption | omega | (simp; done) | (simp; omega))).trans (by first | with_reducible assumption | (simp; done) | (simp; with_reducible assumption) | (rw [cell_alloc_before _ _ _ _ (by omega)]; with_reducible assumption) | (simp [go_sem, *]; done)); (first | (have nx := Ext.trans hx hb; clear hx) | (have nx := Ext.trans (hx.alloc _) hb; clear hx) | (have nx := Ext.trans hx.drew hb; clear hx) | have nx := hb); clear hb; try clear hs; try clear g0; try clear g1; try clear g2; try clear g3; have hx := nx; clear nx; have hs := ns; clear ns; have g0 := n0; clear n0; have g1 := n1; clear n1; have g2 := n2; clear n2; have g3 := n3; clear n3)
    try go_quiet (fail)
    all_goals go_wp2_with fail
    all_goals go_ret2
    all_goals exact ⟨by rw [HV.out]; rfl, (by repeat (first | exact Ext.refl _ | with_reducible assumption | apply Ext.alloc | apply Ext.drew | apply Ext.drewN | (refine Ext.setRow ?_ (by first | (simp; done) | (simp; omega) | omega) _) | (refine Ext.setCell ?_ (by first | (simp; done) | (simp; omega) | omega) _) | (refine Ext.trans ?_ (by with_reducible assumption))))⟩
  · have HV := Lib.hid (HM.out.1 hmd)
    go_wp2_with (go_at_call 33; refine (iMidpointOf_yes e f (sgP e f n s) hmd _ (hT.ext (by repeat (first | exact Ext.refl _ | with_reducible assumption | apply Ext.alloc | apply Ext.drew | apply Ext.drewN | (refine Ext.setRow ?_ (by first | (simp; done) | (simp; omega) | omega) _) | (refine Ext.setCell ?_ (by first | (simp; done) | (simp; omega) | omega) _) | (refine Ext.trans ?_ (by with_reducible assumption)))))).mono ?_; rintro rv w1 ⟨rfl, hb⟩; have ns : w.heap.size + 1 < w1.heap.size := hb.lt (by first | with_reducible assumption | omega | (simp; done) | (simp; omega)); have n0 : w1.cell? ⟨w.heap.size, 0, none⟩ = some (.int .i64 e) := (hb.cells _ _ (by first | with_reducible assumption | omega | (simp; done) | (simp; omega))).trans (by first | with_reducible assumption | (simp; done) | (simp; with_reducible assumption) | (rw [cell_alloc_before _ _ _ _ (by omega)]; with_reducible assumption) | (simp [go_sem, *]; done)); have n1 : w1.cell? ⟨w.heap.size, 1, none⟩ = some (.int .i64 f) := (hb.cells _ _ (by first | with_reducible assumption | omega | (simp; done) | (simp; omega))).trans (by first | with_reducible assumption | (simp; done) | (simp; with_reducible assumption) | (rw [cell_alloc_before _ _ _ _ (by omega)]; with_reducible assumption) | (simp [go_sem, *]; done)); have n2 : w1.cell? ⟨w.heap.size + 1, 0, none⟩ = some (.int .i64 n) := (hb.cells _ _ (by first | with_reducible assumption | omega | (simp; done) | (simp; omega))).trans (by first | with_reducible assumption | (simp; done) | (simp; with_reducible assumption) | (rw [cell_alloc_before _ _ _ _ (by omega)]; with_reducible assumption) | (simp [go_sem, *]; done)); have n3 : w1.cell? ⟨w.heap.size + 1, 1, none⟩ = some (.int .i64 d) := (hb.cells _ _ (by first | with_reducible assumption | omega | (simp; done) | (simp; omega))).trans (by first | with_reducible assumption | (simp; done) | (simp; with_reducible assumption) | (rw [cell_alloc_before _ _ _ _ (by omega)]; with_reducible assumption) | (simp [go_sem, *]; done)); (first | (have nx := Ext.trans hx hb; clear hx) | (have nx := Ext.trans (hx.alloc _) hb; clear hx) | (have nx := Ext.trans hx.drew hb; clear hx) | have nx := hb); clear hb; try clear hs; try clear g0; try clear g1; try clear g2; try clear g3; have hx := nx; clear nx; have hs := ns; clear ns; have g0 := n0; clear n0; have g1 := n1; clear n1; have g2 := n2; clear n2; have g3 := n3; clear n3)
    try go_quiet (fail)
    all_goals go_wp2_with fail
    all_goals go_ret2
    all_goals exact ⟨by rw [HV.out]; rfl, (by repeat (first | exact Ext.refl _ | with_reducible assumption | apply Ext.alloc | apply Ext.drew | apply Ext.drewN | (refine Ext.setRow ?_ (by first | (simp; done) | (simp; omega) | omega) _) | (refine Ext.setCell ?_ (by first | (simp; done) | (simp; omega) | omega) _) | (refine Ext.trans ?_ (by with_reducible assumption))))⟩
end Go.Proofs.YtkppdcelhblgaaaDoor

