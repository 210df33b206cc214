/-
  Contracts of the functions that the laws reach, and the plain facts that they rest on, each under the conditions that its line names; part 27.
-/
import Derived.Test.YtcbkhlaiefiieabDoorKxb1
import Derived.Test.YtcbkhlaiefiieabDoorKxb2
import Derived.Test.YtcbkhlaiefiieabDoorKxb3
import Derived.Test.YtcbkhlaiefiieabDoorKxb4
import Derived.Test.YtcbkhlaiefiieabDoorKxb5
import Derived.Test.YtcbkhlaiefiieabDoorKxb6
import Derived.Test.YtcbkhlaiefiieabDoorKxb7
import Derived.Test.YtcbkhlaiefiieabDoorKxb8
import Derived.Test.YtcbkhlaiefiieabDoorKxb9
import Derived.Test.YtcbkhlaiefiieabDoorKxb11
import Derived.Test.YtcbkhlaiefiieabDoorKxb12
import Derived.Test.YtcbkhlaiefiieabDoorKxb13
import Derived.Test.YtcbkhlaiefiieabDoorKxb14
import Derived.Test.YtcbkhlaiefiieabDoorKxb15
import Derived.Test.YtcbkhlaiefiieabDoorKxb16
import Derived.Test.YtcbkhlaiefiieabDoorKxb17
import Derived.Test.YtcbkhlaiefiieabDoorKxb18
import Derived.Test.YtcbkhlaiefiieabDoorKxb19
import Derived.Test.YtcbkhlaiefiieabDoorKxb20
import Derived.Test.YtcbkhlaiefiieabDoorKxb21
import Derived.Test.YtcbkhlaiefiieabDoorKxb22
import Derived.Test.YtcbkhlaiefiieabDoorKxb23
import Derived.Test.YtcbkhlaiefiieabDoorKxb24
import Derived.Test.YtcbkhlaiefiieabDoorKxb25
import Derived.Test.YtcbkhlaiefiieabDoorKxb26
import Derived.Test.YtcbkhlaiefiieabDoorRows
import Derived.WalkKit
import Derived.LoopTactic
import Derived.Laws.Bits64b
import Derived.WalkSpells
import Derived.WalkLawsBesides
import Derived.StillTactics
import Derived.Laws.Pointers
import Derived.Deep.RegionHeld3
import Derived.Deep.QuietTactic
import Derived.BigQuiet
import Derived.Outline
import Derived.Lib.Hide
import Derived.RowKit3
import Derived.Carry
import Derived.IntWalk
import Derived.Deep.DeepCutAuto
import Derived.Deep.CutBlock
namespace Go.Proofs.YtcbkhlaiefiieabDoor
open Go Go.RowKit
set_option linter.unusedSimpArgs false
set_option linter.unusedVariables false

theorem rnd2 {e f N k s : Int} {neg : Bool} (h : RndD e f N k 2 neg s) : BelowQ f (grV e f) (N * pw (k + 149)) (pw 149) s := by
  obtain ⟨q, hq, e⟩ := h
  rw [rnd_two] at e
  rw [e]
  exact hq

/-- A number of units with a sign. -/
def vsV (n m : Int) : Int := if n < 0 then -m else m

theorem sg_parts {e f n s : Int} (hg : goodB e f = true) (s0 : 0 ≤ s) (s1 : s ≤ grV e f) : patB e f (sgP e f n s) = true ∧ sgP e f n s % pw (e + f) = s ∧ sgP e f n s / pw (e + f) = (if n < 0 then 1 else 0) := by
  obtain ⟨g0, g1, g2⟩ := gr_bd2 hg
  have hP : pw (e + f) ≠ 0 := by omega
  unfold sgP
  by_cases hn : n < 0
  · rw [if_pos hn, if_pos hn]
    refine ⟨pat_iff.2 ⟨hg, by omega, by omega⟩, ?_, ?_⟩
    · rw [Int.add_emod_left]; exact Int.emod_eq_of_lt s0 (by omega)
    · rw [Int.add_ediv_of_dvd_left (Int.dvd_refl _), Int.ediv_self hP, Int.ediv_eq_zero_of_lt s0 (by omega)]; rfl
  · rw [if_neg hn, if_neg hn]
    exact ⟨pat_iff.2 ⟨hg, by omega, by omega⟩, Int.emod_eq_of_lt s0 (by omega), Int.ediv_eq_zero_of_lt s0 (by omega)⟩

theorem fin_sg {e f n s : Int} (hg : goodB e f = true) (s0 : 0 ≤ s) (s1 : s ≤ grV e f) : finB e f (sgP e f n s) = true := by
  obtain ⟨hp, hm, _⟩ := sg_parts (n := n) hg s0 s1
  unfold finB
  rw [hp, hm, Bool.true_and, decide_eq_true_eq]
  exact (p_parts hg s0 s1).2.2.1

theorem mag_sg {e f p : Int} (hp : patB e f p = true) : magV e f p = magV e f (p % pw (e + f)) := by
  obtain ⟨hg, p0, p1⟩ := pat_iff.1 hp
  obtain ⟨h1, h2, h3, h4⟩ := good_iff.1 hg
  have hd : pw (e + f) = pw e * pw f := pw_add e f (by omega) (by omega)
  have hm : p % pw (e + f) % pw f = p % pw f := by
    rw [hd]
    exact Int.emod_emod_of_dvd p ⟨pw e, Int.mul_comm _ _⟩
  unfold magV
  rw [Int.emod_emod, hm]

theorem units_sg {e f n s : Int} (hg : goodB e f = true) (s0 : 0 ≤ s) (s1 : s ≤ grV e f) : unitsV e f (sgP e f n s) = vsV n (mgV f s) := by
  obtain ⟨hp, hm, hs⟩ := sg_parts (n := n) hg s0 s1
  obtain ⟨g0, g1, g2⟩ := gr_bd2 hg
  have hp2 : patB e f s = true := pat_iff.2 ⟨hg, s0, by omega⟩
  have hu := units_mg e f s hp2 (by omega)
  have hq : s / pw (e + f) = 0 := Int.ediv_eq_zero_of_lt s0 (by omega)
  have e1 : magV e f s = mgV f s := by
    rw [← hu]
    unfold unitsV
    rw [hq]
    simp
  unfold unitsV vsV
  rw [mag_sg hp, hm, hs, e1]
  by_cases hn : n < 0
  · rw [if_pos hn, if_pos hn]; rfl
  · rw [if_neg hn, if_neg hn]; rfl

theorem ival_sg (e f n s : Int) (hg : goodB e f = true) (s0 : 0 ≤ s) (s1 : s ≤ grV e f) (w : World) (hT : TW w) : Calls Tryd.prog 22 #[fmt e f, .int .i64 (sgP e f n s)] w fun rv w' => rv = .returned (.tuple #[two (odV (vsV n (mgV f s))) (shE (vsV n (mgV f s)) (unV e f)), .bool true]) ∧ Ext w w' := by
  have := iValueOf_yes e f (sgP e f n s) (fin_sg hg s0 s1) w hT
  rwa [units_sg hg s0 s1] at this

theorem val_b {e f n d s : Int} (hg : goodB e f = true) (hd : dyB n d = true) (hq : BelowQ f (grV e f) ((n.natAbs : Int) * pw ((d - unV e f) + 149)) (pw 149) s) :
    (odV (vsV n (mgV f s)) == n && shE (vsV n (mgV f s)) (unV e f) == d) = exB e f (n.natAbs : Int) (d - unV e f) := by
  obtain ⟨_, ⟨i3, i4⟩, _⟩ := rd_dy hg hd
  obtain ⟨m0, m1⟩ := mg_bd hg hq.1 hq.2.1
  have hv := val_ex (s := s) (e := e) (f := f) hd m0 m1 i3
  rw [Bool.eq_iff_iff, ex_iff, ex_low (good_iff.1 hg).2.2.1 hq, ← hv, Bool.and_eq_true, beq_iff_eq, beq_iff_eq]
  rfl

theorem iIsExact_no (e f n d : Int) (hg : asB e f n d = false) (w : World) : Calls Tryd.prog 33 #[fmt e f, two n d] w fun rv w' => rv = .returned (.tuple #[.bool false, .bool false]) ∧ Ext w w' := by
  have h0 : rqB e f n d 2 = false := by unfold rqB; rw [hg]; rfl
  go_enter Tryd.func33, Tryd.ntmps33
  go_wp2_with (go_at_call 75; refine (iRoundDyadic_no e f n d 2 h0 _).mono ?_; rintro rv w1 ⟨rfl, hb⟩; have ns : w.heap.size + 1 < w1.heap.size := hb.ltK; have n0 : w1.cell? ⟨w.heap.size, 0, none⟩ = some (.int .i64 e) := hb.cellK; have n1 : w1.cell? ⟨w.heap.size, 1, none⟩ = some (.int .i64 f) := hb.cellK; have n2 : w1.cell? ⟨w.heap.size + 1, 0, none⟩ = some (.int .i64 n) := hb.cellK; have n3 : w1.cell? ⟨w.heap.size + 1, 1, none⟩ = some (.int .i64 d) := hb.cellK; (first | (have nx := Ext.trans hx hb; clear hx) | (have nx := Ext.trans (hx.alloc _) hb; clear hx) | (have nx := Ext.trans hx.drew hb; clear hx) | have nx := hb); clear hb; try clear hs; try clear g0; try clear g1; try clear g2; try clear g3; have hx := nx; clear nx; have hs := ns; clear ns; have g0 := n0; clear n0; have g1 := n1; clear n1; have g2 := n2; clear n2; have g3 := n3; clear n3)
  go_ret2
  exact ⟨rfl, Ext.auK⟩

theorem iIsExact_yes (e f n d : Int) (hg : asB e f n d = true) (w : World) (hT : TW w) : Calls Tryd.prog 33 #[fmt e f, two n d] w fun rv w' => rv = .returned (.tuple #[.bool (exB e f (n.natAbs : Int) (d - unV e f)), .bool true]) ∧ Ext w w' := by
  obtain ⟨g0, g1⟩ := as_iff.1 hg
  have q := fun a b => eqDy a b n d
  go_enter Tryd.func33, Tryd.ntmps33
  go_wp2_with (first | (go_at_call 75; refine (iRoundDyadic_yes e f n d 2 (rq_iff.2 ⟨⟨g0, g1⟩, by decide, by decide⟩) _).mono ?_; rintro rv w1 ⟨s, rfl, hq, hb⟩; have HQ := Lib.hid (rnd2 hq); clear hq; have s0 := HQ.out.1; have s1 := HQ.out.2.1; have ns : w.heap.size + 1 < w1.heap.size := hb.ltK; have n0 : w1.cell? ⟨w.heap.size, 0, none⟩ = some (.int .i64 e) := hb.cellK; have n1 : w1.cell? ⟨w.heap.size, 1, none⟩ = some (.int .i64 f) := hb.cellK; have n2 : w1.cell? ⟨w.heap.size + 1, 0, none⟩ = some (.int .i64 n) := hb.cellK; have n3 : w1.cell? ⟨w.heap.size + 1, 1, none⟩ = some (.int .i64 d) := hb.cellK; (first | (have nx := Ext.trans hx hb; clear hx) | (have nx := Ext.trans (hx.alloc _) hb; clear hx) | (have nx := Ext.trans hx.drew hb; clear hx) | have nx := hb); clear hb; try clear hs; try clear g0; try clear g1; try clear g2; try clear g3; have hx := nx; clear nx; have hs := ns; clear ns; have g0 := n0; clear n0; have g1 := n1; clear n1; have g2 := n2; clear n2; have g3 := n3; clear n3) | (go_at_call 22; refine (ival_sg e f n s g0 s0 s1 _ (hT.ext Ext.auK)).mono ?_; rintro rv w1 ⟨rfl, hb⟩; have ns : w.heap.size + 1 < w1.heap.size := hb.ltK; have n0 : w1.cell? ⟨w.heap.size, 0, none⟩ = some (.int .i64 e) := hb.cellK; have n1 : w1.cell? ⟨w.heap.size, 1, none⟩ = some (.int .i64 f) := hb.cellK; have n2 : w1.cell? ⟨w.heap.size + 1, 0, none⟩ = some (.int .i64 n) := hb.cellK; have n3 : w1.cell? ⟨w.heap.size + 1, 1, none⟩ = some (.int .i64 d) := hb.cellK; (first | (have nx := Ext.trans hx hb; clear hx) | (have nx := Ext.trans (hx.alloc _) hb; clear hx) | (have nx := Ext.trans hx.drew hb; clear hx) | have nx := hb); clear hb; try clear hs; try clear g0; try clear g1; try clear g2; try clear g3; have hx := nx; clear nx; have hs := ns; clear ns; have g0 := n0; clear n0; have g1 := n1; clear n1; have g2 := n2; clear n2; have g3 := n3; clear n3))
  go_ret2
  exact ⟨by rw [val_b g0 g1 HQ.out]; rfl, Ext.auK⟩

theorem below_ex {e f u : Int} (hg : goodB e f = true) (hu : 0 ≤ u) : ∃ p, IsBelow f (grV e f) u p := by
  obtain ⟨p, hp⟩ := belowq_ex f u 1 (good_iff.1 hg).2.2.1 hu (grV e f).toNat
  rw [Int.toNat_of_nonneg (by have := (gr_bd2 hg).1; omega)] at hp
  obtain ⟨p0, p1, p2, p3⟩ := hp
  rw [Int.mul_one] at p2 p3
  exact ⟨p, p0, p1, p2, p3⟩

theorem exact_no {e f N k u r h : Int} (hg : goodB e f = true) (hs : SizeOf e f N k u r h) (hr : r ≠ 0) : exB e f N k = false := by
  obtain ⟨p, hp⟩ := below_ex hg hs.1
  have := (size_low hg hs hp).2
  rw [← Bool.not_eq_true, ex_iff, ← this]
  exact fun h => hr h.2

theorem exact_if {e f N k u r h p : Int} (hg : goodB e f = true) (hs : SizeOf e f N k u r h) (hp : IsBelow f (grV e f) u p) (hr : r = 0) : exB e f N k = (mgV f p == u) := by
  have := (size_low hg hs hp).2
  rw [Bool.eq_iff_iff, ex_iff, ← this, beq_iff_eq]
  exact ⟨fun h => h.1, fun h => ⟨h, hr⟩⟩

theorem fmUnits_below {e f u p : Int} (hg : goodB e f = true) (hp : IsBelow f (grV e f) u p) (w : World) : Calls Tryd.prog 70 #[fmt e f, .int .i64 p] w fun rv w' => rv = .returned (.int .i64 (mgV f p)) ∧ Ext w w' := by
  obtain ⟨g0, g1, g2⟩ := gr_bd2 hg
  exact fmUnits_size e f p (pat_iff.2 ⟨hg, hp.1, by have := hp.2.1; omega⟩) (by have := hp.2.1; omega) w

set_option maxHeartbeats 1600000 in
theorem rdExact_any (e f n d : Int) (g0 : goodB e f = true) (hd : RdIn n (d - unV e f)) (w : World) : Calls Tryd.prog 68 #[fmt e f, two n d] w fun rv w' => rv = .returned (.bool (exB e f (n.natAbs : Int) (d - unV e f))) ∧ Ext w w' := by
  go_enter Tryd.func68, Tryd.ntmps68
  go_wp2_with fail
  go_at_call 69; refine (rdOf_any e f n d g0 hd _).mono ?_; rintro rv w1 ⟨u, r, h, rfl, hsz, hb⟩; have HS := Lib.hid hsz; clear hsz; have ns : w.heap.size + 1 < w1.heap.size := hb.ltK; have n0 : w1.cell? ⟨w.heap.size, 0, none⟩ = some (.int .i64 e) := hb.cellK; have n1 : w1.cell? ⟨w.heap.size, 1, none⟩ = some (.int .i64 f) := hb.cellK; have n2 : w1.cell? ⟨w.heap.size + 1, 0, none⟩ = some (.int .i64 n) := hb.cellK; have n3 : w1.cell? ⟨w.heap.size + 1, 1, none⟩ = some (.int .i64 d) := hb.cellK; (first | (have nx := Ext.trans hx hb; clear hx) | (have nx := Ext.trans (hx.alloc _) hb; clear hx) | (have nx := Ext.trans hx.drew hb; clear hx) | have nx := hb); clear hb; try clear hs; try clear g0; try clear g1; try clear g2; try clear g3; have hx := nx; clear nx; have hs := ns; clear ns; have g0 := n0; clear n0; have g1 := n1; clear n1; have g2 := n2; clear n2; have g3 := n3; clear n3
  obtain ⟨u0, u1, r0, r1, hh, _⟩ := id HS.out
  by_cases hr : r = 0
  · have r2 : (r == 0) = true := by simpa using hr
    have EX := Lib.hid (fun p hp => exact_if (p := p) g0 HS.out hp hr)
    clear hr
    go_wp2_with fail
    go_region_held3 (fun w' => w'.cell? ⟨w.heap.size, 0, none⟩ = some (.int .i64 e) ∧ w'.cell? ⟨w.heap.size, 1, none⟩ = some (.int .i64 f) ∧ w'.cell? ⟨w.heap.size + 1, 0, none⟩ = some (.int .i64 n) ∧ w'.cell? ⟨w.heap.size + 1, 1, none⟩ = some (.int .i64 d) ∧ w'.cell? ⟨w1.heap.size, 0, none⟩ = some (.int .i64 u) ∧ w'.cell? ⟨w1.heap.size, 1, none⟩ = some (.int .i64 r) ∧ w'.cell? ⟨w1.heap.size, 2, none⟩ = some (.int .i64 h) ∧ w1.heap.size < w'.heap.size) ((refine ⟨?_, ?_, ?_, ?_, ?_, ?_, ?_, ?_⟩ <;> first | with_reducible assumption | ((repeat first | rw [cell_set_far _ _ _ _ _ _ (by omega)] | rw [cell_alloc_before _ _ _ _ (by omega)] | rw [cell_alloc_drew _ _ _ _ (by omega)] | rw [cell_drew]); with_reducible assumption) | ((rw [cell_setRow_far _ _ _ _ _ (by omega)]); with_reducible assumption) | ((rw [setRow_size]); with_reducible assumption) | (simp; done) | (simp [World.setCell]; first | done | omega) | (simp [go_sem, World.cell?_alloc_past, World.cell?_setCell_far, *]; done))) ((first | (go_at_call 78; refine (fmBelow_any e f u g0 u0 _).mono ?_; rintro rv w2 ⟨p, rfl, hq, hb⟩; have HP : RowKit.Hid (IsBelow f (grV e f) u p) := hq; clear hq; have HU := Lib.hid (fmUnits_below g0 HP.out); have ns : w1.heap.size < w2.heap.size := hb.ltK; have n0 : w2.cell? ⟨w.heap.size, 0, none⟩ = some (.int .i64 e) := hb.cellK; have n1 : w2.cell? ⟨w.heap.size, 1, none⟩ = some (.int .i64 f) := hb.cellK; have n2 : w2.cell? ⟨w.heap.size + 1, 0, none⟩ = some (.int .i64 n) := hb.cellK; have n3 : w2.cell? ⟨w.heap.size + 1, 1, none⟩ = some (.int .i64 d) := hb.cellK; have n4 : w2.cell? ⟨w1.heap.size, 0, none⟩ = some (.int .i64 u) := hb.cellK; have n5 : w2.cell? ⟨w1.heap.size, 1, none⟩ = some (.int .i64 r) := hb.cellK; have n6 : w2.cell? ⟨w1.heap.size, 2, none⟩ = some (.int .i64 h) := hb.cellK; (first | (have nx := Ext.trans hx hb; clear hx) | (have nx := Ext.trans (hx.alloc _) hb; clear hx) | (have nx := Ext.trans hx.drew hb; clear hx) | have nx := hb); clear hb; try clear hs; try clear g0; try clear g1; try clear g2; try clear g3; try clear g4; try clear g5; try clear g6; have hx := nx; clear nx; have hs := ns; clear ns; have g0 := n0; clear n0; have g1 := n1; clear n1; have g2 := n2; clear n2; have g3 := n3; clear n3; have g4 := n4; clear n4; have g5 := n5; clear n5; have g6 := n6; clear n6) | (go_at_call 70; refine (HU.out _).mono ?_; rintro rv w3 ⟨rfl, hb⟩; have ns : w1.heap.size < w3.heap.size := hb.ltK; have n0 : w3.cell? ⟨w.heap.size, 0, none⟩ = some (.int .i64 e) := hb.cellK; have n1 : w3.cell? ⟨w.heap.size, 1, none⟩ = some (.int .i64 f) := hb.cellK; have n2 : w3.cell? ⟨w.heap.size + 1, 0, none⟩ = some (.int .i64 n) := hb.cellK; have n3 : w3.cell? ⟨w.heap.size + 1, 1, none⟩ = some (.int .i64 d) := hb.cellK; have n4 : w3.cell? ⟨w1.heap.size, 0, none⟩ = some (.int .i64 u) := hb.cellK; have n5 : w3.cell? ⟨w1.heap.size, 1, none⟩ = some (.int .i64 r) := hb.cellK; have n6 : w3.cell? ⟨w1.heap.size, 2, none⟩ = some (.int .i64 h) := hb.cellK; (first | (have nx := Ext.trans hx hb; clear hx) | (have nx := Ext.trans (hx.alloc _) hb; clear hx) | (have nx := Ext.trans hx.drew hb; clear hx) | have nx := hb); clear hb; try clear hs; try clear g0; try clear g1; try clear g2; try clear g3; try clear g4; try clear g5; try clear g6; have hx := nx; clear nx; have hs := ns; clear ns; have g0 := n0; clear n0; have g1 := n1; clear n1; have g2 := n2; clear n2; have g3 := n3; clear n3; have g4 := n4; clear n4; have g5 := n5; clear n5; have g6 := n6; clear n6)))
    all_goals go_wp2_with fail
    all_goals go_ret
    all_goals exact ⟨ret_bool (EX.out _ HP.out).symm, Ext.auK⟩
  · have r2 : (r == 0) = false := by simpa using hr
    have EX := Lib.hid (exact_no g0 HS.out hr)
    go_wp2_with fail
    go_quiet (fail)
    all_goals go_wp2_with fail
    all_goals go_ret
    all_goals exact ⟨ret_bool EX.out.symm, Ext.auK⟩
end Go.Proofs.YtcbkhlaiefiieabDoor

namespace Go.Proofs.YtcbkhlaiefiieabDoor
open Go Go.RowKit
set_option linter.unusedSimpArgs false
set_option linter.unusedVariables false

theorem sIsExact_no (e f n d : Int) (hg : asB e f n d = false) (w : World) : Calls Tryd.prog 32 #[fmt e f, two n d] w fun rv w' => rv = .returned (.tuple #[.bool false, .bool false]) ∧ Ext w w' := by
  go_enter Tryd.func32, Tryd.ntmps32
  go_wp2_with (go_at_call 67; refine (rdAsked_any e f n d _).mono ?_; rintro rv w1 ⟨rfl, hb⟩; have ns : w.heap.size + 1 < w1.heap.size := hb.ltK; have n0 : w1.cell? ⟨w.heap.size, 0, none⟩ = some (.int .i64 e) := hb.cellK; have n1 : w1.cell? ⟨w.heap.size, 1, none⟩ = some (.int .i64 f) := hb.cellK; have n2 : w1.cell? ⟨w.heap.size + 1, 0, none⟩ = some (.int .i64 n) := hb.cellK; have n3 : w1.cell? ⟨w.heap.size + 1, 1, none⟩ = some (.int .i64 d) := hb.cellK; (first | (have nx := Ext.trans hx hb; clear hx) | (have nx := Ext.trans (hx.alloc _) hb; clear hx) | (have nx := Ext.trans hx.drew hb; clear hx) | have nx := hb); clear hb; try clear hs; try clear g0; try clear g1; try clear g2; try clear g3; have hx := nx; clear nx; have hs := ns; clear ns; have g0 := n0; clear n0; have g1 := n1; clear n1; have g2 := n2; clear n2; have g3 := n3; clear n3)
  go_ret2
  exact ⟨rfl, Ext.auK⟩

theorem sIsExact_yes (e f n d : Int) (hg : asB e f n d = true) (w : World) : Calls Tryd.prog 32 #[fmt e f, two n d] w fun rv w' => rv = .returned (.tuple #[.bool (exB e f (n.natAbs : Int) (d - unV e f)), .bool true]) ∧ Ext w w' := by
  obtain ⟨g0, g1⟩ := as_iff.1 hg
  go_enter Tryd.func32, Tryd.ntmps32
  go_wp2_with (first | (go_at_call 67; refine (rdAsked_any e f n d _).mono ?_; rintro rv w1 ⟨rfl, hb⟩; have ns : w.heap.size + 1 < w1.heap.size := hb.ltK; have n0 : w1.cell? ⟨w.heap.size, 0, none⟩ = some (.int .i64 e) := hb.cellK; have n1 : w1.cell? ⟨w.heap.size, 1, none⟩ = some (.int .i64 f) := hb.cellK; have n2 : w1.cell? ⟨w.heap.size + 1, 0, none⟩ = some (.int .i64 n) := hb.cellK; have n3 : w1.cell? ⟨w.heap.size + 1, 1, none⟩ = some (.int .i64 d) := hb.cellK; (first | (have nx := Ext.trans hx hb; clear hx) | (have nx := Ext.trans (hx.alloc _) hb; clear hx) | (have nx := Ext.trans hx.drew hb; clear hx) | have nx := hb); clear hb; try clear hs; try clear g0; try clear g1; try clear g2; try clear g3; have hx := nx; clear nx; have hs := ns; clear ns; have g0 := n0; clear n0; have g1 := n1; clear n1; have g2 := n2; clear n2; have g3 := n3; clear n3) | (go_at_call 68; refine (rdExact_any e f n d g0 (rd_dy g0 g1) _).mono ?_; rintro rv w1 ⟨rfl, hb⟩; have ns : w.heap.size + 1 < w1.heap.size := hb.ltK; have n0 : w1.cell? ⟨w.heap.size, 0, none⟩ = some (.int .i64 e) := hb.cellK; have n1 : w1.cell? ⟨w.heap.size, 1, none⟩ = some (.int .i64 f) := hb.cellK; have n2 : w1.cell? ⟨w.heap.size + 1, 0, none⟩ = some (.int .i64 n) := hb.cellK; have n3 : w1.cell? ⟨w.heap.size + 1, 1, none⟩ = some (.int .i64 d) := hb.cellK; (first | (have nx := Ext.trans hx hb; clear hx) | (have nx := Ext.trans (hx.alloc _) hb; clear hx) | (have nx := Ext.trans hx.drew hb; clear hx) | have nx := hb); clear hb; try clear hs; try clear g0; try clear g1; try clear g2; try clear g3; have hx := nx; clear nx; have hs := ns; clear ns; have g0 := n0; clear n0; have g1 := n1; clear n1; have g2 := n2; clear n2; have g3 := n3; clear n3))
  go_ret2
  exact ⟨rfl, Ext.auK⟩

theorem sFlagsOf_no (e f n d : Int) (hg : asB e f n d = false) (w : World) : Calls Tryd.prog 30 #[fmt e f, two n d] w fun rv w' => rv = .returned (.tuple #[.int .i64 0, .bool false]) ∧ Ext w w' := by
  go_enter Tryd.func30, Tryd.ntmps30
  go_wp2_with (go_at_call 67; refine (rdAsked_any e f n d _).mono ?_; rintro rv w1 ⟨rfl, hb⟩; have ns : w.heap.size + 1 < w1.heap.size := hb.ltK; have n0 : w1.cell? ⟨w.heap.size, 0, none⟩ = some (.int .i64 e) := hb.cellK; have n1 : w1.cell? ⟨w.heap.size, 1, none⟩ = some (.int .i64 f) := hb.cellK; have n2 : w1.cell? ⟨w.heap.size + 1, 0, none⟩ = some (.int .i64 n) := hb.cellK; have n3 : w1.cell? ⟨w.heap.size + 1, 1, none⟩ = some (.int .i64 d) := hb.cellK; (first | (have nx := Ext.trans hx hb; clear hx) | (have nx := Ext.trans (hx.alloc _) hb; clear hx) | (have nx := Ext.trans hx.drew hb; clear hx) | have nx := hb); clear hb; try clear hs; try clear g0; try clear g1; try clear g2; try clear g3; have hx := nx; clear nx; have hs := ns; clear ns; have g0 := n0; clear n0; have g1 := n1; clear n1; have g2 := n2; clear n2; have g3 := n3; clear n3)
  go_ret2
  exact ⟨rfl, Ext.auK⟩

theorem sFlagsOf_ex (e f n d : Int) (hg : asB e f n d = true) (hx : exB e f (n.natAbs : Int) (d - unV e f) = true) (w : World) : Calls Tryd.prog 30 #[fmt e f, two n d] w fun rv w' => rv = .returned (.tuple #[.int .i64 (fgV e f (n.natAbs : Int) (d - unV e f)), .bool true]) ∧ Ext w w' := by
  obtain ⟨g0, g1⟩ := as_iff.1 hg
  have hv : fgV e f (n.natAbs : Int) (d - unV e f) = 0 := by unfold fgV; rw [if_pos hx]
  rw [hv]
  go_enter Tryd.func30, Tryd.ntmps30
  go_wp2_with (first | (go_at_call 67; refine (rdAsked_any e f n d _).mono ?_; rintro rv w1 ⟨rfl, hb⟩; have ns : w.heap.size + 1 < w1.heap.size := hb.ltK; have n0 : w1.cell? ⟨w.heap.size, 0, none⟩ = some (.int .i64 e) := hb.cellK; have n1 : w1.cell? ⟨w.heap.size, 1, none⟩ = some (.int .i64 f) := hb.cellK; have n2 : w1.cell? ⟨w.heap.size + 1, 0, none⟩ = some (.int .i64 n) := hb.cellK; have n3 : w1.cell? ⟨w.heap.size + 1, 1, none⟩ = some (.int .i64 d) := hb.cellK; (first | (have nx := Ext.trans hx hb; clear hx) | (have nx := Ext.trans (hx.alloc _) hb; clear hx) | (have nx := Ext.trans hx.drew hb; clear hx) | have nx := hb); clear hb; try clear hs; try clear g0; try clear g1; try clear g2; try clear g3; have hx := nx; clear nx; have hs := ns; clear ns; have g0 := n0; clear n0; have g1 := n1; clear n1; have g2 := n2; clear n2; have g3 := n3; clear n3) | (go_at_call 68; refine (rdExact_any e f n d g0 (rd_dy g0 g1) _).mono ?_; rintro rv w1 ⟨rfl, hb⟩; have ns : w.heap.size + 1 < w1.heap.size := hb.ltK; have n0 : w1.cell? ⟨w.heap.size, 0, none⟩ = some (.int .i64 e) := hb.cellK; have n1 : w1.cell? ⟨w.heap.size, 1, none⟩ = some (.int .i64 f) := hb.cellK; have n2 : w1.cell? ⟨w.heap.size + 1, 0, none⟩ = some (.int .i64 n) := hb.cellK; have n3 : w1.cell? ⟨w.heap.size + 1, 1, none⟩ = some (.int .i64 d) := hb.cellK; (first | (have nx := Ext.trans hx hb; clear hx) | (have nx := Ext.trans (hx.alloc _) hb; clear hx) | (have nx := Ext.trans hx.drew hb; clear hx) | have nx := hb); clear hb; try clear hs; try clear g0; try clear g1; try clear g2; try clear g3; have hx := nx; clear nx; have hs := ns; clear ns; have g0 := n0; clear n0; have g1 := n1; clear n1; have g2 := n2; clear n2; have g3 := n3; clear n3))
  go_ret2
  exact ⟨rfl, Ext.auK⟩

theorem fmGreatest_gr (e f : Int) (hg : goodB e f = true) (w : World) : Calls Tryd.prog 71 #[fmt e f] w fun rv w' => rv = .returned (.int .i64 (grV e f)) ∧ Ext w w' := fmGreatest_any e f hg w

set_option maxHeartbeats 3200000 in
theorem sFlagsOf_in (e f n d : Int) (hg : asB e f n d = true) (hx : exB e f (n.natAbs : Int) (d - unV e f) = false) (w : World) : Calls Tryd.prog 30 #[fmt e f, two n d] w fun rv w' => rv = .returned (.tuple #[.int .i64 (fgV e f (n.natAbs : Int) (d - unV e f)), .bool true]) ∧ Ext w w' := by
  obtain ⟨g0, g1⟩ := as_iff.1 hg
  obtain ⟨h1', h2', h3', h4'⟩ := good_iff.1 g0
  have c2' : pw f ≤ 1024 := pw_le 10 1024 rfl h4'
  have c1' := pw_pos f
  have k1 := pw_of f
  have k2 : IntKind.i64.wrap (pw f) = pw f := IntWalk.i64_in _ (by omega)
  have k3 : min f.toNat 64 = f.toNat := by omega
  have UG := Lib.hid (fun w => fmUnits_size e f (grV e f) (pat_iff.2 ⟨g0, by have := gr_bd2 g0; omega, by have := gr_bd2 g0; omega⟩) (by have := gr_bd2 g0; omega) w)
  go_enter Tryd.func30, Tryd.ntmps30
  go_wp2_with (first | (go_at_call 67; refine (rdAsked_any e f n d _).mono ?_; rintro rv w1 ⟨rfl, hb⟩; have ns : w.heap.size + 1 < w1.heap.size := hb.ltK; have n0 : w1.cell? ⟨w.heap.size, 0, none⟩ = some (.int .i64 e) := hb.cellK; have n1 : w1.cell? ⟨w.heap.size, 1, none⟩ = some (.int .i64 f) := hb.cellK; have n2 : w1.cell? ⟨w.heap.size + 1, 0, none⟩ = some (.int .i64 n) := hb.cellK; have n3 : w1.cell? ⟨w.heap.size + 1, 1, none⟩ = some (.int .i64 d) := hb.cellK; (first | (have nx := Ext.trans hx hb; clear hx) | (have nx := Ext.trans (hx.alloc _) hb; clear hx) | (have nx := Ext.trans hx.drew hb; clear hx) | have nx := hb); clear hb; try clear hs; try clear g0; try clear g1; try clear g2; try clear g3; have hx := nx; clear nx; have hs := ns; clear ns; have g0 := n0; clear n0; have g1 := n1; clear n1; have g2 := n2; clear n2; have g3 := n3; clear n3) | (go_at_call 68; refine (rdExact_any e f n d g0 (rd_dy g0 g1) _).mono ?_; rintro rv w1 ⟨rfl, hb⟩; have ns : w.heap.size + 1 < w1.heap.size := hb.ltK; have n0 : w1.cell? ⟨w.heap.size, 0, none⟩ = some (.int .i64 e) := hb.cellK; have n1 : w1.cell? ⟨w.heap.size, 1, none⟩ = some (.int .i64 f) := hb.cellK; have n2 : w1.cell? ⟨w.heap.size + 1, 0, none⟩ = some (.int .i64 n) := hb.cellK; have n3 : w1.cell? ⟨w.heap.size + 1, 1, none⟩ = some (.int .i64 d) := hb.cellK; (first | (have nx := Ext.trans hx hb; clear hx) | (have nx := Ext.trans (hx.alloc _) hb; clear hx) | (have nx := Ext.trans hx.drew hb; clear hx) | have nx := hb); clear hb; try clear hs; try clear g0; try clear g1; try clear g2; try clear g3; have hx := nx; clear nx; have hs := ns; clear ns; have g0 := n0; clear n0; have g1 := n1; clear n1; have g2 := n2; clear n2; have g3 := n3; clear n3))
  go_at_call 69; refine (rdOf_any e f n d g0 (rd_dy g0 g1) _).mono ?_; rintro rv w1 ⟨u, r, h, rfl, hsz, hb⟩; have HS := Lib.hid hsz; clear hsz; have ns : w.heap.size + 1 < w1.heap.size := hb.ltK; have n0 : w1.cell? ⟨w.heap.size, 0, none⟩ = some (.int .i64 e) := hb.cellK; have n1 : w1.cell? ⟨w.heap.size, 1, none⟩ = some (.int .i64 f) := hb.cellK; have n2 : w1.cell? ⟨w.heap.size + 1, 0, none⟩ = some (.int .i64 n) := hb.cellK; have n3 : w1.cell? ⟨w.heap.size + 1, 1, none⟩ = some (.int .i64 d) := hb.cellK; (first | (have nx := Ext.trans hx hb; clear hx) | (have nx := Ext.trans (hx.alloc _) hb; clear hx) | (have nx := Ext.trans hx.drew hb; clear hx) | have nx := hb); clear hb; try clear hs; try clear g0; try clear g1; try clear g2; try clear g3; have hx := nx; clear nx; have hs := ns; clear ns; have g0 := n0; clear n0; have g1 := n1; clear n1; have g2 := n2; clear n2; have g3 := n3; clear n3
  obtain ⟨u0, u1, r0, r1, hh, _⟩ := id HS.out
  obtain ⟨p, hp⟩ := below_ex g0 u0
  have F1 := Lib.hid (flag_gt g0 HS.out hx hp)
  have F2 := Lib.hid (flag_lt g0 HS.out hp)
  clear hp
  cases c1 : gtB e f (n.natAbs : Int) (d - unV e f) <;> cases c2 : ltB f (n.natAbs : Int) (d - unV e f)
  · have j1 : u < mgV f (grV e f) := by have q := F1.out; rw [c1] at q; have := of_decide_eq_false q; omega
    have j2 : pw f ≤ u := by have q := F2.out; rw [c2] at q; have := of_decide_eq_false q; omega
    have HV : RowKit.Hid (fgV e f (n.natAbs : Int) (d - unV e f) = 1) := by show _ = _; unfold fgV; rw [hx, c1, c2]; rfl
    clear c1 c2 hx
    go_wp2_with fail
    try go_region_held3 (fun w' => w'.cell? ⟨w.heap.size, 0, none⟩ = some (.int .i64 e) ∧ w'.cell? ⟨w.heap.size, 1, none⟩ = some (.int .i64 f) ∧ w'.cell? ⟨w.heap.size + 1, 0, none⟩ = some (.int .i64 n) ∧ w'.cell? ⟨w.heap.size + 1, 1, none⟩ = some (.int .i64 d) ∧ w'.cell? ⟨w1.heap.size, 0, none⟩ = some (.int .i64 u) ∧ w'.cell? ⟨w1.heap.size, 1, none⟩ = some (.int .i64 r) ∧ w'.cell? ⟨w1.heap.size, 2, none⟩ = some (.int .i64 h) ∧ w1.heap.size < w'.heap.size) ((refine ⟨?_, ?_, ?_, ?_, ?_, ?_, ?_, ?_⟩ <;> first | with_reducible assumption | ((repeat first | rw [cell_set_far _ _ _ _ _ _ (by omega)] | rw [cell_alloc_before _ _ _ _ (by omega)] | rw [cell_alloc_drew _ _ _ _ (by omega)] | rw [cell_drew]); with_reducible assumption) | ((rw [cell_setRow_far _ _ _ _ _ (by omega)]); with_reducible assumption) | ((rw [setRow_size]); with_reducible assumption) | (simp; done) | (simp [World.setCell]; first | done | omega) | (simp [go_sem, World.cell?_alloc_past, World.cell?_setCell_far, *]; done))) ((first | (go_at_call 71; refine (fmGreatest_gr e f g0 _).mono ?_; rintro rv w2 ⟨rfl, hb⟩; have ns : w1.heap.size < w2.heap.size := hb.ltK; have n0 : w2.cell? ⟨w.heap.size, 0, none⟩ = some (.int .i64 e) := hb.cellK; have n1 : w2.cell? ⟨w.heap.size, 1, none⟩ = some (.int .i64 f) := hb.cellK; have n2 : w2.cell? ⟨w.heap.size + 1, 0, none⟩ = some (.int .i64 n) := hb.cellK; have n3 : w2.cell? ⟨w.heap.size + 1, 1, none⟩ = some (.int .i64 d) := hb.cellK; have n4 : w2.cell? ⟨w1.heap.size, 0, none⟩ = some (.int .i64 u) := hb.cellK; have n5 : w2.cell? ⟨w1.heap.size, 1, none⟩ = some (.int .i64 r) := hb.cellK; have n6 : w2.cell? ⟨w1.heap.size, 2, none⟩ = some (.int .i64 h) := hb.cellK; (first | (have nx := Ext.trans hx hb; clear hx) | (have nx := Ext.trans (hx.alloc _) hb; clear hx) | (have nx := Ext.trans hx.drew hb; clear hx) | have nx := hb); clear hb; try clear hs; try clear g0; try clear g1; try clear g2; try clear g3; try clear g4; try clear g5; try clear g6; have hx := nx; clear nx; have hs := ns; clear ns; have g0 := n0; clear n0; have g1 := n1; clear n1; have g2 := n2; clear n2; have g3 := n3; clear n3; have g4 := n4; clear n4; have g5 := n5; clear n5; have g6 := n6; clear n6) | (go_at_call 70; refine (UG.out _).mono ?_; rintro rv w2 ⟨rfl, hb⟩; have ns : w1.heap.size < w2.heap.size := hb.ltK; have n0 : w2.cell? ⟨w.heap.size, 0, none⟩ = some (.int .i64 e) := hb.cellK; have n1 : w2.cell? ⟨w.heap.size, 1, none⟩ = some (.int .i64 f) := hb.cellK; have n2 : w2.cell? ⟨w.heap.size + 1, 0, none⟩ = some (.int .i64 n) := hb.cellK; have n3 : w2.cell? ⟨w.heap.size + 1, 1, none⟩ = some (.int .i64 d) := hb.cellK; have n4 : w2.cell? ⟨w1.heap.size, 0, none⟩ = some (.int .i64 u) := hb.cellK; have n5 : w2.cell? ⟨w1.heap.size, 1, none⟩ = some (.int .i64 r) := hb.cellK; have n6 : w2.cell? ⟨w1.heap.size, 2, none⟩ = some (.int .i64 h) := hb.cellK; (first | (have nx := Ext.trans hx hb; clear hx) | (have nx := Ext.trans (hx.alloc _) hb; clear hx) | (have nx := Ext.trans hx.drew hb; clear hx) | have nx := hb); clear hb; try clear hs; try clear g0; try clear g1; try clear g2; try clear g3; try clear g4; try clear g5; try clear g6; have hx := nx; clear nx; have hs := ns; clear ns; have g0 := n0; clear n0; have g1 := n1; clear n1; have g2 := n2; clear n2; have g3 := n3; clear n3; have g4 := n4; clear n4; have g5 := n5; clear n5; have g6 := n6; clear n6)))
    all_goals go_wp2_with fail
    all_goals go_region_held3 (fun w' => w'.cell? ⟨w.heap.size, 0, none⟩ = some (.int .i64 e) ∧ w'.cell? ⟨w.heap.size, 1, none⟩ = some (.int .i64 f) ∧ w'.cell? ⟨w.heap.size + 1, 0, none⟩ = some (.int .i64 n) ∧ w'.cell? ⟨w.heap.size + 1, 1, none⟩ = some (.int .i64 d) ∧ w'.cell? ⟨w1.heap.size, 0, none⟩ = some (.int .i64 u) ∧ w'.cell? ⟨w1.heap.size, 1, none⟩ = some (.int .i64 r) ∧ w'.cell? ⟨w1.heap.size, 2, none⟩ = some (.int .i64 h) ∧ w1.heap.size < w'.heap.size) ((refine ⟨?_, ?_, ?_, ?_, ?_, ?_, ?_, ?_⟩ <;> first | with_reducible assumption | ((repeat first | rw [cell_set_far _ _ _ _ _ _ (by omega)] | rw [cell_alloc_before _ _ _ _ (by omega)] | rw [cell_alloc_drew _ _ _ _ (by omega)] | rw [cell_drew]); with_reducible assumption) | ((rw [cell_setRow_far _ _ _ _ _ (by omega)]); with_reducible assumption) | ((rw [setRow_size]); with_reducible assumption) | (simp; done) | (simp [World.setCell]; first | done | omega) | (simp [go_sem, World.cell?_alloc_past, World.cell?_setCell_far, *]; done))) (fail)
    all_goals go_wp2_with fail
    all_goals go_ret2
    all_goals exact ⟨by rw [HV.out]; rfl, Ext.auK⟩
  · have j1 : u < mgV f (grV e f) := by have q := F1.out; rw [c1] at q; have := of_decide_eq_false q; omega
    have j2 : u < pw f := by have q := F2.out; rw [c2] at q; exact of_decide_eq_true q
    have HV : RowKit.Hid (fgV e f (n.natAbs : Int) (d - unV e f) = 5) := by show _ = _; unfold fgV; rw [hx, c1, c2]; rfl
    clear c1 c2 hx
    go_wp2_with fail
    try go_region_held3 (fun w' => w'.cell? ⟨w.heap.size, 0, none⟩ = some (.int .i64 e) ∧ w'.cell? ⟨w.heap.size, 1, none⟩ = some (.int .i64 f) ∧ w'.cell? ⟨w.heap.size + 1, 0, none⟩ = some (.int .i64 n) ∧ w'.cell? ⟨w.heap.size + 1, 1, none⟩ = some (.int .i64 d) ∧ w'.cell? ⟨w1.heap.size, 0, none⟩ = some (.int .i64 u) ∧ w'.cell? ⟨w1.heap.size, 1, none⟩ = some (.int .i64 r) ∧ w'.cell? ⟨w1.heap.size, 2, none⟩ = some (.int .i64 h) ∧ w1.heap.size < w'.heap.size) ((refine ⟨?_, ?_, ?_, ?_, ?_, ?_, ?_, ?_⟩ <;> first | with_reducible assumption | ((repeat first | rw [cell_set_far _ _ _ _ _ _ (by omega)] | rw [cell_alloc_before _ _ _ _ (by omega)] | rw [cell_alloc_drew _ _ _ _ (by omega)] | rw [cell_drew]); with_reducible assumption) | ((rw [cell_setRow_far _ _ _ _ _ (by omega)]); with_reducible assumption) | ((rw [setRow_size]); with_reducible assumption) | (simp; done) | (simp [World.setCell]; first | done | omega) | (simp [go_sem, World.cell?_alloc_past, World.cell?_setCell_far, *]; done))) ((first | (go_at_call 71; refine (fmGreatest_gr e f g0 _).mono ?_; rintro rv w2 ⟨rfl, hb⟩; have ns : w1.heap.size < w2.heap.size := hb.ltK; have n0 : w2.cell? ⟨w.heap.size, 0, none⟩ = some (.int .i64 e) := hb.cellK; have n1 : w2.cell? ⟨w.heap.size, 1, none⟩ = some (.int .i64 f) := hb.cellK; have n2 : w2.cell? ⟨w.heap.size + 1, 0, none⟩ = some (.int .i64 n) := hb.cellK; have n3 : w2.cell? ⟨w.heap.size + 1, 1, none⟩ = some (.int .i64 d) := hb.cellK; have n4 : w2.cell? ⟨w1.heap.size, 0, none⟩ = some (.int .i64 u) := hb.cellK; have n5 : w2.cell? ⟨w1.heap.size, 1, none⟩ = some (.int .i64 r) := hb.cellK; have n6 : w2.cell? ⟨w1.heap.size, 2, none⟩ = some (.int .i64 h) := hb.cellK; (first | (have nx := Ext.trans hx hb; clear hx) | (have nx := Ext.trans (hx.alloc _) hb; clear hx) | (have nx := Ext.trans hx.drew hb; clear hx) | have nx := hb); clear hb; try clear hs; try clear g0; try clear g1; try clear g2; try clear g3; try clear g4; try clear g5; try clear g6; have hx := nx; clear nx; have hs := ns; clear ns; have g0 := n0; clear n0; have g1 := n1; clear n1; have g2 := n2; clear n2; have g3 := n3; clear n3; have g4 := n4; clear n4; have g5 := n5; clear n5; have g6 := n6; clear n6) | (go_at_call 70; refine (UG.out _).mono ?_; rintro rv w2 ⟨rfl, hb⟩; have ns : w1.heap.size < w2.heap.size := hb.ltK; have n0 : w2.cell? ⟨w.heap.size, 0, none⟩ = some (.int .i64 e) := hb.cellK; have n1 : w2.cell? ⟨w.heap.size, 1, none⟩ = some (.int .i64 f) := hb.cellK; have n2 : w2.cell? ⟨w.heap.size + 1, 0, none⟩ = some (.int .i64 n) := hb.cellK; have n3 : w2.cell? ⟨w.heap.size + 1, 1, none⟩ = some (.int .i64 d) := hb.cellK; have n4 : w2.cell? ⟨w1.heap.size, 0, none⟩ = some (.int .i64 u) := hb.cellK; have n5 : w2.cell? ⟨w1.heap.size, 1, none⟩ = some (.int .i64 r) := hb.cellK; have n6 : w2.cell? ⟨w1.heap.size, 2, none⟩ = some (.int .i64 h) := hb.cellK; (first | (have nx := Ext.trans hx hb; clear hx) | (have nx := Ext.trans (hx.alloc _) hb; clear hx) | (have nx := Ext.trans hx.drew hb; clear hx) | have nx := hb); clear hb; try clear hs; try clear g0; try clear g1; try clear g2; try clear g3; try clear g4; try clear g5; try clear g6; have hx := nx; clear nx; have hs := ns; clear ns; have g0 := n0; clear n0; have g1 := n1; clear n1; have g2 := n2; clear n2; have g3 := n3; clear n3; have g4 := n4; clear n4; have g5 := n5; clear n5; have g6 := n6; clear n6)))
    all_goals go_wp2_with fail
    all_goals go_region_held3 (fun w' => w'.cell? ⟨w.heap.size, 0, none⟩ = some (.int .i64 e) ∧ w'.cell? ⟨w.heap.size, 1, none⟩ = some (.int .i64 f) ∧ w'.cell? ⟨w.heap.size + 1, 0, none⟩ = some (.int .i64 n) ∧ w'.cell? ⟨w.heap.size + 1, 1, none⟩ = some (.int .i64 d) ∧ w'.cell? ⟨w1.heap.size, 0, none⟩ = some (.int .i64 u) ∧ w'.cell? ⟨w1.heap.size, 1, none⟩ = some (.int .i64 r) ∧ w'.cell? ⟨w1.heap.size, 2, none⟩ = some (.int .i64 h) ∧ w1.heap.size < w'.heap.size) ((refine ⟨?_, ?_, ?_, ?_, ?_, ?_, ?_, ?_⟩ <;> first | with_reducible assumption | ((repeat first | rw [cell_set_far _ _ _ _ _ _ (by omega)] | rw [cell_alloc_before _ _ _ _ (by omega)] | rw [cell_alloc_drew _ _ _ _ (by omega)] | rw [cell_drew]); with_reducible assumption) | ((rw [cell_setRow_far _ _ _ _ _ (by omega)]); with_reducible assumption) | ((rw [setRow_size]); with_reducible assumption) | (simp; done) | (simp [World.setCell]; first | done | omega) | (simp [go_sem, World.cell?_alloc_past, World.cell?_setCell_far, *]; done))) (fail)
    all_goals go_wp2_with fail
    all_goals go_ret2
    all_goals exact ⟨by rw [HV.out]; rfl, Ext.auK⟩
  · have j1 : mgV f (grV e f) ≤ u := by have q := F1.out; rw [c1] at q; exact of_decide_eq_true q
    have j2 : pw f ≤ u := by have q := F2.out; rw [c2] at q; have := of_decide_eq_false q; omega
    have HV : RowKit.Hid (fgV e f (n.natAbs : Int) (d - unV e f) = 3) := by show _ = _; unfold fgV; rw [hx, c1, c2]; rfl
    clear c1 c2 hx
    go_wp2_with fail
    try go_region_held3 (fun w' => w'.cell? ⟨w.heap.size, 0, none⟩ = some (.int .i64 e) ∧ w'.cell? ⟨w.heap.size, 1, none⟩ = some (.int .i64 f) ∧ w'.cell? ⟨w.heap.size + 1, 0, none⟩ = some (.int .i64 n) ∧ w'.cell? ⟨w.heap.size + 1, 1, none⟩ = some (.int .i64 d) ∧ w'.cell? ⟨w1.heap.size, 0, none⟩ = some (.int .i64 u) ∧ w'.cell? ⟨w1.heap.size, 1, none⟩ = some (.int .i64 r) ∧ w'.cell? ⟨w1.heap.size, 2, none⟩ = some (.int .i64 h) ∧ w1.heap.size < w'.heap.size) ((refine ⟨?_, ?_, ?_, ?_, ?_, ?_, ?_, ?_⟩ <;> first | with_reducible assumption | ((repeat first | rw [cell_set_far _ _ _ _ _ _ (by omega)] | rw [cell_alloc_before _ _ _ _ (by omega)] | rw [cell_alloc_drew _ _ _ _ (by omega)] | rw [cell_drew]); with_reducible assumption) | ((rw [cell_setRow_far _ _ _ _ _ (by omega)]); with_reducible assumption) | ((rw [setRow_size]); with_reducible assumption) | (simp; done) | (simp [World.setCell]; first | done | omega) | (simp [go_sem, World.cell?_alloc_past, World.cell?_setCell_far, *]; done))) ((first | (go_at_call 71; refine (fmGreatest_gr e f g0 _).mono ?_; rintro rv w2 ⟨rfl, hb⟩; have ns : w1.heap.size < w2.heap.size := hb.ltK; have n0 : w2.cell? ⟨w.heap.size, 0, none⟩ = some (.int .i64 e) := hb.cellK; have n1 : w2.cell? ⟨w.heap.size, 1, none⟩ = some (.int .i64 f) := hb.cellK; have n2 : w2.cell? ⟨w.heap.size + 1, 0, none⟩ = some (.int .i64 n) := hb.cellK; have n3 : w2.cell? ⟨w.heap.size + 1, 1, none⟩ = some (.int .i64 d) := hb.cellK; have n4 : w2.cell? ⟨w1.heap.size, 0, none⟩ = some (.int .i64 u) := hb.cellK; have n5 : w2.cell? ⟨w1.heap.size, 1, none⟩ = some (.int .i64 r) := hb.cellK; have n6 : w2.cell? ⟨w1.heap.size, 2, none⟩ = some (.int .i64 h) := hb.cellK; (first | (have nx := Ext.trans hx hb; clear hx) | (have nx := Ext.trans (hx.alloc _) hb; clear hx) | (have nx := Ext.trans hx.drew hb; clear hx) | have nx := hb); clear hb; try clear hs; try clear g0; try clear g1; try clear g2; try clear g3; try clear g4; try clear g5; try clear g6; have hx := nx; clear nx; have hs := ns; clear ns; have g0 := n0; clear n0; have g1 := n1; clear n1; have g2 := n2; clear n2; have g3 := n3; clear n3; have g4 := n4; clear n4; have g5 := n5; clear n5; have g6 := n6; clear n6) | (go_at_call 70; refine (UG.out _).mono ?_; rintro rv w2 ⟨rfl, hb⟩; have ns : w1.heap.size < w2.heap.size := hb.ltK; have n0 : w2.cell? ⟨w.heap.size, 0, none⟩ = some (.int .i64 e) := hb.cellK; have n1 : w2.cell? ⟨w.heap.size, 1, none⟩ = some (.int .i64 f) := hb.cellK; have n2 : w2.cell? ⟨w.heap.size + 1, 0, none⟩ = some (.int .i64 n) := hb.cellK; have n3 : w2.cell? ⟨w.heap.size + 1, 1, none⟩ = some (.int .i64 d) := hb.cellK; have n4 : w2.cell? ⟨w1.heap.size, 0, none⟩ = some (.int .i64 u) := hb.cellK; have n5 : w2.cell? ⟨w1.heap.size, 1, none⟩ = some (.int .i64 r) := hb.cellK; have n6 : w2.cell? ⟨w1.heap.size, 2, none⟩ = some (.int .i64 h) := hb.cellK; (first | (have nx := Ext.trans hx hb; clear hx) | (have nx := Ext.trans (hx.alloc _) hb; clear hx) | (have nx := Ext.trans hx.drew hb; clear hx) | have nx := hb); clear hb; try clear hs; try clear g0; try clear g1; try clear g2; try clear g3; try clear g4; try clear g5; try clear g6; have hx := nx; clear nx; have hs := ns; clear ns; have g0 := n0; clear n0; have g1 := n1; clear n1; have g2 := n2; clear n2; have g3 := n3; clear n3; have g4 := n4; clear n4; have g5 := n5; clear n5; have g6 := n6; clear n6)))
    all_goals go_wp2_with fail
    all_goals go_region_held3 (fun w' => w'.cell? ⟨w.heap.size, 0, none⟩ = some (.int .i64 e) ∧ w'.cell? ⟨w.heap.size, 1, none⟩ = some (.int .i64 f) ∧ w'.cell? ⟨w.heap.size + 1, 0, none⟩ = some (.int .i64 n) ∧ w'.cell? ⟨w.heap.size + 1, 1, none⟩ = some (.int .i64 d) ∧ w'.cell? ⟨w1.heap.size, 0, none⟩ = some (.int .i64 u) ∧ w'.cell? ⟨w1.heap.size, 1, none⟩ = some (.int .i64 r) ∧ w'.cell? ⟨w1.heap.size, 2, none⟩ = some (.int .i64 h) ∧ w1.heap.size < w'.heap.size) ((refine ⟨?_, ?_, ?_, ?_, ?_, ?_, ?_, ?_⟩ <;> first | with_reducible assumption | ((repeat first | rw [cell_set_far _ _ _ _ _ _ (by omega)] | rw [cell_alloc_before _ _ _ _ (by omega)] | rw [cell_alloc_drew _ _ _ _ (by omega)] | rw [cell_drew]); with_reducible assumption) | ((rw [cell_setRow_far _ _ _ _ _ (by omega)]); with_reducible assumption) | ((rw [setRow_size]); with_reducible assumption) | (simp; done) | (simp [World.setCell]; first | done | omega) | (simp [go_sem, World.cell?_alloc_past, World.cell?_setCell_far, *]; done))) (fail)
    all_goals go_wp2_with fail
    all_goals go_ret2
    all_goals exact ⟨by rw [HV.out]; rfl, Ext.auK⟩
  · have j1 : mgV f (grV e f) ≤ u := by have q := F1.out; rw [c1] at q; exact of_decide_eq_true q
    have j2 : u < pw f := by have q := F2.out; rw [c2] at q; exact of_decide_eq_true q
    have HV : RowKit.Hid (fgV e f (n.natAbs : Int) (d - unV e f) = 7) := by show _ = _; unfold fgV; rw [hx, c1, c2]; rfl
    clear c1 c2 hx
    go_wp2_with fail
    try go_region_held3 (fun w' => w'.cell? ⟨w.heap.size, 0, none⟩ = some (.int .i64 e) ∧ w'.cell? ⟨w.heap.size, 1, none⟩ = some (.int .i64 f) ∧ w'.cell? ⟨w.heap.size + 1, 0, none⟩ = some (.int .i64 n) ∧ w'.cell? ⟨w.heap.size + 1, 1, none⟩ = some (.int .i64 d) ∧ w'.cell? ⟨w1.heap.size, 0, none⟩ = some (.int .i64 u) ∧ w'.cell? ⟨w1.heap.size, 1, none⟩ = some (.int .i64 r) ∧ w'.cell? ⟨w1.heap.size, 2, none⟩ = some (.int .i64 h) ∧ w1.heap.size < w'.heap.size) ((refine ⟨?_, ?_, ?_, ?_, ?_, ?_, ?_, ?_⟩ <;> first | with_reducible assumption | ((repeat first | rw [cell_set_far _ _ _ _ _ _ (by omega)] | rw [cell_alloc_before _ _ _ _ (by omega)] | rw [cell_alloc_drew _ _ _ _ (by omega)] | rw [cell_drew]); with_reducible assumption) | ((rw [cell_setRow_far _ _ _ _ _ (by omega)]); with_reducible assumption) | ((rw [setRow_size]); with_reducible assumption) | (simp; done) | (simp [World.setCell]; first | done | omega) | (simp [go_sem, World.cell?_alloc_past, World.cell?_setCell_far, *]; done))) ((first | (go_at_call 71; refine (fmGreatest_gr e f g0 _).mono ?_; rintro rv w2 ⟨rfl, hb⟩; have ns : w1.heap.size < w2.heap.size := hb.ltK; have n0 : w2.cell? ⟨w.heap.size, 0, none⟩ = some (.int .i64 e) := hb.cellK; have n1 : w2.cell? ⟨w.heap.size, 1, none⟩ = some (.int .i64 f) := hb.cellK; have n2 : w2.cell? ⟨w.heap.size + 1, 0, none⟩ = some (.int .i64 n) := hb.cellK; have n3 : w2.cell? ⟨w.heap.size + 1, 1, none⟩ = some (.int .i64 d) := hb.cellK; have n4 : w2.cell? ⟨w1.heap.size, 0, none⟩ = some (.int .i64 u) := hb.cellK; have n5 : w2.cell? ⟨w1.heap.size, 1, none⟩ = some (.int .i64 r) := hb.cellK; have n6 : w2.cell? ⟨w1.heap.size, 2, none⟩ = some (.int .i64 h) := hb.cellK; (first | (have nx := Ext.trans hx hb; clear hx) | (have nx := Ext.trans (hx.alloc _) hb; clear hx) | (have nx := Ext.trans hx.drew hb; clear hx) | have nx := hb); clear hb; try clear hs; try clear g0; try clear g1; try clear g2; try clear g3; try clear g4; try clear g5; try clear g6; have hx := nx; clear nx; have hs := ns; clear ns; have g0 := n0; clear n0; have g1 := n1; clear n1; have g2 := n2; clear n2; have g3 := n3; clear n3; have g4 := n4; clear n4; have g5 := n5; clear n5; have g6 := n6; clear n6) | (go_at_call 70; refine (UG.out _).mono ?_; rintro rv w2 ⟨rfl, hb⟩; have ns : w1.heap.size < w2.heap.size := hb.ltK; have n0 : w2.cell? ⟨w.heap.size, 0, none⟩ = some (.int .i64 e) := hb.cellK; have n1 : w2.cell? ⟨w.heap.size, 1, none⟩ = some (.int .i64 f) := hb.cellK; have n2 : w2.cell? ⟨w.heap.size + 1, 0, none⟩ = some (.int .i64 n) := hb.cellK; have n3 : w2.cell? ⟨w.heap.size + 1, 1, none⟩ = some (.int .i64 d) := hb.cellK; have n4 : w2.cell? ⟨w1.heap.size, 0, none⟩ = some (.int .i64 u) := hb.cellK; have n5 : w2.cell? ⟨w1.heap.size, 1, none⟩ = some (.int .i64 r) := hb.cellK; have n6 : w2.cell? ⟨w1.heap.size, 2, none⟩ = some (.int .i64 h) := hb.cellK; (first | (have nx := Ext.trans hx hb; clear hx) | (have nx := Ext.trans (hx.alloc _) hb; clear hx) | (have nx := Ext.trans hx.drew hb; clear hx) | have nx := hb); clear hb; try clear hs; try clear g0; try clear g1; try clear g2; try clear g3; try clear g4; try clear g5; try clear g6; have hx := nx; clear nx; have hs := ns; clear ns; have g0 := n0; clear n0; have g1 := n1; clear n1; have g2 := n2; clear n2; have g3 := n3; clear n3; have g4 := n4; clear n4; have g5 := n5; clear n5; have g6 := n6; clear n6)))
    all_goals go_wp2_with fail
    all_goals go_region_held3 (fun w' => w'.cell? ⟨w.heap.size, 0, none⟩ = some (.int .i64 e) ∧ w'.cell? ⟨w.heap.size, 1, none⟩ = some (.int .i64 f) ∧ w'.cell? ⟨w.heap.size + 1, 0, none⟩ = some (.int .i64 n) ∧ w'.cell? ⟨w.heap.size + 1, 1, none⟩ = some (.int .i64 d) ∧ w'.cell? ⟨w1.heap.size, 0, none⟩ = some (.int .i64 u) ∧ w'.cell? ⟨w1.heap.size, 1, none⟩ = some (.int .i64 r) ∧ w'.cell? ⟨w1.heap.size, 2, none⟩ = some (.int .i64 h) ∧ w1.heap.size < w'.heap.size) ((refine ⟨?_, ?_, ?_, ?_, ?_, ?_, ?_, ?_⟩ <;> first | with_reducible assumption | ((repeat first | rw [cell_set_far _ _ _ _ _ _ (by omega)] | rw [cell_alloc_before _ _ _ _ (by omega)] | rw [cell_alloc_drew _ _ _ _ (by omega)] | rw [cell_drew]); with_reducible assumption) | ((rw [cell_setRow_far _ _ _ _ _ (by omega)]); with_reducible assumption) | ((rw [setRow_size]); with_reducible assumption) | (simp; done) | (simp [World.setCell]; first | done | omega) | (simp [go_sem, World.cell?_alloc_past, World.cell?_setCell_far, *]; done))) (fail)
    all_goals go_wp2_with fail
    all_goals go_ret2
    all_goals exact ⟨by rw [HV.out]; rfl, Ext.auK⟩

theorem sFlagsOf_yes (e f n d : Int) (hg : asB e f n d = true) (w : World) : Calls Tryd.prog 30 #[fmt e f, two n d] w fun rv w' => rv = .returned (.tuple #[.int .i64 (fgV e f (n.natAbs : Int) (d - unV e f)), .bool true]) ∧ Ext w w' := by
  cases hx : exB e f (n.natAbs : Int) (d - unV e f)
  · exact sFlagsOf_in e f n d hg hx w
  · exact sFlagsOf_ex e f n d hg hx w

theorem ival_pos (e f s : Int) (hg : goodB e f = true) (s0 : 0 ≤ s) (s1 : s ≤ grV e f) (w : World) (hT : TW w) : Calls Tryd.prog 22 #[fmt e f, .int .i64 s] w fun rv w' => rv = .returned (.tuple #[two (odV (mgV f s)) (shE (mgV f s) (unV e f)), .bool true]) ∧ Ext w w' := by
  have := ival_sg e f 0 s hg s0 s1 w hT
  rwa [show sgP e f 0 s = s from if_neg (by decide), show vsV 0 (mgV f s) = mgV f s from if_neg (by decide)] at this

set_option maxHeartbeats 1600000 in
theorem compareValue_any (e f s n d : Int) (hg : goodB e f = true) (hd : dyB n d = true) (s0 : 0 ≤ s) (s1 : s ≤ grV e f) (w : World) (hT : TW w) : Calls Tryd.prog 74 #[fmt e f, .int .i64 s, two n d] w fun rv w' => rv = .returned (.int .i64 (sgV (mgV f s * pw 149 - n * pw ((d - unV e f) + 149)))) ∧ Ext w w' := by
  obtain ⟨m0, m1⟩ := mg_bd hg s0 s1
  obtain ⟨u1, u2, u3, u4⟩ := un_bd hg
  obtain ⟨⟨_, _, d1, d2⟩, _⟩ := dy_iff.1 hd
  have hv := dy_low (m := mgV f s) (u := unV e f) (by omega) (by omega) (by omega) (by omega)
  have hc := cmp_val (m := mgV f s) (N := n) (u := unV e f) (d := d) (by omega) (by omega) (by omega) (by omega) d1 (by omega)
  have IV := Lib.hid (fun w hT => ival_pos e f s hg s0 s1 w hT)
  have CD := Lib.hid (fun w => iCompareDyadic_yes (odV (mgV f s)) (shE (mgV f s) (unV e f)) n d (dy2_iff.2 ⟨hv, hd⟩) w)
  rw [hc] at CD
  clear hc
  go_enter Tryd.func74, Tryd.ntmps74
  go_wp2_with (first | (go_at_call 22; refine (IV.out _ (hT.ext Ext.auK)).mono ?_; rintro rv w1 ⟨rfl, hb⟩; have ns : w.heap.size + 1 < w1.heap.size := hb.ltK; have n0 : w1.cell? ⟨w.heap.size, 0, none⟩ = some (.int .i64 e) := hb.cellK; have n1 : w1.cell? ⟨w.heap.size, 1, none⟩ = some (.int .i64 f) := hb.cellK; have n2 : w1.cell? ⟨w.heap.size + 1, 0, none⟩ = some (.int .i64 n) := hb.cellK; have n3 : w1.cell? ⟨w.heap.size + 1, 1, none⟩ = some (.int .i64 d) := hb.cellK; (first | (have nx := Ext.trans hx hb; clear hx) | (have nx := Ext.trans (hx.alloc _) hb; clear hx) | (have nx := Ext.trans hx.drew hb; clear hx) | have nx := hb); clear hb; try clear hs; try clear g0; try clear g1; try clear g2; try clear g3; have hx := nx; clear nx; have hs := ns; clear ns; have g0 := n0; clear n0; have g1 := n1; clear n1; have g2 := n2; clear n2; have g3 := n3; clear n3) | (go_at_call 106; refine (CD.out _).mono ?_; rintro rv w1 ⟨rfl, hb⟩; have ns : w.heap.size + 1 < w1.heap.size := hb.ltK; have n0 : w1.cell? ⟨w.heap.size, 0, none⟩ = some (.int .i64 e) := hb.cellK; have n1 : w1.cell? ⟨w.heap.size, 1, none⟩ = some (.int .i64 f) := hb.cellK; have n2 : w1.cell? ⟨w.heap.size + 1, 0, none⟩ = some (.int .i64 n) := hb.cellK; have n3 : w1.cell? ⟨w.heap.size + 1, 1, none⟩ = some (.int .i64 d) := hb.cellK; (first | (have nx := Ext.trans hx hb; clear hx) | (have nx := Ext.trans (hx.alloc _) hb; clear hx) | (have nx := Ext.trans hx.drew hb; clear hx) | have nx := hb); clear hb; try clear hs; try clear g0; try clear g1; try clear g2; try clear g3; have hx := nx; clear nx; have hs := ns; clear ns; have g0 := n0; clear n0; have g1 := n1; clear n1; have g2 := n2; clear n2; have g3 := n3; clear n3))
  go_ret
  exact ⟨rfl, Ext.auK⟩
end Go.Proofs.YtcbkhlaiefiieabDoor

namespace Go.Proofs.YtcbkhlaiefiieabDoor
open Go Go.RowKit
set_option linter.unusedSimpArgs false
set_option linter.unusedVariables false

theorem iFlagsOf_no (e f n d : Int) (hg : asB e f n d = false) (w : World) : Calls Tryd.prog 31 #[fmt e f, two n d] w fun rv w' => rv = .returned (.tuple #[.int .i64 0, .bool false]) ∧ Ext w w' := by
  go_enter Tryd.func31, Tryd.ntmps31
  go_wp2_with (go_at_call 33; refine (iIsExact_no e f n d hg _).mono ?_; rintro rv w1 ⟨rfl, hb⟩; have ns : w.heap.size + 1 < w1.heap.size := hb.ltK; have n0 : w1.cell? ⟨w.heap.size, 0, none⟩ = some (.int .i64 e) := hb.cellK; have n1 : w1.cell? ⟨w.heap.size, 1, none⟩ = some (.int .i64 f) := hb.cellK; have n2 : w1.cell? ⟨w.heap.size + 1, 0, none⟩ = some (.int .i64 n) := hb.cellK; have n3 : w1.cell? ⟨w.heap.size + 1, 1, none⟩ = some (.int .i64 d) := hb.cellK; (first | (have nx := Ext.trans hx hb; clear hx) | (have nx := Ext.trans (hx.alloc _) hb; clear hx) | (have nx := Ext.trans hx.drew hb; clear hx) | have nx := hb); clear hb; try clear hs; try clear g0; try clear g1; try clear g2; try clear g3; have hx := nx; clear nx; have hs := ns; clear ns; have g0 := n0; clear n0; have g1 := n1; clear n1; have g2 := n2; clear n2; have g3 := n3; clear n3)
  go_ret2
  exact ⟨rfl, Ext.auK⟩
end Go.Proofs.YtcbkhlaiefiieabDoor

namespace Go.Proofs.YtcbkhlaiefiieabDoor
open Go Go.RowKit
set_option linter.unusedSimpArgs false
set_option linter.unusedVariables false

theorem four_lo (A B p : Int) : rndP A B p 4 false = p := by
  unfold rndP
  split
  · rfl
  · rw [if_neg]
    unfold upR
    simp

theorem four_up (A B p : Int) : rndP A B p 4 true = if A = 0 then p else p + 1 := by
  unfold rndP
  split
  · rfl
  · rw [if_pos]
    unfold upR
    simp

theorem up_sg {e f n s : Int} (hg : goodB e f = true) (s0 : 0 ≤ s) (s1 : s ≤ grV e f) (h : n < 0 → 1 ≤ s) : upV e f (sgP e f n s) = if n < 0 then sgP e f n (s - 1) else s + 1 := by
  obtain ⟨hp, hm, hs⟩ := sg_parts (n := n) hg s0 s1
  unfold upV
  rw [hm, hs]
  by_cases hn : n < 0
  · have := h hn
    rw [if_neg (show ¬ (s == 0) = true by simp; omega), if_pos hn, if_neg (show ¬ ((1 : Int) == 0) = true by decide), if_pos hn]
    unfold sgP
    rw [if_pos hn, if_pos hn]
    omega
  · rw [if_neg hn, if_neg hn]
    unfold sgP
    rw [if_neg hn]
    by_cases hz : s = 0
    · subst hz; rfl
    · rw [if_neg (show ¬ (s == 0) = true by simpa using hz)]
      rfl

theorem mi_no0 {e f k : Int} (hf : 1 ≤ f) : ¬ miD e f 0 k := by
  rintro ⟨q, q0, q1, hq⟩
  rw [Int.zero_mul] at hq
  have hD : 0 < pw 149 := by have := pw_pos 149; omega
  have h1 := mg_next hf q0
  have h2 := mg_mono f 0 q hf (by decide) q0
  rw [mg_small f 0 (by decide) (by have := pw_pos f; omega)] at h2
  have := Int.mul_pos (show 0 < mgV f q + mgV f (q + 1) by omega) hD
  omega

set_option maxHeartbeats 800000 in
theorem mid_imp {e f n d s : Int} (hg : goodB e f = true) (hd : dyB n d = true) (h : RndD e f (n.natAbs : Int) (d - unV e f) 4 (decide (n < 0)) s) :
    (mdB e f (sgP e f n s) = true → (odV (unitsV e f (sgP e f n s) + unitsV e f (upV e f (sgP e f n s))) == n && shE (unitsV e f (sgP e f n s) + unitsV e f (upV e f (sgP e f n s))) (unV e f - 1) == d) = miB e f (n.natAbs : Int) (d - unV e f)) ∧ (mdB e f (sgP e f n s) = false → miB e f (n.natAbs : Int) (d - unV e f) = false) := by
  obtain ⟨_, ⟨i3, i4⟩, _⟩ := rd_dy hg hd
  have hf := (good_iff.1 hg).2.2.1
  have hD : 0 < pw 149 := by have := pw_pos 149; omega
  obtain ⟨p, hp, es⟩ := h
  have p0 := hp.1
  have p1 := hp.2.1
  obtain ⟨gg0, gg1, gg2⟩ := gr_bd2 hg
  have hmi := mi_here (k := (d - unV e f)) (N := (n.natAbs : Int)) hf i3 hp
  have fmi : ¬ miD e f (n.natAbs : Int) (d - unV e f) → miB e f (n.natAbs : Int) (d - unV e f) = false := fun h => by rw [← Bool.not_eq_true, mi_iff]; exact h
  obtain ⟨mp0, mp1⟩ := mg_bd hg p0 p1
  have mn := mg_next hf p0
  by_cases hn : n < 0
  · rw [decide_eq_true hn, four_up] at es
    have nn : (n.natAbs : Int) = -n := by omega
    by_cases hA : (n.natAbs : Int) * pw ((d - unV e f) + 149) - mgV f p * pw 149 = 0
    · rw [if_pos hA] at es
      subst es
      have hx : exD e f (n.natAbs : Int) (d - unV e f) := ⟨s, p0, p1, by omega⟩
      have hX : 0 < (n.natAbs : Int) * pw ((d - unV e f) + 149) := Int.mul_pos (by omega) (by have := pw_pos ((d - unV e f) + 149); omega)
      have s1 : 1 ≤ s := by
        apply Int.le_of_not_gt
        intro hz
        have : s = 0 := by omega
        subst this
        rw [mg_small f 0 (by decide) (by have := pw_pos f; omega), Int.zero_mul] at hA
        omega
      have hno := fmi (fun h => mi_ex hf i3 h hx)
      refine ⟨fun _ => ?_, fun _ => hno⟩
      rw [hno, ← Bool.not_eq_true, Bool.and_eq_true, beq_iff_eq, beq_iff_eq, up_sg hg p0 p1 (fun _ => s1), if_pos hn, units_sg hg p0 p1, units_sg hg (show 0 ≤ s - 1 by omega) (show s - 1 ≤ grV e f by omega)]
      obtain ⟨mq0, mq1⟩ := mg_bd (p := s - 1) hg (by omega) (by omega)
      have mn2 := mg_next (p := s - 1) hf (by omega)
      rw [show s - 1 + 1 = s by omega] at mn2
      unfold vsV
      rw [if_pos hn, if_pos hn, mid_ex hd (by omega) (by omega) (by omega) i3]
      intro h2
      have e1 : pw ((d - unV e f) + 150) = 2 * pw ((d - unV e f) + 149) := by
        have := pw_succ ((d - unV e f) + 149) (by omega)
        rwa [show (d - unV e f) + 149 + 1 = (d - unV e f) + 150 by omega] at this
      have e2 : n * pw ((d - unV e f) + 150) = -(2 * ((n.natAbs : Int) * pw ((d - unV e f) + 149))) := by
        rw [e1, Int.mul_left_comm, nn, Int.neg_mul]; omega
      rw [e2, show (n.natAbs : Int) * pw ((d - unV e f) + 149) = mgV f s * pw 149 by omega] at h2
      have e3 : (-mgV f s + -mgV f (s - 1)) * pw 149 = -(mgV f s * pw 149) + -(mgV f (s - 1) * pw 149) := by rw [Int.add_mul, Int.neg_mul, Int.neg_mul]
      rw [e3] at h2
      have := Int.mul_lt_mul_of_pos_right (show mgV f (s - 1) < mgV f s by omega) hD
      omega
    · rw [if_neg hA] at es
      subst es
      by_cases hgr : p = grV e f
      · have hno := fmi (fun h => by have := (hmi.1 h).1; omega)
        refine ⟨fun h => ?_, fun _ => hno⟩
        exfalso
        have hfin := (md_iff.1 h).1
        have hm := (fin_mag.1 hfin).2
        obtain ⟨_, gb⟩ := gr_bd hg
        have e1 : sgP e f n (p + 1) % pw (e + f) = p + 1 := by
          unfold sgP
          rw [if_pos hn, Int.add_emod_left]
          exact Int.emod_eq_of_lt (by omega) (by rw [hgr]; unfold grV; omega)
        rw [e1, hgr] at hm
        unfold grV at hm
        omega
      · have hlt : p < grV e f := by omega
        have hmd : mdB e f (sgP e f n (p + 1)) = true := by
          unfold mdB
          rw [fin_sg hg (by omega) (by omega), Bool.true_and, Bool.not_eq_true', beq_eq_false_iff_ne]
          unfold sgP
          rw [if_pos hn]
          show _ ≠ grV e f
          omega
        refine ⟨fun _ => ?_, fun h => by rw [hmd] at h; cases h⟩
        obtain ⟨mq0, mq1⟩ := mg_bd (p := p + 1) hg (by omega) (by omega)
        rw [Bool.eq_iff_iff, mi_iff, hmi, Bool.and_eq_true, beq_iff_eq, beq_iff_eq, up_sg hg (by omega) (by omega) (fun _ => by omega), if_pos hn, units_sg hg (show 0 ≤ p + 1 by omega) (by omega), show p + 1 - 1 = p by omega, units_sg hg p0 p1]
        unfold vsV
        rw [if_pos hn, if_pos hn, mid_ex hd (by omega) (by omega) (by omega) i3]
        have e2 : (-mgV f (p + 1) + -mgV f p) * pw 149 = -((mgV f p + mgV f (p + 1)) * pw 149) := by
          rw [← Int.neg_mul]; congr 1; omega
        have e3 : (n.natAbs : Int) * pw ((d - unV e f) + 150) = -(n * pw ((d - unV e f) + 150)) := by rw [nn, Int.neg_mul]
        rw [e2, e3]
        constructor
        · intro h; exact ⟨hlt, by omega⟩
        · intro h; omega
  · rw [decide_eq_false hn, four_lo] at es
    subst es
    have nn : (n.natAbs : Int) = n := by omega
    have hsg : sgP e f n s = s := by unfold sgP; rw [if_neg hn]
    rw [hsg]
    by_cases hgr : s = grV e f
    · have hno := fmi (fun h => by have := (hmi.1 h).1; omega)
      refine ⟨fun h => ?_, fun _ => hno⟩
      exfalso
      have := (md_iff.1 h).2.2
      rw [beq_eq_false_iff_ne] at this
      exact this hgr
    · have hlt : s < grV e f := by omega
      have hfs := fin_sg (n := n) hg p0 p1
      rw [hsg] at hfs
      have hmd : mdB e f s = true := by
        unfold mdB
        rw [hfs, Bool.true_and, Bool.not_eq_true', beq_eq_false_iff_ne]
        exact hgr
      refine ⟨fun _ => ?_, fun h => by rw [hmd] at h; cases h⟩
      obtain ⟨mq0, mq1⟩ := mg_bd (p := s + 1) hg (by omega) (by omega)
      have hu := up_sg (n := n) hg p0 p1 (fun h => absurd h hn)
      rw [if_neg hn, hsg] at hu
      have u1 := units_sg (n := n) hg p0 p1
      have u2 := units_sg (n := n) hg (show 0 ≤ s + 1 by omega) (show s + 1 ≤ grV e f by omega)
      have hsg2 : sgP e f n (s + 1) = s + 1 := by unfold sgP; rw [if_neg hn]
      rw [hsg] at u1
      rw [hsg2] at u2
      unfold vsV at u1 u2
      rw [if_neg hn] at u1 u2
      rw [Bool.eq_iff_iff, mi_iff, hmi, Bool.and_eq_true, beq_iff_eq, beq_iff_eq, hu, u1, u2, mid_ex hd (by omega) (by omega) (by omega) i3, nn]
      exact ⟨fun h => ⟨hlt, h⟩, fun h => h.2⟩

theorem mid_spec {e f n d p : Int} (hg : goodB e f = true) (hd : dyB n d = true) (hp : BelowQ f (grV e f) ((n.natAbs : Int) * pw ((d - unV e f) + 149)) (pw 149) p) (hlt : p < grV e f) :
    ((n.natAbs : Int) == odV (mgV f p + mgV f (p + 1)) && d == shE (mgV f p + mgV f (p + 1)) (unV e f - 1)) = miB e f (n.natAbs : Int) (d - unV e f) := by
  obtain ⟨_, ⟨i3, i4⟩, _⟩ := rd_dy hg hd
  have hf := (good_iff.1 hg).2.2.1
  have p0 := hp.1
  obtain ⟨mp0, mp1⟩ := mg_bd hg p0 hp.2.1
  obtain ⟨mq0, mq1⟩ := mg_bd (p := p + 1) hg (by omega) (by omega)
  have mn := mg_next hf p0
  rw [Bool.eq_iff_iff, mi_iff, mi_here hf i3 hp, Bool.and_eq_true, beq_iff_eq, beq_iff_eq]
  have := mid_ex (n := (n.natAbs : Int)) (d := d) (S := mgV f p + mgV f (p + 1)) (u := unV e f) (dy_abs hd) (by omega) (by omega) (by omega) i3
  constructor
  · rintro ⟨a, b⟩
    exact ⟨hlt, this.1 ⟨a.symm, b.symm⟩⟩
  · rintro ⟨_, h⟩
    have := this.2 h
    exact ⟨this.1.symm, this.2.symm⟩

theorem iIsMidpoint_no (e f n d : Int) (hg : asB e f n d = false) (w : World) : Calls Tryd.prog 37 #[fmt e f, two n d] w fun rv w' => rv = .returned (.tuple #[.bool false, .bool false]) ∧ Ext w w' := by
  go_enter Tryd.func37, Tryd.ntmps37
  go_wp2_with (go_at_call 80; refine (iBoundsOf_no e f n d hg _).mono ?_; rintro rv w1 ⟨rfl, hb⟩; have ns : w.heap.size + 1 < w1.heap.size := hb.ltK; have n0 : w1.cell? ⟨w.heap.size, 0, none⟩ = some (.int .i64 e) := hb.cellK; have n1 : w1.cell? ⟨w.heap.size, 1, none⟩ = some (.int .i64 f) := hb.cellK; have n2 : w1.cell? ⟨w.heap.size + 1, 0, none⟩ = some (.int .i64 n) := hb.cellK; have n3 : w1.cell? ⟨w.heap.size + 1, 1, none⟩ = some (.int .i64 d) := hb.cellK; (first | (have nx := Ext.trans hx hb; clear hx) | (have nx := Ext.trans (hx.alloc _) hb; clear hx) | (have nx := Ext.trans hx.drew hb; clear hx) | have nx := hb); clear hb; try clear hs; try clear g0; try clear g1; try clear g2; try clear g3; have hx := nx; clear nx; have hs := ns; clear ns; have g0 := n0; clear n0; have g1 := n1; clear n1; have g2 := n2; clear n2; have g3 := n3; clear n3)
  go_ret2
  exact ⟨rfl, Ext.auK⟩

set_option maxHeartbeats 1600000 in
theorem iIsMidpoint_yes (e f n d : Int) (hg : asB e f n d = true) (w : World) (hT : TW w) : Calls Tryd.prog 37 #[fmt e f, two n d] w fun rv w' => rv = .returned (.tuple #[.bool (miB e f (n.natAbs : Int) (d - unV e f)), .bool true]) ∧ Ext w w' := by
  obtain ⟨g0, g1⟩ := as_iff.1 hg
  have q := fun a b => eqDy a b n d
  go_enter Tryd.func37, Tryd.ntmps37
  go_wp2_with fail
  go_at_call 80; refine (iBoundsOf_yes e f n d hg _).mono ?_; rintro rv w1 ⟨s, s2, rfl, hq, _, hb⟩; have HM := Lib.hid (mid_imp g0 g1 hq); clear hq; have ns : w.heap.size + 1 < w1.heap.size := hb.ltK; have n0 : w1.cell? ⟨w.heap.size, 0, none⟩ = some (.int .i64 e) := hb.cellK; have n1 : w1.cell? ⟨w.heap.size, 1, none⟩ = some (.int .i64 f) := hb.cellK; have n2 : w1.cell? ⟨w.heap.size + 1, 0, none⟩ = some (.int .i64 n) := hb.cellK; have n3 : w1.cell? ⟨w.heap.size + 1, 1, none⟩ = some (.int .i64 d) := hb.cellK; (first | (have nx := Ext.trans hx hb; clear hx) | (have nx := Ext.trans (hx.alloc _) hb; clear hx) | (have nx := Ext.trans hx.drew hb; clear hx) | have nx := hb); clear hb; try clear hs; try clear g0; try clear g1; try clear g2; try clear g3; have hx := nx; clear nx; have hs := ns; clear ns; have g0 := n0; clear n0; have g1 := n1; clear n1; have g2 := n2; clear n2; have g3 := n3; clear n3
  cases hmd : mdB e f (sgP e f n s)
  · have HV := Lib.hid (HM.out.2 hmd)
    go_wp2_with (go_at_call 35; refine (iMidpointOf_no e f (sgP e f n s) hmd _).mono ?_; rintro rv w1 ⟨rfl, hb⟩; have ns : w.heap.size + 1 < w1.heap.size := hb.ltK; have n0 : w1.cell? ⟨w.heap.size, 0, none⟩ = some (.int .i64 e) := hb.cellK; have n1 : w1.cell? ⟨w.heap.size, 1, none⟩ = some (.int .i64 f) := hb.cellK; have n2 : w1.cell? ⟨w.heap.size + 1, 0, none⟩ = some (.int .i64 n) := hb.cellK; have n3 : w1.cell? ⟨w.heap.size + 1, 1, none⟩ = some (.int .i64 d) := hb.cellK; (first | (have nx := Ext.trans hx hb; clear hx) | (have nx := Ext.trans (hx.alloc _) hb; clear hx) | (have nx := Ext.trans hx.drew hb; clear hx) | have nx := hb); clear hb; try clear hs; try clear g0; try clear g1; try clear g2; try clear g3; have hx := nx; clear nx; have hs := ns; clear ns; have g0 := n0; clear n0; have g1 := n1; clear n1; have g2 := n2; clear n2; have g3 := n3; clear n3)
    try go_quiet (fail)
    all_goals go_wp2_with fail
    all_goals go_ret2
    all_goals exact ⟨by rw [HV.out]; rfl, Ext.auK⟩
  · have HV := Lib.hid (HM.out.1 hmd)
    go_wp2_with (go_at_call 35; refine (iMidpointOf_yes e f (sgP e f n s) hmd _ (hT.ext Ext.auK)).mono ?_; rintro rv w1 ⟨rfl, hb⟩; have ns : w.heap.size + 1 < w1.heap.size := hb.ltK; have n0 : w1.cell? ⟨w.heap.size, 0, none⟩ = some (.int .i64 e) := hb.cellK; have n1 : w1.cell? ⟨w.heap.size, 1, none⟩ = some (.int .i64 f) := hb.cellK; have n2 : w1.cell? ⟨w.heap.size + 1, 0, none⟩ = some (.int .i64 n) := hb.cellK; have n3 : w1.cell? ⟨w.heap.size + 1, 1, none⟩ = some (.int .i64 d) := hb.cellK; (first | (have nx := Ext.trans hx hb; clear hx) | (have nx := Ext.trans (hx.alloc _) hb; clear hx) | (have nx := Ext.trans hx.drew hb; clear hx) | have nx := hb); clear hb; try clear hs; try clear g0; try clear g1; try clear g2; try clear g3; have hx := nx; clear nx; have hs := ns; clear ns; have g0 := n0; clear n0; have g1 := n1; clear n1; have g2 := n2; clear n2; have g3 := n3; clear n3)
    try go_quiet (fail)
    all_goals go_wp2_with fail
    all_goals go_ret2
    all_goals exact ⟨by rw [HV.out]; rfl, Ext.auK⟩
end Go.Proofs.YtcbkhlaiefiieabDoor

namespace Go.Proofs.YtcbkhlaiefiieabDoor
open Go Go.RowKit
set_option linter.unusedSimpArgs false
set_option linter.unusedVariables false

/-- The error: of a value that is finite. -/
def EOout (e f n d m : Int) (w : World) (rv : Ending) (w' : World) : Prop := ∃ s : Int, RndD e f (n.natAbs : Int) (d - unV e f) m (decide (n < 0)) s ∧ ((s ≤ grV e f ∧ rv = .returned (.tuple #[two ((suN (odV (vsV n (mgV f s))) (shE (vsV n (mgV f s)) (unV e f)) (-n) d)) ((suE (odV (vsV n (mgV f s))) (shE (vsV n (mgV f s)) (unV e f)) (-n) d)), .bool (suB (odV (vsV n (mgV f s))) (shE (vsV n (mgV f s)) (unV e f)) (-n) d)])) ∨ (¬ s ≤ grV e f ∧ rv = .returned (.tuple #[two 0 0, .bool false]))) ∧ Ext w w'

theorem rnd_gr {e f N k m s : Int} {neg : Bool} (hg : goodB e f = true) (h : RndD e f N k m neg s) : 0 ≤ s ∧ s ≤ grV e f + 1 := by
  obtain ⟨p, ⟨p0, p1, _, _⟩, rfl⟩ := h
  unfold rndP
  split
  · omega
  · split <;> omega

theorem inf_sg {e f n s : Int} (hg : goodB e f = true) (h : s = grV e f + 1) : patB e f (sgP e f n s) = true ∧ finB e f (sgP e f n s) = false := by
  obtain ⟨gg0, gg1, gg2⟩ := gr_bd2 hg
  have hx := (gr_x hg).1
  have hs : s = (pw e - 1) * pw f := by unfold grV at h; omega
  obtain ⟨h1, h2, h3, h4⟩ := good_iff.1 hg
  obtain ⟨⟨a1, a2⟩, ⟨b1, b2⟩, ⟨c1, c2⟩, hmul⟩ := pw_facts h1 h2 h3 h4
  have hlt : s < pw (e + f) := by
    rw [hs, hmul, Int.sub_mul]; omega
  have hp : patB e f (sgP e f n s) = true := by
    unfold sgP
    split
    · exact pat_iff.2 ⟨hg, by omega, by omega⟩
    · exact pat_iff.2 ⟨hg, by omega, by omega⟩
  have hm : sgP e f n s % pw (e + f) = s := by
    unfold sgP
    split
    · rw [Int.add_emod_left]; exact Int.emod_eq_of_lt (by omega) hlt
    · exact Int.emod_eq_of_lt (by omega) hlt
  refine ⟨hp, ?_⟩
  have hq : (pw e - 1) * pw f / pw f = pw e - 1 := Int.mul_ediv_cancel _ (by omega)
  unfold finB
  rw [hp, hm, Bool.true_and, decide_eq_false_iff_not, hs, hq]
  omega

theorem iErrorOf_no (e f n d m : Int) (hg : rqB e f n d m = false) (w : World) : Calls Tryd.prog 39 #[fmt e f, two n d, .int .i64 m] w fun rv w' => rv = .returned (.tuple #[two 0 0, .bool false]) ∧ Ext w w' := by
  go_enter Tryd.func39, Tryd.ntmps39
  go_wp2_with (go_at_call 75; refine (iRoundDyadic_no e f n d m hg _).mono ?_; rintro rv w1 ⟨rfl, hb⟩; have ns : w.heap.size + 2 < w1.heap.size := hb.ltK; have n0 : w1.cell? ⟨w.heap.size, 0, none⟩ = some (.int .i64 e) := hb.cellK; have n1 : w1.cell? ⟨w.heap.size, 1, none⟩ = some (.int .i64 f) := hb.cellK; have n2 : w1.cell? ⟨w.heap.size + 1, 0, none⟩ = some (.int .i64 n) := hb.cellK; have n3 : w1.cell? ⟨w.heap.size + 1, 1, none⟩ = some (.int .i64 d) := hb.cellK; have n4 : w1.cell? ⟨w.heap.size + 2, 0, none⟩ = some (.int .i64 0) := hb.cellK; have n5 : w1.cell? ⟨w.heap.size + 2, 1, none⟩ = some (.int .i64 0) := hb.cellK; have nz0 : w1.frozen? ⟨w.heap.size + 2, 0, none⟩ = false := hb.frzK; have nz1 : w1.frozen? ⟨w.heap.size + 2, 1, none⟩ = false := hb.frzK; (first | (have nx := Ext.trans hx hb; clear hx) | (have nx := Ext.trans (hx.alloc _) hb; clear hx) | (have nx := Ext.trans hx.drew hb; clear hx) | have nx := hb); clear hb; try clear hs; try clear g0; try clear g1; try clear g2; try clear g3; try clear g4; try clear g5; try clear z0; try clear z1; have hx := nx; clear nx; have hs := ns; clear ns; have g0 := n0; clear n0; have g1 := n1; clear n1; have g2 := n2; clear n2; have g3 := n3; clear n3; have g4 := n4; clear n4; have g5 := n5; clear n5; have z0 := nz0; clear nz0; have z1 := nz1; clear nz1)
  exact bodyPost_ret (v := .tuple #[two 0 0, .bool false]) (by simp [results, Tryd.results39, go_sem, *]) rfl ⟨rfl, Ext.auK⟩

set_option maxHeartbeats 1600000 in
theorem iErrorOf_yes (e f n d m : Int) (hg : rqB e f n d m = true) (w : World) (hT : TW w) : Calls Tryd.prog 39 #[fmt e f, two n d, .int .i64 m] w (EOout e f n d m w) := by
  obtain ⟨⟨g0, g1⟩, m0, m1⟩ := rq_iff.1 hg
  obtain ⟨⟨d1, d2, d3, d4⟩, d5⟩ := dy_iff.1 g1
  obtain ⟨u1, u2, u3, u4⟩ := un_bd g0
  have kn : IntKind.i64.wrap (-n) = -n := IntWalk.i64_in _ (by omega)
  have gd : dyB (-n) d = true := dy_iff.2 ⟨⟨by omega, by omega, d3, d4⟩, by omega⟩
  have q := buildDy (-n) d
  go_enter Tryd.func39, Tryd.ntmps39
  go_wp2_with fail
  go_at_call 75; refine (iRoundDyadic_yes e f n d m hg _).mono ?_; rintro rv w1 ⟨s, rfl, hq, hb⟩; have HQ := Lib.hid hq; clear hq; have ns : w.heap.size + 2 < w1.heap.size := hb.ltK; have n0 : w1.cell? ⟨w.heap.size, 0, none⟩ = some (.int .i64 e) := hb.cellK; have n1 : w1.cell? ⟨w.heap.size, 1, none⟩ = some (.int .i64 f) := hb.cellK; have n2 : w1.cell? ⟨w.heap.size + 1, 0, none⟩ = some (.int .i64 n) := hb.cellK; have n3 : w1.cell? ⟨w.heap.size + 1, 1, none⟩ = some (.int .i64 d) := hb.cellK; have n4 : w1.cell? ⟨w.heap.size + 2, 0, none⟩ = some (.int .i64 0) := hb.cellK; have n5 : w1.cell? ⟨w.heap.size + 2, 1, none⟩ = some (.int .i64 0) := hb.cellK; have nz0 : w1.frozen? ⟨w.heap.size + 2, 0, none⟩ = false := hb.frzK; have nz1 : w1.frozen? ⟨w.heap.size + 2, 1, none⟩ = false := hb.frzK; (first | (have nx := Ext.trans hx hb; clear hx) | (have nx := Ext.trans (hx.alloc _) hb; clear hx) | (have nx := Ext.trans hx.drew hb; clear hx) | have nx := hb); clear hb; try clear hs; try clear g0; try clear g1; try clear g2; try clear g3; try clear g4; try clear g5; try clear z0; try clear z1; have hx := nx; clear nx; have hs := ns; clear ns; have g0 := n0; clear n0; have g1 := n1; clear n1; have g2 := n2; clear n2; have g3 := n3; clear n3; have g4 := n4; clear n4; have g5 := n5; clear n5; have z0 := nz0; clear nz0; have z1 := nz1; clear nz1
  obtain ⟨s0, s1⟩ := rnd_gr g0 HQ.out
  by_cases hs3 : s ≤ grV e f
  · obtain ⟨mm0, mm1⟩ := mg_bd g0 s0 hs3
    have vb : -2199023255552 < vsV n (mgV f s) ∧ vsV n (mgV f s) < 2199023255552 := by unfold vsV; split <;> omega
    have PC := Lib.hid (fun w hT => iPlusDyadic_yes (odV (vsV n (mgV f s))) (shE (vsV n (mgV f s)) (unV e f)) (-n) d (dy2_iff.2 ⟨dy_low (by omega) (by omega) (by omega) (by omega), gd⟩) w hT)
    clear d5
    go_wp2_with (first | (go_at_call 22; refine (ival_sg e f n s g0 s0 hs3 _ (hT.ext Ext.auK)).mono ?_; rintro rv w1 ⟨rfl, hb⟩; have hz0 : w.heap.size < w1.heap.size := hb.lt (by omega); have hz1 : w.heap.size + 1 < w1.heap.size := hb.lt (by omega); have ns : w.heap.size + 2 < w1.heap.size := hb.ltK; have n0 : w1.cell? ⟨w.heap.size, 0, none⟩ = some (.int .i64 e) := hb.cellK; have n1 : w1.cell? ⟨w.heap.size, 1, none⟩ = some (.int .i64 f) := hb.cellK; have n2 : w1.cell? ⟨w.heap.size + 1, 0, none⟩ = some (.int .i64 n) := hb.cellK; have n3 : w1.cell? ⟨w.heap.size + 1, 1, none⟩ = some (.int .i64 d) := hb.cellK; have n4 : w1.cell? ⟨w.heap.size + 2, 0, none⟩ = some (.int .i64 0) := hb.cellK; have n5 : w1.cell? ⟨w.heap.size + 2, 1, none⟩ = some (.int .i64 0) := hb.cellK; have nz0 : w1.frozen? ⟨w.heap.size + 2, 0, none⟩ = false := hb.frzK; have nz1 : w1.frozen? ⟨w.heap.size + 2, 1, none⟩ = false := hb.frzK; (first | (have nx := Ext.trans hx hb; clear hx) | (have nx := Ext.trans (hx.alloc _) hb; clear hx) | (have nx := Ext.trans hx.drew hb; clear hx) | have nx := hb); clear hb; try clear hs; try clear g0; try clear g1; try clear g2; try clear g3; try clear g4; try clear g5; try clear z0; try clear z1; have hx := nx; clear nx; have hs := ns; clear ns; have g0 := n0; clear n0; have g1 := n1; clear n1; have g2 := n2; clear n2; have g3 := n3; clear n3; have g4 := n4; clear n4; have g5 := n5; clear n5; have z0 := nz0; clear nz0; have z1 := nz1; clear nz1) | (go_at_call 27; refine (PC.out _ (hT.ext Ext.auK)).mono ?_; rintro rv w1 ⟨rfl, hb⟩; have ns : w.heap.size + 2 < w1.heap.size := hb.ltK; have n0 : w1.cell? ⟨w.heap.size, 0, none⟩ = some (.int .i64 e) := hb.cellK; have n1 : w1.cell? ⟨w.heap.size, 1, none⟩ = some (.int .i64 f) := hb.cellK; have n2 : w1.cell? ⟨w.heap.size + 1, 0, none⟩ = some (.int .i64 n) := hb.cellK; have n3 : w1.cell? ⟨w.heap.size + 1, 1, none⟩ = some (.int .i64 d) := hb.cellK; have n4 : w1.cell? ⟨w.heap.size + 2, 0, none⟩ = some (.int .i64 0) := hb.cellK; have n5 : w1.cell? ⟨w.heap.size + 2, 1, none⟩ = some (.int .i64 0) := hb.cellK; have nz0 : w1.frozen? ⟨w.heap.size + 2, 0, none⟩ = false := (hb.frz _ _ (by first | with_reducible assumption | omega | (simp; done) | (simp; omega))).trans (by first | with_reducible assumption | (rw [frozen?_alloc_cells]; with_reducible assumption) | (simp [go_sem]; done) | (simp [go_sem]; with_reducible assumption)); have nz1 : w1.frozen? ⟨w.heap.size + 2, 1, none⟩ = false := (hb.frz _ _ (by first | with_reducible assumption | omega | (simp; done) | (simp; omega))).trans (by first | with_reducible assumption | (rw [frozen?_alloc_cells]; with_reducible assumption) | (simp [go_sem]; done) | (simp [go_sem]; with_reducible assumption)); (first | (have nx := Ext.trans hx hb; clear hx) | (have nx := Ext.trans (hx.alloc _) hb; clear hx) | (have nx := Ext.trans hx.drew hb; clear hx) | have nx := hb); clear hb; try clear hs; try clear g0; try clear g1; try clear g2; try clear g3; try clear g4; try clear g5; try clear z0; try clear z1; have hx := nx; clear nx; have hs := ns; clear ns; have g0 := n0; clear n0; have g1 := n1; clear n1; have g2 := n2; clear n2; have g3 := n3; clear n3; have g4 := n4; clear n4; have g5 := n5; clear n5; have z0 := nz0; clear nz0; have z1 := nz1; clear nz1))
    exact bodyPost_ret (v := .tuple #[two ((suN (odV (vsV n (mgV f s))) (shE (vsV n (mgV f s)) (unV e f)) (-n) d)) ((suE (odV (vsV n (mgV f s))) (shE (vsV n (mgV f s)) (unV e f)) (-n) d)), .bool (suB (odV (vsV n (mgV f s))) (shE (vsV n (mgV f s)) (unV e f)) (-n) d)]) (by simp [results, Tryd.results39, go_sem, *]) rfl ⟨s, HQ.out, .inl ⟨hs3, rfl⟩, Ext.auK⟩
  · have VC := Lib.hid (fun w => iValueOf_no e f (sgP e f n s) (inf_sg (n := n) g0 (by omega)).2 w)
    clear d5
    go_wp2_with (go_at_call 22; refine (VC.out _).mono ?_; rintro rv w1 ⟨rfl, hb⟩; have ns : w.heap.size + 2 < w1.heap.size := hb.ltK; have n0 : w1.cell? ⟨w.heap.size, 0, none⟩ = some (.int .i64 e) := hb.cellK; have n1 : w1.cell? ⟨w.heap.size, 1, none⟩ = some (.int .i64 f) := hb.cellK; have n2 : w1.cell? ⟨w.heap.size + 1, 0, none⟩ = some (.int .i64 n) := hb.cellK; have n3 : w1.cell? ⟨w.heap.size + 1, 1, none⟩ = some (.int .i64 d) := hb.cellK; have n4 : w1.cell? ⟨w.heap.size + 2, 0, none⟩ = some (.int .i64 0) := hb.cellK; have n5 : w1.cell? ⟨w.heap.size + 2, 1, none⟩ = some (.int .i64 0) := hb.cellK; have nz0 : w1.frozen? ⟨w.heap.size + 2, 0, none⟩ = false := hb.frzK; have nz1 : w1.frozen? ⟨w.heap.size + 2, 1, none⟩ = false := hb.frzK; (first | (have nx := Ext.trans hx hb; clear hx) | (have nx := Ext.trans (hx.alloc _) hb; clear hx) | (have nx := Ext.trans hx.drew hb; clear hx) | have nx := hb); clear hb; try clear hs; try clear g0; try clear g1; try clear g2; try clear g3; try clear g4; try clear g5; try clear z0; try clear z1; have hx := nx; clear nx; have hs := ns; clear ns; have g0 := n0; clear n0; have g1 := n1; clear n1; have g2 := n2; clear n2; have g3 := n3; clear n3; have g4 := n4; clear n4; have g5 := n5; clear n5; have z0 := nz0; clear nz0; have z1 := nz1; clear nz1)
    exact bodyPost_ret (v := .tuple #[two 0 0, .bool false]) (by simp [results, Tryd.results39, go_sem, *]) rfl ⟨s, HQ.out, .inr ⟨by omega, rfl⟩, Ext.auK⟩

theorem sErrorOf_no (e f n d m : Int) (hg : rqB e f n d m = false) (w : World) : Calls Tryd.prog 38 #[fmt e f, two n d, .int .i64 m] w fun rv w' => rv = .returned (.tuple #[two 0 0, .bool false]) ∧ Ext w w' := by
  cases h0 : asB e f n d
  · go_enter Tryd.func38, Tryd.ntmps38
    go_wp2_with (go_at_call 67; refine (rdAsked_any e f n d _).mono ?_; rintro rv w1 ⟨rfl, hb⟩; have ns : w.heap.size + 2 < w1.heap.size := hb.ltK; have n0 : w1.cell? ⟨w.heap.size, 0, none⟩ = some (.int .i64 e) := hb.cellK; have n1 : w1.cell? ⟨w.heap.size, 1, none⟩ = some (.int .i64 f) := hb.cellK; have n2 : w1.cell? ⟨w.heap.size + 1, 0, none⟩ = some (.int .i64 n) := hb.cellK; have n3 : w1.cell? ⟨w.heap.size + 1, 1, none⟩ = some (.int .i64 d) := hb.cellK; have n4 : w1.cell? ⟨w.heap.size + 2, 0, none⟩ = some (.int .i64 0) := hb.cellK; have n5 : w1.cell? ⟨w.heap.size + 2, 1, none⟩ = some (.int .i64 0) := hb.cellK; have nz0 : w1.frozen? ⟨w.heap.size + 2, 0, none⟩ = false := hb.frzK; have nz1 : w1.frozen? ⟨w.heap.size + 2, 1, none⟩ = false := hb.frzK; (first | (have nx := Ext.trans hx hb; clear hx) | (have nx := Ext.trans (hx.alloc _) hb; clear hx) | (have nx := Ext.trans hx.drew hb; clear hx) | have nx := hb); clear hb; try clear hs; try clear g0; try clear g1; try clear g2; try clear g3; try clear g4; try clear g5; try clear z0; try clear z1; have hx := nx; clear nx; have hs := ns; clear ns; have g0 := n0; clear n0; have g1 := n1; clear n1; have g2 := n2; clear n2; have g3 := n3; clear n3; have g4 := n4; clear n4; have g5 := n5; clear n5; have z0 := nz0; clear nz0; have z1 := nz1; clear nz1)
    exact bodyPost_ret (v := .tuple #[two 0 0, .bool false]) (by simp [results, Tryd.results38, go_sem, *]) rfl ⟨rfl, Ext.auK⟩
  · have h1 : moB m = false := by unfold rqB at hg; rw [h0] at hg; simpa using hg
    go_enter Tryd.func38, Tryd.ntmps38
    go_wp2_with (first | (go_at_call 67; refine (rdAsked_any e f n d _).mono ?_; rintro rv w1 ⟨rfl, hb⟩; have ns : w.heap.size + 2 < w1.heap.size := hb.ltK; have n0 : w1.cell? ⟨w.heap.size, 0, none⟩ = some (.int .i64 e) := hb.cellK; have n1 : w1.cell? ⟨w.heap.size, 1, none⟩ = some (.int .i64 f) := hb.cellK; have n2 : w1.cell? ⟨w.heap.size + 1, 0, none⟩ = some (.int .i64 n) := hb.cellK; have n3 : w1.cell? ⟨w.heap.size + 1, 1, none⟩ = some (.int .i64 d) := hb.cellK; have n4 : w1.cell? ⟨w.heap.size + 2, 0, none⟩ = some (.int .i64 0) := hb.cellK; have n5 : w1.cell? ⟨w.heap.size + 2, 1, none⟩ = some (.int .i64 0) := hb.cellK; have nz0 : w1.frozen? ⟨w.heap.size + 2, 0, none⟩ = false := hb.frzK; have nz1 : w1.frozen? ⟨w.heap.size + 2, 1, none⟩ = false := hb.frzK; (first | (have nx := Ext.trans hx hb; clear hx) | (have nx := Ext.trans (hx.alloc _) hb; clear hx) | (have nx := Ext.trans hx.drew hb; clear hx) | have nx := hb); clear hb; try clear hs; try clear g0; try clear g1; try clear g2; try clear g3; try clear g4; try clear g5; try clear z0; try clear z1; have hx := nx; clear nx; have hs := ns; clear ns; have g0 := n0; clear n0; have g1 := n1; clear n1; have g2 := n2; clear n2; have g3 := n3; clear n3; have g4 := n4; clear n4; have g5 := n5; clear n5; have z0 := nz0; clear nz0; have z1 := nz1; clear nz1) | (go_at_call 81; refine (rdMode_any _ _).mono ?_; rintro rv w1 ⟨rfl, rfl⟩))
    exact bodyPost_ret (v := .tuple #[two 0 0, .bool false]) (by simp [results, Tryd.results38, go_sem, *]) rfl ⟨rfl, Ext.auK⟩

set_option maxHeartbeats 3200000 in
theorem sErrorOf_yes (e f n d m : Int) (hg : rqB e f n d m = true) (w : World) : Calls Tryd.prog 38 #[fmt e f, two n d, .int .i64 m] w (EOout e f n d m w) := by
  obtain ⟨⟨g0, g1⟩, m0, m1⟩ := rq_iff.1 hg
  have h0 : asB e f n d = true := as_iff.2 ⟨g0, g1⟩
  have h1 : moB m = true := mo_iff.2 ⟨m0, m1⟩
  obtain ⟨⟨d1, d2, d3, d4⟩, d5⟩ := dy_iff.1 g1
  obtain ⟨u1, u2, u3, u4⟩ := un_bd g0
  have gd : dyB (-n) d = true := dy_iff.2 ⟨⟨by omega, by omega, d3, d4⟩, by omega⟩
  go_enter Tryd.func38, Tryd.ntmps38
  go_wp2_with (first | (go_at_call 67; refine (rdAsked_any e f n d _).mono ?_; rintro rv w1 ⟨rfl, hb⟩; have ns : w.heap.size + 2 < w1.heap.size := hb.ltK; have n0 : w1.cell? ⟨w.heap.size, 0, none⟩ = some (.int .i64 e) := hb.cellK; have n1 : w1.cell? ⟨w.heap.size, 1, none⟩ = some (.int .i64 f) := hb.cellK; have n2 : w1.cell? ⟨w.heap.size + 1, 0, none⟩ = some (.int .i64 n) := hb.cellK; have n3 : w1.cell? ⟨w.heap.size + 1, 1, none⟩ = some (.int .i64 d) := hb.cellK; have n4 : w1.cell? ⟨w.heap.size + 2, 0, none⟩ = some (.int .i64 0) := hb.cellK; have n5 : w1.cell? ⟨w.heap.size + 2, 1, none⟩ = some (.int .i64 0) := hb.cellK; have nz0 : w1.frozen? ⟨w.heap.size + 2, 0, none⟩ = false := hb.frzK; have nz1 : w1.frozen? ⟨w.heap.size + 2, 1, none⟩ = false := hb.frzK; (first | (have nx := Ext.trans hx hb; clear hx) | (have nx := Ext.trans (hx.alloc _) hb; clear hx) | (have nx := Ext.trans hx.drew hb; clear hx) | have nx := hb); clear hb; try clear hs; try clear g0; try clear g1; try clear g2; try clear g3; try clear g4; try clear g5; try clear z0; try clear z1; have hx := nx; clear nx; have hs := ns; clear ns; have g0 := n0; clear n0; have g1 := n1; clear n1; have g2 := n2; clear n2; have g3 := n3; clear n3; have g4 := n4; clear n4; have g5 := n5; clear n5; have z0 := nz0; clear nz0; have z1 := nz1; clear nz1) | (go_at_call 81; refine (rdMode_any _ _).mono ?_; rintro rv w1 ⟨rfl, rfl⟩))
  go_at_call 82; refine (rdRound_any e f n d m g0 (rd_dy g0 g1) m0 m1 _).mono ?_; rintro rv w1 ⟨s, rfl, hq, hb⟩; have HQ := Lib.hid hq; clear hq; have ns : w.heap.size + 2 < w1.heap.size := hb.ltK; have n0 : w1.cell? ⟨w.heap.size, 0, none⟩ = some (.int .i64 e) := hb.cellK; have n1 : w1.cell? ⟨w.heap.size, 1, none⟩ = some (.int .i64 f) := hb.cellK; have n2 : w1.cell? ⟨w.heap.size + 1, 0, none⟩ = some (.int .i64 n) := hb.cellK; have n3 : w1.cell? ⟨w.heap.size + 1, 1, none⟩ = some (.int .i64 d) := hb.cellK; have n4 : w1.cell? ⟨w.heap.size + 2, 0, none⟩ = some (.int .i64 0) := hb.cellK; have n5 : w1.cell? ⟨w.heap.size + 2, 1, none⟩ = some (.int .i64 0) := hb.cellK; have nz0 : w1.frozen? ⟨w.heap.size + 2, 0, none⟩ = false := hb.frzK; have nz1 : w1.frozen? ⟨w.heap.size + 2, 1, none⟩ = false := hb.frzK; (first | (have nx := Ext.trans hx hb; clear hx) | (have nx := Ext.trans (hx.alloc _) hb; clear hx) | (have nx := Ext.trans hx.drew hb; clear hx) | have nx := hb); clear hb; try clear hs; try clear g0; try clear g1; try clear g2; try clear g3; try clear g4; try clear g5; try clear z0; try clear z1; have hx := nx; clear nx; have hs := ns; clear ns; have g0 := n0; clear n0; have g1 := n1; clear n1; have g2 := n2; clear n2; have g3 := n3; clear n3; have g4 := n4; clear n4; have g5 := n5; clear n5; have z0 := nz0; clear nz0; have z1 := nz1; clear nz1
  obtain ⟨s0, s1⟩ := rnd_gr g0 HQ.out
  by_cases hs3 : s ≤ grV e f
  · obtain ⟨mm0, mm1⟩ := mg_bd g0 s0 hs3
    have vb : -2199023255552 < vsV n (mgV f s) ∧ vsV n (mgV f s) < 2199023255552 := by unfold vsV; split <;> omega
    have PC := Lib.hid (fun w => rdPlus_any (odV (vsV n (mgV f s))) (shE (vsV n (mgV f s)) (unV e f)) (-n) d (dy_low (by omega) (by omega) (by omega) (by omega)) gd w)
    have hf := fin_sg (n := n) g0 s0 hs3
    have hk := (kind_lt e f (sgP e f n s) (fin_pat hf).1).1
    rw [hf] at hk
    have hk2 : kindV e f (sgP e f n s) ≤ 2 := by have := of_decide_eq_true hk; omega
    have KC := Lib.hid (fun w => fmKind_any e f (sgP e f n s) (fin_pat hf).1 w)
    have VC := Lib.hid (fun w => by have := rdValue_any e f (sgP e f n s) hf w; rw [units_sg g0 s0 hs3] at this; exact this)
    have NC := Lib.hid (fun w => rdNegate_any n d (by omega) (by omega) w)
    clear d5 hk hf vb mm0 mm1
    go_wp2_with (go_at_call 83; refine (KC.out _).mono ?_; rintro rv w1 ⟨rfl, hb⟩; have ns : w.heap.size + 2 < w1.heap.size := hb.ltK; have n0 : w1.cell? ⟨w.heap.size, 0, none⟩ = some (.int .i64 e) := hb.cellK; have n1 : w1.cell? ⟨w.heap.size, 1, none⟩ = some (.int .i64 f) := hb.cellK; have n2 : w1.cell? ⟨w.heap.size + 1, 0, none⟩ = some (.int .i64 n) := hb.cellK; have n3 : w1.cell? ⟨w.heap.size + 1, 1, none⟩ = some (.int .i64 d) := hb.cellK; have n4 : w1.cell? ⟨w.heap.size + 2, 0, none⟩ = some (.int .i64 0) := hb.cellK; have n5 : w1.cell? ⟨w.heap.size + 2, 1, none⟩ = some (.int .i64 0) := hb.cellK; have nz0 : w1.frozen? ⟨w.heap.size + 2, 0, none⟩ = false := hb.frzK; have nz1 : w1.frozen? ⟨w.heap.size + 2, 1, none⟩ = false := hb.frzK; (first | (have nx := Ext.trans hx hb; clear hx) | (have nx := Ext.trans (hx.alloc _) hb; clear hx) | (have nx := Ext.trans hx.drew hb; clear hx) | have nx := hb); clear hb; try clear hs; try clear g0; try clear g1; try clear g2; try clear g3; try clear g4; try clear g5; try clear z0; try clear z1; have hx := nx; clear nx; have hs := ns; clear ns; have g0 := n0; clear n0; have g1 := n1; clear n1; have g2 := n2; clear n2; have g3 := n3; clear n3; have g4 := n4; clear n4; have g5 := n5; clear n5; have z0 := nz0; clear nz0; have z1 := nz1; clear nz1)
    go_region_held3 (fun w' => w'.cell? ⟨w.heap.size, 0, none⟩ = some (.int .i64 e) ∧ w'.cell? ⟨w.heap.size, 1, none⟩ = some (.int .i64 f) ∧ w'.cell? ⟨w.heap.size + 1, 0, none⟩ = some (.int .i64 n) ∧ w'.cell? ⟨w.heap.size + 1, 1, none⟩ = some (.int .i64 d) ∧ w.heap.size + 2 < w'.heap.size) ((refine ⟨?_, ?_, ?_, ?_, ?_⟩ <;> first | with_reducible assumption | ((repeat first | rw [cell_set_far _ _ _ _ _ _ (by omega)] | rw [cell_alloc_before _ _ _ _ (by omega)] | rw [cell_alloc_drew _ _ _ _ (by omega)] | rw [cell_drew]); with_reducible assumption) | ((rw [cell_setRow_far _ _ _ _ _ (by omega)]); with_reducible assumption) | ((rw [setRow_size]); with_reducible assumption) | (simp; done) | (simp [World.setCell]; first | done | omega) | (simp [go_sem, World.cell?_alloc_past, World.cell?_setCell_far, *]; done))) ((first | (go_at_call 55; refine (VC.out _).mono ?_; rintro rv w1 ⟨rfl, hb⟩; have ns : w.heap.size + 2 < w1.heap.size := hb.ltK; have n0 : w1.cell? ⟨w.heap.size, 0, none⟩ = some (.int .i64 e) := hb.cellK; have n1 : w1.cell? ⟨w.heap.size, 1, none⟩ = some (.int .i64 f) := hb.cellK; have n2 : w1.cell? ⟨w.heap.size + 1, 0, none⟩ = some (.int .i64 n) := hb.cellK; have n3 : w1.cell? ⟨w.heap.size + 1, 1, none⟩ = some (.int .i64 d) := hb.cellK; have n4 : w1.cell? ⟨w.heap.size + 2, 0, none⟩ = some (.int .i64 0) := hb.cellK; have n5 : w1.cell? ⟨w.heap.size + 2, 1, none⟩ = some (.int .i64 0) := hb.cellK; have nz0 : w1.frozen? ⟨w.heap.size + 2, 0, none⟩ = false := hb.frzK; have nz1 : w1.frozen? ⟨w.heap.size + 2, 1, none⟩ = false := hb.frzK; (first | (have nx := Ext.trans hx hb; clear hx) | (have nx := Ext.trans (hx.alloc _) hb; clear hx) | (have nx := Ext.trans hx.drew hb; clear hx) | have nx := hb); clear hb; try clear hs; try clear g0; try clear g1; try clear g2; try clear g3; try clear g4; try clear g5; try clear z0; try clear z1; have hx := nx; clear nx; have hs := ns; clear ns; have g0 := n0; clear n0; have g1 := n1; clear n1; have g2 := n2; clear n2; have g3 := n3; clear n3; have g4 := n4; clear n4; have g5 := n5; clear n5; have z0 := nz0; clear nz0; have z1 := nz1; clear nz1) | (go_at_call 84; refine (NC.out _).mono ?_; rintro rv w1 ⟨rfl, hb⟩; have ns : w.heap.size + 2 < w1.heap.size := hb.ltK; have n0 : w1.cell? ⟨w.heap.size, 0, none⟩ = some (.int .i64 e) := hb.cellK; have n1 : w1.cell? ⟨w.heap.size, 1, none⟩ = some (.int .i64 f) := hb.cellK; have n2 : w1.cell? ⟨w.heap.size + 1, 0, none⟩ = some (.int .i64 n) := hb.cellK; have n3 : w1.cell? ⟨w.heap.size + 1, 1, none⟩ = some (.int .i64 d) := hb.cellK; have n4 : w1.cell? ⟨w.heap.size + 2, 0, none⟩ = some (.int .i64 0) := hb.cellK; have n5 : w1.cell? ⟨w.heap.size + 2, 1, none⟩ = some (.int .i64 0) := hb.cellK; have nz0 : w1.frozen? ⟨w.heap.size + 2, 0, none⟩ = false := hb.frzK; have nz1 : w1.frozen? ⟨w.heap.size + 2, 1, none⟩ = false := hb.frzK; (first | (have nx := Ext.trans hx hb; clear hx) | (have nx := Ext.trans (hx.alloc _) hb; clear hx) | (have nx := Ext.trans hx.drew hb; clear hx) | have nx := hb); clear hb; try clear hs; try clear g0; try clear g1; try clear g2; try clear g3; try clear g4; try clear g5; try clear z0; try clear z1; have hx := nx; clear nx; have hs := ns; clear ns; have g0 := n0; clear n0; have g1 := n1; clear n1; have g2 := n2; clear n2; have g3 := n3; clear n3; have g4 := n4; clear n4; have g5 := n5; clear n5; have z0 := nz0; clear nz0; have z1 := nz1; clear nz1) | (go_at_call 62; refine (PC.out _).mono ?_; rintro rv w1 ⟨rfl, hb⟩; have ns : w.heap.size + 2 < w1.heap.size := hb.ltK; have n0 : w1.cell? ⟨w.heap.size, 0, none⟩ = some (.int .i64 e) := hb.cellK; have n1 : w1.cell? ⟨w.heap.size, 1, none⟩ = some (.int .i64 f) := hb.cellK; have n2 : w1.cell? ⟨w.heap.size + 1, 0, none⟩ = some (.int .i64 n) := hb.cellK; have n3 : w1.cell? ⟨w.heap.size + 1, 1, none⟩ = some (.int .i64 d) := hb.cellK; have n4 : w1.cell? ⟨w.heap.size + 2, 0, none⟩ = some (.int .i64 0) := hb.cellK; have n5 : w1.cell? ⟨w.heap.size + 2, 1, none⟩ = some (.int .i64 0) := hb.cellK; have nz0 : w1.frozen? ⟨w.heap.size + 2, 0, none⟩ = false := hb.frzK; have nz1 : w1.frozen? ⟨w.heap.size + 2, 1, none⟩ = false := hb.frzK; (first | (have nx := Ext.trans hx hb; clear hx) | (have nx := Ext.trans (hx.alloc _) hb; clear hx) | (have nx := Ext.trans hx.drew hb; clear hx) | have nx := hb); clear hb; try clear hs; try clear g0; try clear g1; try clear g2; try clear g3; try clear g4; try clear g5; try clear z0; try clear z1; have hx := nx; clear nx; have hs := ns; clear ns; have g0 := n0; clear n0; have g1 := n1; clear n1; have g2 := n2; clear n2; have g3 := n3; clear n3; have g4 := n4; clear n4; have g5 := n5; clear n5; have z0 := nz0; clear nz0; have z1 := nz1; clear nz1)))
    all_goals go_wp2_with fail
    all_goals exact bodyPost_ret (v := .tuple #[two ((suN (odV (vsV n (mgV f s))) (shE (vsV n (mgV f s)) (unV e f)) (-n) d)) ((suE (odV (vsV n (mgV f s))) (shE (vsV n (mgV f s)) (unV e f)) (-n) d)), .bool (suB (odV (vsV n (mgV f s))) (shE (vsV n (mgV f s)) (unV e f)) (-n) d)]) (by simp [results, Tryd.results38, go_sem, *]) rfl ⟨s, HQ.out, .inl ⟨hs3, rfl⟩, Ext.auK⟩
  · obtain ⟨hp, hf⟩ := inf_sg (n := n) g0 (show s = grV e f + 1 by omega)
    have hk := (kind_lt e f (sgP e f n s) hp).1
    rw [hf] at hk
    have hk2 : 2 < kindV e f (sgP e f n s) := by have := of_decide_eq_false hk; omega
    have KC := Lib.hid (fun w => fmKind_any e f (sgP e f n s) hp w)
    clear d5 hk hf hp
    go_wp2_with (go_at_call 83; refine (KC.out _).mono ?_; rintro rv w1 ⟨rfl, hb⟩; have ns : w.heap.size + 2 < w1.heap.size := hb.ltK; have n0 : w1.cell? ⟨w.heap.size, 0, none⟩ = some (.int .i64 e) := hb.cellK; have n1 : w1.cell? ⟨w.heap.size, 1, none⟩ = some (.int .i64 f) := hb.cellK; have n2 : w1.cell? ⟨w.heap.size + 1, 0, none⟩ = some (.int .i64 n) := hb.cellK; have n3 : w1.cell? ⟨w.heap.size + 1, 1, none⟩ = some (.int .i64 d) := hb.cellK; have n4 : w1.cell? ⟨w.heap.size + 2, 0, none⟩ = some (.int .i64 0) := hb.cellK; have n5 : w1.cell? ⟨w.heap.size + 2, 1, none⟩ = some (.int .i64 0) := hb.cellK; have nz0 : w1.frozen? ⟨w.heap.size + 2, 0, none⟩ = false := hb.frzK; have nz1 : w1.frozen? ⟨w.heap.size + 2, 1, none⟩ = false := hb.frzK; (first | (have nx := Ext.trans hx hb; clear hx) | (have nx := Ext.trans (hx.alloc _) hb; clear hx) | (have nx := Ext.trans hx.drew hb; clear hx) | have nx := hb); clear hb; try clear hs; try clear g0; try clear g1; try clear g2; try clear g3; try clear g4; try clear g5; try clear z0; try clear z1; have hx := nx; clear nx; have hs := ns; clear ns; have g0 := n0; clear n0; have g1 := n1; clear n1; have g2 := n2; clear n2; have g3 := n3; clear n3; have g4 := n4; clear n4; have g5 := n5; clear n5; have z0 := nz0; clear nz0; have z1 := nz1; clear nz1)
    exact bodyPost_ret (v := .tuple #[two 0 0, .bool false]) (by simp [results, Tryd.results38, go_sem, *]) rfl ⟨s, HQ.out, .inr ⟨by omega, rfl⟩, Ext.auK⟩

/-- The error, or nothing where the result is infinite. -/
def erN (e f n d s : Int) : Int := if s ≤ grV e f then suN (odV (vsV n (mgV f s))) (shE (vsV n (mgV f s)) (unV e f)) (-n) d else 0

def erE (e f n d s : Int) : Int := if s ≤ grV e f then suE (odV (vsV n (mgV f s))) (shE (vsV n (mgV f s)) (unV e f)) (-n) d else 0

def erB (e f n d s : Int) : Bool := if s ≤ grV e f then suB (odV (vsV n (mgV f s))) (shE (vsV n (mgV f s)) (unV e f)) (-n) d else false

def ERout (e f n d m : Int) (w : World) (rv : Ending) (w' : World) : Prop := ∃ s : Int, RndD e f (n.natAbs : Int) (d - unV e f) m (decide (n < 0)) s ∧ rv = .returned (.tuple #[two (erN e f n d s) (erE e f n d s), .bool (erB e f n d s)]) ∧ Ext w w'

theorem er_of {e f n d m : Int} {w w' : World} {rv : Ending} (h : EOout e f n d m w rv w') : ERout e f n d m w rv w' := by
  obtain ⟨s, hq, h1, hb⟩ := h
  refine ⟨s, hq, ?_, hb⟩
  unfold erN erE erB
  rcases h1 with ⟨a, b⟩ | ⟨a, b⟩
  · rw [if_pos a, if_pos a, if_pos a]; exact b
  · rw [if_neg a, if_neg a, if_neg a]; exact b
end Go.Proofs.YtcbkhlaiefiieabDoor

namespace Go.Proofs.YtcbkhlaiefiieabDoor
open Go Go.RowKit
set_option linter.unusedSimpArgs false
set_option linter.unusedVariables false

/-- Both are finite. -/
def fpB (e f a b : Int) : Bool := finB e f a && finB e f b

theorem od_few {e f p : Int} (hp : patB e f p = true) : -2048 < odV (unitsV e f p) ∧ odV (unitsV e f p) < 2048 := by
  obtain ⟨hg, p0, p1⟩ := pat_iff.1 hp
  obtain ⟨h1, h2, h3, h4⟩ := good_iff.1 hg
  have c2 : pw f ≤ 1024 := pw_le 10 1024 rfl h4
  have c1 := pw_pos f
  have r0 := Int.emod_nonneg p (show pw f ≠ 0 by omega)
  have r1 := Int.emod_lt_of_pos p (show 0 < pw f by omega)
  obtain ⟨m0, m1⟩ := mag_bd e f p hp
  have key : 0 ≤ odV (magV e f p) ∧ odV (magV e f p) < 2048 := by
    have hm : magV e f p = if 0 < p % pw (e + f) / pw f then (p % pw f + pw f) * pw (p % pw (e + f) / pw f - 1) else p % pw f := rfl
    by_cases hx : 0 < p % pw (e + f) / pw f
    · rw [if_pos hx] at hm
      have o := od_scale (x := p % pw f + pw f) (j := p % pw (e + f) / pw f - 1) (by omega) (by omega) (by rw [← hm]; omega) (by rw [← hm]; omega)
      rw [hm, o.1]
      have b := od_bd (p % pw f + pw f) 2047 (by decide) (by omega) (by omega)
      have s := (od_sign (S := p % pw f + pw f) (by omega) (by omega)).1
      omega
    · rw [if_neg hx] at hm
      rw [hm]
      have b := od_bd (p % pw f) 2047 (by decide) (by omega) (by omega)
      have s := (od_sign (S := p % pw f) (by omega) (by omega)).1
      omega
  have hn : odV (-magV e f p) = -odV (magV e f p) := by
    by_cases hz : magV e f p = 0
    · rw [hz]; decide
    · obtain ⟨t0, t1, t2, t3⟩ := tz_spec (magV e f p) hz (by omega) (by omega)
      have := tz_of (-magV e f p) (-odV (magV e f p)) (tzV (magV e f p)) t0 (by omega) (by rw [Int.neg_mul, ← t2]) (by omega) (by omega)
      exact this.2
  unfold unitsV
  split
  · rw [hn]; omega
  · omega

theorem pr_units {e f a b : Int} (pa : patB e f a = true) (pb : patB e f b = true) :
    prB (odV (unitsV e f a)) (shE (unitsV e f a) (unV e f)) (odV (unitsV e f b)) (shE (unitsV e f b) (unV e f)) = true ∧ prN (odV (unitsV e f a)) (shE (unitsV e f a) (unV e f)) (odV (unitsV e f b)) (shE (unitsV e f b) (unV e f)) = odV (odV (unitsV e f a) * odV (unitsV e f b)) ∧ prE (odV (unitsV e f a)) (shE (unitsV e f a) (unV e f)) (odV (unitsV e f b)) (shE (unitsV e f b) (unV e f)) = shE (odV (unitsV e f a) * odV (unitsV e f b)) (shE (unitsV e f a) (unV e f) + shE (unitsV e f b) (unV e f)) ∧
    (-60 ≤ shE (unitsV e f a) (unV e f) + shE (unitsV e f b) (unV e f) ∧ shE (unitsV e f a) (unV e f) + shE (unitsV e f b) (unV e f) ≤ 90) ∧ -4194304 < odV (unitsV e f a) * odV (unitsV e f b) ∧ odV (unitsV e f a) * odV (unitsV e f b) < 4194304 ∧
    dyB (odV (odV (unitsV e f a) * odV (unitsV e f b))) (shE (odV (unitsV e f a) * odV (unitsV e f b)) (shE (unitsV e f a) (unV e f) + shE (unitsV e f b) (unV e f))) = true := by
  have g0 := (pat_iff.1 pa).1
  obtain ⟨u1, u2, u3, u4⟩ := un_bd g0
  obtain ⟨ua0, ua1⟩ := units_bd e f a pa
  obtain ⟨ub0, ub1⟩ := units_bd e f b pb
  obtain ⟨oa0, oa1⟩ := od_few pa
  obtain ⟨ob0, ob1⟩ := od_few pb
  have sh : ∀ S : Int, -4398046511104 ≤ S → S ≤ 4398046511104 → -24 ≤ shE S (unV e f) ∧ shE S (unV e f) ≤ 42 := by
    intro S s0 s1
    by_cases hz : S = 0
    · subst hz
      rw [show shE 0 (unV e f) = 0 from rfl]; omega
    · have := tz_lt (S := S) (b := 43) hz (by omega) (by omega) (by rw [show pw 43 = 8796093022208 from rfl]; omega)
      rw [show shE S (unV e f) = (unV e f) + tzV S from if_neg hz]; omega
  have sa := sh (unitsV e f a) ua0 ua1
  have sb := sh (unitsV e f b) ub0 ub1
  generalize unitsV e f a = A at *
  generalize unitsV e f b = B at *
  have hab : ((odV A * odV B).natAbs : Int) < 4194304 := by
    rw [Int.natAbs_mul, Int.natCast_mul]
    have := Int.mul_le_mul (show ((odV A).natAbs : Int) ≤ 2047 by omega) (show ((odV B).natAbs : Int) ≤ 2047 by omega) (by omega) (by decide)
    omega
  have pl : plV (odV A) + plV (odV B) ≤ 60 := by
    have a := pl_le (odV A) 11 (by decide) (by decide) (by rw [show pw 11 = 2048 from rfl]; omega)
    have b := pl_le (odV B) 11 (by decide) (by decide) (by rw [show pw 11 = 2048 from rfl]; omega)
    omega
  obtain ⟨e1, e2, e3⟩ := pr_yes (ea := shE A (unV e f)) (eb := shE B (unV e f)) pl
  rw [e1, e2, e3]
  have dd : dyB (odV (odV A * odV B)) (shE (odV A * odV B) (shE A (unV e f) + shE B (unV e f))) = true := by
    by_cases hz : odV A * odV B = 0
    · rw [hz, od_zero, show shE 0 _ = 0 from rfl]; decide
    · have := tz_lt (S := odV A * odV B) (b := 22) hz (by omega) (by omega) (by rw [show pw 22 = 4194304 from rfl]; omega)
      obtain ⟨t0, t1, t2, t3⟩ := tz_spec (odV A * odV B) hz (by omega) (by omega)
      have b := od_bd (odV A * odV B) 4194304 (by decide) (by omega) (by omega)
      have odd : ∀ X : Int, X ≠ 0 → -9223372036854775808 < X → X < 9223372036854775808 → odV X % 2 = 1 := fun X h0 h1 h2 => (tz_spec X h0 h1 h2).2.2.2
      have hA : A ≠ 0 := by rintro rfl; rw [od_zero, Int.zero_mul] at hz; exact hz rfl
      have hB : B ≠ 0 := by rintro rfl; rw [od_zero, Int.mul_zero] at hz; exact hz rfl
      have pp : (odV A * odV B) % 2 = 1 := by rw [Int.mul_emod, odd A hA (by omega) (by omega), odd B hB (by omega) (by omega)]; rfl
      have oo := od_odd pp (by omega) (by omega)
      rw [show shE (odV A * odV B) (shE A (unV e f) + shE B (unV e f)) = shE A (unV e f) + shE B (unV e f) + tzV (odV A * odV B) from if_neg hz, oo.2]
      exact dy_iff.2 ⟨⟨by omega, by omega, by omega, by omega⟩, Or.inl t3⟩
  by_cases hz : odV A * odV B = 0
  · rw [hz] at dd ⊢
    obtain ⟨z1, z2, z3⟩ := nf_zero (S := 0) (l := shE A (unV e f) + shE B (unV e f)) rfl
    rw [z1, z2, z3, od_zero]
    exact ⟨rfl, rfl, rfl, by omega, by decide, by decide, by rw [od_zero] at dd; exact dd⟩
  · have dd2 := dd
    rw [show shE (odV A * odV B) (shE A (unV e f) + shE B (unV e f)) = shE A (unV e f) + shE B (unV e f) + tzV (odV A * odV B) from if_neg hz] at dd
    obtain ⟨z1, z2, z3⟩ := nf_yes hz dd
    rw [z1, z2, z3, show shE (odV A * odV B) (shE A (unV e f) + shE B (unV e f)) = shE A (unV e f) + shE B (unV e f) + tzV (odV A * odV B) from if_neg hz]
    exact ⟨rfl, rfl, rfl, by omega, by omega, by omega, dd⟩
end Go.Proofs.YtcbkhlaiefiieabDoor

namespace Go.Proofs.YtcbkhlaiefiieabDoor
open Go Go.RowKit
set_option linter.unusedSimpArgs false
set_option linter.unusedVariables false

theorem byPlus_no (e f a b : Int) (hg : fpB e f a b = false) (w : World) (hT : TW w) : Calls Tryd.prog 85 #[fmt e f, .int .i64 a, .int .i64 b, .func (.func 27) #[] #[]] w fun rv w' => rv = .returned (.tuple #[.bool false, .bool false]) ∧ Ext w w' := by
  cases fa : finB e f a
  · go_enter Tryd.func85, Tryd.ntmps85
    go_wp2_with (go_at_call 22; refine (iValueOf_no e f a fa _).mono ?_; rintro rv w1 ⟨rfl, hb⟩; have ns : w.heap.size < w1.heap.size := hb.ltK; have n0 : w1.cell? ⟨w.heap.size, 0, none⟩ = some (.int .i64 e) := hb.cellK; have n1 : w1.cell? ⟨w.heap.size, 1, none⟩ = some (.int .i64 f) := hb.cellK; (first | (have nx := Ext.trans hx hb; clear hx) | (have nx := Ext.trans (hx.alloc _) hb; clear hx) | (have nx := Ext.trans hx.drew hb; clear hx) | have nx := hb); clear hb; try clear hs; try clear g0; try clear g1; have hx := nx; clear nx; have hs := ns; clear ns; have g0 := n0; clear n0; have g1 := n1; clear n1)
    go_ret2
    exact ⟨rfl, Ext.auK⟩
  · have fb : finB e f b = false := by unfold fpB at hg; rw [fa] at hg; simpa using hg
    go_enter Tryd.func85, Tryd.ntmps85
    go_wp2_with (first | (go_at_call 22; (with_reducible refine (iValueOf_yes e f a fa _ (hT.ext Ext.auK)).mono ?_); rintro rv w1 ⟨rfl, hb⟩; have ns : w.heap.size < w1.heap.size := hb.ltK; have n0 : w1.cell? ⟨w.heap.size, 0, none⟩ = some (.int .i64 e) := hb.cellK; have n1 : w1.cell? ⟨w.heap.size, 1, none⟩ = some (.int .i64 f) := hb.cellK; (first | (have nx := Ext.trans hx hb; clear hx) | (have nx := Ext.trans (hx.alloc _) hb; clear hx) | (have nx := Ext.trans hx.drew hb; clear hx) | have nx := hb); clear hb; try clear hs; try clear g0; try clear g1; have hx := nx; clear nx; have hs := ns; clear ns; have g0 := n0; clear n0; have g1 := n1; clear n1) | (go_at_call 22; (with_reducible refine (iValueOf_no e f b fb _).mono ?_); rintro rv w2 ⟨rfl, hb⟩; have ns : w.heap.size < w2.heap.size := hb.ltK; (first | (have nx := Ext.trans hx hb; clear hx) | (have nx := Ext.trans (hx.alloc _) hb; clear hx) | (have nx := Ext.trans hx.drew hb; clear hx) | have nx := hb); clear hb; try clear hs; have hx := nx; clear nx; have hs := ns; clear ns))
    go_ret2
    exact ⟨rfl, Ext.auK⟩

set_option maxHeartbeats 3200000 in
theorem byPlus_yes (e f a b : Int) (hg : fpB e f a b = true) (w : World) (hT : TW w) : Calls Tryd.prog 85 #[fmt e f, .int .i64 a, .int .i64 b, .func (.func 27) #[] #[]] w fun rv w' => rv = .returned (.tuple #[.bool (exB e f ((odV ((unitsV e f a) + (unitsV e f b))).natAbs : Int) ((shE ((unitsV e f a) + (unitsV e f b)) (unV e f)) - (unV e f))), .bool true]) ∧ Ext w w' := by
  unfold fpB at hg
  rw [Bool.and_eq_true] at hg
  obtain ⟨fa, fb⟩ := hg
  obtain ⟨pa, _⟩ := fin_pat fa
  obtain ⟨pb, _⟩ := fin_pat fb
  have g0 := (pat_iff.1 pa).1
  obtain ⟨ua0, ua1⟩ := units_bd e f a pa
  obtain ⟨ub0, ub1⟩ := units_bd e f b pb
  obtain ⟨u1, u2, u3, u4⟩ := un_bd g0
  obtain ⟨e1, e2, e3⟩ := su_units (a := (unitsV e f a)) (b := (unitsV e f b)) (u := (unV e f)) ua0 ua1 ub0 ub1 (by omega) (by omega)
  have OC := Lib.hid (fun w hT => by
    have := iPlusDyadic_yes (odV (unitsV e f a)) (shE (unitsV e f a) (unV e f)) (odV (unitsV e f b)) (shE (unitsV e f b) (unV e f)) (dy2_iff.2 ⟨dy_low (by omega) (by omega) (by omega) (by omega), dy_low (by omega) (by omega) (by omega) (by omega)⟩) w hT
    rw [e1, e2, e3] at this
    exact this)
  have dd := dy_low (m := (unitsV e f a) + (unitsV e f b)) (u := (unV e f)) (by omega) (by omega) (by omega) (by omega)
  have IC := Lib.hid (fun w hT => iIsExact_yes e f (odV ((unitsV e f a) + (unitsV e f b))) (shE ((unitsV e f a) + (unitsV e f b)) (unV e f)) (as_iff.2 ⟨g0, dd⟩) w hT)
  clear e1 e2 e3 dd
  generalize (odV ((unitsV e f a) + (unitsV e f b))) = NV at *
  generalize (shE ((unitsV e f a) + (unitsV e f b)) (unV e f)) = EV at *
  go_enter Tryd.func85, Tryd.ntmps85
  go_wp2_with (first | (go_at_call 22; (with_reducible refine (iValueOf_yes e f a fa _ (hT.ext Ext.auK)).mono ?_); rintro rv w1 ⟨rfl, hb⟩; have ns : w.heap.size < w1.heap.size := hb.ltK; have n0 : w1.cell? ⟨w.heap.size, 0, none⟩ = some (.int .i64 e) := hb.cellK; have n1 : w1.cell? ⟨w.heap.size, 1, none⟩ = some (.int .i64 f) := hb.cellK; (first | (have nx := Ext.trans hx hb; clear hx) | (have nx := Ext.trans (hx.alloc _) hb; clear hx) | (have nx := Ext.trans hx.drew hb; clear hx) | have nx := hb); clear hb; try clear hs; try clear g0; try clear g1; have hx := nx; clear nx; have hs := ns; clear ns; have g0 := n0; clear n0; have g1 := n1; clear n1) | (go_at_call 22; (with_reducible refine (iValueOf_yes e f b fb _ (hT.ext Ext.auK)).mono ?_); rintro rv w2 ⟨rfl, hb⟩; have hz0 : w.heap.size < w2.heap.size := hb.lt (by first | omega | (simp; omega)); have ns : w1.heap.size < w2.heap.size := hb.ltK; have n0 : w2.cell? ⟨w.heap.size, 0, none⟩ = some (.int .i64 e) := hb.cellK; have n1 : w2.cell? ⟨w.heap.size, 1, none⟩ = some (.int .i64 f) := hb.cellK; have n2 : w2.cell? ⟨w1.heap.size, 0, none⟩ = some (.int .i64 (odV (unitsV e f a))) := hb.cellK; have n3 : w2.cell? ⟨w1.heap.size, 1, none⟩ = some (.int .i64 (shE (unitsV e f a) (unV e f))) := hb.cellK; (first | (have nx := Ext.trans hx hb; clear hx) | (have nx := Ext.trans (hx.alloc _) hb; clear hx) | (have nx := Ext.trans hx.drew hb; clear hx) | have nx := hb); clear hb; try clear hs; try clear g0; try clear g1; try clear g2; try clear g3; have hx := nx; clear nx; have hs := ns; clear ns; have g0 := n0; clear n0; have g1 := n1; clear n1; have g2 := n2; clear n2; have g3 := n3; clear n3) | (go_at_call 27; refine (OC.out _ (hT.ext Ext.auK)).mono ?_; rintro rv w3 ⟨rfl, hb⟩; have ns : w.heap.size < w3.heap.size := hb.ltK; have n0 : w3.cell? ⟨w.heap.size, 0, none⟩ = some (.int .i64 e) := hb.cellK; have n1 : w3.cell? ⟨w.heap.size, 1, none⟩ = some (.int .i64 f) := hb.cellK; (first | (have nx := Ext.trans hx hb; clear hx) | (have nx := Ext.trans (hx.alloc _) hb; clear hx) | (have nx := Ext.trans hx.drew hb; clear hx) | have nx := hb); clear hb; try clear hs; try clear g0; try clear g1; have hx := nx; clear nx; have hs := ns; clear ns; have g0 := n0; clear n0; have g1 := n1; clear n1) | (go_at_call 33; refine (IC.out _ (hT.ext Ext.auK)).mono ?_; rintro rv w4 ⟨rfl, hb⟩; have ns : w.heap.size < w4.heap.size := hb.ltK; have n0 : w4.cell? ⟨w.heap.size, 0, none⟩ = some (.int .i64 e) := hb.cellK; have n1 : w4.cell? ⟨w.heap.size, 1, none⟩ = some (.int .i64 f) := hb.cellK; (first | (have nx := Ext.trans hx hb; clear hx) | (have nx := Ext.trans (hx.alloc _) hb; clear hx) | (have nx := Ext.trans hx.drew hb; clear hx) | have nx := hb); clear hb; try clear hs; try clear g0; try clear g1; have hx := nx; clear nx; have hs := ns; clear ns; have g0 := n0; clear n0; have g1 := n1; clear n1))
  go_ret2
  exact ⟨rfl, Ext.auK⟩

theorem iExactPlus_no (e f a b : Int) (hg : fpB e f a b = false) (w : World) (hT : TW w) : Calls Tryd.prog 41 #[fmt e f, .int .i64 a, .int .i64 b] w fun rv w' => rv = .returned (.tuple #[.bool false, .bool false]) ∧ Ext w w' := by
  go_enter Tryd.func41, Tryd.ntmps41
  go_wp2_with (go_at_call 85; refine (byPlus_no e f a b hg _ (hT.ext Ext.auK)).mono ?_; rintro rv w1 ⟨rfl, hb⟩; have ns : w.heap.size < w1.heap.size := hb.ltK; have n0 : w1.cell? ⟨w.heap.size, 0, none⟩ = some (.int .i64 e) := hb.cellK; have n1 : w1.cell? ⟨w.heap.size, 1, none⟩ = some (.int .i64 f) := hb.cellK; (first | (have nx := Ext.trans hx hb; clear hx) | (have nx := Ext.trans (hx.alloc _) hb; clear hx) | (have nx := Ext.trans hx.drew hb; clear hx) | have nx := hb); clear hb; try clear hs; try clear g0; try clear g1; have hx := nx; clear nx; have hs := ns; clear ns; have g0 := n0; clear n0; have g1 := n1; clear n1)
  go_ret2
  exact ⟨rfl, Ext.auK⟩

theorem iExactPlus_yes (e f a b : Int) (hg : fpB e f a b = true) (w : World) (hT : TW w) : Calls Tryd.prog 41 #[fmt e f, .int .i64 a, .int .i64 b] w fun rv w' => rv = .returned (.tuple #[.bool (exB e f ((odV ((unitsV e f a) + (unitsV e f b))).natAbs : Int) ((shE ((unitsV e f a) + (unitsV e f b)) (unV e f)) - (unV e f))), .bool true]) ∧ Ext w w' := by
  go_enter Tryd.func41, Tryd.ntmps41
  go_wp2_with (go_at_call 85; refine (byPlus_yes e f a b hg _ (hT.ext Ext.auK)).mono ?_; rintro rv w1 ⟨rfl, hb⟩; have ns : w.heap.size < w1.heap.size := hb.ltK; have n0 : w1.cell? ⟨w.heap.size, 0, none⟩ = some (.int .i64 e) := hb.cellK; have n1 : w1.cell? ⟨w.heap.size, 1, none⟩ = some (.int .i64 f) := hb.cellK; (first | (have nx := Ext.trans hx hb; clear hx) | (have nx := Ext.trans (hx.alloc _) hb; clear hx) | (have nx := Ext.trans hx.drew hb; clear hx) | have nx := hb); clear hb; try clear hs; try clear g0; try clear g1; have hx := nx; clear nx; have hs := ns; clear ns; have g0 := n0; clear n0; have g1 := n1; clear n1)
  go_ret2
  exact ⟨rfl, Ext.auK⟩

theorem sExactPlus_no (e f a b : Int) (hg : fpB e f a b = false) (w : World) : Calls Tryd.prog 40 #[fmt e f, .int .i64 a, .int .i64 b] w fun rv w' => rv = .returned (.tuple #[.bool false, .bool false]) ∧ Ext w w' := by
  cases fa : finB e f a
  · go_enter Tryd.func40, Tryd.ntmps40
    go_wp2_with (go_at_call 54; refine (fmFinite_any e f _ _).mono ?_; rintro rv w1 ⟨rfl, hb⟩; have ns : w.heap.size < w1.heap.size := hb.ltK; have n0 : w1.cell? ⟨w.heap.size, 0, none⟩ = some (.int .i64 e) := hb.cellK; have n1 : w1.cell? ⟨w.heap.size, 1, none⟩ = some (.int .i64 f) := hb.cellK; (first | (have nx := Ext.trans hx hb; clear hx) | (have nx := Ext.trans (hx.alloc _) hb; clear hx) | (have nx := Ext.trans hx.drew hb; clear hx) | have nx := hb); clear hb; try clear hs; try clear g0; try clear g1; have hx := nx; clear nx; have hs := ns; clear ns; have g0 := n0; clear n0; have g1 := n1; clear n1)
    go_ret2
    exact ⟨rfl, Ext.auK⟩
  · have fb : finB e f b = false := by unfold fpB at hg; rw [fa] at hg; simpa using hg
    go_enter Tryd.func40, Tryd.ntmps40
    go_wp2_with (go_at_call 54; refine (fmFinite_any e f _ _).mono ?_; rintro rv w1 ⟨rfl, hb⟩; have ns : w.heap.size < w1.heap.size := hb.ltK; have n0 : w1.cell? ⟨w.heap.size, 0, none⟩ = some (.int .i64 e) := hb.cellK; have n1 : w1.cell? ⟨w.heap.size, 1, none⟩ = some (.int .i64 f) := hb.cellK; (first | (have nx := Ext.trans hx hb; clear hx) | (have nx := Ext.trans (hx.alloc _) hb; clear hx) | (have nx := Ext.trans hx.drew hb; clear hx) | have nx := hb); clear hb; try clear hs; try clear g0; try clear g1; have hx := nx; clear nx; have hs := ns; clear ns; have g0 := n0; clear n0; have g1 := n1; clear n1)
    go_ret2
    exact ⟨rfl, Ext.auK⟩

set_option maxHeartbeats 3200000 in
theorem sExactPlus_yes (e f a b : Int) (hg : fpB e f a b = true) (w : World) : Calls Tryd.prog 40 #[fmt e f, .int .i64 a, .int .i64 b] w fun rv w' => rv = .returned (.tuple #[.bool (exB e f ((odV ((unitsV e f a) + (unitsV e f b))).natAbs : Int) ((shE ((unitsV e f a) + (unitsV e f b)) (unV e f)) - (unV e f))), .bool true]) ∧ Ext w w' := by
  unfold fpB at hg
  rw [Bool.and_eq_true] at hg
  obtain ⟨fa, fb⟩ := hg
  obtain ⟨pa, _⟩ := fin_pat fa
  obtain ⟨pb, _⟩ := fin_pat fb
  have g0 := (pat_iff.1 pa).1
  obtain ⟨ua0, ua1⟩ := units_bd e f a pa
  obtain ⟨ub0, ub1⟩ := units_bd e f b pb
  obtain ⟨u1, u2, u3, u4⟩ := un_bd g0
  have ks : IntKind.i64.wrap ((unitsV e f a) + (unitsV e f b)) = (unitsV e f a) + (unitsV e f b) := IntWalk.i64_in _ (by omega)
  have RS := Lib.hid (fun w => rdShort_any ((unitsV e f a) + (unitsV e f b)) (unV e f) (by omega) (by omega) (by omega) (by omega) w)
  have XC := Lib.hid (fun w => rdExact_any e f (odV ((unitsV e f a) + (unitsV e f b))) (shE ((unitsV e f a) + (unitsV e f b)) (unV e f)) g0 (rd_short g0 (by omega) (by omega) (by omega) (by omega)) w)
  go_enter Tryd.func40, Tryd.ntmps40
  go_wp2_with (go_at_call 54; refine (fmFinite_any e f _ _).mono ?_; rintro rv w1 ⟨rfl, hb⟩; have ns : w.heap.size < w1.heap.size := hb.ltK; have n0 : w1.cell? ⟨w.heap.size, 0, none⟩ = some (.int .i64 e) := hb.cellK; have n1 : w1.cell? ⟨w.heap.size, 1, none⟩ = some (.int .i64 f) := hb.cellK; (first | (have nx := Ext.trans hx hb; clear hx) | (have nx := Ext.trans (hx.alloc _) hb; clear hx) | (have nx := Ext.trans hx.drew hb; clear hx) | have nx := hb); clear hb; try clear hs; try clear g0; try clear g1; have hx := nx; clear nx; have hs := ns; clear ns; have g0 := n0; clear n0; have g1 := n1; clear n1)
  go_region_held3 (fun w' => w'.cell? ⟨w.heap.size, 0, none⟩ = some (.int .i64 e) ∧ w'.cell? ⟨w.heap.size, 1, none⟩ = some (.int .i64 f) ∧ w.heap.size < w'.heap.size) ((refine ⟨?_, ?_, ?_⟩ <;> first | with_reducible assumption | ((rw [cell_setRow_far _ _ _ _ _ (by omega)]); with_reducible assumption) | ((rw [setRow_size]); with_reducible assumption) | ((repeat rw [World.cell?_setCell_far _ _ _ _ (by simp)]); with_reducible assumption) | (simp; done) | (simp [World.setCell]; first | done | omega) | (simp [go_sem, World.cell?_alloc_past, World.cell?_setCell_far, *]; done))) ((first | (go_at_call 70; (with_reducible refine (fmUnits_any e f a pa _).mono ?_); rintro rv w1 ⟨rfl, hb⟩; have ns : w.heap.size < w1.heap.size := hb.ltK; have n0 : w1.cell? ⟨w.heap.size, 0, none⟩ = some (.int .i64 e) := hb.cellK; have n1 : w1.cell? ⟨w.heap.size, 1, none⟩ = some (.int .i64 f) := hb.cellK; (first | (have nx := Ext.trans hx hb; clear hx) | (have nx := Ext.trans (hx.alloc _) hb; clear hx) | (have nx := Ext.trans hx.drew hb; clear hx) | have nx := hb); clear hb; try clear hs; try clear g0; try clear g1; have hx := nx; clear nx; have hs := ns; clear ns; have g0 := n0; clear n0; have g1 := n1; clear n1) | (go_at_call 70; (with_reducible refine (fmUnits_any e f b pb _).mono ?_); rintro rv w1 ⟨rfl, hb⟩; have ns : w.heap.size < w1.heap.size := hb.ltK; have n0 : w1.cell? ⟨w.heap.size, 0, none⟩ = some (.int .i64 e) := hb.cellK; have n1 : w1.cell? ⟨w.heap.size, 1, none⟩ = some (.int .i64 f) := hb.cellK; (first | (have nx := Ext.trans hx hb; clear hx) | (have nx := Ext.trans (hx.alloc _) hb; clear hx) | (have nx := Ext.trans hx.drew hb; clear hx) | have nx := hb); clear hb; try clear hs; try clear g0; try clear g1; have hx := nx; clear nx; have hs := ns; clear ns; have g0 := n0; clear n0; have g1 := n1; clear n1) | (go_at_call 59; refine (rdUnit_any e f g0 _).mono ?_; rintro rv w1 ⟨rfl, hb⟩; have ns : w.heap.size < w1.heap.size := hb.ltK; have n0 : w1.cell? ⟨w.heap.size, 0, none⟩ = some (.int .i64 e) := hb.cellK; have n1 : w1.cell? ⟨w.heap.size, 1, none⟩ = some (.int .i64 f) := hb.cellK; (first | (have nx := Ext.trans hx hb; clear hx) | (have nx := Ext.trans (hx.alloc _) hb; clear hx) | (have nx := Ext.trans hx.drew hb; clear hx) | have nx := hb); clear hb; try clear hs; try clear g0; try clear g1; have hx := nx; clear nx; have hs := ns; clear ns; have g0 := n0; clear n0; have g1 := n1; clear n1) | (go_at_call 51; refine (RS.out _).mono ?_; rintro rv w1 ⟨rfl, hb⟩; have ns : w.heap.size < w1.heap.size := hb.ltK; have n0 : w1.cell? ⟨w.heap.size, 0, none⟩ = some (.int .i64 e) := hb.cellK; have n1 : w1.cell? ⟨w.heap.size, 1, none⟩ = some (.int .i64 f) := hb.cellK; (first | (have nx := Ext.trans hx hb; clear hx) | (have nx := Ext.trans (hx.alloc _) hb; clear hx) | (have nx := Ext.trans hx.drew hb; clear hx) | have nx := hb); clear hb; try clear hs; try clear g0; try clear g1; have hx := nx; clear nx; have hs := ns; clear ns; have g0 := n0; clear n0; have g1 := n1; clear n1) | (go_at_call 68; refine (XC.out _).mono ?_; rintro rv w1 ⟨rfl, hb⟩; have ns : w.heap.size < w1.heap.size := hb.ltK; have n0 : w1.cell? ⟨w.heap.size, 0, none⟩ = some (.int .i64 e) := hb.cellK; have n1 : w1.cell? ⟨w.heap.size, 1, none⟩ = some (.int .i64 f) := hb.cellK; (first | (have nx := Ext.trans hx hb; clear hx) | (have nx := Ext.trans (hx.alloc _) hb; clear hx) | (have nx := Ext.trans hx.drew hb; clear hx) | have nx := hb); clear hb; try clear hs; try clear g0; try clear g1; have hx := nx; clear nx; have hs := ns; clear ns; have g0 := n0; clear n0; have g1 := n1; clear n1)))
  all_goals go_wp2_with fail
  all_goals go_ret2
  all_goals exact ⟨rfl, Ext.auK⟩

theorem byTimes_no (e f a b : Int) (hg : fpB e f a b = false) (w : World) (hT : TW w) : Calls Tryd.prog 85 #[fmt e f, .int .i64 a, .int .i64 b, .func (.func 29) #[] #[]] w fun rv w' => rv = .returned (.tuple #[.bool false, .bool false]) ∧ Ext w w' := by
  cases fa : finB e f a
  · go_enter Tryd.func85, Tryd.ntmps85
    go_wp2_with (go_at_call 22; refine (iValueOf_no e f a fa _).mono ?_; rintro rv w1 ⟨rfl, hb⟩; have ns : w.heap.size < w1.heap.size := hb.ltK; have n0 : w1.cell? ⟨w.heap.size, 0, none⟩ = some (.int .i64 e) := hb.cellK; have n1 : w1.cell? ⟨w.heap.size, 1, none⟩ = some (.int .i64 f) := hb.cellK; (first | (have nx := Ext.trans hx hb; clear hx) | (have nx := Ext.trans (hx.alloc _) hb; clear hx) | (have nx := Ext.trans hx.drew hb; clear hx) | have nx := hb); clear hb; try clear hs; try clear g0; try clear g1; have hx := nx; clear nx; have hs := ns; clear ns; have g0 := n0; clear n0; have g1 := n1; clear n1)
    go_ret2
    exact ⟨rfl, Ext.auK⟩
  · have fb : finB e f b = false := by unfold fpB at hg; rw [fa] at hg; simpa using hg
    go_enter Tryd.func85, Tryd.ntmps85
    go_wp2_with (first | (go_at_call 22; (with_reducible refine (iValueOf_yes e f a fa _ (hT.ext Ext.auK)).mono ?_); rintro rv w1 ⟨rfl, hb⟩; have ns : w.heap.size < w1.heap.size := hb.ltK; have n0 : w1.cell? ⟨w.heap.size, 0, none⟩ = some (.int .i64 e) := hb.cellK; have n1 : w1.cell? ⟨w.heap.size, 1, none⟩ = some (.int .i64 f) := hb.cellK; (first | (have nx := Ext.trans hx hb; clear hx) | (have nx := Ext.trans (hx.alloc _) hb; clear hx) | (have nx := Ext.trans hx.drew hb; clear hx) | have nx := hb); clear hb; try clear hs; try clear g0; try clear g1; have hx := nx; clear nx; have hs := ns; clear ns; have g0 := n0; clear n0; have g1 := n1; clear n1) | (go_at_call 22; (with_reducible refine (iValueOf_no e f b fb _).mono ?_); rintro rv w2 ⟨rfl, hb⟩; have ns : w.heap.size < w2.heap.size := hb.ltK; (first | (have nx := Ext.trans hx hb; clear hx) | (have nx := Ext.trans (hx.alloc _) hb; clear hx) | (have nx := Ext.trans hx.drew hb; clear hx) | have nx := hb); clear hb; try clear hs; have hx := nx; clear nx; have hs := ns; clear ns))
    go_ret2
    exact ⟨rfl, Ext.auK⟩

set_option maxHeartbeats 3200000 in
theorem byTimes_yes (e f a b : Int) (hg : fpB e f a b = true) (w : World) (hT : TW w) : Calls Tryd.prog 85 #[fmt e f, .int .i64 a, .int .i64 b, .func (.func 29) #[] #[]] w fun rv w' => rv = .returned (.tuple #[.bool (exB e f ((odV (odV (unitsV e f a) * odV (unitsV e f b))).natAbs : Int) ((shE (odV (unitsV e f a) * odV (unitsV e f b)) (shE (unitsV e f a) (unV e f) + shE (unitsV e f b) (unV e f))) - (unV e f))), .bool true]) ∧ Ext w w' := by
  unfold fpB at hg
  rw [Bool.and_eq_true] at hg
  obtain ⟨fa, fb⟩ := hg
  obtain ⟨pa, _⟩ := fin_pat fa
  obtain ⟨pb, _⟩ := fin_pat fb
  have g0 := (pat_iff.1 pa).1
  obtain ⟨ua0, ua1⟩ := units_bd e f a pa
  obtain ⟨ub0, ub1⟩ := units_bd e f b pb
  obtain ⟨u1, u2, u3, u4⟩ := un_bd g0
  obtain ⟨e1, e2, e3, _, _, _, dd⟩ := pr_units pa pb
  have OC := Lib.hid (fun w hT => by
    have := iTimesDyadic_yes (odV (unitsV e f a)) (shE (unitsV e f a) (unV e f)) (odV (unitsV e f b)) (shE (unitsV e f b) (unV e f)) (dy2_iff.2 ⟨dy_low (by omega) (by omega) (by omega) (by omega), dy_low (by omega) (by omega) (by omega) (by omega)⟩) w hT
    rw [e1, e2, e3] at this
    exact this)
  have IC := Lib.hid (fun w hT => iIsExact_yes e f (odV (odV (unitsV e f a) * odV (unitsV e f b))) (shE (odV (unitsV e f a) * odV (unitsV e f b)) (shE (unitsV e f a) (unV e f) + shE (unitsV e f b) (unV e f))) (as_iff.2 ⟨g0, dd⟩) w hT)
  clear e1 e2 e3 dd
  generalize (odV (odV (unitsV e f a) * odV (unitsV e f b))) = NV at *
  generalize (shE (odV (unitsV e f a) * odV (unitsV e f b)) (shE (unitsV e f a) (unV e f) + shE (unitsV e f b) (unV e f))) = EV at *
  go_enter Tryd.func85, Tryd.ntmps85
  go_wp2_with (first | (go_at_call 22; (with_reducible refine (iValueOf_yes e f a fa _ (hT.ext Ext.auK)).mono ?_); rintro rv w1 ⟨rfl, hb⟩; have ns : w.heap.size < w1.heap.size := hb.ltK; have n0 : w1.cell? ⟨w.heap.size, 0, none⟩ = some (.int .i64 e) := hb.cellK; have n1 : w1.cell? ⟨w.heap.size, 1, none⟩ = some (.int .i64 f) := hb.cellK; (first | (have nx := Ext.trans hx hb; clear hx) | (have nx := Ext.trans (hx.alloc _) hb; clear hx) | (have nx := Ext.trans hx.drew hb; clear hx) | have nx := hb); clear hb; try clear hs; try clear g0; try clear g1; have hx := nx; clear nx; have hs := ns; clear ns; have g0 := n0; clear n0; have g1 := n1; clear n1) | (go_at_call 22; (with_reducible refine (iValueOf_yes e f b fb _ (hT.ext Ext.auK)).mono ?_); rintro rv w2 ⟨rfl, hb⟩; have hz0 : w.heap.size < w2.heap.size := hb.lt (by first | omega | (simp; omega)); have ns : w1.heap.size < w2.heap.size := hb.ltK; have n0 : w2.cell? ⟨w.heap.size, 0, none⟩ = some (.int .i64 e) := hb.cellK; have n1 : w2.cell? ⟨w.heap.size, 1, none⟩ = some (.int .i64 f) := hb.cellK; have n2 : w2.cell? ⟨w1.heap.size, 0, none⟩ = some (.int .i64 (odV (unitsV e f a))) := hb.cellK; have n3 : w2.cell? ⟨w1.heap.size, 1, none⟩ = some (.int .i64 (shE (unitsV e f a) (unV e f))) := hb.cellK; (first | (have nx := Ext.trans hx hb; clear hx) | (have nx := Ext.trans (hx.alloc _) hb; clear hx) | (have nx := Ext.trans hx.drew hb; clear hx) | have nx := hb); clear hb; try clear hs; try clear g0; try clear g1; try clear g2; try clear g3; have hx := nx; clear nx; have hs := ns; clear ns; have g0 := n0; clear n0; have g1 := n1; clear n1; have g2 := n2; clear n2; have g3 := n3; clear n3) | (go_at_call 29; refine (OC.out _ (hT.ext Ext.auK)).mono ?_; rintro rv w3 ⟨rfl, hb⟩; have ns : w.heap.size < w3.heap.size := hb.ltK; have n0 : w3.cell? ⟨w.heap.size, 0, none⟩ = some (.int .i64 e) := hb.cellK; have n1 : w3.cell? ⟨w.heap.size, 1, none⟩ = some (.int .i64 f) := hb.cellK; (first | (have nx := Ext.trans hx hb; clear hx) | (have nx := Ext.trans (hx.alloc _) hb; clear hx) | (have nx := Ext.trans hx.drew hb; clear hx) | have nx := hb); clear hb; try clear hs; try clear g0; try clear g1; have hx := nx; clear nx; have hs := ns; clear ns; have g0 := n0; clear n0; have g1 := n1; clear n1) | (go_at_call 33; refine (IC.out _ (hT.ext Ext.auK)).mono ?_; rintro rv w4 ⟨rfl, hb⟩; have ns : w.heap.size < w4.heap.size := hb.ltK; have n0 : w4.cell? ⟨w.heap.size, 0, none⟩ = some (.int .i64 e) := hb.cellK; have n1 : w4.cell? ⟨w.heap.size, 1, none⟩ = some (.int .i64 f) := hb.cellK; (first | (have nx := Ext.trans hx hb; clear hx) | (have nx := Ext.trans (hx.alloc _) hb; clear hx) | (have nx := Ext.trans hx.drew hb; clear hx) | have nx := hb); clear hb; try clear hs; try clear g0; try clear g1; have hx := nx; clear nx; have hs := ns; clear ns; have g0 := n0; clear n0; have g1 := n1; clear n1))
  go_ret2
  exact ⟨rfl, Ext.auK⟩

theorem iExactTimes_no (e f a b : Int) (hg : fpB e f a b = false) (w : World) (hT : TW w) : Calls Tryd.prog 43 #[fmt e f, .int .i64 a, .int .i64 b] w fun rv w' => rv = .returned (.tuple #[.bool false, .bool false]) ∧ Ext w w' := by
  go_enter Tryd.func43, Tryd.ntmps43
  go_wp2_with (go_at_call 85; refine (byTimes_no e f a b hg _ (hT.ext Ext.auK)).mono ?_; rintro rv w1 ⟨rfl, hb⟩; have ns : w.heap.size < w1.heap.size := hb.ltK; have n0 : w1.cell? ⟨w.heap.size, 0, none⟩ = some (.int .i64 e) := hb.cellK; have n1 : w1.cell? ⟨w.heap.size, 1, none⟩ = some (.int .i64 f) := hb.cellK; (first | (have nx := Ext.trans hx hb; clear hx) | (have nx := Ext.trans (hx.alloc _) hb; clear hx) | (have nx := Ext.trans hx.drew hb; clear hx) | have nx := hb); clear hb; try clear hs; try clear g0; try clear g1; have hx := nx; clear nx; have hs := ns; clear ns; have g0 := n0; clear n0; have g1 := n1; clear n1)
  go_ret2
  exact ⟨rfl, Ext.auK⟩

theorem iExactTimes_yes (e f a b : Int) (hg : fpB e f a b = true) (w : World) (hT : TW w) : Calls Tryd.prog 43 #[fmt e f, .int .i64 a, .int .i64 b] w fun rv w' => rv = .returned (.tuple #[.bool (exB e f ((odV (odV (unitsV e f a) * odV (unitsV e f b))).natAbs : Int) ((shE (odV (unitsV e f a) * odV (unitsV e f b)) (shE (unitsV e f a) (unV e f) + shE (unitsV e f b) (unV e f))) - (unV e f))), .bool true]) ∧ Ext w w' := by
  go_enter Tryd.func43, Tryd.ntmps43
  go_wp2_with (go_at_call 85; refine (byTimes_yes e f a b hg _ (hT.ext Ext.auK)).mono ?_; rintro rv w1 ⟨rfl, hb⟩; have ns : w.heap.size < w1.heap.size := hb.ltK; have n0 : w1.cell? ⟨w.heap.size, 0, none⟩ = some (.int .i64 e) := hb.cellK; have n1 : w1.cell? ⟨w.heap.size, 1, none⟩ = some (.int .i64 f) := hb.cellK; (first | (have nx := Ext.trans hx hb; clear hx) | (have nx := Ext.trans (hx.alloc _) hb; clear hx) | (have nx := Ext.trans hx.drew hb; clear hx) | have nx := hb); clear hb; try clear hs; try clear g0; try clear g1; have hx := nx; clear nx; have hs := ns; clear ns; have g0 := n0; clear n0; have g1 := n1; clear n1)
  go_ret2
  exact ⟨rfl, Ext.auK⟩

theorem sExactTimes_no (e f a b : Int) (hg : fpB e f a b = false) (w : World) : Calls Tryd.prog 42 #[fmt e f, .int .i64 a, .int .i64 b] w fun rv w' => rv = .returned (.tuple #[.bool false, .bool false]) ∧ Ext w w' := by
  cases fa : finB e f a
  · go_enter Tryd.func42, Tryd.ntmps42
    go_wp2_with (go_at_call 54; refine (fmFinite_any e f _ _).mono ?_; rintro rv w1 ⟨rfl, hb⟩; have ns : w.heap.size < w1.heap.size := hb.ltK; have n0 : w1.cell? ⟨w.heap.size, 0, none⟩ = some (.int .i64 e) := hb.cellK; have n1 : w1.cell? ⟨w.heap.size, 1, none⟩ = some (.int .i64 f) := hb.cellK; (first | (have nx := Ext.trans hx hb; clear hx) | (have nx := Ext.trans (hx.alloc _) hb; clear hx) | (have nx := Ext.trans hx.drew hb; clear hx) | have nx := hb); clear hb; try clear hs; try clear g0; try clear g1; have hx := nx; clear nx; have hs := ns; clear ns; have g0 := n0; clear n0; have g1 := n1; clear n1)
    go_ret2
    exact ⟨rfl, Ext.auK⟩
  · have fb : finB e f b = false := by unfold fpB at hg; rw [fa] at hg; simpa using hg
    go_enter Tryd.func42, Tryd.ntmps42
    go_wp2_with (go_at_call 54; refine (fmFinite_any e f _ _).mono ?_; rintro rv w1 ⟨rfl, hb⟩; have ns : w.heap.size < w1.heap.size := hb.ltK; have n0 : w1.cell? ⟨w.heap.size, 0, none⟩ = some (.int .i64 e) := hb.cellK; have n1 : w1.cell? ⟨w.heap.size, 1, none⟩ = some (.int .i64 f) := hb.cellK; (first | (have nx := Ext.trans hx hb; clear hx) | (have nx := Ext.trans (hx.alloc _) hb; clear hx) | (have nx := Ext.trans hx.drew hb; clear hx) | have nx := hb); clear hb; try clear hs; try clear g0; try clear g1; have hx := nx; clear nx; have hs := ns; clear ns; have g0 := n0; clear n0; have g1 := n1; clear n1)
    go_ret2
    exact ⟨rfl, Ext.auK⟩

theorem lt_alloc {w : World} {A : Obj} {k : Nat} (h : k < w.heap.size) : k < (w.alloc A).heap.size := by rw [World.size_alloc]; omega

theorem frz_alloc_before (w : World) (A : Obj) (k o : Nat) (h : k < w.heap.size) : (w.alloc A).frozen? ⟨k, o, none⟩ = w.frozen? ⟨k, o, none⟩ := (Ext.new w A).frz k o h

theorem Ext.new2b {X b : World} {B : Obj} {u v : Value} {t : TypeId} (h : Ext ((X.alloc (.cells #[u, v] t)).alloc B) b) : b.cell? ⟨X.heap.size, 0, none⟩ = some u ∧ b.cell? ⟨X.heap.size, 1, none⟩ = some v ∧ b.frozen? ⟨X.heap.size, 0, none⟩ = false ∧ b.frozen? ⟨X.heap.size, 1, none⟩ = false ∧ X.heap.size < b.heap.size :=
  Ext.new2 (Ext.trans (Ext.new _ B) h)

theorem Ext.new2bd {X b : World} {B : Obj} {u v : Value} {t : TypeId} (h : Ext ((X.alloc (.cells #[u, v] t)).alloc B).drew b) : b.cell? ⟨X.heap.size, 0, none⟩ = some u ∧ b.cell? ⟨X.heap.size, 1, none⟩ = some v ∧ b.frozen? ⟨X.heap.size, 0, none⟩ = false ∧ b.frozen? ⟨X.heap.size, 1, none⟩ = false ∧ X.heap.size < b.heap.size :=
  Ext.new2b (Ext.trans (Ext.drew (Ext.refl _)) h)

set_option maxHeartbeats 3200000 in
theorem sExactTimes_yes (e f a b : Int) (hg : fpB e f a b = true) (w : World) : Calls Tryd.prog 42 #[fmt e f, .int .i64 a, .int .i64 b] w fun rv w' => rv = .returned (.tuple #[.bool (exB e f ((odV (odV (unitsV e f a) * odV (unitsV e f b))).natAbs : Int) ((shE (odV (unitsV e f a) * odV (unitsV e f b)) (shE (unitsV e f a) (unV e f) + shE (unitsV e f b) (unV e f))) - (unV e f))), .bool true]) ∧ Ext w w' := by
  unfold fpB at hg
  rw [Bool.and_eq_true] at hg
  obtain ⟨fa, fb⟩ := hg
  obtain ⟨pa, _⟩ := fin_pat fa
  obtain ⟨pb, _⟩ := fin_pat fb
  have g0 := (pat_iff.1 pa).1
  obtain ⟨ua0, ua1⟩ := units_bd e f a pa
  obtain ⟨ub0, ub1⟩ := units_bd e f b pb
  obtain ⟨u1, u2, u3, u4⟩ := un_bd g0
  obtain ⟨_, _, _, ⟨y1, y2⟩, y3, y4, dd⟩ := pr_units pa pb
  have kp : IntKind.i64.wrap (odV (unitsV e f a) * odV (unitsV e f b)) = odV (unitsV e f a) * odV (unitsV e f b) := IntWalk.i64_in _ (by omega)
  have ks : IntKind.i64.wrap (shE (unitsV e f a) (unV e f) + shE (unitsV e f b) (unV e f)) = shE (unitsV e f a) (unV e f) + shE (unitsV e f b) (unV e f) := IntWalk.i64_in _ (by omega)
  have RS := Lib.hid (fun w => rdShort_any (odV (unitsV e f a) * odV (unitsV e f b)) (shE (unitsV e f a) (unV e f) + shE (unitsV e f b) (unV e f)) (by omega) (by omega) (by omega) (by omega) w)
  have XC := Lib.hid (fun w => rdExact_any e f (odV (odV (unitsV e f a) * odV (unitsV e f b))) (shE (odV (unitsV e f a) * odV (unitsV e f b)) (shE (unitsV e f a) (unV e f) + shE (unitsV e f b) (unV e f))) g0 (rd_dy g0 dd) w)
  go_enter Tryd.func42, Tryd.ntmps42
  go_wp2_with (go_at_call 54; refine (fmFinite_any e f _ _).mono ?_; rintro rv w1 ⟨rfl, hb⟩; have ns : w.heap.size < w1.heap.size := hb.ltK; have n0 : w1.cell? ⟨w.heap.size, 0, none⟩ = some (.int .i64 e) := hb.cellK; have n1 : w1.cell? ⟨w.heap.size, 1, none⟩ = some (.int .i64 f) := hb.cellK; (first | (have nx := Ext.trans hx hb; clear hx) | (have nx := Ext.trans (hx.alloc _) hb; clear hx) | (have nx := Ext.trans hx.drew hb; clear hx) | have nx := hb); clear hb; try clear hs; try clear g0; try clear g1; have hx := nx; clear nx; have hs := ns; clear ns; have g0 := n0; clear n0; have g1 := n1; clear n1)
  go_upto_region 3 with fail
  go_cut [8, 9] (fun s8 s9 wx => ∃ g h : Nat, s8 = .pointer (some ⟨g, 0, none⟩) ∧ s9 = .pointer (some ⟨h, 0, none⟩) ∧ wx.cell? ⟨g, 0, none⟩ = some (.int .i64 (odV (unitsV e f a))) ∧ wx.cell? ⟨g, 1, none⟩ = some (.int .i64 (shE (unitsV e f a) (unV e f))) ∧ wx.cell? ⟨h, 0, none⟩ = some (.int .i64 (odV (unitsV e f b))) ∧ wx.cell? ⟨h, 1, none⟩ = some (.int .i64 (shE (unitsV e f b) (unV e f))) ∧ wx.cell? ⟨w.heap.size, 0, none⟩ = some (.int .i64 e) ∧ wx.cell? ⟨w.heap.size, 1, none⟩ = some (.int .i64 f) ∧ w.heap.size < wx.heap.size ∧ g < wx.heap.size ∧ h < wx.heap.size ∧ Ext w wx)
  case first =>
    go_region_held3 (fun w' => w'.cell? ⟨w.heap.size, 0, none⟩ = some (.int .i64 e) ∧ w'.cell? ⟨w.heap.size, 1, none⟩ = some (.int .i64 f) ∧ w.heap.size < w'.heap.size) ((refine ⟨?_, ?_, ?_⟩ <;> first | with_reducible assumption | ((repeat first | rw [cell_set_far _ _ _ _ _ _ (by omega)] | rw [cell_alloc_before _ _ _ _ (by omega)] | rw [cell_alloc_drew _ _ _ _ (by omega)] | rw [cell_drew]); with_reducible assumption) | ((rw [cell_setRow_far _ _ _ _ _ (by omega)]); with_reducible assumption) | ((rw [setRow_size]); with_reducible assumption) | (simp; done) | (simp [World.setCell]; first | done | omega) | (simp [go_sem, World.cell?_alloc_past, World.cell?_setCell_far, *]; done))) ((first | (go_at_call 55; (with_reducible refine (rdValue_any e f a fa _).mono ?_); rintro rv w1 ⟨rfl, hb⟩; (first | ((first | (have ok0 := (hb.cells _ _ kt).trans k0) | (have ok0 := (hb.cells _ _ (lt_alloc kt)).trans ((cell_alloc_before _ _ _ _ kt).trans k0)) | (have ok0 := (hb.cells _ _ (lt_alloc (lt_alloc kt))).trans ((cell_alloc_before _ _ _ _ (lt_alloc kt)).trans ((cell_alloc_before _ _ _ _ kt).trans k0)))); (first | (have ok1 := (hb.cells _ _ kt).trans k1) | (have ok1 := (hb.cells _ _ (lt_alloc kt)).trans ((cell_alloc_before _ _ _ _ kt).trans k1)) | (have ok1 := (hb.cells _ _ (lt_alloc (lt_alloc kt))).trans ((cell_alloc_before _ _ _ _ (lt_alloc kt)).trans ((cell_alloc_before _ _ _ _ kt).trans k1)))); (first | (have okz0 := (hb.frz _ _ kt).trans kz0) | (have okz0 := (hb.frz _ _ (lt_alloc kt)).trans ((frz_alloc_before _ _ _ _ kt).trans kz0)) | (have okz0 := (hb.frz _ _ (lt_alloc (lt_alloc kt))).trans ((frz_alloc_before _ _ _ _ (lt_alloc kt)).trans ((frz_alloc_before _ _ _ _ kt).trans kz0)))); (first | (have okz1 := (hb.frz _ _ kt).trans kz1) | (have okz1 := (hb.frz _ _ (lt_alloc kt)).trans ((frz_alloc_before _ _ _ _ kt).trans kz1)) | (have okz1 := (hb.frz _ _ (lt_alloc (lt_alloc kt))).trans ((frz_alloc_before _ _ _ _ (lt_alloc kt)).trans ((frz_alloc_before _ _ _ _ kt).trans kz1)))); (first | (have ot := hb.lt kt) | (have ot := hb.lt (lt_alloc kt)) | (have ot := hb.lt (lt_alloc (lt_alloc kt)))); clear k0 k1 kz0 kz1; have k0 := ok0; have k1 := ok1; have kz0 := okz0; have kz1 := okz1; have kt := ot; clear ok0 ok1 okz0 okz1 ot) | skip); (first | ((first | (have om0 := (hb.cells _ _ mt).trans m0) | (have om0 := (hb.cells _ _ (lt_alloc mt)).trans ((cell_alloc_before _ _ _ _ mt).trans m0)) | (have om0 := (hb.cells _ _ (lt_alloc (lt_alloc mt))).trans ((cell_alloc_before _ _ _ _ (lt_alloc mt)).trans ((cell_alloc_before _ _ _ _ mt).trans m0)))); (first | (have om1 := (hb.cells _ _ mt).trans m1) | (have om1 := (hb.cells _ _ (lt_alloc mt)).trans ((cell_alloc_before _ _ _ _ mt).trans m1)) | (have om1 := (hb.cells _ _ (lt_alloc (lt_alloc mt))).trans ((cell_alloc_before _ _ _ _ (lt_alloc mt)).trans ((cell_alloc_before _ _ _ _ mt).trans m1)))); (first | (have omz0 := (hb.frz _ _ mt).trans mz0) | (have omz0 := (hb.frz _ _ (lt_alloc mt)).trans ((frz_alloc_before _ _ _ _ mt).trans mz0)) | (have omz0 := (hb.frz _ _ (lt_alloc (lt_alloc mt))).trans ((frz_alloc_before _ _ _ _ (lt_alloc mt)).trans ((frz_alloc_before _ _ _ _ mt).trans mz0)))); (first | (have omz1 := (hb.frz _ _ mt).trans mz1) | (have omz1 := (hb.frz _ _ (lt_alloc mt)).trans ((frz_alloc_before _ _ _ _ mt).trans mz1)) | (have omz1 := (hb.frz _ _ (lt_alloc (lt_alloc mt))).trans ((frz_alloc_before _ _ _ _ (lt_alloc mt)).trans ((frz_alloc_before _ _ _ _ mt).trans mz1)))); (first | (have ot := hb.lt mt) | (have ot := hb.lt (lt_alloc mt)) | (have ot := hb.lt (lt_alloc (lt_alloc mt)))); clear m0 m1 mz0 mz1; have m0 := om0; have m1 := om1; have mz0 := omz0; have mz1 := omz1; have mt := ot; clear om0 om1 omz0 omz1 ot; (first | (have _q := k0; clear _q) | (first | (have q2 := Ext.new2 hb; obtain ⟨k0, k1, kz0, kz1, kt⟩ := q2; try simp only [World.size_alloc, World.size_drew, Nat.add_assoc, Nat.reduceAdd] at k0 k1 kz0 kz1 kt) | (have q2 := Ext.new2d hb; obtain ⟨k0, k1, kz0, kz1, kt⟩ := q2; try simp only [World.size_alloc, World.size_drew, Nat.add_assoc, Nat.reduceAdd] at k0 k1 kz0 kz1 kt)) | skip)) | ((first | (have q2 := Ext.new2 hb; obtain ⟨m0, m1, mz0, mz1, mt⟩ := q2; try simp only [World.size_alloc, World.size_drew, Nat.add_assoc, Nat.reduceAdd] at m0 m1 mz0 mz1 mt) | (have q2 := Ext.new2d hb; obtain ⟨m0, m1, mz0, mz1, mt⟩ := q2; try simp only [World.size_alloc, World.size_drew, Nat.add_assoc, Nat.reduceAdd] at m0 m1 mz0 mz1 mt)); (first | (first | (have q2 := Ext.new2b hb; obtain ⟨k0, k1, kz0, kz1, kt⟩ := q2; try simp only [World.size_alloc, World.size_drew, Nat.add_assoc, Nat.reduceAdd] at k0 k1 kz0 kz1 kt) | (have q2 := Ext.new2bd hb; obtain ⟨k0, k1, kz0, kz1, kt⟩ := q2; try simp only [World.size_alloc, World.size_drew, Nat.add_assoc, Nat.reduceAdd] at k0 k1 kz0 kz1 kt)) | skip)) | skip); have ns : w.heap.size < w1.heap.size := hb.ltK; have n0 : w1.cell? ⟨w.heap.size, 0, none⟩ = some (.int .i64 e) := hb.cellK; have n1 : w1.cell? ⟨w.heap.size, 1, none⟩ = some (.int .i64 f) := hb.cellK; (first | (have nx := Ext.trans hx hb; clear hx) | (have nx := Ext.trans (hx.alloc _) hb; clear hx) | (have nx := Ext.trans hx.drew hb; clear hx) | have nx := hb); clear hb; try clear hs; try clear g0; try clear g1; have hx := nx; clear nx; have hs := ns; clear ns; have g0 := n0; clear n0; have g1 := n1; clear n1) | (go_at_call 55; (with_reducible refine (rdValue_any e f b fb _).mono ?_); rintro rv w1 ⟨rfl, hb⟩; (first | ((first | (have ok0 := (hb.cells _ _ kt).trans k0) | (have ok0 := (hb.cells _ _ (lt_alloc kt)).trans ((cell_alloc_before _ _ _ _ kt).trans k0)) | (have ok0 := (hb.cells _ _ (lt_alloc (lt_alloc kt))).trans ((cell_alloc_before _ _ _ _ (lt_alloc kt)).trans ((cell_alloc_before _ _ _ _ kt).trans k0)))); (first | (have ok1 := (hb.cells _ _ kt).trans k1) | (have ok1 := (hb.cells _ _ (lt_alloc kt)).trans ((cell_alloc_before _ _ _ _ kt).trans k1)) | (have ok1 := (hb.cells _ _ (lt_alloc (lt_alloc kt))).trans ((cell_alloc_before _ _ _ _ (lt_alloc kt)).trans ((cell_alloc_before _ _ _ _ kt).trans k1)))); (first | (have okz0 := (hb.frz _ _ kt).trans kz0) | (have okz0 := (hb.frz _ _ (lt_alloc kt)).trans ((frz_alloc_before _ _ _ _ kt).trans kz0)) | (have okz0 := (hb.frz _ _ (lt_alloc (lt_alloc kt))).trans ((frz_alloc_before _ _ _ _ (lt_alloc kt)).trans ((frz_alloc_before _ _ _ _ kt).trans kz0)))); (first | (have okz1 := (hb.frz _ _ kt).trans kz1) | (have okz1 := (hb.frz _ _ (lt_alloc kt)).trans ((frz_alloc_before _ _ _ _ kt).trans kz1)) | (have okz1 := (hb.frz _ _ (lt_alloc (lt_alloc kt))).trans ((frz_alloc_before _ _ _ _ (lt_alloc kt)).trans ((frz_alloc_before _ _ _ _ kt).trans kz1)))); (first | (have ot := hb.lt kt) | (have ot := hb.lt (lt_alloc kt)) | (have ot := hb.lt (lt_alloc (lt_alloc kt)))); clear k0 k1 kz0 kz1; have k0 := ok0; have k1 := ok1; have kz0 := okz0; have kz1 := okz1; have kt := ot; clear ok0 ok1 okz0 okz1 ot) | skip); (first | ((first | (have om0 := (hb.cells _ _ mt).trans m0) | (have om0 := (hb.cells _ _ (lt_alloc mt)).trans ((cell_alloc_before _ _ _ _ mt).trans m0)) | (have om0 := (hb.cells _ _ (lt_alloc (lt_alloc mt))).trans ((cell_alloc_before _ _ _ _ (lt_alloc mt)).trans ((cell_alloc_before _ _ _ _ mt).trans m0)))); (first | (have om1 := (hb.cells _ _ mt).trans m1) | (have om1 := (hb.cells _ _ (lt_alloc mt)).trans ((cell_alloc_before _ _ _ _ mt).trans m1)) | (have om1 := (hb.cells _ _ (lt_alloc (lt_alloc mt))).trans ((cell_alloc_before _ _ _ _ (lt_alloc mt)).trans ((cell_alloc_before _ _ _ _ mt).trans m1)))); (first | (have omz0 := (hb.frz _ _ mt).trans mz0) | (have omz0 := (hb.frz _ _ (lt_alloc mt)).trans ((frz_alloc_before _ _ _ _ mt).trans mz0)) | (have omz0 := (hb.frz _ _ (lt_alloc (lt_alloc mt))).trans ((frz_alloc_before _ _ _ _ (lt_alloc mt)).trans ((frz_alloc_before _ _ _ _ mt).trans mz0)))); (first | (have omz1 := (hb.frz _ _ mt).trans mz1) | (have omz1 := (hb.frz _ _ (lt_alloc mt)).trans ((frz_alloc_before _ _ _ _ mt).trans mz1)) | (have omz1 := (hb.frz _ _ (lt_alloc (lt_alloc mt))).trans ((frz_alloc_before _ _ _ _ (lt_alloc mt)).trans ((frz_alloc_before _ _ _ _ mt).trans mz1)))); (first | (have ot := hb.lt mt) | (have ot := hb.lt (lt_alloc mt)) | (have ot := hb.lt (lt_alloc (lt_alloc mt)))); clear m0 m1 mz0 mz1; have m0 := om0; have m1 := om1; have mz0 := omz0; have mz1 := omz1; have mt := ot; clear om0 om1 omz0 omz1 ot; (first | (have _q := k0; clear _q) | (first | (have q2 := Ext.new2 hb; obtain ⟨k0, k1, kz0, kz1, kt⟩ := q2; try simp only [World.size_alloc, World.size_drew, Nat.add_assoc, Nat.reduceAdd] at k0 k1 kz0 kz1 kt) | (have q2 := Ext.new2d hb; obtain ⟨k0, k1, kz0, kz1, kt⟩ := q2; try simp only [World.size_alloc, World.size_drew, Nat.add_assoc, Nat.reduceAdd] at k0 k1 kz0 kz1 kt)) | skip)) | ((first | (have q2 := Ext.new2 hb; obtain ⟨m0, m1, mz0, mz1, mt⟩ := q2; try simp only [World.size_alloc, World.size_drew, Nat.add_assoc, Nat.reduceAdd] at m0 m1 mz0 mz1 mt) | (have q2 := Ext.new2d hb; obtain ⟨m0, m1, mz0, mz1, mt⟩ := q2; try simp only [World.size_alloc, World.size_drew, Nat.add_assoc, Nat.reduceAdd] at m0 m1 mz0 mz1 mt)); (first | (first | (have q2 := Ext.new2b hb; obtain ⟨k0, k1, kz0, kz1, kt⟩ := q2; try simp only [World.size_alloc, World.size_drew, Nat.add_assoc, Nat.reduceAdd] at k0 k1 kz0 kz1 kt) | (have q2 := Ext.new2bd hb; obtain ⟨k0, k1, kz0, kz1, kt⟩ := q2; try simp only [World.size_alloc, World.size_drew, Nat.add_assoc, Nat.reduceAdd] at k0 k1 kz0 kz1 kt)) | skip)) | skip); have ns : w.heap.size < w1.heap.size := hb.ltK; have n0 : w1.cell? ⟨w.heap.size, 0, none⟩ = some (.int .i64 e) := hb.cellK; have n1 : w1.cell? ⟨w.heap.size, 1, none⟩ = some (.int .i64 f) := hb.cellK; (first | (have nx := Ext.trans hx hb; clear hx) | (have nx := Ext.trans (hx.alloc _) hb; clear hx) | (have nx := Ext.trans hx.drew hb; clear hx) | have nx := hb); clear hb; try clear hs; try clear g0; try clear g1; have hx := nx; clear nx; have hs := ns; clear ns; have g0 := n0; clear n0; have g1 := n1; clear n1)))
    all_goals (go_wp2_with fail; go_meet; exact ⟨_, _, rfl, rfl, (by first | with_reducible assumption | (simp [go_sem, *]; done) | (simp [go_sem]; omega) | ((repeat first | rw [cell_set_far _ _ _ _ _ _ (by omega)] | rw [cell_alloc_before _ _ _ _ (by omega)] | rw [cell_alloc_drew _ _ _ _ (by omega)] | rw [cell_drew]); with_reducible assumption)), (by first | with_reducible assumption | (simp [go_sem, *]; done) | (simp [go_sem]; omega) | ((repeat first | rw [cell_set_far _ _ _ _ _ _ (by omega)] | rw [cell_alloc_before _ _ _ _ (by omega)] | rw [cell_alloc_drew _ _ _ _ (by omega)] | rw [cell_drew]); with_reducible assumption)), (by first | with_reducible assumption | (simp [go_sem, *]; done) | (simp [go_sem]; omega) | ((repeat first | rw [cell_set_far _ _ _ _ _ _ (by omega)] | rw [cell_alloc_before _ _ _ _ (by omega)] | rw [cell_alloc_drew _ _ _ _ (by omega)] | rw [cell_drew]); with_reducible assumption)), (by first | with_reducible assumption | (simp [go_sem, *]; done) | (simp [go_sem]; omega) | ((repeat first | rw [cell_set_far _ _ _ _ _ _ (by omega)] | rw [cell_alloc_before _ _ _ _ (by omega)] | rw [cell_alloc_drew _ _ _ _ (by omega)] | rw [cell_drew]); with_reducible assumption)), (by first | with_reducible assumption | (simp [go_sem, *]; done) | (simp [go_sem]; omega) | ((repeat first | rw [cell_set_far _ _ _ _ _ _ (by omega)] | rw [cell_alloc_before _ _ _ _ (by omega)] | rw [cell_alloc_drew _ _ _ _ (by omega)] | rw [cell_drew]); with_reducible assumption)), (by first | with_reducible assumption | (simp [go_sem, *]; done) | (simp [go_sem]; omega) | ((repeat first | rw [cell_set_far _ _ _ _ _ _ (by omega)] | rw [cell_alloc_before _ _ _ _ (by omega)] | rw [cell_alloc_drew _ _ _ _ (by omega)] | rw [cell_drew]); with_reducible assumption)), (by first | (simp [World.setCell]; done) | (simp [World.setCell]; omega) | omega), (by first | (simp [World.setCell]; done) | (simp [World.setCell]; omega) | omega), (by first | (simp [World.setCell]; done) | (simp [World.setCell]; omega) | omega), Ext.auK⟩)
  case rest =>
    obtain ⟨g, h, rfl, rfl, l0, l1, l2, l3, g0', g1', hs1, hg2, hh2, hx⟩ := hcut
    have hs : max w.heap.size (max g h) < wc.heap.size := by omega
    go_wp2_with fail
    go_region_held3 (fun w' => w'.cell? ⟨w.heap.size, 0, none⟩ = some (.int .i64 e) ∧ w'.cell? ⟨w.heap.size, 1, none⟩ = some (.int .i64 f) ∧ w'.cell? ⟨g, 0, none⟩ = some (.int .i64 (odV (unitsV e f a))) ∧ w'.cell? ⟨g, 1, none⟩ = some (.int .i64 (shE (unitsV e f a) (unV e f))) ∧ w'.cell? ⟨h, 0, none⟩ = some (.int .i64 (odV (unitsV e f b))) ∧ w'.cell? ⟨h, 1, none⟩ = some (.int .i64 (shE (unitsV e f b) (unV e f))) ∧ max w.heap.size (max g h) < w'.heap.size) ((refine ⟨?_, ?_, ?_, ?_, ?_, ?_, ?_⟩ <;> first | with_reducible assumption | ((repeat first | rw [cell_set_far _ _ _ _ _ _ (by omega)] | rw [cell_alloc_before _ _ _ _ (by omega)] | rw [cell_alloc_drew _ _ _ _ (by omega)] | rw [cell_drew]); with_reducible assumption) | ((rw [cell_setRow_far _ _ _ _ _ (by omega)]); with_reducible assumption) | ((rw [setRow_size]); with_reducible assumption) | (simp; done) | (simp [World.setCell]; first | done | omega) | (simp [go_sem, World.cell?_alloc_past, World.cell?_setCell_far, *]; done))) ((first | (go_at_call 51; refine (RS.out _).mono ?_; rintro rv w1 ⟨rfl, hb⟩; have ns : max w.heap.size (max g h) < w1.heap.size := hb.ltK; have n0 : w1.cell? ⟨w.heap.size, 0, none⟩ = some (.int .i64 e) := hb.cellK; have n1 : w1.cell? ⟨w.heap.size, 1, none⟩ = some (.int .i64 f) := hb.cellK; have n2 : w1.cell? ⟨g, 0, none⟩ = some (.int .i64 (odV (unitsV e f a))) := hb.cellK; have n3 : w1.cell? ⟨g, 1, none⟩ = some (.int .i64 (shE (unitsV e f a) (unV e f))) := hb.cellK; have n4 : w1.cell? ⟨h, 0, none⟩ = some (.int .i64 (odV (unitsV e f b))) := hb.cellK; have n5 : w1.cell? ⟨h, 1, none⟩ = some (.int .i64 (shE (unitsV e f b) (unV e f))) := hb.cellK; (first | (have nx := Ext.trans hx hb; clear hx) | (have nx := Ext.trans (hx.alloc _) hb; clear hx) | (have nx := Ext.trans hx.drew hb; clear hx) | have nx := hb); clear hb; try clear hs; try clear g0; try clear g1; try clear g2; try clear g3; try clear g4; try clear g5; have hx := nx; clear nx; have hs := ns; clear ns; have g0 := n0; clear n0; have g1 := n1; clear n1; have g2 := n2; clear n2; have g3 := n3; clear n3; have g4 := n4; clear n4; have g5 := n5; clear n5) | (go_at_call 68; refine (XC.out _).mono ?_; rintro rv w1 ⟨rfl, hb⟩; have ns : max w.heap.size (max g h) < w1.heap.size := hb.ltK; have n0 : w1.cell? ⟨w.heap.size, 0, none⟩ = some (.int .i64 e) := hb.cellK; have n1 : w1.cell? ⟨w.heap.size, 1, none⟩ = some (.int .i64 f) := hb.cellK; have n2 : w1.cell? ⟨g, 0, none⟩ = some (.int .i64 (odV (unitsV e f a))) := hb.cellK; have n3 : w1.cell? ⟨g, 1, none⟩ = some (.int .i64 (shE (unitsV e f a) (unV e f))) := hb.cellK; have n4 : w1.cell? ⟨h, 0, none⟩ = some (.int .i64 (odV (unitsV e f b))) := hb.cellK; have n5 : w1.cell? ⟨h, 1, none⟩ = some (.int .i64 (shE (unitsV e f b) (unV e f))) := hb.cellK; (first | (have nx := Ext.trans hx hb; clear hx) | (have nx := Ext.trans (hx.alloc _) hb; clear hx) | (have nx := Ext.trans hx.drew hb; clear hx) | have nx := hb); clear hb; try clear hs; try clear g0; try clear g1; try clear g2; try clear g3; try clear g4; try clear g5; have hx := nx; clear nx; have hs := ns; clear ns; have g0 := n0; clear n0; have g1 := n1; clear n1; have g2 := n2; clear n2; have g3 := n3; clear n3; have g4 := n4; clear n4; have g5 := n5; clear n5)))
    all_goals go_wp2_with fail
    all_goals go_ret2
    all_goals exact ⟨rfl, Ext.auK⟩
end Go.Proofs.YtcbkhlaiefiieabDoor

namespace Go.Proofs.YtcbkhlaiefiieabDoor
open Go Go.RowKit
set_option linter.unusedSimpArgs false
set_option linter.unusedVariables false

theorem hold_all : ((List.range 4).all fun a => (List.range 10).all fun b => (List.range 4).all fun c => (List.range 10).all fun d =>
    let e : Int := a + 2; let f : Int := b + 1; let e2 : Int := c + 2; let f2 : Int := d + 1;
    !(decide (f ≤ f2) && decide (unV e2 f2 ≤ unV e f)) || (decide (0 ≤ mgV f2 (grV e2 f2) * pw 149 - mgV f (grV e f) * pw (unV e f - unV e2 f2 + 149)) == decide (pw (e - 1) ≤ pw (e2 - 1)))) = true := by decide +kernel

theorem hold_here {e f e2 f2 : Int} (h1 : goodB e f = true) (h2 : goodB e2 f2 = true) (h3 : f ≤ f2) (h4 : unV e2 f2 ≤ unV e f) :
    decide (0 ≤ mgV f2 (grV e2 f2) * pw 149 - mgV f (grV e f) * pw (unV e f - unV e2 f2 + 149)) = decide (pw (e - 1) ≤ pw (e2 - 1)) := by
  obtain ⟨a1, a2, a3, a4⟩ := good_iff.1 h1
  obtain ⟨b1, b2, b3, b4⟩ := good_iff.1 h2
  have h := hold_all
  rw [List.all_eq_true] at h
  have h := h (e - 2).toNat (List.mem_range.2 (by omega))
  rw [List.all_eq_true] at h
  have h := h (f - 1).toNat (List.mem_range.2 (by omega))
  rw [List.all_eq_true] at h
  have h := h (e2 - 2).toNat (List.mem_range.2 (by omega))
  rw [List.all_eq_true] at h
  have h := h (f2 - 1).toNat (List.mem_range.2 (by omega))
  have e1 : (((e - 2).toNat : Nat) : Int) + 2 = e := by omega
  have e2' : (((f - 1).toNat : Nat) : Int) + 1 = f := by omega
  have e3 : (((e2 - 2).toNat : Nat) : Int) + 2 = e2 := by omega
  have e4 : (((f2 - 1).toNat : Nat) : Int) + 1 = f2 := by omega
  simp only [e1, e2', e3, e4, decide_eq_true h3, decide_eq_true h4, Bool.and_self, Bool.not_true, Bool.false_or, beq_iff_eq] at h
  exact h
end Go.Proofs.YtcbkhlaiefiieabDoor

