/-
  Contracts of the functions that the laws reach, and the plain facts that they rest on, each under the conditions that its line names; part 16.
-/
import Derived.Test.YtafkcgpfllloiaaDoorKLH1
import Derived.Test.YtafkcgpfllloiaaDoorKLH2
import Derived.Test.YtafkcgpfllloiaaDoorKLH3
import Derived.Test.YtafkcgpfllloiaaDoorKLH4
import Derived.Test.YtafkcgpfllloiaaDoorKLH5
import Derived.Test.YtafkcgpfllloiaaDoorKLH6
import Derived.Test.YtafkcgpfllloiaaDoorKLH7
import Derived.Test.YtafkcgpfllloiaaDoorKLH8
import Derived.Test.YtafkcgpfllloiaaDoorKLH9
import Derived.Test.YtafkcgpfllloiaaDoorKLH10
import Derived.Test.YtafkcgpfllloiaaDoorKLH11
import Derived.Test.YtafkcgpfllloiaaDoorKLH12
import Derived.Test.YtafkcgpfllloiaaDoorKLH13
import Derived.Test.YtafkcgpfllloiaaDoorKLH14
import Derived.Test.YtafkcgpfllloiaaDoorKLH15
import Derived.Test.YtafkcgpfllloiaaDoorRows
import Derived.WalkKit
import Derived.LoopTactic
import Derived.Laws.Bits64b
import Derived.WalkSpells
import Derived.WalkLawsBesides
import Derived.StillTactics
import Derived.Laws.Pointers
import Derived.Deep.RegionHeld3
import Derived.Deep.QuietTactic
import Derived.BigQuiet
import Derived.Outline
import Derived.Lib.Hide
import Derived.RowKit3
import Derived.Carry
import Derived.IntWalk
import Derived.Laws.BitsAllLaws
import Ieee.Arith
import Derived.Laws.FloatArith
import Derived.ScopeJumps
import Derived.WalkMore
namespace Go.Proofs.YtafkcgpfllloiaaDoor
open Go Go.RowKit
set_option linter.unusedSimpArgs false
set_option linter.unusedVariables false

/-- A number of units with a sign. -/
def vsV (n m : Int) : Int := if n < 0 then -m else m

theorem sg_parts {e f n s : Int} (hg : goodB e f = true) (s0 : 0 ≤ s) (s1 : s ≤ grV e f) : patB e f (sgP e f n s) = true ∧ sgP e f n s % pw (e + f) = s ∧ sgP e f n s / pw (e + f) = (if n < 0 then 1 else 0) := by
  obtain ⟨g0, g1, g2⟩ := gr_bd2 hg
  have hP : pw (e + f) ≠ 0 := by omega
  unfold sgP
  by_cases hn : n < 0
  · rw [if_pos hn, if_pos hn]
    refine ⟨pat_iff.2 ⟨hg, by omega, by omega⟩, ?_, ?_⟩
    · rw [Int.add_emod_left]; exact Int.emod_eq_of_lt s0 (by omega)
    · rw [Int.add_ediv_of_dvd_left (Int.dvd_refl _), Int.ediv_self hP, Int.ediv_eq_zero_of_lt s0 (by omega)]; rfl
  · rw [if_neg hn, if_neg hn]
    exact ⟨pat_iff.2 ⟨hg, by omega, by omega⟩, Int.emod_eq_of_lt s0 (by omega), Int.ediv_eq_zero_of_lt s0 (by omega)⟩

theorem fin_sg {e f n s : Int} (hg : goodB e f = true) (s0 : 0 ≤ s) (s1 : s ≤ grV e f) : finB e f (sgP e f n s) = true := by
  obtain ⟨hp, hm, _⟩ := sg_parts (n := n) hg s0 s1
  unfold finB
  rw [hp, hm, Bool.true_and, decide_eq_true_eq]
  exact (p_parts hg s0 s1).2.2.1

theorem mag_sg {e f p : Int} (hp : patB e f p = true) : magV e f p = magV e f (p % pw (e + f)) := by
  obtain ⟨hg, p0, p1⟩ := pat_iff.1 hp
  obtain ⟨h1, h2, h3, h4⟩ := good_iff.1 hg
  have hd : pw (e + f) = pw e * pw f := pw_add e f (by omega) (by omega)
  have hm : p % pw (e + f) % pw f = p % pw f := by
    rw [hd]
    exact Int.emod_emod_of_dvd p ⟨pw e, Int.mul_comm _ _⟩
  unfold magV
  rw [Int.emod_emod, hm]

theorem units_sg {e f n s : Int} (hg : goodB e f = true) (s0 : 0 ≤ s) (s1 : s ≤ grV e f) : unitsV e f (sgP e f n s) = vsV n (mgV f s) := by
  obtain ⟨hp, hm, hs⟩ := sg_parts (n := n) hg s0 s1
  obtain ⟨g0, g1, g2⟩ := gr_bd2 hg
  have hp2 : patB e f s = true := pat_iff.2 ⟨hg, s0, by omega⟩
  have hu := units_mg e f s hp2 (by omega)
  have hq : s / pw (e + f) = 0 := Int.ediv_eq_zero_of_lt s0 (by omega)
  have e1 : magV e f s = mgV f s := by
    rw [← hu]
    unfold unitsV
    rw [hq]
    simp
  unfold unitsV vsV
  rw [mag_sg hp, hm, hs, e1]
  by_cases hn : n < 0
  · rw [if_pos hn, if_pos hn]; rfl
  · rw [if_neg hn, if_neg hn]; rfl

theorem ival_sg (e f n s : Int) (hg : goodB e f = true) (s0 : 0 ≤ s) (s1 : s ≤ grV e f) (w : World) (hT : TW w) : Calls Tryd.prog 26 #[fmt e f, .int .i64 (sgP e f n s)] w fun rv w' => rv = .returned (.tuple #[two (odV (vsV n (mgV f s))) (shE (vsV n (mgV f s)) (unV e f)), .bool true]) ∧ Ext w w' := by
  have := iValueOf_yes e f (sgP e f n s) (fin_sg hg s0 s1) w hT
  rwa [units_sg hg s0 s1] at this
end Go.Proofs.YtafkcgpfllloiaaDoor

namespace Go.Proofs.YtafkcgpfllloiaaDoor
open Go Go.RowKit
set_option linter.unusedSimpArgs false
set_option linter.unusedVariables false

theorem ival_pos (e f s : Int) (hg : goodB e f = true) (s0 : 0 ≤ s) (s1 : s ≤ grV e f) (w : World) (hT : TW w) : Calls Tryd.prog 26 #[fmt e f, .int .i64 s] w fun rv w' => rv = .returned (.tuple #[two (odV (mgV f s)) (shE (mgV f s) (unV e f)), .bool true]) ∧ Ext w w' := by
  have := ival_sg e f 0 s hg s0 s1 w hT
  rwa [show sgP e f 0 s = s from if_neg (by decide), show vsV 0 (mgV f s) = mgV f s from if_neg (by decide)] at this

set_option maxHeartbeats 1600000 in
theorem compareValue_any (e f s n d : Int) (hg : goodB e f = true) (hd : dyB n d = true) (s0 : 0 ≤ s) (s1 : s ≤ grV e f) (w : World) (hT : TW w) : Calls Tryd.prog 28 #[fmt e f, .int .i64 s, two n d] w fun rv w' => rv = .returned (.int .i64 (sgV (mgV f s * pw 149 - n * pw ((d - unV e f) + 149)))) ∧ Ext w w' := by
  obtain ⟨m0, m1⟩ := mg_bd hg s0 s1
  obtain ⟨u1, u2, u3, u4⟩ := un_bd hg
  obtain ⟨⟨_, _, d1, d2⟩, _⟩ := dy_iff.1 hd
  have hv := dy_low (m := mgV f s) (u := unV e f) (by omega) (by omega) (by omega) (by omega)
  have hc := cmp_val (m := mgV f s) (N := n) (u := unV e f) (d := d) (by omega) (by omega) (by omega) (by omega) d1 (by omega)
  have IV := Lib.hid (fun w hT => ival_pos e f s hg s0 s1 w hT)
  have CD := Lib.hid (fun w => iCompareDyadic_yes (odV (mgV f s)) (shE (mgV f s) (unV e f)) n d (dy2_iff.2 ⟨hv, hd⟩) w)
  rw [hc] at CD
  clear hc
  go_enter Tryd.func28, Tryd.ntmps28
  go_wp2_with (first | (go_at_call 26; refine (IV.out _ (hT.ext (by repeat (first | exact Ext.refl _ | with_reducible assumption | apply Ext.alloc | apply Ext.drew | apply Ext.drewN | (refine Ext.setRow ?_ (by first | (simp; done) | (simp; omega) | omega) _) | (refine Ext.setCell ?_ (by first | (simp; done) | (simp; omega) | omega) _) | (refine Ext.trans ?_ (by with_reducible assumption)))))).mono ?_; rintro rv w1 ⟨rfl, hb⟩; have ns : w.heap.size + 1 < w1.heap.size := hb.lt (by first | with_reducible assumption | omega | (simp; done) | (simp; omega)); have n0 : w1.cell? ⟨w.heap.size, 0, none⟩ = some (.int .i64 e) := (hb.cells _ _ (by first | with_reducible assumption | omega | (simp; done) | (simp; omega))).trans (by first | with_reducible assumption | (simp; done) | (simp; with_reducible assumption) | (rw [cell_alloc_before _ _ _ _ (by omega)]; with_reducible assumption) | (simp [go_sem, *]; done)); have n1 : w1.cell? ⟨w.heap.size, 1, none⟩ = some (.int .i64 f) := (hb.cells _ _ (by first | with_reducible assumption | omega | (simp; done) | (simp; omega))).trans (by first | with_reducible assumption | (simp; done) | (simp; with_reducible assumption) | (rw [cell_alloc_before _ _ _ _ (by omega)]; with_reducible assumption) | (simp [go_sem, *]; done)); have n2 : w1.cell? ⟨w.heap.size + 1, 0, none⟩ = some (.int .i64 n) := (hb.cells _ _ (by first | with_reducible assumption | omega | (simp; done) | (simp; omega))).trans (by first | with_reducible assumption | (simp; done) | (simp; with_reducible assumption) | (rw [cell_alloc_before _ _ _ _ (by omega)]; with_reducible assumption) | (simp [go_sem, *]; done)); have n3 : w1.cell? ⟨w.heap.size + 1, 1, none⟩ = some (.int .i64 d) := (hb.cells _ _ (by first | with_reducible assumption | omega | (simp; done) | (simp; omega))).trans (by first | with_reducible assumption | (simp; done) | (simp; with_reducible assumption) | (rw [cell_alloc_before _ _ _ _ (by omega)]; with_reducible assumption) | (simp [go_sem, *]; done)); (first | (have nx := Ext.trans hx hb; clear hx) | (have nx := Ext.trans (hx.alloc _) hb; clear hx) | (have nx := Ext.trans hx.drew hb; clear hx) | have nx := hb); clear hb; try clear hs; try clear g0; try clear g1; try clear g2; try clear g3; have hx := nx; clear nx; have hs := ns; clear ns; have g0 := n0; clear n0; have g1 := n1; clear n1; have g2 := n2; clear n2; have g3 := n3; clear n3) | (go_at_call 53; refine (CD.out _).mono ?_; rintro rv w1 ⟨rfl, hb⟩; have ns : w.heap.size + 1 < w1.heap.size := hb.lt (by first | with_reducible assumption | omega | (simp; done) | (simp; omega)); have n0 : w1.cell? ⟨w.heap.size, 0, none⟩ = some (.int .i64 e) := (hb.cells _ _ (by first | with_reducible assumption | omega | (simp; done) | (simp; omega))).trans (by first | with_reducible assumption | (simp; done) | (simp; with_reducible assumption) | (rw [cell_alloc_before _ _ _ _ (by omega)]; with_reducible assumption) | (simp [go_sem, *]; done)); have n1 : w1.cell? ⟨w.heap.size, 1, none⟩ = some (.int .i64 f) := (hb.cells _ _ (by first | with_reducible assumption | omega | (simp; done) | (simp; omega))).trans (by first | with_reducible assumption | (simp; done) | (simp; with_reducible assumption) | (rw [cell_alloc_before _ _ _ _ (by omega)]; with_reducible assumption) | (simp [go_sem, *]; done)); have n2 : w1.cell? ⟨w.heap.size + 1, 0, none⟩ = some (.int .i64 n) := (hb.cells _ _ (by first | with_reducible assumption | omega | (simp; done) | (simp; omega))).trans (by first | with_reducible assumption | (simp; done) | (simp; with_reducible assumption) | (rw [cell_alloc_before _ _ _ _ (by omega)]; with_reducible assumption) | (simp [go_sem, *]; done)); have n3 : w1.cell? ⟨w.heap.size + 1, 1, none⟩ = some (.int .i64 d) := (hb.cells _ _ (by first | with_reducible assumption | omega | (simp; done) | (simp; omega))).trans (by first | with_reducible assumption | (simp; done) | (simp; with_reducible assumption) | (rw [cell_alloc_before _ _ _ _ (by omega)]; with_reducible assumption) | (simp [go_sem, *]; done)); (first | (have nx := Ext.trans hx hb; clear hx) | (have nx := Ext.trans (hx.alloc _) hb; clear hx) | (have nx := Ext.trans hx.drew hb; clear hx) | have nx := hb); clear hb; try clear hs; try clear g0; try clear g1; try clear g2; try clear g3; have hx := nx; clear nx; have hs := ns; clear ns; have g0 := n0; clear n0; have g1 := n1; clear n1; have g2 := n2; clear n2; have g3 := n3; clear n3))
  go_ret
  exact ⟨rfl, (by repeat (first | exact Ext.refl _ | with_reducible assumption | apply Ext.alloc | apply Ext.drew | apply Ext.drewN | (refine Ext.setRow ?_ (by first | (simp; done) | (simp; omega) | omega) _) | (refine Ext.setCell ?_ (by first | (simp; done) | (simp; omega) | omega) _) | (refine Ext.trans ?_ (by with_reducible assumption))))⟩
end Go.Proofs.YtafkcgpfllloiaaDoor

namespace Go.Proofs.YtafkcgpfllloiaaDoor
open Go Go.RowKit
set_option linter.unusedSimpArgs false
set_option linter.unusedVariables false

theorem hold_all : ((List.range 4).all fun a => (List.range 10).all fun b => (List.range 4).all fun c => (List.range 10).all fun d =>
    let e : Int := a + 2; let f : Int := b + 1; let e2 : Int := c + 2; let f2 : Int := d + 1;
    !(decide (f ≤ f2) && decide (unV e2 f2 ≤ unV e f)) || (decide (0 ≤ mgV f2 (grV e2 f2) * pw 149 - mgV f (grV e f) * pw (unV e f - unV e2 f2 + 149)) == decide (pw (e - 1) ≤ pw (e2 - 1)))) = true := by decide +kernel

theorem hold_here {e f e2 f2 : Int} (h1 : goodB e f = true) (h2 : goodB e2 f2 = true) (h3 : f ≤ f2) (h4 : unV e2 f2 ≤ unV e f) :
    decide (0 ≤ mgV f2 (grV e2 f2) * pw 149 - mgV f (grV e f) * pw (unV e f - unV e2 f2 + 149)) = decide (pw (e - 1) ≤ pw (e2 - 1)) := by
  obtain ⟨a1, a2, a3, a4⟩ := good_iff.1 h1
  obtain ⟨b1, b2, b3, b4⟩ := good_iff.1 h2
  have h := hold_all
  rw [List.all_eq_true] at h
  have h := h (e - 2).toNat (List.mem_range.2 (by omega))
  rw [List.all_eq_true] at h
  have h := h (f - 1).toNat (List.mem_range.2 (by omega))
  rw [List.all_eq_true] at h
  have h := h (e2 - 2).toNat (List.mem_range.2 (by omega))
  rw [List.all_eq_true] at h
  have h := h (f2 - 1).toNat (List.mem_range.2 (by omega))
  have e1 : (((e - 2).toNat : Nat) : Int) + 2 = e := by omega
  have e2' : (((f - 1).toNat : Nat) : Int) + 1 = f := by omega
  have e3 : (((e2 - 2).toNat : Nat) : Int) + 2 = e2 := by omega
  have e4 : (((f2 - 1).toNat : Nat) : Int) + 1 = f2 := by omega
  simp only [e1, e2', e3, e4, decide_eq_true h3, decide_eq_true h4, Bool.and_self, Bool.not_true, Bool.false_or, beq_iff_eq] at h
  exact h
end Go.Proofs.YtafkcgpfllloiaaDoor

