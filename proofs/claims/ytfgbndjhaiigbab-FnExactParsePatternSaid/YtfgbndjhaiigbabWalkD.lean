/-
  Contracts of the exported functions on patterns and fields, each under the conditions that its line names.
-/
import Derived.Test.YtfgbndjhaiigbabRows
import Derived.Test.YtfgbndjhaiigbabPlain
import Derived.Test.YtfgbndjhaiigbabWalkA
import Derived.Test.YtfgbndjhaiigbabWalkF
import Derived.Test.YtfgbndjhaiigbabWalkC
import Derived.WalkKit
import Derived.WalkSpells
import Derived.WalkLawsBesides
import Derived.StillTactics
import Derived.Laws.Pointers
import Derived.Deep.RegionHeld3
import Derived.Deep.QuietTactic
import Derived.BigQuiet
import Derived.Outline
import Derived.Lib.Hide
import Derived.RowKit3
import Derived.Carry
import Derived.IntWalk
namespace Go.Proofs.Ytfgbndjhaiigbab
open Go Go.RowKit
set_option linter.unusedSimpArgs false
set_option linter.unusedVariables false

theorem fields_facts {e f s x r : Int} (h1 : 2 ≤ e) (h2 : e ≤ 5) (h3 : 1 ≤ f) (h4 : f ≤ 10) (hs0 : 0 ≤ s) (hs1 : s ≤ 1) (hx0 : 0 ≤ x) (hx1 : x < pw e) (hr0 : 0 ≤ r) (hr1 : r < pw f) :
    (0 ≤ x * pw f ∧ x * pw f + r < pw (e + f)) ∧ (0 ≤ s * pw e ∧ s * pw e ≤ 32) ∧ (0 ≤ s * pw (e + f) ∧ s * pw (e + f) ≤ 32768) ∧ (s * pw e + x) * pw f = s * pw (e + f) + x * pw f ∧ 0 ≤ (s * pw e + x) * pw f ∧ (s * pw e + x) * pw f + r ≤ 65535 := by
  obtain ⟨⟨a1, a2⟩, ⟨b1, b2⟩, ⟨c1, c2⟩, hmul⟩ := pw_facts h1 h2 h3 h4
  have k1 : 0 ≤ x * pw f := Int.mul_nonneg hx0 (by omega)
  have k2 : (x + 1) * pw f ≤ pw e * pw f := Int.mul_le_mul_of_nonneg_right (by omega) (by omega)
  have k3 : (x + 1) * pw f = x * pw f + pw f := by rw [Int.add_mul, Int.one_mul]
  have k4 : (s * pw e + x) * pw f = s * pw (e + f) + x * pw f := by rw [Int.add_mul, Int.mul_assoc, ← hmul]
  have hs : s = 0 ∨ s = 1 := by omega
  rcases hs with rfl | rfl <;> simp only [Int.zero_mul, Int.one_mul] at * <;> refine ⟨⟨?_, ?_⟩, ⟨?_, ?_⟩, ⟨?_, ?_⟩, ?_, ?_, ?_⟩ <;> omega


theorem ret_ib {a b : Int} {c : Bool} (h : a = b) : Ending.returned (.tuple #[.int .i64 a, .bool c]) = .returned (.tuple #[.int .i64 b, .bool c]) := by rw [h]

theorem fmIs_any (e f p : Int) (w : World) : Calls Try.prog 13 #[fmt e f, .int .i64 p] w fun rv w' => rv = .returned (.bool (patB e f p)) ∧ Ext w w' := by
  cases hg : goodB e f
  · go_enter Try.func13, Try.ntmps13
    go_wp2_with (go_at_call 7; refine (fmGood_any e f _).mono ?_; rintro rv w1 ⟨rfl, hb⟩; have ns : w.heap.size < w1.heap.size := hb.lt (by first | with_reducible assumption | omega | (simp; done) | (simp; omega)); have n0 : w1.cell? ⟨w.heap.size, 0, none⟩ = some (.int .i64 e) := (hb.cells _ _ (by first | with_reducible assumption | omega | (simp; done) | (simp; omega))).trans (by first | with_reducible assumption | (simp; done) | (simp; with_reducible assumption) | (rw [cell_alloc_before _ _ _ _ (by omega)]; with_reducible assumption) | (simp [go_sem, *]; done)); have n1 : w1.cell? ⟨w.heap.size, 1, none⟩ = some (.int .i64 f) := (hb.cells _ _ (by first | with_reducible assumption | omega | (simp; done) | (simp; omega))).trans (by first | with_reducible assumption | (simp; done) | (simp; with_reducible assumption) | (rw [cell_alloc_before _ _ _ _ (by omega)]; with_reducible assumption) | (simp [go_sem, *]; done)); (first | (have nx := Ext.trans hx hb; clear hx) | (have nx := Ext.trans (hx.alloc _) hb; clear hx) | (have nx := Ext.trans hx.drew hb; clear hx) | have nx := hb); clear hb; try clear hs; try clear g0; try clear g1; have hx := nx; clear nx; have hs := ns; clear ns; have g0 := n0; clear n0; have g1 := n1; clear n1)
    go_ret
    exact ⟨ret_bool (by simp [patB, hg]), (by repeat (first | exact Ext.refl _ | with_reducible assumption | apply Ext.alloc | apply Ext.drew | apply Ext.drewN | (refine Ext.setRow ?_ (by first | (simp; done) | (simp; omega) | omega) _) | (refine Ext.setCell ?_ (by first | (simp; done) | (simp; omega) | omega) _) | (refine Ext.trans ?_ (by with_reducible assumption))))⟩
  · obtain ⟨h1, h2, h3, h4⟩ := good_iff.1 hg
    obtain ⟨⟨a1, a2⟩, ⟨b1, b2⟩, ⟨c1, c2⟩, hmul⟩ := pw_facts h1 h2 h3 h4
    clear hmul
    have k0 : pw (1 + e + f) = 2 * pw (e + f) := by rw [← pw_succ _ (by omega)]; congr 1; omega
    have k1 : (2 : Int) ^ (1 + e + f).toNat = 2 * pw (e + f) := k0
    clear k0
    go_enter Try.func13, Try.ntmps13
    go_wp2_with (first | (go_at_call 7; refine (fmGood_any e f _).mono ?_; rintro rv w1 ⟨rfl, hb⟩; have ns : w.heap.size < w1.heap.size := hb.lt (by first | with_reducible assumption | omega | (simp; done) | (simp; omega)); have n0 : w1.cell? ⟨w.heap.size, 0, none⟩ = some (.int .i64 e) := (hb.cells _ _ (by first | with_reducible assumption | omega | (simp; done) | (simp; omega))).trans (by first | with_reducible assumption | (simp; done) | (simp; with_reducible assumption) | (rw [cell_alloc_before _ _ _ _ (by omega)]; with_reducible assumption) | (simp [go_sem, *]; done)); have n1 : w1.cell? ⟨w.heap.size, 1, none⟩ = some (.int .i64 f) := (hb.cells _ _ (by first | with_reducible assumption | omega | (simp; done) | (simp; omega))).trans (by first | with_reducible assumption | (simp; done) | (simp; with_reducible assumption) | (rw [cell_alloc_before _ _ _ _ (by omega)]; with_reducible assumption) | (simp [go_sem, *]; done)); (first | (have nx := Ext.trans hx hb; clear hx) | (have nx := Ext.trans (hx.alloc _) hb; clear hx) | (have nx := Ext.trans hx.drew hb; clear hx) | have nx := hb); clear hb; try clear hs; try clear g0; try clear g1; have hx := nx; clear nx; have hs := ns; clear ns; have g0 := n0; clear n0; have g1 := n1; clear n1) | (go_at_call 12; refine (fmWidth_any e f hg _).mono ?_; rintro rv w1 ⟨rfl, hb⟩; have ns : w.heap.size < w1.heap.size := hb.lt (by first | with_reducible assumption | omega | (simp; done) | (simp; omega)); have n0 : w1.cell? ⟨w.heap.size, 0, none⟩ = some (.int .i64 e) := (hb.cells _ _ (by first | with_reducible assumption | omega | (simp; done) | (simp; omega))).trans (by first | with_reducible assumption | (simp; done) | (simp; with_reducible assumption) | (rw [cell_alloc_before _ _ _ _ (by omega)]; with_reducible assumption) | (simp [go_sem, *]; done)); have n1 : w1.cell? ⟨w.heap.size, 1, none⟩ = some (.int .i64 f) := (hb.cells _ _ (by first | with_reducible assumption | omega | (simp; done) | (simp; omega))).trans (by first | with_reducible assumption | (simp; done) | (simp; with_reducible assumption) | (rw [cell_alloc_before _ _ _ _ (by omega)]; with_reducible assumption) | (simp [go_sem, *]; done)); (first | (have nx := Ext.trans hx hb; clear hx) | (have nx := Ext.trans (hx.alloc _) hb; clear hx) | (have nx := Ext.trans hx.drew hb; clear hx) | have nx := hb); clear hb; try clear hs; try clear g0; try clear g1; have hx := nx; clear nx; have hs := ns; clear ns; have g0 := n0; clear n0; have g1 := n1; clear n1) | (go_at_call 11; refine (l1In_any _ _ _ _).mono ?_; rintro rv w1 ⟨rfl, rfl⟩))
    go_ret
    exact ⟨ret_bool (by rw [Bool.eq_iff_iff]; simp [patB, hg]; omega), (by repeat (first | exact Ext.refl _ | with_reducible assumption | apply Ext.alloc | apply Ext.drew | apply Ext.drewN | (refine Ext.setRow ?_ (by first | (simp; done) | (simp; omega) | omega) _) | (refine Ext.setCell ?_ (by first | (simp; done) | (simp; omega) | omega) _) | (refine Ext.trans ?_ (by with_reducible assumption))))⟩


end Go.Proofs.Ytfgbndjhaiigbab
