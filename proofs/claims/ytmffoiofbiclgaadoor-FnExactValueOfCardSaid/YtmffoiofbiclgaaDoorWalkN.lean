/-
  Contracts of the functions that tell neighbours, each under the conditions that its line names.
-/
import Derived.Test.YtmffoiofbiclgaaDoorRows
import Derived.Test.YtmffoiofbiclgaaDoorPlain
import Derived.Test.YtmffoiofbiclgaaDoorDefs
import Derived.Test.YtmffoiofbiclgaaDoorWalkA
import Derived.Test.YtmffoiofbiclgaaDoorWalkF
import Derived.Test.YtmffoiofbiclgaaDoorWalkC
import Derived.Test.YtmffoiofbiclgaaDoorWalkD
import Derived.Test.YtmffoiofbiclgaaDoorWalkE
import Derived.Test.YtmffoiofbiclgaaDoorWalkS
import Derived.Test.YtmffoiofbiclgaaDoorWalkT
import Derived.Test.YtmffoiofbiclgaaDoorWalkU
import Derived.Test.YtmffoiofbiclgaaDoorWalkV
import Derived.Test.YtmffoiofbiclgaaDoorWalkW
import Derived.Test.YtmffoiofbiclgaaDoorWalkX
import Derived.Test.YtmffoiofbiclgaaDoorWalkY
import Derived.WalkKit
import Derived.WalkSpells
import Derived.WalkLawsBesides
import Derived.StillTactics
import Derived.Laws.Pointers
import Derived.Deep.RegionHeld3
import Derived.Deep.QuietTactic
import Derived.BigQuiet
import Derived.Outline
import Derived.Lib.Hide
import Derived.RowKit3
import Derived.Carry
import Derived.IntWalk
namespace Go.Proofs.YtmffoiofbiclgaaDoor
open Go Go.RowKit
set_option linter.unusedSimpArgs false
set_option linter.unusedVariables false

/-- There is a next pattern upwards. -/
def upB (e f p : Int) : Bool := numB e f p && !(p == (pw e - 1) * pw f)

/-- The next pattern upwards. -/
def upV (e f p : Int) : Int := if (p % pw (e + f) == 0) = true then 1 else if (p / pw (e + f) == 0) = true then p + 1 else p - 1

theorem fmUp_any (e f p : Int) (hg : patB e f p = true) (w : World) : Calls Tryd.prog 44 #[fmt e f, .int .i64 p] w fun rv w' => rv = .returned (.int .i64 (upV e f p)) ∧ Ext w w' := by
  obtain ⟨hg0, hp0, hp1⟩ := pat_iff.1 hg
  obtain ⟨h1, h2, h3, h4⟩ := good_iff.1 hg0
  obtain ⟨⟨a1, a2⟩, ⟨b1, b2⟩, ⟨c1, c2⟩, hmul⟩ := pw_facts h1 h2 h3 h4
  have Hmul := Lib.hid hmul; clear hmul
  obtain ⟨⟨s0, s1⟩, ⟨z0, z1⟩, ⟨x0, x1⟩, ⟨r0, r1⟩, hsum⟩ := field_bd e f p hg
  have Hsum := Lib.hid hsum; clear hsum
  cases d1 : (p % pw (e + f) == 0)
  · cases d2 : (p / pw (e + f) == 0)
    · have hk : upV e f p = p - 1 := by simp only [upV, d1, d2, Bool.false_eq_true, if_true, if_false]
      have Hk := Lib.hid hk; clear hk
      go_enter Tryd.func44, Tryd.ntmps44
      go_wp2_with (first | (go_at_call 63; refine (fmSize_any e f _ hg0 (by omega) _).mono ?_; rintro rv w1 ⟨rfl, hb⟩; have ns : w.heap.size < w1.heap.size := hb.lt (by first | with_reducible assumption | omega | (simp; done) | (simp; omega)); have n0 : w1.cell? ⟨w.heap.size, 0, none⟩ = some (.int .i64 e) := (hb.cells _ _ (by first | with_reducible assumption | omega | (simp; done) | (simp; omega))).trans (by first | with_reducible assumption | (simp; done) | (simp; with_reducible assumption) | (rw [cell_alloc_before _ _ _ _ (by omega)]; with_reducible assumption) | (simp [go_sem, *]; done)); have n1 : w1.cell? ⟨w.heap.size, 1, none⟩ = some (.int .i64 f) := (hb.cells _ _ (by first | with_reducible assumption | omega | (simp; done) | (simp; omega))).trans (by first | with_reducible assumption | (simp; done) | (simp; with_reducible assumption) | (rw [cell_alloc_before _ _ _ _ (by omega)]; with_reducible assumption) | (simp [go_sem, *]; done)); (first | (have nx := Ext.trans hx hb; clear hx) | (have nx := Ext.trans (hx.alloc _) hb; clear hx) | (have nx := Ext.trans hx.drew hb; clear hx) | have nx := hb); clear hb; try clear hs; try clear g0; try clear g1; have hx := nx; clear nx; have hs := ns; clear ns; have g0 := n0; clear n0; have g1 := n1; clear n1) | (go_at_call 62; refine (fmSign_any e f _ hg0 (by omega) _).mono ?_; rintro rv w1 ⟨rfl, hb⟩; have ns : w.heap.size < w1.heap.size := hb.lt (by first | with_reducible assumption | omega | (simp; done) | (simp; omega)); have n0 : w1.cell? ⟨w.heap.size, 0, none⟩ = some (.int .i64 e) := (hb.cells _ _ (by first | with_reducible assumption | omega | (simp; done) | (simp; omega))).trans (by first | with_reducible assumption | (simp; done) | (simp; with_reducible assumption) | (rw [cell_alloc_before _ _ _ _ (by omega)]; with_reducible assumption) | (simp [go_sem, *]; done)); have n1 : w1.cell? ⟨w.heap.size, 1, none⟩ = some (.int .i64 f) := (hb.cells _ _ (by first | with_reducible assumption | omega | (simp; done) | (simp; omega))).trans (by first | with_reducible assumption | (simp; done) | (simp; with_reducible assumption) | (rw [cell_alloc_before _ _ _ _ (by omega)]; with_reducible assumption) | (simp [go_sem, *]; done)); (first | (have nx := Ext.trans hx hb; clear hx) | (have nx := Ext.trans (hx.alloc _) hb; clear hx) | (have nx := Ext.trans hx.drew hb; clear hx) | have nx := hb); clear hb; try clear hs; try clear g0; try clear g1; have hx := nx; clear nx; have hs := ns; clear ns; have g0 := n0; clear n0; have g1 := n1; clear n1))
      go_ret
      exact ⟨ret_int Hk.out.symm, (by repeat (first | exact Ext.refl _ | with_reducible assumption | apply Ext.alloc | apply Ext.drew | apply Ext.drewN | (refine Ext.setRow ?_ (by first | (simp; done) | (simp; omega) | omega) _) | (refine Ext.setCell ?_ (by first | (simp; done) | (simp; omega) | omega) _) | (refine Ext.trans ?_ (by with_reducible assumption))))⟩
    · have hk : upV e f p = p + 1 := by simp only [upV, d1, d2, Bool.false_eq_true, if_true, if_false]
      have Hk := Lib.hid hk; clear hk
      go_enter Tryd.func44, Tryd.ntmps44
      go_wp2_with (first | (go_at_call 63; refine (fmSize_any e f _ hg0 (by omega) _).mono ?_; rintro rv w1 ⟨rfl, hb⟩; have ns : w.heap.size < w1.heap.size := hb.lt (by first | with_reducible assumption | omega | (simp; done) | (simp; omega)); have n0 : w1.cell? ⟨w.heap.size, 0, none⟩ = some (.int .i64 e) := (hb.cells _ _ (by first | with_reducible assumption | omega | (simp; done) | (simp; omega))).trans (by first | with_reducible assumption | (simp; done) | (simp; with_reducible assumption) | (rw [cell_alloc_before _ _ _ _ (by omega)]; with_reducible assumption) | (simp [go_sem, *]; done)); have n1 : w1.cell? ⟨w.heap.size, 1, none⟩ = some (.int .i64 f) := (hb.cells _ _ (by first | with_reducible assumption | omega | (simp; done) | (simp; omega))).trans (by first | with_reducible assumption | (simp; done) | (simp; with_reducible assumption) | (rw [cell_alloc_before _ _ _ _ (by omega)]; with_reducible assumption) | (simp [go_sem, *]; done)); (first | (have nx := Ext.trans hx hb; clear hx) | (have nx := Ext.trans (hx.alloc _) hb; clear hx) | (have nx := Ext.trans hx.drew hb; clear hx) | have nx := hb); clear hb; try clear hs; try clear g0; try clear g1; have hx := nx; clear nx; have hs := ns; clear ns; have g0 := n0; clear n0; have g1 := n1; clear n1) | (go_at_call 62; refine (fmSign_any e f _ hg0 (by omega) _).mono ?_; rintro rv w1 ⟨rfl, hb⟩; have ns : w.heap.size < w1.heap.size := hb.lt (by first | with_reducible assumption | omega | (simp; done) | (simp; omega)); have n0 : w1.cell? ⟨w.heap.size, 0, none⟩ = some (.int .i64 e) := (hb.cells _ _ (by first | with_reducible assumption | omega | (simp; done) | (simp; omega))).trans (by first | with_reducible assumption | (simp; done) | (simp; with_reducible assumption) | (rw [cell_alloc_before _ _ _ _ (by omega)]; with_reducible assumption) | (simp [go_sem, *]; done)); have n1 : w1.cell? ⟨w.heap.size, 1, none⟩ = some (.int .i64 f) := (hb.cells _ _ (by first | with_reducible assumption | omega | (simp; done) | (simp; omega))).trans (by first | with_reducible assumption | (simp; done) | (simp; with_reducible assumption) | (rw [cell_alloc_before _ _ _ _ (by omega)]; with_reducible assumption) | (simp [go_sem, *]; done)); (first | (have nx := Ext.trans hx hb; clear hx) | (have nx := Ext.trans (hx.alloc _) hb; clear hx) | (have nx := Ext.trans hx.drew hb; clear hx) | have nx := hb); clear hb; try clear hs; try clear g0; try clear g1; have hx := nx; clear nx; have hs := ns; clear ns; have g0 := n0; clear n0; have g1 := n1; clear n1))
      go_ret
      exact ⟨ret_int Hk.out.symm, (by repeat (first | exact Ext.refl _ | with_reducible assumption | apply Ext.alloc | apply Ext.drew | apply Ext.drewN | (refine Ext.setRow ?_ (by first | (simp; done) | (simp; omega) | omega) _) | (refine Ext.setCell ?_ (by first | (simp; done) | (simp; omega) | omega) _) | (refine Ext.trans ?_ (by with_reducible assumption))))⟩
  · have hk : upV e f p = 1 := by simp only [upV, d1, Bool.false_eq_true, if_true, if_false]
    have Hk := Lib.hid hk; clear hk
    go_enter Tryd.func44, Tryd.ntmps44
    go_wp2_with (first | (go_at_call 63; refine (fmSize_any e f _ hg0 (by omega) _).mono ?_; rintro rv w1 ⟨rfl, hb⟩; have ns : w.heap.size < w1.heap.size := hb.lt (by first | with_reducible assumption | omega | (simp; done) | (simp; omega)); have n0 : w1.cell? ⟨w.heap.size, 0, none⟩ = some (.int .i64 e) := (hb.cells _ _ (by first | with_reducible assumption | omega | (simp; done) | (simp; omega))).trans (by first | with_reducible assumption | (simp; done) | (simp; with_reducible assumption) | (rw [cell_alloc_before _ _ _ _ (by omega)]; with_reducible assumption) | (simp [go_sem, *]; done)); have n1 : w1.cell? ⟨w.heap.size, 1, none⟩ = some (.int .i64 f) := (hb.cells _ _ (by first | with_reducible assumption | omega | (simp; done) | (simp; omega))).trans (by first | with_reducible assumption | (simp; done) | (simp; with_reducible assumption) | (rw [cell_alloc_before _ _ _ _ (by omega)]; with_reducible assumption) | (simp [go_sem, *]; done)); (first | (have nx := Ext.trans hx hb; clear hx) | (have nx := Ext.trans (hx.alloc _) hb; clear hx) | (have nx := Ext.trans hx.drew hb; clear hx) | have nx := hb); clear hb; try clear hs; try clear g0; try clear g1; have hx := nx; clear nx; have hs := ns; clear ns; have g0 := n0; clear n0; have g1 := n1; clear n1) | (go_at_call 62; refine (fmSign_any e f _ hg0 (by omega) _).mono ?_; rintro rv w1 ⟨rfl, hb⟩; have ns : w.heap.size < w1.heap.size := hb.lt (by first | with_reducible assumption | omega | (simp; done) | (simp; omega)); have n0 : w1.cell? ⟨w.heap.size, 0, none⟩ = some (.int .i64 e) := (hb.cells _ _ (by first | with_reducible assumption | omega | (simp; done) | (simp; omega))).trans (by first | with_reducible assumption | (simp; done) | (simp; with_reducible assumption) | (rw [cell_alloc_before _ _ _ _ (by omega)]; with_reducible assumption) | (simp [go_sem, *]; done)); have n1 : w1.cell? ⟨w.heap.size, 1, none⟩ = some (.int .i64 f) := (hb.cells _ _ (by first | with_reducible assumption | omega | (simp; done) | (simp; omega))).trans (by first | with_reducible assumption | (simp; done) | (simp; with_reducible assumption) | (rw [cell_alloc_before _ _ _ _ (by omega)]; with_reducible assumption) | (simp [go_sem, *]; done)); (first | (have nx := Ext.trans hx hb; clear hx) | (have nx := Ext.trans (hx.alloc _) hb; clear hx) | (have nx := Ext.trans hx.drew hb; clear hx) | have nx := hb); clear hb; try clear hs; try clear g0; try clear g1; have hx := nx; clear nx; have hs := ns; clear ns; have g0 := n0; clear n0; have g1 := n1; clear n1))
    go_ret
    exact ⟨ret_int Hk.out.symm, (by repeat (first | exact Ext.refl _ | with_reducible assumption | apply Ext.alloc | apply Ext.drew | apply Ext.drewN | (refine Ext.setRow ?_ (by first | (simp; done) | (simp; omega) | omega) _) | (refine Ext.setCell ?_ (by first | (simp; done) | (simp; omega) | omega) _) | (refine Ext.trans ?_ (by with_reducible assumption))))⟩

theorem up_num {e f p : Int} (h : upB e f p = true) : numB e f p = true ∧ (p == (pw e - 1) * pw f) = false := by
  unfold upB at h
  simpa using h


end Go.Proofs.YtmffoiofbiclgaaDoor
