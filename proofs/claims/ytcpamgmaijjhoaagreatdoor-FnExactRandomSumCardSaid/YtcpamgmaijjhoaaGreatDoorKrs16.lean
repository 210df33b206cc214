/-
  Contracts of the functions that the laws reach, and the plain facts that they rest on, each under the conditions that its line names; part 16.
-/
import Derived.Test.YtcpamgmaijjhoaaGreatDoorKrs1
import Derived.Test.YtcpamgmaijjhoaaGreatDoorKrs2
import Derived.Test.YtcpamgmaijjhoaaGreatDoorKrs3
import Derived.Test.YtcpamgmaijjhoaaGreatDoorKrs4
import Derived.Test.YtcpamgmaijjhoaaGreatDoorKrs5
import Derived.Test.YtcpamgmaijjhoaaGreatDoorKrs6
import Derived.Test.YtcpamgmaijjhoaaGreatDoorKrs7
import Derived.Test.YtcpamgmaijjhoaaGreatDoorKrs14
import Derived.Test.YtcpamgmaijjhoaaGreatDoorKrs15
import Derived.Test.YtcpamgmaijjhoaaGreatDoorRows
import Derived.WalkKit
import Derived.LoopTactic
import Derived.Laws.Bits64b
import Derived.WalkSpells
import Derived.WalkLawsBesides
import Derived.StillTactics
import Derived.Laws.Pointers
import Derived.Deep.RegionHeld3
import Derived.Deep.QuietTactic
import Derived.BigQuiet
import Derived.Outline
import Derived.Deep.DeepCutAuto
import Derived.Deep.CutBlock
import Derived.Lib.Hide
import Derived.RowKit3
import Derived.Carry
import Derived.IntWalk
namespace Go.Proofs.YtcpamgmaijjhoaaGreatDoor
open Go Go.RowKit
set_option linter.unusedSimpArgs false
set_option linter.unusedVariables false

abbrev tri (a b c : Int) : Value := .agg #[.int .i64 (a), .int .i64 (b), .int .i64 (c)]

theorem gr_bd2 {e f : Int} (hg : goodB e f = true) : 0 < grV e f ∧ grV e f < pw (e + f) ∧ grV e f ≤ 32767 := by
  obtain ⟨h1, h2, h3, h4⟩ := good_iff.1 hg
  obtain ⟨⟨a1, a2⟩, ⟨b1, b2⟩, ⟨c1, c2⟩, hmul⟩ := pw_facts h1 h2 h3 h4
  have := Int.mul_le_mul_of_nonneg_right (show 3 ≤ pw e - 1 by omega) (show 0 ≤ pw f by omega)
  unfold grV
  rw [hmul] at a2
  rw [hmul, Int.sub_mul]
  rw [Int.sub_mul] at this
  omega

theorem step_st {e f p : Int} (h0 : 0 ≤ p) (h1 : p < pw (e + f)) : stepV e f p = stV f p := by
  unfold stepV stV
  rw [Int.emod_eq_of_lt h0 h1]

theorem st_bd {e f p : Int} (hg : goodB e f = true) (h0 : 0 ≤ p) (h1 : p ≤ grV e f) : 1 ≤ stV f p ∧ stV f p ≤ 1073741824 := by
  obtain ⟨g1, g2, g3, g4⟩ := good_iff.1 hg
  obtain ⟨⟨a1, a2⟩, ⟨b1, b2⟩, ⟨c1, c2⟩, hmul⟩ := pw_facts g1 g2 g3 g4
  have hx : p / pw f < pw e - 1 := Int.ediv_lt_of_lt_mul (by omega) (by unfold grV at h1; omega)
  unfold stV
  exact ⟨pw_pos _, pw_le 30 1073741824 rfl (by omega)⟩

theorem mg_bd {e f p : Int} (hg : goodB e f = true) (h0 : 0 ≤ p) (h1 : p ≤ grV e f) : 0 ≤ mgV f p ∧ mgV f p < 2199023255552 := by
  obtain ⟨t0, t1⟩ := pt_lt hg ⟨p, h0, h1, Or.inl rfl⟩
  omega

theorem fmUnits_size (e f p : Int) (hp : patB e f p = true) (h : p < pw (e + f)) (w : World) : Calls Tryz.prog 66 #[fmt e f, .int .i64 p] w fun rv w' => rv = .returned (.int .i64 (mgV f p)) ∧ Ext w w' := by
  have := fmUnits_any e f p hp w
  rwa [units_mg e f p hp h] at this

theorem fmStep_size (e f p : Int) (hp : patB e f p = true) (h0 : 0 ≤ p) (h : p < pw (e + f)) (w : World) : Calls Tryz.prog 68 #[fmt e f, .int .i64 p] w fun rv w' => rv = .returned (.int .i64 (stV f p)) ∧ Ext w w' := by
  have := fmStep_any e f p hp w
  rwa [step_st h0 h] at this
end Go.Proofs.YtcpamgmaijjhoaaGreatDoor

namespace Go.Proofs.YtcpamgmaijjhoaaGreatDoor
open Go Go.RowKit
set_option linter.unusedSimpArgs false
set_option linter.unusedVariables false

theorem rdSigned_any (e f s : Int) (neg : Bool) (hg : goodB e f = true) (h0 : 0 ≤ s) (h1 : s ≤ 32768) (w : World) : Calls Tryz.prog 116 #[fmt e f, .int .i64 s, .bool neg] w fun rv w' => rv = .returned (.int .i64 (if neg = true then pw (e + f) + s else s)) ∧ Ext w w' := by
  cases neg
  · go_enter Tryz.func116, Tryz.ntmps116
    go_wp2
    go_ret
    exact ⟨rfl, (by repeat (first | exact Ext.refl _ | with_reducible assumption | apply Ext.alloc | apply Ext.drew | apply Ext.drewN | (refine Ext.setRow ?_ (by first | (simp; done) | (simp; omega) | omega) _) | (refine Ext.setCell ?_ (by first | (simp; done) | (simp; omega) | omega) _) | (refine Ext.trans ?_ (by with_reducible assumption))))⟩
  · go_enter Tryz.func116, Tryz.ntmps116
    go_wp2_with (go_at_call 138; refine (fmOf_any e f 1 s hg (by omega) (by omega) h0 (by omega) _).mono ?_; rintro rv w1 ⟨rfl, hb⟩; have ns : w.heap.size < w1.heap.size := hb.lt (by first | with_reducible assumption | omega | (simp; done) | (simp; omega)); have n0 : w1.cell? ⟨w.heap.size, 0, none⟩ = some (.int .i64 e) := (hb.cells _ _ (by first | with_reducible assumption | omega | (simp; done) | (simp; omega))).trans (by first | with_reducible assumption | (simp; done) | (simp; with_reducible assumption) | (rw [cell_alloc_before _ _ _ _ (by omega)]; with_reducible assumption) | (simp [go_sem, *]; done)); have n1 : w1.cell? ⟨w.heap.size, 1, none⟩ = some (.int .i64 f) := (hb.cells _ _ (by first | with_reducible assumption | omega | (simp; done) | (simp; omega))).trans (by first | with_reducible assumption | (simp; done) | (simp; with_reducible assumption) | (rw [cell_alloc_before _ _ _ _ (by omega)]; with_reducible assumption) | (simp [go_sem, *]; done)); (first | (have nx := Ext.trans hx hb; clear hx) | (have nx := Ext.trans (hx.alloc _) hb; clear hx) | (have nx := Ext.trans hx.drew hb; clear hx) | have nx := hb); clear hb; try clear hs; try clear g0; try clear g1; have hx := nx; clear nx; have hs := ns; clear ns; have g0 := n0; clear n0; have g1 := n1; clear n1)
    go_ret
    exact ⟨ret_int (by first | rfl | simp), (by repeat (first | exact Ext.refl _ | with_reducible assumption | apply Ext.alloc | apply Ext.drew | apply Ext.drewN | (refine Ext.setRow ?_ (by first | (simp; done) | (simp; omega) | omega) _) | (refine Ext.setCell ?_ (by first | (simp; done) | (simp; omega) | omega) _) | (refine Ext.trans ?_ (by with_reducible assumption))))⟩

/-- There are a format and a number. -/
def asB (e f n d : Int) : Bool := goodB e f && dyB n d

theorem as_iff {e f n d : Int} : asB e f n d = true ↔ goodB e f = true ∧ dyB n d = true := by unfold asB; simp
end Go.Proofs.YtcpamgmaijjhoaaGreatDoor

