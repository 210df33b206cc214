/-
  The contract of the model's search for the greatest pattern of at most so many units, under the conditions that its line names.
-/
import Derived.Test.YtkppdcelhblgaaaRows
import Derived.Test.YtkppdcelhblgaaaPlain
import Derived.Test.YtkppdcelhblgaaaDefs
import Derived.Test.YtkppdcelhblgaaaBelow
import Derived.Test.YtkppdcelhblgaaaWalkA
import Derived.Test.YtkppdcelhblgaaaWalkC
import Derived.Test.YtkppdcelhblgaaaWalkE
import Derived.Test.YtkppdcelhblgaaaWalkW
import Derived.WalkKit
import Derived.WalkSpells
import Derived.WalkLawsBesides
import Derived.StillTactics
import Derived.Laws.Pointers
import Derived.Deep.RegionHeld3
import Derived.Deep.QuietTactic
import Derived.BigQuiet
import Derived.Outline
import Derived.Lib.Hide
import Derived.RowKit3
import Derived.Carry
import Derived.IntWalk
namespace Go.Proofs.Ytkppdcelhblgaaa
open Go Go.RowKit
set_option linter.unusedSimpArgs false
set_option linter.unusedVariables false

theorem units_mg (e f p : Int) (hp : patB e f p = true) (h : p < pw (e + f)) : unitsV e f p = mgV f p := by
  obtain ⟨_, p0, _⟩ := pat_iff.1 hp
  have e1 : p % pw (e + f) = p := Int.emod_eq_of_lt p0 h
  have e2 : p / pw (e + f) = 0 := Int.ediv_eq_zero_of_lt p0 h
  unfold unitsV magV mgV
  rw [e1, e2]
  rfl

theorem great_lt {e f : Int} (hg : goodB e f = true) : 0 ≤ (pw e - 1) * pw f - 1 ∧ (pw e - 1) * pw f - 1 < pw (e + f) := by
  obtain ⟨h1, h2, h3, h4⟩ := good_iff.1 hg
  obtain ⟨⟨a1, a2⟩, ⟨b1, b2⟩, ⟨c1, c2⟩, hmul⟩ := pw_facts h1 h2 h3 h4
  have h : 3 * 2 ≤ (pw e - 1) * pw f := Int.mul_le_mul (by omega) c1 (by omega) (by omega)
  refine ⟨by omega, ?_⟩
  rw [Int.sub_mul, ← hmul]; omega

/-- What the search hands back. -/
def BelowOut (e f u : Int) (w : World) (rv : Ending) (w' : World) : Prop := ∃ p : Int, rv = .returned (.int .i64 p) ∧ IsBelow f ((pw e - 1) * pw f - 1) u p ∧ Ext w w'

set_option maxHeartbeats 3200000 in
theorem fmBelow_any (e f u : Int) (hg : goodB e f = true) (hu : 0 ≤ u) (w : World) : Calls Try.prog 55 #[fmt e f, .int .i64 u] w (BelowOut e f u w) := by
  obtain ⟨h1, h2, h3, h4⟩ := good_iff.1 hg
  obtain ⟨⟨a1, a2⟩, ⟨b1, b2⟩, ⟨c1, c2⟩, hmul⟩ := pw_facts h1 h2 h3 h4
  have Hmul := Lib.hid hmul; clear hmul
  obtain ⟨g0, g1⟩ := great_lt hg
  go_enter Try.func55, Try.ntmps55
  go_wp2_with (go_at_call 64; refine (fmWidth_any e f hg _).mono ?_; rintro rv w1 ⟨rfl, hb⟩; have ns : w.heap.size < w1.heap.size := hb.lt (by first | with_reducible assumption | omega | (simp; done) | (simp; omega)); have n0 : w1.cell? ⟨w.heap.size, 0, none⟩ = some (.int .i64 e) := (hb.cells _ _ (by first | with_reducible assumption | omega | (simp; done) | (simp; omega))).trans (by first | with_reducible assumption | (simp; done) | (simp; with_reducible assumption) | (rw [cell_alloc_before _ _ _ _ (by omega)]; with_reducible assumption) | (simp [go_sem, *]; done)); have n1 : w1.cell? ⟨w.heap.size, 1, none⟩ = some (.int .i64 f) := (hb.cells _ _ (by first | with_reducible assumption | omega | (simp; done) | (simp; omega))).trans (by first | with_reducible assumption | (simp; done) | (simp; with_reducible assumption) | (rw [cell_alloc_before _ _ _ _ (by omega)]; with_reducible assumption) | (simp [go_sem, *]; done)); (first | (have nx := Ext.trans hx hb; clear hx) | (have nx := Ext.trans (hx.alloc _) hb; clear hx) | (have nx := Ext.trans hx.drew hb; clear hx) | have nx := hb); clear hb; try clear hs; try clear g0; try clear g1; have hx := nx; clear nx; have hs := ns; clear ns; have g0 := n0; clear n0; have g1 := n1; clear n1)
  go_loopw [5, 6] (fun a b wr => ∃ q n : Int, a = .int .i64 q ∧ b = .int .i64 n ∧ -1 ≤ n ∧ n ≤ e + f - 1 ∧ Search f ((pw e - 1) * pw f - 1) u (n + 1) q ∧ Ext w wr ∧ w.heap.size < wr.heap.size ∧ wr.cell? ⟨w.heap.size, 0, none⟩ = some (.int .i64 e) ∧ wr.cell? ⟨w.heap.size, 1, none⟩ = some (.int .i64 f)) (fun _ b _ => (intOf b + 1).toNat)
  case atStart =>
    refine ⟨0, e + f - 1, rfl, ?_, by omega, by omega, ⟨by omega, by omega, ?_, .inl ?_⟩, (by repeat (first | exact Ext.refl _ | with_reducible assumption | apply Ext.alloc | apply Ext.drew | apply Ext.drewN | (refine Ext.setRow ?_ (by first | (simp; done) | (simp; omega) | omega) _) | (refine Ext.setCell ?_ (by first | (simp; done) | (simp; omega) | omega) _) | (refine Ext.trans ?_ (by with_reducible assumption)))), by assumption, by assumption, by assumption⟩
    · congr 1; omega
    · have : mgV f 0 = 0 := by unfold mgV; rw [if_neg (by simp)]; simp
      omega
    · rw [show e + f - 1 + 1 = e + f by omega]; omega
  case round =>
    obtain ⟨q, n, rfl, rfl, hn0, hn1, hs, hx, hsz, c0, c1'⟩ := hrel
    by_cases hlt : 0 ≤ n
    · have k1 := pw_of n
      have p0 : 1 ≤ pw n := pw_pos n
      have p1 : pw n ≤ 32768 := pw_le 15 32768 rfl (by omega)
      have q0 : 0 ≤ q := hs.1
      have q1 : q ≤ (pw e - 1) * pw f - 1 := hs.2.1
      by_cases hG : q + pw n ≤ (pw e - 1) * pw f - 1
      · have hp : patB e f (q + pw n) = true := pat_iff.2 ⟨hg, by omega, by omega⟩
        have hmg := units_mg e f (q + pw n) hp (by omega)
        have HM := Lib.hid hmg; clear hmg
        by_cases hU : unitsV e f (q + pw n) ≤ u
        · have hs2 := search_take (by omega) hs (by rwa [show n + 1 - 1 = n by omega]) (by rw [show n + 1 - 1 = n by omega, ← HM.out]; exact hU)
          rw [show n + 1 - 1 = n by omega] at hs2
          have HS := Lib.hid hs2; clear hs2 hs
          go_wp2_with (first | (go_at_call 74; refine (fmGreatest_any e f hg _).mono ?_; rintro rv w1 ⟨rfl, hb⟩; have ns : w.heap.size < w1.heap.size := hb.lt (by first | with_reducible assumption | omega | (simp; done) | (simp; omega)); have n0 : w1.cell? ⟨w.heap.size, 0, none⟩ = some (.int .i64 e) := (hb.cells _ _ (by first | with_reducible assumption | omega | (simp; done) | (simp; omega))).trans (by first | with_reducible assumption | (simp; done) | (simp; with_reducible assumption) | (rw [cell_alloc_before _ _ _ _ (by omega)]; with_reducible assumption) | (simp [go_sem, *]; done)); have n1 : w1.cell? ⟨w.heap.size, 1, none⟩ = some (.int .i64 f) := (hb.cells _ _ (by first | with_reducible assumption | omega | (simp; done) | (simp; omega))).trans (by first | with_reducible assumption | (simp; done) | (simp; with_reducible assumption) | (rw [cell_alloc_before _ _ _ _ (by omega)]; with_reducible assumption) | (simp [go_sem, *]; done)); (first | (have nx := Ext.trans hx hb; clear hx) | (have nx := Ext.trans (hx.alloc _) hb; clear hx) | (have nx := Ext.trans hx.drew hb; clear hx) | have nx := hb); clear hb; try clear hs; try clear g0; try clear g1; have hx := nx; clear nx; have hs := ns; clear ns; have g0 := n0; clear n0; have g1 := n1; clear n1) | (go_at_call 56; refine (fmUnits_any e f _ hp _).mono ?_; rintro rv w1 ⟨rfl, hb⟩; have ns : w.heap.size < w1.heap.size := hb.lt (by first | with_reducible assumption | omega | (simp; done) | (simp; omega)); have n0 : w1.cell? ⟨w.heap.size, 0, none⟩ = some (.int .i64 e) := (hb.cells _ _ (by first | with_reducible assumption | omega | (simp; done) | (simp; omega))).trans (by first | with_reducible assumption | (simp; done) | (simp; with_reducible assumption) | (rw [cell_alloc_before _ _ _ _ (by omega)]; with_reducible assumption) | (simp [go_sem, *]; done)); have n1 : w1.cell? ⟨w.heap.size, 1, none⟩ = some (.int .i64 f) := (hb.cells _ _ (by first | with_reducible assumption | omega | (simp; done) | (simp; omega))).trans (by first | with_reducible assumption | (simp; done) | (simp; with_reducible assumption) | (rw [cell_alloc_before _ _ _ _ (by omega)]; with_reducible assumption) | (simp [go_sem, *]; done)); (first | (have nx := Ext.trans hx hb; clear hx) | (have nx := Ext.trans (hx.alloc _) hb; clear hx) | (have nx := Ext.trans hx.drew hb; clear hx) | have nx := hb); clear hb; try clear hs; try clear g0; try clear g1; have hx := nx; clear nx; have hs := ns; clear ns; have g0 := n0; clear n0; have g1 := n1; clear n1))
          go_roundw
          case rel => exact ⟨q + pw n, n - 1, rfl, rfl, by omega, by omega, by rw [show n - 1 + 1 = n by omega]; exact HS.out, (by repeat (first | exact Ext.refl _ | with_reducible assumption | apply Ext.alloc | apply Ext.drew | apply Ext.drewN | (refine Ext.setRow ?_ (by first | (simp; done) | (simp; omega) | omega) _) | (refine Ext.setCell ?_ (by first | (simp; done) | (simp; omega) | omega) _) | (refine Ext.trans ?_ (by with_reducible assumption)))), (by with_reducible assumption), (by with_reducible assumption), (by with_reducible assumption)⟩
          case measure => simp [intOf]; omega
        · have hs2 := search_leave hs (.inr (by rw [show n + 1 - 1 = n by omega, ← HM.out]; omega))
          rw [show n + 1 - 1 = n by omega] at hs2
          have HS := Lib.hid hs2; clear hs2 hs
          go_wp2_with (first | (go_at_call 74; refine (fmGreatest_any e f hg _).mono ?_; rintro rv w1 ⟨rfl, hb⟩; have ns : w.heap.size < w1.heap.size := hb.lt (by first | with_reducible assumption | omega | (simp; done) | (simp; omega)); have n0 : w1.cell? ⟨w.heap.size, 0, none⟩ = some (.int .i64 e) := (hb.cells _ _ (by first | with_reducible assumption | omega | (simp; done) | (simp; omega))).trans (by first | with_reducible assumption | (simp; done) | (simp; with_reducible assumption) | (rw [cell_alloc_before _ _ _ _ (by omega)]; with_reducible assumption) | (simp [go_sem, *]; done)); have n1 : w1.cell? ⟨w.heap.size, 1, none⟩ = some (.int .i64 f) := (hb.cells _ _ (by first | with_reducible assumption | omega | (simp; done) | (simp; omega))).trans (by first | with_reducible assumption | (simp; done) | (simp; with_reducible assumption) | (rw [cell_alloc_before _ _ _ _ (by omega)]; with_reducible assumption) | (simp [go_sem, *]; done)); (first | (have nx := Ext.trans hx hb; clear hx) | (have nx := Ext.trans (hx.alloc _) hb; clear hx) | (have nx := Ext.trans hx.drew hb; clear hx) | have nx := hb); clear hb; try clear hs; try clear g0; try clear g1; have hx := nx; clear nx; have hs := ns; clear ns; have g0 := n0; clear n0; have g1 := n1; clear n1) | (go_at_call 56; refine (fmUnits_any e f _ hp _).mono ?_; rintro rv w1 ⟨rfl, hb⟩; have ns : w.heap.size < w1.heap.size := hb.lt (by first | with_reducible assumption | omega | (simp; done) | (simp; omega)); have n0 : w1.cell? ⟨w.heap.size, 0, none⟩ = some (.int .i64 e) := (hb.cells _ _ (by first | with_reducible assumption | omega | (simp; done) | (simp; omega))).trans (by first | with_reducible assumption | (simp; done) | (simp; with_reducible assumption) | (rw [cell_alloc_before _ _ _ _ (by omega)]; with_reducible assumption) | (simp [go_sem, *]; done)); have n1 : w1.cell? ⟨w.heap.size, 1, none⟩ = some (.int .i64 f) := (hb.cells _ _ (by first | with_reducible assumption | omega | (simp; done) | (simp; omega))).trans (by first | with_reducible assumption | (simp; done) | (simp; with_reducible assumption) | (rw [cell_alloc_before _ _ _ _ (by omega)]; with_reducible assumption) | (simp [go_sem, *]; done)); (first | (have nx := Ext.trans hx hb; clear hx) | (have nx := Ext.trans (hx.alloc _) hb; clear hx) | (have nx := Ext.trans hx.drew hb; clear hx) | have nx := hb); clear hb; try clear hs; try clear g0; try clear g1; have hx := nx; clear nx; have hs := ns; clear ns; have g0 := n0; clear n0; have g1 := n1; clear n1))
          go_roundw
          case rel => exact ⟨q, n - 1, rfl, rfl, by omega, by omega, by rw [show n - 1 + 1 = n by omega]; exact HS.out, (by repeat (first | exact Ext.refl _ | with_reducible assumption | apply Ext.alloc | apply Ext.drew | apply Ext.drewN | (refine Ext.setRow ?_ (by first | (simp; done) | (simp; omega) | omega) _) | (refine Ext.setCell ?_ (by first | (simp; done) | (simp; omega) | omega) _) | (refine Ext.trans ?_ (by with_reducible assumption)))), (by with_reducible assumption), (by with_reducible assumption), (by with_reducible assumption)⟩
          case measure => simp [intOf]; omega
      · have hs2 := search_leave hs (.inl (by rw [show n + 1 - 1 = n by omega]; omega))
        rw [show n + 1 - 1 = n by omega] at hs2
        have HS := Lib.hid hs2; clear hs2 hs
        go_wp2_with (first | (go_at_call 74; refine (fmGreatest_any e f hg _).mono ?_; rintro rv w1 ⟨rfl, hb⟩; have ns : w.heap.size < w1.heap.size := hb.lt (by first | with_reducible assumption | omega | (simp; done) | (simp; omega)); have n0 : w1.cell? ⟨w.heap.size, 0, none⟩ = some (.int .i64 e) := (hb.cells _ _ (by first | with_reducible assumption | omega | (simp; done) | (simp; omega))).trans (by first | with_reducible assumption | (simp; done) | (simp; with_reducible assumption) | (rw [cell_alloc_before _ _ _ _ (by omega)]; with_reducible assumption) | (simp [go_sem, *]; done)); have n1 : w1.cell? ⟨w.heap.size, 1, none⟩ = some (.int .i64 f) := (hb.cells _ _ (by first | with_reducible assumption | omega | (simp; done) | (simp; omega))).trans (by first | with_reducible assumption | (simp; done) | (simp; with_reducible assumption) | (rw [cell_alloc_before _ _ _ _ (by omega)]; with_reducible assumption) | (simp [go_sem, *]; done)); (first | (have nx := Ext.trans hx hb; clear hx) | (have nx := Ext.trans (hx.alloc _) hb; clear hx) | (have nx := Ext.trans hx.drew hb; clear hx) | have nx := hb); clear hb; try clear hs; try clear g0; try clear g1; have hx := nx; clear nx; have hs := ns; clear ns; have g0 := n0; clear n0; have g1 := n1; clear n1))
        go_roundw
        case rel => exact ⟨q, n - 1, rfl, rfl, by omega, by omega, by rw [show n - 1 + 1 = n by omega]; exact HS.out, (by repeat (first | exact Ext.refl _ | with_reducible assumption | apply Ext.alloc | apply Ext.drew | apply Ext.drewN | (refine Ext.setRow ?_ (by first | (simp; done) | (simp; omega) | omega) _) | (refine Ext.setCell ?_ (by first | (simp; done) | (simp; omega) | omega) _) | (refine Ext.trans ?_ (by with_reducible assumption)))), (by with_reducible assumption), (by with_reducible assumption), (by with_reducible assumption)⟩
        case measure => simp [intOf]; omega
    · go_wp2_with fail
      go_ret
      exact ⟨q, rfl, search_done (by rwa [show n + 1 = 0 by omega] at hs), hx⟩

end Go.Proofs.Ytkppdcelhblgaaa
