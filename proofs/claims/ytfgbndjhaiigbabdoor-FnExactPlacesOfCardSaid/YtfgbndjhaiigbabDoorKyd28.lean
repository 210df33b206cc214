/-
  Contracts of the functions that the laws reach, and the plain facts that they rest on, each under the conditions that its line names; part 28.
-/
import Derived.Test.YtfgbndjhaiigbabDoorKyd1
import Derived.Test.YtfgbndjhaiigbabDoorKyd2
import Derived.Test.YtfgbndjhaiigbabDoorKyd3
import Derived.Test.YtfgbndjhaiigbabDoorKyd4
import Derived.Test.YtfgbndjhaiigbabDoorKyd5
import Derived.Test.YtfgbndjhaiigbabDoorKyd6
import Derived.Test.YtfgbndjhaiigbabDoorKyd7
import Derived.Test.YtfgbndjhaiigbabDoorKyd8
import Derived.Test.YtfgbndjhaiigbabDoorKyd9
import Derived.Test.YtfgbndjhaiigbabDoorKyd10
import Derived.Test.YtfgbndjhaiigbabDoorKyd11
import Derived.Test.YtfgbndjhaiigbabDoorKyd12
import Derived.Test.YtfgbndjhaiigbabDoorKyd13
import Derived.Test.YtfgbndjhaiigbabDoorKyd14
import Derived.Test.YtfgbndjhaiigbabDoorKyd15
import Derived.Test.YtfgbndjhaiigbabDoorKyd16
import Derived.Test.YtfgbndjhaiigbabDoorKyd17
import Derived.Test.YtfgbndjhaiigbabDoorKyd18
import Derived.Test.YtfgbndjhaiigbabDoorKyd19
import Derived.Test.YtfgbndjhaiigbabDoorKyd20
import Derived.Test.YtfgbndjhaiigbabDoorKyd21
import Derived.Test.YtfgbndjhaiigbabDoorKyd22
import Derived.Test.YtfgbndjhaiigbabDoorKyd23
import Derived.Test.YtfgbndjhaiigbabDoorKyd24
import Derived.Test.YtfgbndjhaiigbabDoorKyd25
import Derived.Test.YtfgbndjhaiigbabDoorKyd26
import Derived.Test.YtfgbndjhaiigbabDoorKyd27
import Derived.Test.YtfgbndjhaiigbabDoorRows
import Derived.WalkKit
import Derived.Handy
import Derived.LoopTactic
import Derived.LoopN
import Derived.Laws.OwnMore
import Derived.OwnWalk
import Derived.Deep.AppendLies
import Derived.Laws.Bits64b
import Derived.WalkSpells
import Derived.WalkLawsBesides
import Derived.StillTactics
import Derived.Laws.Pointers
import Derived.Deep.RegionHeld3
import Derived.Deep.QuietTactic
import Derived.BigQuiet
import Derived.Outline
import Derived.Lib.Hide
import Derived.RowKit3
import Derived.Carry
import Derived.IntWalk
import Derived.Laws.EntriesVeiled
namespace Go.Proofs.YtfgbndjhaiigbabDoor
open Go Go.RowKit
set_option linter.unusedSimpArgs false
set_option linter.unusedVariables false
set_option maxRecDepth 100000

/-- A number of units, rounded to a whole number of P units. -/
def whV (u P mode : Int) (neg : Bool) : Int := rndP (u % P) P (u / P) mode neg

theorem rndP_mul {A B p mode m : Int} {neg : Bool} (hm : 0 < m) : rndP (A * m) (B * m) p mode neg = rndP A B p mode neg := by
  have e0 : A * m = 0 ↔ A = 0 := by
    constructor
    · intro h; rcases Int.mul_eq_zero.1 h with h | h
      · exact h
      · omega
    · intro h; rw [h, Int.zero_mul]
  have e1 : B * m < 2 * (A * m) ↔ B < 2 * A := by
    rw [← Int.mul_assoc]
    exact ⟨fun h => Int.lt_of_mul_lt_mul_right h (by omega), fun h => Int.mul_lt_mul_of_pos_right h hm⟩
  have e2 : 2 * (A * m) = B * m ↔ 2 * A = B := by
    rw [← Int.mul_assoc]
    exact ⟨fun h => Int.eq_of_mul_eq_mul_right (by omega) h, fun h => by rw [h]⟩
  have e3 : B * m ≤ 2 * (A * m) ↔ B ≤ 2 * A := by
    rw [← Int.mul_assoc]
    exact ⟨fun h => Int.le_of_mul_le_mul_right h hm, fun h => Int.mul_le_mul_of_nonneg_right h (by omega)⟩
  unfold rndP upR
  simp only [e0, e1, e2, e3]

theorem wh_mul {a b mode m : Int} {neg : Bool} (hm : 0 < m) (hb : 0 < b) : whV (a * m) (b * m) mode neg = whV a b mode neg := by
  unfold whV
  rw [Int.mul_comm a m, Int.mul_comm b m, Int.mul_emod_mul_of_pos _ _ hm, Int.mul_ediv_mul_of_pos _ _ hm, Int.mul_comm m (a % b), Int.mul_comm m b]
  exact rndP_mul hm

theorem rndP_or (A B p mode : Int) (neg : Bool) : rndP A B p mode neg = p ∨ rndP A B p mode neg = p + 1 := by
  unfold rndP; split
  · exact Or.inl rfl
  · split
    · exact Or.inr rfl
    · exact Or.inl rfl

theorem wh_bd {u P mode : Int} {neg : Bool} (hu : 0 ≤ u) (hP : 0 < P) : 0 ≤ whV u P mode neg ∧ whV u P mode neg ≤ u + 1 := by
  have h0 : 0 ≤ u / P := Int.ediv_nonneg hu (by omega)
  have h1 : u / P ≤ u := Int.ediv_le_self _ hu
  unfold whV
  rcases rndP_or (u % P) P (u / P) mode neg with h | h <;> rw [h] <;> omega

theorem arWhole_zero (e f u L A P : Int) (mode : Int) (neg : Bool) (hg : goodB e f = true) (hP : pw (-unV e f) = P) (t1 : u.tmod P = A) (t2 : u.tdiv P = L) (t4 : (P == 0) = false) (t3 : ¬ P = 0) (t7 : IntKind.i64.wrap (u.tmod P) = A) (w1 : IntKind.i64.wrap L = L) (w2 : IntKind.i64.wrap A = A) (w3 : IntKind.i64.wrap (2 * A) = 2 * A) (w4 : IntKind.i64.wrap (L + 1) = L + 1) (t5 : L.tmod 2 = L % 2) (t6 : IntKind.i64.wrap (L % 2) = L % 2) (hz : (A == 0) = true) (w : World) : Calls Tryd.prog 62 #[fmt e f, .int .i64 u, .int .i64 mode, .bool neg] w fun rv w' => rv = .returned (.int .i64 (L)) ∧ Ext w w' := by
  obtain ⟨u1, u2, _⟩ := un_bd hg
  have kn : IntKind.i64.wrap (-unV e f) = -unV e f := IntWalk.i64_in _ (by omega)
  have RU := Lib.hid (fun w => rdUnit_any e f hg w)
  have RP := Lib.hid (fun w => rdPower_any (-unV e f) (by omega) (by omega) w)
  rw [hP] at RP
  generalize unV e f = U at *
  clear u1 u2
  go_enter Tryd.func62, Tryd.ntmps62
  go_wp2_with (first | (go_at_call 49; refine (RU.out _).mono ?_; rintro rv w1 ⟨rfl, hb⟩; have ns : w.heap.size < w1.heap.size := hb.lt (by first | with_reducible assumption | omega | (simp; done) | (simp; omega)); have n0 : w1.cell? ⟨w.heap.size, 0, none⟩ = some (.int .i64 e) := (hb.cells _ _ (by first | with_reducible assumption | omega | (simp; done) | (simp; omega))).trans (by first | with_reducible assumption | (simp; done) | (simp; with_reducible assumption) | (rw [cell_alloc_before _ _ _ _ (by omega)]; with_reducible assumption) | (simp [go_sem, *]; done)); have n1 : w1.cell? ⟨w.heap.size, 1, none⟩ = some (.int .i64 f) := (hb.cells _ _ (by first | with_reducible assumption | omega | (simp; done) | (simp; omega))).trans (by first | with_reducible assumption | (simp; done) | (simp; with_reducible assumption) | (rw [cell_alloc_before _ _ _ _ (by omega)]; with_reducible assumption) | (simp [go_sem, *]; done)); (first | (have nx := Ext.trans hx hb; clear hx) | (have nx := Ext.trans (hx.alloc _) hb; clear hx) | (have nx := Ext.trans hx.drew hb; clear hx) | have nx := hb); clear hb; try clear hs; try clear g0; try clear g1; have hx := nx; clear nx; have hs := ns; clear ns; have g0 := n0; clear n0; have g1 := n1; clear n1) | (go_at_call 112; refine (RP.out _).mono ?_; rintro rv w1 ⟨rfl, rfl⟩))
  go_region
  go_wp2_with fail
  try (go_region; go_wp2_with fail)
  go_ret
  exact ⟨rfl, (by repeat (first | exact Ext.refl _ | with_reducible assumption | apply Ext.alloc | apply Ext.drew | apply Ext.drewN | (refine Ext.setRow ?_ (by first | (simp; done) | (simp; omega) | omega) _) | (refine Ext.setCell ?_ (by first | (simp; done) | (simp; omega) | omega) _) | (refine Ext.trans ?_ (by with_reducible assumption))))⟩

theorem arWhole_cut (e f u L A P : Int) (neg : Bool) (hg : goodB e f = true) (hP : pw (-unV e f) = P) (t1 : u.tmod P = A) (t2 : u.tdiv P = L) (t4 : (P == 0) = false) (t3 : ¬ P = 0) (t7 : IntKind.i64.wrap (u.tmod P) = A) (w1 : IntKind.i64.wrap L = L) (w2 : IntKind.i64.wrap A = A) (w3 : IntKind.i64.wrap (2 * A) = 2 * A) (w4 : IntKind.i64.wrap (L + 1) = L + 1) (t5 : L.tmod 2 = L % 2) (t6 : IntKind.i64.wrap (L % 2) = L % 2) (hz : (A == 0) = false) (w : World) : Calls Tryd.prog 62 #[fmt e f, .int .i64 u, .int .i64 2, .bool neg] w fun rv w' => rv = .returned (.int .i64 (L)) ∧ Ext w w' := by
  obtain ⟨u1, u2, _⟩ := un_bd hg
  have kn : IntKind.i64.wrap (-unV e f) = -unV e f := IntWalk.i64_in _ (by omega)
  have RU := Lib.hid (fun w => rdUnit_any e f hg w)
  have RP := Lib.hid (fun w => rdPower_any (-unV e f) (by omega) (by omega) w)
  rw [hP] at RP
  generalize unV e f = U at *
  clear u1 u2
  go_enter Tryd.func62, Tryd.ntmps62
  go_wp2_with (first | (go_at_call 49; refine (RU.out _).mono ?_; rintro rv w1 ⟨rfl, hb⟩; have ns : w.heap.size < w1.heap.size := hb.lt (by first | with_reducible assumption | omega | (simp; done) | (simp; omega)); have n0 : w1.cell? ⟨w.heap.size, 0, none⟩ = some (.int .i64 e) := (hb.cells _ _ (by first | with_reducible assumption | omega | (simp; done) | (simp; omega))).trans (by first | with_reducible assumption | (simp; done) | (simp; with_reducible assumption) | (rw [cell_alloc_before _ _ _ _ (by omega)]; with_reducible assumption) | (simp [go_sem, *]; done)); have n1 : w1.cell? ⟨w.heap.size, 1, none⟩ = some (.int .i64 f) := (hb.cells _ _ (by first | with_reducible assumption | omega | (simp; done) | (simp; omega))).trans (by first | with_reducible assumption | (simp; done) | (simp; with_reducible assumption) | (rw [cell_alloc_before _ _ _ _ (by omega)]; with_reducible assumption) | (simp [go_sem, *]; done)); (first | (have nx := Ext.trans hx hb; clear hx) | (have nx := Ext.trans (hx.alloc _) hb; clear hx) | (have nx := Ext.trans hx.drew hb; clear hx) | have nx := hb); clear hb; try clear hs; try clear g0; try clear g1; have hx := nx; clear nx; have hs := ns; clear ns; have g0 := n0; clear n0; have g1 := n1; clear n1) | (go_at_call 112; refine (RP.out _).mono ?_; rintro rv w1 ⟨rfl, rfl⟩))
  go_region
  go_wp2_with fail
  try (go_region; go_wp2_with fail)
  go_ret
  exact ⟨rfl, (by repeat (first | exact Ext.refl _ | with_reducible assumption | apply Ext.alloc | apply Ext.drew | apply Ext.drewN | (refine Ext.setRow ?_ (by first | (simp; done) | (simp; omega) | omega) _) | (refine Ext.setCell ?_ (by first | (simp; done) | (simp; omega) | omega) _) | (refine Ext.trans ?_ (by with_reducible assumption))))⟩

theorem arWhole_evG (e f u L A P : Int) (neg : Bool) (hg : goodB e f = true) (hP : pw (-unV e f) = P) (t1 : u.tmod P = A) (t2 : u.tdiv P = L) (t4 : (P == 0) = false) (t3 : ¬ P = 0) (t7 : IntKind.i64.wrap (u.tmod P) = A) (w1 : IntKind.i64.wrap L = L) (w2 : IntKind.i64.wrap A = A) (w3 : IntKind.i64.wrap (2 * A) = 2 * A) (w4 : IntKind.i64.wrap (L + 1) = L + 1) (t5 : L.tmod 2 = L % 2) (t6 : IntKind.i64.wrap (L % 2) = L % 2) (hz : (A == 0) = false) (g : P < 2 * A) (w : World) : Calls Tryd.prog 62 #[fmt e f, .int .i64 u, .int .i64 0, .bool neg] w fun rv w' => rv = .returned (.int .i64 (L + 1)) ∧ Ext w w' := by
  obtain ⟨u1, u2, _⟩ := un_bd hg
  have kn : IntKind.i64.wrap (-unV e f) = -unV e f := IntWalk.i64_in _ (by omega)
  have RU := Lib.hid (fun w => rdUnit_any e f hg w)
  have RP := Lib.hid (fun w => rdPower_any (-unV e f) (by omega) (by omega) w)
  rw [hP] at RP
  generalize unV e f = U at *
  clear u1 u2
  go_enter Tryd.func62, Tryd.ntmps62
  go_wp2_with (first | (go_at_call 49; refine (RU.out _).mono ?_; rintro rv w1 ⟨rfl, hb⟩; have ns : w.heap.size < w1.heap.size := hb.lt (by first | with_reducible assumption | omega | (simp; done) | (simp; omega)); have n0 : w1.cell? ⟨w.heap.size, 0, none⟩ = some (.int .i64 e) := (hb.cells _ _ (by first | with_reducible assumption | omega | (simp; done) | (simp; omega))).trans (by first | with_reducible assumption | (simp; done) | (simp; with_reducible assumption) | (rw [cell_alloc_before _ _ _ _ (by omega)]; with_reducible assumption) | (simp [go_sem, *]; done)); have n1 : w1.cell? ⟨w.heap.size, 1, none⟩ = some (.int .i64 f) := (hb.cells _ _ (by first | with_reducible assumption | omega | (simp; done) | (simp; omega))).trans (by first | with_reducible assumption | (simp; done) | (simp; with_reducible assumption) | (rw [cell_alloc_before _ _ _ _ (by omega)]; with_reducible assumption) | (simp [go_sem, *]; done)); (first | (have nx := Ext.trans hx hb; clear hx) | (have nx := Ext.trans (hx.alloc _) hb; clear hx) | (have nx := Ext.trans hx.drew hb; clear hx) | have nx := hb); clear hb; try clear hs; try clear g0; try clear g1; have hx := nx; clear nx; have hs := ns; clear ns; have g0 := n0; clear n0; have g1 := n1; clear n1) | (go_at_call 112; refine (RP.out _).mono ?_; rintro rv w1 ⟨rfl, rfl⟩))
  go_region
  go_wp2_with fail
  try (go_region; go_wp2_with fail)
  go_ret
  exact ⟨rfl, (by repeat (first | exact Ext.refl _ | with_reducible assumption | apply Ext.alloc | apply Ext.drew | apply Ext.drewN | (refine Ext.setRow ?_ (by first | (simp; done) | (simp; omega) | omega) _) | (refine Ext.setCell ?_ (by first | (simp; done) | (simp; omega) | omega) _) | (refine Ext.trans ?_ (by with_reducible assumption))))⟩

theorem arWhole_evL (e f u L A P : Int) (neg : Bool) (hg : goodB e f = true) (hP : pw (-unV e f) = P) (t1 : u.tmod P = A) (t2 : u.tdiv P = L) (t4 : (P == 0) = false) (t3 : ¬ P = 0) (t7 : IntKind.i64.wrap (u.tmod P) = A) (w1 : IntKind.i64.wrap L = L) (w2 : IntKind.i64.wrap A = A) (w3 : IntKind.i64.wrap (2 * A) = 2 * A) (w4 : IntKind.i64.wrap (L + 1) = L + 1) (t5 : L.tmod 2 = L % 2) (t6 : IntKind.i64.wrap (L % 2) = L % 2) (hz : (A == 0) = false) (g : ¬ P < 2 * A) (g2 : (2 * A == P) = false) (w : World) : Calls Tryd.prog 62 #[fmt e f, .int .i64 u, .int .i64 0, .bool neg] w fun rv w' => rv = .returned (.int .i64 (L)) ∧ Ext w w' := by
  obtain ⟨u1, u2, _⟩ := un_bd hg
  have kn : IntKind.i64.wrap (-unV e f) = -unV e f := IntWalk.i64_in _ (by omega)
  have RU := Lib.hid (fun w => rdUnit_any e f hg w)
  have RP := Lib.hid (fun w => rdPower_any (-unV e f) (by omega) (by omega) w)
  rw [hP] at RP
  generalize unV e f = U at *
  clear u1 u2
  go_enter Tryd.func62, Tryd.ntmps62
  go_wp2_with (first | (go_at_call 49; refine (RU.out _).mono ?_; rintro rv w1 ⟨rfl, hb⟩; have ns : w.heap.size < w1.heap.size := hb.lt (by first | with_reducible assumption | omega | (simp; done) | (simp; omega)); have n0 : w1.cell? ⟨w.heap.size, 0, none⟩ = some (.int .i64 e) := (hb.cells _ _ (by first | with_reducible assumption | omega | (simp; done) | (simp; omega))).trans (by first | with_reducible assumption | (simp; done) | (simp; with_reducible assumption) | (rw [cell_alloc_before _ _ _ _ (by omega)]; with_reducible assumption) | (simp [go_sem, *]; done)); have n1 : w1.cell? ⟨w.heap.size, 1, none⟩ = some (.int .i64 f) := (hb.cells _ _ (by first | with_reducible assumption | omega | (simp; done) | (simp; omega))).trans (by first | with_reducible assumption | (simp; done) | (simp; with_reducible assumption) | (rw [cell_alloc_before _ _ _ _ (by omega)]; with_reducible assumption) | (simp [go_sem, *]; done)); (first | (have nx := Ext.trans hx hb; clear hx) | (have nx := Ext.trans (hx.alloc _) hb; clear hx) | (have nx := Ext.trans hx.drew hb; clear hx) | have nx := hb); clear hb; try clear hs; try clear g0; try clear g1; have hx := nx; clear nx; have hs := ns; clear ns; have g0 := n0; clear n0; have g1 := n1; clear n1) | (go_at_call 112; refine (RP.out _).mono ?_; rintro rv w1 ⟨rfl, rfl⟩))
  go_region
  go_wp2_with fail
  try (go_region; go_wp2_with fail)
  go_ret
  exact ⟨rfl, (by repeat (first | exact Ext.refl _ | with_reducible assumption | apply Ext.alloc | apply Ext.drew | apply Ext.drewN | (refine Ext.setRow ?_ (by first | (simp; done) | (simp; omega) | omega) _) | (refine Ext.setCell ?_ (by first | (simp; done) | (simp; omega) | omega) _) | (refine Ext.trans ?_ (by with_reducible assumption))))⟩

theorem arWhole_evE (e f u L A P : Int) (neg : Bool) (hg : goodB e f = true) (hP : pw (-unV e f) = P) (t1 : u.tmod P = A) (t2 : u.tdiv P = L) (t4 : (P == 0) = false) (t3 : ¬ P = 0) (t7 : IntKind.i64.wrap (u.tmod P) = A) (w1 : IntKind.i64.wrap L = L) (w2 : IntKind.i64.wrap A = A) (w3 : IntKind.i64.wrap (2 * A) = 2 * A) (w4 : IntKind.i64.wrap (L + 1) = L + 1) (t5 : L.tmod 2 = L % 2) (t6 : IntKind.i64.wrap (L % 2) = L % 2) (hz : (A == 0) = false) (g : ¬ P < 2 * A) (g2 : (2 * A == P) = true) (g3 : L % 2 = 0) (w : World) : Calls Tryd.prog 62 #[fmt e f, .int .i64 u, .int .i64 0, .bool neg] w fun rv w' => rv = .returned (.int .i64 (L)) ∧ Ext w w' := by
  obtain ⟨u1, u2, _⟩ := un_bd hg
  have kn : IntKind.i64.wrap (-unV e f) = -unV e f := IntWalk.i64_in _ (by omega)
  have RU := Lib.hid (fun w => rdUnit_any e f hg w)
  have RP := Lib.hid (fun w => rdPower_any (-unV e f) (by omega) (by omega) w)
  rw [hP] at RP
  generalize unV e f = U at *
  clear u1 u2
  go_enter Tryd.func62, Tryd.ntmps62
  go_wp2_with (first | (go_at_call 49; refine (RU.out _).mono ?_; rintro rv w1 ⟨rfl, hb⟩; have ns : w.heap.size < w1.heap.size := hb.lt (by first | with_reducible assumption | omega | (simp; done) | (simp; omega)); have n0 : w1.cell? ⟨w.heap.size, 0, none⟩ = some (.int .i64 e) := (hb.cells _ _ (by first | with_reducible assumption | omega | (simp; done) | (simp; omega))).trans (by first | with_reducible assumption | (simp; done) | (simp; with_reducible assumption) | (rw [cell_alloc_before _ _ _ _ (by omega)]; with_reducible assumption) | (simp [go_sem, *]; done)); have n1 : w1.cell? ⟨w.heap.size, 1, none⟩ = some (.int .i64 f) := (hb.cells _ _ (by first | with_reducible assumption | omega | (simp; done) | (simp; omega))).trans (by first | with_reducible assumption | (simp; done) | (simp; with_reducible assumption) | (rw [cell_alloc_before _ _ _ _ (by omega)]; with_reducible assumption) | (simp [go_sem, *]; done)); (first | (have nx := Ext.trans hx hb; clear hx) | (have nx := Ext.trans (hx.alloc _) hb; clear hx) | (have nx := Ext.trans hx.drew hb; clear hx) | have nx := hb); clear hb; try clear hs; try clear g0; try clear g1; have hx := nx; clear nx; have hs := ns; clear ns; have g0 := n0; clear n0; have g1 := n1; clear n1) | (go_at_call 112; refine (RP.out _).mono ?_; rintro rv w1 ⟨rfl, rfl⟩))
  go_region
  go_wp2_with fail
  try (go_region; go_wp2_with fail)
  go_ret
  exact ⟨rfl, (by repeat (first | exact Ext.refl _ | with_reducible assumption | apply Ext.alloc | apply Ext.drew | apply Ext.drewN | (refine Ext.setRow ?_ (by first | (simp; done) | (simp; omega) | omega) _) | (refine Ext.setCell ?_ (by first | (simp; done) | (simp; omega) | omega) _) | (refine Ext.trans ?_ (by with_reducible assumption))))⟩

theorem arWhole_evO (e f u L A P : Int) (neg : Bool) (hg : goodB e f = true) (hP : pw (-unV e f) = P) (t1 : u.tmod P = A) (t2 : u.tdiv P = L) (t4 : (P == 0) = false) (t3 : ¬ P = 0) (t7 : IntKind.i64.wrap (u.tmod P) = A) (w1 : IntKind.i64.wrap L = L) (w2 : IntKind.i64.wrap A = A) (w3 : IntKind.i64.wrap (2 * A) = 2 * A) (w4 : IntKind.i64.wrap (L + 1) = L + 1) (t5 : L.tmod 2 = L % 2) (t6 : IntKind.i64.wrap (L % 2) = L % 2) (hz : (A == 0) = false) (g : ¬ P < 2 * A) (g2 : (2 * A == P) = true) (g3 : L % 2 = 1) (w : World) : Calls Tryd.prog 62 #[fmt e f, .int .i64 u, .int .i64 0, .bool neg] w fun rv w' => rv = .returned (.int .i64 (L + 1)) ∧ Ext w w' := by
  obtain ⟨u1, u2, _⟩ := un_bd hg
  have kn : IntKind.i64.wrap (-unV e f) = -unV e f := IntWalk.i64_in _ (by omega)
  have RU := Lib.hid (fun w => rdUnit_any e f hg w)
  have RP := Lib.hid (fun w => rdPower_any (-unV e f) (by omega) (by omega) w)
  rw [hP] at RP
  generalize unV e f = U at *
  clear u1 u2
  go_enter Tryd.func62, Tryd.ntmps62
  go_wp2_with (first | (go_at_call 49; refine (RU.out _).mono ?_; rintro rv w1 ⟨rfl, hb⟩; have ns : w.heap.size < w1.heap.size := hb.lt (by first | with_reducible assumption | omega | (simp; done) | (simp; omega)); have n0 : w1.cell? ⟨w.heap.size, 0, none⟩ = some (.int .i64 e) := (hb.cells _ _ (by first | with_reducible assumption | omega | (simp; done) | (simp; omega))).trans (by first | with_reducible assumption | (simp; done) | (simp; with_reducible assumption) | (rw [cell_alloc_before _ _ _ _ (by omega)]; with_reducible assumption) | (simp [go_sem, *]; done)); have n1 : w1.cell? ⟨w.heap.size, 1, none⟩ = some (.int .i64 f) := (hb.cells _ _ (by first | with_reducible assumption | omega | (simp; done) | (simp; omega))).trans (by first | with_reducible assumption | (simp; done) | (simp; with_reducible assumption) | (rw [cell_alloc_before _ _ _ _ (by omega)]; with_reducible assumption) | (simp [go_sem, *]; done)); (first | (have nx := Ext.trans hx hb; clear hx) | (have nx := Ext.trans (hx.alloc _) hb; clear hx) | (have nx := Ext.trans hx.drew hb; clear hx) | have nx := hb); clear hb; try clear hs; try clear g0; try clear g1; have hx := nx; clear nx; have hs := ns; clear ns; have g0 := n0; clear n0; have g1 := n1; clear n1) | (go_at_call 112; refine (RP.out _).mono ?_; rintro rv w1 ⟨rfl, rfl⟩))
  go_region
  go_wp2_with fail
  try (go_region; go_wp2_with fail)
  go_ret
  exact ⟨rfl, (by repeat (first | exact Ext.refl _ | with_reducible assumption | apply Ext.alloc | apply Ext.drew | apply Ext.drewN | (refine Ext.setRow ?_ (by first | (simp; done) | (simp; omega) | omega) _) | (refine Ext.setCell ?_ (by first | (simp; done) | (simp; omega) | omega) _) | (refine Ext.trans ?_ (by with_reducible assumption))))⟩

theorem arWhole_awG (e f u L A P : Int) (neg : Bool) (hg : goodB e f = true) (hP : pw (-unV e f) = P) (t1 : u.tmod P = A) (t2 : u.tdiv P = L) (t4 : (P == 0) = false) (t3 : ¬ P = 0) (t7 : IntKind.i64.wrap (u.tmod P) = A) (w1 : IntKind.i64.wrap L = L) (w2 : IntKind.i64.wrap A = A) (w3 : IntKind.i64.wrap (2 * A) = 2 * A) (w4 : IntKind.i64.wrap (L + 1) = L + 1) (t5 : L.tmod 2 = L % 2) (t6 : IntKind.i64.wrap (L % 2) = L % 2) (hz : (A == 0) = false) (g : P ≤ 2 * A) (w : World) : Calls Tryd.prog 62 #[fmt e f, .int .i64 u, .int .i64 1, .bool neg] w fun rv w' => rv = .returned (.int .i64 (L + 1)) ∧ Ext w w' := by
  obtain ⟨u1, u2, _⟩ := un_bd hg
  have kn : IntKind.i64.wrap (-unV e f) = -unV e f := IntWalk.i64_in _ (by omega)
  have RU := Lib.hid (fun w => rdUnit_any e f hg w)
  have RP := Lib.hid (fun w => rdPower_any (-unV e f) (by omega) (by omega) w)
  rw [hP] at RP
  generalize unV e f = U at *
  clear u1 u2
  go_enter Tryd.func62, Tryd.ntmps62
  go_wp2_with (first | (go_at_call 49; refine (RU.out _).mono ?_; rintro rv w1 ⟨rfl, hb⟩; have ns : w.heap.size < w1.heap.size := hb.lt (by first | with_reducible assumption | omega | (simp; done) | (simp; omega)); have n0 : w1.cell? ⟨w.heap.size, 0, none⟩ = some (.int .i64 e) := (hb.cells _ _ (by first | with_reducible assumption | omega | (simp; done) | (simp; omega))).trans (by first | with_reducible assumption | (simp; done) | (simp; with_reducible assumption) | (rw [cell_alloc_before _ _ _ _ (by omega)]; with_reducible assumption) | (simp [go_sem, *]; done)); have n1 : w1.cell? ⟨w.heap.size, 1, none⟩ = some (.int .i64 f) := (hb.cells _ _ (by first | with_reducible assumption | omega | (simp; done) | (simp; omega))).trans (by first | with_reducible assumption | (simp; done) | (simp; with_reducible assumption) | (rw [cell_alloc_before _ _ _ _ (by omega)]; with_reducible assumption) | (simp [go_sem, *]; done)); (first | (have nx := Ext.trans hx hb; clear hx) | (have nx := Ext.trans (hx.alloc _) hb; clear hx) | (have nx := Ext.trans hx.drew hb; clear hx) | have nx := hb); clear hb; try clear hs; try clear g0; try clear g1; have hx := nx; clear nx; have hs := ns; clear ns; have g0 := n0; clear n0; have g1 := n1; clear n1) | (go_at_call 112; refine (RP.out _).mono ?_; rintro rv w1 ⟨rfl, rfl⟩))
  go_region
  go_wp2_with fail
  try (go_region; go_wp2_with fail)
  go_ret
  exact ⟨rfl, (by repeat (first | exact Ext.refl _ | with_reducible assumption | apply Ext.alloc | apply Ext.drew | apply Ext.drewN | (refine Ext.setRow ?_ (by first | (simp; done) | (simp; omega) | omega) _) | (refine Ext.setCell ?_ (by first | (simp; done) | (simp; omega) | omega) _) | (refine Ext.trans ?_ (by with_reducible assumption))))⟩

theorem arWhole_awL (e f u L A P : Int) (neg : Bool) (hg : goodB e f = true) (hP : pw (-unV e f) = P) (t1 : u.tmod P = A) (t2 : u.tdiv P = L) (t4 : (P == 0) = false) (t3 : ¬ P = 0) (t7 : IntKind.i64.wrap (u.tmod P) = A) (w1 : IntKind.i64.wrap L = L) (w2 : IntKind.i64.wrap A = A) (w3 : IntKind.i64.wrap (2 * A) = 2 * A) (w4 : IntKind.i64.wrap (L + 1) = L + 1) (t5 : L.tmod 2 = L % 2) (t6 : IntKind.i64.wrap (L % 2) = L % 2) (hz : (A == 0) = false) (g : ¬ P ≤ 2 * A) (w : World) : Calls Tryd.prog 62 #[fmt e f, .int .i64 u, .int .i64 1, .bool neg] w fun rv w' => rv = .returned (.int .i64 (L)) ∧ Ext w w' := by
  obtain ⟨u1, u2, _⟩ := un_bd hg
  have kn : IntKind.i64.wrap (-unV e f) = -unV e f := IntWalk.i64_in _ (by omega)
  have RU := Lib.hid (fun w => rdUnit_any e f hg w)
  have RP := Lib.hid (fun w => rdPower_any (-unV e f) (by omega) (by omega) w)
  rw [hP] at RP
  generalize unV e f = U at *
  clear u1 u2
  go_enter Tryd.func62, Tryd.ntmps62
  go_wp2_with (first | (go_at_call 49; refine (RU.out _).mono ?_; rintro rv w1 ⟨rfl, hb⟩; have ns : w.heap.size < w1.heap.size := hb.lt (by first | with_reducible assumption | omega | (simp; done) | (simp; omega)); have n0 : w1.cell? ⟨w.heap.size, 0, none⟩ = some (.int .i64 e) := (hb.cells _ _ (by first | with_reducible assumption | omega | (simp; done) | (simp; omega))).trans (by first | with_reducible assumption | (simp; done) | (simp; with_reducible assumption) | (rw [cell_alloc_before _ _ _ _ (by omega)]; with_reducible assumption) | (simp [go_sem, *]; done)); have n1 : w1.cell? ⟨w.heap.size, 1, none⟩ = some (.int .i64 f) := (hb.cells _ _ (by first | with_reducible assumption | omega | (simp; done) | (simp; omega))).trans (by first | with_reducible assumption | (simp; done) | (simp; with_reducible assumption) | (rw [cell_alloc_before _ _ _ _ (by omega)]; with_reducible assumption) | (simp [go_sem, *]; done)); (first | (have nx := Ext.trans hx hb; clear hx) | (have nx := Ext.trans (hx.alloc _) hb; clear hx) | (have nx := Ext.trans hx.drew hb; clear hx) | have nx := hb); clear hb; try clear hs; try clear g0; try clear g1; have hx := nx; clear nx; have hs := ns; clear ns; have g0 := n0; clear n0; have g1 := n1; clear n1) | (go_at_call 112; refine (RP.out _).mono ?_; rintro rv w1 ⟨rfl, rfl⟩))
  go_region
  go_wp2_with fail
  try (go_region; go_wp2_with fail)
  go_ret
  exact ⟨rfl, (by repeat (first | exact Ext.refl _ | with_reducible assumption | apply Ext.alloc | apply Ext.drew | apply Ext.drewN | (refine Ext.setRow ?_ (by first | (simp; done) | (simp; omega) | omega) _) | (refine Ext.setCell ?_ (by first | (simp; done) | (simp; omega) | omega) _) | (refine Ext.trans ?_ (by with_reducible assumption))))⟩

theorem arWhole_upP (e f u L A P : Int) (hg : goodB e f = true) (hP : pw (-unV e f) = P) (t1 : u.tmod P = A) (t2 : u.tdiv P = L) (t4 : (P == 0) = false) (t3 : ¬ P = 0) (t7 : IntKind.i64.wrap (u.tmod P) = A) (w1 : IntKind.i64.wrap L = L) (w2 : IntKind.i64.wrap A = A) (w3 : IntKind.i64.wrap (2 * A) = 2 * A) (w4 : IntKind.i64.wrap (L + 1) = L + 1) (t5 : L.tmod 2 = L % 2) (t6 : IntKind.i64.wrap (L % 2) = L % 2) (hz : (A == 0) = false) (w : World) : Calls Tryd.prog 62 #[fmt e f, .int .i64 u, .int .i64 3, .bool false] w fun rv w' => rv = .returned (.int .i64 (L + 1)) ∧ Ext w w' := by
  obtain ⟨u1, u2, _⟩ := un_bd hg
  have kn : IntKind.i64.wrap (-unV e f) = -unV e f := IntWalk.i64_in _ (by omega)
  have RU := Lib.hid (fun w => rdUnit_any e f hg w)
  have RP := Lib.hid (fun w => rdPower_any (-unV e f) (by omega) (by omega) w)
  rw [hP] at RP
  generalize unV e f = U at *
  clear u1 u2
  go_enter Tryd.func62, Tryd.ntmps62
  go_wp2_with (first | (go_at_call 49; refine (RU.out _).mono ?_; rintro rv w1 ⟨rfl, hb⟩; have ns : w.heap.size < w1.heap.size := hb.lt (by first | with_reducible assumption | omega | (simp; done) | (simp; omega)); have n0 : w1.cell? ⟨w.heap.size, 0, none⟩ = some (.int .i64 e) := (hb.cells _ _ (by first | with_reducible assumption | omega | (simp; done) | (simp; omega))).trans (by first | with_reducible assumption | (simp; done) | (simp; with_reducible assumption) | (rw [cell_alloc_before _ _ _ _ (by omega)]; with_reducible assumption) | (simp [go_sem, *]; done)); have n1 : w1.cell? ⟨w.heap.size, 1, none⟩ = some (.int .i64 f) := (hb.cells _ _ (by first | with_reducible assumption | omega | (simp; done) | (simp; omega))).trans (by first | with_reducible assumption | (simp; done) | (simp; with_reducible assumption) | (rw [cell_alloc_before _ _ _ _ (by omega)]; with_reducible assumption) | (simp [go_sem, *]; done)); (first | (have nx := Ext.trans hx hb; clear hx) | (have nx := Ext.trans (hx.alloc _) hb; clear hx) | (have nx := Ext.trans hx.drew hb; clear hx) | have nx := hb); clear hb; try clear hs; try clear g0; try clear g1; have hx := nx; clear nx; have hs := ns; clear ns; have g0 := n0; clear n0; have g1 := n1; clear n1) | (go_at_call 112; refine (RP.out _).mono ?_; rintro rv w1 ⟨rfl, rfl⟩))
  go_region
  go_wp2_with fail
  try (go_region; go_wp2_with fail)
  go_ret
  exact ⟨rfl, (by repeat (first | exact Ext.refl _ | with_reducible assumption | apply Ext.alloc | apply Ext.drew | apply Ext.drewN | (refine Ext.setRow ?_ (by first | (simp; done) | (simp; omega) | omega) _) | (refine Ext.setCell ?_ (by first | (simp; done) | (simp; omega) | omega) _) | (refine Ext.trans ?_ (by with_reducible assumption))))⟩

theorem arWhole_upN (e f u L A P : Int) (hg : goodB e f = true) (hP : pw (-unV e f) = P) (t1 : u.tmod P = A) (t2 : u.tdiv P = L) (t4 : (P == 0) = false) (t3 : ¬ P = 0) (t7 : IntKind.i64.wrap (u.tmod P) = A) (w1 : IntKind.i64.wrap L = L) (w2 : IntKind.i64.wrap A = A) (w3 : IntKind.i64.wrap (2 * A) = 2 * A) (w4 : IntKind.i64.wrap (L + 1) = L + 1) (t5 : L.tmod 2 = L % 2) (t6 : IntKind.i64.wrap (L % 2) = L % 2) (hz : (A == 0) = false) (w : World) : Calls Tryd.prog 62 #[fmt e f, .int .i64 u, .int .i64 3, .bool true] w fun rv w' => rv = .returned (.int .i64 (L)) ∧ Ext w w' := by
  obtain ⟨u1, u2, _⟩ := un_bd hg
  have kn : IntKind.i64.wrap (-unV e f) = -unV e f := IntWalk.i64_in _ (by omega)
  have RU := Lib.hid (fun w => rdUnit_any e f hg w)
  have RP := Lib.hid (fun w => rdPower_any (-unV e f) (by omega) (by omega) w)
  rw [hP] at RP
  generalize unV e f = U at *
  clear u1 u2
  go_enter Tryd.func62, Tryd.ntmps62
  go_wp2_with (first | (go_at_call 49; refine (RU.out _).mono ?_; rintro rv w1 ⟨rfl, hb⟩; have ns : w.heap.size < w1.heap.size := hb.lt (by first | with_reducible assumption | omega | (simp; done) | (simp; omega)); have n0 : w1.cell? ⟨w.heap.size, 0, none⟩ = some (.int .i64 e) := (hb.cells _ _ (by first | with_reducible assumption | omega | (simp; done) | (simp; omega))).trans (by first | with_reducible assumption | (simp; done) | (simp; with_reducible assumption) | (rw [cell_alloc_before _ _ _ _ (by omega)]; with_reducible assumption) | (simp [go_sem, *]; done)); have n1 : w1.cell? ⟨w.heap.size, 1, none⟩ = some (.int .i64 f) := (hb.cells _ _ (by first | with_reducible assumption | omega | (simp; done) | (simp; omega))).trans (by first | with_reducible assumption | (simp; done) | (simp; with_reducible assumption) | (rw [cell_alloc_before _ _ _ _ (by omega)]; with_reducible assumption) | (simp [go_sem, *]; done)); (first | (have nx := Ext.trans hx hb; clear hx) | (have nx := Ext.trans (hx.alloc _) hb; clear hx) | (have nx := Ext.trans hx.drew hb; clear hx) | have nx := hb); clear hb; try clear hs; try clear g0; try clear g1; have hx := nx; clear nx; have hs := ns; clear ns; have g0 := n0; clear n0; have g1 := n1; clear n1) | (go_at_call 112; refine (RP.out _).mono ?_; rintro rv w1 ⟨rfl, rfl⟩))
  go_region
  go_wp2_with fail
  try (go_region; go_wp2_with fail)
  go_ret
  exact ⟨rfl, (by repeat (first | exact Ext.refl _ | with_reducible assumption | apply Ext.alloc | apply Ext.drew | apply Ext.drewN | (refine Ext.setRow ?_ (by first | (simp; done) | (simp; omega) | omega) _) | (refine Ext.setCell ?_ (by first | (simp; done) | (simp; omega) | omega) _) | (refine Ext.trans ?_ (by with_reducible assumption))))⟩

theorem arWhole_dnP (e f u L A P : Int) (hg : goodB e f = true) (hP : pw (-unV e f) = P) (t1 : u.tmod P = A) (t2 : u.tdiv P = L) (t4 : (P == 0) = false) (t3 : ¬ P = 0) (t7 : IntKind.i64.wrap (u.tmod P) = A) (w1 : IntKind.i64.wrap L = L) (w2 : IntKind.i64.wrap A = A) (w3 : IntKind.i64.wrap (2 * A) = 2 * A) (w4 : IntKind.i64.wrap (L + 1) = L + 1) (t5 : L.tmod 2 = L % 2) (t6 : IntKind.i64.wrap (L % 2) = L % 2) (hz : (A == 0) = false) (w : World) : Calls Tryd.prog 62 #[fmt e f, .int .i64 u, .int .i64 4, .bool false] w fun rv w' => rv = .returned (.int .i64 (L)) ∧ Ext w w' := by
  obtain ⟨u1, u2, _⟩ := un_bd hg
  have kn : IntKind.i64.wrap (-unV e f) = -unV e f := IntWalk.i64_in _ (by omega)
  have RU := Lib.hid (fun w => rdUnit_any e f hg w)
  have RP := Lib.hid (fun w => rdPower_any (-unV e f) (by omega) (by omega) w)
  rw [hP] at RP
  generalize unV e f = U at *
  clear u1 u2
  go_enter Tryd.func62, Tryd.ntmps62
  go_wp2_with (first | (go_at_call 49; refine (RU.out _).mono ?_; rintro rv w1 ⟨rfl, hb⟩; have ns : w.heap.size < w1.heap.size := hb.lt (by first | with_reducible assumption | omega | (simp; done) | (simp; omega)); have n0 : w1.cell? ⟨w.heap.size, 0, none⟩ = some (.int .i64 e) := (hb.cells _ _ (by first | with_reducible assumption | omega | (simp; done) | (simp; omega))).trans (by first | with_reducible assumption | (simp; done) | (simp; with_reducible assumption) | (rw [cell_alloc_before _ _ _ _ (by omega)]; with_reducible assumption) | (simp [go_sem, *]; done)); have n1 : w1.cell? ⟨w.heap.size, 1, none⟩ = some (.int .i64 f) := (hb.cells _ _ (by first | with_reducible assumption | omega | (simp; done) | (simp; omega))).trans (by first | with_reducible assumption | (simp; done) | (simp; with_reducible assumption) | (rw [cell_alloc_before _ _ _ _ (by omega)]; with_reducible assumption) | (simp [go_sem, *]; done)); (first | (have nx := Ext.trans hx hb; clear hx) | (have nx := Ext.trans (hx.alloc _) hb; clear hx) | (have nx := Ext.trans hx.drew hb; clear hx) | have nx := hb); clear hb; try clear hs; try clear g0; try clear g1; have hx := nx; clear nx; have hs := ns; clear ns; have g0 := n0; clear n0; have g1 := n1; clear n1) | (go_at_call 112; refine (RP.out _).mono ?_; rintro rv w1 ⟨rfl, rfl⟩))
  go_region
  go_wp2_with fail
  try (go_region; go_wp2_with fail)
  go_ret
  exact ⟨rfl, (by repeat (first | exact Ext.refl _ | with_reducible assumption | apply Ext.alloc | apply Ext.drew | apply Ext.drewN | (refine Ext.setRow ?_ (by first | (simp; done) | (simp; omega) | omega) _) | (refine Ext.setCell ?_ (by first | (simp; done) | (simp; omega) | omega) _) | (refine Ext.trans ?_ (by with_reducible assumption))))⟩

theorem arWhole_dnN (e f u L A P : Int) (hg : goodB e f = true) (hP : pw (-unV e f) = P) (t1 : u.tmod P = A) (t2 : u.tdiv P = L) (t4 : (P == 0) = false) (t3 : ¬ P = 0) (t7 : IntKind.i64.wrap (u.tmod P) = A) (w1 : IntKind.i64.wrap L = L) (w2 : IntKind.i64.wrap A = A) (w3 : IntKind.i64.wrap (2 * A) = 2 * A) (w4 : IntKind.i64.wrap (L + 1) = L + 1) (t5 : L.tmod 2 = L % 2) (t6 : IntKind.i64.wrap (L % 2) = L % 2) (hz : (A == 0) = false) (w : World) : Calls Tryd.prog 62 #[fmt e f, .int .i64 u, .int .i64 4, .bool true] w fun rv w' => rv = .returned (.int .i64 (L + 1)) ∧ Ext w w' := by
  obtain ⟨u1, u2, _⟩ := un_bd hg
  have kn : IntKind.i64.wrap (-unV e f) = -unV e f := IntWalk.i64_in _ (by omega)
  have RU := Lib.hid (fun w => rdUnit_any e f hg w)
  have RP := Lib.hid (fun w => rdPower_any (-unV e f) (by omega) (by omega) w)
  rw [hP] at RP
  generalize unV e f = U at *
  clear u1 u2
  go_enter Tryd.func62, Tryd.ntmps62
  go_wp2_with (first | (go_at_call 49; refine (RU.out _).mono ?_; rintro rv w1 ⟨rfl, hb⟩; have ns : w.heap.size < w1.heap.size := hb.lt (by first | with_reducible assumption | omega | (simp; done) | (simp; omega)); have n0 : w1.cell? ⟨w.heap.size, 0, none⟩ = some (.int .i64 e) := (hb.cells _ _ (by first | with_reducible assumption | omega | (simp; done) | (simp; omega))).trans (by first | with_reducible assumption | (simp; done) | (simp; with_reducible assumption) | (rw [cell_alloc_before _ _ _ _ (by omega)]; with_reducible assumption) | (simp [go_sem, *]; done)); have n1 : w1.cell? ⟨w.heap.size, 1, none⟩ = some (.int .i64 f) := (hb.cells _ _ (by first | with_reducible assumption | omega | (simp; done) | (simp; omega))).trans (by first | with_reducible assumption | (simp; done) | (simp; with_reducible assumption) | (rw [cell_alloc_before _ _ _ _ (by omega)]; with_reducible assumption) | (simp [go_sem, *]; done)); (first | (have nx := Ext.trans hx hb; clear hx) | (have nx := Ext.trans (hx.alloc _) hb; clear hx) | (have nx := Ext.trans hx.drew hb; clear hx) | have nx := hb); clear hb; try clear hs; try clear g0; try clear g1; have hx := nx; clear nx; have hs := ns; clear ns; have g0 := n0; clear n0; have g1 := n1; clear n1) | (go_at_call 112; refine (RP.out _).mono ?_; rintro rv w1 ⟨rfl, rfl⟩))
  go_region
  go_wp2_with fail
  try (go_region; go_wp2_with fail)
  go_ret
  exact ⟨rfl, (by repeat (first | exact Ext.refl _ | with_reducible assumption | apply Ext.alloc | apply Ext.drew | apply Ext.drewN | (refine Ext.setRow ?_ (by first | (simp; done) | (simp; omega) | omega) _) | (refine Ext.setCell ?_ (by first | (simp; done) | (simp; omega) | omega) _) | (refine Ext.trans ?_ (by with_reducible assumption))))⟩

theorem arWhole_odO (e f u L A P : Int) (neg : Bool) (hg : goodB e f = true) (hP : pw (-unV e f) = P) (t1 : u.tmod P = A) (t2 : u.tdiv P = L) (t4 : (P == 0) = false) (t3 : ¬ P = 0) (t7 : IntKind.i64.wrap (u.tmod P) = A) (w1 : IntKind.i64.wrap L = L) (w2 : IntKind.i64.wrap A = A) (w3 : IntKind.i64.wrap (2 * A) = 2 * A) (w4 : IntKind.i64.wrap (L + 1) = L + 1) (t5 : L.tmod 2 = L % 2) (t6 : IntKind.i64.wrap (L % 2) = L % 2) (hz : (A == 0) = false) (g3 : L % 2 = 1) (w : World) : Calls Tryd.prog 62 #[fmt e f, .int .i64 u, .int .i64 5, .bool neg] w fun rv w' => rv = .returned (.int .i64 (L)) ∧ Ext w w' := by
  obtain ⟨u1, u2, _⟩ := un_bd hg
  have kn : IntKind.i64.wrap (-unV e f) = -unV e f := IntWalk.i64_in _ (by omega)
  have RU := Lib.hid (fun w => rdUnit_any e f hg w)
  have RP := Lib.hid (fun w => rdPower_any (-unV e f) (by omega) (by omega) w)
  rw [hP] at RP
  generalize unV e f = U at *
  clear u1 u2
  go_enter Tryd.func62, Tryd.ntmps62
  go_wp2_with (first | (go_at_call 49; refine (RU.out _).mono ?_; rintro rv w1 ⟨rfl, hb⟩; have ns : w.heap.size < w1.heap.size := hb.lt (by first | with_reducible assumption | omega | (simp; done) | (simp; omega)); have n0 : w1.cell? ⟨w.heap.size, 0, none⟩ = some (.int .i64 e) := (hb.cells _ _ (by first | with_reducible assumption | omega | (simp; done) | (simp; omega))).trans (by first | with_reducible assumption | (simp; done) | (simp; with_reducible assumption) | (rw [cell_alloc_before _ _ _ _ (by omega)]; with_reducible assumption) | (simp [go_sem, *]; done)); have n1 : w1.cell? ⟨w.heap.size, 1, none⟩ = some (.int .i64 f) := (hb.cells _ _ (by first | with_reducible assumption | omega | (simp; done) | (simp; omega))).trans (by first | with_reducible assumption | (simp; done) | (simp; with_reducible assumption) | (rw [cell_alloc_before _ _ _ _ (by omega)]; with_reducible assumption) | (simp [go_sem, *]; done)); (first | (have nx := Ext.trans hx hb; clear hx) | (have nx := Ext.trans (hx.alloc _) hb; clear hx) | (have nx := Ext.trans hx.drew hb; clear hx) | have nx := hb); clear hb; try clear hs; try clear g0; try clear g1; have hx := nx; clear nx; have hs := ns; clear ns; have g0 := n0; clear n0; have g1 := n1; clear n1) | (go_at_call 112; refine (RP.out _).mono ?_; rintro rv w1 ⟨rfl, rfl⟩))
  go_region
  go_wp2_with fail
  try (go_region; go_wp2_with fail)
  go_ret
  exact ⟨rfl, (by repeat (first | exact Ext.refl _ | with_reducible assumption | apply Ext.alloc | apply Ext.drew | apply Ext.drewN | (refine Ext.setRow ?_ (by first | (simp; done) | (simp; omega) | omega) _) | (refine Ext.setCell ?_ (by first | (simp; done) | (simp; omega) | omega) _) | (refine Ext.trans ?_ (by with_reducible assumption))))⟩

theorem arWhole_odE (e f u L A P : Int) (neg : Bool) (hg : goodB e f = true) (hP : pw (-unV e f) = P) (t1 : u.tmod P = A) (t2 : u.tdiv P = L) (t4 : (P == 0) = false) (t3 : ¬ P = 0) (t7 : IntKind.i64.wrap (u.tmod P) = A) (w1 : IntKind.i64.wrap L = L) (w2 : IntKind.i64.wrap A = A) (w3 : IntKind.i64.wrap (2 * A) = 2 * A) (w4 : IntKind.i64.wrap (L + 1) = L + 1) (t5 : L.tmod 2 = L % 2) (t6 : IntKind.i64.wrap (L % 2) = L % 2) (hz : (A == 0) = false) (g3 : L % 2 = 0) (w : World) : Calls Tryd.prog 62 #[fmt e f, .int .i64 u, .int .i64 5, .bool neg] w fun rv w' => rv = .returned (.int .i64 (L + 1)) ∧ Ext w w' := by
  obtain ⟨u1, u2, _⟩ := un_bd hg
  have kn : IntKind.i64.wrap (-unV e f) = -unV e f := IntWalk.i64_in _ (by omega)
  have RU := Lib.hid (fun w => rdUnit_any e f hg w)
  have RP := Lib.hid (fun w => rdPower_any (-unV e f) (by omega) (by omega) w)
  rw [hP] at RP
  generalize unV e f = U at *
  clear u1 u2
  go_enter Tryd.func62, Tryd.ntmps62
  go_wp2_with (first | (go_at_call 49; refine (RU.out _).mono ?_; rintro rv w1 ⟨rfl, hb⟩; have ns : w.heap.size < w1.heap.size := hb.lt (by first | with_reducible assumption | omega | (simp; done) | (simp; omega)); have n0 : w1.cell? ⟨w.heap.size, 0, none⟩ = some (.int .i64 e) := (hb.cells _ _ (by first | with_reducible assumption | omega | (simp; done) | (simp; omega))).trans (by first | with_reducible assumption | (simp; done) | (simp; with_reducible assumption) | (rw [cell_alloc_before _ _ _ _ (by omega)]; with_reducible assumption) | (simp [go_sem, *]; done)); have n1 : w1.cell? ⟨w.heap.size, 1, none⟩ = some (.int .i64 f) := (hb.cells _ _ (by first | with_reducible assumption | omega | (simp; done) | (simp; omega))).trans (by first | with_reducible assumption | (simp; done) | (simp; with_reducible assumption) | (rw [cell_alloc_before _ _ _ _ (by omega)]; with_reducible assumption) | (simp [go_sem, *]; done)); (first | (have nx := Ext.trans hx hb; clear hx) | (have nx := Ext.trans (hx.alloc _) hb; clear hx) | (have nx := Ext.trans hx.drew hb; clear hx) | have nx := hb); clear hb; try clear hs; try clear g0; try clear g1; have hx := nx; clear nx; have hs := ns; clear ns; have g0 := n0; clear n0; have g1 := n1; clear n1) | (go_at_call 112; refine (RP.out _).mono ?_; rintro rv w1 ⟨rfl, rfl⟩))
  go_region
  go_wp2_with fail
  try (go_region; go_wp2_with fail)
  go_ret
  exact ⟨rfl, (by repeat (first | exact Ext.refl _ | with_reducible assumption | apply Ext.alloc | apply Ext.drew | apply Ext.drewN | (refine Ext.setRow ?_ (by first | (simp; done) | (simp; omega) | omega) _) | (refine Ext.setCell ?_ (by first | (simp; done) | (simp; omega) | omega) _) | (refine Ext.trans ?_ (by with_reducible assumption))))⟩

theorem arWhole_any (e f u mode : Int) (neg : Bool) (hg : goodB e f = true) (u0 : 0 ≤ u) (u1 : u ≤ 4398046511104) (m0 : 0 ≤ mode) (m1 : mode ≤ 5) (w : World) : Calls Tryd.prog 62 #[fmt e f, .int .i64 u, .int .i64 mode, .bool neg] w fun rv w' => rv = .returned (.int .i64 (whV u (pw (-unV e f)) mode neg)) ∧ Ext w w' := by
  obtain ⟨v1, v2, _⟩ := un_bd hg
  obtain ⟨P, hP⟩ : ∃ P, pw (-unV e f) = P := ⟨_, rfl⟩
  have p1 := pw_pos (-unV e f)
  have p2 : pw (-unV e f) ≤ 16777216 := pw_le 24 16777216 rfl (by omega)
  rw [hP] at p1 p2 ⊢
  have t1 : u.tmod P = u % P := Int.tmod_eq_emod_of_nonneg u0
  have t2 : u.tdiv P = u / P := Int.tdiv_eq_ediv_of_nonneg u0
  have t4 : (P == 0) = false := by simp; omega
  have t3 : ¬ P = 0 := by omega
  have r0 := Int.emod_nonneg u (show P ≠ 0 by omega)
  have r1 := Int.emod_lt_of_pos u (show 0 < P by omega)
  have q0 : 0 ≤ u / P := Int.ediv_nonneg u0 (by omega)
  have q1 : u / P ≤ u := Int.ediv_le_self _ u0
  unfold whV
  generalize u / P = L at *
  generalize u % P = A at *
  have w1 : IntKind.i64.wrap L = L := IntWalk.i64_in _ (by omega)
  have w2 : IntKind.i64.wrap A = A := IntWalk.i64_in _ (by omega)
  have t7 : IntKind.i64.wrap (u.tmod P) = A := by rw [t1]; exact w2
  have w3 : IntKind.i64.wrap (2 * A) = 2 * A := IntWalk.i64_in _ (by omega)
  have w4 : IntKind.i64.wrap (L + 1) = L + 1 := IntWalk.i64_in _ (by omega)
  have t5 : L.tmod 2 = L % 2 := Int.tmod_eq_emod_of_nonneg q0
  have t6 : IntKind.i64.wrap (L % 2) = L % 2 := IntWalk.i64_in _ (by omega)
  have par : L % 2 = 0 ∨ L % 2 = 1 := by omega
  by_cases hz : A = 0
  · have r := arWhole_zero e f u L A P mode neg hg hP t1 t2 t4 t3 t7 w1 w2 w3 w4 t5 t6 (by simpa using hz) w
    rwa [show rndP A P L mode neg = L from by unfold rndP; rw [if_pos hz]]
  · have hz2 : (A == 0) = false := by simpa using hz
    rw [show rndP A P L mode neg = if upR A P L mode neg = true then L + 1 else L from by unfold rndP; rw [if_neg hz]]
    have hmode : mode = 0 ∨ mode = 1 ∨ mode = 2 ∨ mode = 3 ∨ mode = 4 ∨ mode = 5 := by omega
    rcases hmode with rfl | rfl | rfl | rfl | rfl | rfl
    · rw [show upR A P L 0 neg = decide (P < 2 * A ∨ (2 * A = P ∧ L % 2 = 1)) from rfl]
      by_cases g : P < 2 * A
      · rw [decide_eq_true (Or.inl g)]; exact arWhole_evG e f u L A P neg hg hP t1 t2 t4 t3 t7 w1 w2 w3 w4 t5 t6 hz2 g w
      · by_cases g2 : 2 * A = P
        · rcases par with h | h
          · rw [decide_eq_false (by omega)]; exact arWhole_evE e f u L A P neg hg hP t1 t2 t4 t3 t7 w1 w2 w3 w4 t5 t6 hz2 g (by simpa using g2) h w
          · rw [decide_eq_true (by omega)]; exact arWhole_evO e f u L A P neg hg hP t1 t2 t4 t3 t7 w1 w2 w3 w4 t5 t6 hz2 g (by simpa using g2) h w
        · rw [decide_eq_false (by omega)]; exact arWhole_evL e f u L A P neg hg hP t1 t2 t4 t3 t7 w1 w2 w3 w4 t5 t6 hz2 g (by simpa using g2) w
    · rw [show upR A P L 1 neg = decide (P ≤ 2 * A) from rfl]
      by_cases g : P ≤ 2 * A
      · rw [decide_eq_true g]; exact arWhole_awG e f u L A P neg hg hP t1 t2 t4 t3 t7 w1 w2 w3 w4 t5 t6 hz2 g w
      · rw [decide_eq_false g]; exact arWhole_awL e f u L A P neg hg hP t1 t2 t4 t3 t7 w1 w2 w3 w4 t5 t6 hz2 g w
    · exact arWhole_cut e f u L A P neg hg hP t1 t2 t4 t3 t7 w1 w2 w3 w4 t5 t6 hz2 w
    · cases neg
      · exact arWhole_upP e f u L A P hg hP t1 t2 t4 t3 t7 w1 w2 w3 w4 t5 t6 hz2 w
      · exact arWhole_upN e f u L A P hg hP t1 t2 t4 t3 t7 w1 w2 w3 w4 t5 t6 hz2 w
    · cases neg
      · exact arWhole_dnP e f u L A P hg hP t1 t2 t4 t3 t7 w1 w2 w3 w4 t5 t6 hz2 w
      · exact arWhole_dnN e f u L A P hg hP t1 t2 t4 t3 t7 w1 w2 w3 w4 t5 t6 hz2 w
    · rw [show upR A P L 5 neg = decide (L % 2 = 0) from rfl]
      rcases par with h | h
      · rw [decide_eq_true h]; exact arWhole_odE e f u L A P neg hg hP t1 t2 t4 t3 t7 w1 w2 w3 w4 t5 t6 hz2 h w
      · rw [decide_eq_false (by omega)]; exact arWhole_odO e f u L A P neg hg hP t1 t2 t4 t3 t7 w1 w2 w3 w4 t5 t6 hz2 h w
end Go.Proofs.YtfgbndjhaiigbabDoor

namespace Go.Proofs.YtfgbndjhaiigbabDoor
open Go Go.RowKit
set_option linter.unusedSimpArgs false
set_option linter.unusedVariables false
set_option maxRecDepth 100000

attribute [local go_sem] ta_finite_finite ta_finite_infinite ta_finite_noNumber ta_infinite_finite ta_infinite_infinite ta_infinite_noNumber ta_noNumber_finite ta_noNumber_infinite ta_noNumber_noNumber

theorem together_any (m1 n1 x1 m2 n2 x2 d1 d2 : Int) (h1 : x1 - min x1 x2 = d1) (h2 : x2 - min x1 x2 = d2) (v0 : 0 ≤ d1) (v1 : d1 ≤ 62) (v2 : 0 ≤ d2) (v3 : d2 ≤ 62) (k1 : IntKind.i64.wrap (n1 * pw d1) = n1 * pw d1) (k2 : IntKind.i64.wrap (n2 * pw d2) = n2 * pw d2) (w : World) : Calls Tryd.prog 114 #[.agg #[.int .i64 m1, .int .i64 n1, .int .i64 x1], .agg #[.int .i64 m2, .int .i64 n2, .int .i64 x2]] w fun rv w' => rv = .returned (.tuple #[.int .i64 (n1 * pw d1), .int .i64 (n2 * pw d2), .int .i64 (min x1 x2)]) ∧ Ext w w' := by
  have w1 : IntKind.i64.wrap d1 = d1 := IntWalk.i64_in _ (by omega)
  have w2 : IntKind.i64.wrap d2 = d2 := IntWalk.i64_in _ (by omega)
  have z1 : min d1.toNat 64 = d1.toNat := by omega
  have z2 : min d2.toNat 64 = d2.toNat := by omega
  have y1 : ¬ d1 < 0 := by omega
  have y2 : ¬ d2 < 0 := by omega
  have e1 := pw_of d1
  have e2 := pw_of d2
  go_enter Tryd.func114, Tryd.ntmps114
  go_wp2
  go_region_held3 (fun w' => w'.cell? ⟨w.heap.size, 0, none⟩ = some (.int .i64 m1) ∧ w'.cell? ⟨w.heap.size, 1, none⟩ = some (.int .i64 n1) ∧ w'.cell? ⟨w.heap.size, 2, none⟩ = some (.int .i64 x1) ∧ w'.cell? ⟨w.heap.size + 1, 0, none⟩ = some (.int .i64 m2) ∧ w'.cell? ⟨w.heap.size + 1, 1, none⟩ = some (.int .i64 n2) ∧ w'.cell? ⟨w.heap.size + 1, 2, none⟩ = some (.int .i64 x2) ∧ w.heap.size + 1 < w'.heap.size) ((refine ⟨?_, ?_, ?_, ?_, ?_, ?_, ?_⟩ <;> first | with_reducible assumption | ((repeat first | rw [cell_set_far _ _ _ _ _ _ (by omega)] | rw [cell_alloc_before _ _ _ _ (by omega)] | rw [cell_alloc_drew _ _ _ _ (by omega)] | rw [cell_drew]); with_reducible assumption) | ((rw [cell_setRow_far _ _ _ _ _ (by omega)]); with_reducible assumption) | ((rw [setRow_size]); with_reducible assumption) | (simp; done) | (simp [World.setCell]; first | done | omega) | (simp [go_sem, World.cell?_alloc_past, World.cell?_setCell_far, *]; done))) (fail)
  go_wp2
  go_ret3
  exact ⟨rfl, (by repeat (first | exact Ext.refl _ | with_reducible assumption | apply Ext.alloc | apply Ext.drew | apply Ext.drewN | (refine Ext.setRow ?_ (by first | (simp; done) | (simp; omega) | omega) _) | (refine Ext.setCell ?_ (by first | (simp; done) | (simp; omega) | omega) _) | (refine Ext.trans ?_ (by with_reducible assumption))))⟩

theorem wholeQuotient_p (a b mode z : Int) (neg : Bool) (R S : Nat) (b0 : 0 < b) (t1 : a.tmod b = a % b) (t2 : a.tdiv b = a / b) (w1 : IntKind.i64.wrap (a / b) = a / b) (w2 : IntKind.i64.wrap (a % b) = a % b) (f1 : floatOfInt .f32 (a % b) = R) (f2 : floatOfInt .f32 b = S) (RR : Hid (∀ w, Calls Tryd.prog 145 #[.agg #[.int .i64 (a / b), .float .f32 R, .float .f32 S], .int .i64 mode, .bool neg] w fun rv w' => rv = .returned (.int .i64 z) ∧ Ext w w')) (w : World) : Calls Tryd.prog 115 #[.int .i64 a, .int .i64 b, .int .i64 mode, .bool neg] w fun rv w' => rv = .returned (.int .i64 z) ∧ Ext w w' := by
  have t3 : ¬ b = 0 := by omega
  have t4 : (b == 0) = false := by simpa using t3
  have BLD : ∀ (p : Int) (x y : Nat) w, (Instr.build 140 #[(0, .int .i64 p), (1, .float .f32 x), (2, .float .f32 y)]).run Tryd.prog w = .ok (.agg #[.int .i64 p, .float .f32 x, .float .f32 y]) w := fun p x y w => run_build w _ _ _ (by kernel_rfl)
  go_enter Tryd.func115, Tryd.ntmps115
  go_wp2
  go_region_held3 (fun w' => True) (trivial) ((go_at_call 145; refine (RR.out _).mono ?_; rintro rv w1 ⟨rfl, hb⟩; have hx : Ext w w1 := Ext.trans (by repeat (first | exact Ext.refl _ | with_reducible assumption | apply Ext.alloc | apply Ext.drew | apply Ext.drewN | (refine Ext.setRow ?_ (by first | (simp; done) | (simp; omega) | omega) _) | (refine Ext.setCell ?_ (by first | (simp; done) | (simp; omega) | omega) _) | (refine Ext.trans ?_ (by with_reducible assumption)))) hb; clear hb))
  go_wp2
  go_ret
  exact ⟨rfl, (by repeat (first | exact Ext.refl _ | with_reducible assumption | apply Ext.alloc | apply Ext.drew | apply Ext.drewN | (refine Ext.setRow ?_ (by first | (simp; done) | (simp; omega) | omega) _) | (refine Ext.setCell ?_ (by first | (simp; done) | (simp; omega) | omega) _) | (refine Ext.trans ?_ (by with_reducible assumption))))⟩

theorem wholeQuotient_any (a b mode : Int) (neg : Bool) (a0 : 0 ≤ a) (a1 : a < 1152921504606846976) (b0 : 0 < b) (b1 : b < 1152921504606846976) (m0 : 0 ≤ mode) (m1 : mode ≤ 5) (okR : Ok Ieee.single ((a % b).toNat * 2 ^ 149)) (ltR : (a % b).toNat * 2 ^ 149 < 2 ^ 192) (okS : Ok Ieee.single (b.toNat * 2 ^ 149)) (w : World) : Calls Tryd.prog 115 #[.int .i64 a, .int .i64 b, .int .i64 mode, .bool neg] w fun rv w' => rv = .returned (.int .i64 (whV a b mode neg)) ∧ Ext w w' := by
  have r0 := Int.emod_nonneg a (show b ≠ 0 by omega)
  have r1 := Int.emod_lt_of_pos a b0
  have q0 : 0 ≤ a / b := Int.ediv_nonneg a0 (by omega)
  have q1 : a / b ≤ a := Int.ediv_le_self _ a0
  have t1 : a.tmod b = a % b := Int.tmod_eq_emod_of_nonneg a0
  have t2 : a.tdiv b = a / b := Int.tdiv_eq_ediv_of_nonneg a0
  have t4 : (b == 0) = false := by simp; omega
  have w1 : IntKind.i64.wrap (a / b) = a / b := IntWalk.i64_in _ (by omega)
  have w2 : IntKind.i64.wrap (a % b) = a % b := IntWalk.i64_in _ (by omega)
  have hz : 0 < pw 149 := by have := pw_pos 149; omega
  have f1 : floatOfInt .f32 (a % b) = fw Ieee.single ((a % b).toNat * 2 ^ 149) := by
    have := int_fw (f := Ieee.single) (a % b).toNat 149 (by decide)
    rw [Int.toNat_of_nonneg r0] at this
    exact this
  have f2 : floatOfInt .f32 b = fw Ieee.single (b.toNat * 2 ^ 149) := by
    have := int_fw (f := Ieee.single) b.toNat 149 (by decide)
    rw [Int.toNat_of_nonneg (show 0 ≤ b by omega)] at this
    exact this
  have eR : ((((a % b).toNat * 2 ^ 149 : Nat)) : Int) = (a % b) * pw 149 := by rw [Int.natCast_mul, Int.toNat_of_nonneg r0, pw_cast]; rfl
  have eS : (((b.toNat * 2 ^ 149 : Nat)) : Int) = b * pw 149 := by rw [Int.natCast_mul, Int.toNat_of_nonneg (show 0 ≤ b by omega), pw_cast]; rfl
  have eP : rndP (((a % b).toNat * 2 ^ 149 : Nat) : Int) ((b.toNat * 2 ^ 149 : Nat) : Int) (a / b) mode neg = rndP (a % b) b (a / b) mode neg := by rw [eR, eS]; exact rndP_mul hz
  have rr := fun w => (rounded_any (a / b) mode _ _ neg q0 (by omega) okR ltR okS m0 m1 w).mono (fun rv w1 h => (⟨by rw [h.1, eP], h.2⟩ : rv = .returned (.int .i64 (rndP (a % b) b (a / b) mode neg)) ∧ Ext w w1))
  clear eR eS eP
  unfold whV
  exact wholeQuotient_p a b mode _ neg _ _ b0 t1 t2 w1 w2 f1 f2 (Lib.hid rr) w
end Go.Proofs.YtfgbndjhaiigbabDoor

namespace Go.Proofs.YtfgbndjhaiigbabDoor
open Go Go.RowKit
set_option linter.unusedSimpArgs false
set_option linter.unusedVariables false
set_option maxRecDepth 100000

attribute [local go_sem] ta_finite_finite ta_finite_infinite ta_finite_noNumber ta_infinite_finite ta_infinite_infinite ta_infinite_noNumber ta_noNumber_finite ta_noNumber_infinite ta_noNumber_noNumber

theorem ok_npw {n k : Int} (h0 : 0 ≤ n) (h1 : n < 16777216) (k0 : 0 ≤ k) (k1 : k ≤ 100) : Ok Ieee.single ((n * pw k).toNat * 2 ^ 149) := by
  have e : n * pw k = ((n.toNat * 2 ^ k.toNat : Nat) : Int) := by rw [Int.natCast_mul, Int.toNat_of_nonneg h0, pw_cast, Int.toNat_of_nonneg k0]
  rw [e, Int.toNat_natCast, Nat.mul_assoc, ← Nat.pow_add]
  exact ok32 (by omega) (by omega)

theorem lt_few {n : Int} (h0 : 0 ≤ n) (h1 : n < 16777216) : n.toNat * 2 ^ 149 < 2 ^ 192 := by
  have h : n.toNat < 2 ^ 24 := by omega
  refine Nat.lt_of_lt_of_le (Nat.mul_lt_mul_of_pos_right h (Nat.two_pow_pos 149)) ?_
  rw [← Nat.pow_add]
  exact Nat.pow_le_pow_right (by decide) (by decide)

theorem ok_few {n : Int} (h0 : 0 ≤ n) (h1 : n < 16777216) : Ok Ieee.single (n.toNat * 2 ^ 149) := ok32 (by omega) (by decide)

/-- The size of a value, and a one, as multiples of the lesser power: the number of units, and of the units in a one. -/
theorem wh_units {e f a mode : Int} {neg : Bool} (hap : patB e f a = true) (na : (unitsV e f a) ≠ 0) : whV (((odV (unitsV e f a)).natAbs : Int) * pw ((shE (unitsV e f a) (unV e f)) - min (shE (unitsV e f a) (unV e f)) 0)) (1 * pw (0 - min (shE (unitsV e f a) (unV e f)) 0)) mode neg = whV ((unitsV e f a).natAbs : Int) (pw (-(unV e f))) mode neg := by
  have ub := units_bd e f a hap
  have u := un_bd (pat_iff.1 hap).1
  obtain ⟨t0, t1, t2, t3⟩ := tz_spec (unitsV e f a) na (by omega) (by omega)
  have hx : (shE (unitsV e f a) (unV e f)) = (unV e f) + tzV (unitsV e f a) := if_neg na
  have hm : (unV e f) ≤ min (shE (unitsV e f a) (unV e f)) 0 := by omega
  have q := pw_pos (min (shE (unitsV e f a) (unV e f)) 0 - (unV e f))
  have q2 := pw_pos (0 - min (shE (unitsV e f a) (unV e f)) 0)
  have e1 : ((odV (unitsV e f a)).natAbs : Int) * pw ((shE (unitsV e f a) (unV e f)) - min (shE (unitsV e f a) (unV e f)) 0) * pw (min (shE (unitsV e f a) (unV e f)) 0 - (unV e f)) = ((unitsV e f a).natAbs : Int) := by
    rw [Int.mul_assoc, ← pw_add _ _ (by omega) (by omega), show (shE (unitsV e f a) (unV e f)) - min (shE (unitsV e f a) (unV e f)) 0 + (min (shE (unitsV e f a) (unV e f)) 0 - (unV e f)) = tzV (unitsV e f a) by omega]
    have p := pw_pos (tzV (unitsV e f a))
    have h : ((odV (unitsV e f a) * pw (tzV (unitsV e f a))).natAbs : Int) = ((odV (unitsV e f a)).natAbs : Int) * pw (tzV (unitsV e f a)) := by
      rw [Int.natAbs_mul, Int.natCast_mul, Int.natAbs_of_nonneg (show 0 ≤ pw (tzV (unitsV e f a)) by omega)]
    rw [← t2] at h
    exact h.symm
  have e2 : 1 * pw (0 - min (shE (unitsV e f a) (unV e f)) 0) * pw (min (shE (unitsV e f a) (unV e f)) 0 - (unV e f)) = pw (-(unV e f)) := by
    rw [Int.one_mul, ← pw_add _ _ (by omega) (by omega)]
    congr 1
    omega
  rw [← e1, ← e2]
  exact (wh_mul (by omega) (by omega)).symm

theorem wh_null {b mode : Int} {neg : Bool} : whV 0 b mode neg = 0 := by
  unfold whV rndP
  simp

theorem whole_any (m n x k : Int) (v0 : 0 ≤ n) (v1 : n ≤ 2048) (x0 : -24 ≤ x) (x1 : x ≤ 41) (m0 : 0 ≤ k) (m1 : k ≤ 5) (w : World) : Calls Tryd.prog 65 #[.agg #[.int .i64 m, .int .i64 n, .int .i64 x], .int .i64 k] w fun rv w' => rv = .returned (.int .i64 (whV (n * pw (x - min x 0)) (1 * pw (0 - min x 0)) k (m == 1))) ∧ Ext w w' := by
  have d1 : 0 ≤ x - min x 0 ∧ x - min x 0 ≤ 41 := by omega
  have d2 : 0 ≤ 0 - min x 0 ∧ 0 - min x 0 ≤ 24 := by omega
  have p1 := pw_pos (x - min x 0)
  have p2 : pw (x - min x 0) ≤ 2199023255552 := pw_le 41 2199023255552 rfl (by omega)
  have q1 := pw_pos (0 - min x 0)
  have q2 : pw (0 - min x 0) ≤ 16777216 := pw_le 24 16777216 rfl (by omega)
  have A0 : 0 ≤ n * pw (x - min x 0) := Int.mul_nonneg v0 (by omega)
  have A1 : n * pw (x - min x 0) ≤ 2048 * 2199023255552 := Int.mul_le_mul v1 p2 (by omega) (by omega)
  have TG := Lib.hid (fun w => together_any m n x 0 1 0 _ _ rfl rfl (by omega) (by omega) (by omega) (by omega) (IntWalk.i64_in _ (by omega)) (IntWalk.i64_in _ (by omega)) w)
  have r0 := Int.emod_nonneg (n * pw (x - min x 0)) (show 1 * pw (0 - min x 0) ≠ 0 by omega)
  have r1 := Int.emod_lt_of_pos (n * pw (x - min x 0)) (show 0 < 1 * pw (0 - min x 0) by omega)
  have WQ := Lib.hid (fun w => wholeQuotient_any (n * pw (x - min x 0)) (1 * pw (0 - min x 0)) k (m == 1) A0 (by omega) (by omega) (by omega) m0 m1 (ok_few r0 (by omega)) (lt_few r0 (by omega)) (ok_npw (by omega) (by omega) (by omega) (by omega)) w)
  have BLD : ∀ w, (Instr.build 74 #[(1, .int .i64 1)]).run Tryd.prog w = .ok (.agg #[.int .i64 0, .int .i64 1, .int .i64 0]) w := fun w => run_build w _ _ _ (by kernel_rfl)
  clear d1 d2 p1 p2 q1 q2 A0 A1 r0 r1
  generalize n * pw (x - min x 0) = A at *
  generalize 1 * pw (0 - min x 0) = B at *
  generalize whV A B k (m == 1) = z at *
  generalize min x 0 = y at *
  go_enter Tryd.func65, Tryd.ntmps65
  go_wp2_with (first | (go_at_call 114; refine (TG.out _).mono ?_; rintro rv w1 ⟨rfl, hb⟩; have hx : Ext w w1 := Ext.trans (by repeat (first | exact Ext.refl _ | with_reducible assumption | apply Ext.alloc | apply Ext.drew | apply Ext.drewN | (refine Ext.setRow ?_ (by first | (simp; done) | (simp; omega) | omega) _) | (refine Ext.setCell ?_ (by first | (simp; done) | (simp; omega) | omega) _) | (refine Ext.trans ?_ (by with_reducible assumption)))) hb; have ns : w.heap.size < w1.heap.size := hb.lt (by first | with_reducible assumption | omega | (simp; done) | (simp; omega)); have g0 : w1.cell? ⟨w.heap.size, 0, none⟩ = some (.int .i64 m) := (hb.cells _ _ (by first | with_reducible assumption | omega | (simp; done) | (simp; omega))).trans (by first | (simp; done) | (simp [go_sem]; done)); clear hb) | (go_at_call 115; refine (WQ.out _).mono ?_; rintro rv w2 ⟨rfl, hb⟩; have hx2 : Ext w w2 := Ext.trans (by repeat (first | exact Ext.refl _ | with_reducible assumption | apply Ext.alloc | apply Ext.drew | apply Ext.drewN | (refine Ext.setRow ?_ (by first | (simp; done) | (simp; omega) | omega) _) | (refine Ext.setCell ?_ (by first | (simp; done) | (simp; omega) | omega) _) | (refine Ext.trans ?_ (by with_reducible assumption)))) hb; clear hb hx))
  go_ret
  exact ⟨rfl, hx2⟩
end Go.Proofs.YtfgbndjhaiigbabDoor

namespace Go.Proofs.YtfgbndjhaiigbabDoor
open Go Go.RowKit
set_option linter.unusedSimpArgs false
set_option linter.unusedVariables false
set_option maxRecDepth 100000

attribute [local go_sem] ta_finite_finite ta_finite_infinite ta_finite_noNumber ta_infinite_finite ta_infinite_infinite ta_infinite_noNumber ta_noNumber_finite ta_noNumber_infinite ta_noNumber_noNumber

theorem finiteAt_b0 (e f a : Int) (h0 : patB e f a = false) (w : World) : Calls Tryd.prog 63 #[fmt e f, .int .i64 a] w fun rv w' => rv = .returned (.tuple #[.agg #[.int .i64 0, .int .i64 0, .int .i64 0], .bool false]) ∧ Ext w w' := by
  go_enter Tryd.func63, Tryd.ntmps63
  go_wp2_with (first | (go_at_call 84; refine (isPattern_any e f a _).mono ?_; rintro rv w1 ⟨rfl, hb⟩; have ns : w.heap.size + 1 < w1.heap.size := hb.lt (by first | with_reducible assumption | omega | (simp; done) | (simp; omega)); have n0 : w1.cell? ⟨w.heap.size, 0, none⟩ = some (.int .i64 e) := (hb.cells _ _ (by first | with_reducible assumption | omega | (simp; done) | (simp; omega))).trans (by first | with_reducible assumption | (simp; done) | (simp; with_reducible assumption) | (rw [cell_alloc_before _ _ _ _ (by omega)]; with_reducible assumption) | (simp [go_sem, *]; done)); have n1 : w1.cell? ⟨w.heap.size, 1, none⟩ = some (.int .i64 f) := (hb.cells _ _ (by first | with_reducible assumption | omega | (simp; done) | (simp; omega))).trans (by first | with_reducible assumption | (simp; done) | (simp; with_reducible assumption) | (rw [cell_alloc_before _ _ _ _ (by omega)]; with_reducible assumption) | (simp [go_sem, *]; done)); have n2 : w1.cell? ⟨w.heap.size + 1, 0, none⟩ = some (.int .i64 0) := (hb.cells _ _ (by first | with_reducible assumption | omega | (simp; done) | (simp; omega))).trans (by first | with_reducible assumption | (simp; done) | (simp; with_reducible assumption) | (rw [cell_alloc_before _ _ _ _ (by omega)]; with_reducible assumption) | (simp [go_sem, *]; done)); have n3 : w1.cell? ⟨w.heap.size + 1, 1, none⟩ = some (.int .i64 0) := (hb.cells _ _ (by first | with_reducible assumption | omega | (simp; done) | (simp; omega))).trans (by first | with_reducible assumption | (simp; done) | (simp; with_reducible assumption) | (rw [cell_alloc_before _ _ _ _ (by omega)]; with_reducible assumption) | (simp [go_sem, *]; done)); have n4 : w1.cell? ⟨w.heap.size + 1, 2, none⟩ = some (.int .i64 0) := (hb.cells _ _ (by first | with_reducible assumption | omega | (simp; done) | (simp; omega))).trans (by first | with_reducible assumption | (simp; done) | (simp; with_reducible assumption) | (rw [cell_alloc_before _ _ _ _ (by omega)]; with_reducible assumption) | (simp [go_sem, *]; done)); have nz0 : w1.frozen? ⟨w.heap.size + 1, 0, none⟩ = false := (hb.frz _ _ (by first | with_reducible assumption | omega | (simp; done) | (simp; omega))).trans (by first | with_reducible assumption | (simp [go_sem]; done) | (simp [go_sem]; with_reducible assumption)); have nz1 : w1.frozen? ⟨w.heap.size + 1, 1, none⟩ = false := (hb.frz _ _ (by first | with_reducible assumption | omega | (simp; done) | (simp; omega))).trans (by first | with_reducible assumption | (simp [go_sem]; done) | (simp [go_sem]; with_reducible assumption)); have nz2 : w1.frozen? ⟨w.heap.size + 1, 2, none⟩ = false := (hb.frz _ _ (by first | with_reducible assumption | omega | (simp; done) | (simp; omega))).trans (by first | with_reducible assumption | (simp [go_sem]; done) | (simp [go_sem]; with_reducible assumption)); (first | (have nx := Ext.trans hx hb; clear hx) | (have nx := Ext.trans (hx.alloc _) hb; clear hx) | (have nx := Ext.trans hx.drew hb; clear hx) | have nx := hb); clear hb; try clear hs; try clear g0; try clear g1; try clear g2; try clear g3; try clear g4; try clear z0; try clear z1; try clear z2; have hx := nx; clear nx; have hs := ns; clear ns; have g0 := n0; clear n0; have g1 := n1; clear n1; have g2 := n2; clear n2; have g3 := n3; clear n3; have g4 := n4; clear n4; have z0 := nz0; clear nz0; have z1 := nz1; clear nz1; have z2 := nz2; clear nz2))
  exact bodyPost_ret (v := .tuple #[.agg #[.int .i64 0, .int .i64 0, .int .i64 0], .bool false]) (by simp [results, Tryd.results63, go_sem, *]) rfl ⟨rfl, (by repeat (first | exact Ext.refl _ | with_reducible assumption | apply Ext.alloc | apply Ext.drew | apply Ext.drewN | (refine Ext.setRow ?_ (by first | (simp; done) | (simp; omega) | omega) _) | (refine Ext.setCell ?_ (by first | (simp; done) | (simp; omega) | omega) _) | (refine Ext.trans ?_ (by with_reducible assumption))))⟩

theorem finiteAt_b2 (e f a : Int) (h0 : patB e f a = true) (fa : finB e f a = false) (na : numB e f a = true) (w : World) : Calls Tryd.prog 63 #[fmt e f, .int .i64 a] w fun rv w' => rv = .returned (.tuple #[.agg #[.int .i64 0, .int .i64 0, .int .i64 0], .bool false]) ∧ Ext w w' := by
  have OX := Lib.hid (fun w => operandOf_inf e f a h0 fa na w)
  go_enter Tryd.func63, Tryd.ntmps63
  go_wp2_with (first | (go_at_call 84; refine (isPattern_any e f a _).mono ?_; rintro rv w1 ⟨rfl, hb⟩; have ns : w.heap.size + 1 < w1.heap.size := hb.lt (by first | with_reducible assumption | omega | (simp; done) | (simp; omega)); have n0 : w1.cell? ⟨w.heap.size, 0, none⟩ = some (.int .i64 e) := (hb.cells _ _ (by first | with_reducible assumption | omega | (simp; done) | (simp; omega))).trans (by first | with_reducible assumption | (simp; done) | (simp; with_reducible assumption) | (rw [cell_alloc_before _ _ _ _ (by omega)]; with_reducible assumption) | (simp [go_sem, *]; done)); have n1 : w1.cell? ⟨w.heap.size, 1, none⟩ = some (.int .i64 f) := (hb.cells _ _ (by first | with_reducible assumption | omega | (simp; done) | (simp; omega))).trans (by first | with_reducible assumption | (simp; done) | (simp; with_reducible assumption) | (rw [cell_alloc_before _ _ _ _ (by omega)]; with_reducible assumption) | (simp [go_sem, *]; done)); have n2 : w1.cell? ⟨w.heap.size + 1, 0, none⟩ = some (.int .i64 0) := (hb.cells _ _ (by first | with_reducible assumption | omega | (simp; done) | (simp; omega))).trans (by first | with_reducible assumption | (simp; done) | (simp; with_reducible assumption) | (rw [cell_alloc_before _ _ _ _ (by omega)]; with_reducible assumption) | (simp [go_sem, *]; done)); have n3 : w1.cell? ⟨w.heap.size + 1, 1, none⟩ = some (.int .i64 0) := (hb.cells _ _ (by first | with_reducible assumption | omega | (simp; done) | (simp; omega))).trans (by first | with_reducible assumption | (simp; done) | (simp; with_reducible assumption) | (rw [cell_alloc_before _ _ _ _ (by omega)]; with_reducible assumption) | (simp [go_sem, *]; done)); have n4 : w1.cell? ⟨w.heap.size + 1, 2, none⟩ = some (.int .i64 0) := (hb.cells _ _ (by first | with_reducible assumption | omega | (simp; done) | (simp; omega))).trans (by first | with_reducible assumption | (simp; done) | (simp; with_reducible assumption) | (rw [cell_alloc_before _ _ _ _ (by omega)]; with_reducible assumption) | (simp [go_sem, *]; done)); have nz0 : w1.frozen? ⟨w.heap.size + 1, 0, none⟩ = false := (hb.frz _ _ (by first | with_reducible assumption | omega | (simp; done) | (simp; omega))).trans (by first | with_reducible assumption | (simp [go_sem]; done) | (simp [go_sem]; with_reducible assumption)); have nz1 : w1.frozen? ⟨w.heap.size + 1, 1, none⟩ = false := (hb.frz _ _ (by first | with_reducible assumption | omega | (simp; done) | (simp; omega))).trans (by first | with_reducible assumption | (simp [go_sem]; done) | (simp [go_sem]; with_reducible assumption)); have nz2 : w1.frozen? ⟨w.heap.size + 1, 2, none⟩ = false := (hb.frz _ _ (by first | with_reducible assumption | omega | (simp; done) | (simp; omega))).trans (by first | with_reducible assumption | (simp [go_sem]; done) | (simp [go_sem]; with_reducible assumption)); (first | (have nx := Ext.trans hx hb; clear hx) | (have nx := Ext.trans (hx.alloc _) hb; clear hx) | (have nx := Ext.trans hx.drew hb; clear hx) | have nx := hb); clear hb; try clear hs; try clear g0; try clear g1; try clear g2; try clear g3; try clear g4; try clear z0; try clear z1; try clear z2; have hx := nx; clear nx; have hs := ns; clear ns; have g0 := n0; clear n0; have g1 := n1; clear n1; have g2 := n2; clear n2; have g3 := n3; clear n3; have g4 := n4; clear n4; have z0 := nz0; clear nz0; have z1 := nz1; clear nz1; have z2 := nz2; clear nz2) | (go_at_call 113; (with_reducible refine (OX.out _).mono ?_); rintro rv w1 ⟨rfl, hb⟩; have ns : w.heap.size + 1 < w1.heap.size := hb.lt (by first | with_reducible assumption | omega | (simp; done) | (simp; omega)); have n0 : w1.cell? ⟨w.heap.size, 0, none⟩ = some (.int .i64 e) := (hb.cells _ _ (by first | with_reducible assumption | omega | (simp; done) | (simp; omega))).trans (by first | with_reducible assumption | (simp; done) | (simp; with_reducible assumption) | (rw [cell_alloc_before _ _ _ _ (by omega)]; with_reducible assumption) | (simp [go_sem, *]; done)); have n1 : w1.cell? ⟨w.heap.size, 1, none⟩ = some (.int .i64 f) := (hb.cells _ _ (by first | with_reducible assumption | omega | (simp; done) | (simp; omega))).trans (by first | with_reducible assumption | (simp; done) | (simp; with_reducible assumption) | (rw [cell_alloc_before _ _ _ _ (by omega)]; with_reducible assumption) | (simp [go_sem, *]; done)); have n2 : w1.cell? ⟨w.heap.size + 1, 0, none⟩ = some (.int .i64 0) := (hb.cells _ _ (by first | with_reducible assumption | omega | (simp; done) | (simp; omega))).trans (by first | with_reducible assumption | (simp; done) | (simp; with_reducible assumption) | (rw [cell_alloc_before _ _ _ _ (by omega)]; with_reducible assumption) | (simp [go_sem, *]; done)); have n3 : w1.cell? ⟨w.heap.size + 1, 1, none⟩ = some (.int .i64 0) := (hb.cells _ _ (by first | with_reducible assumption | omega | (simp; done) | (simp; omega))).trans (by first | with_reducible assumption | (simp; done) | (simp; with_reducible assumption) | (rw [cell_alloc_before _ _ _ _ (by omega)]; with_reducible assumption) | (simp [go_sem, *]; done)); have n4 : w1.cell? ⟨w.heap.size + 1, 2, none⟩ = some (.int .i64 0) := (hb.cells _ _ (by first | with_reducible assumption | omega | (simp; done) | (simp; omega))).trans (by first | with_reducible assumption | (simp; done) | (simp; with_reducible assumption) | (rw [cell_alloc_before _ _ _ _ (by omega)]; with_reducible assumption) | (simp [go_sem, *]; done)); have nz0 : w1.frozen? ⟨w.heap.size + 1, 0, none⟩ = false := (hb.frz _ _ (by first | with_reducible assumption | omega | (simp; done) | (simp; omega))).trans (by first | with_reducible assumption | (simp [go_sem]; done) | (simp [go_sem]; with_reducible assumption)); have nz1 : w1.frozen? ⟨w.heap.size + 1, 1, none⟩ = false := (hb.frz _ _ (by first | with_reducible assumption | omega | (simp; done) | (simp; omega))).trans (by first | with_reducible assumption | (simp [go_sem]; done) | (simp [go_sem]; with_reducible assumption)); have nz2 : w1.frozen? ⟨w.heap.size + 1, 2, none⟩ = false := (hb.frz _ _ (by first | with_reducible assumption | omega | (simp; done) | (simp; omega))).trans (by first | with_reducible assumption | (simp [go_sem]; done) | (simp [go_sem]; with_reducible assumption)); (first | (have nx := Ext.trans hx hb; clear hx) | (have nx := Ext.trans (hx.alloc _) hb; clear hx) | (have nx := Ext.trans hx.drew hb; clear hx) | have nx := hb); clear hb; try clear hs; try clear g0; try clear g1; try clear g2; try clear g3; try clear g4; try clear z0; try clear z1; try clear z2; have hx := nx; clear nx; have hs := ns; clear ns; have g0 := n0; clear n0; have g1 := n1; clear n1; have g2 := n2; clear n2; have g3 := n3; clear n3; have g4 := n4; clear n4; have z0 := nz0; clear nz0; have z1 := nz1; clear nz1; have z2 := nz2; clear nz2))
  exact bodyPost_ret (v := .tuple #[.agg #[.int .i64 0, .int .i64 0, .int .i64 0], .bool false]) (by simp [results, Tryd.results63, go_sem, *]) rfl ⟨rfl, (by repeat (first | exact Ext.refl _ | with_reducible assumption | apply Ext.alloc | apply Ext.drew | apply Ext.drewN | (refine Ext.setRow ?_ (by first | (simp; done) | (simp; omega) | omega) _) | (refine Ext.setCell ?_ (by first | (simp; done) | (simp; omega) | omega) _) | (refine Ext.trans ?_ (by with_reducible assumption))))⟩

theorem finiteAt_b3 (e f a : Int) (h0 : patB e f a = true) (na : numB e f a = false) (w : World) : Calls Tryd.prog 63 #[fmt e f, .int .i64 a] w fun rv w' => rv = .returned (.tuple #[.agg #[.int .i64 0, .int .i64 0, .int .i64 0], .bool false]) ∧ Ext w w' := by
  have OX := Lib.hid (fun w => operandOf_no e f a h0 na w)
  go_enter Tryd.func63, Tryd.ntmps63
  go_wp2_with (first | (go_at_call 84; refine (isPattern_any e f a _).mono ?_; rintro rv w1 ⟨rfl, hb⟩; have ns : w.heap.size + 1 < w1.heap.size := hb.lt (by first | with_reducible assumption | omega | (simp; done) | (simp; omega)); have n0 : w1.cell? ⟨w.heap.size, 0, none⟩ = some (.int .i64 e) := (hb.cells _ _ (by first | with_reducible assumption | omega | (simp; done) | (simp; omega))).trans (by first | with_reducible assumption | (simp; done) | (simp; with_reducible assumption) | (rw [cell_alloc_before _ _ _ _ (by omega)]; with_reducible assumption) | (simp [go_sem, *]; done)); have n1 : w1.cell? ⟨w.heap.size, 1, none⟩ = some (.int .i64 f) := (hb.cells _ _ (by first | with_reducible assumption | omega | (simp; done) | (simp; omega))).trans (by first | with_reducible assumption | (simp; done) | (simp; with_reducible assumption) | (rw [cell_alloc_before _ _ _ _ (by omega)]; with_reducible assumption) | (simp [go_sem, *]; done)); have n2 : w1.cell? ⟨w.heap.size + 1, 0, none⟩ = some (.int .i64 0) := (hb.cells _ _ (by first | with_reducible assumption | omega | (simp; done) | (simp; omega))).trans (by first | with_reducible assumption | (simp; done) | (simp; with_reducible assumption) | (rw [cell_alloc_before _ _ _ _ (by omega)]; with_reducible assumption) | (simp [go_sem, *]; done)); have n3 : w1.cell? ⟨w.heap.size + 1, 1, none⟩ = some (.int .i64 0) := (hb.cells _ _ (by first | with_reducible assumption | omega | (simp; done) | (simp; omega))).trans (by first | with_reducible assumption | (simp; done) | (simp; with_reducible assumption) | (rw [cell_alloc_before _ _ _ _ (by omega)]; with_reducible assumption) | (simp [go_sem, *]; done)); have n4 : w1.cell? ⟨w.heap.size + 1, 2, none⟩ = some (.int .i64 0) := (hb.cells _ _ (by first | with_reducible assumption | omega | (simp; done) | (simp; omega))).trans (by first | with_reducible assumption | (simp; done) | (simp; with_reducible assumption) | (rw [cell_alloc_before _ _ _ _ (by omega)]; with_reducible assumption) | (simp [go_sem, *]; done)); have nz0 : w1.frozen? ⟨w.heap.size + 1, 0, none⟩ = false := (hb.frz _ _ (by first | with_reducible assumption | omega | (simp; done) | (simp; omega))).trans (by first | with_reducible assumption | (simp [go_sem]; done) | (simp [go_sem]; with_reducible assumption)); have nz1 : w1.frozen? ⟨w.heap.size + 1, 1, none⟩ = false := (hb.frz _ _ (by first | with_reducible assumption | omega | (simp; done) | (simp; omega))).trans (by first | with_reducible assumption | (simp [go_sem]; done) | (simp [go_sem]; with_reducible assumption)); have nz2 : w1.frozen? ⟨w.heap.size + 1, 2, none⟩ = false := (hb.frz _ _ (by first | with_reducible assumption | omega | (simp; done) | (simp; omega))).trans (by first | with_reducible assumption | (simp [go_sem]; done) | (simp [go_sem]; with_reducible assumption)); (first | (have nx := Ext.trans hx hb; clear hx) | (have nx := Ext.trans (hx.alloc _) hb; clear hx) | (have nx := Ext.trans hx.drew hb; clear hx) | have nx := hb); clear hb; try clear hs; try clear g0; try clear g1; try clear g2; try clear g3; try clear g4; try clear z0; try clear z1; try clear z2; have hx := nx; clear nx; have hs := ns; clear ns; have g0 := n0; clear n0; have g1 := n1; clear n1; have g2 := n2; clear n2; have g3 := n3; clear n3; have g4 := n4; clear n4; have z0 := nz0; clear nz0; have z1 := nz1; clear nz1; have z2 := nz2; clear nz2) | (go_at_call 113; (with_reducible refine (OX.out _).mono ?_); rintro rv w1 ⟨rfl, hb⟩; have ns : w.heap.size + 1 < w1.heap.size := hb.lt (by first | with_reducible assumption | omega | (simp; done) | (simp; omega)); have n0 : w1.cell? ⟨w.heap.size, 0, none⟩ = some (.int .i64 e) := (hb.cells _ _ (by first | with_reducible assumption | omega | (simp; done) | (simp; omega))).trans (by first | with_reducible assumption | (simp; done) | (simp; with_reducible assumption) | (rw [cell_alloc_before _ _ _ _ (by omega)]; with_reducible assumption) | (simp [go_sem, *]; done)); have n1 : w1.cell? ⟨w.heap.size, 1, none⟩ = some (.int .i64 f) := (hb.cells _ _ (by first | with_reducible assumption | omega | (simp; done) | (simp; omega))).trans (by first | with_reducible assumption | (simp; done) | (simp; with_reducible assumption) | (rw [cell_alloc_before _ _ _ _ (by omega)]; with_reducible assumption) | (simp [go_sem, *]; done)); have n2 : w1.cell? ⟨w.heap.size + 1, 0, none⟩ = some (.int .i64 0) := (hb.cells _ _ (by first | with_reducible assumption | omega | (simp; done) | (simp; omega))).trans (by first | with_reducible assumption | (simp; done) | (simp; with_reducible assumption) | (rw [cell_alloc_before _ _ _ _ (by omega)]; with_reducible assumption) | (simp [go_sem, *]; done)); have n3 : w1.cell? ⟨w.heap.size + 1, 1, none⟩ = some (.int .i64 0) := (hb.cells _ _ (by first | with_reducible assumption | omega | (simp; done) | (simp; omega))).trans (by first | with_reducible assumption | (simp; done) | (simp; with_reducible assumption) | (rw [cell_alloc_before _ _ _ _ (by omega)]; with_reducible assumption) | (simp [go_sem, *]; done)); have n4 : w1.cell? ⟨w.heap.size + 1, 2, none⟩ = some (.int .i64 0) := (hb.cells _ _ (by first | with_reducible assumption | omega | (simp; done) | (simp; omega))).trans (by first | with_reducible assumption | (simp; done) | (simp; with_reducible assumption) | (rw [cell_alloc_before _ _ _ _ (by omega)]; with_reducible assumption) | (simp [go_sem, *]; done)); have nz0 : w1.frozen? ⟨w.heap.size + 1, 0, none⟩ = false := (hb.frz _ _ (by first | with_reducible assumption | omega | (simp; done) | (simp; omega))).trans (by first | with_reducible assumption | (simp [go_sem]; done) | (simp [go_sem]; with_reducible assumption)); have nz1 : w1.frozen? ⟨w.heap.size + 1, 1, none⟩ = false := (hb.frz _ _ (by first | with_reducible assumption | omega | (simp; done) | (simp; omega))).trans (by first | with_reducible assumption | (simp [go_sem]; done) | (simp [go_sem]; with_reducible assumption)); have nz2 : w1.frozen? ⟨w.heap.size + 1, 2, none⟩ = false := (hb.frz _ _ (by first | with_reducible assumption | omega | (simp; done) | (simp; omega))).trans (by first | with_reducible assumption | (simp [go_sem]; done) | (simp [go_sem]; with_reducible assumption)); (first | (have nx := Ext.trans hx hb; clear hx) | (have nx := Ext.trans (hx.alloc _) hb; clear hx) | (have nx := Ext.trans hx.drew hb; clear hx) | have nx := hb); clear hb; try clear hs; try clear g0; try clear g1; try clear g2; try clear g3; try clear g4; try clear z0; try clear z1; try clear z2; have hx := nx; clear nx; have hs := ns; clear ns; have g0 := n0; clear n0; have g1 := n1; clear n1; have g2 := n2; clear n2; have g3 := n3; clear n3; have g4 := n4; clear n4; have z0 := nz0; clear nz0; have z1 := nz1; clear nz1; have z2 := nz2; clear nz2))
  exact bodyPost_ret (v := .tuple #[.agg #[.int .i64 0, .int .i64 0, .int .i64 0], .bool false]) (by simp [results, Tryd.results63, go_sem, *]) rfl ⟨rfl, (by repeat (first | exact Ext.refl _ | with_reducible assumption | apply Ext.alloc | apply Ext.drew | apply Ext.drewN | (refine Ext.setRow ?_ (by first | (simp; done) | (simp; omega) | omega) _) | (refine Ext.setCell ?_ (by first | (simp; done) | (simp; omega) | omega) _) | (refine Ext.trans ?_ (by with_reducible assumption))))⟩

theorem finiteAt_no (e f a : Int) (hf : finB e f a = false) (w : World) : Calls Tryd.prog 63 #[fmt e f, .int .i64 a] w fun rv w' => rv = .returned (.tuple #[.agg #[.int .i64 0, .int .i64 0, .int .i64 0], .bool false]) ∧ Ext w w' := by
  cases h0 : patB e f a
  · exact finiteAt_b0 e f a h0 w
  · cases hn : numB e f a
    · exact finiteAt_b3 e f a h0 hn w
    · exact finiteAt_b2 e f a h0 hf hn w

theorem finiteAt_yes (e f a : Int) (hf : finB e f a = true) (w : World) (hT : TW w) : Calls Tryd.prog 63 #[fmt e f, .int .i64 a] w fun rv w' => rv = .returned (.tuple #[.agg #[.int .i64 (a / pw (e + f)), .int .i64 ((odV (unitsV e f a)).natAbs : Int), .int .i64 (shE (unitsV e f a) (unV e f))], .bool true]) ∧ Ext w w' := by
  have h0 := (fin_pat hf).1
  have OX := Lib.hid (fun w hT => operandOf_fin e f a hf w hT)
  generalize (a / pw (e + f)) = G at *
  generalize ((odV (unitsV e f a)).natAbs : Int) = N at *
  generalize (shE (unitsV e f a) (unV e f)) = X at *
  go_enter Tryd.func63, Tryd.ntmps63
  go_wp2_with (first | (go_at_call 84; refine (isPattern_any e f a _).mono ?_; rintro rv w1 ⟨rfl, hb⟩; have ns : w.heap.size + 1 < w1.heap.size := hb.lt (by first | with_reducible assumption | omega | (simp; done) | (simp; omega)); have n0 : w1.cell? ⟨w.heap.size, 0, none⟩ = some (.int .i64 e) := (hb.cells _ _ (by first | with_reducible assumption | omega | (simp; done) | (simp; omega))).trans (by first | with_reducible assumption | (simp; done) | (simp; with_reducible assumption) | (rw [cell_alloc_before _ _ _ _ (by omega)]; with_reducible assumption) | (simp [go_sem, *]; done)); have n1 : w1.cell? ⟨w.heap.size, 1, none⟩ = some (.int .i64 f) := (hb.cells _ _ (by first | with_reducible assumption | omega | (simp; done) | (simp; omega))).trans (by first | with_reducible assumption | (simp; done) | (simp; with_reducible assumption) | (rw [cell_alloc_before _ _ _ _ (by omega)]; with_reducible assumption) | (simp [go_sem, *]; done)); have n2 : w1.cell? ⟨w.heap.size + 1, 0, none⟩ = some (.int .i64 0) := (hb.cells _ _ (by first | with_reducible assumption | omega | (simp; done) | (simp; omega))).trans (by first | with_reducible assumption | (simp; done) | (simp; with_reducible assumption) | (rw [cell_alloc_before _ _ _ _ (by omega)]; with_reducible assumption) | (simp [go_sem, *]; done)); have n3 : w1.cell? ⟨w.heap.size + 1, 1, none⟩ = some (.int .i64 0) := (hb.cells _ _ (by first | with_reducible assumption | omega | (simp; done) | (simp; omega))).trans (by first | with_reducible assumption | (simp; done) | (simp; with_reducible assumption) | (rw [cell_alloc_before _ _ _ _ (by omega)]; with_reducible assumption) | (simp [go_sem, *]; done)); have n4 : w1.cell? ⟨w.heap.size + 1, 2, none⟩ = some (.int .i64 0) := (hb.cells _ _ (by first | with_reducible assumption | omega | (simp; done) | (simp; omega))).trans (by first | with_reducible assumption | (simp; done) | (simp; with_reducible assumption) | (rw [cell_alloc_before _ _ _ _ (by omega)]; with_reducible assumption) | (simp [go_sem, *]; done)); have nz0 : w1.frozen? ⟨w.heap.size + 1, 0, none⟩ = false := (hb.frz _ _ (by first | with_reducible assumption | omega | (simp; done) | (simp; omega))).trans (by first | with_reducible assumption | (simp [go_sem]; done) | (simp [go_sem]; with_reducible assumption)); have nz1 : w1.frozen? ⟨w.heap.size + 1, 1, none⟩ = false := (hb.frz _ _ (by first | with_reducible assumption | omega | (simp; done) | (simp; omega))).trans (by first | with_reducible assumption | (simp [go_sem]; done) | (simp [go_sem]; with_reducible assumption)); have nz2 : w1.frozen? ⟨w.heap.size + 1, 2, none⟩ = false := (hb.frz _ _ (by first | with_reducible assumption | omega | (simp; done) | (simp; omega))).trans (by first | with_reducible assumption | (simp [go_sem]; done) | (simp [go_sem]; with_reducible assumption)); (first | (have nx := Ext.trans hx hb; clear hx) | (have nx := Ext.trans (hx.alloc _) hb; clear hx) | (have nx := Ext.trans hx.drew hb; clear hx) | have nx := hb); clear hb; try clear hs; try clear g0; try clear g1; try clear g2; try clear g3; try clear g4; try clear z0; try clear z1; try clear z2; have hx := nx; clear nx; have hs := ns; clear ns; have g0 := n0; clear n0; have g1 := n1; clear n1; have g2 := n2; clear n2; have g3 := n3; clear n3; have g4 := n4; clear n4; have z0 := nz0; clear nz0; have z1 := nz1; clear nz1; have z2 := nz2; clear nz2) | (go_at_call 113; (with_reducible refine (OX.out _ (hT.ext (by repeat (first | exact Ext.refl _ | with_reducible assumption | apply Ext.alloc | apply Ext.drew | apply Ext.drewN | (refine Ext.setRow ?_ (by first | (simp; done) | (simp; omega) | omega) _) | (refine Ext.setCell ?_ (by first | (simp; done) | (simp; omega) | omega) _) | (refine Ext.trans ?_ (by with_reducible assumption)))))).mono ?_); rintro rv w1 ⟨rfl, hb⟩; have ns : w.heap.size + 1 < w1.heap.size := hb.lt (by first | with_reducible assumption | omega | (simp; done) | (simp; omega)); have n0 : w1.cell? ⟨w.heap.size, 0, none⟩ = some (.int .i64 e) := (hb.cells _ _ (by first | with_reducible assumption | omega | (simp; done) | (simp; omega))).trans (by first | with_reducible assumption | (simp; done) | (simp; with_reducible assumption) | (rw [cell_alloc_before _ _ _ _ (by omega)]; with_reducible assumption) | (simp [go_sem, *]; done)); have n1 : w1.cell? ⟨w.heap.size, 1, none⟩ = some (.int .i64 f) := (hb.cells _ _ (by first | with_reducible assumption | omega | (simp; done) | (simp; omega))).trans (by first | with_reducible assumption | (simp; done) | (simp; with_reducible assumption) | (rw [cell_alloc_before _ _ _ _ (by omega)]; with_reducible assumption) | (simp [go_sem, *]; done)); have n2 : w1.cell? ⟨w.heap.size + 1, 0, none⟩ = some (.int .i64 0) := (hb.cells _ _ (by first | with_reducible assumption | omega | (simp; done) | (simp; omega))).trans (by first | with_reducible assumption | (simp; done) | (simp; with_reducible assumption) | (rw [cell_alloc_before _ _ _ _ (by omega)]; with_reducible assumption) | (simp [go_sem, *]; done)); have n3 : w1.cell? ⟨w.heap.size + 1, 1, none⟩ = some (.int .i64 0) := (hb.cells _ _ (by first | with_reducible assumption | omega | (simp; done) | (simp; omega))).trans (by first | with_reducible assumption | (simp; done) | (simp; with_reducible assumption) | (rw [cell_alloc_before _ _ _ _ (by omega)]; with_reducible assumption) | (simp [go_sem, *]; done)); have n4 : w1.cell? ⟨w.heap.size + 1, 2, none⟩ = some (.int .i64 0) := (hb.cells _ _ (by first | with_reducible assumption | omega | (simp; done) | (simp; omega))).trans (by first | with_reducible assumption | (simp; done) | (simp; with_reducible assumption) | (rw [cell_alloc_before _ _ _ _ (by omega)]; with_reducible assumption) | (simp [go_sem, *]; done)); have nz0 : w1.frozen? ⟨w.heap.size + 1, 0, none⟩ = false := (hb.frz _ _ (by first | with_reducible assumption | omega | (simp; done) | (simp; omega))).trans (by first | with_reducible assumption | (simp [go_sem]; done) | (simp [go_sem]; with_reducible assumption)); have nz1 : w1.frozen? ⟨w.heap.size + 1, 1, none⟩ = false := (hb.frz _ _ (by first | with_reducible assumption | omega | (simp; done) | (simp; omega))).trans (by first | with_reducible assumption | (simp [go_sem]; done) | (simp [go_sem]; with_reducible assumption)); have nz2 : w1.frozen? ⟨w.heap.size + 1, 2, none⟩ = false := (hb.frz _ _ (by first | with_reducible assumption | omega | (simp; done) | (simp; omega))).trans (by first | with_reducible assumption | (simp [go_sem]; done) | (simp [go_sem]; with_reducible assumption)); (first | (have nx := Ext.trans hx hb; clear hx) | (have nx := Ext.trans (hx.alloc _) hb; clear hx) | (have nx := Ext.trans hx.drew hb; clear hx) | have nx := hb); clear hb; try clear hs; try clear g0; try clear g1; try clear g2; try clear g3; try clear g4; try clear z0; try clear z1; try clear z2; have hx := nx; clear nx; have hs := ns; clear ns; have g0 := n0; clear n0; have g1 := n1; clear n1; have g2 := n2; clear n2; have g3 := n3; clear n3; have g4 := n4; clear n4; have z0 := nz0; clear nz0; have z1 := nz1; clear nz1; have z2 := nz2; clear nz2))
  exact bodyPost_ret (v := .tuple #[.agg #[.int .i64 G, .int .i64 N, .int .i64 X], .bool true]) (by simp [results, Tryd.results63, go_sem, *]) rfl ⟨rfl, (by repeat (first | exact Ext.refl _ | with_reducible assumption | apply Ext.alloc | apply Ext.drew | apply Ext.drewN | (refine Ext.setRow ?_ (by first | (simp; done) | (simp; omega) | omega) _) | (refine Ext.setCell ?_ (by first | (simp; done) | (simp; omega) | omega) _) | (refine Ext.trans ?_ (by with_reducible assumption))))⟩
end Go.Proofs.YtfgbndjhaiigbabDoor

namespace Go.Proofs.YtfgbndjhaiigbabDoor
open Go Go.RowKit
set_option linter.unusedSimpArgs false
set_option linter.unusedVariables false
set_option maxRecDepth 100000

attribute [local go_sem] ta_finite_finite ta_finite_infinite ta_finite_noNumber ta_infinite_finite ta_infinite_infinite ta_infinite_noNumber ta_noNumber_finite ta_noNumber_infinite ta_noNumber_noNumber

/-- The whole number to which a value is rounded. -/
def twV (e f a mode : Int) : Int := if (unitsV e f a) < 0 then -(whV ((unitsV e f a).natAbs : Int) (pw (-(unV e f))) mode true) else (whV ((unitsV e f a).natAbs : Int) (pw (-(unV e f))) mode false)

/-- What ToWhole asks for. -/
def twB (e f a mode : Int) : Bool := finB e f a && moB mode

theorem tw_iff {e f a mode : Int} : twB e f a mode = true ↔ finB e f a = true ∧ 0 ≤ mode ∧ mode ≤ 5 := by
  unfold twB; rw [Bool.and_eq_true, mo_iff]

theorem tw_one {e f a mode r r2 : Int} (hg : twB e f a mode = true) (h : r = (twV e f a mode)) (h2 : r2 = (twV e f a mode)) : r = r2 := by rw [h, h2]

theorem sToWhole_no (e f a mode : Int) (hg : twB e f a mode = false) (w : World) : Calls Tryd.prog 26 #[fmt e f, .int .i64 a, .int .i64 mode] w fun rv w' => rv = .returned (.tuple #[.int .i64 0, .bool false]) ∧ Ext w w' := by
  unfold twB at hg
  cases h0 : finB e f a
  · go_enter Tryd.func26, Tryd.ntmps26
    go_wp2_with (first | (go_at_call 60; refine (fmFinite_any e f a _).mono ?_; rintro rv w1 ⟨rfl, hb⟩; have ns : w.heap.size < w1.heap.size := hb.lt (by first | with_reducible assumption | omega | (simp; done) | (simp; omega)); have n0 : w1.cell? ⟨w.heap.size, 0, none⟩ = some (.int .i64 e) := (hb.cells _ _ (by first | with_reducible assumption | omega | (simp; done) | (simp; omega))).trans (by first | with_reducible assumption | (simp; done) | (simp; with_reducible assumption) | (rw [cell_alloc_before _ _ _ _ (by omega)]; with_reducible assumption) | (simp [go_sem, *]; done)); have n1 : w1.cell? ⟨w.heap.size, 1, none⟩ = some (.int .i64 f) := (hb.cells _ _ (by first | with_reducible assumption | omega | (simp; done) | (simp; omega))).trans (by first | with_reducible assumption | (simp; done) | (simp; with_reducible assumption) | (rw [cell_alloc_before _ _ _ _ (by omega)]; with_reducible assumption) | (simp [go_sem, *]; done)); (first | (have nx := Ext.trans hx hb; clear hx) | (have nx := Ext.trans (hx.alloc _) hb; clear hx) | (have nx := Ext.trans hx.drew hb; clear hx) | have nx := hb); clear hb; try clear hs; try clear g0; try clear g1; have hx := nx; clear nx; have hs := ns; clear ns; have g0 := n0; clear n0; have g1 := n1; clear n1) | (go_at_call 61; refine (rdMode_any mode _).mono ?_; rintro rv w1 ⟨rfl, rfl⟩))
    go_ret2
    exact ⟨rfl, (by repeat (first | exact Ext.refl _ | with_reducible assumption | apply Ext.alloc | apply Ext.drew | apply Ext.drewN | (refine Ext.setRow ?_ (by first | (simp; done) | (simp; omega) | omega) _) | (refine Ext.setCell ?_ (by first | (simp; done) | (simp; omega) | omega) _) | (refine Ext.trans ?_ (by with_reducible assumption))))⟩
  · rw [h0] at hg
    have h1 : moB mode = false := by simpa using hg
    clear hg
    go_enter Tryd.func26, Tryd.ntmps26
    go_wp2_with (first | (go_at_call 60; refine (fmFinite_any e f a _).mono ?_; rintro rv w1 ⟨rfl, hb⟩; have ns : w.heap.size < w1.heap.size := hb.lt (by first | with_reducible assumption | omega | (simp; done) | (simp; omega)); have n0 : w1.cell? ⟨w.heap.size, 0, none⟩ = some (.int .i64 e) := (hb.cells _ _ (by first | with_reducible assumption | omega | (simp; done) | (simp; omega))).trans (by first | with_reducible assumption | (simp; done) | (simp; with_reducible assumption) | (rw [cell_alloc_before _ _ _ _ (by omega)]; with_reducible assumption) | (simp [go_sem, *]; done)); have n1 : w1.cell? ⟨w.heap.size, 1, none⟩ = some (.int .i64 f) := (hb.cells _ _ (by first | with_reducible assumption | omega | (simp; done) | (simp; omega))).trans (by first | with_reducible assumption | (simp; done) | (simp; with_reducible assumption) | (rw [cell_alloc_before _ _ _ _ (by omega)]; with_reducible assumption) | (simp [go_sem, *]; done)); (first | (have nx := Ext.trans hx hb; clear hx) | (have nx := Ext.trans (hx.alloc _) hb; clear hx) | (have nx := Ext.trans hx.drew hb; clear hx) | have nx := hb); clear hb; try clear hs; try clear g0; try clear g1; have hx := nx; clear nx; have hs := ns; clear ns; have g0 := n0; clear n0; have g1 := n1; clear n1) | (go_at_call 61; refine (rdMode_any mode _).mono ?_; rintro rv w1 ⟨rfl, rfl⟩))
    go_ret2
    exact ⟨rfl, (by repeat (first | exact Ext.refl _ | with_reducible assumption | apply Ext.alloc | apply Ext.drew | apply Ext.drewN | (refine Ext.setRow ?_ (by first | (simp; done) | (simp; omega) | omega) _) | (refine Ext.setCell ?_ (by first | (simp; done) | (simp; omega) | omega) _) | (refine Ext.trans ?_ (by with_reducible assumption))))⟩

set_option maxHeartbeats 3200000 in
theorem sToWhole_n (e f a mode : Int) (hg : twB e f a mode = true) (hu : (unitsV e f a) < 0) (w : World) : Calls Tryd.prog 26 #[fmt e f, .int .i64 a, .int .i64 mode] w (ARboth (fun r => r = (twV e f a mode)) w) := by
  obtain ⟨hf, m0, m1⟩ := tw_iff.1 hg
  have hap := (fin_pat hf).1
  have hgg := (pat_iff.1 hap).1
  have h1 : moB mode = true := mo_iff.2 ⟨m0, m1⟩
  have u1 := un_bd hgg
  have ub := units_bd e f a hap
  have pP := pw_pos (-(unV e f))
  obtain ⟨z0, z1⟩ := wh_bd (u := ((unitsV e f a).natAbs : Int)) (P := pw (-(unV e f))) (mode := mode) (neg := true) (by omega) (by omega)
  have TV : (twV e f a mode) = -(whV ((unitsV e f a).natAbs : Int) (pw (-(unV e f))) mode true) := by unfold twV; rw [if_pos hu]
  have WC := Lib.hid (fun w => arWhole_any e f ((unitsV e f a).natAbs : Int) mode true hgg (by omega) (by omega) m0 m1 w)
  have FU := Lib.hid (fun w => fmUnits_any e f a hap w)
  have LA := Lib.hid (fun w => l1Abs_nat (unitsV e f a) (by omega) (by omega) w)
  have kz : IntKind.i64.wrap (-(whV ((unitsV e f a).natAbs : Int) (pw (-(unV e f))) mode true)) = -(whV ((unitsV e f a).natAbs : Int) (pw (-(unV e f))) mode true) := IntWalk.i64_in _ (by omega)
  clear z0 z1 pP u1 ub
  generalize (whV ((unitsV e f a).natAbs : Int) (pw (-(unV e f))) mode true) = z at *
  generalize (twV e f a mode) = T at *
  have HTV := Lib.hid TV
  clear TV
  generalize ((unitsV e f a).natAbs : Int) = N at *
  generalize (unitsV e f a) = u at *
  have hd : decide (u < 0) = true := by simpa using hu
  go_enter Tryd.func26, Tryd.ntmps26
  go_wp2_with (first | (go_at_call 60; refine (fmFinite_any e f a _).mono ?_; rintro rv w1 ⟨rfl, hb⟩; have ns : w.heap.size < w1.heap.size := hb.lt (by first | with_reducible assumption | omega | (simp; done) | (simp; omega)); have n0 : w1.cell? ⟨w.heap.size, 0, none⟩ = some (.int .i64 e) := (hb.cells _ _ (by first | with_reducible assumption | omega | (simp; done) | (simp; omega))).trans (by first | with_reducible assumption | (simp; done) | (simp; with_reducible assumption) | (rw [cell_alloc_before _ _ _ _ (by omega)]; with_reducible assumption) | (simp [go_sem, *]; done)); have n1 : w1.cell? ⟨w.heap.size, 1, none⟩ = some (.int .i64 f) := (hb.cells _ _ (by first | with_reducible assumption | omega | (simp; done) | (simp; omega))).trans (by first | with_reducible assumption | (simp; done) | (simp; with_reducible assumption) | (rw [cell_alloc_before _ _ _ _ (by omega)]; with_reducible assumption) | (simp [go_sem, *]; done)); (first | (have nx := Ext.trans hx hb; clear hx) | (have nx := Ext.trans (hx.alloc _) hb; clear hx) | (have nx := Ext.trans hx.drew hb; clear hx) | have nx := hb); clear hb; try clear hs; try clear g0; try clear g1; have hx := nx; clear nx; have hs := ns; clear ns; have g0 := n0; clear n0; have g1 := n1; clear n1) | (go_at_call 61; refine (rdMode_any mode _).mono ?_; rintro rv w1 ⟨rfl, rfl⟩) | (go_at_call 42; (with_reducible refine (FU.out _).mono ?_); rintro rv w1 ⟨rfl, hb⟩; have ns : w.heap.size < w1.heap.size := hb.lt (by first | with_reducible assumption | omega | (simp; done) | (simp; omega)); have n0 : w1.cell? ⟨w.heap.size, 0, none⟩ = some (.int .i64 e) := (hb.cells _ _ (by first | with_reducible assumption | omega | (simp; done) | (simp; omega))).trans (by first | with_reducible assumption | (simp; done) | (simp; with_reducible assumption) | (rw [cell_alloc_before _ _ _ _ (by omega)]; with_reducible assumption) | (simp [go_sem, *]; done)); have n1 : w1.cell? ⟨w.heap.size, 1, none⟩ = some (.int .i64 f) := (hb.cells _ _ (by first | with_reducible assumption | omega | (simp; done) | (simp; omega))).trans (by first | with_reducible assumption | (simp; done) | (simp; with_reducible assumption) | (rw [cell_alloc_before _ _ _ _ (by omega)]; with_reducible assumption) | (simp [go_sem, *]; done)); (first | (have nx := Ext.trans hx hb; clear hx) | (have nx := Ext.trans (hx.alloc _) hb; clear hx) | (have nx := Ext.trans hx.drew hb; clear hx) | have nx := hb); clear hb; try clear hs; try clear g0; try clear g1; have hx := nx; clear nx; have hs := ns; clear ns; have g0 := n0; clear n0; have g1 := n1; clear n1) | (go_at_call 41; refine (LA.out _).mono ?_; rintro rv w1 ⟨rfl, rfl⟩) | (go_at_call 62; refine (WC.out _).mono ?_; rintro rv w1 ⟨rfl, hb⟩; have ns : w.heap.size < w1.heap.size := hb.lt (by first | with_reducible assumption | omega | (simp; done) | (simp; omega)); have n0 : w1.cell? ⟨w.heap.size, 0, none⟩ = some (.int .i64 e) := (hb.cells _ _ (by first | with_reducible assumption | omega | (simp; done) | (simp; omega))).trans (by first | with_reducible assumption | (simp; done) | (simp; with_reducible assumption) | (rw [cell_alloc_before _ _ _ _ (by omega)]; with_reducible assumption) | (simp [go_sem, *]; done)); have n1 : w1.cell? ⟨w.heap.size, 1, none⟩ = some (.int .i64 f) := (hb.cells _ _ (by first | with_reducible assumption | omega | (simp; done) | (simp; omega))).trans (by first | with_reducible assumption | (simp; done) | (simp; with_reducible assumption) | (rw [cell_alloc_before _ _ _ _ (by omega)]; with_reducible assumption) | (simp [go_sem, *]; done)); (first | (have nx := Ext.trans hx hb; clear hx) | (have nx := Ext.trans (hx.alloc _) hb; clear hx) | (have nx := Ext.trans hx.drew hb; clear hx) | have nx := hb); clear hb; try clear hs; try clear g0; try clear g1; have hx := nx; clear nx; have hs := ns; clear ns; have g0 := n0; clear n0; have g1 := n1; clear n1))
  try (go_region_held3 (fun w' => w'.cell? ⟨w.heap.size, 0, none⟩ = some (.int .i64 e) ∧ w'.cell? ⟨w.heap.size, 1, none⟩ = some (.int .i64 f) ∧ w.heap.size < w'.heap.size) ((refine ⟨?_, ?_, ?_⟩ <;> first | with_reducible assumption | ((repeat first | rw [cell_set_far _ _ _ _ _ _ (by omega)] | rw [cell_alloc_before _ _ _ _ (by omega)] | rw [cell_alloc_drew _ _ _ _ (by omega)] | rw [cell_drew]); with_reducible assumption) | ((rw [cell_setRow_far _ _ _ _ _ (by omega)]); with_reducible assumption) | ((rw [setRow_size]); with_reducible assumption) | (simp; done) | (simp [World.setCell]; first | done | omega) | (simp [go_sem, World.cell?_alloc_past, World.cell?_setCell_far, *]; done))) ((first | (go_at_call 42; (with_reducible refine (FU.out _).mono ?_); rintro rv w1 ⟨rfl, hb⟩; have ns : w.heap.size < w1.heap.size := hb.lt (by first | with_reducible assumption | omega | (simp; done) | (simp; omega)); have n0 : w1.cell? ⟨w.heap.size, 0, none⟩ = some (.int .i64 e) := (hb.cells _ _ (by first | with_reducible assumption | omega | (simp; done) | (simp; omega))).trans (by first | with_reducible assumption | (simp; done) | (simp; with_reducible assumption) | (rw [cell_alloc_before _ _ _ _ (by omega)]; with_reducible assumption) | (simp [go_sem, *]; done)); have n1 : w1.cell? ⟨w.heap.size, 1, none⟩ = some (.int .i64 f) := (hb.cells _ _ (by first | with_reducible assumption | omega | (simp; done) | (simp; omega))).trans (by first | with_reducible assumption | (simp; done) | (simp; with_reducible assumption) | (rw [cell_alloc_before _ _ _ _ (by omega)]; with_reducible assumption) | (simp [go_sem, *]; done)); (first | (have nx := Ext.trans hx hb; clear hx) | (have nx := Ext.trans (hx.alloc _) hb; clear hx) | (have nx := Ext.trans hx.drew hb; clear hx) | have nx := hb); clear hb; try clear hs; try clear g0; try clear g1; have hx := nx; clear nx; have hs := ns; clear ns; have g0 := n0; clear n0; have g1 := n1; clear n1) | (go_at_call 41; refine (LA.out _).mono ?_; rintro rv w1 ⟨rfl, rfl⟩) | (go_at_call 62; refine (WC.out _).mono ?_; rintro rv w1 ⟨rfl, hb⟩; have ns : w.heap.size < w1.heap.size := hb.lt (by first | with_reducible assumption | omega | (simp; done) | (simp; omega)); have n0 : w1.cell? ⟨w.heap.size, 0, none⟩ = some (.int .i64 e) := (hb.cells _ _ (by first | with_reducible assumption | omega | (simp; done) | (simp; omega))).trans (by first | with_reducible assumption | (simp; done) | (simp; with_reducible assumption) | (rw [cell_alloc_before _ _ _ _ (by omega)]; with_reducible assumption) | (simp [go_sem, *]; done)); have n1 : w1.cell? ⟨w.heap.size, 1, none⟩ = some (.int .i64 f) := (hb.cells _ _ (by first | with_reducible assumption | omega | (simp; done) | (simp; omega))).trans (by first | with_reducible assumption | (simp; done) | (simp; with_reducible assumption) | (rw [cell_alloc_before _ _ _ _ (by omega)]; with_reducible assumption) | (simp [go_sem, *]; done)); (first | (have nx := Ext.trans hx hb; clear hx) | (have nx := Ext.trans (hx.alloc _) hb; clear hx) | (have nx := Ext.trans hx.drew hb; clear hx) | have nx := hb); clear hb; try clear hs; try clear g0; try clear g1; have hx := nx; clear nx; have hs := ns; clear ns; have g0 := n0; clear n0; have g1 := n1; clear n1))))
  try go_wp2_with (first | (go_at_call 60; refine (fmFinite_any e f a _).mono ?_; rintro rv w1 ⟨rfl, hb⟩; have ns : w.heap.size < w1.heap.size := hb.lt (by first | with_reducible assumption | omega | (simp; done) | (simp; omega)); have n0 : w1.cell? ⟨w.heap.size, 0, none⟩ = some (.int .i64 e) := (hb.cells _ _ (by first | with_reducible assumption | omega | (simp; done) | (simp; omega))).trans (by first | with_reducible assumption | (simp; done) | (simp; with_reducible assumption) | (rw [cell_alloc_before _ _ _ _ (by omega)]; with_reducible assumption) | (simp [go_sem, *]; done)); have n1 : w1.cell? ⟨w.heap.size, 1, none⟩ = some (.int .i64 f) := (hb.cells _ _ (by first | with_reducible assumption | omega | (simp; done) | (simp; omega))).trans (by first | with_reducible assumption | (simp; done) | (simp; with_reducible assumption) | (rw [cell_alloc_before _ _ _ _ (by omega)]; with_reducible assumption) | (simp [go_sem, *]; done)); (first | (have nx := Ext.trans hx hb; clear hx) | (have nx := Ext.trans (hx.alloc _) hb; clear hx) | (have nx := Ext.trans hx.drew hb; clear hx) | have nx := hb); clear hb; try clear hs; try clear g0; try clear g1; have hx := nx; clear nx; have hs := ns; clear ns; have g0 := n0; clear n0; have g1 := n1; clear n1) | (go_at_call 61; refine (rdMode_any mode _).mono ?_; rintro rv w1 ⟨rfl, rfl⟩) | (go_at_call 42; (with_reducible refine (FU.out _).mono ?_); rintro rv w1 ⟨rfl, hb⟩; have ns : w.heap.size < w1.heap.size := hb.lt (by first | with_reducible assumption | omega | (simp; done) | (simp; omega)); have n0 : w1.cell? ⟨w.heap.size, 0, none⟩ = some (.int .i64 e) := (hb.cells _ _ (by first | with_reducible assumption | omega | (simp; done) | (simp; omega))).trans (by first | with_reducible assumption | (simp; done) | (simp; with_reducible assumption) | (rw [cell_alloc_before _ _ _ _ (by omega)]; with_reducible assumption) | (simp [go_sem, *]; done)); have n1 : w1.cell? ⟨w.heap.size, 1, none⟩ = some (.int .i64 f) := (hb.cells _ _ (by first | with_reducible assumption | omega | (simp; done) | (simp; omega))).trans (by first | with_reducible assumption | (simp; done) | (simp; with_reducible assumption) | (rw [cell_alloc_before _ _ _ _ (by omega)]; with_reducible assumption) | (simp [go_sem, *]; done)); (first | (have nx := Ext.trans hx hb; clear hx) | (have nx := Ext.trans (hx.alloc _) hb; clear hx) | (have nx := Ext.trans hx.drew hb; clear hx) | have nx := hb); clear hb; try clear hs; try clear g0; try clear g1; have hx := nx; clear nx; have hs := ns; clear ns; have g0 := n0; clear n0; have g1 := n1; clear n1) | (go_at_call 41; refine (LA.out _).mono ?_; rintro rv w1 ⟨rfl, rfl⟩) | (go_at_call 62; refine (WC.out _).mono ?_; rintro rv w1 ⟨rfl, hb⟩; have ns : w.heap.size < w1.heap.size := hb.lt (by first | with_reducible assumption | omega | (simp; done) | (simp; omega)); have n0 : w1.cell? ⟨w.heap.size, 0, none⟩ = some (.int .i64 e) := (hb.cells _ _ (by first | with_reducible assumption | omega | (simp; done) | (simp; omega))).trans (by first | with_reducible assumption | (simp; done) | (simp; with_reducible assumption) | (rw [cell_alloc_before _ _ _ _ (by omega)]; with_reducible assumption) | (simp [go_sem, *]; done)); have n1 : w1.cell? ⟨w.heap.size, 1, none⟩ = some (.int .i64 f) := (hb.cells _ _ (by first | with_reducible assumption | omega | (simp; done) | (simp; omega))).trans (by first | with_reducible assumption | (simp; done) | (simp; with_reducible assumption) | (rw [cell_alloc_before _ _ _ _ (by omega)]; with_reducible assumption) | (simp [go_sem, *]; done)); (first | (have nx := Ext.trans hx hb; clear hx) | (have nx := Ext.trans (hx.alloc _) hb; clear hx) | (have nx := Ext.trans hx.drew hb; clear hx) | have nx := hb); clear hb; try clear hs; try clear g0; try clear g1; have hx := nx; clear nx; have hs := ns; clear ns; have g0 := n0; clear n0; have g1 := n1; clear n1))
  go_ret2
  exact ⟨_, rfl, HTV.out.symm, (by repeat (first | exact Ext.refl _ | with_reducible assumption | apply Ext.alloc | apply Ext.drew | apply Ext.drewN | (refine Ext.setRow ?_ (by first | (simp; done) | (simp; omega) | omega) _) | (refine Ext.setCell ?_ (by first | (simp; done) | (simp; omega) | omega) _) | (refine Ext.trans ?_ (by with_reducible assumption))))⟩

set_option maxHeartbeats 3200000 in
theorem sToWhole_p (e f a mode : Int) (hg : twB e f a mode = true) (hu : ¬ (unitsV e f a) < 0) (w : World) : Calls Tryd.prog 26 #[fmt e f, .int .i64 a, .int .i64 mode] w (ARboth (fun r => r = (twV e f a mode)) w) := by
  obtain ⟨hf, m0, m1⟩ := tw_iff.1 hg
  have hap := (fin_pat hf).1
  have hgg := (pat_iff.1 hap).1
  have h1 : moB mode = true := mo_iff.2 ⟨m0, m1⟩
  have u1 := un_bd hgg
  have ub := units_bd e f a hap
  have pP := pw_pos (-(unV e f))
  obtain ⟨z0, z1⟩ := wh_bd (u := ((unitsV e f a).natAbs : Int)) (P := pw (-(unV e f))) (mode := mode) (neg := false) (by omega) (by omega)
  have TV : (twV e f a mode) = (whV ((unitsV e f a).natAbs : Int) (pw (-(unV e f))) mode false) := by unfold twV; rw [if_neg hu]
  have WC := Lib.hid (fun w => arWhole_any e f ((unitsV e f a).natAbs : Int) mode false hgg (by omega) (by omega) m0 m1 w)
  have FU := Lib.hid (fun w => fmUnits_any e f a hap w)
  have LA := Lib.hid (fun w => l1Abs_nat (unitsV e f a) (by omega) (by omega) w)
  have kz : IntKind.i64.wrap (-(whV ((unitsV e f a).natAbs : Int) (pw (-(unV e f))) mode false)) = -(whV ((unitsV e f a).natAbs : Int) (pw (-(unV e f))) mode false) := IntWalk.i64_in _ (by omega)
  clear z0 z1 pP u1 ub
  generalize (whV ((unitsV e f a).natAbs : Int) (pw (-(unV e f))) mode false) = z at *
  generalize (twV e f a mode) = T at *
  have HTV := Lib.hid TV
  clear TV
  generalize ((unitsV e f a).natAbs : Int) = N at *
  generalize (unitsV e f a) = u at *
  have hd : decide (u < 0) = false := by simpa using hu
  go_enter Tryd.func26, Tryd.ntmps26
  go_wp2_with (first | (go_at_call 60; refine (fmFinite_any e f a _).mono ?_; rintro rv w1 ⟨rfl, hb⟩; have ns : w.heap.size < w1.heap.size := hb.lt (by first | with_reducible assumption | omega | (simp; done) | (simp; omega)); have n0 : w1.cell? ⟨w.heap.size, 0, none⟩ = some (.int .i64 e) := (hb.cells _ _ (by first | with_reducible assumption | omega | (simp; done) | (simp; omega))).trans (by first | with_reducible assumption | (simp; done) | (simp; with_reducible assumption) | (rw [cell_alloc_before _ _ _ _ (by omega)]; with_reducible assumption) | (simp [go_sem, *]; done)); have n1 : w1.cell? ⟨w.heap.size, 1, none⟩ = some (.int .i64 f) := (hb.cells _ _ (by first | with_reducible assumption | omega | (simp; done) | (simp; omega))).trans (by first | with_reducible assumption | (simp; done) | (simp; with_reducible assumption) | (rw [cell_alloc_before _ _ _ _ (by omega)]; with_reducible assumption) | (simp [go_sem, *]; done)); (first | (have nx := Ext.trans hx hb; clear hx) | (have nx := Ext.trans (hx.alloc _) hb; clear hx) | (have nx := Ext.trans hx.drew hb; clear hx) | have nx := hb); clear hb; try clear hs; try clear g0; try clear g1; have hx := nx; clear nx; have hs := ns; clear ns; have g0 := n0; clear n0; have g1 := n1; clear n1) | (go_at_call 61; refine (rdMode_any mode _).mono ?_; rintro rv w1 ⟨rfl, rfl⟩) | (go_at_call 42; (with_reducible refine (FU.out _).mono ?_); rintro rv w1 ⟨rfl, hb⟩; have ns : w.heap.size < w1.heap.size := hb.lt (by first | with_reducible assumption | omega | (simp; done) | (simp; omega)); have n0 : w1.cell? ⟨w.heap.size, 0, none⟩ = some (.int .i64 e) := (hb.cells _ _ (by first | with_reducible assumption | omega | (simp; done) | (simp; omega))).trans (by first | with_reducible assumption | (simp; done) | (simp; with_reducible assumption) | (rw [cell_alloc_before _ _ _ _ (by omega)]; with_reducible assumption) | (simp [go_sem, *]; done)); have n1 : w1.cell? ⟨w.heap.size, 1, none⟩ = some (.int .i64 f) := (hb.cells _ _ (by first | with_reducible assumption | omega | (simp; done) | (simp; omega))).trans (by first | with_reducible assumption | (simp; done) | (simp; with_reducible assumption) | (rw [cell_alloc_before _ _ _ _ (by omega)]; with_reducible assumption) | (simp [go_sem, *]; done)); (first | (have nx := Ext.trans hx hb; clear hx) | (have nx := Ext.trans (hx.alloc _) hb; clear hx) | (have nx := Ext.trans hx.drew hb; clear hx) | have nx := hb); clear hb; try clear hs; try clear g0; try clear g1; have hx := nx; clear nx; have hs := ns; clear ns; have g0 := n0; clear n0; have g1 := n1; clear n1) | (go_at_call 41; refine (LA.out _).mono ?_; rintro rv w1 ⟨rfl, rfl⟩) | (go_at_call 62; refine (WC.out _).mono ?_; rintro rv w1 ⟨rfl, hb⟩; have ns : w.heap.size < w1.heap.size := hb.lt (by first | with_reducible assumption | omega | (simp; done) | (simp; omega)); have n0 : w1.cell? ⟨w.heap.size, 0, none⟩ = some (.int .i64 e) := (hb.cells _ _ (by first | with_reducible assumption | omega | (simp; done) | (simp; omega))).trans (by first | with_reducible assumption | (simp; done) | (simp; with_reducible assumption) | (rw [cell_alloc_before _ _ _ _ (by omega)]; with_reducible assumption) | (simp [go_sem, *]; done)); have n1 : w1.cell? ⟨w.heap.size, 1, none⟩ = some (.int .i64 f) := (hb.cells _ _ (by first | with_reducible assumption | omega | (simp; done) | (simp; omega))).trans (by first | with_reducible assumption | (simp; done) | (simp; with_reducible assumption) | (rw [cell_alloc_before _ _ _ _ (by omega)]; with_reducible assumption) | (simp [go_sem, *]; done)); (first | (have nx := Ext.trans hx hb; clear hx) | (have nx := Ext.trans (hx.alloc _) hb; clear hx) | (have nx := Ext.trans hx.drew hb; clear hx) | have nx := hb); clear hb; try clear hs; try clear g0; try clear g1; have hx := nx; clear nx; have hs := ns; clear ns; have g0 := n0; clear n0; have g1 := n1; clear n1))
  try (go_region_held3 (fun w' => w'.cell? ⟨w.heap.size, 0, none⟩ = some (.int .i64 e) ∧ w'.cell? ⟨w.heap.size, 1, none⟩ = some (.int .i64 f) ∧ w.heap.size < w'.heap.size) ((refine ⟨?_, ?_, ?_⟩ <;> first | with_reducible assumption | ((repeat first | rw [cell_set_far _ _ _ _ _ _ (by omega)] | rw [cell_alloc_before _ _ _ _ (by omega)] | rw [cell_alloc_drew _ _ _ _ (by omega)] | rw [cell_drew]); with_reducible assumption) | ((rw [cell_setRow_far _ _ _ _ _ (by omega)]); with_reducible assumption) | ((rw [setRow_size]); with_reducible assumption) | (simp; done) | (simp [World.setCell]; first | done | omega) | (simp [go_sem, World.cell?_alloc_past, World.cell?_setCell_far, *]; done))) ((first | (go_at_call 42; (with_reducible refine (FU.out _).mono ?_); rintro rv w1 ⟨rfl, hb⟩; have ns : w.heap.size < w1.heap.size := hb.lt (by first | with_reducible assumption | omega | (simp; done) | (simp; omega)); have n0 : w1.cell? ⟨w.heap.size, 0, none⟩ = some (.int .i64 e) := (hb.cells _ _ (by first | with_reducible assumption | omega | (simp; done) | (simp; omega))).trans (by first | with_reducible assumption | (simp; done) | (simp; with_reducible assumption) | (rw [cell_alloc_before _ _ _ _ (by omega)]; with_reducible assumption) | (simp [go_sem, *]; done)); have n1 : w1.cell? ⟨w.heap.size, 1, none⟩ = some (.int .i64 f) := (hb.cells _ _ (by first | with_reducible assumption | omega | (simp; done) | (simp; omega))).trans (by first | with_reducible assumption | (simp; done) | (simp; with_reducible assumption) | (rw [cell_alloc_before _ _ _ _ (by omega)]; with_reducible assumption) | (simp [go_sem, *]; done)); (first | (have nx := Ext.trans hx hb; clear hx) | (have nx := Ext.trans (hx.alloc _) hb; clear hx) | (have nx := Ext.trans hx.drew hb; clear hx) | have nx := hb); clear hb; try clear hs; try clear g0; try clear g1; have hx := nx; clear nx; have hs := ns; clear ns; have g0 := n0; clear n0; have g1 := n1; clear n1) | (go_at_call 41; refine (LA.out _).mono ?_; rintro rv w1 ⟨rfl, rfl⟩) | (go_at_call 62; refine (WC.out _).mono ?_; rintro rv w1 ⟨rfl, hb⟩; have ns : w.heap.size < w1.heap.size := hb.lt (by first | with_reducible assumption | omega | (simp; done) | (simp; omega)); have n0 : w1.cell? ⟨w.heap.size, 0, none⟩ = some (.int .i64 e) := (hb.cells _ _ (by first | with_reducible assumption | omega | (simp; done) | (simp; omega))).trans (by first | with_reducible assumption | (simp; done) | (simp; with_reducible assumption) | (rw [cell_alloc_before _ _ _ _ (by omega)]; with_reducible assumption) | (simp [go_sem, *]; done)); have n1 : w1.cell? ⟨w.heap.size, 1, none⟩ = some (.int .i64 f) := (hb.cells _ _ (by first | with_reducible assumption | omega | (simp; done) | (simp; omega))).trans (by first | with_reducible assumption | (simp; done) | (simp; with_reducible assumption) | (rw [cell_alloc_before _ _ _ _ (by omega)]; with_reducible assumption) | (simp [go_sem, *]; done)); (first | (have nx := Ext.trans hx hb; clear hx) | (have nx := Ext.trans (hx.alloc _) hb; clear hx) | (have nx := Ext.trans hx.drew hb; clear hx) | have nx := hb); clear hb; try clear hs; try clear g0; try clear g1; have hx := nx; clear nx; have hs := ns; clear ns; have g0 := n0; clear n0; have g1 := n1; clear n1))))
  try go_wp2_with (first | (go_at_call 60; refine (fmFinite_any e f a _).mono ?_; rintro rv w1 ⟨rfl, hb⟩; have ns : w.heap.size < w1.heap.size := hb.lt (by first | with_reducible assumption | omega | (simp; done) | (simp; omega)); have n0 : w1.cell? ⟨w.heap.size, 0, none⟩ = some (.int .i64 e) := (hb.cells _ _ (by first | with_reducible assumption | omega | (simp; done) | (simp; omega))).trans (by first | with_reducible assumption | (simp; done) | (simp; with_reducible assumption) | (rw [cell_alloc_before _ _ _ _ (by omega)]; with_reducible assumption) | (simp [go_sem, *]; done)); have n1 : w1.cell? ⟨w.heap.size, 1, none⟩ = some (.int .i64 f) := (hb.cells _ _ (by first | with_reducible assumption | omega | (simp; done) | (simp; omega))).trans (by first | with_reducible assumption | (simp; done) | (simp; with_reducible assumption) | (rw [cell_alloc_before _ _ _ _ (by omega)]; with_reducible assumption) | (simp [go_sem, *]; done)); (first | (have nx := Ext.trans hx hb; clear hx) | (have nx := Ext.trans (hx.alloc _) hb; clear hx) | (have nx := Ext.trans hx.drew hb; clear hx) | have nx := hb); clear hb; try clear hs; try clear g0; try clear g1; have hx := nx; clear nx; have hs := ns; clear ns; have g0 := n0; clear n0; have g1 := n1; clear n1) | (go_at_call 61; refine (rdMode_any mode _).mono ?_; rintro rv w1 ⟨rfl, rfl⟩) | (go_at_call 42; (with_reducible refine (FU.out _).mono ?_); rintro rv w1 ⟨rfl, hb⟩; have ns : w.heap.size < w1.heap.size := hb.lt (by first | with_reducible assumption | omega | (simp; done) | (simp; omega)); have n0 : w1.cell? ⟨w.heap.size, 0, none⟩ = some (.int .i64 e) := (hb.cells _ _ (by first | with_reducible assumption | omega | (simp; done) | (simp; omega))).trans (by first | with_reducible assumption | (simp; done) | (simp; with_reducible assumption) | (rw [cell_alloc_before _ _ _ _ (by omega)]; with_reducible assumption) | (simp [go_sem, *]; done)); have n1 : w1.cell? ⟨w.heap.size, 1, none⟩ = some (.int .i64 f) := (hb.cells _ _ (by first | with_reducible assumption | omega | (simp; done) | (simp; omega))).trans (by first | with_reducible assumption | (simp; done) | (simp; with_reducible assumption) | (rw [cell_alloc_before _ _ _ _ (by omega)]; with_reducible assumption) | (simp [go_sem, *]; done)); (first | (have nx := Ext.trans hx hb; clear hx) | (have nx := Ext.trans (hx.alloc _) hb; clear hx) | (have nx := Ext.trans hx.drew hb; clear hx) | have nx := hb); clear hb; try clear hs; try clear g0; try clear g1; have hx := nx; clear nx; have hs := ns; clear ns; have g0 := n0; clear n0; have g1 := n1; clear n1) | (go_at_call 41; refine (LA.out _).mono ?_; rintro rv w1 ⟨rfl, rfl⟩) | (go_at_call 62; refine (WC.out _).mono ?_; rintro rv w1 ⟨rfl, hb⟩; have ns : w.heap.size < w1.heap.size := hb.lt (by first | with_reducible assumption | omega | (simp; done) | (simp; omega)); have n0 : w1.cell? ⟨w.heap.size, 0, none⟩ = some (.int .i64 e) := (hb.cells _ _ (by first | with_reducible assumption | omega | (simp; done) | (simp; omega))).trans (by first | with_reducible assumption | (simp; done) | (simp; with_reducible assumption) | (rw [cell_alloc_before _ _ _ _ (by omega)]; with_reducible assumption) | (simp [go_sem, *]; done)); have n1 : w1.cell? ⟨w.heap.size, 1, none⟩ = some (.int .i64 f) := (hb.cells _ _ (by first | with_reducible assumption | omega | (simp; done) | (simp; omega))).trans (by first | with_reducible assumption | (simp; done) | (simp; with_reducible assumption) | (rw [cell_alloc_before _ _ _ _ (by omega)]; with_reducible assumption) | (simp [go_sem, *]; done)); (first | (have nx := Ext.trans hx hb; clear hx) | (have nx := Ext.trans (hx.alloc _) hb; clear hx) | (have nx := Ext.trans hx.drew hb; clear hx) | have nx := hb); clear hb; try clear hs; try clear g0; try clear g1; have hx := nx; clear nx; have hs := ns; clear ns; have g0 := n0; clear n0; have g1 := n1; clear n1))
  go_ret2
  exact ⟨_, rfl, HTV.out.symm, (by repeat (first | exact Ext.refl _ | with_reducible assumption | apply Ext.alloc | apply Ext.drew | apply Ext.drewN | (refine Ext.setRow ?_ (by first | (simp; done) | (simp; omega) | omega) _) | (refine Ext.setCell ?_ (by first | (simp; done) | (simp; omega) | omega) _) | (refine Ext.trans ?_ (by with_reducible assumption))))⟩

theorem sToWhole_yes (e f a mode : Int) (hg : twB e f a mode = true) (w : World) : Calls Tryd.prog 26 #[fmt e f, .int .i64 a, .int .i64 mode] w (ARboth (fun r => r = (twV e f a mode)) w) := by
  by_cases h : (unitsV e f a) < 0
  · exact sToWhole_n e f a mode hg h w
  · exact sToWhole_p e f a mode hg h w

theorem iToWhole_b0 (e f a mode : Int) (h0 : finB e f a = false) (w : World) (hT : TW w) : Calls Tryd.prog 27 #[fmt e f, .int .i64 a, .int .i64 mode] w fun rv w' => rv = .returned (.tuple #[.int .i64 0, .bool false]) ∧ Ext w w' := by
  go_enter Tryd.func27, Tryd.ntmps27
  go_wp2_with (first | (go_at_call 63; refine (finiteAt_no e f a h0 _).mono ?_; rintro rv w1 ⟨rfl, hb⟩; have ns : w.heap.size < w1.heap.size := hb.lt (by first | with_reducible assumption | omega | (simp; done) | (simp; omega)); have n0 : w1.cell? ⟨w.heap.size, 0, none⟩ = some (.int .i64 e) := (hb.cells _ _ (by first | with_reducible assumption | omega | (simp; done) | (simp; omega))).trans (by first | with_reducible assumption | (simp; done) | (simp; with_reducible assumption) | (rw [cell_alloc_before _ _ _ _ (by omega)]; with_reducible assumption) | (simp [go_sem, *]; done)); have n1 : w1.cell? ⟨w.heap.size, 1, none⟩ = some (.int .i64 f) := (hb.cells _ _ (by first | with_reducible assumption | omega | (simp; done) | (simp; omega))).trans (by first | with_reducible assumption | (simp; done) | (simp; with_reducible assumption) | (rw [cell_alloc_before _ _ _ _ (by omega)]; with_reducible assumption) | (simp [go_sem, *]; done)); (first | (have nx := Ext.trans hx hb; clear hx) | (have nx := Ext.trans (hx.alloc _) hb; clear hx) | (have nx := Ext.trans hx.drew hb; clear hx) | have nx := hb); clear hb; try clear hs; try clear g0; try clear g1; have hx := nx; clear nx; have hs := ns; clear ns; have g0 := n0; clear n0; have g1 := n1; clear n1) | (go_at_call 64; refine (isMode_any mode _).mono ?_; rintro rv w1 ⟨rfl, rfl⟩))
  go_ret2
  exact ⟨rfl, (by repeat (first | exact Ext.refl _ | with_reducible assumption | apply Ext.alloc | apply Ext.drew | apply Ext.drewN | (refine Ext.setRow ?_ (by first | (simp; done) | (simp; omega) | omega) _) | (refine Ext.setCell ?_ (by first | (simp; done) | (simp; omega) | omega) _) | (refine Ext.trans ?_ (by with_reducible assumption))))⟩

theorem iToWhole_b1 (e f a mode : Int) (h0 : finB e f a = true) (h1 : moB mode = false) (w : World) (hT : TW w) : Calls Tryd.prog 27 #[fmt e f, .int .i64 a, .int .i64 mode] w fun rv w' => rv = .returned (.tuple #[.int .i64 0, .bool false]) ∧ Ext w w' := by
  have FY := Lib.hid (fun w hT => finiteAt_yes e f a h0 w hT)
  go_enter Tryd.func27, Tryd.ntmps27
  go_wp2_with (first | (go_at_call 63; refine (FY.out _ (hT.ext (by repeat (first | exact Ext.refl _ | with_reducible assumption | apply Ext.alloc | apply Ext.drew | apply Ext.drewN | (refine Ext.setRow ?_ (by first | (simp; done) | (simp; omega) | omega) _) | (refine Ext.setCell ?_ (by first | (simp; done) | (simp; omega) | omega) _) | (refine Ext.trans ?_ (by with_reducible assumption)))))).mono ?_; rintro rv w1 ⟨rfl, hb⟩; have ns : w.heap.size < w1.heap.size := hb.lt (by first | with_reducible assumption | omega | (simp; done) | (simp; omega)); have n0 : w1.cell? ⟨w.heap.size, 0, none⟩ = some (.int .i64 e) := (hb.cells _ _ (by first | with_reducible assumption | omega | (simp; done) | (simp; omega))).trans (by first | with_reducible assumption | (simp; done) | (simp; with_reducible assumption) | (rw [cell_alloc_before _ _ _ _ (by omega)]; with_reducible assumption) | (simp [go_sem, *]; done)); have n1 : w1.cell? ⟨w.heap.size, 1, none⟩ = some (.int .i64 f) := (hb.cells _ _ (by first | with_reducible assumption | omega | (simp; done) | (simp; omega))).trans (by first | with_reducible assumption | (simp; done) | (simp; with_reducible assumption) | (rw [cell_alloc_before _ _ _ _ (by omega)]; with_reducible assumption) | (simp [go_sem, *]; done)); (first | (have nx := Ext.trans hx hb; clear hx) | (have nx := Ext.trans (hx.alloc _) hb; clear hx) | (have nx := Ext.trans hx.drew hb; clear hx) | have nx := hb); clear hb; try clear hs; try clear g0; try clear g1; have hx := nx; clear nx; have hs := ns; clear ns; have g0 := n0; clear n0; have g1 := n1; clear n1) | (go_at_call 64; refine (isMode_any mode _).mono ?_; rintro rv w1 ⟨rfl, rfl⟩))
  go_ret2
  exact ⟨rfl, (by repeat (first | exact Ext.refl _ | with_reducible assumption | apply Ext.alloc | apply Ext.drew | apply Ext.drewN | (refine Ext.setRow ?_ (by first | (simp; done) | (simp; omega) | omega) _) | (refine Ext.setCell ?_ (by first | (simp; done) | (simp; omega) | omega) _) | (refine Ext.trans ?_ (by with_reducible assumption))))⟩

theorem iToWhole_no (e f a mode : Int) (hg : twB e f a mode = false) (w : World) (hT : TW w) : Calls Tryd.prog 27 #[fmt e f, .int .i64 a, .int .i64 mode] w fun rv w' => rv = .returned (.tuple #[.int .i64 0, .bool false]) ∧ Ext w w' := by
  cases h0 : finB e f a
  · exact iToWhole_b0 e f a mode h0 w hT
  · have h1 : moB mode = false := by unfold twB at hg; rw [h0] at hg; simpa using hg
    exact iToWhole_b1 e f a mode h0 h1 w hT

theorem iToWhole_f0 (e f a mode : Int) (hg : twB e f a mode = true) (hs : (a / pw (e + f)) = 0) (w : World) (hT : TW w) : Calls Tryd.prog 27 #[fmt e f, .int .i64 a, .int .i64 mode] w (ARboth (fun r => r = (twV e f a mode)) w) := by
  obtain ⟨hf, m0, m1⟩ := tw_iff.1 hg
  have hap := (fin_pat hf).1
  have hgg := (pat_iff.1 hap).1
  have h1 : moB mode = true := mo_iff.2 ⟨m0, m1⟩
  obtain ⟨ua1, ua2, ua3, ua4, ua5⟩ := un_small hap
  have u1 := un_bd hgg
  have xb : -24 ≤ (shE (unitsV e f a) (unV e f)) ∧ (shE (unitsV e f a) (unV e f)) ≤ 41 := by
    by_cases h : (unitsV e f a) = 0
    · have := ua5 h; omega
    · have := ua4 h; omega
  have p1 := pw_pos ((shE (unitsV e f a) (unV e f)) - min (shE (unitsV e f a) (unV e f)) 0)
  have p2 : pw ((shE (unitsV e f a) (unV e f)) - min (shE (unitsV e f a) (unV e f)) 0) ≤ 2199023255552 := pw_le 41 2199023255552 rfl (by omega)
  have q1 := pw_pos (0 - min (shE (unitsV e f a) (unV e f)) 0)
  have A0 : 0 ≤ ((odV (unitsV e f a)).natAbs : Int) * pw ((shE (unitsV e f a) (unV e f)) - min (shE (unitsV e f a) (unV e f)) 0) := Int.mul_nonneg (by omega) (by omega)
  have A1 : ((odV (unitsV e f a)).natAbs : Int) * pw ((shE (unitsV e f a) (unV e f)) - min (shE (unitsV e f a) (unV e f)) 0) ≤ 2048 * 2199023255552 := Int.mul_le_mul (by omega) p2 (by omega) (by omega)
  obtain ⟨z0, z1⟩ := wh_bd (u := ((odV (unitsV e f a)).natAbs : Int) * pw ((shE (unitsV e f a) (unV e f)) - min (shE (unitsV e f a) (unV e f)) 0)) (P := 1 * pw (0 - min (shE (unitsV e f a) (unV e f)) 0)) (mode := mode) (neg := (0 == (1 : Int))) A0 (by omega)
  have kz : IntKind.i64.wrap (-(whV (((odV (unitsV e f a)).natAbs : Int) * pw ((shE (unitsV e f a) (unV e f)) - min (shE (unitsV e f a) (unV e f)) 0)) (1 * pw (0 - min (shE (unitsV e f a) (unV e f)) 0)) mode (0 == (1 : Int)))) = -(whV (((odV (unitsV e f a)).natAbs : Int) * pw ((shE (unitsV e f a) (unV e f)) - min (shE (unitsV e f a) (unV e f)) 0)) (1 * pw (0 - min (shE (unitsV e f a) (unV e f)) 0)) mode (0 == (1 : Int))) := IntWalk.i64_in _ (by omega)
  have WA := Lib.hid (fun w => whole_any 0 ((odV (unitsV e f a)).natAbs : Int) (shE (unitsV e f a) (unV e f)) mode (by omega) (by omega) xb.1 xb.2 m0 m1 w)
  have OX := Lib.hid (fun w hT => by have := finiteAt_yes e f a hf w hT; rw [hs] at this; exact this)
  have TV : (whV (((odV (unitsV e f a)).natAbs : Int) * pw ((shE (unitsV e f a) (unV e f)) - min (shE (unitsV e f a) (unV e f)) 0)) (1 * pw (0 - min (shE (unitsV e f a) (unV e f)) 0)) mode (0 == (1 : Int))) = (twV e f a mode) := by
    unfold twV
    by_cases hz : (unitsV e f a) = 0
    · rw [if_neg (by omega), hz, od_zero, show ((Int.natAbs 0 : Nat) : Int) = 0 from rfl, Int.zero_mul, wh_null, wh_null]
      all_goals (first | rfl | omega)
    · rw [wh_units hap hz]
      have us := units_sign hap hz
      rw [if_neg (fun h => by have := us.1 h; omega)]; rfl
  clear xb p1 p2 q1 A0 A1 z0 z1 ua1 ua2 ua3 ua4 ua5 u1 hs
  generalize (twV e f a mode) = T at *
  generalize (whV (((odV (unitsV e f a)).natAbs : Int) * pw ((shE (unitsV e f a) (unV e f)) - min (shE (unitsV e f a) (unV e f)) 0)) (1 * pw (0 - min (shE (unitsV e f a) (unV e f)) 0)) mode (0 == (1 : Int))) = z at *
  have HTV := Lib.hid TV
  clear TV
  generalize ((odV (unitsV e f a)).natAbs : Int) = N at *
  generalize (shE (unitsV e f a) (unV e f)) = X at *
  go_enter Tryd.func27, Tryd.ntmps27
  go_wp2_with (first | (go_at_call 64; refine (isMode_any mode _).mono ?_; rintro rv w1 ⟨rfl, rfl⟩) | (go_at_call 63; (with_reducible refine (OX.out _ (hT.ext (by repeat (first | exact Ext.refl _ | with_reducible assumption | apply Ext.alloc | apply Ext.drew | apply Ext.drewN | (refine Ext.setRow ?_ (by first | (simp; done) | (simp; omega) | omega) _) | (refine Ext.setCell ?_ (by first | (simp; done) | (simp; omega) | omega) _) | (refine Ext.trans ?_ (by with_reducible assumption)))))).mono ?_); rintro rv w1 ⟨rfl, hb⟩; have hx : Ext w w1 := Ext.trans (by repeat (first | exact Ext.refl _ | with_reducible assumption | apply Ext.alloc | apply Ext.drew | apply Ext.drewN | (refine Ext.setRow ?_ (by first | (simp; done) | (simp; omega) | omega) _) | (refine Ext.setCell ?_ (by first | (simp; done) | (simp; omega) | omega) _) | (refine Ext.trans ?_ (by with_reducible assumption)))) hb; clear hb) | (go_at_call 65; (with_reducible refine (WA.out _).mono ?_); rintro rv w2 ⟨rfl, hb⟩; have c0 : w2.cell? ⟨w1.heap.size, 0, none⟩ = some (.int .i64 0) := (hb.cells _ _ (by first | (simp; done) | (simp; omega))).trans (by first | (simp; done) | (simp [go_sem]; done) | (simp [go_sem, *]; done)); have hx2 : Ext w w2 := Ext.trans (by repeat (first | exact Ext.refl _ | with_reducible assumption | apply Ext.alloc | apply Ext.drew | apply Ext.drewN | (refine Ext.setRow ?_ (by first | (simp; done) | (simp; omega) | omega) _) | (refine Ext.setCell ?_ (by first | (simp; done) | (simp; omega) | omega) _) | (refine Ext.trans ?_ (by with_reducible assumption)))) hb; clear hb))
  try (go_region_held3 (fun w' => True) ((refine ⟨?_⟩ <;> first | with_reducible assumption | ((rw [cell_setRow_far _ _ _ _ _ (by omega)]); with_reducible assumption) | ((rw [setRow_size]); with_reducible assumption) | ((repeat rw [World.cell?_setCell_far _ _ _ _ (by simp)]); with_reducible assumption) | (simp; done) | (simp [World.setCell]; first | done | omega) | (simp [go_sem, World.cell?_alloc_past, World.cell?_setCell_far, *]; done))) ((first | (go_at_call 65; (with_reducible refine (WA.out _).mono ?_); rintro rv w2 ⟨rfl, hb⟩; have c0 : w2.cell? ⟨w1.heap.size, 0, none⟩ = some (.int .i64 0) := (hb.cells _ _ (by first | (simp; done) | (simp; omega))).trans (by first | (simp; done) | (simp [go_sem]; done) | (simp [go_sem, *]; done)); have hx2 : Ext w w2 := Ext.trans (by repeat (first | exact Ext.refl _ | with_reducible assumption | apply Ext.alloc | apply Ext.drew | apply Ext.drewN | (refine Ext.setRow ?_ (by first | (simp; done) | (simp; omega) | omega) _) | (refine Ext.setCell ?_ (by first | (simp; done) | (simp; omega) | omega) _) | (refine Ext.trans ?_ (by with_reducible assumption)))) hb; clear hb))))
  try go_wp2_with (first | (go_at_call 65; (with_reducible refine (WA.out _).mono ?_); rintro rv w2 ⟨rfl, hb⟩; have c0 : w2.cell? ⟨w1.heap.size, 0, none⟩ = some (.int .i64 0) := (hb.cells _ _ (by first | (simp; done) | (simp; omega))).trans (by first | (simp; done) | (simp [go_sem]; done) | (simp [go_sem, *]; done)); have hx2 : Ext w w2 := Ext.trans (by repeat (first | exact Ext.refl _ | with_reducible assumption | apply Ext.alloc | apply Ext.drew | apply Ext.drewN | (refine Ext.setRow ?_ (by first | (simp; done) | (simp; omega) | omega) _) | (refine Ext.setCell ?_ (by first | (simp; done) | (simp; omega) | omega) _) | (refine Ext.trans ?_ (by with_reducible assumption)))) hb; clear hb))
  go_ret2
  exact ⟨_, rfl, HTV.out, (by repeat (first | exact Ext.refl _ | with_reducible assumption | apply Ext.alloc | apply Ext.drew | apply Ext.drewN | (refine Ext.setRow ?_ (by first | (simp; done) | (simp; omega) | omega) _) | (refine Ext.setCell ?_ (by first | (simp; done) | (simp; omega) | omega) _) | (refine Ext.trans ?_ (by with_reducible assumption))))⟩

theorem iToWhole_f1 (e f a mode : Int) (hg : twB e f a mode = true) (hs : (a / pw (e + f)) = 1) (w : World) (hT : TW w) : Calls Tryd.prog 27 #[fmt e f, .int .i64 a, .int .i64 mode] w (ARboth (fun r => r = (twV e f a mode)) w) := by
  obtain ⟨hf, m0, m1⟩ := tw_iff.1 hg
  have hap := (fin_pat hf).1
  have hgg := (pat_iff.1 hap).1
  have h1 : moB mode = true := mo_iff.2 ⟨m0, m1⟩
  obtain ⟨ua1, ua2, ua3, ua4, ua5⟩ := un_small hap
  have u1 := un_bd hgg
  have xb : -24 ≤ (shE (unitsV e f a) (unV e f)) ∧ (shE (unitsV e f a) (unV e f)) ≤ 41 := by
    by_cases h : (unitsV e f a) = 0
    · have := ua5 h; omega
    · have := ua4 h; omega
  have p1 := pw_pos ((shE (unitsV e f a) (unV e f)) - min (shE (unitsV e f a) (unV e f)) 0)
  have p2 : pw ((shE (unitsV e f a) (unV e f)) - min (shE (unitsV e f a) (unV e f)) 0) ≤ 2199023255552 := pw_le 41 2199023255552 rfl (by omega)
  have q1 := pw_pos (0 - min (shE (unitsV e f a) (unV e f)) 0)
  have A0 : 0 ≤ ((odV (unitsV e f a)).natAbs : Int) * pw ((shE (unitsV e f a) (unV e f)) - min (shE (unitsV e f a) (unV e f)) 0) := Int.mul_nonneg (by omega) (by omega)
  have A1 : ((odV (unitsV e f a)).natAbs : Int) * pw ((shE (unitsV e f a) (unV e f)) - min (shE (unitsV e f a) (unV e f)) 0) ≤ 2048 * 2199023255552 := Int.mul_le_mul (by omega) p2 (by omega) (by omega)
  obtain ⟨z0, z1⟩ := wh_bd (u := ((odV (unitsV e f a)).natAbs : Int) * pw ((shE (unitsV e f a) (unV e f)) - min (shE (unitsV e f a) (unV e f)) 0)) (P := 1 * pw (0 - min (shE (unitsV e f a) (unV e f)) 0)) (mode := mode) (neg := (1 == (1 : Int))) A0 (by omega)
  have kz : IntKind.i64.wrap (-(whV (((odV (unitsV e f a)).natAbs : Int) * pw ((shE (unitsV e f a) (unV e f)) - min (shE (unitsV e f a) (unV e f)) 0)) (1 * pw (0 - min (shE (unitsV e f a) (unV e f)) 0)) mode (1 == (1 : Int)))) = -(whV (((odV (unitsV e f a)).natAbs : Int) * pw ((shE (unitsV e f a) (unV e f)) - min (shE (unitsV e f a) (unV e f)) 0)) (1 * pw (0 - min (shE (unitsV e f a) (unV e f)) 0)) mode (1 == (1 : Int))) := IntWalk.i64_in _ (by omega)
  have WA := Lib.hid (fun w => whole_any 1 ((odV (unitsV e f a)).natAbs : Int) (shE (unitsV e f a) (unV e f)) mode (by omega) (by omega) xb.1 xb.2 m0 m1 w)
  have OX := Lib.hid (fun w hT => by have := finiteAt_yes e f a hf w hT; rw [hs] at this; exact this)
  have TV : -(whV (((odV (unitsV e f a)).natAbs : Int) * pw ((shE (unitsV e f a) (unV e f)) - min (shE (unitsV e f a) (unV e f)) 0)) (1 * pw (0 - min (shE (unitsV e f a) (unV e f)) 0)) mode (1 == (1 : Int))) = (twV e f a mode) := by
    unfold twV
    by_cases hz : (unitsV e f a) = 0
    · rw [if_neg (by omega), hz, od_zero, show ((Int.natAbs 0 : Nat) : Int) = 0 from rfl, Int.zero_mul, wh_null, wh_null]
      all_goals (first | rfl | omega)
    · rw [wh_units hap hz]
      have us := units_sign hap hz
      rw [if_pos (us.2 hs)]; rfl
  clear xb p1 p2 q1 A0 A1 z0 z1 ua1 ua2 ua3 ua4 ua5 u1 hs
  generalize (twV e f a mode) = T at *
  generalize (whV (((odV (unitsV e f a)).natAbs : Int) * pw ((shE (unitsV e f a) (unV e f)) - min (shE (unitsV e f a) (unV e f)) 0)) (1 * pw (0 - min (shE (unitsV e f a) (unV e f)) 0)) mode (1 == (1 : Int))) = z at *
  have HTV := Lib.hid TV
  clear TV
  generalize ((odV (unitsV e f a)).natAbs : Int) = N at *
  generalize (shE (unitsV e f a) (unV e f)) = X at *
  go_enter Tryd.func27, Tryd.ntmps27
  go_wp2_with (first | (go_at_call 64; refine (isMode_any mode _).mono ?_; rintro rv w1 ⟨rfl, rfl⟩) | (go_at_call 63; (with_reducible refine (OX.out _ (hT.ext (by repeat (first | exact Ext.refl _ | with_reducible assumption | apply Ext.alloc | apply Ext.drew | apply Ext.drewN | (refine Ext.setRow ?_ (by first | (simp; done) | (simp; omega) | omega) _) | (refine Ext.setCell ?_ (by first | (simp; done) | (simp; omega) | omega) _) | (refine Ext.trans ?_ (by with_reducible assumption)))))).mono ?_); rintro rv w1 ⟨rfl, hb⟩; have hx : Ext w w1 := Ext.trans (by repeat (first | exact Ext.refl _ | with_reducible assumption | apply Ext.alloc | apply Ext.drew | apply Ext.drewN | (refine Ext.setRow ?_ (by first | (simp; done) | (simp; omega) | omega) _) | (refine Ext.setCell ?_ (by first | (simp; done) | (simp; omega) | omega) _) | (refine Ext.trans ?_ (by with_reducible assumption)))) hb; clear hb) | (go_at_call 65; (with_reducible refine (WA.out _).mono ?_); rintro rv w2 ⟨rfl, hb⟩; have c0 : w2.cell? ⟨w1.heap.size, 0, none⟩ = some (.int .i64 1) := (hb.cells _ _ (by first | (simp; done) | (simp; omega))).trans (by first | (simp; done) | (simp [go_sem]; done) | (simp [go_sem, *]; done)); have hx2 : Ext w w2 := Ext.trans (by repeat (first | exact Ext.refl _ | with_reducible assumption | apply Ext.alloc | apply Ext.drew | apply Ext.drewN | (refine Ext.setRow ?_ (by first | (simp; done) | (simp; omega) | omega) _) | (refine Ext.setCell ?_ (by first | (simp; done) | (simp; omega) | omega) _) | (refine Ext.trans ?_ (by with_reducible assumption)))) hb; clear hb))
  try (go_region_held3 (fun w' => True) ((refine ⟨?_⟩ <;> first | with_reducible assumption | ((rw [cell_setRow_far _ _ _ _ _ (by omega)]); with_reducible assumption) | ((rw [setRow_size]); with_reducible assumption) | ((repeat rw [World.cell?_setCell_far _ _ _ _ (by simp)]); with_reducible assumption) | (simp; done) | (simp [World.setCell]; first | done | omega) | (simp [go_sem, World.cell?_alloc_past, World.cell?_setCell_far, *]; done))) ((first | (go_at_call 65; (with_reducible refine (WA.out _).mono ?_); rintro rv w2 ⟨rfl, hb⟩; have c0 : w2.cell? ⟨w1.heap.size, 0, none⟩ = some (.int .i64 1) := (hb.cells _ _ (by first | (simp; done) | (simp; omega))).trans (by first | (simp; done) | (simp [go_sem]; done) | (simp [go_sem, *]; done)); have hx2 : Ext w w2 := Ext.trans (by repeat (first | exact Ext.refl _ | with_reducible assumption | apply Ext.alloc | apply Ext.drew | apply Ext.drewN | (refine Ext.setRow ?_ (by first | (simp; done) | (simp; omega) | omega) _) | (refine Ext.setCell ?_ (by first | (simp; done) | (simp; omega) | omega) _) | (refine Ext.trans ?_ (by with_reducible assumption)))) hb; clear hb))))
  try go_wp2_with (first | (go_at_call 65; (with_reducible refine (WA.out _).mono ?_); rintro rv w2 ⟨rfl, hb⟩; have c0 : w2.cell? ⟨w1.heap.size, 0, none⟩ = some (.int .i64 1) := (hb.cells _ _ (by first | (simp; done) | (simp; omega))).trans (by first | (simp; done) | (simp [go_sem]; done) | (simp [go_sem, *]; done)); have hx2 : Ext w w2 := Ext.trans (by repeat (first | exact Ext.refl _ | with_reducible assumption | apply Ext.alloc | apply Ext.drew | apply Ext.drewN | (refine Ext.setRow ?_ (by first | (simp; done) | (simp; omega) | omega) _) | (refine Ext.setCell ?_ (by first | (simp; done) | (simp; omega) | omega) _) | (refine Ext.trans ?_ (by with_reducible assumption)))) hb; clear hb))
  go_ret2
  exact ⟨_, rfl, HTV.out, (by repeat (first | exact Ext.refl _ | with_reducible assumption | apply Ext.alloc | apply Ext.drew | apply Ext.drewN | (refine Ext.setRow ?_ (by first | (simp; done) | (simp; omega) | omega) _) | (refine Ext.setCell ?_ (by first | (simp; done) | (simp; omega) | omega) _) | (refine Ext.trans ?_ (by with_reducible assumption))))⟩

theorem iToWhole_yes (e f a mode : Int) (hg : twB e f a mode = true) (w : World) (hT : TW w) : Calls Tryd.prog 27 #[fmt e f, .int .i64 a, .int .i64 mode] w (ARboth (fun r => r = (twV e f a mode)) w) := by
  rcases sign_01 (fin_pat (tw_iff.1 hg).1).1 with h | h
  · exact iToWhole_f0 e f a mode hg h w hT
  · exact iToWhole_f1 e f a mode hg h w hT
end Go.Proofs.YtfgbndjhaiigbabDoor

