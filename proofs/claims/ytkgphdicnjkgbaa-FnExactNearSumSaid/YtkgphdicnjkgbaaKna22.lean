/-
  Contracts of the functions that the laws reach, and the plain facts that they rest on, each under the conditions that its line names; part 22.
-/
import Derived.Test.YtkgphdicnjkgbaaKna1
import Derived.Test.YtkgphdicnjkgbaaKna2
import Derived.Test.YtkgphdicnjkgbaaKna3
import Derived.Test.YtkgphdicnjkgbaaKna4
import Derived.Test.YtkgphdicnjkgbaaKna5
import Derived.Test.YtkgphdicnjkgbaaKna6
import Derived.Test.YtkgphdicnjkgbaaKna7
import Derived.Test.YtkgphdicnjkgbaaKna8
import Derived.Test.YtkgphdicnjkgbaaKna9
import Derived.Test.YtkgphdicnjkgbaaKna10
import Derived.Test.YtkgphdicnjkgbaaKna11
import Derived.Test.YtkgphdicnjkgbaaKna12
import Derived.Test.YtkgphdicnjkgbaaKna13
import Derived.Test.YtkgphdicnjkgbaaKna14
import Derived.Test.YtkgphdicnjkgbaaKna15
import Derived.Test.YtkgphdicnjkgbaaKna16
import Derived.Test.YtkgphdicnjkgbaaKna17
import Derived.Test.YtkgphdicnjkgbaaKna18
import Derived.Test.YtkgphdicnjkgbaaKna19
import Derived.Test.YtkgphdicnjkgbaaKna20
import Derived.Test.YtkgphdicnjkgbaaKna21
import Derived.Test.YtkgphdicnjkgbaaRows
import Derived.WalkKit
import Derived.LoopTactic
import Derived.Laws.Bits64b
import Derived.WalkSpells
import Derived.WalkLawsBesides
import Derived.StillTactics
import Derived.Laws.Pointers
import Derived.Deep.RegionHeld3
import Derived.Deep.QuietTactic
import Derived.BigQuiet
import Derived.Outline
import Derived.Lib.Hide
import Derived.RowKit3
import Derived.Carry
import Derived.IntWalk
import Derived.Lib.BitFns
import Derived.Lib.TrailingZeros
namespace Go.Proofs.Ytkgphdicnjkgbaa
open Go Go.RowKit
set_option linter.unusedSimpArgs false
set_option linter.unusedVariables false
set_option maxRecDepth 100000

/-- Both are greater than 0, and none is greater than twice the other one. -/
def nnB (x y : Int) : Bool := decide (0 < x ∧ 0 < y ∧ x ≤ 2 * y ∧ y ≤ 2 * x)

theorem min_cw {P : Program} {a b : Int} (ha : Ok Ieee.single (a.natAbs * 2 ^ 149)) (hb : Ok Ieee.single (b.natAbs * 2 ^ 149)) (ts : Array TypeId) (t : TypeId) (w : World) :
    (Builtin.min_ ts t #[.float .f32 (cw a), .float .f32 (cw b)]).run P w = .ok (.float .f32 (cw (min a b))) w := by
  obtain ⟨o1, o2, o3⟩ := ords_cw ha hb
  have e : Builtin.min_ ts t #[.float .f32 (cw a), .float .f32 (cw b)] = Builtin.min2 (.float .f32 (cw a)) (.float .f32 (cw b)) := by simp [Builtin.min_]
  have P1 : ∀ x : Nat, (pure (Value.float .f32 x) : Sem Value).run P w = .ok (.float .f32 x) w := fun x => rfl
  rw [e]
  unfold Builtin.min2
  rcases Int.lt_trichotomy a b with h | h | h
  · have o := o1 h
    rw [show min a b = a by omega]
    simp only [o]
    exact P1 _
  · have o := o2 h
    rw [show min a b = a by omega]
    rw [← h] at o ⊢
    simp only [o]
    split <;> exact P1 _
  · have o := o3 h
    rw [show min a b = b by omega]
    simp only [o]
    exact P1 _

theorem max_cw {P : Program} {a b : Int} (ha : Ok Ieee.single (a.natAbs * 2 ^ 149)) (hb : Ok Ieee.single (b.natAbs * 2 ^ 149)) (ts : Array TypeId) (t : TypeId) (w : World) :
    (Builtin.max_ ts t #[.float .f32 (cw a), .float .f32 (cw b)]).run P w = .ok (.float .f32 (cw (max a b))) w := by
  obtain ⟨o1, o2, o3⟩ := ords_cw ha hb
  have e : Builtin.max_ ts t #[.float .f32 (cw a), .float .f32 (cw b)] = Builtin.max2 (.float .f32 (cw a)) (.float .f32 (cw b)) := by simp [Builtin.max_]
  have P1 : ∀ x : Nat, (pure (Value.float .f32 x) : Sem Value).run P w = .ok (.float .f32 x) w := fun x => rfl
  rw [e]
  unfold Builtin.max2
  rcases Int.lt_trichotomy a b with h | h | h
  · have o := o1 h
    rw [show max a b = b by omega]
    simp only [o]
    exact P1 _
  · have o := o2 h
    rw [show max a b = a by omega]
    rw [← h] at o ⊢
    simp only [o]
    split <;> exact P1 _
  · have o := o3 h
    rw [show max a b = a by omega]
    simp only [o]
    exact P1 _

theorem two_cw {m : Int} (h0 : 0 < m) (h : Ok Ieee.single (m.natAbs * 2 ^ 149)) : floatBits .mul .f32 1073741824 (cw m) = some (cw (2 * m)) := by
  have := mul_two h
  have e1 : cw m = fw Ieee.single (m.natAbs * 2 ^ 149) := by
    rw [← cw_def, decide_eq_false (by omega), sw_pos]
  have e2 : cw (2 * m) = fw Ieee.single (2 * (m.natAbs * 2 ^ 149)) := by
    rw [← cw_def, decide_eq_false (by omega), sw_pos, ← Nat.mul_assoc, show (2 * m).natAbs = 2 * m.natAbs by omega]
  rw [e1, e2]
  exact this

theorem ok_twice {m : Int} (h : Ok Ieee.single (m.natAbs * 2 ^ 149)) (hm : m.natAbs < 2199023255552) : Ok Ieee.single ((2 * m).natAbs * 2 ^ 149) := by
  rw [show (2 * m).natAbs = 2 * m.natAbs by omega, Nat.mul_assoc]
  refine ok_two h ?_
  have : m.natAbs * 2 ^ 149 < 2 ^ 41 * 2 ^ 149 := Nat.mul_lt_mul_of_pos_right (by omega) (Nat.two_pow_pos 149)
  rw [← Nat.pow_add] at this
  exact Nat.lt_trans this (Nat.pow_lt_pow_right (by decide) (by decide))

theorem sIsNear_no (e f a b : Int) (hg : (finB e f a && finB e f b) = false) (w : World) : Calls Try.prog 31 #[fmt e f, .int .i64 a, .int .i64 b] w fun rv w' => rv = .returned (.tuple #[.bool false, .bool false]) ∧ Ext w w' := by
  go_enter Try.func31, Try.ntmps31
  go_wp2_with (go_at_call 57; refine (exBoth_any e f a b _).mono ?_; rintro rv w1 ⟨rfl, hb⟩; have ns : w.heap.size < w1.heap.size := hb.lt (by first | with_reducible assumption | omega | (simp; done) | (simp; omega)); have n0 : w1.cell? ⟨w.heap.size, 0, none⟩ = some (.int .i64 e) := (hb.cells _ _ (by first | with_reducible assumption | omega | (simp; done) | (simp; omega))).trans (by first | with_reducible assumption | (simp; done) | (simp; with_reducible assumption) | (rw [cell_alloc_before _ _ _ _ (by omega)]; with_reducible assumption) | (simp [go_sem, *]; done)); have n1 : w1.cell? ⟨w.heap.size, 1, none⟩ = some (.int .i64 f) := (hb.cells _ _ (by first | with_reducible assumption | omega | (simp; done) | (simp; omega))).trans (by first | with_reducible assumption | (simp; done) | (simp; with_reducible assumption) | (rw [cell_alloc_before _ _ _ _ (by omega)]; with_reducible assumption) | (simp [go_sem, *]; done)); (first | (have nx := Ext.trans hx hb; clear hx) | (have nx := Ext.trans (hx.alloc _) hb; clear hx) | (have nx := Ext.trans hx.drew hb; clear hx) | have nx := hb); clear hb; try clear hs; try clear g0; try clear g1; have hx := nx; clear nx; have hs := ns; clear ns; have g0 := n0; clear n0; have g1 := n1; clear n1)
  go_ret2
  exact ⟨rfl, (by repeat (first | exact Ext.refl _ | with_reducible assumption | apply Ext.alloc | apply Ext.drew | apply Ext.drewN | (refine Ext.setRow ?_ (by first | (simp; done) | (simp; omega) | omega) _) | (refine Ext.setCell ?_ (by first | (simp; done) | (simp; omega) | omega) _) | (refine Ext.trans ?_ (by with_reducible assumption))))⟩

set_option maxHeartbeats 1600000 in
theorem sIsNear_yes (e f a b : Int) (hg : (finB e f a && finB e f b) = true) (w : World) : Calls Try.prog 31 #[fmt e f, .int .i64 a, .int .i64 b] w fun rv w' => rv = .returned (.tuple #[.bool (nnB (unitsV e f a) (unitsV e f b)), .bool true]) ∧ Ext w w' := by
  obtain ⟨ha, hb2⟩ : finB e f a = true ∧ finB e f b = true := by simpa using hg
  obtain ⟨hgg, _⟩ := fin_size ha
  have hap := (fin_pat ha).1
  have hbp := (fin_pat hb2).1
  obtain ⟨sm1, sm2, sm3, sm4, sm5, sm6⟩ := ns_small ha hb2
  have k1 : IntKind.i64.wrap (2 * (unitsV e f a)) = 2 * (unitsV e f a) := IntWalk.i64_in _ (by omega)
  have k2 : IntKind.i64.wrap (2 * (unitsV e f b)) = 2 * (unitsV e f b) := IntWalk.i64_in _ (by omega)
  by_cases h1 : 0 < (unitsV e f a)
  · have := trivial
    by_cases h2 : 0 < (unitsV e f b)
    · have := trivial
      by_cases h3 : (unitsV e f a) ≤ 2 * (unitsV e f b)
      · have := trivial
        by_cases h4 : (unitsV e f b) ≤ 2 * (unitsV e f a)
        · have := trivial
          have e1 : nnB (unitsV e f a) (unitsV e f b) = true := decide_eq_true (by omega)
          rw [e1]
          clear e1
          clear sm1 sm2 sm3 sm4 sm5 sm6
          go_enter Try.func31, Try.ntmps31
          go_wp2_with (go_at_call 57; refine (exBoth_any e f a b _).mono ?_; rintro rv w1 ⟨rfl, hb⟩; have ns : w.heap.size < w1.heap.size := hb.lt (by first | with_reducible assumption | omega | (simp; done) | (simp; omega)); have n0 : w1.cell? ⟨w.heap.size, 0, none⟩ = some (.int .i64 e) := (hb.cells _ _ (by first | with_reducible assumption | omega | (simp; done) | (simp; omega))).trans (by first | with_reducible assumption | (simp; done) | (simp; with_reducible assumption) | (rw [cell_alloc_before _ _ _ _ (by omega)]; with_reducible assumption) | (simp [go_sem, *]; done)); have n1 : w1.cell? ⟨w.heap.size, 1, none⟩ = some (.int .i64 f) := (hb.cells _ _ (by first | with_reducible assumption | omega | (simp; done) | (simp; omega))).trans (by first | with_reducible assumption | (simp; done) | (simp; with_reducible assumption) | (rw [cell_alloc_before _ _ _ _ (by omega)]; with_reducible assumption) | (simp [go_sem, *]; done)); (first | (have nx := Ext.trans hx hb; clear hx) | (have nx := Ext.trans (hx.alloc _) hb; clear hx) | (have nx := Ext.trans hx.drew hb; clear hx) | have nx := hb); clear hb; try clear hs; try clear g0; try clear g1; have hx := nx; clear nx; have hs := ns; clear ns; have g0 := n0; clear n0; have g1 := n1; clear n1)
          go_region_held3 (fun w' => w'.cell? ⟨w.heap.size, 0, none⟩ = some (.int .i64 e) ∧ w'.cell? ⟨w.heap.size, 1, none⟩ = some (.int .i64 f) ∧ w.heap.size < w'.heap.size) ((refine ⟨?_, ?_, ?_⟩ <;> first | with_reducible assumption | ((rw [cell_setRow_far _ _ _ _ _ (by omega)]); with_reducible assumption) | ((rw [setRow_size]); with_reducible assumption) | ((repeat rw [World.cell?_setCell_far _ _ _ _ (by simp)]); with_reducible assumption) | (simp; done) | (simp [World.setCell]; first | done | omega) | (simp [go_sem, World.cell?_alloc_past, World.cell?_setCell_far, *]; done))) ((first | (go_at_call 80; (with_reducible refine (fmUnits_any e f a hap _).mono ?_); rintro rv w1 ⟨rfl, hb⟩; have ns : w.heap.size < w1.heap.size := hb.lt (by first | with_reducible assumption | omega | (simp; done) | (simp; omega)); have n0 : w1.cell? ⟨w.heap.size, 0, none⟩ = some (.int .i64 e) := (hb.cells _ _ (by first | with_reducible assumption | omega | (simp; done) | (simp; omega))).trans (by first | with_reducible assumption | (simp; done) | (simp; with_reducible assumption) | (rw [cell_alloc_before _ _ _ _ (by omega)]; with_reducible assumption) | (simp [go_sem, *]; done)); have n1 : w1.cell? ⟨w.heap.size, 1, none⟩ = some (.int .i64 f) := (hb.cells _ _ (by first | with_reducible assumption | omega | (simp; done) | (simp; omega))).trans (by first | with_reducible assumption | (simp; done) | (simp; with_reducible assumption) | (rw [cell_alloc_before _ _ _ _ (by omega)]; with_reducible assumption) | (simp [go_sem, *]; done)); (first | (have nx := Ext.trans hx hb; clear hx) | (have nx := Ext.trans (hx.alloc _) hb; clear hx) | (have nx := Ext.trans hx.drew hb; clear hx) | have nx := hb); clear hb; try clear hs; try clear g0; try clear g1; have hx := nx; clear nx; have hs := ns; clear ns; have g0 := n0; clear n0; have g1 := n1; clear n1) | (go_at_call 80; (with_reducible refine (fmUnits_any e f b hbp _).mono ?_); rintro rv w1 ⟨rfl, hb⟩; have ns : w.heap.size < w1.heap.size := hb.lt (by first | with_reducible assumption | omega | (simp; done) | (simp; omega)); have n0 : w1.cell? ⟨w.heap.size, 0, none⟩ = some (.int .i64 e) := (hb.cells _ _ (by first | with_reducible assumption | omega | (simp; done) | (simp; omega))).trans (by first | with_reducible assumption | (simp; done) | (simp; with_reducible assumption) | (rw [cell_alloc_before _ _ _ _ (by omega)]; with_reducible assumption) | (simp [go_sem, *]; done)); have n1 : w1.cell? ⟨w.heap.size, 1, none⟩ = some (.int .i64 f) := (hb.cells _ _ (by first | with_reducible assumption | omega | (simp; done) | (simp; omega))).trans (by first | with_reducible assumption | (simp; done) | (simp; with_reducible assumption) | (rw [cell_alloc_before _ _ _ _ (by omega)]; with_reducible assumption) | (simp [go_sem, *]; done)); (first | (have nx := Ext.trans hx hb; clear hx) | (have nx := Ext.trans (hx.alloc _) hb; clear hx) | (have nx := Ext.trans hx.drew hb; clear hx) | have nx := hb); clear hb; try clear hs; try clear g0; try clear g1; have hx := nx; clear nx; have hs := ns; clear ns; have g0 := n0; clear n0; have g1 := n1; clear n1)))
          go_wp2_with fail
          try go_region
          try go_wp2_with fail
          all_goals go_ret2
          all_goals exact ⟨(by first | rfl | (simp; omega) | (simp [*]; done)), (by repeat (first | exact Ext.refl _ | with_reducible assumption | apply Ext.alloc | apply Ext.drew | apply Ext.drewN | (refine Ext.setRow ?_ (by first | (simp; done) | (simp; omega) | omega) _) | (refine Ext.setCell ?_ (by first | (simp; done) | (simp; omega) | omega) _) | (refine Ext.trans ?_ (by with_reducible assumption))))⟩
        · have := trivial
          have e1 : nnB (unitsV e f a) (unitsV e f b) = false := decide_eq_false (by omega)
          rw [e1]
          clear e1
          clear sm1 sm2 sm3 sm4 sm5 sm6
          go_enter Try.func31, Try.ntmps31
          go_wp2_with (go_at_call 57; refine (exBoth_any e f a b _).mono ?_; rintro rv w1 ⟨rfl, hb⟩; have ns : w.heap.size < w1.heap.size := hb.lt (by first | with_reducible assumption | omega | (simp; done) | (simp; omega)); have n0 : w1.cell? ⟨w.heap.size, 0, none⟩ = some (.int .i64 e) := (hb.cells _ _ (by first | with_reducible assumption | omega | (simp; done) | (simp; omega))).trans (by first | with_reducible assumption | (simp; done) | (simp; with_reducible assumption) | (rw [cell_alloc_before _ _ _ _ (by omega)]; with_reducible assumption) | (simp [go_sem, *]; done)); have n1 : w1.cell? ⟨w.heap.size, 1, none⟩ = some (.int .i64 f) := (hb.cells _ _ (by first | with_reducible assumption | omega | (simp; done) | (simp; omega))).trans (by first | with_reducible assumption | (simp; done) | (simp; with_reducible assumption) | (rw [cell_alloc_before _ _ _ _ (by omega)]; with_reducible assumption) | (simp [go_sem, *]; done)); (first | (have nx := Ext.trans hx hb; clear hx) | (have nx := Ext.trans (hx.alloc _) hb; clear hx) | (have nx := Ext.trans hx.drew hb; clear hx) | have nx := hb); clear hb; try clear hs; try clear g0; try clear g1; have hx := nx; clear nx; have hs := ns; clear ns; have g0 := n0; clear n0; have g1 := n1; clear n1)
          go_region_held3 (fun w' => w'.cell? ⟨w.heap.size, 0, none⟩ = some (.int .i64 e) ∧ w'.cell? ⟨w.heap.size, 1, none⟩ = some (.int .i64 f) ∧ w.heap.size < w'.heap.size) ((refine ⟨?_, ?_, ?_⟩ <;> first | with_reducible assumption | ((rw [cell_setRow_far _ _ _ _ _ (by omega)]); with_reducible assumption) | ((rw [setRow_size]); with_reducible assumption) | ((repeat rw [World.cell?_setCell_far _ _ _ _ (by simp)]); with_reducible assumption) | (simp; done) | (simp [World.setCell]; first | done | omega) | (simp [go_sem, World.cell?_alloc_past, World.cell?_setCell_far, *]; done))) ((first | (go_at_call 80; (with_reducible refine (fmUnits_any e f a hap _).mono ?_); rintro rv w1 ⟨rfl, hb⟩; have ns : w.heap.size < w1.heap.size := hb.lt (by first | with_reducible assumption | omega | (simp; done) | (simp; omega)); have n0 : w1.cell? ⟨w.heap.size, 0, none⟩ = some (.int .i64 e) := (hb.cells _ _ (by first | with_reducible assumption | omega | (simp; done) | (simp; omega))).trans (by first | with_reducible assumption | (simp; done) | (simp; with_reducible assumption) | (rw [cell_alloc_before _ _ _ _ (by omega)]; with_reducible assumption) | (simp [go_sem, *]; done)); have n1 : w1.cell? ⟨w.heap.size, 1, none⟩ = some (.int .i64 f) := (hb.cells _ _ (by first | with_reducible assumption | omega | (simp; done) | (simp; omega))).trans (by first | with_reducible assumption | (simp; done) | (simp; with_reducible assumption) | (rw [cell_alloc_before _ _ _ _ (by omega)]; with_reducible assumption) | (simp [go_sem, *]; done)); (first | (have nx := Ext.trans hx hb; clear hx) | (have nx := Ext.trans (hx.alloc _) hb; clear hx) | (have nx := Ext.trans hx.drew hb; clear hx) | have nx := hb); clear hb; try clear hs; try clear g0; try clear g1; have hx := nx; clear nx; have hs := ns; clear ns; have g0 := n0; clear n0; have g1 := n1; clear n1) | (go_at_call 80; (with_reducible refine (fmUnits_any e f b hbp _).mono ?_); rintro rv w1 ⟨rfl, hb⟩; have ns : w.heap.size < w1.heap.size := hb.lt (by first | with_reducible assumption | omega | (simp; done) | (simp; omega)); have n0 : w1.cell? ⟨w.heap.size, 0, none⟩ = some (.int .i64 e) := (hb.cells _ _ (by first | with_reducible assumption | omega | (simp; done) | (simp; omega))).trans (by first | with_reducible assumption | (simp; done) | (simp; with_reducible assumption) | (rw [cell_alloc_before _ _ _ _ (by omega)]; with_reducible assumption) | (simp [go_sem, *]; done)); have n1 : w1.cell? ⟨w.heap.size, 1, none⟩ = some (.int .i64 f) := (hb.cells _ _ (by first | with_reducible assumption | omega | (simp; done) | (simp; omega))).trans (by first | with_reducible assumption | (simp; done) | (simp; with_reducible assumption) | (rw [cell_alloc_before _ _ _ _ (by omega)]; with_reducible assumption) | (simp [go_sem, *]; done)); (first | (have nx := Ext.trans hx hb; clear hx) | (have nx := Ext.trans (hx.alloc _) hb; clear hx) | (have nx := Ext.trans hx.drew hb; clear hx) | have nx := hb); clear hb; try clear hs; try clear g0; try clear g1; have hx := nx; clear nx; have hs := ns; clear ns; have g0 := n0; clear n0; have g1 := n1; clear n1)))
          go_wp2_with fail
          try go_region
          try go_wp2_with fail
          all_goals go_ret2
          all_goals exact ⟨(by first | rfl | (simp; omega) | (simp [*]; done)), (by repeat (first | exact Ext.refl _ | with_reducible assumption | apply Ext.alloc | apply Ext.drew | apply Ext.drewN | (refine Ext.setRow ?_ (by first | (simp; done) | (simp; omega) | omega) _) | (refine Ext.setCell ?_ (by first | (simp; done) | (simp; omega) | omega) _) | (refine Ext.trans ?_ (by with_reducible assumption))))⟩
      · have := trivial
        have e1 : nnB (unitsV e f a) (unitsV e f b) = false := decide_eq_false (by omega)
        rw [e1]
        clear e1
        clear sm1 sm2 sm3 sm4 sm5 sm6
        go_enter Try.func31, Try.ntmps31
        go_wp2_with (go_at_call 57; refine (exBoth_any e f a b _).mono ?_; rintro rv w1 ⟨rfl, hb⟩; have ns : w.heap.size < w1.heap.size := hb.lt (by first | with_reducible assumption | omega | (simp; done) | (simp; omega)); have n0 : w1.cell? ⟨w.heap.size, 0, none⟩ = some (.int .i64 e) := (hb.cells _ _ (by first | with_reducible assumption | omega | (simp; done) | (simp; omega))).trans (by first | with_reducible assumption | (simp; done) | (simp; with_reducible assumption) | (rw [cell_alloc_before _ _ _ _ (by omega)]; with_reducible assumption) | (simp [go_sem, *]; done)); have n1 : w1.cell? ⟨w.heap.size, 1, none⟩ = some (.int .i64 f) := (hb.cells _ _ (by first | with_reducible assumption | omega | (simp; done) | (simp; omega))).trans (by first | with_reducible assumption | (simp; done) | (simp; with_reducible assumption) | (rw [cell_alloc_before _ _ _ _ (by omega)]; with_reducible assumption) | (simp [go_sem, *]; done)); (first | (have nx := Ext.trans hx hb; clear hx) | (have nx := Ext.trans (hx.alloc _) hb; clear hx) | (have nx := Ext.trans hx.drew hb; clear hx) | have nx := hb); clear hb; try clear hs; try clear g0; try clear g1; have hx := nx; clear nx; have hs := ns; clear ns; have g0 := n0; clear n0; have g1 := n1; clear n1)
        go_region_held3 (fun w' => w'.cell? ⟨w.heap.size, 0, none⟩ = some (.int .i64 e) ∧ w'.cell? ⟨w.heap.size, 1, none⟩ = some (.int .i64 f) ∧ w.heap.size < w'.heap.size) ((refine ⟨?_, ?_, ?_⟩ <;> first | with_reducible assumption | ((rw [cell_setRow_far _ _ _ _ _ (by omega)]); with_reducible assumption) | ((rw [setRow_size]); with_reducible assumption) | ((repeat rw [World.cell?_setCell_far _ _ _ _ (by simp)]); with_reducible assumption) | (simp; done) | (simp [World.setCell]; first | done | omega) | (simp [go_sem, World.cell?_alloc_past, World.cell?_setCell_far, *]; done))) ((first | (go_at_call 80; (with_reducible refine (fmUnits_any e f a hap _).mono ?_); rintro rv w1 ⟨rfl, hb⟩; have ns : w.heap.size < w1.heap.size := hb.lt (by first | with_reducible assumption | omega | (simp; done) | (simp; omega)); have n0 : w1.cell? ⟨w.heap.size, 0, none⟩ = some (.int .i64 e) := (hb.cells _ _ (by first | with_reducible assumption | omega | (simp; done) | (simp; omega))).trans (by first | with_reducible assumption | (simp; done) | (simp; with_reducible assumption) | (rw [cell_alloc_before _ _ _ _ (by omega)]; with_reducible assumption) | (simp [go_sem, *]; done)); have n1 : w1.cell? ⟨w.heap.size, 1, none⟩ = some (.int .i64 f) := (hb.cells _ _ (by first | with_reducible assumption | omega | (simp; done) | (simp; omega))).trans (by first | with_reducible assumption | (simp; done) | (simp; with_reducible assumption) | (rw [cell_alloc_before _ _ _ _ (by omega)]; with_reducible assumption) | (simp [go_sem, *]; done)); (first | (have nx := Ext.trans hx hb; clear hx) | (have nx := Ext.trans (hx.alloc _) hb; clear hx) | (have nx := Ext.trans hx.drew hb; clear hx) | have nx := hb); clear hb; try clear hs; try clear g0; try clear g1; have hx := nx; clear nx; have hs := ns; clear ns; have g0 := n0; clear n0; have g1 := n1; clear n1) | (go_at_call 80; (with_reducible refine (fmUnits_any e f b hbp _).mono ?_); rintro rv w1 ⟨rfl, hb⟩; have ns : w.heap.size < w1.heap.size := hb.lt (by first | with_reducible assumption | omega | (simp; done) | (simp; omega)); have n0 : w1.cell? ⟨w.heap.size, 0, none⟩ = some (.int .i64 e) := (hb.cells _ _ (by first | with_reducible assumption | omega | (simp; done) | (simp; omega))).trans (by first | with_reducible assumption | (simp; done) | (simp; with_reducible assumption) | (rw [cell_alloc_before _ _ _ _ (by omega)]; with_reducible assumption) | (simp [go_sem, *]; done)); have n1 : w1.cell? ⟨w.heap.size, 1, none⟩ = some (.int .i64 f) := (hb.cells _ _ (by first | with_reducible assumption | omega | (simp; done) | (simp; omega))).trans (by first | with_reducible assumption | (simp; done) | (simp; with_reducible assumption) | (rw [cell_alloc_before _ _ _ _ (by omega)]; with_reducible assumption) | (simp [go_sem, *]; done)); (first | (have nx := Ext.trans hx hb; clear hx) | (have nx := Ext.trans (hx.alloc _) hb; clear hx) | (have nx := Ext.trans hx.drew hb; clear hx) | have nx := hb); clear hb; try clear hs; try clear g0; try clear g1; have hx := nx; clear nx; have hs := ns; clear ns; have g0 := n0; clear n0; have g1 := n1; clear n1)))
        go_wp2_with fail
        try go_region
        try go_wp2_with fail
        all_goals go_ret2
        all_goals exact ⟨(by first | rfl | (simp; omega) | (simp [*]; done)), (by repeat (first | exact Ext.refl _ | with_reducible assumption | apply Ext.alloc | apply Ext.drew | apply Ext.drewN | (refine Ext.setRow ?_ (by first | (simp; done) | (simp; omega) | omega) _) | (refine Ext.setCell ?_ (by first | (simp; done) | (simp; omega) | omega) _) | (refine Ext.trans ?_ (by with_reducible assumption))))⟩
    · have := trivial
      have e1 : nnB (unitsV e f a) (unitsV e f b) = false := decide_eq_false (by omega)
      rw [e1]
      clear e1
      clear sm1 sm2 sm3 sm4 sm5 sm6
      go_enter Try.func31, Try.ntmps31
      go_wp2_with (go_at_call 57; refine (exBoth_any e f a b _).mono ?_; rintro rv w1 ⟨rfl, hb⟩; have ns : w.heap.size < w1.heap.size := hb.lt (by first | with_reducible assumption | omega | (simp; done) | (simp; omega)); have n0 : w1.cell? ⟨w.heap.size, 0, none⟩ = some (.int .i64 e) := (hb.cells _ _ (by first | with_reducible assumption | omega | (simp; done) | (simp; omega))).trans (by first | with_reducible assumption | (simp; done) | (simp; with_reducible assumption) | (rw [cell_alloc_before _ _ _ _ (by omega)]; with_reducible assumption) | (simp [go_sem, *]; done)); have n1 : w1.cell? ⟨w.heap.size, 1, none⟩ = some (.int .i64 f) := (hb.cells _ _ (by first | with_reducible assumption | omega | (simp; done) | (simp; omega))).trans (by first | with_reducible assumption | (simp; done) | (simp; with_reducible assumption) | (rw [cell_alloc_before _ _ _ _ (by omega)]; with_reducible assumption) | (simp [go_sem, *]; done)); (first | (have nx := Ext.trans hx hb; clear hx) | (have nx := Ext.trans (hx.alloc _) hb; clear hx) | (have nx := Ext.trans hx.drew hb; clear hx) | have nx := hb); clear hb; try clear hs; try clear g0; try clear g1; have hx := nx; clear nx; have hs := ns; clear ns; have g0 := n0; clear n0; have g1 := n1; clear n1)
      go_region_held3 (fun w' => w'.cell? ⟨w.heap.size, 0, none⟩ = some (.int .i64 e) ∧ w'.cell? ⟨w.heap.size, 1, none⟩ = some (.int .i64 f) ∧ w.heap.size < w'.heap.size) ((refine ⟨?_, ?_, ?_⟩ <;> first | with_reducible assumption | ((rw [cell_setRow_far _ _ _ _ _ (by omega)]); with_reducible assumption) | ((rw [setRow_size]); with_reducible assumption) | ((repeat rw [World.cell?_setCell_far _ _ _ _ (by simp)]); with_reducible assumption) | (simp; done) | (simp [World.setCell]; first | done | omega) | (simp [go_sem, World.cell?_alloc_past, World.cell?_setCell_far, *]; done))) ((first | (go_at_call 80; (with_reducible refine (fmUnits_any e f a hap _).mono ?_); rintro rv w1 ⟨rfl, hb⟩; have ns : w.heap.size < w1.heap.size := hb.lt (by first | with_reducible assumption | omega | (simp; done) | (simp; omega)); have n0 : w1.cell? ⟨w.heap.size, 0, none⟩ = some (.int .i64 e) := (hb.cells _ _ (by first | with_reducible assumption | omega | (simp; done) | (simp; omega))).trans (by first | with_reducible assumption | (simp; done) | (simp; with_reducible assumption) | (rw [cell_alloc_before _ _ _ _ (by omega)]; with_reducible assumption) | (simp [go_sem, *]; done)); have n1 : w1.cell? ⟨w.heap.size, 1, none⟩ = some (.int .i64 f) := (hb.cells _ _ (by first | with_reducible assumption | omega | (simp; done) | (simp; omega))).trans (by first | with_reducible assumption | (simp; done) | (simp; with_reducible assumption) | (rw [cell_alloc_before _ _ _ _ (by omega)]; with_reducible assumption) | (simp [go_sem, *]; done)); (first | (have nx := Ext.trans hx hb; clear hx) | (have nx := Ext.trans (hx.alloc _) hb; clear hx) | (have nx := Ext.trans hx.drew hb; clear hx) | have nx := hb); clear hb; try clear hs; try clear g0; try clear g1; have hx := nx; clear nx; have hs := ns; clear ns; have g0 := n0; clear n0; have g1 := n1; clear n1) | (go_at_call 80; (with_reducible refine (fmUnits_any e f b hbp _).mono ?_); rintro rv w1 ⟨rfl, hb⟩; have ns : w.heap.size < w1.heap.size := hb.lt (by first | with_reducible assumption | omega | (simp; done) | (simp; omega)); have n0 : w1.cell? ⟨w.heap.size, 0, none⟩ = some (.int .i64 e) := (hb.cells _ _ (by first | with_reducible assumption | omega | (simp; done) | (simp; omega))).trans (by first | with_reducible assumption | (simp; done) | (simp; with_reducible assumption) | (rw [cell_alloc_before _ _ _ _ (by omega)]; with_reducible assumption) | (simp [go_sem, *]; done)); have n1 : w1.cell? ⟨w.heap.size, 1, none⟩ = some (.int .i64 f) := (hb.cells _ _ (by first | with_reducible assumption | omega | (simp; done) | (simp; omega))).trans (by first | with_reducible assumption | (simp; done) | (simp; with_reducible assumption) | (rw [cell_alloc_before _ _ _ _ (by omega)]; with_reducible assumption) | (simp [go_sem, *]; done)); (first | (have nx := Ext.trans hx hb; clear hx) | (have nx := Ext.trans (hx.alloc _) hb; clear hx) | (have nx := Ext.trans hx.drew hb; clear hx) | have nx := hb); clear hb; try clear hs; try clear g0; try clear g1; have hx := nx; clear nx; have hs := ns; clear ns; have g0 := n0; clear n0; have g1 := n1; clear n1)))
      go_wp2_with fail
      try go_region
      try go_wp2_with fail
      all_goals go_ret2
      all_goals exact ⟨(by first | rfl | (simp; omega) | (simp [*]; done)), (by repeat (first | exact Ext.refl _ | with_reducible assumption | apply Ext.alloc | apply Ext.drew | apply Ext.drewN | (refine Ext.setRow ?_ (by first | (simp; done) | (simp; omega) | omega) _) | (refine Ext.setCell ?_ (by first | (simp; done) | (simp; omega) | omega) _) | (refine Ext.trans ?_ (by with_reducible assumption))))⟩
  · have := trivial
    have e1 : nnB (unitsV e f a) (unitsV e f b) = false := decide_eq_false (by omega)
    rw [e1]
    clear e1
    clear sm1 sm2 sm3 sm4 sm5 sm6
    go_enter Try.func31, Try.ntmps31
    go_wp2_with (go_at_call 57; refine (exBoth_any e f a b _).mono ?_; rintro rv w1 ⟨rfl, hb⟩; have ns : w.heap.size < w1.heap.size := hb.lt (by first | with_reducible assumption | omega | (simp; done) | (simp; omega)); have n0 : w1.cell? ⟨w.heap.size, 0, none⟩ = some (.int .i64 e) := (hb.cells _ _ (by first | with_reducible assumption | omega | (simp; done) | (simp; omega))).trans (by first | with_reducible assumption | (simp; done) | (simp; with_reducible assumption) | (rw [cell_alloc_before _ _ _ _ (by omega)]; with_reducible assumption) | (simp [go_sem, *]; done)); have n1 : w1.cell? ⟨w.heap.size, 1, none⟩ = some (.int .i64 f) := (hb.cells _ _ (by first | with_reducible assumption | omega | (simp; done) | (simp; omega))).trans (by first | with_reducible assumption | (simp; done) | (simp; with_reducible assumption) | (rw [cell_alloc_before _ _ _ _ (by omega)]; with_reducible assumption) | (simp [go_sem, *]; done)); (first | (have nx := Ext.trans hx hb; clear hx) | (have nx := Ext.trans (hx.alloc _) hb; clear hx) | (have nx := Ext.trans hx.drew hb; clear hx) | have nx := hb); clear hb; try clear hs; try clear g0; try clear g1; have hx := nx; clear nx; have hs := ns; clear ns; have g0 := n0; clear n0; have g1 := n1; clear n1)
    go_region_held3 (fun w' => w'.cell? ⟨w.heap.size, 0, none⟩ = some (.int .i64 e) ∧ w'.cell? ⟨w.heap.size, 1, none⟩ = some (.int .i64 f) ∧ w.heap.size < w'.heap.size) ((refine ⟨?_, ?_, ?_⟩ <;> first | with_reducible assumption | ((rw [cell_setRow_far _ _ _ _ _ (by omega)]); with_reducible assumption) | ((rw [setRow_size]); with_reducible assumption) | ((repeat rw [World.cell?_setCell_far _ _ _ _ (by simp)]); with_reducible assumption) | (simp; done) | (simp [World.setCell]; first | done | omega) | (simp [go_sem, World.cell?_alloc_past, World.cell?_setCell_far, *]; done))) ((first | (go_at_call 80; (with_reducible refine (fmUnits_any e f a hap _).mono ?_); rintro rv w1 ⟨rfl, hb⟩; have ns : w.heap.size < w1.heap.size := hb.lt (by first | with_reducible assumption | omega | (simp; done) | (simp; omega)); have n0 : w1.cell? ⟨w.heap.size, 0, none⟩ = some (.int .i64 e) := (hb.cells _ _ (by first | with_reducible assumption | omega | (simp; done) | (simp; omega))).trans (by first | with_reducible assumption | (simp; done) | (simp; with_reducible assumption) | (rw [cell_alloc_before _ _ _ _ (by omega)]; with_reducible assumption) | (simp [go_sem, *]; done)); have n1 : w1.cell? ⟨w.heap.size, 1, none⟩ = some (.int .i64 f) := (hb.cells _ _ (by first | with_reducible assumption | omega | (simp; done) | (simp; omega))).trans (by first | with_reducible assumption | (simp; done) | (simp; with_reducible assumption) | (rw [cell_alloc_before _ _ _ _ (by omega)]; with_reducible assumption) | (simp [go_sem, *]; done)); (first | (have nx := Ext.trans hx hb; clear hx) | (have nx := Ext.trans (hx.alloc _) hb; clear hx) | (have nx := Ext.trans hx.drew hb; clear hx) | have nx := hb); clear hb; try clear hs; try clear g0; try clear g1; have hx := nx; clear nx; have hs := ns; clear ns; have g0 := n0; clear n0; have g1 := n1; clear n1) | (go_at_call 80; (with_reducible refine (fmUnits_any e f b hbp _).mono ?_); rintro rv w1 ⟨rfl, hb⟩; have ns : w.heap.size < w1.heap.size := hb.lt (by first | with_reducible assumption | omega | (simp; done) | (simp; omega)); have n0 : w1.cell? ⟨w.heap.size, 0, none⟩ = some (.int .i64 e) := (hb.cells _ _ (by first | with_reducible assumption | omega | (simp; done) | (simp; omega))).trans (by first | with_reducible assumption | (simp; done) | (simp; with_reducible assumption) | (rw [cell_alloc_before _ _ _ _ (by omega)]; with_reducible assumption) | (simp [go_sem, *]; done)); have n1 : w1.cell? ⟨w.heap.size, 1, none⟩ = some (.int .i64 f) := (hb.cells _ _ (by first | with_reducible assumption | omega | (simp; done) | (simp; omega))).trans (by first | with_reducible assumption | (simp; done) | (simp; with_reducible assumption) | (rw [cell_alloc_before _ _ _ _ (by omega)]; with_reducible assumption) | (simp [go_sem, *]; done)); (first | (have nx := Ext.trans hx hb; clear hx) | (have nx := Ext.trans (hx.alloc _) hb; clear hx) | (have nx := Ext.trans hx.drew hb; clear hx) | have nx := hb); clear hb; try clear hs; try clear g0; try clear g1; have hx := nx; clear nx; have hs := ns; clear ns; have g0 := n0; clear n0; have g1 := n1; clear n1)))
    go_wp2_with fail
    try go_region
    try go_wp2_with fail
    all_goals go_ret2
    all_goals exact ⟨(by first | rfl | (simp; omega) | (simp [*]; done)), (by repeat (first | exact Ext.refl _ | with_reducible assumption | apply Ext.alloc | apply Ext.drew | apply Ext.drewN | (refine Ext.setRow ?_ (by first | (simp; done) | (simp; omega) | omega) _) | (refine Ext.setCell ?_ (by first | (simp; done) | (simp; omega) | omega) _) | (refine Ext.trans ?_ (by with_reducible assumption))))⟩

theorem iIsNear_no (e f a b : Int) (hg : (finB e f a && finB e f b) = false) (w : World) : Calls Try.prog 32 #[fmt e f, .int .i64 a, .int .i64 b] w fun rv w' => rv = .returned (.tuple #[.bool false, .bool false]) ∧ Ext w w' := by
  go_enter Try.func32, Try.ntmps32
  go_wp2_with (go_at_call 59; (with_reducible refine (valuesOf2_no e f a b (w.heap.size + 1) hg _ (by first | with_reducible assumption | (simp; done) | (simp [go_sem]; done) | (simp [go_sem, *]; done)) (by first | with_reducible assumption | (simp; done) | (simp [go_sem]; done) | (simp [go_sem, *]; done)) (by simp; try omega)).mono ?_); rintro rv w1 ⟨rfl, hb⟩; have hx : Ext w w1 := Ext.trans (by repeat (first | exact Ext.refl _ | with_reducible assumption | apply Ext.alloc | apply Ext.drew | apply Ext.drewN | (refine Ext.setRow ?_ (by first | (simp; done) | (simp; omega) | omega) _) | (refine Ext.setCell ?_ (by first | (simp; done) | (simp; omega) | omega) _) | (refine Ext.trans ?_ (by with_reducible assumption)))) hb; clear hb)
  go_ret2
  exact ⟨rfl, hx⟩

set_option maxHeartbeats 4000000 in
theorem isNearG (e f a b : Int) (r : Bool) (x0 x1 l m l2 : Nat) (ha : finB e f a = true) (hb2 : finB e f b = true) (q0 : floatOfInt .f32 (unitsV e f a) = x0) (q1 : floatOfInt .f32 (unitsV e f b) = x1)
    (mn : ∀ (ts : Array TypeId) (t : TypeId) (w : World), (Builtin.min_ ts t #[.float .f32 x0, .float .f32 x1]).run Try.prog w = .ok (.float .f32 l) w) (mx : ∀ (ts : Array TypeId) (t : TypeId) (w : World), (Builtin.max_ ts t #[.float .f32 x0, .float .f32 x1]).run Try.prog w = .ok (.float .f32 m) w)
    (H : (FloatKind.f32.format.order l 0 = some .gt ∧ floatBits .mul .f32 1073741824 l = some l2 ∧ ((FloatKind.f32.format.order m l2 = some .gt ∧ r = false) ∨ (FloatKind.f32.format.order m l2 = some .eq ∧ r = true) ∨ (FloatKind.f32.format.order m l2 = some .lt ∧ r = true))) ∨ (FloatKind.f32.format.order l 0 = some .eq ∧ r = false) ∨ (FloatKind.f32.format.order l 0 = some .lt ∧ r = false)) (w : World) : Calls Try.prog 32 #[fmt e f, .int .i64 a, .int .i64 b] w fun rv w' => rv = .returned (.tuple #[.bool r, .bool true]) ∧ Ext w w' := by
  have U0 := Lib.hid q0
  have U1 := Lib.hid q1
  clear q0 q1
  rcases H with ⟨o, h2, ⟨o2, rfl⟩ | ⟨o2, rfl⟩ | ⟨o2, rfl⟩⟩ | ⟨o, rfl⟩ | ⟨o, rfl⟩
  · have := trivial
    have A1 : ∀ (t : TypeId) (w : World), (binOp .mul t (.float .f32 1073741824) (.float .f32 l)).run Try.prog w = .ok (.float .f32 l2) w := fun t w => run_float_arith w .mul t .f32 _ _ _ h2
    clear h2
    go_enter Try.func32, Try.ntmps32
    go_wp2_with (go_at_call 59; (with_reducible refine (valuesOf2 e f a b (w.heap.size + 1) ha hb2 _ (by first | with_reducible assumption | (simp; done) | (simp [go_sem]; done) | (simp [go_sem, *]; done)) (by first | with_reducible assumption | (simp; done) | (simp [go_sem]; done) | (simp [go_sem, *]; done)) (by simp; try omega)).mono ?_); rintro rv w1 ⟨gl, cap, rfl, q1, q2, c0, c1, hb⟩; rw [U0.out] at c0; rw [U1.out] at c1; have c0 := c0; have c1 := c1; have ns : w.heap.size < w1.heap.size := hb.lt (by first | (simp; done) | (simp; omega)); have g0 : w1.cell? ⟨w.heap.size, 0, none⟩ = some (.int .i64 e) := (hb.cells _ _ (by first | (simp; done) | (simp; omega))).trans (by first | (simp; done) | (simp [go_sem, *]; done)); have g1 : w1.cell? ⟨w.heap.size, 1, none⟩ = some (.int .i64 f) := (hb.cells _ _ (by first | (simp; done) | (simp; omega))).trans (by first | (simp; done) | (simp [go_sem, *]; done)); have hx : Ext w w1 := Ext.trans (by repeat (first | exact Ext.refl _ | with_reducible assumption | apply Ext.alloc | apply Ext.drew | apply Ext.drewN | (refine Ext.setRow ?_ (by first | (simp; done) | (simp; omega) | omega) _) | (refine Ext.setCell ?_ (by first | (simp; done) | (simp; omega) | omega) _) | (refine Ext.trans ?_ (by with_reducible assumption)))) hb; clear hb)
    have hs : max w.heap.size gl < w1.heap.size := by omega
    go_region_held3 (fun w' => w'.cell? ⟨w.heap.size, 0, none⟩ = some (.int .i64 e) ∧ w'.cell? ⟨w.heap.size, 1, none⟩ = some (.int .i64 f) ∧ w'.cell? ⟨gl, 0, none⟩ = some (.float .f32 x0) ∧ w'.cell? ⟨gl, 1, none⟩ = some (.float .f32 x1) ∧ max w.heap.size gl < w'.heap.size) ((refine ⟨?_, ?_, ?_, ?_, ?_⟩ <;> first | with_reducible assumption | ((repeat first | rw [cell_set_far _ _ _ _ _ _ (by omega)] | rw [cell_alloc_before _ _ _ _ (by omega)] | rw [cell_alloc_drew _ _ _ _ (by omega)] | rw [cell_drew]); with_reducible assumption) | ((rw [cell_setRow_far _ _ _ _ _ (by omega)]); with_reducible assumption) | ((rw [setRow_size]); with_reducible assumption) | (simp; done) | (simp [World.setCell]; first | done | omega) | (simp [go_sem, World.cell?_alloc_past, World.cell?_setCell_far, *]; done))) (fail)
    all_goals (go_wp2_with fail)
    all_goals (try go_region)
    all_goals (try go_wp2_with fail)
    all_goals go_ret2
    all_goals exact ⟨(by first | rfl | (simp [*]; done)), (by repeat (first | exact Ext.refl _ | with_reducible assumption | apply Ext.alloc | apply Ext.drew | apply Ext.drewN | (refine Ext.setRow ?_ (by first | (simp; done) | (simp; omega) | omega) _) | (refine Ext.setCell ?_ (by first | (simp; done) | (simp; omega) | omega) _) | (refine Ext.trans ?_ (by with_reducible assumption))))⟩
  · have := trivial
    have A1 : ∀ (t : TypeId) (w : World), (binOp .mul t (.float .f32 1073741824) (.float .f32 l)).run Try.prog w = .ok (.float .f32 l2) w := fun t w => run_float_arith w .mul t .f32 _ _ _ h2
    clear h2
    go_enter Try.func32, Try.ntmps32
    go_wp2_with (go_at_call 59; (with_reducible refine (valuesOf2 e f a b (w.heap.size + 1) ha hb2 _ (by first | with_reducible assumption | (simp; done) | (simp [go_sem]; done) | (simp [go_sem, *]; done)) (by first | with_reducible assumption | (simp; done) | (simp [go_sem]; done) | (simp [go_sem, *]; done)) (by simp; try omega)).mono ?_); rintro rv w1 ⟨gl, cap, rfl, q1, q2, c0, c1, hb⟩; rw [U0.out] at c0; rw [U1.out] at c1; have c0 := c0; have c1 := c1; have ns : w.heap.size < w1.heap.size := hb.lt (by first | (simp; done) | (simp; omega)); have g0 : w1.cell? ⟨w.heap.size, 0, none⟩ = some (.int .i64 e) := (hb.cells _ _ (by first | (simp; done) | (simp; omega))).trans (by first | (simp; done) | (simp [go_sem, *]; done)); have g1 : w1.cell? ⟨w.heap.size, 1, none⟩ = some (.int .i64 f) := (hb.cells _ _ (by first | (simp; done) | (simp; omega))).trans (by first | (simp; done) | (simp [go_sem, *]; done)); have hx : Ext w w1 := Ext.trans (by repeat (first | exact Ext.refl _ | with_reducible assumption | apply Ext.alloc | apply Ext.drew | apply Ext.drewN | (refine Ext.setRow ?_ (by first | (simp; done) | (simp; omega) | omega) _) | (refine Ext.setCell ?_ (by first | (simp; done) | (simp; omega) | omega) _) | (refine Ext.trans ?_ (by with_reducible assumption)))) hb; clear hb)
    have hs : max w.heap.size gl < w1.heap.size := by omega
    go_region_held3 (fun w' => w'.cell? ⟨w.heap.size, 0, none⟩ = some (.int .i64 e) ∧ w'.cell? ⟨w.heap.size, 1, none⟩ = some (.int .i64 f) ∧ w'.cell? ⟨gl, 0, none⟩ = some (.float .f32 x0) ∧ w'.cell? ⟨gl, 1, none⟩ = some (.float .f32 x1) ∧ max w.heap.size gl < w'.heap.size) ((refine ⟨?_, ?_, ?_, ?_, ?_⟩ <;> first | with_reducible assumption | ((repeat first | rw [cell_set_far _ _ _ _ _ _ (by omega)] | rw [cell_alloc_before _ _ _ _ (by omega)] | rw [cell_alloc_drew _ _ _ _ (by omega)] | rw [cell_drew]); with_reducible assumption) | ((rw [cell_setRow_far _ _ _ _ _ (by omega)]); with_reducible assumption) | ((rw [setRow_size]); with_reducible assumption) | (simp; done) | (simp [World.setCell]; first | done | omega) | (simp [go_sem, World.cell?_alloc_past, World.cell?_setCell_far, *]; done))) (fail)
    all_goals (go_wp2_with fail)
    all_goals (try go_region)
    all_goals (try go_wp2_with fail)
    all_goals go_ret2
    all_goals exact ⟨(by first | rfl | (simp [*]; done)), (by repeat (first | exact Ext.refl _ | with_reducible assumption | apply Ext.alloc | apply Ext.drew | apply Ext.drewN | (refine Ext.setRow ?_ (by first | (simp; done) | (simp; omega) | omega) _) | (refine Ext.setCell ?_ (by first | (simp; done) | (simp; omega) | omega) _) | (refine Ext.trans ?_ (by with_reducible assumption))))⟩
  · have := trivial
    have A1 : ∀ (t : TypeId) (w : World), (binOp .mul t (.float .f32 1073741824) (.float .f32 l)).run Try.prog w = .ok (.float .f32 l2) w := fun t w => run_float_arith w .mul t .f32 _ _ _ h2
    clear h2
    go_enter Try.func32, Try.ntmps32
    go_wp2_with (go_at_call 59; (with_reducible refine (valuesOf2 e f a b (w.heap.size + 1) ha hb2 _ (by first | with_reducible assumption | (simp; done) | (simp [go_sem]; done) | (simp [go_sem, *]; done)) (by first | with_reducible assumption | (simp; done) | (simp [go_sem]; done) | (simp [go_sem, *]; done)) (by simp; try omega)).mono ?_); rintro rv w1 ⟨gl, cap, rfl, q1, q2, c0, c1, hb⟩; rw [U0.out] at c0; rw [U1.out] at c1; have c0 := c0; have c1 := c1; have ns : w.heap.size < w1.heap.size := hb.lt (by first | (simp; done) | (simp; omega)); have g0 : w1.cell? ⟨w.heap.size, 0, none⟩ = some (.int .i64 e) := (hb.cells _ _ (by first | (simp; done) | (simp; omega))).trans (by first | (simp; done) | (simp [go_sem, *]; done)); have g1 : w1.cell? ⟨w.heap.size, 1, none⟩ = some (.int .i64 f) := (hb.cells _ _ (by first | (simp; done) | (simp; omega))).trans (by first | (simp; done) | (simp [go_sem, *]; done)); have hx : Ext w w1 := Ext.trans (by repeat (first | exact Ext.refl _ | with_reducible assumption | apply Ext.alloc | apply Ext.drew | apply Ext.drewN | (refine Ext.setRow ?_ (by first | (simp; done) | (simp; omega) | omega) _) | (refine Ext.setCell ?_ (by first | (simp; done) | (simp; omega) | omega) _) | (refine Ext.trans ?_ (by with_reducible assumption)))) hb; clear hb)
    have hs : max w.heap.size gl < w1.heap.size := by omega
    go_region_held3 (fun w' => w'.cell? ⟨w.heap.size, 0, none⟩ = some (.int .i64 e) ∧ w'.cell? ⟨w.heap.size, 1, none⟩ = some (.int .i64 f) ∧ w'.cell? ⟨gl, 0, none⟩ = some (.float .f32 x0) ∧ w'.cell? ⟨gl, 1, none⟩ = some (.float .f32 x1) ∧ max w.heap.size gl < w'.heap.size) ((refine ⟨?_, ?_, ?_, ?_, ?_⟩ <;> first | with_reducible assumption | ((repeat first | rw [cell_set_far _ _ _ _ _ _ (by omega)] | rw [cell_alloc_before _ _ _ _ (by omega)] | rw [cell_alloc_drew _ _ _ _ (by omega)] | rw [cell_drew]); with_reducible assumption) | ((rw [cell_setRow_far _ _ _ _ _ (by omega)]); with_reducible assumption) | ((rw [setRow_size]); with_reducible assumption) | (simp; done) | (simp [World.setCell]; first | done | omega) | (simp [go_sem, World.cell?_alloc_past, World.cell?_setCell_far, *]; done))) (fail)
    all_goals (go_wp2_with fail)
    all_goals (try go_region)
    all_goals (try go_wp2_with fail)
    all_goals go_ret2
    all_goals exact ⟨(by first | rfl | (simp [*]; done)), (by repeat (first | exact Ext.refl _ | with_reducible assumption | apply Ext.alloc | apply Ext.drew | apply Ext.drewN | (refine Ext.setRow ?_ (by first | (simp; done) | (simp; omega) | omega) _) | (refine Ext.setCell ?_ (by first | (simp; done) | (simp; omega) | omega) _) | (refine Ext.trans ?_ (by with_reducible assumption))))⟩
  · have := trivial
    go_enter Try.func32, Try.ntmps32
    go_wp2_with (go_at_call 59; (with_reducible refine (valuesOf2 e f a b (w.heap.size + 1) ha hb2 _ (by first | with_reducible assumption | (simp; done) | (simp [go_sem]; done) | (simp [go_sem, *]; done)) (by first | with_reducible assumption | (simp; done) | (simp [go_sem]; done) | (simp [go_sem, *]; done)) (by simp; try omega)).mono ?_); rintro rv w1 ⟨gl, cap, rfl, q1, q2, c0, c1, hb⟩; rw [U0.out] at c0; rw [U1.out] at c1; have c0 := c0; have c1 := c1; have ns : w.heap.size < w1.heap.size := hb.lt (by first | (simp; done) | (simp; omega)); have g0 : w1.cell? ⟨w.heap.size, 0, none⟩ = some (.int .i64 e) := (hb.cells _ _ (by first | (simp; done) | (simp; omega))).trans (by first | (simp; done) | (simp [go_sem, *]; done)); have g1 : w1.cell? ⟨w.heap.size, 1, none⟩ = some (.int .i64 f) := (hb.cells _ _ (by first | (simp; done) | (simp; omega))).trans (by first | (simp; done) | (simp [go_sem, *]; done)); have hx : Ext w w1 := Ext.trans (by repeat (first | exact Ext.refl _ | with_reducible assumption | apply Ext.alloc | apply Ext.drew | apply Ext.drewN | (refine Ext.setRow ?_ (by first | (simp; done) | (simp; omega) | omega) _) | (refine Ext.setCell ?_ (by first | (simp; done) | (simp; omega) | omega) _) | (refine Ext.trans ?_ (by with_reducible assumption)))) hb; clear hb)
    have hs : max w.heap.size gl < w1.heap.size := by omega
    go_region_held3 (fun w' => w'.cell? ⟨w.heap.size, 0, none⟩ = some (.int .i64 e) ∧ w'.cell? ⟨w.heap.size, 1, none⟩ = some (.int .i64 f) ∧ w'.cell? ⟨gl, 0, none⟩ = some (.float .f32 x0) ∧ w'.cell? ⟨gl, 1, none⟩ = some (.float .f32 x1) ∧ max w.heap.size gl < w'.heap.size) ((refine ⟨?_, ?_, ?_, ?_, ?_⟩ <;> first | with_reducible assumption | ((repeat first | rw [cell_set_far _ _ _ _ _ _ (by omega)] | rw [cell_alloc_before _ _ _ _ (by omega)] | rw [cell_alloc_drew _ _ _ _ (by omega)] | rw [cell_drew]); with_reducible assumption) | ((rw [cell_setRow_far _ _ _ _ _ (by omega)]); with_reducible assumption) | ((rw [setRow_size]); with_reducible assumption) | (simp; done) | (simp [World.setCell]; first | done | omega) | (simp [go_sem, World.cell?_alloc_past, World.cell?_setCell_far, *]; done))) (fail)
    all_goals (go_wp2_with fail)
    all_goals (try go_region)
    all_goals (try go_wp2_with fail)
    all_goals go_ret2
    all_goals exact ⟨(by first | rfl | (simp [*]; done)), (by repeat (first | exact Ext.refl _ | with_reducible assumption | apply Ext.alloc | apply Ext.drew | apply Ext.drewN | (refine Ext.setRow ?_ (by first | (simp; done) | (simp; omega) | omega) _) | (refine Ext.setCell ?_ (by first | (simp; done) | (simp; omega) | omega) _) | (refine Ext.trans ?_ (by with_reducible assumption))))⟩
  · have := trivial
    go_enter Try.func32, Try.ntmps32
    go_wp2_with (go_at_call 59; (with_reducible refine (valuesOf2 e f a b (w.heap.size + 1) ha hb2 _ (by first | with_reducible assumption | (simp; done) | (simp [go_sem]; done) | (simp [go_sem, *]; done)) (by first | with_reducible assumption | (simp; done) | (simp [go_sem]; done) | (simp [go_sem, *]; done)) (by simp; try omega)).mono ?_); rintro rv w1 ⟨gl, cap, rfl, q1, q2, c0, c1, hb⟩; rw [U0.out] at c0; rw [U1.out] at c1; have c0 := c0; have c1 := c1; have ns : w.heap.size < w1.heap.size := hb.lt (by first | (simp; done) | (simp; omega)); have g0 : w1.cell? ⟨w.heap.size, 0, none⟩ = some (.int .i64 e) := (hb.cells _ _ (by first | (simp; done) | (simp; omega))).trans (by first | (simp; done) | (simp [go_sem, *]; done)); have g1 : w1.cell? ⟨w.heap.size, 1, none⟩ = some (.int .i64 f) := (hb.cells _ _ (by first | (simp; done) | (simp; omega))).trans (by first | (simp; done) | (simp [go_sem, *]; done)); have hx : Ext w w1 := Ext.trans (by repeat (first | exact Ext.refl _ | with_reducible assumption | apply Ext.alloc | apply Ext.drew | apply Ext.drewN | (refine Ext.setRow ?_ (by first | (simp; done) | (simp; omega) | omega) _) | (refine Ext.setCell ?_ (by first | (simp; done) | (simp; omega) | omega) _) | (refine Ext.trans ?_ (by with_reducible assumption)))) hb; clear hb)
    have hs : max w.heap.size gl < w1.heap.size := by omega
    go_region_held3 (fun w' => w'.cell? ⟨w.heap.size, 0, none⟩ = some (.int .i64 e) ∧ w'.cell? ⟨w.heap.size, 1, none⟩ = some (.int .i64 f) ∧ w'.cell? ⟨gl, 0, none⟩ = some (.float .f32 x0) ∧ w'.cell? ⟨gl, 1, none⟩ = some (.float .f32 x1) ∧ max w.heap.size gl < w'.heap.size) ((refine ⟨?_, ?_, ?_, ?_, ?_⟩ <;> first | with_reducible assumption | ((repeat first | rw [cell_set_far _ _ _ _ _ _ (by omega)] | rw [cell_alloc_before _ _ _ _ (by omega)] | rw [cell_alloc_drew _ _ _ _ (by omega)] | rw [cell_drew]); with_reducible assumption) | ((rw [cell_setRow_far _ _ _ _ _ (by omega)]); with_reducible assumption) | ((rw [setRow_size]); with_reducible assumption) | (simp; done) | (simp [World.setCell]; first | done | omega) | (simp [go_sem, World.cell?_alloc_past, World.cell?_setCell_far, *]; done))) (fail)
    all_goals (go_wp2_with fail)
    all_goals (try go_region)
    all_goals (try go_wp2_with fail)
    all_goals go_ret2
    all_goals exact ⟨(by first | rfl | (simp [*]; done)), (by repeat (first | exact Ext.refl _ | with_reducible assumption | apply Ext.alloc | apply Ext.drew | apply Ext.drewN | (refine Ext.setRow ?_ (by first | (simp; done) | (simp; omega) | omega) _) | (refine Ext.setCell ?_ (by first | (simp; done) | (simp; omega) | omega) _) | (refine Ext.trans ?_ (by with_reducible assumption))))⟩

theorem iIsNear_yes (e f a b : Int) (hg : (finB e f a && finB e f b) = true) (w : World) : Calls Try.prog 32 #[fmt e f, .int .i64 a, .int .i64 b] w fun rv w' => rv = .returned (.tuple #[.bool (nnB (unitsV e f a) (unitsV e f b)), .bool true]) ∧ Ext w w' := by
  obtain ⟨ha, hb2⟩ : finB e f a = true ∧ finB e f b = true := by simpa using hg
  obtain ⟨hgg, _⟩ := fin_size ha
  have hap := (fin_pat ha).1
  have hbp := (fin_pat hb2).1
  obtain ⟨sm1, sm2, sm3, sm4, sm5, sm6⟩ := ns_small ha hb2
  have oa := ok_units ha
  have ob := ok_units hb2
  have om : Ok Ieee.single ((min (unitsV e f a) (unitsV e f b)).natAbs * 2 ^ 149) := by
    rcases Int.le_total (unitsV e f a) (unitsV e f b) with h | h
    · rw [show min (unitsV e f a) (unitsV e f b) = (unitsV e f a) by omega]; exact oa
    · rw [show min (unitsV e f a) (unitsV e f b) = (unitsV e f b) by omega]; exact ob
  have oM : Ok Ieee.single ((max (unitsV e f a) (unitsV e f b)).natAbs * 2 ^ 149) := by
    rcases Int.le_total (unitsV e f a) (unitsV e f b) with h | h
    · rw [show max (unitsV e f a) (unitsV e f b) = (unitsV e f b) by omega]; exact ob
    · rw [show max (unitsV e f a) (unitsV e f b) = (unitsV e f a) by omega]; exact oa
  obtain ⟨z1, z2, z3⟩ := ords_cw om ok_zero
  rw [zero_cw] at z1 z2 z3
  refine isNearG e f a b _ _ _ _ _ (cw (2 * min (unitsV e f a) (unitsV e f b))) ha hb2 (int_cw _) (int_cw _) (fun ts t w => min_cw oa ob ts t w) (fun ts t w => max_cw oa ob ts t w) ?_ w
  rcases Int.lt_trichotomy (min (unitsV e f a) (unitsV e f b)) 0 with h | h | h
  · exact Or.inr (Or.inr ⟨z1 h, decide_eq_false (by omega)⟩)
  · exact Or.inr (Or.inl ⟨z2 h, decide_eq_false (by omega)⟩)
  · obtain ⟨y1, y2, y3⟩ := ords_cw oM (ok_twice om (by omega))
    refine Or.inl ⟨z3 h, two_cw h om, ?_⟩
    rcases Int.lt_trichotomy (max (unitsV e f a) (unitsV e f b)) (2 * min (unitsV e f a) (unitsV e f b)) with g | g | g
    · exact Or.inr (Or.inr ⟨y1 g, decide_eq_true (by omega)⟩)
    · exact Or.inr (Or.inl ⟨y2 g, decide_eq_true (by omega)⟩)
    · exact Or.inl ⟨y3 g, decide_eq_false (by omega)⟩
end Go.Proofs.Ytkgphdicnjkgbaa

