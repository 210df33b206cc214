/-
  Contracts of the functions that the laws reach, and the plain facts that they rest on, each under the conditions that its line names; part 13.
-/
import Derived.Test.YtfgbndjhaiigbabDoorKxh1
import Derived.Test.YtfgbndjhaiigbabDoorKxh2
import Derived.Test.YtfgbndjhaiigbabDoorKxh3
import Derived.Test.YtfgbndjhaiigbabDoorKxh4
import Derived.Test.YtfgbndjhaiigbabDoorKxh5
import Derived.Test.YtfgbndjhaiigbabDoorKxh6
import Derived.Test.YtfgbndjhaiigbabDoorKxh12
import Derived.Test.YtfgbndjhaiigbabDoorRows
import Derived.WalkKit
import Derived.LoopTactic
import Derived.Laws.Bits64b
import Derived.WalkSpells
import Derived.WalkLawsBesides
import Derived.StillTactics
import Derived.Laws.Pointers
import Derived.Deep.RegionHeld3
import Derived.Deep.QuietTactic
import Derived.BigQuiet
import Derived.Outline
import Derived.Lib.Hide
import Derived.RowKit3
import Derived.Carry
import Derived.IntWalk
namespace Go.Proofs.YtfgbndjhaiigbabDoor
open Go Go.RowKit
set_option linter.unusedSimpArgs false
set_option linter.unusedVariables false

theorem nf_bool (S l : Int) (b : Bool) (N E : Int) (hb : nfB S l = b) (hn : nfN S l = N) (he : nfE S l = E) : Ending.returned (.tuple #[two N E, .bool b]) = .returned (.tuple #[two (nfN S l) (nfE S l), .bool (nfB S l)]) := by rw [hb, hn, he]

theorem frz_ab (w : World) (A : Obj) (k o : Nat) (h : k < w.heap.size) : (w.alloc A).frozen? ⟨k, o, none⟩ = w.frozen? ⟨k, o, none⟩ := (Ext.new w A).frz k o h

theorem nf_cases (n d : Int) : (dyB (odV n) (shE n d) = false → nfB n d = false ∧ nfN n d = 0 ∧ nfE n d = 0) ∧ (dyB (odV n) (shE n d) = true → nfB n d = true ∧ nfN n d = odV n ∧ nfE n d = shE n d) := by
  by_cases h0 : n = 0
  · subst h0
    have q := nf_zero (S := 0) (l := d) rfl
    rw [od_zero, show shE 0 d = 0 from rfl]
    exact ⟨fun h => absurd h (by decide), fun _ => q⟩
  · rw [show shE n d = d + tzV n from if_neg h0]
    exact ⟨fun h => nf_no h0 h, fun h => nf_yes h0 h⟩

theorem withOdd_any (n d : Int) (h1 : -9223372036854775808 < n) (h2 : n < 9223372036854775808) (h3 : -1000000 ≤ d) (h4 : d ≤ 1000000) (w : World) (hT : TW w) : Calls Tryd.prog 102 #[.int .i64 n, .int .i64 d] w fun rv w' => rv = .returned (two (odV n) (shE n d)) ∧ Ext w w' := by
  by_cases h0 : n = 0
  · subst h0
    rw [od_zero, show shE 0 d = 0 from rfl]
    go_enter Tryd.func102, Tryd.ntmps102
    go_wp2
    exact bodyPost_ret (v := two 0 0) (by simp [results, Tryd.results102, go_sem, *]) rfl ⟨rfl, Ext.auK⟩
  · have kz : (n == 0) = false := by simpa using h0
    obtain ⟨t0, t1, t2, t3⟩ := tz_spec n h0 h1 h2
    have T2 := Lib.hid t2; clear t2
    have p1 := pw_of (tzV n)
    have p2 : n / pw (tzV n) = odV n := rfl
    have k3 : IntKind.i64.wrap (d + tzV n) = d + tzV n := IntWalk.i64_in _ (by omega)
    rw [show shE n d = d + tzV n from if_neg h0]
    go_enter Tryd.func102, Tryd.ntmps102
    go_wp2_with (go_at_call 140; refine (tz_any _ h0 h1 h2 _ (hT.ext Ext.auK)).mono ?_; rintro rv w1 ⟨rfl, rfl⟩)
    exact bodyPost_ret (v := two (odV n) (d + tzV n)) (by simp [results, Tryd.results102, go_sem, *]) rfl ⟨rfl, Ext.auK⟩

set_option maxHeartbeats 800000 in
theorem lowest_any (n d : Int) (h1 : -9223372036854775808 < n) (h2 : n < 9223372036854775808) (h3 : -1000000 ≤ d) (h4 : d ≤ 1000000) (w : World) (hT : TW w) : Calls Tryd.prog 51 #[.int .i64 n, .int .i64 d] w fun rv w' => rv = .returned (.tuple #[two (nfN n d) (nfE n d), .bool (nfB n d)]) ∧ Ext w w' := by
  have WA := Lib.hid (fun w hT => withOdd_any n d h1 h2 h3 h4 w hT)
  have ID := Lib.hid (fun w => iIsDyadic_any (odV n) (shE n d) w)
  obtain ⟨c1, c2⟩ := nf_cases n d
  cases hg : dyB (odV n) (shE n d)
  · obtain ⟨e1, e2, e3⟩ := c1 hg
    have H := Lib.hid (nf_bool n d _ _ _ e1 e2 e3); clear e1 e2 e3 c1 c2
    rw [hg] at ID
    generalize odV n = N at *
    generalize shE n d = E at *
    go_enter Tryd.func51, Tryd.ntmps51
    go_wp2_with (first | (go_at_call 102; refine (WA.out _ (hT.ext Ext.auK)).mono ?_; rintro rv w1 ⟨rfl, hb⟩; have ns : w.heap.size < w1.heap.size := hb.ltK; have n0 : w1.cell? ⟨w.heap.size, 0, none⟩ = some (.int .i64 0) := hb.cellK; have n1 : w1.cell? ⟨w.heap.size, 1, none⟩ = some (.int .i64 0) := hb.cellK; have nz0 : w1.frozen? ⟨w.heap.size, 0, none⟩ = false := hb.frzK; have nz1 : w1.frozen? ⟨w.heap.size, 1, none⟩ = false := hb.frzK; (first | (have nx := hx.trK hb; clear hx) | have nx := hb); clear hb; try clear hs; try clear g0; try clear g1; try clear z0; try clear z1; have hx := nx; clear nx; have hs := ns; clear ns; have g0 := n0; clear n0; have g1 := n1; clear n1; have z0 := nz0; clear nz0; have z1 := nz1; clear nz1) | (go_at_call 103; refine (ID.out _).mono ?_; rintro rv w2 ⟨rfl, hb⟩; have p0 : w2.cell? ⟨w1.heap.size, 0, none⟩ = some (.int .i64 N) := (hb.cells _ _ (by simp)).trans (by simp); have p1 : w2.cell? ⟨w1.heap.size, 1, none⟩ = some (.int .i64 E) := (hb.cells _ _ (by simp)).trans (by simp [go_sem]); have q0 : w2.cell? ⟨w.heap.size, 0, none⟩ = some (.int .i64 0) := (hb.cells _ _ (by simp; omega)).trans ((cell_alloc_before _ _ _ _ ns).trans n0); have q1 : w2.cell? ⟨w.heap.size, 1, none⟩ = some (.int .i64 0) := (hb.cells _ _ (by simp; omega)).trans ((cell_alloc_before _ _ _ _ ns).trans n1); have y0 : w2.frozen? ⟨w.heap.size, 0, none⟩ = false := (hb.frz _ _ (by simp; omega)).trans ((frz_ab _ _ _ _ ns).trans nz0); have y1 : w2.frozen? ⟨w.heap.size, 1, none⟩ = false := (hb.frz _ _ (by simp; omega)).trans ((frz_ab _ _ _ _ ns).trans nz1); have hx2 : Ext w w2 := Ext.trans Ext.auK hb; clear hb n0 n1 nz0 nz1))
    exact bodyPost_ret (v := .tuple #[two (0) (0), .bool false]) (by simp [results, Tryd.results51, go_sem, *]) rfl ⟨H.out, Ext.auK⟩
  · obtain ⟨e1, e2, e3⟩ := c2 hg
    have H := Lib.hid (nf_bool n d _ _ _ e1 e2 e3); clear e1 e2 e3 c1 c2
    rw [hg] at ID
    generalize odV n = N at *
    generalize shE n d = E at *
    go_enter Tryd.func51, Tryd.ntmps51
    go_wp2_with (first | (go_at_call 102; refine (WA.out _ (hT.ext Ext.auK)).mono ?_; rintro rv w1 ⟨rfl, hb⟩; have ns : w.heap.size < w1.heap.size := hb.ltK; have n0 : w1.cell? ⟨w.heap.size, 0, none⟩ = some (.int .i64 0) := hb.cellK; have n1 : w1.cell? ⟨w.heap.size, 1, none⟩ = some (.int .i64 0) := hb.cellK; have nz0 : w1.frozen? ⟨w.heap.size, 0, none⟩ = false := hb.frzK; have nz1 : w1.frozen? ⟨w.heap.size, 1, none⟩ = false := hb.frzK; (first | (have nx := hx.trK hb; clear hx) | have nx := hb); clear hb; try clear hs; try clear g0; try clear g1; try clear z0; try clear z1; have hx := nx; clear nx; have hs := ns; clear ns; have g0 := n0; clear n0; have g1 := n1; clear n1; have z0 := nz0; clear nz0; have z1 := nz1; clear nz1) | (go_at_call 103; refine (ID.out _).mono ?_; rintro rv w2 ⟨rfl, hb⟩; have p0 : w2.cell? ⟨w1.heap.size, 0, none⟩ = some (.int .i64 N) := (hb.cells _ _ (by simp)).trans (by simp); have p1 : w2.cell? ⟨w1.heap.size, 1, none⟩ = some (.int .i64 E) := (hb.cells _ _ (by simp)).trans (by simp [go_sem]); have q0 : w2.cell? ⟨w.heap.size, 0, none⟩ = some (.int .i64 0) := (hb.cells _ _ (by simp; omega)).trans ((cell_alloc_before _ _ _ _ ns).trans n0); have q1 : w2.cell? ⟨w.heap.size, 1, none⟩ = some (.int .i64 0) := (hb.cells _ _ (by simp; omega)).trans ((cell_alloc_before _ _ _ _ ns).trans n1); have y0 : w2.frozen? ⟨w.heap.size, 0, none⟩ = false := (hb.frz _ _ (by simp; omega)).trans ((frz_ab _ _ _ _ ns).trans nz0); have y1 : w2.frozen? ⟨w.heap.size, 1, none⟩ = false := (hb.frz _ _ (by simp; omega)).trans ((frz_ab _ _ _ _ ns).trans nz1); have hx2 : Ext w w2 := Ext.trans Ext.auK hb; clear hb n0 n1 nz0 nz1))
    exact bodyPost_ret (v := .tuple #[two (N) (E), .bool true]) (by simp [results, Tryd.results51, go_sem, *]) rfl ⟨H.out, Ext.auK⟩
end Go.Proofs.YtfgbndjhaiigbabDoor

namespace Go.Proofs.YtfgbndjhaiigbabDoor
open Go

theorem od_scale {x j : Int} (hj : 0 ≤ j) (h0 : x ≠ 0) (h1 : -9223372036854775808 < x * pw j) (h2 : x * pw j < 9223372036854775808) : odV (x * pw j) = odV x ∧ tzV (x * pw j) = tzV x + j := by
  have hp := pw_pos j
  have hx1 : -9223372036854775808 < x ∧ x < 9223372036854775808 := by
    have e : ((x * pw j).natAbs : Int) = x.natAbs * (pw j).natAbs := by rw [Int.natAbs_mul, Int.natCast_mul]
    have := Int.mul_le_mul_of_nonneg_left (show 1 ≤ ((pw j).natAbs : Int) by omega) (show 0 ≤ (x.natAbs : Int) by omega)
    omega
  obtain ⟨t0, t1, t2, t3⟩ := tz_spec x h0 hx1.1 hx1.2
  have e : x * pw j = odV x * pw (tzV x + j) := by
    rw [pw_add _ _ t0 hj, ← Int.mul_assoc, ← t2]
  have := tz_of (x * pw j) (odV x) (tzV x + j) (by omega) t3 e h1 h2
  exact ⟨this.2, this.1⟩
end Go.Proofs.YtfgbndjhaiigbabDoor

