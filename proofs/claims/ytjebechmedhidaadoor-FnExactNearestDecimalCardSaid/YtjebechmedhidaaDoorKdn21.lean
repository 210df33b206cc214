/-
  Contracts of the functions that the laws reach, and the plain facts that they rest on, each under the conditions that its line names; part 21.
-/
import Derived.Test.YtjebechmedhidaaDoorKdn1
import Derived.Test.YtjebechmedhidaaDoorKdn2
import Derived.Test.YtjebechmedhidaaDoorKdn3
import Derived.Test.YtjebechmedhidaaDoorKdn4
import Derived.Test.YtjebechmedhidaaDoorKdn5
import Derived.Test.YtjebechmedhidaaDoorKdn6
import Derived.Test.YtjebechmedhidaaDoorKdn20
import Derived.Test.YtjebechmedhidaaDoorRows
import Derived.WalkKit
import Derived.LoopTactic
import Derived.Laws.Bits64b
import Derived.WalkSpells
import Derived.WalkLawsBesides
import Derived.StillTactics
import Derived.Laws.Pointers
import Derived.Deep.RegionHeld3
import Derived.Deep.QuietTactic
import Derived.BigQuiet
import Derived.Outline
import Derived.Lib.Hide
import Derived.RowKit3
import Derived.Carry
import Derived.IntWalk
import Derived.Shelf.Small.Bits
import Derived.Shelf.Small.Wraps
import Derived.Shelf.Strconv.Itoa0
import Derived.Ground.Names2Prog
import Derived.Shelf.Slices.SearchI
import Derived.Test.YtjebechmedhidaaDoorProg
namespace Go.Proofs.YtjebechmedhidaaDoor
open Go Go.RowKit
set_option linter.unusedSimpArgs false
set_option linter.unusedVariables false

theorem nf_bool (S l : Int) (b : Bool) (N E : Int) (hb : nfB S l = b) (hn : nfN S l = N) (he : nfE S l = E) : Ending.returned (.tuple #[two N E, .bool b]) = .returned (.tuple #[two (nfN S l) (nfE S l), .bool (nfB S l)]) := by rw [hb, hn, he]

theorem lowest_zero (d : Int) (w : World) : Calls Tryd.prog 60 #[.int .i64 0, .int .i64 d] w fun rv w' => rv = .returned (.tuple #[two (nfN 0 d) (nfE 0 d), .bool (nfB 0 d)]) ∧ Ext w w' := by
  obtain ⟨e1, e2, e3⟩ := nf_zero (S := 0) (l := d) rfl
  have H := Lib.hid (nf_bool 0 d _ _ _ e1 e2 e3); clear e1 e2 e3
  go_enter Tryd.func60, Tryd.ntmps60
  go_wp2
  exact bodyPost_ret (v := .tuple #[two (0) (0), .bool true]) (by simp [results, Tryd.results60, go_sem, *]) rfl ⟨H.out, Ext.auK⟩

set_option maxHeartbeats 800000 in
theorem lowest_yes (n d : Int) (h0 : n ≠ 0) (h1 : -9223372036854775808 < n) (h2 : n < 9223372036854775808) (h3 : -1000000 ≤ d) (h4 : d ≤ 1000000) (w : World) (hT : TW w) : Calls Tryd.prog 60 #[.int .i64 n, .int .i64 d] w fun rv w' => rv = .returned (.tuple #[two (nfN n d) (nfE n d), .bool (nfB n d)]) ∧ Ext w w' := by
  have kz : (n == 0) = false := by simpa using h0
  obtain ⟨t0, t1, t2, t3⟩ := tz_spec n h0 h1 h2
  have T2 := Lib.hid t2; clear t2
  have p1 := pw_of (tzV n)
  have p2 : n / pw (tzV n) = odV n := rfl
  have q := buildDy (odV n) (d + tzV n)
  have k3 : IntKind.i64.wrap (d + tzV n) = d + tzV n := IntWalk.i64_in _ (by omega)
  cases hg : dyB (odV n) (d + tzV n)
  · obtain ⟨e1, e2, e3⟩ := nf_no h0 hg
    have H := Lib.hid (nf_bool n d _ _ _ e1 e2 e3); clear e1 e2 e3
    go_enter Tryd.func60, Tryd.ntmps60
    go_wp2_with (first | (go_at_call 92; refine (tz_any _ h0 h1 h2 _ (hT.ext Ext.auK)).mono ?_; rintro rv w1 ⟨rfl, rfl⟩) | (go_at_call 63; refine (iIsDyadic_any _ _ _).mono ?_; rintro rv w1 ⟨rfl, hb⟩; have ns : w.heap.size + 1 < w1.heap.size := hb.ltK; have n0 : w1.cell? ⟨w.heap.size + 1, 0, none⟩ = some (.int .i64 (odV n)) := hb.cellK; have n1 : w1.cell? ⟨w.heap.size + 1, 1, none⟩ = some (.int .i64 (d + tzV n)) := hb.cellK; have n2 : w1.cell? ⟨w.heap.size, 0, none⟩ = some (.int .i64 0) := hb.cellK; have n3 : w1.cell? ⟨w.heap.size, 1, none⟩ = some (.int .i64 0) := hb.cellK; have nz0 : w1.frozen? ⟨w.heap.size, 0, none⟩ = false := hb.frzK; have nz1 : w1.frozen? ⟨w.heap.size, 1, none⟩ = false := hb.frzK; (first | (have nx := Ext.trans hx hb; clear hx) | (have nx := Ext.trans (hx.alloc _) hb; clear hx) | (have nx := Ext.trans hx.drew hb; clear hx) | have nx := hb); clear hb; try clear hs; try clear g0; try clear g1; try clear g2; try clear g3; try clear z0; try clear z1; have hx := nx; clear nx; have hs := ns; clear ns; have g0 := n0; clear n0; have g1 := n1; clear n1; have g2 := n2; clear n2; have g3 := n3; clear n3; have z0 := nz0; clear nz0; have z1 := nz1; clear nz1))
    exact bodyPost_ret (v := .tuple #[two (0) (0), .bool false]) (by simp [results, Tryd.results60, go_sem, *]) rfl ⟨H.out, Ext.auK⟩
  · obtain ⟨e1, e2, e3⟩ := nf_yes h0 hg
    have H := Lib.hid (nf_bool n d _ _ _ e1 e2 e3); clear e1 e2 e3
    go_enter Tryd.func60, Tryd.ntmps60
    go_wp2_with (first | (go_at_call 92; refine (tz_any _ h0 h1 h2 _ (hT.ext Ext.auK)).mono ?_; rintro rv w1 ⟨rfl, rfl⟩) | (go_at_call 63; refine (iIsDyadic_any _ _ _).mono ?_; rintro rv w1 ⟨rfl, hb⟩; have ns : w.heap.size + 1 < w1.heap.size := hb.ltK; have n0 : w1.cell? ⟨w.heap.size + 1, 0, none⟩ = some (.int .i64 (odV n)) := hb.cellK; have n1 : w1.cell? ⟨w.heap.size + 1, 1, none⟩ = some (.int .i64 (d + tzV n)) := hb.cellK; have n2 : w1.cell? ⟨w.heap.size, 0, none⟩ = some (.int .i64 0) := hb.cellK; have n3 : w1.cell? ⟨w.heap.size, 1, none⟩ = some (.int .i64 0) := hb.cellK; have nz0 : w1.frozen? ⟨w.heap.size, 0, none⟩ = false := hb.frzK; have nz1 : w1.frozen? ⟨w.heap.size, 1, none⟩ = false := hb.frzK; (first | (have nx := Ext.trans hx hb; clear hx) | (have nx := Ext.trans (hx.alloc _) hb; clear hx) | (have nx := Ext.trans hx.drew hb; clear hx) | have nx := hb); clear hb; try clear hs; try clear g0; try clear g1; try clear g2; try clear g3; try clear z0; try clear z1; have hx := nx; clear nx; have hs := ns; clear ns; have g0 := n0; clear n0; have g1 := n1; clear n1; have g2 := n2; clear n2; have g3 := n3; clear n3; have z0 := nz0; clear nz0; have z1 := nz1; clear nz1))
    exact bodyPost_ret (v := .tuple #[two (odV n) (d + tzV n), .bool true]) (by simp [results, Tryd.results60, go_sem, *]) rfl ⟨H.out, Ext.auK⟩

theorem lowest_any (n d : Int) (h1 : -9223372036854775808 < n) (h2 : n < 9223372036854775808) (h3 : -1000000 ≤ d) (h4 : d ≤ 1000000) (w : World) (hT : TW w) : Calls Tryd.prog 60 #[.int .i64 n, .int .i64 d] w fun rv w' => rv = .returned (.tuple #[two (nfN n d) (nfE n d), .bool (nfB n d)]) ∧ Ext w w' := by
  by_cases h0 : n = 0
  · subst h0; exact lowest_zero d w
  · exact lowest_yes n d h0 h1 h2 h3 h4 w hT
end Go.Proofs.YtjebechmedhidaaDoor

namespace Go.Proofs.YtjebechmedhidaaDoor
open Go

theorem od_scale {x j : Int} (hj : 0 ≤ j) (h0 : x ≠ 0) (h1 : -9223372036854775808 < x * pw j) (h2 : x * pw j < 9223372036854775808) : odV (x * pw j) = odV x ∧ tzV (x * pw j) = tzV x + j := by
  have hp := pw_pos j
  have hx1 : -9223372036854775808 < x ∧ x < 9223372036854775808 := by
    have e : ((x * pw j).natAbs : Int) = x.natAbs * (pw j).natAbs := by rw [Int.natAbs_mul, Int.natCast_mul]
    have := Int.mul_le_mul_of_nonneg_left (show 1 ≤ ((pw j).natAbs : Int) by omega) (show 0 ≤ (x.natAbs : Int) by omega)
    omega
  obtain ⟨t0, t1, t2, t3⟩ := tz_spec x h0 hx1.1 hx1.2
  have e : x * pw j = odV x * pw (tzV x + j) := by
    rw [pw_add _ _ t0 hj, ← Int.mul_assoc, ← t2]
  have := tz_of (x * pw j) (odV x) (tzV x + j) (by omega) t3 e h1 h2
  exact ⟨this.2, this.1⟩
end Go.Proofs.YtjebechmedhidaaDoor

