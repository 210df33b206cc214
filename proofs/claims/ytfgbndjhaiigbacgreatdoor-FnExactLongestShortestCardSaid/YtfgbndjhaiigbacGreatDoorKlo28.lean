/-
  Contracts of the functions that the laws reach, and the plain facts that they rest on, each under the conditions that its line names; part 28.
-/
import Derived.Test.YtfgbndjhaiigbacGreatDoorKlo1
import Derived.Test.YtfgbndjhaiigbacGreatDoorKlo2
import Derived.Test.YtfgbndjhaiigbacGreatDoorKlo3
import Derived.Test.YtfgbndjhaiigbacGreatDoorKlo4
import Derived.Test.YtfgbndjhaiigbacGreatDoorKlo5
import Derived.Test.YtfgbndjhaiigbacGreatDoorKlo6
import Derived.Test.YtfgbndjhaiigbacGreatDoorKlo7
import Derived.Test.YtfgbndjhaiigbacGreatDoorKlo8
import Derived.Test.YtfgbndjhaiigbacGreatDoorKlo9
import Derived.Test.YtfgbndjhaiigbacGreatDoorKlo10
import Derived.Test.YtfgbndjhaiigbacGreatDoorKlo11
import Derived.Test.YtfgbndjhaiigbacGreatDoorKlo12
import Derived.Test.YtfgbndjhaiigbacGreatDoorKlo13
import Derived.Test.YtfgbndjhaiigbacGreatDoorKlo14
import Derived.Test.YtfgbndjhaiigbacGreatDoorKlo15
import Derived.Test.YtfgbndjhaiigbacGreatDoorKlo16
import Derived.Test.YtfgbndjhaiigbacGreatDoorKlo17
import Derived.Test.YtfgbndjhaiigbacGreatDoorKlo18
import Derived.Test.YtfgbndjhaiigbacGreatDoorKlo19
import Derived.Test.YtfgbndjhaiigbacGreatDoorKlo20
import Derived.Test.YtfgbndjhaiigbacGreatDoorKlo21
import Derived.Test.YtfgbndjhaiigbacGreatDoorKlo22
import Derived.Test.YtfgbndjhaiigbacGreatDoorKlo23
import Derived.Test.YtfgbndjhaiigbacGreatDoorKlo24
import Derived.Test.YtfgbndjhaiigbacGreatDoorKlo25
import Derived.Test.YtfgbndjhaiigbacGreatDoorKlo26
import Derived.Test.YtfgbndjhaiigbacGreatDoorKlo27
import Derived.Test.YtfgbndjhaiigbacGreatDoorRows
import Derived.WalkKit
import Derived.Handy
import Derived.LoopTactic
import Derived.LoopN
import Derived.Laws.OwnMore
import Derived.OwnWalk
import Derived.Deep.AppendLies
import Derived.Laws.Bits64b
import Derived.WalkSpells
import Derived.WalkLawsBesides
import Derived.StillTactics
import Derived.Laws.Pointers
import Derived.Deep.RegionHeld3
import Derived.Deep.QuietTactic
import Derived.BigQuiet
import Derived.Outline
import Derived.Lib.Hide
import Derived.RowKit3
import Derived.Carry
import Derived.IntWalk
import Derived.Laws.EntriesVeiled
namespace Go.Proofs.YtfgbndjhaiigbacGreatDoor
open Go Go.RowKit
set_option linter.unusedSimpArgs false
set_option linter.unusedVariables false
set_option maxRecDepth 100000

/-- A number of units, rounded to a whole number of P units. -/
def whV (u P mode : Int) (neg : Bool) : Int := rndP (u % P) P (u / P) mode neg

theorem rndP_mul {A B p mode m : Int} {neg : Bool} (hm : 0 < m) : rndP (A * m) (B * m) p mode neg = rndP A B p mode neg := by
  have e0 : A * m = 0 ↔ A = 0 := by
    constructor
    · intro h; rcases Int.mul_eq_zero.1 h with h | h
      · exact h
      · omega
    · intro h; rw [h, Int.zero_mul]
  have e1 : B * m < 2 * (A * m) ↔ B < 2 * A := by
    rw [← Int.mul_assoc]
    exact ⟨fun h => Int.lt_of_mul_lt_mul_right h (by omega), fun h => Int.mul_lt_mul_of_pos_right h hm⟩
  have e2 : 2 * (A * m) = B * m ↔ 2 * A = B := by
    rw [← Int.mul_assoc]
    exact ⟨fun h => Int.eq_of_mul_eq_mul_right (by omega) h, fun h => by rw [h]⟩
  have e3 : B * m ≤ 2 * (A * m) ↔ B ≤ 2 * A := by
    rw [← Int.mul_assoc]
    exact ⟨fun h => Int.le_of_mul_le_mul_right h hm, fun h => Int.mul_le_mul_of_nonneg_right h (by omega)⟩
  unfold rndP upR
  simp only [e0, e1, e2, e3]

theorem rndP_or (A B p mode : Int) (neg : Bool) : rndP A B p mode neg = p ∨ rndP A B p mode neg = p + 1 := by
  unfold rndP; split
  · exact Or.inl rfl
  · split
    · exact Or.inr rfl
    · exact Or.inl rfl

theorem wh_bd {u P mode : Int} {neg : Bool} (hu : 0 ≤ u) (hP : 0 < P) : 0 ≤ whV u P mode neg ∧ whV u P mode neg ≤ u + 1 := by
  have h0 : 0 ≤ u / P := Int.ediv_nonneg hu (by omega)
  have h1 : u / P ≤ u := Int.ediv_le_self _ hu
  unfold whV
  rcases rndP_or (u % P) P (u / P) mode neg with h | h <;> rw [h] <;> omega
end Go.Proofs.YtfgbndjhaiigbacGreatDoor

namespace Go.Proofs.YtfgbndjhaiigbacGreatDoor
open Go Go.RowKit
set_option linter.unusedSimpArgs false
set_option linter.unusedVariables false
set_option maxRecDepth 100000

attribute [local go_sem] ta_finite_finite ta_finite_infinite ta_finite_noNumber ta_infinite_finite ta_infinite_infinite ta_infinite_noNumber ta_noNumber_finite ta_noNumber_infinite ta_noNumber_noNumber

theorem together_any (m1 n1 x1 m2 n2 x2 d1 d2 : Int) (h1 : x1 - min x1 x2 = d1) (h2 : x2 - min x1 x2 = d2) (v0 : 0 ≤ d1) (v1 : d1 ≤ 62) (v2 : 0 ≤ d2) (v3 : d2 ≤ 62) (k1 : IntKind.i64.wrap (n1 * pw d1) = n1 * pw d1) (k2 : IntKind.i64.wrap (n2 * pw d2) = n2 * pw d2) (w : World) : Calls Tryz.prog 162 #[.agg #[.int .i64 m1, .int .i64 n1, .int .i64 x1], .agg #[.int .i64 m2, .int .i64 n2, .int .i64 x2]] w fun rv w' => rv = .returned (.tuple #[.int .i64 (n1 * pw d1), .int .i64 (n2 * pw d2), .int .i64 (min x1 x2)]) ∧ Ext w w' := by
  have w1 : IntKind.i64.wrap d1 = d1 := IntWalk.i64_in _ (by omega)
  have w2 : IntKind.i64.wrap d2 = d2 := IntWalk.i64_in _ (by omega)
  have z1 : min d1.toNat 64 = d1.toNat := by omega
  have z2 : min d2.toNat 64 = d2.toNat := by omega
  have y1 : ¬ d1 < 0 := by omega
  have y2 : ¬ d2 < 0 := by omega
  have e1 := pw_of d1
  have e2 := pw_of d2
  go_enter Tryz.func162, Tryz.ntmps162
  go_wp2
  go_region_held3 (fun w' => w'.cell? ⟨w.heap.size, 0, none⟩ = some (.int .i64 m1) ∧ w'.cell? ⟨w.heap.size, 1, none⟩ = some (.int .i64 n1) ∧ w'.cell? ⟨w.heap.size, 2, none⟩ = some (.int .i64 x1) ∧ w'.cell? ⟨w.heap.size + 1, 0, none⟩ = some (.int .i64 m2) ∧ w'.cell? ⟨w.heap.size + 1, 1, none⟩ = some (.int .i64 n2) ∧ w'.cell? ⟨w.heap.size + 1, 2, none⟩ = some (.int .i64 x2) ∧ w.heap.size + 1 < w'.heap.size) ((refine ⟨?_, ?_, ?_, ?_, ?_, ?_, ?_⟩ <;> first | with_reducible assumption | ((repeat first | rw [cell_set_far _ _ _ _ _ _ (by omega)] | rw [cell_alloc_before _ _ _ _ (by omega)] | rw [cell_alloc_drew _ _ _ _ (by omega)] | rw [cell_drew]); with_reducible assumption) | ((rw [cell_setRow_far _ _ _ _ _ (by omega)]); with_reducible assumption) | ((rw [setRow_size]); with_reducible assumption) | (simp; done) | (simp [World.setCell]; first | done | omega) | (simp [go_sem, World.cell?_alloc_past, World.cell?_setCell_far, *]; done))) (fail)
  go_wp2
  go_ret3
  exact ⟨rfl, Ext.auK⟩

theorem wholeQuotient_p (a b mode z : Int) (neg : Bool) (R S : Nat) (b0 : 0 < b) (t1 : a.tmod b = a % b) (t2 : a.tdiv b = a / b) (w1 : IntKind.i64.wrap (a / b) = a / b) (w2 : IntKind.i64.wrap (a % b) = a % b) (f1 : floatOfInt .f32 (a % b) = R) (f2 : floatOfInt .f32 b = S) (RR : Hid (∀ w, Calls Tryz.prog 196 #[.agg #[.int .i64 (a / b), .float .f32 R, .float .f32 S], .int .i64 mode, .bool neg] w fun rv w' => rv = .returned (.int .i64 z) ∧ Ext w w')) (w : World) : Calls Tryz.prog 198 #[.int .i64 a, .int .i64 b, .int .i64 mode, .bool neg] w fun rv w' => rv = .returned (.int .i64 z) ∧ Ext w w' := by
  have t3 : ¬ b = 0 := by omega
  have t4 : (b == 0) = false := by simpa using t3
  have BLD : ∀ (p : Int) (x y : Nat) w, (Instr.build 186 #[(0, .int .i64 p), (1, .float .f32 x), (2, .float .f32 y)]).run Tryz.prog w = .ok (.agg #[.int .i64 p, .float .f32 x, .float .f32 y]) w := fun p x y w => run_build w _ _ _ (by kernel_rfl)
  go_enter Tryz.func198, Tryz.ntmps198
  go_wp2
  go_region_held3 (fun w' => True) (trivial) ((go_at_call 196; refine (RR.out _).mono ?_; rintro rv w1 ⟨rfl, hb⟩; have hx : Ext w w1 := Ext.trans Ext.auK hb; clear hb))
  go_wp2
  go_ret
  exact ⟨rfl, Ext.auK⟩

theorem wholeQuotient_any (a b mode : Int) (neg : Bool) (a0 : 0 ≤ a) (a1 : a < 1152921504606846976) (b0 : 0 < b) (b1 : b < 1152921504606846976) (m0 : 0 ≤ mode) (m1 : mode ≤ 5) (okR : Ok Ieee.single ((a % b).toNat * 2 ^ 149)) (ltR : (a % b).toNat * 2 ^ 149 < 2 ^ 192) (okS : Ok Ieee.single (b.toNat * 2 ^ 149)) (w : World) : Calls Tryz.prog 198 #[.int .i64 a, .int .i64 b, .int .i64 mode, .bool neg] w fun rv w' => rv = .returned (.int .i64 (whV a b mode neg)) ∧ Ext w w' := by
  have r0 := Int.emod_nonneg a (show b ≠ 0 by omega)
  have r1 := Int.emod_lt_of_pos a b0
  have q0 : 0 ≤ a / b := Int.ediv_nonneg a0 (by omega)
  have q1 : a / b ≤ a := Int.ediv_le_self _ a0
  have t1 : a.tmod b = a % b := Int.tmod_eq_emod_of_nonneg a0
  have t2 : a.tdiv b = a / b := Int.tdiv_eq_ediv_of_nonneg a0
  have t4 : (b == 0) = false := by simp; omega
  have w1 : IntKind.i64.wrap (a / b) = a / b := IntWalk.i64_in _ (by omega)
  have w2 : IntKind.i64.wrap (a % b) = a % b := IntWalk.i64_in _ (by omega)
  have hz : 0 < pw 149 := by have := pw_pos 149; omega
  have f1 : floatOfInt .f32 (a % b) = fw Ieee.single ((a % b).toNat * 2 ^ 149) := by
    have := int_fw (f := Ieee.single) (a % b).toNat 149 (by decide)
    rw [Int.toNat_of_nonneg r0] at this
    exact this
  have f2 : floatOfInt .f32 b = fw Ieee.single (b.toNat * 2 ^ 149) := by
    have := int_fw (f := Ieee.single) b.toNat 149 (by decide)
    rw [Int.toNat_of_nonneg (show 0 ≤ b by omega)] at this
    exact this
  have eR : ((((a % b).toNat * 2 ^ 149 : Nat)) : Int) = (a % b) * pw 149 := by rw [Int.natCast_mul, Int.toNat_of_nonneg r0, pw_cast]; rfl
  have eS : (((b.toNat * 2 ^ 149 : Nat)) : Int) = b * pw 149 := by rw [Int.natCast_mul, Int.toNat_of_nonneg (show 0 ≤ b by omega), pw_cast]; rfl
  have eP : rndP (((a % b).toNat * 2 ^ 149 : Nat) : Int) ((b.toNat * 2 ^ 149 : Nat) : Int) (a / b) mode neg = rndP (a % b) b (a / b) mode neg := by rw [eR, eS]; exact rndP_mul hz
  have rr := fun w => (rounded_any (a / b) mode _ _ neg q0 (by omega) okR ltR okS m0 m1 w).mono (fun rv w1 h => (⟨by rw [h.1, eP], h.2⟩ : rv = .returned (.int .i64 (rndP (a % b) b (a / b) mode neg)) ∧ Ext w w1))
  clear eR eS eP
  unfold whV
  exact wholeQuotient_p a b mode _ neg _ _ b0 t1 t2 w1 w2 f1 f2 (Lib.hid rr) w
end Go.Proofs.YtfgbndjhaiigbacGreatDoor

namespace Go.Proofs.YtfgbndjhaiigbacGreatDoor
open Go Go.RowKit
set_option linter.unusedSimpArgs false
set_option linter.unusedVariables false
set_option maxRecDepth 100000

attribute [local go_sem] ta_finite_finite ta_finite_infinite ta_finite_noNumber ta_infinite_finite ta_infinite_infinite ta_infinite_noNumber ta_noNumber_finite ta_noNumber_infinite ta_noNumber_noNumber

theorem ok_npw {n k : Int} (h0 : 0 ≤ n) (h1 : n < 16777216) (k0 : 0 ≤ k) (k1 : k ≤ 100) : Ok Ieee.single ((n * pw k).toNat * 2 ^ 149) := by
  have e : n * pw k = ((n.toNat * 2 ^ k.toNat : Nat) : Int) := by rw [Int.natCast_mul, Int.toNat_of_nonneg h0, pw_cast, Int.toNat_of_nonneg k0]
  rw [e, Int.toNat_natCast, Nat.mul_assoc, ← Nat.pow_add]
  exact ok32 (by omega) (by omega)

theorem lt_few {n : Int} (h0 : 0 ≤ n) (h1 : n < 16777216) : n.toNat * 2 ^ 149 < 2 ^ 192 := by
  have h : n.toNat < 2 ^ 24 := by omega
  refine Nat.lt_of_lt_of_le (Nat.mul_lt_mul_of_pos_right h (Nat.two_pow_pos 149)) ?_
  rw [← Nat.pow_add]
  exact Nat.pow_le_pow_right (by decide) (by decide)

theorem ok_few {n : Int} (h0 : 0 ≤ n) (h1 : n < 16777216) : Ok Ieee.single (n.toNat * 2 ^ 149) := ok32 (by omega) (by decide)
end Go.Proofs.YtfgbndjhaiigbacGreatDoor

namespace Go.Proofs.YtfgbndjhaiigbacGreatDoor
open Go Go.RowKit
set_option linter.unusedSimpArgs false
set_option linter.unusedVariables false
set_option maxRecDepth 100000

attribute [local go_sem] ta_finite_finite ta_finite_infinite ta_finite_noNumber ta_infinite_finite ta_infinite_infinite ta_infinite_noNumber ta_noNumber_finite ta_noNumber_infinite ta_noNumber_noNumber

theorem finiteAt_b0 (e f a : Int) (h0 : patB e f a = false) (w : World) : Calls Tryz.prog 66 #[fmt e f, .int .i64 a] w fun rv w' => rv = .returned (.tuple #[.agg #[.int .i64 0, .int .i64 0, .int .i64 0], .bool false]) ∧ Ext w w' := by
  go_enter Tryz.func66, Tryz.ntmps66
  go_wp2_with (first | (go_at_call 58; refine (isPattern_any e f a _).mono ?_; rintro rv w1 ⟨rfl, hb⟩; have ns : w.heap.size + 1 < w1.heap.size := hb.ltK; have n0 : w1.cell? ⟨w.heap.size, 0, none⟩ = some (.int .i64 e) := hb.cellK; have n1 : w1.cell? ⟨w.heap.size, 1, none⟩ = some (.int .i64 f) := hb.cellK; have n2 : w1.cell? ⟨w.heap.size + 1, 0, none⟩ = some (.int .i64 0) := hb.cellK; have n3 : w1.cell? ⟨w.heap.size + 1, 1, none⟩ = some (.int .i64 0) := hb.cellK; have n4 : w1.cell? ⟨w.heap.size + 1, 2, none⟩ = some (.int .i64 0) := hb.cellK; have nz0 : w1.frozen? ⟨w.heap.size + 1, 0, none⟩ = false := hb.frzK; have nz1 : w1.frozen? ⟨w.heap.size + 1, 1, none⟩ = false := hb.frzK; have nz2 : w1.frozen? ⟨w.heap.size + 1, 2, none⟩ = false := hb.frzK; (first | (have nx := hx.trK hb; clear hx) | have nx := hb); clear hb; try clear hs; try clear g0; try clear g1; try clear g2; try clear g3; try clear g4; try clear z0; try clear z1; try clear z2; have hx := nx; clear nx; have hs := ns; clear ns; have g0 := n0; clear n0; have g1 := n1; clear n1; have g2 := n2; clear n2; have g3 := n3; clear n3; have g4 := n4; clear n4; have z0 := nz0; clear nz0; have z1 := nz1; clear nz1; have z2 := nz2; clear nz2))
  exact bodyPost_ret (v := .tuple #[.agg #[.int .i64 0, .int .i64 0, .int .i64 0], .bool false]) (by simp [results, Tryz.results66, go_sem, *]) rfl ⟨rfl, Ext.auK⟩

theorem finiteAt_b2 (e f a : Int) (h0 : patB e f a = true) (fa : finB e f a = false) (na : numB e f a = true) (w : World) : Calls Tryz.prog 66 #[fmt e f, .int .i64 a] w fun rv w' => rv = .returned (.tuple #[.agg #[.int .i64 0, .int .i64 0, .int .i64 0], .bool false]) ∧ Ext w w' := by
  have OX := Lib.hid (fun w => operandOf_inf e f a h0 fa na w)
  go_enter Tryz.func66, Tryz.ntmps66
  go_wp2_with (first | (go_at_call 58; refine (isPattern_any e f a _).mono ?_; rintro rv w1 ⟨rfl, hb⟩; have ns : w.heap.size + 1 < w1.heap.size := hb.ltK; have n0 : w1.cell? ⟨w.heap.size, 0, none⟩ = some (.int .i64 e) := hb.cellK; have n1 : w1.cell? ⟨w.heap.size, 1, none⟩ = some (.int .i64 f) := hb.cellK; have n2 : w1.cell? ⟨w.heap.size + 1, 0, none⟩ = some (.int .i64 0) := hb.cellK; have n3 : w1.cell? ⟨w.heap.size + 1, 1, none⟩ = some (.int .i64 0) := hb.cellK; have n4 : w1.cell? ⟨w.heap.size + 1, 2, none⟩ = some (.int .i64 0) := hb.cellK; have nz0 : w1.frozen? ⟨w.heap.size + 1, 0, none⟩ = false := hb.frzK; have nz1 : w1.frozen? ⟨w.heap.size + 1, 1, none⟩ = false := hb.frzK; have nz2 : w1.frozen? ⟨w.heap.size + 1, 2, none⟩ = false := hb.frzK; (first | (have nx := hx.trK hb; clear hx) | have nx := hb); clear hb; try clear hs; try clear g0; try clear g1; try clear g2; try clear g3; try clear g4; try clear z0; try clear z1; try clear z2; have hx := nx; clear nx; have hs := ns; clear ns; have g0 := n0; clear n0; have g1 := n1; clear n1; have g2 := n2; clear n2; have g3 := n3; clear n3; have g4 := n4; clear n4; have z0 := nz0; clear nz0; have z1 := nz1; clear nz1; have z2 := nz2; clear nz2) | (go_at_call 61; (with_reducible refine (OX.out _).mono ?_); rintro rv w1 ⟨rfl, hb⟩; have ns : w.heap.size + 1 < w1.heap.size := hb.ltK; have n0 : w1.cell? ⟨w.heap.size, 0, none⟩ = some (.int .i64 e) := hb.cellK; have n1 : w1.cell? ⟨w.heap.size, 1, none⟩ = some (.int .i64 f) := hb.cellK; have n2 : w1.cell? ⟨w.heap.size + 1, 0, none⟩ = some (.int .i64 0) := hb.cellK; have n3 : w1.cell? ⟨w.heap.size + 1, 1, none⟩ = some (.int .i64 0) := hb.cellK; have n4 : w1.cell? ⟨w.heap.size + 1, 2, none⟩ = some (.int .i64 0) := hb.cellK; have nz0 : w1.frozen? ⟨w.heap.size + 1, 0, none⟩ = false := hb.frzK; have nz1 : w1.frozen? ⟨w.heap.size + 1, 1, none⟩ = false := hb.frzK; have nz2 : w1.frozen? ⟨w.heap.size + 1, 2, none⟩ = false := hb.frzK; (first | (have nx := hx.trK hb; clear hx) | have nx := hb); clear hb; try clear hs; try clear g0; try clear g1; try clear g2; try clear g3; try clear g4; try clear z0; try clear z1; try clear z2; have hx := nx; clear nx; have hs := ns; clear ns; have g0 := n0; clear n0; have g1 := n1; clear n1; have g2 := n2; clear n2; have g3 := n3; clear n3; have g4 := n4; clear n4; have z0 := nz0; clear nz0; have z1 := nz1; clear nz1; have z2 := nz2; clear nz2))
  exact bodyPost_ret (v := .tuple #[.agg #[.int .i64 0, .int .i64 0, .int .i64 0], .bool false]) (by simp [results, Tryz.results66, go_sem, *]) rfl ⟨rfl, Ext.auK⟩

theorem finiteAt_b3 (e f a : Int) (h0 : patB e f a = true) (na : numB e f a = false) (w : World) : Calls Tryz.prog 66 #[fmt e f, .int .i64 a] w fun rv w' => rv = .returned (.tuple #[.agg #[.int .i64 0, .int .i64 0, .int .i64 0], .bool false]) ∧ Ext w w' := by
  have OX := Lib.hid (fun w => operandOf_no e f a h0 na w)
  go_enter Tryz.func66, Tryz.ntmps66
  go_wp2_with (first | (go_at_call 58; refine (isPattern_any e f a _).mono ?_; rintro rv w1 ⟨rfl, hb⟩; have ns : w.heap.size + 1 < w1.heap.size := hb.ltK; have n0 : w1.cell? ⟨w.heap.size, 0, none⟩ = some (.int .i64 e) := hb.cellK; have n1 : w1.cell? ⟨w.heap.size, 1, none⟩ = some (.int .i64 f) := hb.cellK; have n2 : w1.cell? ⟨w.heap.size + 1, 0, none⟩ = some (.int .i64 0) := hb.cellK; have n3 : w1.cell? ⟨w.heap.size + 1, 1, none⟩ = some (.int .i64 0) := hb.cellK; have n4 : w1.cell? ⟨w.heap.size + 1, 2, none⟩ = some (.int .i64 0) := hb.cellK; have nz0 : w1.frozen? ⟨w.heap.size + 1, 0, none⟩ = false := hb.frzK; have nz1 : w1.frozen? ⟨w.heap.size + 1, 1, none⟩ = false := hb.frzK; have nz2 : w1.frozen? ⟨w.heap.size + 1, 2, none⟩ = false := hb.frzK; (first | (have nx := hx.trK hb; clear hx) | have nx := hb); clear hb; try clear hs; try clear g0; try clear g1; try clear g2; try clear g3; try clear g4; try clear z0; try clear z1; try clear z2; have hx := nx; clear nx; have hs := ns; clear ns; have g0 := n0; clear n0; have g1 := n1; clear n1; have g2 := n2; clear n2; have g3 := n3; clear n3; have g4 := n4; clear n4; have z0 := nz0; clear nz0; have z1 := nz1; clear nz1; have z2 := nz2; clear nz2) | (go_at_call 61; (with_reducible refine (OX.out _).mono ?_); rintro rv w1 ⟨rfl, hb⟩; have ns : w.heap.size + 1 < w1.heap.size := hb.ltK; have n0 : w1.cell? ⟨w.heap.size, 0, none⟩ = some (.int .i64 e) := hb.cellK; have n1 : w1.cell? ⟨w.heap.size, 1, none⟩ = some (.int .i64 f) := hb.cellK; have n2 : w1.cell? ⟨w.heap.size + 1, 0, none⟩ = some (.int .i64 0) := hb.cellK; have n3 : w1.cell? ⟨w.heap.size + 1, 1, none⟩ = some (.int .i64 0) := hb.cellK; have n4 : w1.cell? ⟨w.heap.size + 1, 2, none⟩ = some (.int .i64 0) := hb.cellK; have nz0 : w1.frozen? ⟨w.heap.size + 1, 0, none⟩ = false := hb.frzK; have nz1 : w1.frozen? ⟨w.heap.size + 1, 1, none⟩ = false := hb.frzK; have nz2 : w1.frozen? ⟨w.heap.size + 1, 2, none⟩ = false := hb.frzK; (first | (have nx := hx.trK hb; clear hx) | have nx := hb); clear hb; try clear hs; try clear g0; try clear g1; try clear g2; try clear g3; try clear g4; try clear z0; try clear z1; try clear z2; have hx := nx; clear nx; have hs := ns; clear ns; have g0 := n0; clear n0; have g1 := n1; clear n1; have g2 := n2; clear n2; have g3 := n3; clear n3; have g4 := n4; clear n4; have z0 := nz0; clear nz0; have z1 := nz1; clear nz1; have z2 := nz2; clear nz2))
  exact bodyPost_ret (v := .tuple #[.agg #[.int .i64 0, .int .i64 0, .int .i64 0], .bool false]) (by simp [results, Tryz.results66, go_sem, *]) rfl ⟨rfl, Ext.auK⟩

theorem finiteAt_no (e f a : Int) (hf : finB e f a = false) (w : World) : Calls Tryz.prog 66 #[fmt e f, .int .i64 a] w fun rv w' => rv = .returned (.tuple #[.agg #[.int .i64 0, .int .i64 0, .int .i64 0], .bool false]) ∧ Ext w w' := by
  cases h0 : patB e f a
  · exact finiteAt_b0 e f a h0 w
  · cases hn : numB e f a
    · exact finiteAt_b3 e f a h0 hn w
    · exact finiteAt_b2 e f a h0 hf hn w

theorem finiteAt_yes (e f a : Int) (hf : finB e f a = true) (w : World) (hT : TW w) : Calls Tryz.prog 66 #[fmt e f, .int .i64 a] w fun rv w' => rv = .returned (.tuple #[.agg #[.int .i64 (a / pw (e + f)), .int .i64 ((odV (unitsV e f a)).natAbs : Int), .int .i64 (shE (unitsV e f a) (unV e f))], .bool true]) ∧ Ext w w' := by
  have h0 := (fin_pat hf).1
  have OX := Lib.hid (fun w hT => operandOf_fin e f a hf w hT)
  generalize (a / pw (e + f)) = G at *
  generalize ((odV (unitsV e f a)).natAbs : Int) = N at *
  generalize (shE (unitsV e f a) (unV e f)) = X at *
  go_enter Tryz.func66, Tryz.ntmps66
  go_wp2_with (first | (go_at_call 58; refine (isPattern_any e f a _).mono ?_; rintro rv w1 ⟨rfl, hb⟩; have ns : w.heap.size + 1 < w1.heap.size := hb.ltK; have n0 : w1.cell? ⟨w.heap.size, 0, none⟩ = some (.int .i64 e) := hb.cellK; have n1 : w1.cell? ⟨w.heap.size, 1, none⟩ = some (.int .i64 f) := hb.cellK; have n2 : w1.cell? ⟨w.heap.size + 1, 0, none⟩ = some (.int .i64 0) := hb.cellK; have n3 : w1.cell? ⟨w.heap.size + 1, 1, none⟩ = some (.int .i64 0) := hb.cellK; have n4 : w1.cell? ⟨w.heap.size + 1, 2, none⟩ = some (.int .i64 0) := hb.cellK; have nz0 : w1.frozen? ⟨w.heap.size + 1, 0, none⟩ = false := hb.frzK; have nz1 : w1.frozen? ⟨w.heap.size + 1, 1, none⟩ = false := hb.frzK; have nz2 : w1.frozen? ⟨w.heap.size + 1, 2, none⟩ = false := hb.frzK; (first | (have nx := hx.trK hb; clear hx) | have nx := hb); clear hb; try clear hs; try clear g0; try clear g1; try clear g2; try clear g3; try clear g4; try clear z0; try clear z1; try clear z2; have hx := nx; clear nx; have hs := ns; clear ns; have g0 := n0; clear n0; have g1 := n1; clear n1; have g2 := n2; clear n2; have g3 := n3; clear n3; have g4 := n4; clear n4; have z0 := nz0; clear nz0; have z1 := nz1; clear nz1; have z2 := nz2; clear nz2) | (go_at_call 61; (with_reducible refine (OX.out _ (hT.ext Ext.auK)).mono ?_); rintro rv w1 ⟨rfl, hb⟩; have ns : w.heap.size + 1 < w1.heap.size := hb.ltK; have n0 : w1.cell? ⟨w.heap.size, 0, none⟩ = some (.int .i64 e) := hb.cellK; have n1 : w1.cell? ⟨w.heap.size, 1, none⟩ = some (.int .i64 f) := hb.cellK; have n2 : w1.cell? ⟨w.heap.size + 1, 0, none⟩ = some (.int .i64 0) := hb.cellK; have n3 : w1.cell? ⟨w.heap.size + 1, 1, none⟩ = some (.int .i64 0) := hb.cellK; have n4 : w1.cell? ⟨w.heap.size + 1, 2, none⟩ = some (.int .i64 0) := hb.cellK; have nz0 : w1.frozen? ⟨w.heap.size + 1, 0, none⟩ = false := hb.frzK; have nz1 : w1.frozen? ⟨w.heap.size + 1, 1, none⟩ = false := hb.frzK; have nz2 : w1.frozen? ⟨w.heap.size + 1, 2, none⟩ = false := hb.frzK; (first | (have nx := hx.trK hb; clear hx) | have nx := hb); clear hb; try clear hs; try clear g0; try clear g1; try clear g2; try clear g3; try clear g4; try clear z0; try clear z1; try clear z2; have hx := nx; clear nx; have hs := ns; clear ns; have g0 := n0; clear n0; have g1 := n1; clear n1; have g2 := n2; clear n2; have g3 := n3; clear n3; have g4 := n4; clear n4; have z0 := nz0; clear nz0; have z1 := nz1; clear nz1; have z2 := nz2; clear nz2))
  exact bodyPost_ret (v := .tuple #[.agg #[.int .i64 G, .int .i64 N, .int .i64 X], .bool true]) (by simp [results, Tryz.results66, go_sem, *]) rfl ⟨rfl, Ext.auK⟩
end Go.Proofs.YtfgbndjhaiigbacGreatDoor

