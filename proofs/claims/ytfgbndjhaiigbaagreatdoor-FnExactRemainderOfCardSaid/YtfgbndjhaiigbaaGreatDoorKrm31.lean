/-
  Contracts of the functions that the laws reach, and the plain facts that they rest on, each under the conditions that its line names; part 31.
-/
import Derived.Test.YtfgbndjhaiigbaaGreatDoorKrm1
import Derived.Test.YtfgbndjhaiigbaaGreatDoorKrm2
import Derived.Test.YtfgbndjhaiigbaaGreatDoorKrm3
import Derived.Test.YtfgbndjhaiigbaaGreatDoorKrm4
import Derived.Test.YtfgbndjhaiigbaaGreatDoorKrm5
import Derived.Test.YtfgbndjhaiigbaaGreatDoorKrm6
import Derived.Test.YtfgbndjhaiigbaaGreatDoorKrm7
import Derived.Test.YtfgbndjhaiigbaaGreatDoorKrm8
import Derived.Test.YtfgbndjhaiigbaaGreatDoorKrm9
import Derived.Test.YtfgbndjhaiigbaaGreatDoorKrm10
import Derived.Test.YtfgbndjhaiigbaaGreatDoorKrm11
import Derived.Test.YtfgbndjhaiigbaaGreatDoorKrm12
import Derived.Test.YtfgbndjhaiigbaaGreatDoorKrm13
import Derived.Test.YtfgbndjhaiigbaaGreatDoorKrm14
import Derived.Test.YtfgbndjhaiigbaaGreatDoorKrm15
import Derived.Test.YtfgbndjhaiigbaaGreatDoorKrm16
import Derived.Test.YtfgbndjhaiigbaaGreatDoorKrm17
import Derived.Test.YtfgbndjhaiigbaaGreatDoorKrm18
import Derived.Test.YtfgbndjhaiigbaaGreatDoorKrm19
import Derived.Test.YtfgbndjhaiigbaaGreatDoorKrm20
import Derived.Test.YtfgbndjhaiigbaaGreatDoorKrm21
import Derived.Test.YtfgbndjhaiigbaaGreatDoorKrm22
import Derived.Test.YtfgbndjhaiigbaaGreatDoorKrm23
import Derived.Test.YtfgbndjhaiigbaaGreatDoorKrm24
import Derived.Test.YtfgbndjhaiigbaaGreatDoorKrm25
import Derived.Test.YtfgbndjhaiigbaaGreatDoorKrm26
import Derived.Test.YtfgbndjhaiigbaaGreatDoorKrm27
import Derived.Test.YtfgbndjhaiigbaaGreatDoorKrm28
import Derived.Test.YtfgbndjhaiigbaaGreatDoorKrm29
import Derived.Test.YtfgbndjhaiigbaaGreatDoorKrm30
import Derived.Test.YtfgbndjhaiigbaaGreatDoorRows
import Derived.WalkKit
import Derived.Handy
import Derived.LoopTactic
import Derived.LoopN
import Derived.Laws.OwnMore
import Derived.OwnWalk
import Derived.Deep.AppendLies
import Derived.Laws.Bits64b
import Derived.WalkSpells
import Derived.WalkLawsBesides
import Derived.StillTactics
import Derived.Laws.Pointers
import Derived.Deep.RegionHeld3
import Derived.Deep.QuietTactic
import Derived.BigQuiet
import Derived.Outline
import Derived.Lib.Hide
import Derived.RowKit3
import Derived.Carry
import Derived.IntWalk
import Derived.Laws.EntriesVeiled
namespace Go.Proofs.YtfgbndjhaiigbaaGreatDoor
open Go Go.RowKit
set_option linter.unusedSimpArgs false
set_option linter.unusedVariables false
set_option maxRecDepth 100000

/-- A number of units, rounded to a whole number of P units. -/
def whV (u P mode : Int) (neg : Bool) : Int := rndP (u % P) P (u / P) mode neg

theorem rndP_mul {A B p mode m : Int} {neg : Bool} (hm : 0 < m) : rndP (A * m) (B * m) p mode neg = rndP A B p mode neg := by
  have e0 : A * m = 0 ↔ A = 0 := by
    constructor
    · intro h; rcases Int.mul_eq_zero.1 h with h | h
      · exact h
      · omega
    · intro h; rw [h, Int.zero_mul]
  have e1 : B * m < 2 * (A * m) ↔ B < 2 * A := by
    rw [← Int.mul_assoc]
    exact ⟨fun h => Int.lt_of_mul_lt_mul_right h (by omega), fun h => Int.mul_lt_mul_of_pos_right h hm⟩
  have e2 : 2 * (A * m) = B * m ↔ 2 * A = B := by
    rw [← Int.mul_assoc]
    exact ⟨fun h => Int.eq_of_mul_eq_mul_right (by omega) h, fun h => by rw [h]⟩
  have e3 : B * m ≤ 2 * (A * m) ↔ B ≤ 2 * A := by
    rw [← Int.mul_assoc]
    exact ⟨fun h => Int.le_of_mul_le_mul_right h hm, fun h => Int.mul_le_mul_of_nonneg_right h (by omega)⟩
  unfold rndP upR
  simp only [e0, e1, e2, e3]

theorem wh_mul {a b mode m : Int} {neg : Bool} (hm : 0 < m) (hb : 0 < b) : whV (a * m) (b * m) mode neg = whV a b mode neg := by
  unfold whV
  rw [Int.mul_comm a m, Int.mul_comm b m, Int.mul_emod_mul_of_pos _ _ hm, Int.mul_ediv_mul_of_pos _ _ hm, Int.mul_comm m (a % b), Int.mul_comm m b]
  exact rndP_mul hm

theorem rndP_or (A B p mode : Int) (neg : Bool) : rndP A B p mode neg = p ∨ rndP A B p mode neg = p + 1 := by
  unfold rndP; split
  · exact Or.inl rfl
  · split
    · exact Or.inr rfl
    · exact Or.inl rfl

theorem wh_bd {u P mode : Int} {neg : Bool} (hu : 0 ≤ u) (hP : 0 < P) : 0 ≤ whV u P mode neg ∧ whV u P mode neg ≤ u + 1 := by
  have h0 : 0 ≤ u / P := Int.ediv_nonneg hu (by omega)
  have h1 : u / P ≤ u := Int.ediv_le_self _ hu
  unfold whV
  rcases rndP_or (u % P) P (u / P) mode neg with h | h <;> rw [h] <;> omega

theorem arWhole_zero (e f u L A P : Int) (mode : Int) (neg : Bool) (hg : goodB e f = true) (hP : pw (-unV e f) = P) (t1 : u.tmod P = A) (t2 : u.tdiv P = L) (t4 : (P == 0) = false) (t3 : ¬ P = 0) (t7 : IntKind.i64.wrap (u.tmod P) = A) (w1 : IntKind.i64.wrap L = L) (w2 : IntKind.i64.wrap A = A) (w3 : IntKind.i64.wrap (2 * A) = 2 * A) (w4 : IntKind.i64.wrap (L + 1) = L + 1) (t5 : L.tmod 2 = L % 2) (t6 : IntKind.i64.wrap (L % 2) = L % 2) (hz : (A == 0) = true) (w : World) : Calls Tryz.prog 89 #[fmt e f, .int .i64 u, .int .i64 mode, .bool neg] w fun rv w' => rv = .returned (.int .i64 (L)) ∧ Ext w w' := by
  obtain ⟨u1, u2, _⟩ := un_bd hg
  have kn : IntKind.i64.wrap (-unV e f) = -unV e f := IntWalk.i64_in _ (by omega)
  have RU := Lib.hid (fun w => rdUnit_any e f hg w)
  have RP := Lib.hid (fun w => rdPower_any (-unV e f) (by omega) (by omega) w)
  rw [hP] at RP
  generalize unV e f = U at *
  clear u1 u2
  go_enter Tryz.func89, Tryz.ntmps89
  go_wp2_with (first | (go_at_call 87; refine (RU.out _).mono ?_; rintro rv w1 ⟨rfl, hb⟩; have ns : w.heap.size < w1.heap.size := hb.ltK; have n0 : w1.cell? ⟨w.heap.size, 0, none⟩ = some (.int .i64 e) := hb.cellK; have n1 : w1.cell? ⟨w.heap.size, 1, none⟩ = some (.int .i64 f) := hb.cellK; (first | (have nx := Ext.trans hx hb; clear hx) | (have nx := Ext.trans (hx.alloc _) hb; clear hx) | (have nx := Ext.trans hx.drew hb; clear hx) | have nx := hb); clear hb; try clear hs; try clear g0; try clear g1; have hx := nx; clear nx; have hs := ns; clear ns; have g0 := n0; clear n0; have g1 := n1; clear n1) | (go_at_call 101; refine (RP.out _).mono ?_; rintro rv w1 ⟨rfl, rfl⟩))
  go_region
  go_wp2_with fail
  try (go_region; go_wp2_with fail)
  go_ret
  exact ⟨rfl, Ext.auK⟩

theorem arWhole_cut (e f u L A P : Int) (neg : Bool) (hg : goodB e f = true) (hP : pw (-unV e f) = P) (t1 : u.tmod P = A) (t2 : u.tdiv P = L) (t4 : (P == 0) = false) (t3 : ¬ P = 0) (t7 : IntKind.i64.wrap (u.tmod P) = A) (w1 : IntKind.i64.wrap L = L) (w2 : IntKind.i64.wrap A = A) (w3 : IntKind.i64.wrap (2 * A) = 2 * A) (w4 : IntKind.i64.wrap (L + 1) = L + 1) (t5 : L.tmod 2 = L % 2) (t6 : IntKind.i64.wrap (L % 2) = L % 2) (hz : (A == 0) = false) (w : World) : Calls Tryz.prog 89 #[fmt e f, .int .i64 u, .int .i64 2, .bool neg] w fun rv w' => rv = .returned (.int .i64 (L)) ∧ Ext w w' := by
  obtain ⟨u1, u2, _⟩ := un_bd hg
  have kn : IntKind.i64.wrap (-unV e f) = -unV e f := IntWalk.i64_in _ (by omega)
  have RU := Lib.hid (fun w => rdUnit_any e f hg w)
  have RP := Lib.hid (fun w => rdPower_any (-unV e f) (by omega) (by omega) w)
  rw [hP] at RP
  generalize unV e f = U at *
  clear u1 u2
  go_enter Tryz.func89, Tryz.ntmps89
  go_wp2_with (first | (go_at_call 87; refine (RU.out _).mono ?_; rintro rv w1 ⟨rfl, hb⟩; have ns : w.heap.size < w1.heap.size := hb.ltK; have n0 : w1.cell? ⟨w.heap.size, 0, none⟩ = some (.int .i64 e) := hb.cellK; have n1 : w1.cell? ⟨w.heap.size, 1, none⟩ = some (.int .i64 f) := hb.cellK; (first | (have nx := Ext.trans hx hb; clear hx) | (have nx := Ext.trans (hx.alloc _) hb; clear hx) | (have nx := Ext.trans hx.drew hb; clear hx) | have nx := hb); clear hb; try clear hs; try clear g0; try clear g1; have hx := nx; clear nx; have hs := ns; clear ns; have g0 := n0; clear n0; have g1 := n1; clear n1) | (go_at_call 101; refine (RP.out _).mono ?_; rintro rv w1 ⟨rfl, rfl⟩))
  go_region
  go_wp2_with fail
  try (go_region; go_wp2_with fail)
  go_ret
  exact ⟨rfl, Ext.auK⟩

theorem arWhole_evG (e f u L A P : Int) (neg : Bool) (hg : goodB e f = true) (hP : pw (-unV e f) = P) (t1 : u.tmod P = A) (t2 : u.tdiv P = L) (t4 : (P == 0) = false) (t3 : ¬ P = 0) (t7 : IntKind.i64.wrap (u.tmod P) = A) (w1 : IntKind.i64.wrap L = L) (w2 : IntKind.i64.wrap A = A) (w3 : IntKind.i64.wrap (2 * A) = 2 * A) (w4 : IntKind.i64.wrap (L + 1) = L + 1) (t5 : L.tmod 2 = L % 2) (t6 : IntKind.i64.wrap (L % 2) = L % 2) (hz : (A == 0) = false) (g : P < 2 * A) (w : World) : Calls Tryz.prog 89 #[fmt e f, .int .i64 u, .int .i64 0, .bool neg] w fun rv w' => rv = .returned (.int .i64 (L + 1)) ∧ Ext w w' := by
  obtain ⟨u1, u2, _⟩ := un_bd hg
  have kn : IntKind.i64.wrap (-unV e f) = -unV e f := IntWalk.i64_in _ (by omega)
  have RU := Lib.hid (fun w => rdUnit_any e f hg w)
  have RP := Lib.hid (fun w => rdPower_any (-unV e f) (by omega) (by omega) w)
  rw [hP] at RP
  generalize unV e f = U at *
  clear u1 u2
  go_enter Tryz.func89, Tryz.ntmps89
  go_wp2_with (first | (go_at_call 87; refine (RU.out _).mono ?_; rintro rv w1 ⟨rfl, hb⟩; have ns : w.heap.size < w1.heap.size := hb.ltK; have n0 : w1.cell? ⟨w.heap.size, 0, none⟩ = some (.int .i64 e) := hb.cellK; have n1 : w1.cell? ⟨w.heap.size, 1, none⟩ = some (.int .i64 f) := hb.cellK; (first | (have nx := Ext.trans hx hb; clear hx) | (have nx := Ext.trans (hx.alloc _) hb; clear hx) | (have nx := Ext.trans hx.drew hb; clear hx) | have nx := hb); clear hb; try clear hs; try clear g0; try clear g1; have hx := nx; clear nx; have hs := ns; clear ns; have g0 := n0; clear n0; have g1 := n1; clear n1) | (go_at_call 101; refine (RP.out _).mono ?_; rintro rv w1 ⟨rfl, rfl⟩))
  go_region
  go_wp2_with fail
  try (go_region; go_wp2_with fail)
  go_ret
  exact ⟨rfl, Ext.auK⟩

theorem arWhole_evL (e f u L A P : Int) (neg : Bool) (hg : goodB e f = true) (hP : pw (-unV e f) = P) (t1 : u.tmod P = A) (t2 : u.tdiv P = L) (t4 : (P == 0) = false) (t3 : ¬ P = 0) (t7 : IntKind.i64.wrap (u.tmod P) = A) (w1 : IntKind.i64.wrap L = L) (w2 : IntKind.i64.wrap A = A) (w3 : IntKind.i64.wrap (2 * A) = 2 * A) (w4 : IntKind.i64.wrap (L + 1) = L + 1) (t5 : L.tmod 2 = L % 2) (t6 : IntKind.i64.wrap (L % 2) = L % 2) (hz : (A == 0) = false) (g : ¬ P < 2 * A) (g2 : (2 * A == P) = false) (w : World) : Calls Tryz.prog 89 #[fmt e f, .int .i64 u, .int .i64 0, .bool neg] w fun rv w' => rv = .returned (.int .i64 (L)) ∧ Ext w w' := by
  obtain ⟨u1, u2, _⟩ := un_bd hg
  have kn : IntKind.i64.wrap (-unV e f) = -unV e f := IntWalk.i64_in _ (by omega)
  have RU := Lib.hid (fun w => rdUnit_any e f hg w)
  have RP := Lib.hid (fun w => rdPower_any (-unV e f) (by omega) (by omega) w)
  rw [hP] at RP
  generalize unV e f = U at *
  clear u1 u2
  go_enter Tryz.func89, Tryz.ntmps89
  go_wp2_with (first | (go_at_call 87; refine (RU.out _).mono ?_; rintro rv w1 ⟨rfl, hb⟩; have ns : w.heap.size < w1.heap.size := hb.ltK; have n0 : w1.cell? ⟨w.heap.size, 0, none⟩ = some (.int .i64 e) := hb.cellK; have n1 : w1.cell? ⟨w.heap.size, 1, none⟩ = some (.int .i64 f) := hb.cellK; (first | (have nx := Ext.trans hx hb; clear hx) | (have nx := Ext.trans (hx.alloc _) hb; clear hx) | (have nx := Ext.trans hx.drew hb; clear hx) | have nx := hb); clear hb; try clear hs; try clear g0; try clear g1; have hx := nx; clear nx; have hs := ns; clear ns; have g0 := n0; clear n0; have g1 := n1; clear n1) | (go_at_call 101; refine (RP.out _).mono ?_; rintro rv w1 ⟨rfl, rfl⟩))
  go_region
  go_wp2_with fail
  try (go_region; go_wp2_with fail)
  go_ret
  exact ⟨rfl, Ext.auK⟩

theorem arWhole_evE (e f u L A P : Int) (neg : Bool) (hg : goodB e f = true) (hP : pw (-unV e f) = P) (t1 : u.tmod P = A) (t2 : u.tdiv P = L) (t4 : (P == 0) = false) (t3 : ¬ P = 0) (t7 : IntKind.i64.wrap (u.tmod P) = A) (w1 : IntKind.i64.wrap L = L) (w2 : IntKind.i64.wrap A = A) (w3 : IntKind.i64.wrap (2 * A) = 2 * A) (w4 : IntKind.i64.wrap (L + 1) = L + 1) (t5 : L.tmod 2 = L % 2) (t6 : IntKind.i64.wrap (L % 2) = L % 2) (hz : (A == 0) = false) (g : ¬ P < 2 * A) (g2 : (2 * A == P) = true) (g3 : L % 2 = 0) (w : World) : Calls Tryz.prog 89 #[fmt e f, .int .i64 u, .int .i64 0, .bool neg] w fun rv w' => rv = .returned (.int .i64 (L)) ∧ Ext w w' := by
  obtain ⟨u1, u2, _⟩ := un_bd hg
  have kn : IntKind.i64.wrap (-unV e f) = -unV e f := IntWalk.i64_in _ (by omega)
  have RU := Lib.hid (fun w => rdUnit_any e f hg w)
  have RP := Lib.hid (fun w => rdPower_any (-unV e f) (by omega) (by omega) w)
  rw [hP] at RP
  generalize unV e f = U at *
  clear u1 u2
  go_enter Tryz.func89, Tryz.ntmps89
  go_wp2_with (first | (go_at_call 87; refine (RU.out _).mono ?_; rintro rv w1 ⟨rfl, hb⟩; have ns : w.heap.size < w1.heap.size := hb.ltK; have n0 : w1.cell? ⟨w.heap.size, 0, none⟩ = some (.int .i64 e) := hb.cellK; have n1 : w1.cell? ⟨w.heap.size, 1, none⟩ = some (.int .i64 f) := hb.cellK; (first | (have nx := Ext.trans hx hb; clear hx) | (have nx := Ext.trans (hx.alloc _) hb; clear hx) | (have nx := Ext.trans hx.drew hb; clear hx) | have nx := hb); clear hb; try clear hs; try clear g0; try clear g1; have hx := nx; clear nx; have hs := ns; clear ns; have g0 := n0; clear n0; have g1 := n1; clear n1) | (go_at_call 101; refine (RP.out _).mono ?_; rintro rv w1 ⟨rfl, rfl⟩))
  go_region
  go_wp2_with fail
  try (go_region; go_wp2_with fail)
  go_ret
  exact ⟨rfl, Ext.auK⟩

theorem arWhole_evO (e f u L A P : Int) (neg : Bool) (hg : goodB e f = true) (hP : pw (-unV e f) = P) (t1 : u.tmod P = A) (t2 : u.tdiv P = L) (t4 : (P == 0) = false) (t3 : ¬ P = 0) (t7 : IntKind.i64.wrap (u.tmod P) = A) (w1 : IntKind.i64.wrap L = L) (w2 : IntKind.i64.wrap A = A) (w3 : IntKind.i64.wrap (2 * A) = 2 * A) (w4 : IntKind.i64.wrap (L + 1) = L + 1) (t5 : L.tmod 2 = L % 2) (t6 : IntKind.i64.wrap (L % 2) = L % 2) (hz : (A == 0) = false) (g : ¬ P < 2 * A) (g2 : (2 * A == P) = true) (g3 : L % 2 = 1) (w : World) : Calls Tryz.prog 89 #[fmt e f, .int .i64 u, .int .i64 0, .bool neg] w fun rv w' => rv = .returned (.int .i64 (L + 1)) ∧ Ext w w' := by
  obtain ⟨u1, u2, _⟩ := un_bd hg
  have kn : IntKind.i64.wrap (-unV e f) = -unV e f := IntWalk.i64_in _ (by omega)
  have RU := Lib.hid (fun w => rdUnit_any e f hg w)
  have RP := Lib.hid (fun w => rdPower_any (-unV e f) (by omega) (by omega) w)
  rw [hP] at RP
  generalize unV e f = U at *
  clear u1 u2
  go_enter Tryz.func89, Tryz.ntmps89
  go_wp2_with (first | (go_at_call 87; refine (RU.out _).mono ?_; rintro rv w1 ⟨rfl, hb⟩; have ns : w.heap.size < w1.heap.size := hb.ltK; have n0 : w1.cell? ⟨w.heap.size, 0, none⟩ = some (.int .i64 e) := hb.cellK; have n1 : w1.cell? ⟨w.heap.size, 1, none⟩ = some (.int .i64 f) := hb.cellK; (first | (have nx := Ext.trans hx hb; clear hx) | (have nx := Ext.trans (hx.alloc _) hb; clear hx) | (have nx := Ext.trans hx.drew hb; clear hx) | have nx := hb); clear hb; try clear hs; try clear g0; try clear g1; have hx := nx; clear nx; have hs := ns; clear ns; have g0 := n0; clear n0; have g1 := n1; clear n1) | (go_at_call 101; refine (RP.out _).mono ?_; rintro rv w1 ⟨rfl, rfl⟩))
  go_region
  go_wp2_with fail
  try (go_region; go_wp2_with fail)
  go_ret
  exact ⟨rfl, Ext.auK⟩

theorem arWhole_awG (e f u L A P : Int) (neg : Bool) (hg : goodB e f = true) (hP : pw (-unV e f) = P) (t1 : u.tmod P = A) (t2 : u.tdiv P = L) (t4 : (P == 0) = false) (t3 : ¬ P = 0) (t7 : IntKind.i64.wrap (u.tmod P) = A) (w1 : IntKind.i64.wrap L = L) (w2 : IntKind.i64.wrap A = A) (w3 : IntKind.i64.wrap (2 * A) = 2 * A) (w4 : IntKind.i64.wrap (L + 1) = L + 1) (t5 : L.tmod 2 = L % 2) (t6 : IntKind.i64.wrap (L % 2) = L % 2) (hz : (A == 0) = false) (g : P ≤ 2 * A) (w : World) : Calls Tryz.prog 89 #[fmt e f, .int .i64 u, .int .i64 1, .bool neg] w fun rv w' => rv = .returned (.int .i64 (L + 1)) ∧ Ext w w' := by
  obtain ⟨u1, u2, _⟩ := un_bd hg
  have kn : IntKind.i64.wrap (-unV e f) = -unV e f := IntWalk.i64_in _ (by omega)
  have RU := Lib.hid (fun w => rdUnit_any e f hg w)
  have RP := Lib.hid (fun w => rdPower_any (-unV e f) (by omega) (by omega) w)
  rw [hP] at RP
  generalize unV e f = U at *
  clear u1 u2
  go_enter Tryz.func89, Tryz.ntmps89
  go_wp2_with (first | (go_at_call 87; refine (RU.out _).mono ?_; rintro rv w1 ⟨rfl, hb⟩; have ns : w.heap.size < w1.heap.size := hb.ltK; have n0 : w1.cell? ⟨w.heap.size, 0, none⟩ = some (.int .i64 e) := hb.cellK; have n1 : w1.cell? ⟨w.heap.size, 1, none⟩ = some (.int .i64 f) := hb.cellK; (first | (have nx := Ext.trans hx hb; clear hx) | (have nx := Ext.trans (hx.alloc _) hb; clear hx) | (have nx := Ext.trans hx.drew hb; clear hx) | have nx := hb); clear hb; try clear hs; try clear g0; try clear g1; have hx := nx; clear nx; have hs := ns; clear ns; have g0 := n0; clear n0; have g1 := n1; clear n1) | (go_at_call 101; refine (RP.out _).mono ?_; rintro rv w1 ⟨rfl, rfl⟩))
  go_region
  go_wp2_with fail
  try (go_region; go_wp2_with fail)
  go_ret
  exact ⟨rfl, Ext.auK⟩

theorem arWhole_awL (e f u L A P : Int) (neg : Bool) (hg : goodB e f = true) (hP : pw (-unV e f) = P) (t1 : u.tmod P = A) (t2 : u.tdiv P = L) (t4 : (P == 0) = false) (t3 : ¬ P = 0) (t7 : IntKind.i64.wrap (u.tmod P) = A) (w1 : IntKind.i64.wrap L = L) (w2 : IntKind.i64.wrap A = A) (w3 : IntKind.i64.wrap (2 * A) = 2 * A) (w4 : IntKind.i64.wrap (L + 1) = L + 1) (t5 : L.tmod 2 = L % 2) (t6 : IntKind.i64.wrap (L % 2) = L % 2) (hz : (A == 0) = false) (g : ¬ P ≤ 2 * A) (w : World) : Calls Tryz.prog 89 #[fmt e f, .int .i64 u, .int .i64 1, .bool neg] w fun rv w' => rv = .returned (.int .i64 (L)) ∧ Ext w w' := by
  obtain ⟨u1, u2, _⟩ := un_bd hg
  have kn : IntKind.i64.wrap (-unV e f) = -unV e f := IntWalk.i64_in _ (by omega)
  have RU := Lib.hid (fun w => rdUnit_any e f hg w)
  have RP := Lib.hid (fun w => rdPower_any (-unV e f) (by omega) (by omega) w)
  rw [hP] at RP
  generalize unV e f = U at *
  clear u1 u2
  go_enter Tryz.func89, Tryz.ntmps89
  go_wp2_with (first | (go_at_call 87; refine (RU.out _).mono ?_; rintro rv w1 ⟨rfl, hb⟩; have ns : w.heap.size < w1.heap.size := hb.ltK; have n0 : w1.cell? ⟨w.heap.size, 0, none⟩ = some (.int .i64 e) := hb.cellK; have n1 : w1.cell? ⟨w.heap.size, 1, none⟩ = some (.int .i64 f) := hb.cellK; (first | (have nx := Ext.trans hx hb; clear hx) | (have nx := Ext.trans (hx.alloc _) hb; clear hx) | (have nx := Ext.trans hx.drew hb; clear hx) | have nx := hb); clear hb; try clear hs; try clear g0; try clear g1; have hx := nx; clear nx; have hs := ns; clear ns; have g0 := n0; clear n0; have g1 := n1; clear n1) | (go_at_call 101; refine (RP.out _).mono ?_; rintro rv w1 ⟨rfl, rfl⟩))
  go_region
  go_wp2_with fail
  try (go_region; go_wp2_with fail)
  go_ret
  exact ⟨rfl, Ext.auK⟩

theorem arWhole_upP (e f u L A P : Int) (hg : goodB e f = true) (hP : pw (-unV e f) = P) (t1 : u.tmod P = A) (t2 : u.tdiv P = L) (t4 : (P == 0) = false) (t3 : ¬ P = 0) (t7 : IntKind.i64.wrap (u.tmod P) = A) (w1 : IntKind.i64.wrap L = L) (w2 : IntKind.i64.wrap A = A) (w3 : IntKind.i64.wrap (2 * A) = 2 * A) (w4 : IntKind.i64.wrap (L + 1) = L + 1) (t5 : L.tmod 2 = L % 2) (t6 : IntKind.i64.wrap (L % 2) = L % 2) (hz : (A == 0) = false) (w : World) : Calls Tryz.prog 89 #[fmt e f, .int .i64 u, .int .i64 3, .bool false] w fun rv w' => rv = .returned (.int .i64 (L + 1)) ∧ Ext w w' := by
  obtain ⟨u1, u2, _⟩ := un_bd hg
  have kn : IntKind.i64.wrap (-unV e f) = -unV e f := IntWalk.i64_in _ (by omega)
  have RU := Lib.hid (fun w => rdUnit_any e f hg w)
  have RP := Lib.hid (fun w => rdPower_any (-unV e f) (by omega) (by omega) w)
  rw [hP] at RP
  generalize unV e f = U at *
  clear u1 u2
  go_enter Tryz.func89, Tryz.ntmps89
  go_wp2_with (first | (go_at_call 87; refine (RU.out _).mono ?_; rintro rv w1 ⟨rfl, hb⟩; have ns : w.heap.size < w1.heap.size := hb.ltK; have n0 : w1.cell? ⟨w.heap.size, 0, none⟩ = some (.int .i64 e) := hb.cellK; have n1 : w1.cell? ⟨w.heap.size, 1, none⟩ = some (.int .i64 f) := hb.cellK; (first | (have nx := Ext.trans hx hb; clear hx) | (have nx := Ext.trans (hx.alloc _) hb; clear hx) | (have nx := Ext.trans hx.drew hb; clear hx) | have nx := hb); clear hb; try clear hs; try clear g0; try clear g1; have hx := nx; clear nx; have hs := ns; clear ns; have g0 := n0; clear n0; have g1 := n1; clear n1) | (go_at_call 101; refine (RP.out _).mono ?_; rintro rv w1 ⟨rfl, rfl⟩))
  go_region
  go_wp2_with fail
  try (go_region; go_wp2_with fail)
  go_ret
  exact ⟨rfl, Ext.auK⟩

theorem arWhole_upN (e f u L A P : Int) (hg : goodB e f = true) (hP : pw (-unV e f) = P) (t1 : u.tmod P = A) (t2 : u.tdiv P = L) (t4 : (P == 0) = false) (t3 : ¬ P = 0) (t7 : IntKind.i64.wrap (u.tmod P) = A) (w1 : IntKind.i64.wrap L = L) (w2 : IntKind.i64.wrap A = A) (w3 : IntKind.i64.wrap (2 * A) = 2 * A) (w4 : IntKind.i64.wrap (L + 1) = L + 1) (t5 : L.tmod 2 = L % 2) (t6 : IntKind.i64.wrap (L % 2) = L % 2) (hz : (A == 0) = false) (w : World) : Calls Tryz.prog 89 #[fmt e f, .int .i64 u, .int .i64 3, .bool true] w fun rv w' => rv = .returned (.int .i64 (L)) ∧ Ext w w' := by
  obtain ⟨u1, u2, _⟩ := un_bd hg
  have kn : IntKind.i64.wrap (-unV e f) = -unV e f := IntWalk.i64_in _ (by omega)
  have RU := Lib.hid (fun w => rdUnit_any e f hg w)
  have RP := Lib.hid (fun w => rdPower_any (-unV e f) (by omega) (by omega) w)
  rw [hP] at RP
  generalize unV e f = U at *
  clear u1 u2
  go_enter Tryz.func89, Tryz.ntmps89
  go_wp2_with (first | (go_at_call 87; refine (RU.out _).mono ?_; rintro rv w1 ⟨rfl, hb⟩; have ns : w.heap.size < w1.heap.size := hb.ltK; have n0 : w1.cell? ⟨w.heap.size, 0, none⟩ = some (.int .i64 e) := hb.cellK; have n1 : w1.cell? ⟨w.heap.size, 1, none⟩ = some (.int .i64 f) := hb.cellK; (first | (have nx := Ext.trans hx hb; clear hx) | (have nx := Ext.trans (hx.alloc _) hb; clear hx) | (have nx := Ext.trans hx.drew hb; clear hx) | have nx := hb); clear hb; try clear hs; try clear g0; try clear g1; have hx := nx; clear nx; have hs := ns; clear ns; have g0 := n0; clear n0; have g1 := n1; clear n1) | (go_at_call 101; refine (RP.out _).mono ?_; rintro rv w1 ⟨rfl, rfl⟩))
  go_region
  go_wp2_with fail
  try (go_region; go_wp2_with fail)
  go_ret
  exact ⟨rfl, Ext.auK⟩

theorem arWhole_dnP (e f u L A P : Int) (hg : goodB e f = true) (hP : pw (-unV e f) = P) (t1 : u.tmod P = A) (t2 : u.tdiv P = L) (t4 : (P == 0) = false) (t3 : ¬ P = 0) (t7 : IntKind.i64.wrap (u.tmod P) = A) (w1 : IntKind.i64.wrap L = L) (w2 : IntKind.i64.wrap A = A) (w3 : IntKind.i64.wrap (2 * A) = 2 * A) (w4 : IntKind.i64.wrap (L + 1) = L + 1) (t5 : L.tmod 2 = L % 2) (t6 : IntKind.i64.wrap (L % 2) = L % 2) (hz : (A == 0) = false) (w : World) : Calls Tryz.prog 89 #[fmt e f, .int .i64 u, .int .i64 4, .bool false] w fun rv w' => rv = .returned (.int .i64 (L)) ∧ Ext w w' := by
  obtain ⟨u1, u2, _⟩ := un_bd hg
  have kn : IntKind.i64.wrap (-unV e f) = -unV e f := IntWalk.i64_in _ (by omega)
  have RU := Lib.hid (fun w => rdUnit_any e f hg w)
  have RP := Lib.hid (fun w => rdPower_any (-unV e f) (by omega) (by omega) w)
  rw [hP] at RP
  generalize unV e f = U at *
  clear u1 u2
  go_enter Tryz.func89, Tryz.ntmps89
  go_wp2_with (first | (go_at_call 87; refine (RU.out _).mono ?_; rintro rv w1 ⟨rfl, hb⟩; have ns : w.heap.size < w1.heap.size := hb.ltK; have n0 : w1.cell? ⟨w.heap.size, 0, none⟩ = some (.int .i64 e) := hb.cellK; have n1 : w1.cell? ⟨w.heap.size, 1, none⟩ = some (.int .i64 f) := hb.cellK; (first | (have nx := Ext.trans hx hb; clear hx) | (have nx := Ext.trans (hx.alloc _) hb; clear hx) | (have nx := Ext.trans hx.drew hb; clear hx) | have nx := hb); clear hb; try clear hs; try clear g0; try clear g1; have hx := nx; clear nx; have hs := ns; clear ns; have g0 := n0; clear n0; have g1 := n1; clear n1) | (go_at_call 101; refine (RP.out _).mono ?_; rintro rv w1 ⟨rfl, rfl⟩))
  go_region
  go_wp2_with fail
  try (go_region; go_wp2_with fail)
  go_ret
  exact ⟨rfl, Ext.auK⟩

theorem arWhole_dnN (e f u L A P : Int) (hg : goodB e f = true) (hP : pw (-unV e f) = P) (t1 : u.tmod P = A) (t2 : u.tdiv P = L) (t4 : (P == 0) = false) (t3 : ¬ P = 0) (t7 : IntKind.i64.wrap (u.tmod P) = A) (w1 : IntKind.i64.wrap L = L) (w2 : IntKind.i64.wrap A = A) (w3 : IntKind.i64.wrap (2 * A) = 2 * A) (w4 : IntKind.i64.wrap (L + 1) = L + 1) (t5 : L.tmod 2 = L % 2) (t6 : IntKind.i64.wrap (L % 2) = L % 2) (hz : (A == 0) = false) (w : World) : Calls Tryz.prog 89 #[fmt e f, .int .i64 u, .int .i64 4, .bool true] w fun rv w' => rv = .returned (.int .i64 (L + 1)) ∧ Ext w w' := by
  obtain ⟨u1, u2, _⟩ := un_bd hg
  have kn : IntKind.i64.wrap (-unV e f) = -unV e f := IntWalk.i64_in _ (by omega)
  have RU := Lib.hid (fun w => rdUnit_any e f hg w)
  have RP := Lib.hid (fun w => rdPower_any (-unV e f) (by omega) (by omega) w)
  rw [hP] at RP
  generalize unV e f = U at *
  clear u1 u2
  go_enter Tryz.func89, Tryz.ntmps89
  go_wp2_with (first | (go_at_call 87; refine (RU.out _).mono ?_; rintro rv w1 ⟨rfl, hb⟩; have ns : w.heap.size < w1.heap.size := hb.ltK; have n0 : w1.cell? ⟨w.heap.size, 0, none⟩ = some (.int .i64 e) := hb.cellK; have n1 : w1.cell? ⟨w.heap.size, 1, none⟩ = some (.int .i64 f) := hb.cellK; (first | (have nx := Ext.trans hx hb; clear hx) | (have nx := Ext.trans (hx.alloc _) hb; clear hx) | (have nx := Ext.trans hx.drew hb; clear hx) | have nx := hb); clear hb; try clear hs; try clear g0; try clear g1; have hx := nx; clear nx; have hs := ns; clear ns; have g0 := n0; clear n0; have g1 := n1; clear n1) | (go_at_call 101; refine (RP.out _).mono ?_; rintro rv w1 ⟨rfl, rfl⟩))
  go_region
  go_wp2_with fail
  try (go_region; go_wp2_with fail)
  go_ret
  exact ⟨rfl, Ext.auK⟩

theorem arWhole_odO (e f u L A P : Int) (neg : Bool) (hg : goodB e f = true) (hP : pw (-unV e f) = P) (t1 : u.tmod P = A) (t2 : u.tdiv P = L) (t4 : (P == 0) = false) (t3 : ¬ P = 0) (t7 : IntKind.i64.wrap (u.tmod P) = A) (w1 : IntKind.i64.wrap L = L) (w2 : IntKind.i64.wrap A = A) (w3 : IntKind.i64.wrap (2 * A) = 2 * A) (w4 : IntKind.i64.wrap (L + 1) = L + 1) (t5 : L.tmod 2 = L % 2) (t6 : IntKind.i64.wrap (L % 2) = L % 2) (hz : (A == 0) = false) (g3 : L % 2 = 1) (w : World) : Calls Tryz.prog 89 #[fmt e f, .int .i64 u, .int .i64 5, .bool neg] w fun rv w' => rv = .returned (.int .i64 (L)) ∧ Ext w w' := by
  obtain ⟨u1, u2, _⟩ := un_bd hg
  have kn : IntKind.i64.wrap (-unV e f) = -unV e f := IntWalk.i64_in _ (by omega)
  have RU := Lib.hid (fun w => rdUnit_any e f hg w)
  have RP := Lib.hid (fun w => rdPower_any (-unV e f) (by omega) (by omega) w)
  rw [hP] at RP
  generalize unV e f = U at *
  clear u1 u2
  go_enter Tryz.func89, Tryz.ntmps89
  go_wp2_with (first | (go_at_call 87; refine (RU.out _).mono ?_; rintro rv w1 ⟨rfl, hb⟩; have ns : w.heap.size < w1.heap.size := hb.ltK; have n0 : w1.cell? ⟨w.heap.size, 0, none⟩ = some (.int .i64 e) := hb.cellK; have n1 : w1.cell? ⟨w.heap.size, 1, none⟩ = some (.int .i64 f) := hb.cellK; (first | (have nx := Ext.trans hx hb; clear hx) | (have nx := Ext.trans (hx.alloc _) hb; clear hx) | (have nx := Ext.trans hx.drew hb; clear hx) | have nx := hb); clear hb; try clear hs; try clear g0; try clear g1; have hx := nx; clear nx; have hs := ns; clear ns; have g0 := n0; clear n0; have g1 := n1; clear n1) | (go_at_call 101; refine (RP.out _).mono ?_; rintro rv w1 ⟨rfl, rfl⟩))
  go_region
  go_wp2_with fail
  try (go_region; go_wp2_with fail)
  go_ret
  exact ⟨rfl, Ext.auK⟩

theorem arWhole_odE (e f u L A P : Int) (neg : Bool) (hg : goodB e f = true) (hP : pw (-unV e f) = P) (t1 : u.tmod P = A) (t2 : u.tdiv P = L) (t4 : (P == 0) = false) (t3 : ¬ P = 0) (t7 : IntKind.i64.wrap (u.tmod P) = A) (w1 : IntKind.i64.wrap L = L) (w2 : IntKind.i64.wrap A = A) (w3 : IntKind.i64.wrap (2 * A) = 2 * A) (w4 : IntKind.i64.wrap (L + 1) = L + 1) (t5 : L.tmod 2 = L % 2) (t6 : IntKind.i64.wrap (L % 2) = L % 2) (hz : (A == 0) = false) (g3 : L % 2 = 0) (w : World) : Calls Tryz.prog 89 #[fmt e f, .int .i64 u, .int .i64 5, .bool neg] w fun rv w' => rv = .returned (.int .i64 (L + 1)) ∧ Ext w w' := by
  obtain ⟨u1, u2, _⟩ := un_bd hg
  have kn : IntKind.i64.wrap (-unV e f) = -unV e f := IntWalk.i64_in _ (by omega)
  have RU := Lib.hid (fun w => rdUnit_any e f hg w)
  have RP := Lib.hid (fun w => rdPower_any (-unV e f) (by omega) (by omega) w)
  rw [hP] at RP
  generalize unV e f = U at *
  clear u1 u2
  go_enter Tryz.func89, Tryz.ntmps89
  go_wp2_with (first | (go_at_call 87; refine (RU.out _).mono ?_; rintro rv w1 ⟨rfl, hb⟩; have ns : w.heap.size < w1.heap.size := hb.ltK; have n0 : w1.cell? ⟨w.heap.size, 0, none⟩ = some (.int .i64 e) := hb.cellK; have n1 : w1.cell? ⟨w.heap.size, 1, none⟩ = some (.int .i64 f) := hb.cellK; (first | (have nx := Ext.trans hx hb; clear hx) | (have nx := Ext.trans (hx.alloc _) hb; clear hx) | (have nx := Ext.trans hx.drew hb; clear hx) | have nx := hb); clear hb; try clear hs; try clear g0; try clear g1; have hx := nx; clear nx; have hs := ns; clear ns; have g0 := n0; clear n0; have g1 := n1; clear n1) | (go_at_call 101; refine (RP.out _).mono ?_; rintro rv w1 ⟨rfl, rfl⟩))
  go_region
  go_wp2_with fail
  try (go_region; go_wp2_with fail)
  go_ret
  exact ⟨rfl, Ext.auK⟩

theorem arWhole_any (e f u mode : Int) (neg : Bool) (hg : goodB e f = true) (u0 : 0 ≤ u) (u1 : u ≤ 4398046511104) (m0 : 0 ≤ mode) (m1 : mode ≤ 5) (w : World) : Calls Tryz.prog 89 #[fmt e f, .int .i64 u, .int .i64 mode, .bool neg] w fun rv w' => rv = .returned (.int .i64 (whV u (pw (-unV e f)) mode neg)) ∧ Ext w w' := by
  obtain ⟨v1, v2, _⟩ := un_bd hg
  obtain ⟨P, hP⟩ : ∃ P, pw (-unV e f) = P := ⟨_, rfl⟩
  have p1 := pw_pos (-unV e f)
  have p2 : pw (-unV e f) ≤ 16777216 := pw_le 24 16777216 rfl (by omega)
  rw [hP] at p1 p2 ⊢
  have t1 : u.tmod P = u % P := Int.tmod_eq_emod_of_nonneg u0
  have t2 : u.tdiv P = u / P := Int.tdiv_eq_ediv_of_nonneg u0
  have t4 : (P == 0) = false := by simp; omega
  have t3 : ¬ P = 0 := by omega
  have r0 := Int.emod_nonneg u (show P ≠ 0 by omega)
  have r1 := Int.emod_lt_of_pos u (show 0 < P by omega)
  have q0 : 0 ≤ u / P := Int.ediv_nonneg u0 (by omega)
  have q1 : u / P ≤ u := Int.ediv_le_self _ u0
  unfold whV
  generalize u / P = L at *
  generalize u % P = A at *
  have w1 : IntKind.i64.wrap L = L := IntWalk.i64_in _ (by omega)
  have w2 : IntKind.i64.wrap A = A := IntWalk.i64_in _ (by omega)
  have t7 : IntKind.i64.wrap (u.tmod P) = A := by rw [t1]; exact w2
  have w3 : IntKind.i64.wrap (2 * A) = 2 * A := IntWalk.i64_in _ (by omega)
  have w4 : IntKind.i64.wrap (L + 1) = L + 1 := IntWalk.i64_in _ (by omega)
  have t5 : L.tmod 2 = L % 2 := Int.tmod_eq_emod_of_nonneg q0
  have t6 : IntKind.i64.wrap (L % 2) = L % 2 := IntWalk.i64_in _ (by omega)
  have par : L % 2 = 0 ∨ L % 2 = 1 := by omega
  by_cases hz : A = 0
  · have r := arWhole_zero e f u L A P mode neg hg hP t1 t2 t4 t3 t7 w1 w2 w3 w4 t5 t6 (by simpa using hz) w
    rwa [show rndP A P L mode neg = L from by unfold rndP; rw [if_pos hz]]
  · have hz2 : (A == 0) = false := by simpa using hz
    rw [show rndP A P L mode neg = if upR A P L mode neg = true then L + 1 else L from by unfold rndP; rw [if_neg hz]]
    have hmode : mode = 0 ∨ mode = 1 ∨ mode = 2 ∨ mode = 3 ∨ mode = 4 ∨ mode = 5 := by omega
    rcases hmode with rfl | rfl | rfl | rfl | rfl | rfl
    · rw [show upR A P L 0 neg = decide (P < 2 * A ∨ (2 * A = P ∧ L % 2 = 1)) from rfl]
      by_cases g : P < 2 * A
      · rw [decide_eq_true (Or.inl g)]; exact arWhole_evG e f u L A P neg hg hP t1 t2 t4 t3 t7 w1 w2 w3 w4 t5 t6 hz2 g w
      · by_cases g2 : 2 * A = P
        · rcases par with h | h
          · rw [decide_eq_false (by omega)]; exact arWhole_evE e f u L A P neg hg hP t1 t2 t4 t3 t7 w1 w2 w3 w4 t5 t6 hz2 g (by simpa using g2) h w
          · rw [decide_eq_true (by omega)]; exact arWhole_evO e f u L A P neg hg hP t1 t2 t4 t3 t7 w1 w2 w3 w4 t5 t6 hz2 g (by simpa using g2) h w
        · rw [decide_eq_false (by omega)]; exact arWhole_evL e f u L A P neg hg hP t1 t2 t4 t3 t7 w1 w2 w3 w4 t5 t6 hz2 g (by simpa using g2) w
    · rw [show upR A P L 1 neg = decide (P ≤ 2 * A) from rfl]
      by_cases g : P ≤ 2 * A
      · rw [decide_eq_true g]; exact arWhole_awG e f u L A P neg hg hP t1 t2 t4 t3 t7 w1 w2 w3 w4 t5 t6 hz2 g w
      · rw [decide_eq_false g]; exact arWhole_awL e f u L A P neg hg hP t1 t2 t4 t3 t7 w1 w2 w3 w4 t5 t6 hz2 g w
    · exact arWhole_cut e f u L A P neg hg hP t1 t2 t4 t3 t7 w1 w2 w3 w4 t5 t6 hz2 w
    · cases neg
      · exact arWhole_upP e f u L A P hg hP t1 t2 t4 t3 t7 w1 w2 w3 w4 t5 t6 hz2 w
      · exact arWhole_upN e f u L A P hg hP t1 t2 t4 t3 t7 w1 w2 w3 w4 t5 t6 hz2 w
    · cases neg
      · exact arWhole_dnP e f u L A P hg hP t1 t2 t4 t3 t7 w1 w2 w3 w4 t5 t6 hz2 w
      · exact arWhole_dnN e f u L A P hg hP t1 t2 t4 t3 t7 w1 w2 w3 w4 t5 t6 hz2 w
    · rw [show upR A P L 5 neg = decide (L % 2 = 0) from rfl]
      rcases par with h | h
      · rw [decide_eq_true h]; exact arWhole_odE e f u L A P neg hg hP t1 t2 t4 t3 t7 w1 w2 w3 w4 t5 t6 hz2 h w
      · rw [decide_eq_false (by omega)]; exact arWhole_odO e f u L A P neg hg hP t1 t2 t4 t3 t7 w1 w2 w3 w4 t5 t6 hz2 h w
end Go.Proofs.YtfgbndjhaiigbaaGreatDoor

namespace Go.Proofs.YtfgbndjhaiigbaaGreatDoor
open Go Go.RowKit
set_option linter.unusedSimpArgs false
set_option linter.unusedVariables false
set_option maxRecDepth 100000

attribute [local go_sem] ta_finite_finite ta_finite_infinite ta_finite_noNumber ta_infinite_finite ta_infinite_infinite ta_infinite_noNumber ta_noNumber_finite ta_noNumber_infinite ta_noNumber_noNumber

theorem together_any (m1 n1 x1 m2 n2 x2 d1 d2 : Int) (h1 : x1 - min x1 x2 = d1) (h2 : x2 - min x1 x2 = d2) (v0 : 0 ≤ d1) (v1 : d1 ≤ 62) (v2 : 0 ≤ d2) (v3 : d2 ≤ 62) (k1 : IntKind.i64.wrap (n1 * pw d1) = n1 * pw d1) (k2 : IntKind.i64.wrap (n2 * pw d2) = n2 * pw d2) (w : World) : Calls Tryz.prog 134 #[.agg #[.int .i64 m1, .int .i64 n1, .int .i64 x1], .agg #[.int .i64 m2, .int .i64 n2, .int .i64 x2]] w fun rv w' => rv = .returned (.tuple #[.int .i64 (n1 * pw d1), .int .i64 (n2 * pw d2), .int .i64 (min x1 x2)]) ∧ Ext w w' := by
  have w1 : IntKind.i64.wrap d1 = d1 := IntWalk.i64_in _ (by omega)
  have w2 : IntKind.i64.wrap d2 = d2 := IntWalk.i64_in _ (by omega)
  have z1 : min d1.toNat 64 = d1.toNat := by omega
  have z2 : min d2.toNat 64 = d2.toNat := by omega
  have y1 : ¬ d1 < 0 := by omega
  have y2 : ¬ d2 < 0 := by omega
  have e1 := pw_of d1
  have e2 := pw_of d2
  go_enter Tryz.func134, Tryz.ntmps134
  go_wp2
  go_region_held3 (fun w' => w'.cell? ⟨w.heap.size, 0, none⟩ = some (.int .i64 m1) ∧ w'.cell? ⟨w.heap.size, 1, none⟩ = some (.int .i64 n1) ∧ w'.cell? ⟨w.heap.size, 2, none⟩ = some (.int .i64 x1) ∧ w'.cell? ⟨w.heap.size + 1, 0, none⟩ = some (.int .i64 m2) ∧ w'.cell? ⟨w.heap.size + 1, 1, none⟩ = some (.int .i64 n2) ∧ w'.cell? ⟨w.heap.size + 1, 2, none⟩ = some (.int .i64 x2) ∧ w.heap.size + 1 < w'.heap.size) ((refine ⟨?_, ?_, ?_, ?_, ?_, ?_, ?_⟩ <;> first | with_reducible assumption | ((repeat first | rw [cell_set_far _ _ _ _ _ _ (by omega)] | rw [cell_alloc_before _ _ _ _ (by omega)] | rw [cell_alloc_drew _ _ _ _ (by omega)] | rw [cell_drew]); with_reducible assumption) | ((rw [cell_setRow_far _ _ _ _ _ (by omega)]); with_reducible assumption) | ((rw [setRow_size]); with_reducible assumption) | (simp; done) | (simp [World.setCell]; first | done | omega) | (simp [go_sem, World.cell?_alloc_past, World.cell?_setCell_far, *]; done))) (fail)
  go_wp2
  go_ret3
  exact ⟨rfl, Ext.auK⟩

theorem wholeQuotient_p (a b mode z : Int) (neg : Bool) (R S : Nat) (b0 : 0 < b) (t1 : a.tmod b = a % b) (t2 : a.tdiv b = a / b) (w1 : IntKind.i64.wrap (a / b) = a / b) (w2 : IntKind.i64.wrap (a % b) = a % b) (f1 : floatOfInt .f32 (a % b) = R) (f2 : floatOfInt .f32 b = S) (RR : Hid (∀ w, Calls Tryz.prog 160 #[.agg #[.int .i64 (a / b), .float .f32 R, .float .f32 S], .int .i64 mode, .bool neg] w fun rv w' => rv = .returned (.int .i64 z) ∧ Ext w w')) (w : World) : Calls Tryz.prog 135 #[.int .i64 a, .int .i64 b, .int .i64 mode, .bool neg] w fun rv w' => rv = .returned (.int .i64 z) ∧ Ext w w' := by
  have t3 : ¬ b = 0 := by omega
  have t4 : (b == 0) = false := by simpa using t3
  have BLD : ∀ (p : Int) (x y : Nat) w, (Instr.build 140 #[(0, .int .i64 p), (1, .float .f32 x), (2, .float .f32 y)]).run Tryz.prog w = .ok (.agg #[.int .i64 p, .float .f32 x, .float .f32 y]) w := fun p x y w => run_build w _ _ _ (by kernel_rfl)
  go_enter Tryz.func135, Tryz.ntmps135
  go_wp2
  go_region_held3 (fun w' => True) (trivial) ((go_at_call 160; refine (RR.out _).mono ?_; rintro rv w1 ⟨rfl, hb⟩; have hx : Ext w w1 := Ext.trans Ext.auK hb; clear hb))
  go_wp2
  go_ret
  exact ⟨rfl, Ext.auK⟩

theorem wholeQuotient_any (a b mode : Int) (neg : Bool) (a0 : 0 ≤ a) (a1 : a < 1152921504606846976) (b0 : 0 < b) (b1 : b < 1152921504606846976) (m0 : 0 ≤ mode) (m1 : mode ≤ 5) (okR : Ok Ieee.single ((a % b).toNat * 2 ^ 149)) (ltR : (a % b).toNat * 2 ^ 149 < 2 ^ 192) (okS : Ok Ieee.single (b.toNat * 2 ^ 149)) (w : World) : Calls Tryz.prog 135 #[.int .i64 a, .int .i64 b, .int .i64 mode, .bool neg] w fun rv w' => rv = .returned (.int .i64 (whV a b mode neg)) ∧ Ext w w' := by
  have r0 := Int.emod_nonneg a (show b ≠ 0 by omega)
  have r1 := Int.emod_lt_of_pos a b0
  have q0 : 0 ≤ a / b := Int.ediv_nonneg a0 (by omega)
  have q1 : a / b ≤ a := Int.ediv_le_self _ a0
  have t1 : a.tmod b = a % b := Int.tmod_eq_emod_of_nonneg a0
  have t2 : a.tdiv b = a / b := Int.tdiv_eq_ediv_of_nonneg a0
  have t4 : (b == 0) = false := by simp; omega
  have w1 : IntKind.i64.wrap (a / b) = a / b := IntWalk.i64_in _ (by omega)
  have w2 : IntKind.i64.wrap (a % b) = a % b := IntWalk.i64_in _ (by omega)
  have hz : 0 < pw 149 := by have := pw_pos 149; omega
  have f1 : floatOfInt .f32 (a % b) = fw Ieee.single ((a % b).toNat * 2 ^ 149) := by
    have := int_fw (f := Ieee.single) (a % b).toNat 149 (by decide)
    rw [Int.toNat_of_nonneg r0] at this
    exact this
  have f2 : floatOfInt .f32 b = fw Ieee.single (b.toNat * 2 ^ 149) := by
    have := int_fw (f := Ieee.single) b.toNat 149 (by decide)
    rw [Int.toNat_of_nonneg (show 0 ≤ b by omega)] at this
    exact this
  have eR : ((((a % b).toNat * 2 ^ 149 : Nat)) : Int) = (a % b) * pw 149 := by rw [Int.natCast_mul, Int.toNat_of_nonneg r0, pw_cast]; rfl
  have eS : (((b.toNat * 2 ^ 149 : Nat)) : Int) = b * pw 149 := by rw [Int.natCast_mul, Int.toNat_of_nonneg (show 0 ≤ b by omega), pw_cast]; rfl
  have eP : rndP (((a % b).toNat * 2 ^ 149 : Nat) : Int) ((b.toNat * 2 ^ 149 : Nat) : Int) (a / b) mode neg = rndP (a % b) b (a / b) mode neg := by rw [eR, eS]; exact rndP_mul hz
  have rr := fun w => (rounded_any (a / b) mode _ _ neg q0 (by omega) okR ltR okS m0 m1 w).mono (fun rv w1 h => (⟨by rw [h.1, eP], h.2⟩ : rv = .returned (.int .i64 (rndP (a % b) b (a / b) mode neg)) ∧ Ext w w1))
  clear eR eS eP
  unfold whV
  exact wholeQuotient_p a b mode _ neg _ _ b0 t1 t2 w1 w2 f1 f2 (Lib.hid rr) w
end Go.Proofs.YtfgbndjhaiigbaaGreatDoor

namespace Go.Proofs.YtfgbndjhaiigbaaGreatDoor
open Go Go.RowKit
set_option linter.unusedSimpArgs false
set_option linter.unusedVariables false
set_option maxRecDepth 100000

attribute [local go_sem] ta_finite_finite ta_finite_infinite ta_finite_noNumber ta_infinite_finite ta_infinite_infinite ta_infinite_noNumber ta_noNumber_finite ta_noNumber_infinite ta_noNumber_noNumber

/-- What a whole number is. -/
def WhD (e f a mode r : Int) : Prop := (kindV e f a = 4 ∧ r = quV e f) ∨ ((kindV e f a = 3 ∨ kindV e f a = 0) ∧ r = a) ∨ ((kindV e f a = 1 ∨ kindV e f a = 2) ∧ ∃ s, r = s + (a / pw (e + f)) * pw (e + f) ∧ RndD e f (whV ((unitsV e f a).natAbs : Int) (pw (-(unV e f))) mode ((a / pw (e + f)) == 1)) (0 - (unV e f)) mode ((a / pw (e + f)) == 1) s)

theorem wo_one {e f a mode r r2 : Int} (hg : goodB e f = true) (h : WhD e f a mode r) (h2 : WhD e f a mode r2) : r = r2 := by
  have hf := (good_iff.1 hg).2.2.1
  have hp : (0 : Int) < pw 149 := by have := pw_pos 149; omega
  rcases h with ⟨a1, b1⟩ | ⟨a1, b1⟩ | ⟨a1, s, b1, c1⟩ <;> rcases h2 with ⟨a2, b2⟩ | ⟨a2, b2⟩ | ⟨a2, s2, b2, c2⟩ <;> first | omega | (have := rnd_one hf hp c1 c2; omega)

theorem ok_npw {n k : Int} (h0 : 0 ≤ n) (h1 : n < 16777216) (k0 : 0 ≤ k) (k1 : k ≤ 100) : Ok Ieee.single ((n * pw k).toNat * 2 ^ 149) := by
  have e : n * pw k = ((n.toNat * 2 ^ k.toNat : Nat) : Int) := by rw [Int.natCast_mul, Int.toNat_of_nonneg h0, pw_cast, Int.toNat_of_nonneg k0]
  rw [e, Int.toNat_natCast, Nat.mul_assoc, ← Nat.pow_add]
  exact ok32 (by omega) (by omega)

theorem lt_few {n : Int} (h0 : 0 ≤ n) (h1 : n < 16777216) : n.toNat * 2 ^ 149 < 2 ^ 192 := by
  have h : n.toNat < 2 ^ 24 := by omega
  refine Nat.lt_of_lt_of_le (Nat.mul_lt_mul_of_pos_right h (Nat.two_pow_pos 149)) ?_
  rw [← Nat.pow_add]
  exact Nat.pow_le_pow_right (by decide) (by decide)

theorem ok_few {n : Int} (h0 : 0 ≤ n) (h1 : n < 16777216) : Ok Ieee.single (n.toNat * 2 ^ 149) := ok32 (by omega) (by decide)

/-- The size of a value, and a one, as multiples of the lesser power: the number of units, and of the units in a one. -/
theorem wh_units {e f a mode : Int} {neg : Bool} (hap : patB e f a = true) (na : (unitsV e f a) ≠ 0) : whV (((odV (unitsV e f a)).natAbs : Int) * pw ((shE (unitsV e f a) (unV e f)) - min (shE (unitsV e f a) (unV e f)) 0)) (1 * pw (0 - min (shE (unitsV e f a) (unV e f)) 0)) mode neg = whV ((unitsV e f a).natAbs : Int) (pw (-(unV e f))) mode neg := by
  have ub := units_bd e f a hap
  have u := un_bd (pat_iff.1 hap).1
  obtain ⟨t0, t1, t2, t3⟩ := tz_spec (unitsV e f a) na (by omega) (by omega)
  have hx : (shE (unitsV e f a) (unV e f)) = (unV e f) + tzV (unitsV e f a) := if_neg na
  have hm : (unV e f) ≤ min (shE (unitsV e f a) (unV e f)) 0 := by omega
  have q := pw_pos (min (shE (unitsV e f a) (unV e f)) 0 - (unV e f))
  have q2 := pw_pos (0 - min (shE (unitsV e f a) (unV e f)) 0)
  have e1 : ((odV (unitsV e f a)).natAbs : Int) * pw ((shE (unitsV e f a) (unV e f)) - min (shE (unitsV e f a) (unV e f)) 0) * pw (min (shE (unitsV e f a) (unV e f)) 0 - (unV e f)) = ((unitsV e f a).natAbs : Int) := by
    rw [Int.mul_assoc, ← pw_add _ _ (by omega) (by omega), show (shE (unitsV e f a) (unV e f)) - min (shE (unitsV e f a) (unV e f)) 0 + (min (shE (unitsV e f a) (unV e f)) 0 - (unV e f)) = tzV (unitsV e f a) by omega]
    have p := pw_pos (tzV (unitsV e f a))
    have h : ((odV (unitsV e f a) * pw (tzV (unitsV e f a))).natAbs : Int) = ((odV (unitsV e f a)).natAbs : Int) * pw (tzV (unitsV e f a)) := by
      rw [Int.natAbs_mul, Int.natCast_mul, Int.natAbs_of_nonneg (show 0 ≤ pw (tzV (unitsV e f a)) by omega)]
    rw [← t2] at h
    exact h.symm
  have e2 : 1 * pw (0 - min (shE (unitsV e f a) (unV e f)) 0) * pw (min (shE (unitsV e f a) (unV e f)) 0 - (unV e f)) = pw (-(unV e f)) := by
    rw [Int.one_mul, ← pw_add _ _ (by omega) (by omega)]
    congr 1
    omega
  rw [← e1, ← e2]
  exact (wh_mul (by omega) (by omega)).symm

theorem wh_null {b mode : Int} {neg : Bool} : whV 0 b mode neg = 0 := by
  unfold whV rndP
  simp

theorem whole_any (m n x k : Int) (v0 : 0 ≤ n) (v1 : n ≤ 2048) (x0 : -24 ≤ x) (x1 : x ≤ 41) (m0 : 0 ≤ k) (m1 : k ≤ 5) (w : World) : Calls Tryz.prog 92 #[.agg #[.int .i64 m, .int .i64 n, .int .i64 x], .int .i64 k] w fun rv w' => rv = .returned (.int .i64 (whV (n * pw (x - min x 0)) (1 * pw (0 - min x 0)) k (m == 1))) ∧ Ext w w' := by
  have d1 : 0 ≤ x - min x 0 ∧ x - min x 0 ≤ 41 := by omega
  have d2 : 0 ≤ 0 - min x 0 ∧ 0 - min x 0 ≤ 24 := by omega
  have p1 := pw_pos (x - min x 0)
  have p2 : pw (x - min x 0) ≤ 2199023255552 := pw_le 41 2199023255552 rfl (by omega)
  have q1 := pw_pos (0 - min x 0)
  have q2 : pw (0 - min x 0) ≤ 16777216 := pw_le 24 16777216 rfl (by omega)
  have A0 : 0 ≤ n * pw (x - min x 0) := Int.mul_nonneg v0 (by omega)
  have A1 : n * pw (x - min x 0) ≤ 2048 * 2199023255552 := Int.mul_le_mul v1 p2 (by omega) (by omega)
  have TG := Lib.hid (fun w => together_any m n x 0 1 0 _ _ rfl rfl (by omega) (by omega) (by omega) (by omega) (IntWalk.i64_in _ (by omega)) (IntWalk.i64_in _ (by omega)) w)
  have r0 := Int.emod_nonneg (n * pw (x - min x 0)) (show 1 * pw (0 - min x 0) ≠ 0 by omega)
  have r1 := Int.emod_lt_of_pos (n * pw (x - min x 0)) (show 0 < 1 * pw (0 - min x 0) by omega)
  have WQ := Lib.hid (fun w => wholeQuotient_any (n * pw (x - min x 0)) (1 * pw (0 - min x 0)) k (m == 1) A0 (by omega) (by omega) (by omega) m0 m1 (ok_few r0 (by omega)) (lt_few r0 (by omega)) (ok_npw (by omega) (by omega) (by omega) (by omega)) w)
  have BLD : ∀ w, (Instr.build 82 #[(1, .int .i64 1)]).run Tryz.prog w = .ok (.agg #[.int .i64 0, .int .i64 1, .int .i64 0]) w := fun w => run_build w _ _ _ (by kernel_rfl)
  clear d1 d2 p1 p2 q1 q2 A0 A1 r0 r1
  generalize n * pw (x - min x 0) = A at *
  generalize 1 * pw (0 - min x 0) = B at *
  generalize whV A B k (m == 1) = z at *
  generalize min x 0 = y at *
  go_enter Tryz.func92, Tryz.ntmps92
  go_wp2_with (first | (go_at_call 134; refine (TG.out _).mono ?_; rintro rv w1 ⟨rfl, hb⟩; have hx : Ext w w1 := Ext.trans Ext.auK hb; have ns : w.heap.size < w1.heap.size := hb.ltK; have g0 : w1.cell? ⟨w.heap.size, 0, none⟩ = some (.int .i64 m) := (hb.cells _ _ (by first | with_reducible assumption | omega | (simp; done) | (simp; omega))).trans (by first | (simp; done) | (simp [go_sem]; done)); clear hb) | (go_at_call 135; refine (WQ.out _).mono ?_; rintro rv w2 ⟨rfl, hb⟩; have hx2 : Ext w w2 := Ext.trans Ext.auK hb; clear hb hx))
  go_ret
  exact ⟨rfl, hx2⟩
end Go.Proofs.YtfgbndjhaiigbaaGreatDoor

namespace Go.Proofs.YtfgbndjhaiigbaaGreatDoor
open Go Go.RowKit
set_option linter.unusedSimpArgs false
set_option linter.unusedVariables false
set_option maxRecDepth 100000

/-- The whole number that is nearest to a fraction. -/
def nrV (u v : Int) : Int := if u < 0 then -whV (u.natAbs : Int) v 0 false else whV (u.natAbs : Int) v 0 false

/-- What is left of a division to the nearest whole number, in units. -/
def rmV (e f a b : Int) : Int := (unitsV e f a) - nrV (unitsV e f a) ((unitsV e f b).natAbs : Int) * ((unitsV e f b).natAbs : Int)

def rqP (e f a b : Int) : Prop := kindV e f a = 4 ∨ kindV e f b = 4 ∨ kindV e f a = 3 ∨ kindV e f b = 0

/-- What a remainder is. -/
def ReD (e f a b r : Int) : Prop := (rqP e f a b ∧ r = quV e f) ∨ (¬ rqP e f a b ∧ kindV e f b = 3 ∧ r = a) ∨ (¬ rqP e f a b ∧ kindV e f b ≠ 3 ∧ (rmV e f a b) = 0 ∧ r = (a / pw (e + f)) * pw (e + f)) ∨
  (¬ rqP e f a b ∧ kindV e f b ≠ 3 ∧ (rmV e f a b) ≠ 0 ∧ ∃ s, r = sgP e f (rmV e f a b) s ∧ RndD e f (((rmV e f a b)).natAbs : Int) 0 0 (decide ((rmV e f a b) < 0)) s)

theorem re_one {e f a b r r2 : Int} (hg : goodB e f = true) (h : ReD e f a b r) (h2 : ReD e f a b r2) : r = r2 := by
  have hf := (good_iff.1 hg).2.2.1
  have hp : (0 : Int) < pw 149 := by have := pw_pos 149; omega
  rcases h with ⟨a1, b1⟩ | ⟨a1, a2, b1⟩ | ⟨a1, a2, a3, b1⟩ | ⟨a1, a2, a3, s, b1, c1⟩ <;> rcases h2 with ⟨d1, e1⟩ | ⟨d1, d2, e1⟩ | ⟨d1, d2, d3, e1⟩ | ⟨d1, d2, d3, s2, e1, f1⟩ <;>
    first | (rw [b1, e1]; done) | (exact absurd a1 d1) | (exact absurd d1 a1) | (exact absurd a3 d3) | (exact absurd d3 a3) | (obtain rfl := rnd_one hf hp c1 f1; rw [b1, e1]; done) | omega

/-- A number of units is the size of its value times a power. -/
theorem un_size {e f a : Int} (hap : patB e f a = true) : ((odV (unitsV e f a)).natAbs : Int) * pw ((shE (unitsV e f a) (unV e f)) - (unV e f)) = ((unitsV e f a).natAbs : Int) := by
  have ub := units_bd e f a hap
  by_cases na : (unitsV e f a) = 0
  · rw [na, od_zero, show ((Int.natAbs 0 : Nat) : Int) = 0 from rfl, Int.zero_mul]
  · obtain ⟨t0, t1, t2, t3⟩ := tz_spec (unitsV e f a) na (by omega) (by omega)
    have hx : (shE (unitsV e f a) (unV e f)) = (unV e f) + tzV (unitsV e f a) := if_neg na
    have p := pw_pos (tzV (unitsV e f a))
    rw [hx, show (unV e f) + tzV (unitsV e f a) - (unV e f) = tzV (unitsV e f a) by omega]
    have h : ((odV (unitsV e f a) * pw (tzV (unitsV e f a))).natAbs : Int) = ((odV (unitsV e f a)).natAbs : Int) * pw (tzV (unitsV e f a)) := by
      rw [Int.natAbs_mul, Int.natCast_mul, Int.natAbs_of_nonneg (show 0 ≤ pw (tzV (unitsV e f a)) by omega)]
    rw [← t2] at h
    exact h.symm

theorem mag_mg {e f p : Int} (hp : patB e f p = true) : magV e f p = mgV f (p % pw (e + f)) := by
  obtain ⟨hg, p0, p1⟩ := pat_iff.1 hp
  obtain ⟨h1, h2, h3, h4⟩ := good_iff.1 hg
  have hd : pw (e + f) = pw e * pw f := pw_add e f (by omega) (by omega)
  have hm : p % pw (e + f) % pw f = p % pw f := by
    rw [hd]
    exact Int.emod_emod_of_dvd p ⟨pw e, Int.mul_comm _ _⟩
  unfold magV mgV
  rw [hm]

/-- A value of the format is rounded to itself. -/
theorem rnd_self {e f a mode : Int} {neg : Bool} (fa : finB e f a = true) : RndD e f ((odV (unitsV e f a)).natAbs : Int) ((shE (unitsV e f a) (unV e f)) - (unV e f)) mode neg (a % pw (e + f)) := by
  obtain ⟨hap, hm⟩ := fin_mag.1 fa
  obtain ⟨hg, p0, p1⟩ := pat_iff.1 hap
  have hf := (good_iff.1 hg).2.2.1
  have u1 := un_bd hg
  have q := pw_pos 149
  have c2 := pw_pos (e + f)
  have r0 := Int.emod_nonneg a (show pw (e + f) ≠ 0 by omega)
  have hgr : a % pw (e + f) ≤ grV e f := by unfold grV; omega
  have hx : -149 ≤ (shE (unitsV e f a) (unV e f)) - (unV e f) ∧ 0 ≤ (shE (unitsV e f a) (unV e f)) - (unV e f) + 0 := by
    obtain ⟨_, _, x1, x2, x3⟩ := un_small hap
    by_cases h : (unitsV e f a) = 0
    · have := x3 h; omega
    · have := x2 h; omega
  have hN : ((odV (unitsV e f a)).natAbs : Int) * pw ((shE (unitsV e f a) (unV e f)) - (unV e f) + 149) = mgV f (a % pw (e + f)) * pw 149 := by
    rw [pw_add _ _ (by omega) (by omega), ← Int.mul_assoc, un_size hap, ← mag_mg hap]
    congr 1
    have m0 := (mag_bd e f a hap).1
    unfold unitsV
    split <;> omega
  refine ⟨a % pw (e + f), ⟨r0, hgr, by rw [hN]; exact Int.le_refl _, Or.inr ?_⟩, ?_⟩
  · rw [hN]
    exact Int.mul_lt_mul_of_pos_right (by have := mg_next hf r0; omega) (by omega)
  · rw [hN, Int.sub_self]
    unfold rndP
    simp

theorem self_form {e f a : Int} (hap : patB e f a = true) : a % pw (e + f) + (a / pw (e + f)) * pw (e + f) = a := by
  have := Int.mul_ediv_add_emod a (pw (e + f))
  rw [Int.mul_comm]; omega

theorem arNearest_nG (num den q0 r0 : Int) (t2 : num.tdiv den = q0) (t3 : ¬ den = 0) (t4 : (den == 0) = false) (wq : IntKind.i64.wrap q0 = q0) (kq : IntKind.i64.wrap (q0 * den) = q0 * den) (kr : IntKind.i64.wrap (num - q0 * den) = r0) (hr : ¬ r0 < 0) (w3 : IntKind.i64.wrap (2 * r0) = 2 * r0) (w4 : IntKind.i64.wrap (q0 + 1) = q0 + 1) (g : den < 2 * r0) (w : World) : Calls Tryz.prog 83 #[.int .i64 num, .int .i64 den] w fun rv w' => rv = .returned (.int .i64 (q0 + 1)) ∧ Ext w w' := by
  go_enter Tryz.func83, Tryz.ntmps83
  go_wp2
  try (go_region; go_wp2_with fail)
  go_ret
  exact ⟨rfl, Ext.auK⟩

theorem arNearest_nL (num den q0 r0 : Int) (t2 : num.tdiv den = q0) (t3 : ¬ den = 0) (t4 : (den == 0) = false) (wq : IntKind.i64.wrap q0 = q0) (kq : IntKind.i64.wrap (q0 * den) = q0 * den) (kr : IntKind.i64.wrap (num - q0 * den) = r0) (hr : ¬ r0 < 0) (w3 : IntKind.i64.wrap (2 * r0) = 2 * r0) (w4 : IntKind.i64.wrap (q0 + 1) = q0 + 1) (g : ¬ den < 2 * r0) (g2 : (2 * r0 == den) = false) (w : World) : Calls Tryz.prog 83 #[.int .i64 num, .int .i64 den] w fun rv w' => rv = .returned (.int .i64 (q0)) ∧ Ext w w' := by
  go_enter Tryz.func83, Tryz.ntmps83
  go_wp2
  try (go_region; go_wp2_with fail)
  go_ret
  exact ⟨rfl, Ext.auK⟩

theorem arNearest_nE (num den q0 r0 : Int) (t2 : num.tdiv den = q0) (t3 : ¬ den = 0) (t4 : (den == 0) = false) (wq : IntKind.i64.wrap q0 = q0) (kq : IntKind.i64.wrap (q0 * den) = q0 * den) (kr : IntKind.i64.wrap (num - q0 * den) = r0) (hr : ¬ r0 < 0) (w3 : IntKind.i64.wrap (2 * r0) = 2 * r0) (w4 : IntKind.i64.wrap (q0 + 1) = q0 + 1) (g : ¬ den < 2 * r0) (g2 : (2 * r0 == den) = true) (t5 : q0.tmod 2 = 0) (w : World) : Calls Tryz.prog 83 #[.int .i64 num, .int .i64 den] w fun rv w' => rv = .returned (.int .i64 (q0)) ∧ Ext w w' := by
  go_enter Tryz.func83, Tryz.ntmps83
  go_wp2
  try (go_region; go_wp2_with fail)
  go_ret
  exact ⟨rfl, Ext.auK⟩

theorem arNearest_nEo (num den q0 r0 : Int) (t2 : num.tdiv den = q0) (t3 : ¬ den = 0) (t4 : (den == 0) = false) (wq : IntKind.i64.wrap q0 = q0) (kq : IntKind.i64.wrap (q0 * den) = q0 * den) (kr : IntKind.i64.wrap (num - q0 * den) = r0) (hr : ¬ r0 < 0) (w3 : IntKind.i64.wrap (2 * r0) = 2 * r0) (w4 : IntKind.i64.wrap (q0 + 1) = q0 + 1) (g : ¬ den < 2 * r0) (g2 : (2 * r0 == den) = true) (t5 : q0.tmod 2 = 1) (w : World) : Calls Tryz.prog 83 #[.int .i64 num, .int .i64 den] w fun rv w' => rv = .returned (.int .i64 (q0 + 1)) ∧ Ext w w' := by
  go_enter Tryz.func83, Tryz.ntmps83
  go_wp2
  try (go_region; go_wp2_with fail)
  go_ret
  exact ⟨rfl, Ext.auK⟩

theorem arNearest_mG (num den q0 r0 q1 r1 : Int) (t2 : num.tdiv den = q0) (t3 : ¬ den = 0) (t4 : (den == 0) = false) (wq : IntKind.i64.wrap q0 = q0) (kq : IntKind.i64.wrap (q0 * den) = q0 * den) (kr : IntKind.i64.wrap (num - q0 * den) = r0) (hr : r0 < 0) (k1 : IntKind.i64.wrap (r0 + den) = r1) (k2 : IntKind.i64.wrap (q0 - 1) = q1) (w3 : IntKind.i64.wrap (2 * r1) = 2 * r1) (w4 : IntKind.i64.wrap (q1 + 1) = q1 + 1) (g : den < 2 * r1) (w : World) : Calls Tryz.prog 83 #[.int .i64 num, .int .i64 den] w fun rv w' => rv = .returned (.int .i64 (q1 + 1)) ∧ Ext w w' := by
  go_enter Tryz.func83, Tryz.ntmps83
  go_wp2
  try (go_region; go_wp2_with fail)
  go_ret
  exact ⟨rfl, Ext.auK⟩

theorem arNearest_mL (num den q0 r0 q1 r1 : Int) (t2 : num.tdiv den = q0) (t3 : ¬ den = 0) (t4 : (den == 0) = false) (wq : IntKind.i64.wrap q0 = q0) (kq : IntKind.i64.wrap (q0 * den) = q0 * den) (kr : IntKind.i64.wrap (num - q0 * den) = r0) (hr : r0 < 0) (k1 : IntKind.i64.wrap (r0 + den) = r1) (k2 : IntKind.i64.wrap (q0 - 1) = q1) (w3 : IntKind.i64.wrap (2 * r1) = 2 * r1) (w4 : IntKind.i64.wrap (q1 + 1) = q1 + 1) (g : ¬ den < 2 * r1) (g2 : (2 * r1 == den) = false) (w : World) : Calls Tryz.prog 83 #[.int .i64 num, .int .i64 den] w fun rv w' => rv = .returned (.int .i64 (q1)) ∧ Ext w w' := by
  go_enter Tryz.func83, Tryz.ntmps83
  go_wp2
  try (go_region; go_wp2_with fail)
  go_ret
  exact ⟨rfl, Ext.auK⟩

theorem arNearest_mE (num den q0 r0 q1 r1 : Int) (t2 : num.tdiv den = q0) (t3 : ¬ den = 0) (t4 : (den == 0) = false) (wq : IntKind.i64.wrap q0 = q0) (kq : IntKind.i64.wrap (q0 * den) = q0 * den) (kr : IntKind.i64.wrap (num - q0 * den) = r0) (hr : r0 < 0) (k1 : IntKind.i64.wrap (r0 + den) = r1) (k2 : IntKind.i64.wrap (q0 - 1) = q1) (w3 : IntKind.i64.wrap (2 * r1) = 2 * r1) (w4 : IntKind.i64.wrap (q1 + 1) = q1 + 1) (g : ¬ den < 2 * r1) (g2 : (2 * r1 == den) = true) (t5 : q1.tmod 2 = 0) (w : World) : Calls Tryz.prog 83 #[.int .i64 num, .int .i64 den] w fun rv w' => rv = .returned (.int .i64 (q1)) ∧ Ext w w' := by
  go_enter Tryz.func83, Tryz.ntmps83
  go_wp2
  try (go_region; go_wp2_with fail)
  go_ret
  exact ⟨rfl, Ext.auK⟩

theorem arNearest_mEm (num den q0 r0 q1 r1 : Int) (t2 : num.tdiv den = q0) (t3 : ¬ den = 0) (t4 : (den == 0) = false) (wq : IntKind.i64.wrap q0 = q0) (kq : IntKind.i64.wrap (q0 * den) = q0 * den) (kr : IntKind.i64.wrap (num - q0 * den) = r0) (hr : r0 < 0) (k1 : IntKind.i64.wrap (r0 + den) = r1) (k2 : IntKind.i64.wrap (q0 - 1) = q1) (w3 : IntKind.i64.wrap (2 * r1) = 2 * r1) (w4 : IntKind.i64.wrap (q1 + 1) = q1 + 1) (g : ¬ den < 2 * r1) (g2 : (2 * r1 == den) = true) (t5 : q1.tmod 2 = -1) (w : World) : Calls Tryz.prog 83 #[.int .i64 num, .int .i64 den] w fun rv w' => rv = .returned (.int .i64 (q1 + 1)) ∧ Ext w w' := by
  go_enter Tryz.func83, Tryz.ntmps83
  go_wp2
  try (go_region; go_wp2_with fail)
  go_ret
  exact ⟨rfl, Ext.auK⟩

theorem wh_up {A B L : Int} (h : B < 2 * A ∨ (2 * A = B ∧ L % 2 = 1)) (hA : ¬ A = 0) : rndP A B L 0 false = L + 1 := by
  unfold rndP; rw [if_neg hA, show upR A B L 0 false = decide (B < 2 * A ∨ (2 * A = B ∧ L % 2 = 1)) from rfl, decide_eq_true h]; rfl

theorem wh_dn {A B L : Int} (h : ¬ (B < 2 * A ∨ (2 * A = B ∧ L % 2 = 1))) : rndP A B L 0 false = L := by
  unfold rndP
  split
  · rfl
  · rw [show upR A B L 0 false = decide (B < 2 * A ∨ (2 * A = B ∧ L % 2 = 1)) from rfl, decide_eq_false h]; rfl

theorem arNearest_any (u v : Int) (u0 : -4398046511104 ≤ u) (u1 : u ≤ 4398046511104) (v0 : 0 < v) (v1 : v ≤ 4398046511104) (w : World) : Calls Tryz.prog 83 #[.int .i64 u, .int .i64 v] w fun rv w' => rv = .returned (.int .i64 (nrV u v)) ∧ Ext w w' := by
  have t3 : ¬ v = 0 := by omega
  have t4 : (v == 0) = false := by simpa using t3
  obtain ⟨N, hN⟩ : ∃ N : Int, (u.natAbs : Int) = N := ⟨_, rfl⟩
  have N0 : 0 ≤ N := by omega
  have d1 := Int.mul_ediv_add_emod N v
  have r0 := Int.emod_nonneg N t3
  have r1 := Int.emod_lt_of_pos N v0
  have q0 : 0 ≤ N / v := Int.ediv_nonneg N0 (by omega)
  have q1 : N / v ≤ N := Int.ediv_le_self _ N0
  have td : N.tdiv v = N / v := Int.tdiv_eq_ediv_of_nonneg N0
  have lv : N / v * v ≤ N := by rw [Int.mul_comm]; omega
  have lv0 : 0 ≤ N / v * v := Int.mul_nonneg q0 (by omega)
  rw [Int.mul_comm] at d1
  unfold nrV whV
  rw [hN]
  generalize N / v = L at *
  generalize N % v = A at *
  have wq : IntKind.i64.wrap L = L := IntWalk.i64_in _ (by omega)
  have wq2 : IntKind.i64.wrap (-L) = -L := IntWalk.i64_in _ (by omega)
  have nm : -L * v = -(L * v) := Int.neg_mul _ _
  have kq : IntKind.i64.wrap (L * v) = L * v := IntWalk.i64_in _ (by omega)
  have kq2 : IntKind.i64.wrap (-L * v) = -L * v := IntWalk.i64_in _ (by omega)
  have par : L % 2 = 0 ∨ L % 2 = 1 := by omega
  by_cases h : u < 0
  · rw [if_pos h]
    have t2 : u.tdiv v = -L := by rw [show u = -N by omega, Int.neg_tdiv, td]
    by_cases hA : A = 0
    · have kr : IntKind.i64.wrap (u - -L * v) = 0 := by rw [IntWalk.i64_in _ (by omega)]; omega
      rw [wh_dn (by omega)]
      exact arNearest_nL u v (-L) 0 t2 t3 t4 wq2 kq2 kr (by omega) (IntWalk.i64_in _ (by omega)) (IntWalk.i64_in _ (by omega)) (by omega) (by simp; omega) w
    · have kr : IntKind.i64.wrap (u - -L * v) = -A := by rw [IntWalk.i64_in _ (by omega)]; omega
      have k1 : IntKind.i64.wrap (-A + v) = v - A := by rw [IntWalk.i64_in _ (by omega)]; omega
      have k2 : IntKind.i64.wrap (-L - 1) = -(L + 1) := by rw [IntWalk.i64_in _ (by omega)]; omega
      have w3 : IntKind.i64.wrap (2 * (v - A)) = 2 * (v - A) := IntWalk.i64_in _ (by omega)
      have w4 : IntKind.i64.wrap (-(L + 1) + 1) = -(L + 1) + 1 := IntWalk.i64_in _ (by omega)
      by_cases g : v < 2 * (v - A)
      · rw [wh_dn (by omega), show -L = -(L + 1) + 1 by omega]
        exact arNearest_mG u v (-L) (-A) (-(L + 1)) (v - A) t2 t3 t4 wq2 kq2 kr (by omega) k1 k2 w3 w4 g w
      · by_cases g2 : 2 * (v - A) = v
        · have tm : (-(L + 1)).tmod 2 = -((L + 1) % 2) := by rw [Int.neg_tmod, Int.tmod_eq_emod_of_nonneg (by omega)]
          rcases par with p | p
          · rw [wh_dn (by omega), show -L = -(L + 1) + 1 by omega]
            exact arNearest_mEm u v (-L) (-A) (-(L + 1)) (v - A) t2 t3 t4 wq2 kq2 kr (by omega) k1 k2 w3 w4 g (by simpa using g2) (by rw [tm]; omega) w
          · rw [wh_up (by omega) hA]
            exact arNearest_mE u v (-L) (-A) (-(L + 1)) (v - A) t2 t3 t4 wq2 kq2 kr (by omega) k1 k2 w3 w4 g (by simpa using g2) (by rw [tm]; omega) w
        · rw [wh_up (by omega) hA]
          exact arNearest_mL u v (-L) (-A) (-(L + 1)) (v - A) t2 t3 t4 wq2 kq2 kr (by omega) k1 k2 w3 w4 g (by simpa using g2) w
  · rw [if_neg h]
    have t2 : u.tdiv v = L := by rw [show u = N by omega, td]
    have kr : IntKind.i64.wrap (u - L * v) = A := by rw [IntWalk.i64_in _ (by omega)]; omega
    have w3 : IntKind.i64.wrap (2 * A) = 2 * A := IntWalk.i64_in _ (by omega)
    have w4 : IntKind.i64.wrap (L + 1) = L + 1 := IntWalk.i64_in _ (by omega)
    by_cases g : v < 2 * A
    · rw [wh_up (Or.inl g) (by omega)]
      exact arNearest_nG u v L A t2 t3 t4 wq kq kr (by omega) w3 w4 g w
    · by_cases g2 : 2 * A = v
      · have tm : L.tmod 2 = L % 2 := Int.tmod_eq_emod_of_nonneg q0
        rcases par with p | p
        · rw [wh_dn (by omega)]
          exact arNearest_nE u v L A t2 t3 t4 wq kq kr (by omega) w3 w4 g (by simpa using g2) (by rw [tm, p]) w
        · rw [wh_up (Or.inr ⟨g2, p⟩) (by omega)]
          exact arNearest_nEo u v L A t2 t3 t4 wq kq kr (by omega) w3 w4 g (by simpa using g2) (by rw [tm, p]) w
      · rw [wh_dn (by omega)]
        exact arNearest_nL u v L A t2 t3 t4 wq kq kr (by omega) w3 w4 g (by simpa using g2) w
end Go.Proofs.YtfgbndjhaiigbaaGreatDoor

namespace Go.Proofs.YtfgbndjhaiigbaaGreatDoor
open Go Go.RowKit
set_option linter.unusedSimpArgs false
set_option linter.unusedVariables false
set_option maxRecDepth 100000

/-- What RemainderOf asks for. -/
def reB (e f a b : Int) : Bool := patB e f a && patB e f b

theorem re_iff {e f a b : Int} : reB e f a b = true ↔ patB e f a = true ∧ patB e f b = true := by
  unfold reB; rw [Bool.and_eq_true]

theorem sRemainderOf_no (e f a b : Int) (hg : reB e f a b = false) (w : World) : Calls Tryz.prog 40 #[fmt e f, .int .i64 a, .int .i64 b] w fun rv w' => rv = .returned (.tuple #[.int .i64 0, .bool false]) ∧ Ext w w' := by
  unfold reB at hg
  cases h0 : patB e f a
  · go_enter Tryz.func40, Tryz.ntmps40
    go_wp2_with (first | (go_at_call 75; (with_reducible refine (fmIs_any e f a _).mono ?_); rintro rv w1 ⟨rfl, hb⟩; have ns : w.heap.size < w1.heap.size := hb.ltK; have n0 : w1.cell? ⟨w.heap.size, 0, none⟩ = some (.int .i64 e) := hb.cellK; have n1 : w1.cell? ⟨w.heap.size, 1, none⟩ = some (.int .i64 f) := hb.cellK; (first | (have nx := Ext.trans hx hb; clear hx) | (have nx := Ext.trans (hx.alloc _) hb; clear hx) | (have nx := Ext.trans hx.drew hb; clear hx) | have nx := hb); clear hb; try clear hs; try clear g0; try clear g1; have hx := nx; clear nx; have hs := ns; clear ns; have g0 := n0; clear n0; have g1 := n1; clear n1) | (go_at_call 75; (with_reducible refine (fmIs_any e f b _).mono ?_); rintro rv w1 ⟨rfl, hb⟩; have ns : w.heap.size < w1.heap.size := hb.ltK; have n0 : w1.cell? ⟨w.heap.size, 0, none⟩ = some (.int .i64 e) := hb.cellK; have n1 : w1.cell? ⟨w.heap.size, 1, none⟩ = some (.int .i64 f) := hb.cellK; (first | (have nx := Ext.trans hx hb; clear hx) | (have nx := Ext.trans (hx.alloc _) hb; clear hx) | (have nx := Ext.trans hx.drew hb; clear hx) | have nx := hb); clear hb; try clear hs; try clear g0; try clear g1; have hx := nx; clear nx; have hs := ns; clear ns; have g0 := n0; clear n0; have g1 := n1; clear n1))
    go_ret2
    exact ⟨rfl, Ext.auK⟩
  · rw [h0] at hg
    have h1 : patB e f b = false := by simpa using hg
    clear hg
    go_enter Tryz.func40, Tryz.ntmps40
    go_wp2_with (first | (go_at_call 75; (with_reducible refine (fmIs_any e f a _).mono ?_); rintro rv w1 ⟨rfl, hb⟩; have ns : w.heap.size < w1.heap.size := hb.ltK; have n0 : w1.cell? ⟨w.heap.size, 0, none⟩ = some (.int .i64 e) := hb.cellK; have n1 : w1.cell? ⟨w.heap.size, 1, none⟩ = some (.int .i64 f) := hb.cellK; (first | (have nx := Ext.trans hx hb; clear hx) | (have nx := Ext.trans (hx.alloc _) hb; clear hx) | (have nx := Ext.trans hx.drew hb; clear hx) | have nx := hb); clear hb; try clear hs; try clear g0; try clear g1; have hx := nx; clear nx; have hs := ns; clear ns; have g0 := n0; clear n0; have g1 := n1; clear n1) | (go_at_call 75; (with_reducible refine (fmIs_any e f b _).mono ?_); rintro rv w1 ⟨rfl, hb⟩; have ns : w.heap.size < w1.heap.size := hb.ltK; have n0 : w1.cell? ⟨w.heap.size, 0, none⟩ = some (.int .i64 e) := hb.cellK; have n1 : w1.cell? ⟨w.heap.size, 1, none⟩ = some (.int .i64 f) := hb.cellK; (first | (have nx := Ext.trans hx hb; clear hx) | (have nx := Ext.trans (hx.alloc _) hb; clear hx) | (have nx := Ext.trans hx.drew hb; clear hx) | have nx := hb); clear hb; try clear hs; try clear g0; try clear g1; have hx := nx; clear nx; have hs := ns; clear ns; have g0 := n0; clear n0; have g1 := n1; clear n1))
    go_ret2
    exact ⟨rfl, Ext.auK⟩

theorem sRemainderOf_xy (e f a b : Int) (hg : reB e f a b = true) (ha : kindV e f a = 4)  (w : World) : Calls Tryz.prog 40 #[fmt e f, .int .i64 a, .int .i64 b] w (ARboth (ReD e f a b) w) := by
  obtain ⟨hap, hbp⟩ := re_iff.1 hg
  have hgg := (pat_iff.1 hap).1
  have a0 := (pat_iff.1 hap).2.1
  have NA := Lib.hid (fun w => arNoK e f a true hap (by simp; omega) w)
  have IA := Lib.hid (fun w => arIsK e f a false hap (by simp; omega) w)
  have ZA := Lib.hid (fun w => arZeroK e f a false hap (by simp; omega) w)
  go_enter Tryz.func40, Tryz.ntmps40
  go_wp2_with (first | (go_at_call 75; (with_reducible refine (fmIs_any e f a _).mono ?_); rintro rv w1 ⟨rfl, hb⟩; have ns : w.heap.size < w1.heap.size := hb.ltK; have n0 : w1.cell? ⟨w.heap.size, 0, none⟩ = some (.int .i64 e) := hb.cellK; have n1 : w1.cell? ⟨w.heap.size, 1, none⟩ = some (.int .i64 f) := hb.cellK; (first | (have nx := Ext.trans hx hb; clear hx) | (have nx := Ext.trans (hx.alloc _) hb; clear hx) | (have nx := Ext.trans hx.drew hb; clear hx) | have nx := hb); clear hb; try clear hs; try clear g0; try clear g1; have hx := nx; clear nx; have hs := ns; clear ns; have g0 := n0; clear n0; have g1 := n1; clear n1) | (go_at_call 75; (with_reducible refine (fmIs_any e f b _).mono ?_); rintro rv w1 ⟨rfl, hb⟩; have ns : w.heap.size < w1.heap.size := hb.ltK; have n0 : w1.cell? ⟨w.heap.size, 0, none⟩ = some (.int .i64 e) := hb.cellK; have n1 : w1.cell? ⟨w.heap.size, 1, none⟩ = some (.int .i64 f) := hb.cellK; (first | (have nx := Ext.trans hx hb; clear hx) | (have nx := Ext.trans (hx.alloc _) hb; clear hx) | (have nx := Ext.trans hx.drew hb; clear hx) | have nx := hb); clear hb; try clear hs; try clear g0; try clear g1; have hx := nx; clear nx; have hs := ns; clear ns; have g0 := n0; clear n0; have g1 := n1; clear n1) | (go_at_call 77; (with_reducible refine (NA.out _).mono ?_); rintro rv w1 ⟨rfl, hb⟩; have ns : w.heap.size < w1.heap.size := hb.ltK; have n0 : w1.cell? ⟨w.heap.size, 0, none⟩ = some (.int .i64 e) := hb.cellK; have n1 : w1.cell? ⟨w.heap.size, 1, none⟩ = some (.int .i64 f) := hb.cellK; (first | (have nx := Ext.trans hx hb; clear hx) | (have nx := Ext.trans (hx.alloc _) hb; clear hx) | (have nx := Ext.trans hx.drew hb; clear hx) | have nx := hb); clear hb; try clear hs; try clear g0; try clear g1; have hx := nx; clear nx; have hs := ns; clear ns; have g0 := n0; clear n0; have g1 := n1; clear n1) | (go_at_call 78; (with_reducible refine (IA.out _).mono ?_); rintro rv w1 ⟨rfl, hb⟩; have ns : w.heap.size < w1.heap.size := hb.ltK; have n0 : w1.cell? ⟨w.heap.size, 0, none⟩ = some (.int .i64 e) := hb.cellK; have n1 : w1.cell? ⟨w.heap.size, 1, none⟩ = some (.int .i64 f) := hb.cellK; (first | (have nx := Ext.trans hx hb; clear hx) | (have nx := Ext.trans (hx.alloc _) hb; clear hx) | (have nx := Ext.trans hx.drew hb; clear hx) | have nx := hb); clear hb; try clear hs; try clear g0; try clear g1; have hx := nx; clear nx; have hs := ns; clear ns; have g0 := n0; clear n0; have g1 := n1; clear n1) | (go_at_call 79; (with_reducible refine (ZA.out _).mono ?_); rintro rv w1 ⟨rfl, hb⟩; have ns : w.heap.size < w1.heap.size := hb.ltK; have n0 : w1.cell? ⟨w.heap.size, 0, none⟩ = some (.int .i64 e) := hb.cellK; have n1 : w1.cell? ⟨w.heap.size, 1, none⟩ = some (.int .i64 f) := hb.cellK; (first | (have nx := Ext.trans hx hb; clear hx) | (have nx := Ext.trans (hx.alloc _) hb; clear hx) | (have nx := Ext.trans hx.drew hb; clear hx) | have nx := hb); clear hb; try clear hs; try clear g0; try clear g1; have hx := nx; clear nx; have hs := ns; clear ns; have g0 := n0; clear n0; have g1 := n1; clear n1) | (go_at_call 80; refine (arQuiet_any e f hgg _).mono ?_; rintro rv w1 ⟨rfl, hb⟩; have ns : w.heap.size < w1.heap.size := hb.ltK; have n0 : w1.cell? ⟨w.heap.size, 0, none⟩ = some (.int .i64 e) := hb.cellK; have n1 : w1.cell? ⟨w.heap.size, 1, none⟩ = some (.int .i64 f) := hb.cellK; (first | (have nx := Ext.trans hx hb; clear hx) | (have nx := Ext.trans (hx.alloc _) hb; clear hx) | (have nx := Ext.trans hx.drew hb; clear hx) | have nx := hb); clear hb; try clear hs; try clear g0; try clear g1; have hx := nx; clear nx; have hs := ns; clear ns; have g0 := n0; clear n0; have g1 := n1; clear n1))
  go_ret2
  exact ⟨_, rfl, Or.inl ⟨by unfold rqP; omega, rfl⟩, Ext.auK⟩

theorem sRemainderOf_ox (e f a b : Int) (hg : reB e f a b = true) (ha : kindV e f a ≠ 4) (hb : kindV e f b = 4) (w : World) : Calls Tryz.prog 40 #[fmt e f, .int .i64 a, .int .i64 b] w (ARboth (ReD e f a b) w) := by
  obtain ⟨hap, hbp⟩ := re_iff.1 hg
  have hgg := (pat_iff.1 hap).1
  have a0 := (pat_iff.1 hap).2.1
  have NA := Lib.hid (fun w => arNoK e f a false hap (by simp; omega) w)
  have NB := Lib.hid (fun w => arNoK e f b true hbp (by simp; omega) w)
  have IB := Lib.hid (fun w => arIsK e f b false hbp (by simp; omega) w)
  have ZB := Lib.hid (fun w => arZeroK e f b false hbp (by simp; omega) w)
  go_enter Tryz.func40, Tryz.ntmps40
  go_wp2_with (first | (go_at_call 75; (with_reducible refine (fmIs_any e f a _).mono ?_); rintro rv w1 ⟨rfl, hb⟩; have ns : w.heap.size < w1.heap.size := hb.ltK; have n0 : w1.cell? ⟨w.heap.size, 0, none⟩ = some (.int .i64 e) := hb.cellK; have n1 : w1.cell? ⟨w.heap.size, 1, none⟩ = some (.int .i64 f) := hb.cellK; (first | (have nx := Ext.trans hx hb; clear hx) | (have nx := Ext.trans (hx.alloc _) hb; clear hx) | (have nx := Ext.trans hx.drew hb; clear hx) | have nx := hb); clear hb; try clear hs; try clear g0; try clear g1; have hx := nx; clear nx; have hs := ns; clear ns; have g0 := n0; clear n0; have g1 := n1; clear n1) | (go_at_call 75; (with_reducible refine (fmIs_any e f b _).mono ?_); rintro rv w1 ⟨rfl, hb⟩; have ns : w.heap.size < w1.heap.size := hb.ltK; have n0 : w1.cell? ⟨w.heap.size, 0, none⟩ = some (.int .i64 e) := hb.cellK; have n1 : w1.cell? ⟨w.heap.size, 1, none⟩ = some (.int .i64 f) := hb.cellK; (first | (have nx := Ext.trans hx hb; clear hx) | (have nx := Ext.trans (hx.alloc _) hb; clear hx) | (have nx := Ext.trans hx.drew hb; clear hx) | have nx := hb); clear hb; try clear hs; try clear g0; try clear g1; have hx := nx; clear nx; have hs := ns; clear ns; have g0 := n0; clear n0; have g1 := n1; clear n1) | (go_at_call 77; (with_reducible refine (NA.out _).mono ?_); rintro rv w1 ⟨rfl, hb⟩; have ns : w.heap.size < w1.heap.size := hb.ltK; have n0 : w1.cell? ⟨w.heap.size, 0, none⟩ = some (.int .i64 e) := hb.cellK; have n1 : w1.cell? ⟨w.heap.size, 1, none⟩ = some (.int .i64 f) := hb.cellK; (first | (have nx := Ext.trans hx hb; clear hx) | (have nx := Ext.trans (hx.alloc _) hb; clear hx) | (have nx := Ext.trans hx.drew hb; clear hx) | have nx := hb); clear hb; try clear hs; try clear g0; try clear g1; have hx := nx; clear nx; have hs := ns; clear ns; have g0 := n0; clear n0; have g1 := n1; clear n1) | (go_at_call 77; (with_reducible refine (NB.out _).mono ?_); rintro rv w1 ⟨rfl, hb⟩; have ns : w.heap.size < w1.heap.size := hb.ltK; have n0 : w1.cell? ⟨w.heap.size, 0, none⟩ = some (.int .i64 e) := hb.cellK; have n1 : w1.cell? ⟨w.heap.size, 1, none⟩ = some (.int .i64 f) := hb.cellK; (first | (have nx := Ext.trans hx hb; clear hx) | (have nx := Ext.trans (hx.alloc _) hb; clear hx) | (have nx := Ext.trans hx.drew hb; clear hx) | have nx := hb); clear hb; try clear hs; try clear g0; try clear g1; have hx := nx; clear nx; have hs := ns; clear ns; have g0 := n0; clear n0; have g1 := n1; clear n1) | (go_at_call 78; (with_reducible refine (IB.out _).mono ?_); rintro rv w1 ⟨rfl, hb⟩; have ns : w.heap.size < w1.heap.size := hb.ltK; have n0 : w1.cell? ⟨w.heap.size, 0, none⟩ = some (.int .i64 e) := hb.cellK; have n1 : w1.cell? ⟨w.heap.size, 1, none⟩ = some (.int .i64 f) := hb.cellK; (first | (have nx := Ext.trans hx hb; clear hx) | (have nx := Ext.trans (hx.alloc _) hb; clear hx) | (have nx := Ext.trans hx.drew hb; clear hx) | have nx := hb); clear hb; try clear hs; try clear g0; try clear g1; have hx := nx; clear nx; have hs := ns; clear ns; have g0 := n0; clear n0; have g1 := n1; clear n1) | (go_at_call 79; (with_reducible refine (ZB.out _).mono ?_); rintro rv w1 ⟨rfl, hb⟩; have ns : w.heap.size < w1.heap.size := hb.ltK; have n0 : w1.cell? ⟨w.heap.size, 0, none⟩ = some (.int .i64 e) := hb.cellK; have n1 : w1.cell? ⟨w.heap.size, 1, none⟩ = some (.int .i64 f) := hb.cellK; (first | (have nx := Ext.trans hx hb; clear hx) | (have nx := Ext.trans (hx.alloc _) hb; clear hx) | (have nx := Ext.trans hx.drew hb; clear hx) | have nx := hb); clear hb; try clear hs; try clear g0; try clear g1; have hx := nx; clear nx; have hs := ns; clear ns; have g0 := n0; clear n0; have g1 := n1; clear n1) | (go_at_call 80; refine (arQuiet_any e f hgg _).mono ?_; rintro rv w1 ⟨rfl, hb⟩; have ns : w.heap.size < w1.heap.size := hb.ltK; have n0 : w1.cell? ⟨w.heap.size, 0, none⟩ = some (.int .i64 e) := hb.cellK; have n1 : w1.cell? ⟨w.heap.size, 1, none⟩ = some (.int .i64 f) := hb.cellK; (first | (have nx := Ext.trans hx hb; clear hx) | (have nx := Ext.trans (hx.alloc _) hb; clear hx) | (have nx := Ext.trans hx.drew hb; clear hx) | have nx := hb); clear hb; try clear hs; try clear g0; try clear g1; have hx := nx; clear nx; have hs := ns; clear ns; have g0 := n0; clear n0; have g1 := n1; clear n1))
  go_ret2
  exact ⟨_, rfl, Or.inl ⟨by unfold rqP; omega, rfl⟩, Ext.auK⟩

theorem sRemainderOf_io (e f a b : Int) (hg : reB e f a b = true) (ha : kindV e f a = 3) (hb : kindV e f b ≠ 4) (w : World) : Calls Tryz.prog 40 #[fmt e f, .int .i64 a, .int .i64 b] w (ARboth (ReD e f a b) w) := by
  obtain ⟨hap, hbp⟩ := re_iff.1 hg
  have hgg := (pat_iff.1 hap).1
  have a0 := (pat_iff.1 hap).2.1
  have NA := Lib.hid (fun w => arNoK e f a false hap (by simp; omega) w)
  have IA := Lib.hid (fun w => arIsK e f a true hap (by simp; omega) w)
  have ZA := Lib.hid (fun w => arZeroK e f a false hap (by simp; omega) w)
  have NB := Lib.hid (fun w => arNoK e f b false hbp (by simp; omega) w)
  go_enter Tryz.func40, Tryz.ntmps40
  go_wp2_with (first | (go_at_call 75; (with_reducible refine (fmIs_any e f a _).mono ?_); rintro rv w1 ⟨rfl, hb⟩; have ns : w.heap.size < w1.heap.size := hb.ltK; have n0 : w1.cell? ⟨w.heap.size, 0, none⟩ = some (.int .i64 e) := hb.cellK; have n1 : w1.cell? ⟨w.heap.size, 1, none⟩ = some (.int .i64 f) := hb.cellK; (first | (have nx := Ext.trans hx hb; clear hx) | (have nx := Ext.trans (hx.alloc _) hb; clear hx) | (have nx := Ext.trans hx.drew hb; clear hx) | have nx := hb); clear hb; try clear hs; try clear g0; try clear g1; have hx := nx; clear nx; have hs := ns; clear ns; have g0 := n0; clear n0; have g1 := n1; clear n1) | (go_at_call 75; (with_reducible refine (fmIs_any e f b _).mono ?_); rintro rv w1 ⟨rfl, hb⟩; have ns : w.heap.size < w1.heap.size := hb.ltK; have n0 : w1.cell? ⟨w.heap.size, 0, none⟩ = some (.int .i64 e) := hb.cellK; have n1 : w1.cell? ⟨w.heap.size, 1, none⟩ = some (.int .i64 f) := hb.cellK; (first | (have nx := Ext.trans hx hb; clear hx) | (have nx := Ext.trans (hx.alloc _) hb; clear hx) | (have nx := Ext.trans hx.drew hb; clear hx) | have nx := hb); clear hb; try clear hs; try clear g0; try clear g1; have hx := nx; clear nx; have hs := ns; clear ns; have g0 := n0; clear n0; have g1 := n1; clear n1) | (go_at_call 77; (with_reducible refine (NA.out _).mono ?_); rintro rv w1 ⟨rfl, hb⟩; have ns : w.heap.size < w1.heap.size := hb.ltK; have n0 : w1.cell? ⟨w.heap.size, 0, none⟩ = some (.int .i64 e) := hb.cellK; have n1 : w1.cell? ⟨w.heap.size, 1, none⟩ = some (.int .i64 f) := hb.cellK; (first | (have nx := Ext.trans hx hb; clear hx) | (have nx := Ext.trans (hx.alloc _) hb; clear hx) | (have nx := Ext.trans hx.drew hb; clear hx) | have nx := hb); clear hb; try clear hs; try clear g0; try clear g1; have hx := nx; clear nx; have hs := ns; clear ns; have g0 := n0; clear n0; have g1 := n1; clear n1) | (go_at_call 78; (with_reducible refine (IA.out _).mono ?_); rintro rv w1 ⟨rfl, hb⟩; have ns : w.heap.size < w1.heap.size := hb.ltK; have n0 : w1.cell? ⟨w.heap.size, 0, none⟩ = some (.int .i64 e) := hb.cellK; have n1 : w1.cell? ⟨w.heap.size, 1, none⟩ = some (.int .i64 f) := hb.cellK; (first | (have nx := Ext.trans hx hb; clear hx) | (have nx := Ext.trans (hx.alloc _) hb; clear hx) | (have nx := Ext.trans hx.drew hb; clear hx) | have nx := hb); clear hb; try clear hs; try clear g0; try clear g1; have hx := nx; clear nx; have hs := ns; clear ns; have g0 := n0; clear n0; have g1 := n1; clear n1) | (go_at_call 79; (with_reducible refine (ZA.out _).mono ?_); rintro rv w1 ⟨rfl, hb⟩; have ns : w.heap.size < w1.heap.size := hb.ltK; have n0 : w1.cell? ⟨w.heap.size, 0, none⟩ = some (.int .i64 e) := hb.cellK; have n1 : w1.cell? ⟨w.heap.size, 1, none⟩ = some (.int .i64 f) := hb.cellK; (first | (have nx := Ext.trans hx hb; clear hx) | (have nx := Ext.trans (hx.alloc _) hb; clear hx) | (have nx := Ext.trans hx.drew hb; clear hx) | have nx := hb); clear hb; try clear hs; try clear g0; try clear g1; have hx := nx; clear nx; have hs := ns; clear ns; have g0 := n0; clear n0; have g1 := n1; clear n1) | (go_at_call 77; (with_reducible refine (NB.out _).mono ?_); rintro rv w1 ⟨rfl, hb⟩; have ns : w.heap.size < w1.heap.size := hb.ltK; have n0 : w1.cell? ⟨w.heap.size, 0, none⟩ = some (.int .i64 e) := hb.cellK; have n1 : w1.cell? ⟨w.heap.size, 1, none⟩ = some (.int .i64 f) := hb.cellK; (first | (have nx := Ext.trans hx hb; clear hx) | (have nx := Ext.trans (hx.alloc _) hb; clear hx) | (have nx := Ext.trans hx.drew hb; clear hx) | have nx := hb); clear hb; try clear hs; try clear g0; try clear g1; have hx := nx; clear nx; have hs := ns; clear ns; have g0 := n0; clear n0; have g1 := n1; clear n1) | (go_at_call 80; refine (arQuiet_any e f hgg _).mono ?_; rintro rv w1 ⟨rfl, hb⟩; have ns : w.heap.size < w1.heap.size := hb.ltK; have n0 : w1.cell? ⟨w.heap.size, 0, none⟩ = some (.int .i64 e) := hb.cellK; have n1 : w1.cell? ⟨w.heap.size, 1, none⟩ = some (.int .i64 f) := hb.cellK; (first | (have nx := Ext.trans hx hb; clear hx) | (have nx := Ext.trans (hx.alloc _) hb; clear hx) | (have nx := Ext.trans hx.drew hb; clear hx) | have nx := hb); clear hb; try clear hs; try clear g0; try clear g1; have hx := nx; clear nx; have hs := ns; clear ns; have g0 := n0; clear n0; have g1 := n1; clear n1))
  go_ret2
  exact ⟨_, rfl, Or.inl ⟨by unfold rqP; omega, rfl⟩, Ext.auK⟩

theorem sRemainderOf_zz (e f a b : Int) (hg : reB e f a b = true) (ha : kindV e f a = 0) (hb : kindV e f b = 0) (w : World) : Calls Tryz.prog 40 #[fmt e f, .int .i64 a, .int .i64 b] w (ARboth (ReD e f a b) w) := by
  obtain ⟨hap, hbp⟩ := re_iff.1 hg
  have hgg := (pat_iff.1 hap).1
  have a0 := (pat_iff.1 hap).2.1
  have NA := Lib.hid (fun w => arNoK e f a false hap (by simp; omega) w)
  have IA := Lib.hid (fun w => arIsK e f a false hap (by simp; omega) w)
  have ZA := Lib.hid (fun w => arZeroK e f a true hap (by simp; omega) w)
  have NB := Lib.hid (fun w => arNoK e f b false hbp (by simp; omega) w)
  have IB := Lib.hid (fun w => arIsK e f b false hbp (by simp; omega) w)
  have ZB := Lib.hid (fun w => arZeroK e f b true hbp (by simp; omega) w)
  go_enter Tryz.func40, Tryz.ntmps40
  go_wp2_with (first | (go_at_call 75; (with_reducible refine (fmIs_any e f a _).mono ?_); rintro rv w1 ⟨rfl, hb⟩; have ns : w.heap.size < w1.heap.size := hb.ltK; have n0 : w1.cell? ⟨w.heap.size, 0, none⟩ = some (.int .i64 e) := hb.cellK; have n1 : w1.cell? ⟨w.heap.size, 1, none⟩ = some (.int .i64 f) := hb.cellK; (first | (have nx := Ext.trans hx hb; clear hx) | (have nx := Ext.trans (hx.alloc _) hb; clear hx) | (have nx := Ext.trans hx.drew hb; clear hx) | have nx := hb); clear hb; try clear hs; try clear g0; try clear g1; have hx := nx; clear nx; have hs := ns; clear ns; have g0 := n0; clear n0; have g1 := n1; clear n1) | (go_at_call 75; (with_reducible refine (fmIs_any e f b _).mono ?_); rintro rv w1 ⟨rfl, hb⟩; have ns : w.heap.size < w1.heap.size := hb.ltK; have n0 : w1.cell? ⟨w.heap.size, 0, none⟩ = some (.int .i64 e) := hb.cellK; have n1 : w1.cell? ⟨w.heap.size, 1, none⟩ = some (.int .i64 f) := hb.cellK; (first | (have nx := Ext.trans hx hb; clear hx) | (have nx := Ext.trans (hx.alloc _) hb; clear hx) | (have nx := Ext.trans hx.drew hb; clear hx) | have nx := hb); clear hb; try clear hs; try clear g0; try clear g1; have hx := nx; clear nx; have hs := ns; clear ns; have g0 := n0; clear n0; have g1 := n1; clear n1) | (go_at_call 77; (with_reducible refine (NA.out _).mono ?_); rintro rv w1 ⟨rfl, hb⟩; have ns : w.heap.size < w1.heap.size := hb.ltK; have n0 : w1.cell? ⟨w.heap.size, 0, none⟩ = some (.int .i64 e) := hb.cellK; have n1 : w1.cell? ⟨w.heap.size, 1, none⟩ = some (.int .i64 f) := hb.cellK; (first | (have nx := Ext.trans hx hb; clear hx) | (have nx := Ext.trans (hx.alloc _) hb; clear hx) | (have nx := Ext.trans hx.drew hb; clear hx) | have nx := hb); clear hb; try clear hs; try clear g0; try clear g1; have hx := nx; clear nx; have hs := ns; clear ns; have g0 := n0; clear n0; have g1 := n1; clear n1) | (go_at_call 78; (with_reducible refine (IA.out _).mono ?_); rintro rv w1 ⟨rfl, hb⟩; have ns : w.heap.size < w1.heap.size := hb.ltK; have n0 : w1.cell? ⟨w.heap.size, 0, none⟩ = some (.int .i64 e) := hb.cellK; have n1 : w1.cell? ⟨w.heap.size, 1, none⟩ = some (.int .i64 f) := hb.cellK; (first | (have nx := Ext.trans hx hb; clear hx) | (have nx := Ext.trans (hx.alloc _) hb; clear hx) | (have nx := Ext.trans hx.drew hb; clear hx) | have nx := hb); clear hb; try clear hs; try clear g0; try clear g1; have hx := nx; clear nx; have hs := ns; clear ns; have g0 := n0; clear n0; have g1 := n1; clear n1) | (go_at_call 79; (with_reducible refine (ZA.out _).mono ?_); rintro rv w1 ⟨rfl, hb⟩; have ns : w.heap.size < w1.heap.size := hb.ltK; have n0 : w1.cell? ⟨w.heap.size, 0, none⟩ = some (.int .i64 e) := hb.cellK; have n1 : w1.cell? ⟨w.heap.size, 1, none⟩ = some (.int .i64 f) := hb.cellK; (first | (have nx := Ext.trans hx hb; clear hx) | (have nx := Ext.trans (hx.alloc _) hb; clear hx) | (have nx := Ext.trans hx.drew hb; clear hx) | have nx := hb); clear hb; try clear hs; try clear g0; try clear g1; have hx := nx; clear nx; have hs := ns; clear ns; have g0 := n0; clear n0; have g1 := n1; clear n1) | (go_at_call 77; (with_reducible refine (NB.out _).mono ?_); rintro rv w1 ⟨rfl, hb⟩; have ns : w.heap.size < w1.heap.size := hb.ltK; have n0 : w1.cell? ⟨w.heap.size, 0, none⟩ = some (.int .i64 e) := hb.cellK; have n1 : w1.cell? ⟨w.heap.size, 1, none⟩ = some (.int .i64 f) := hb.cellK; (first | (have nx := Ext.trans hx hb; clear hx) | (have nx := Ext.trans (hx.alloc _) hb; clear hx) | (have nx := Ext.trans hx.drew hb; clear hx) | have nx := hb); clear hb; try clear hs; try clear g0; try clear g1; have hx := nx; clear nx; have hs := ns; clear ns; have g0 := n0; clear n0; have g1 := n1; clear n1) | (go_at_call 78; (with_reducible refine (IB.out _).mono ?_); rintro rv w1 ⟨rfl, hb⟩; have ns : w.heap.size < w1.heap.size := hb.ltK; have n0 : w1.cell? ⟨w.heap.size, 0, none⟩ = some (.int .i64 e) := hb.cellK; have n1 : w1.cell? ⟨w.heap.size, 1, none⟩ = some (.int .i64 f) := hb.cellK; (first | (have nx := Ext.trans hx hb; clear hx) | (have nx := Ext.trans (hx.alloc _) hb; clear hx) | (have nx := Ext.trans hx.drew hb; clear hx) | have nx := hb); clear hb; try clear hs; try clear g0; try clear g1; have hx := nx; clear nx; have hs := ns; clear ns; have g0 := n0; clear n0; have g1 := n1; clear n1) | (go_at_call 79; (with_reducible refine (ZB.out _).mono ?_); rintro rv w1 ⟨rfl, hb⟩; have ns : w.heap.size < w1.heap.size := hb.ltK; have n0 : w1.cell? ⟨w.heap.size, 0, none⟩ = some (.int .i64 e) := hb.cellK; have n1 : w1.cell? ⟨w.heap.size, 1, none⟩ = some (.int .i64 f) := hb.cellK; (first | (have nx := Ext.trans hx hb; clear hx) | (have nx := Ext.trans (hx.alloc _) hb; clear hx) | (have nx := Ext.trans hx.drew hb; clear hx) | have nx := hb); clear hb; try clear hs; try clear g0; try clear g1; have hx := nx; clear nx; have hs := ns; clear ns; have g0 := n0; clear n0; have g1 := n1; clear n1) | (go_at_call 80; refine (arQuiet_any e f hgg _).mono ?_; rintro rv w1 ⟨rfl, hb⟩; have ns : w.heap.size < w1.heap.size := hb.ltK; have n0 : w1.cell? ⟨w.heap.size, 0, none⟩ = some (.int .i64 e) := hb.cellK; have n1 : w1.cell? ⟨w.heap.size, 1, none⟩ = some (.int .i64 f) := hb.cellK; (first | (have nx := Ext.trans hx hb; clear hx) | (have nx := Ext.trans (hx.alloc _) hb; clear hx) | (have nx := Ext.trans hx.drew hb; clear hx) | have nx := hb); clear hb; try clear hs; try clear g0; try clear g1; have hx := nx; clear nx; have hs := ns; clear ns; have g0 := n0; clear n0; have g1 := n1; clear n1))
  go_ret2
  exact ⟨_, rfl, Or.inl ⟨by unfold rqP; omega, rfl⟩, Ext.auK⟩

theorem sRemainderOf_fz (e f a b : Int) (hg : reB e f a b = true) (ha : kindV e f a = 1 ∨ kindV e f a = 2) (hb : kindV e f b = 0) (w : World) : Calls Tryz.prog 40 #[fmt e f, .int .i64 a, .int .i64 b] w (ARboth (ReD e f a b) w) := by
  obtain ⟨hap, hbp⟩ := re_iff.1 hg
  have hgg := (pat_iff.1 hap).1
  have a0 := (pat_iff.1 hap).2.1
  have NA := Lib.hid (fun w => arNoK e f a false hap (by simp; omega) w)
  have IA := Lib.hid (fun w => arIsK e f a false hap (by simp; omega) w)
  have ZA := Lib.hid (fun w => arZeroK e f a false hap (by simp; omega) w)
  have NB := Lib.hid (fun w => arNoK e f b false hbp (by simp; omega) w)
  have IB := Lib.hid (fun w => arIsK e f b false hbp (by simp; omega) w)
  have ZB := Lib.hid (fun w => arZeroK e f b true hbp (by simp; omega) w)
  go_enter Tryz.func40, Tryz.ntmps40
  go_wp2_with (first | (go_at_call 75; (with_reducible refine (fmIs_any e f a _).mono ?_); rintro rv w1 ⟨rfl, hb⟩; have ns : w.heap.size < w1.heap.size := hb.ltK; have n0 : w1.cell? ⟨w.heap.size, 0, none⟩ = some (.int .i64 e) := hb.cellK; have n1 : w1.cell? ⟨w.heap.size, 1, none⟩ = some (.int .i64 f) := hb.cellK; (first | (have nx := Ext.trans hx hb; clear hx) | (have nx := Ext.trans (hx.alloc _) hb; clear hx) | (have nx := Ext.trans hx.drew hb; clear hx) | have nx := hb); clear hb; try clear hs; try clear g0; try clear g1; have hx := nx; clear nx; have hs := ns; clear ns; have g0 := n0; clear n0; have g1 := n1; clear n1) | (go_at_call 75; (with_reducible refine (fmIs_any e f b _).mono ?_); rintro rv w1 ⟨rfl, hb⟩; have ns : w.heap.size < w1.heap.size := hb.ltK; have n0 : w1.cell? ⟨w.heap.size, 0, none⟩ = some (.int .i64 e) := hb.cellK; have n1 : w1.cell? ⟨w.heap.size, 1, none⟩ = some (.int .i64 f) := hb.cellK; (first | (have nx := Ext.trans hx hb; clear hx) | (have nx := Ext.trans (hx.alloc _) hb; clear hx) | (have nx := Ext.trans hx.drew hb; clear hx) | have nx := hb); clear hb; try clear hs; try clear g0; try clear g1; have hx := nx; clear nx; have hs := ns; clear ns; have g0 := n0; clear n0; have g1 := n1; clear n1) | (go_at_call 77; (with_reducible refine (NA.out _).mono ?_); rintro rv w1 ⟨rfl, hb⟩; have ns : w.heap.size < w1.heap.size := hb.ltK; have n0 : w1.cell? ⟨w.heap.size, 0, none⟩ = some (.int .i64 e) := hb.cellK; have n1 : w1.cell? ⟨w.heap.size, 1, none⟩ = some (.int .i64 f) := hb.cellK; (first | (have nx := Ext.trans hx hb; clear hx) | (have nx := Ext.trans (hx.alloc _) hb; clear hx) | (have nx := Ext.trans hx.drew hb; clear hx) | have nx := hb); clear hb; try clear hs; try clear g0; try clear g1; have hx := nx; clear nx; have hs := ns; clear ns; have g0 := n0; clear n0; have g1 := n1; clear n1) | (go_at_call 78; (with_reducible refine (IA.out _).mono ?_); rintro rv w1 ⟨rfl, hb⟩; have ns : w.heap.size < w1.heap.size := hb.ltK; have n0 : w1.cell? ⟨w.heap.size, 0, none⟩ = some (.int .i64 e) := hb.cellK; have n1 : w1.cell? ⟨w.heap.size, 1, none⟩ = some (.int .i64 f) := hb.cellK; (first | (have nx := Ext.trans hx hb; clear hx) | (have nx := Ext.trans (hx.alloc _) hb; clear hx) | (have nx := Ext.trans hx.drew hb; clear hx) | have nx := hb); clear hb; try clear hs; try clear g0; try clear g1; have hx := nx; clear nx; have hs := ns; clear ns; have g0 := n0; clear n0; have g1 := n1; clear n1) | (go_at_call 79; (with_reducible refine (ZA.out _).mono ?_); rintro rv w1 ⟨rfl, hb⟩; have ns : w.heap.size < w1.heap.size := hb.ltK; have n0 : w1.cell? ⟨w.heap.size, 0, none⟩ = some (.int .i64 e) := hb.cellK; have n1 : w1.cell? ⟨w.heap.size, 1, none⟩ = some (.int .i64 f) := hb.cellK; (first | (have nx := Ext.trans hx hb; clear hx) | (have nx := Ext.trans (hx.alloc _) hb; clear hx) | (have nx := Ext.trans hx.drew hb; clear hx) | have nx := hb); clear hb; try clear hs; try clear g0; try clear g1; have hx := nx; clear nx; have hs := ns; clear ns; have g0 := n0; clear n0; have g1 := n1; clear n1) | (go_at_call 77; (with_reducible refine (NB.out _).mono ?_); rintro rv w1 ⟨rfl, hb⟩; have ns : w.heap.size < w1.heap.size := hb.ltK; have n0 : w1.cell? ⟨w.heap.size, 0, none⟩ = some (.int .i64 e) := hb.cellK; have n1 : w1.cell? ⟨w.heap.size, 1, none⟩ = some (.int .i64 f) := hb.cellK; (first | (have nx := Ext.trans hx hb; clear hx) | (have nx := Ext.trans (hx.alloc _) hb; clear hx) | (have nx := Ext.trans hx.drew hb; clear hx) | have nx := hb); clear hb; try clear hs; try clear g0; try clear g1; have hx := nx; clear nx; have hs := ns; clear ns; have g0 := n0; clear n0; have g1 := n1; clear n1) | (go_at_call 78; (with_reducible refine (IB.out _).mono ?_); rintro rv w1 ⟨rfl, hb⟩; have ns : w.heap.size < w1.heap.size := hb.ltK; have n0 : w1.cell? ⟨w.heap.size, 0, none⟩ = some (.int .i64 e) := hb.cellK; have n1 : w1.cell? ⟨w.heap.size, 1, none⟩ = some (.int .i64 f) := hb.cellK; (first | (have nx := Ext.trans hx hb; clear hx) | (have nx := Ext.trans (hx.alloc _) hb; clear hx) | (have nx := Ext.trans hx.drew hb; clear hx) | have nx := hb); clear hb; try clear hs; try clear g0; try clear g1; have hx := nx; clear nx; have hs := ns; clear ns; have g0 := n0; clear n0; have g1 := n1; clear n1) | (go_at_call 79; (with_reducible refine (ZB.out _).mono ?_); rintro rv w1 ⟨rfl, hb⟩; have ns : w.heap.size < w1.heap.size := hb.ltK; have n0 : w1.cell? ⟨w.heap.size, 0, none⟩ = some (.int .i64 e) := hb.cellK; have n1 : w1.cell? ⟨w.heap.size, 1, none⟩ = some (.int .i64 f) := hb.cellK; (first | (have nx := Ext.trans hx hb; clear hx) | (have nx := Ext.trans (hx.alloc _) hb; clear hx) | (have nx := Ext.trans hx.drew hb; clear hx) | have nx := hb); clear hb; try clear hs; try clear g0; try clear g1; have hx := nx; clear nx; have hs := ns; clear ns; have g0 := n0; clear n0; have g1 := n1; clear n1) | (go_at_call 80; refine (arQuiet_any e f hgg _).mono ?_; rintro rv w1 ⟨rfl, hb⟩; have ns : w.heap.size < w1.heap.size := hb.ltK; have n0 : w1.cell? ⟨w.heap.size, 0, none⟩ = some (.int .i64 e) := hb.cellK; have n1 : w1.cell? ⟨w.heap.size, 1, none⟩ = some (.int .i64 f) := hb.cellK; (first | (have nx := Ext.trans hx hb; clear hx) | (have nx := Ext.trans (hx.alloc _) hb; clear hx) | (have nx := Ext.trans hx.drew hb; clear hx) | have nx := hb); clear hb; try clear hs; try clear g0; try clear g1; have hx := nx; clear nx; have hs := ns; clear ns; have g0 := n0; clear n0; have g1 := n1; clear n1))
  go_ret2
  exact ⟨_, rfl, Or.inl ⟨by unfold rqP; omega, rfl⟩, Ext.auK⟩

theorem sRemainderOf_zi (e f a b : Int) (hg : reB e f a b = true) (ha : kindV e f a = 0) (hb : kindV e f b = 3) (w : World) : Calls Tryz.prog 40 #[fmt e f, .int .i64 a, .int .i64 b] w (ARboth (ReD e f a b) w) := by
  obtain ⟨hap, hbp⟩ := re_iff.1 hg
  have hgg := (pat_iff.1 hap).1
  have a0 := (pat_iff.1 hap).2.1
  have NA := Lib.hid (fun w => arNoK e f a false hap (by simp; omega) w)
  have IA := Lib.hid (fun w => arIsK e f a false hap (by simp; omega) w)
  have ZA := Lib.hid (fun w => arZeroK e f a true hap (by simp; omega) w)
  have NB := Lib.hid (fun w => arNoK e f b false hbp (by simp; omega) w)
  have IB := Lib.hid (fun w => arIsK e f b true hbp (by simp; omega) w)
  have ZB := Lib.hid (fun w => arZeroK e f b false hbp (by simp; omega) w)
  go_enter Tryz.func40, Tryz.ntmps40
  go_wp2_with (first | (go_at_call 75; (with_reducible refine (fmIs_any e f a _).mono ?_); rintro rv w1 ⟨rfl, hb⟩; have ns : w.heap.size < w1.heap.size := hb.ltK; have n0 : w1.cell? ⟨w.heap.size, 0, none⟩ = some (.int .i64 e) := hb.cellK; have n1 : w1.cell? ⟨w.heap.size, 1, none⟩ = some (.int .i64 f) := hb.cellK; (first | (have nx := Ext.trans hx hb; clear hx) | (have nx := Ext.trans (hx.alloc _) hb; clear hx) | (have nx := Ext.trans hx.drew hb; clear hx) | have nx := hb); clear hb; try clear hs; try clear g0; try clear g1; have hx := nx; clear nx; have hs := ns; clear ns; have g0 := n0; clear n0; have g1 := n1; clear n1) | (go_at_call 75; (with_reducible refine (fmIs_any e f b _).mono ?_); rintro rv w1 ⟨rfl, hb⟩; have ns : w.heap.size < w1.heap.size := hb.ltK; have n0 : w1.cell? ⟨w.heap.size, 0, none⟩ = some (.int .i64 e) := hb.cellK; have n1 : w1.cell? ⟨w.heap.size, 1, none⟩ = some (.int .i64 f) := hb.cellK; (first | (have nx := Ext.trans hx hb; clear hx) | (have nx := Ext.trans (hx.alloc _) hb; clear hx) | (have nx := Ext.trans hx.drew hb; clear hx) | have nx := hb); clear hb; try clear hs; try clear g0; try clear g1; have hx := nx; clear nx; have hs := ns; clear ns; have g0 := n0; clear n0; have g1 := n1; clear n1) | (go_at_call 77; (with_reducible refine (NA.out _).mono ?_); rintro rv w1 ⟨rfl, hb⟩; have ns : w.heap.size < w1.heap.size := hb.ltK; have n0 : w1.cell? ⟨w.heap.size, 0, none⟩ = some (.int .i64 e) := hb.cellK; have n1 : w1.cell? ⟨w.heap.size, 1, none⟩ = some (.int .i64 f) := hb.cellK; (first | (have nx := Ext.trans hx hb; clear hx) | (have nx := Ext.trans (hx.alloc _) hb; clear hx) | (have nx := Ext.trans hx.drew hb; clear hx) | have nx := hb); clear hb; try clear hs; try clear g0; try clear g1; have hx := nx; clear nx; have hs := ns; clear ns; have g0 := n0; clear n0; have g1 := n1; clear n1) | (go_at_call 78; (with_reducible refine (IA.out _).mono ?_); rintro rv w1 ⟨rfl, hb⟩; have ns : w.heap.size < w1.heap.size := hb.ltK; have n0 : w1.cell? ⟨w.heap.size, 0, none⟩ = some (.int .i64 e) := hb.cellK; have n1 : w1.cell? ⟨w.heap.size, 1, none⟩ = some (.int .i64 f) := hb.cellK; (first | (have nx := Ext.trans hx hb; clear hx) | (have nx := Ext.trans (hx.alloc _) hb; clear hx) | (have nx := Ext.trans hx.drew hb; clear hx) | have nx := hb); clear hb; try clear hs; try clear g0; try clear g1; have hx := nx; clear nx; have hs := ns; clear ns; have g0 := n0; clear n0; have g1 := n1; clear n1) | (go_at_call 79; (with_reducible refine (ZA.out _).mono ?_); rintro rv w1 ⟨rfl, hb⟩; have ns : w.heap.size < w1.heap.size := hb.ltK; have n0 : w1.cell? ⟨w.heap.size, 0, none⟩ = some (.int .i64 e) := hb.cellK; have n1 : w1.cell? ⟨w.heap.size, 1, none⟩ = some (.int .i64 f) := hb.cellK; (first | (have nx := Ext.trans hx hb; clear hx) | (have nx := Ext.trans (hx.alloc _) hb; clear hx) | (have nx := Ext.trans hx.drew hb; clear hx) | have nx := hb); clear hb; try clear hs; try clear g0; try clear g1; have hx := nx; clear nx; have hs := ns; clear ns; have g0 := n0; clear n0; have g1 := n1; clear n1) | (go_at_call 77; (with_reducible refine (NB.out _).mono ?_); rintro rv w1 ⟨rfl, hb⟩; have ns : w.heap.size < w1.heap.size := hb.ltK; have n0 : w1.cell? ⟨w.heap.size, 0, none⟩ = some (.int .i64 e) := hb.cellK; have n1 : w1.cell? ⟨w.heap.size, 1, none⟩ = some (.int .i64 f) := hb.cellK; (first | (have nx := Ext.trans hx hb; clear hx) | (have nx := Ext.trans (hx.alloc _) hb; clear hx) | (have nx := Ext.trans hx.drew hb; clear hx) | have nx := hb); clear hb; try clear hs; try clear g0; try clear g1; have hx := nx; clear nx; have hs := ns; clear ns; have g0 := n0; clear n0; have g1 := n1; clear n1) | (go_at_call 78; (with_reducible refine (IB.out _).mono ?_); rintro rv w1 ⟨rfl, hb⟩; have ns : w.heap.size < w1.heap.size := hb.ltK; have n0 : w1.cell? ⟨w.heap.size, 0, none⟩ = some (.int .i64 e) := hb.cellK; have n1 : w1.cell? ⟨w.heap.size, 1, none⟩ = some (.int .i64 f) := hb.cellK; (first | (have nx := Ext.trans hx hb; clear hx) | (have nx := Ext.trans (hx.alloc _) hb; clear hx) | (have nx := Ext.trans hx.drew hb; clear hx) | have nx := hb); clear hb; try clear hs; try clear g0; try clear g1; have hx := nx; clear nx; have hs := ns; clear ns; have g0 := n0; clear n0; have g1 := n1; clear n1) | (go_at_call 79; (with_reducible refine (ZB.out _).mono ?_); rintro rv w1 ⟨rfl, hb⟩; have ns : w.heap.size < w1.heap.size := hb.ltK; have n0 : w1.cell? ⟨w.heap.size, 0, none⟩ = some (.int .i64 e) := hb.cellK; have n1 : w1.cell? ⟨w.heap.size, 1, none⟩ = some (.int .i64 f) := hb.cellK; (first | (have nx := Ext.trans hx hb; clear hx) | (have nx := Ext.trans (hx.alloc _) hb; clear hx) | (have nx := Ext.trans hx.drew hb; clear hx) | have nx := hb); clear hb; try clear hs; try clear g0; try clear g1; have hx := nx; clear nx; have hs := ns; clear ns; have g0 := n0; clear n0; have g1 := n1; clear n1) | (go_at_call 80; refine (arQuiet_any e f hgg _).mono ?_; rintro rv w1 ⟨rfl, hb⟩; have ns : w.heap.size < w1.heap.size := hb.ltK; have n0 : w1.cell? ⟨w.heap.size, 0, none⟩ = some (.int .i64 e) := hb.cellK; have n1 : w1.cell? ⟨w.heap.size, 1, none⟩ = some (.int .i64 f) := hb.cellK; (first | (have nx := Ext.trans hx hb; clear hx) | (have nx := Ext.trans (hx.alloc _) hb; clear hx) | (have nx := Ext.trans hx.drew hb; clear hx) | have nx := hb); clear hb; try clear hs; try clear g0; try clear g1; have hx := nx; clear nx; have hs := ns; clear ns; have g0 := n0; clear n0; have g1 := n1; clear n1))
  go_ret2
  exact ⟨_, rfl, Or.inr (Or.inl ⟨by unfold rqP; omega, by omega, rfl⟩), Ext.auK⟩

theorem sRemainderOf_fi (e f a b : Int) (hg : reB e f a b = true) (ha : kindV e f a = 1 ∨ kindV e f a = 2) (hb : kindV e f b = 3) (w : World) : Calls Tryz.prog 40 #[fmt e f, .int .i64 a, .int .i64 b] w (ARboth (ReD e f a b) w) := by
  obtain ⟨hap, hbp⟩ := re_iff.1 hg
  have hgg := (pat_iff.1 hap).1
  have a0 := (pat_iff.1 hap).2.1
  have NA := Lib.hid (fun w => arNoK e f a false hap (by simp; omega) w)
  have IA := Lib.hid (fun w => arIsK e f a false hap (by simp; omega) w)
  have ZA := Lib.hid (fun w => arZeroK e f a false hap (by simp; omega) w)
  have NB := Lib.hid (fun w => arNoK e f b false hbp (by simp; omega) w)
  have IB := Lib.hid (fun w => arIsK e f b true hbp (by simp; omega) w)
  have ZB := Lib.hid (fun w => arZeroK e f b false hbp (by simp; omega) w)
  go_enter Tryz.func40, Tryz.ntmps40
  go_wp2_with (first | (go_at_call 75; (with_reducible refine (fmIs_any e f a _).mono ?_); rintro rv w1 ⟨rfl, hb⟩; have ns : w.heap.size < w1.heap.size := hb.ltK; have n0 : w1.cell? ⟨w.heap.size, 0, none⟩ = some (.int .i64 e) := hb.cellK; have n1 : w1.cell? ⟨w.heap.size, 1, none⟩ = some (.int .i64 f) := hb.cellK; (first | (have nx := Ext.trans hx hb; clear hx) | (have nx := Ext.trans (hx.alloc _) hb; clear hx) | (have nx := Ext.trans hx.drew hb; clear hx) | have nx := hb); clear hb; try clear hs; try clear g0; try clear g1; have hx := nx; clear nx; have hs := ns; clear ns; have g0 := n0; clear n0; have g1 := n1; clear n1) | (go_at_call 75; (with_reducible refine (fmIs_any e f b _).mono ?_); rintro rv w1 ⟨rfl, hb⟩; have ns : w.heap.size < w1.heap.size := hb.ltK; have n0 : w1.cell? ⟨w.heap.size, 0, none⟩ = some (.int .i64 e) := hb.cellK; have n1 : w1.cell? ⟨w.heap.size, 1, none⟩ = some (.int .i64 f) := hb.cellK; (first | (have nx := Ext.trans hx hb; clear hx) | (have nx := Ext.trans (hx.alloc _) hb; clear hx) | (have nx := Ext.trans hx.drew hb; clear hx) | have nx := hb); clear hb; try clear hs; try clear g0; try clear g1; have hx := nx; clear nx; have hs := ns; clear ns; have g0 := n0; clear n0; have g1 := n1; clear n1) | (go_at_call 77; (with_reducible refine (NA.out _).mono ?_); rintro rv w1 ⟨rfl, hb⟩; have ns : w.heap.size < w1.heap.size := hb.ltK; have n0 : w1.cell? ⟨w.heap.size, 0, none⟩ = some (.int .i64 e) := hb.cellK; have n1 : w1.cell? ⟨w.heap.size, 1, none⟩ = some (.int .i64 f) := hb.cellK; (first | (have nx := Ext.trans hx hb; clear hx) | (have nx := Ext.trans (hx.alloc _) hb; clear hx) | (have nx := Ext.trans hx.drew hb; clear hx) | have nx := hb); clear hb; try clear hs; try clear g0; try clear g1; have hx := nx; clear nx; have hs := ns; clear ns; have g0 := n0; clear n0; have g1 := n1; clear n1) | (go_at_call 78; (with_reducible refine (IA.out _).mono ?_); rintro rv w1 ⟨rfl, hb⟩; have ns : w.heap.size < w1.heap.size := hb.ltK; have n0 : w1.cell? ⟨w.heap.size, 0, none⟩ = some (.int .i64 e) := hb.cellK; have n1 : w1.cell? ⟨w.heap.size, 1, none⟩ = some (.int .i64 f) := hb.cellK; (first | (have nx := Ext.trans hx hb; clear hx) | (have nx := Ext.trans (hx.alloc _) hb; clear hx) | (have nx := Ext.trans hx.drew hb; clear hx) | have nx := hb); clear hb; try clear hs; try clear g0; try clear g1; have hx := nx; clear nx; have hs := ns; clear ns; have g0 := n0; clear n0; have g1 := n1; clear n1) | (go_at_call 79; (with_reducible refine (ZA.out _).mono ?_); rintro rv w1 ⟨rfl, hb⟩; have ns : w.heap.size < w1.heap.size := hb.ltK; have n0 : w1.cell? ⟨w.heap.size, 0, none⟩ = some (.int .i64 e) := hb.cellK; have n1 : w1.cell? ⟨w.heap.size, 1, none⟩ = some (.int .i64 f) := hb.cellK; (first | (have nx := Ext.trans hx hb; clear hx) | (have nx := Ext.trans (hx.alloc _) hb; clear hx) | (have nx := Ext.trans hx.drew hb; clear hx) | have nx := hb); clear hb; try clear hs; try clear g0; try clear g1; have hx := nx; clear nx; have hs := ns; clear ns; have g0 := n0; clear n0; have g1 := n1; clear n1) | (go_at_call 77; (with_reducible refine (NB.out _).mono ?_); rintro rv w1 ⟨rfl, hb⟩; have ns : w.heap.size < w1.heap.size := hb.ltK; have n0 : w1.cell? ⟨w.heap.size, 0, none⟩ = some (.int .i64 e) := hb.cellK; have n1 : w1.cell? ⟨w.heap.size, 1, none⟩ = some (.int .i64 f) := hb.cellK; (first | (have nx := Ext.trans hx hb; clear hx) | (have nx := Ext.trans (hx.alloc _) hb; clear hx) | (have nx := Ext.trans hx.drew hb; clear hx) | have nx := hb); clear hb; try clear hs; try clear g0; try clear g1; have hx := nx; clear nx; have hs := ns; clear ns; have g0 := n0; clear n0; have g1 := n1; clear n1) | (go_at_call 78; (with_reducible refine (IB.out _).mono ?_); rintro rv w1 ⟨rfl, hb⟩; have ns : w.heap.size < w1.heap.size := hb.ltK; have n0 : w1.cell? ⟨w.heap.size, 0, none⟩ = some (.int .i64 e) := hb.cellK; have n1 : w1.cell? ⟨w.heap.size, 1, none⟩ = some (.int .i64 f) := hb.cellK; (first | (have nx := Ext.trans hx hb; clear hx) | (have nx := Ext.trans (hx.alloc _) hb; clear hx) | (have nx := Ext.trans hx.drew hb; clear hx) | have nx := hb); clear hb; try clear hs; try clear g0; try clear g1; have hx := nx; clear nx; have hs := ns; clear ns; have g0 := n0; clear n0; have g1 := n1; clear n1) | (go_at_call 79; (with_reducible refine (ZB.out _).mono ?_); rintro rv w1 ⟨rfl, hb⟩; have ns : w.heap.size < w1.heap.size := hb.ltK; have n0 : w1.cell? ⟨w.heap.size, 0, none⟩ = some (.int .i64 e) := hb.cellK; have n1 : w1.cell? ⟨w.heap.size, 1, none⟩ = some (.int .i64 f) := hb.cellK; (first | (have nx := Ext.trans hx hb; clear hx) | (have nx := Ext.trans (hx.alloc _) hb; clear hx) | (have nx := Ext.trans hx.drew hb; clear hx) | have nx := hb); clear hb; try clear hs; try clear g0; try clear g1; have hx := nx; clear nx; have hs := ns; clear ns; have g0 := n0; clear n0; have g1 := n1; clear n1) | (go_at_call 80; refine (arQuiet_any e f hgg _).mono ?_; rintro rv w1 ⟨rfl, hb⟩; have ns : w.heap.size < w1.heap.size := hb.ltK; have n0 : w1.cell? ⟨w.heap.size, 0, none⟩ = some (.int .i64 e) := hb.cellK; have n1 : w1.cell? ⟨w.heap.size, 1, none⟩ = some (.int .i64 f) := hb.cellK; (first | (have nx := Ext.trans hx hb; clear hx) | (have nx := Ext.trans (hx.alloc _) hb; clear hx) | (have nx := Ext.trans hx.drew hb; clear hx) | have nx := hb); clear hb; try clear hs; try clear g0; try clear g1; have hx := nx; clear nx; have hs := ns; clear ns; have g0 := n0; clear n0; have g1 := n1; clear n1))
  go_ret2
  exact ⟨_, rfl, Or.inr (Or.inl ⟨by unfold rqP; omega, by omega, rfl⟩), Ext.auK⟩

theorem wh_near {N v : Int} (h0 : 0 ≤ N) (hv : 0 < v) : -v ≤ N - v * whV N v 0 false ∧ N - v * whV N v 0 false ≤ v := by
  have d1 := Int.mul_ediv_add_emod N v
  have r0 := Int.emod_nonneg N (show v ≠ 0 by omega)
  have r1 := Int.emod_lt_of_pos N hv
  unfold whV
  rcases rndP_or (N % v) v (N / v) 0 false with h | h <;> rw [h]
  · omega
  · rw [Int.mul_add]; omega

theorem nr_form {u v : Int} : u - nrV u v * v = if u < 0 then -((u.natAbs : Int) - v * whV (u.natAbs : Int) v 0 false) else (u.natAbs : Int) - v * whV (u.natAbs : Int) v 0 false := by
  unfold nrV
  by_cases h : u < 0
  · rw [if_pos h, if_pos h, Int.neg_mul, Int.mul_comm v]; omega
  · rw [if_neg h, if_neg h, Int.mul_comm v]; omega

theorem rm_bd {e f a b : Int} (hap : patB e f a = true) (hbp : patB e f b = true) (nb : (unitsV e f b) ≠ 0) : -4398046511104 ≤ (rmV e f a b) ∧ (rmV e f a b) ≤ 4398046511104 := by
  have ubB := units_bd e f b hbp
  obtain ⟨w1, w2⟩ := wh_near (N := (((unitsV e f a)).natAbs : Int)) (v := ((unitsV e f b).natAbs : Int)) (by omega) (by omega)
  unfold rmV
  rw [nr_form]
  split <;> omega

theorem nr_bd {e f a b : Int} (hap : patB e f a = true) (hbp : patB e f b = true) (nb : (unitsV e f b) ≠ 0) : -8796093022208 ≤ nrV (unitsV e f a) ((unitsV e f b).natAbs : Int) * ((unitsV e f b).natAbs : Int) ∧ nrV (unitsV e f a) ((unitsV e f b).natAbs : Int) * ((unitsV e f b).natAbs : Int) ≤ 8796093022208 := by
  have ubA := units_bd e f a hap
  obtain ⟨w1, w2⟩ := rm_bd hap hbp nb
  unfold rmV at w1 w2
  omega

set_option maxHeartbeats 1600000 in
theorem sRemainderOf_zfz (e f a b R : Int) (hg : reB e f a b = true) (ha : kindV e f a = 0) (hb : kindV e f b = 1 ∨ kindV e f b = 2) (hR : (rmV e f a b) = R) (hz : R = 0) (w : World) : Calls Tryz.prog 40 #[fmt e f, .int .i64 a, .int .i64 b] w (ARboth (ReD e f a b) w) := by
  obtain ⟨hap, hbp⟩ := re_iff.1 hg
  have hgg := (pat_iff.1 hap).1
  have a0 := (pat_iff.1 hap).2.1
  have NA := Lib.hid (fun w => arNoK e f a false hap (by simp; omega) w)
  have IA := Lib.hid (fun w => arIsK e f a false hap (by simp; omega) w)
  have ZA := Lib.hid (fun w => arZeroK e f a true hap (by simp; omega) w)
  have NB := Lib.hid (fun w => arNoK e f b false hbp (by simp; omega) w)
  have IB := Lib.hid (fun w => arIsK e f b false hbp (by simp; omega) w)
  have ZB := Lib.hid (fun w => arZeroK e f b false hbp (by simp; omega) w)
  have u1 := un_bd hgg
  have sga := sign_01 hap
  have ubA := units_bd e f a hap
  have ubB := units_bd e f b hbp
  have nb := (kind_units hbp).2.1 hb
  have HR := Lib.hid hR
  obtain ⟨rb1, rb2⟩ := rm_bd hap hbp nb
  rw [hR] at rb1 rb2
  have FUA := Lib.hid (fun w => fmUnits_any e f a hap w)
  have FUB := Lib.hid (fun w => fmUnits_any e f b hbp w)
  have LA := Lib.hid (fun w => l1Abs_nat (unitsV e f b) (by omega) (by omega) w)
  have NR := Lib.hid (fun w => arNearest_any (unitsV e f a) ((unitsV e f b).natAbs : Int) (by omega) (by omega) (by omega) (by omega) w)
  unfold rmV at hR
  obtain ⟨nb1, nb2⟩ := nr_bd hap hbp nb
  have k1 : IntKind.i64.wrap (nrV (unitsV e f a) ((unitsV e f b).natAbs : Int) * ((unitsV e f b).natAbs : Int)) = nrV (unitsV e f a) ((unitsV e f b).natAbs : Int) * ((unitsV e f b).natAbs : Int) := IntWalk.i64_in _ (by omega)
  have k2 : IntKind.i64.wrap ((unitsV e f a) - nrV (unitsV e f a) ((unitsV e f b).natAbs : Int) * ((unitsV e f b).natAbs : Int)) = R := by rw [hR]; exact IntWalk.i64_in _ (by omega)
  clear hR nb1 nb2
  have hzb : (R == 0) = true := by simpa using hz
  generalize nrV (unitsV e f a) ((unitsV e f b).natAbs : Int) = Q at *
  generalize ((unitsV e f b).natAbs : Int) = V at *
  go_enter Tryz.func40, Tryz.ntmps40
  go_wp2_with (first | (go_at_call 75; (with_reducible refine (fmIs_any e f a _).mono ?_); rintro rv w1 ⟨rfl, hb⟩; have ns : w.heap.size < w1.heap.size := hb.ltK; have n0 : w1.cell? ⟨w.heap.size, 0, none⟩ = some (.int .i64 e) := hb.cellK; have n1 : w1.cell? ⟨w.heap.size, 1, none⟩ = some (.int .i64 f) := hb.cellK; (first | (have nx := Ext.trans hx hb; clear hx) | (have nx := Ext.trans (hx.alloc _) hb; clear hx) | (have nx := Ext.trans hx.drew hb; clear hx) | have nx := hb); clear hb; try clear hs; try clear g0; try clear g1; have hx := nx; clear nx; have hs := ns; clear ns; have g0 := n0; clear n0; have g1 := n1; clear n1) | (go_at_call 75; (with_reducible refine (fmIs_any e f b _).mono ?_); rintro rv w1 ⟨rfl, hb⟩; have ns : w.heap.size < w1.heap.size := hb.ltK; have n0 : w1.cell? ⟨w.heap.size, 0, none⟩ = some (.int .i64 e) := hb.cellK; have n1 : w1.cell? ⟨w.heap.size, 1, none⟩ = some (.int .i64 f) := hb.cellK; (first | (have nx := Ext.trans hx hb; clear hx) | (have nx := Ext.trans (hx.alloc _) hb; clear hx) | (have nx := Ext.trans hx.drew hb; clear hx) | have nx := hb); clear hb; try clear hs; try clear g0; try clear g1; have hx := nx; clear nx; have hs := ns; clear ns; have g0 := n0; clear n0; have g1 := n1; clear n1) | (go_at_call 77; (with_reducible refine (NA.out _).mono ?_); rintro rv w1 ⟨rfl, hb⟩; have ns : w.heap.size < w1.heap.size := hb.ltK; have n0 : w1.cell? ⟨w.heap.size, 0, none⟩ = some (.int .i64 e) := hb.cellK; have n1 : w1.cell? ⟨w.heap.size, 1, none⟩ = some (.int .i64 f) := hb.cellK; (first | (have nx := Ext.trans hx hb; clear hx) | (have nx := Ext.trans (hx.alloc _) hb; clear hx) | (have nx := Ext.trans hx.drew hb; clear hx) | have nx := hb); clear hb; try clear hs; try clear g0; try clear g1; have hx := nx; clear nx; have hs := ns; clear ns; have g0 := n0; clear n0; have g1 := n1; clear n1) | (go_at_call 78; (with_reducible refine (IA.out _).mono ?_); rintro rv w1 ⟨rfl, hb⟩; have ns : w.heap.size < w1.heap.size := hb.ltK; have n0 : w1.cell? ⟨w.heap.size, 0, none⟩ = some (.int .i64 e) := hb.cellK; have n1 : w1.cell? ⟨w.heap.size, 1, none⟩ = some (.int .i64 f) := hb.cellK; (first | (have nx := Ext.trans hx hb; clear hx) | (have nx := Ext.trans (hx.alloc _) hb; clear hx) | (have nx := Ext.trans hx.drew hb; clear hx) | have nx := hb); clear hb; try clear hs; try clear g0; try clear g1; have hx := nx; clear nx; have hs := ns; clear ns; have g0 := n0; clear n0; have g1 := n1; clear n1) | (go_at_call 79; (with_reducible refine (ZA.out _).mono ?_); rintro rv w1 ⟨rfl, hb⟩; have ns : w.heap.size < w1.heap.size := hb.ltK; have n0 : w1.cell? ⟨w.heap.size, 0, none⟩ = some (.int .i64 e) := hb.cellK; have n1 : w1.cell? ⟨w.heap.size, 1, none⟩ = some (.int .i64 f) := hb.cellK; (first | (have nx := Ext.trans hx hb; clear hx) | (have nx := Ext.trans (hx.alloc _) hb; clear hx) | (have nx := Ext.trans hx.drew hb; clear hx) | have nx := hb); clear hb; try clear hs; try clear g0; try clear g1; have hx := nx; clear nx; have hs := ns; clear ns; have g0 := n0; clear n0; have g1 := n1; clear n1) | (go_at_call 77; (with_reducible refine (NB.out _).mono ?_); rintro rv w1 ⟨rfl, hb⟩; have ns : w.heap.size < w1.heap.size := hb.ltK; have n0 : w1.cell? ⟨w.heap.size, 0, none⟩ = some (.int .i64 e) := hb.cellK; have n1 : w1.cell? ⟨w.heap.size, 1, none⟩ = some (.int .i64 f) := hb.cellK; (first | (have nx := Ext.trans hx hb; clear hx) | (have nx := Ext.trans (hx.alloc _) hb; clear hx) | (have nx := Ext.trans hx.drew hb; clear hx) | have nx := hb); clear hb; try clear hs; try clear g0; try clear g1; have hx := nx; clear nx; have hs := ns; clear ns; have g0 := n0; clear n0; have g1 := n1; clear n1) | (go_at_call 78; (with_reducible refine (IB.out _).mono ?_); rintro rv w1 ⟨rfl, hb⟩; have ns : w.heap.size < w1.heap.size := hb.ltK; have n0 : w1.cell? ⟨w.heap.size, 0, none⟩ = some (.int .i64 e) := hb.cellK; have n1 : w1.cell? ⟨w.heap.size, 1, none⟩ = some (.int .i64 f) := hb.cellK; (first | (have nx := Ext.trans hx hb; clear hx) | (have nx := Ext.trans (hx.alloc _) hb; clear hx) | (have nx := Ext.trans hx.drew hb; clear hx) | have nx := hb); clear hb; try clear hs; try clear g0; try clear g1; have hx := nx; clear nx; have hs := ns; clear ns; have g0 := n0; clear n0; have g1 := n1; clear n1) | (go_at_call 79; (with_reducible refine (ZB.out _).mono ?_); rintro rv w1 ⟨rfl, hb⟩; have ns : w.heap.size < w1.heap.size := hb.ltK; have n0 : w1.cell? ⟨w.heap.size, 0, none⟩ = some (.int .i64 e) := hb.cellK; have n1 : w1.cell? ⟨w.heap.size, 1, none⟩ = some (.int .i64 f) := hb.cellK; (first | (have nx := Ext.trans hx hb; clear hx) | (have nx := Ext.trans (hx.alloc _) hb; clear hx) | (have nx := Ext.trans hx.drew hb; clear hx) | have nx := hb); clear hb; try clear hs; try clear g0; try clear g1; have hx := nx; clear nx; have hs := ns; clear ns; have g0 := n0; clear n0; have g1 := n1; clear n1) | (go_at_call 80; refine (arQuiet_any e f hgg _).mono ?_; rintro rv w1 ⟨rfl, hb⟩; have ns : w.heap.size < w1.heap.size := hb.ltK; have n0 : w1.cell? ⟨w.heap.size, 0, none⟩ = some (.int .i64 e) := hb.cellK; have n1 : w1.cell? ⟨w.heap.size, 1, none⟩ = some (.int .i64 f) := hb.cellK; (first | (have nx := Ext.trans hx hb; clear hx) | (have nx := Ext.trans (hx.alloc _) hb; clear hx) | (have nx := Ext.trans hx.drew hb; clear hx) | have nx := hb); clear hb; try clear hs; try clear g0; try clear g1; have hx := nx; clear nx; have hs := ns; clear ns; have g0 := n0; clear n0; have g1 := n1; clear n1))
  go_region_held3 (fun w' => w'.cell? ⟨w.heap.size, 0, none⟩ = some (.int .i64 e) ∧ w'.cell? ⟨w.heap.size, 1, none⟩ = some (.int .i64 f) ∧ w.heap.size < w'.heap.size) ((refine ⟨?_, ?_, ?_⟩ <;> first | with_reducible assumption | ((repeat first | rw [cell_set_far _ _ _ _ _ _ (by omega)] | rw [cell_alloc_before _ _ _ _ (by omega)] | rw [cell_alloc_drew _ _ _ _ (by omega)] | rw [cell_drew]); with_reducible assumption) | ((rw [cell_setRow_far _ _ _ _ _ (by omega)]); with_reducible assumption) | ((rw [setRow_size]); with_reducible assumption) | (simp; done) | (simp [World.setCell]; first | done | omega) | (simp [go_sem, World.cell?_alloc_past, World.cell?_setCell_far, *]; done))) ((first | (go_at_call 81; (with_reducible refine (FUA.out _).mono ?_); rintro rv w1 ⟨rfl, hb⟩; have ns : w.heap.size < w1.heap.size := hb.ltK; have n0 : w1.cell? ⟨w.heap.size, 0, none⟩ = some (.int .i64 e) := hb.cellK; have n1 : w1.cell? ⟨w.heap.size, 1, none⟩ = some (.int .i64 f) := hb.cellK; (first | (have nx := Ext.trans hx hb; clear hx) | (have nx := Ext.trans (hx.alloc _) hb; clear hx) | (have nx := Ext.trans hx.drew hb; clear hx) | have nx := hb); clear hb; try clear hs; try clear g0; try clear g1; have hx := nx; clear nx; have hs := ns; clear ns; have g0 := n0; clear n0; have g1 := n1; clear n1) | (go_at_call 81; (with_reducible refine (FUB.out _).mono ?_); rintro rv w1 ⟨rfl, hb⟩; have ns : w.heap.size < w1.heap.size := hb.ltK; have n0 : w1.cell? ⟨w.heap.size, 0, none⟩ = some (.int .i64 e) := hb.cellK; have n1 : w1.cell? ⟨w.heap.size, 1, none⟩ = some (.int .i64 f) := hb.cellK; (first | (have nx := Ext.trans hx hb; clear hx) | (have nx := Ext.trans (hx.alloc _) hb; clear hx) | (have nx := Ext.trans hx.drew hb; clear hx) | have nx := hb); clear hb; try clear hs; try clear g0; try clear g1; have hx := nx; clear nx; have hs := ns; clear ns; have g0 := n0; clear n0; have g1 := n1; clear n1) | (go_at_call 82; refine (LA.out _).mono ?_; rintro rv w1 ⟨rfl, rfl⟩)))
  go_wp2_with (first | (go_at_call 83; refine (NR.out _).mono ?_; rintro rv w1 ⟨rfl, hb⟩; have ns : w.heap.size < w1.heap.size := hb.ltK; have n0 : w1.cell? ⟨w.heap.size, 0, none⟩ = some (.int .i64 e) := hb.cellK; have n1 : w1.cell? ⟨w.heap.size, 1, none⟩ = some (.int .i64 f) := hb.cellK; (first | (have nx := Ext.trans hx hb; clear hx) | (have nx := Ext.trans (hx.alloc _) hb; clear hx) | (have nx := Ext.trans hx.drew hb; clear hx) | have nx := hb); clear hb; try clear hs; try clear g0; try clear g1; have hx := nx; clear nx; have hs := ns; clear ns; have g0 := n0; clear n0; have g1 := n1; clear n1))
  try (go_region_held3 (fun w' => w'.cell? ⟨w.heap.size, 0, none⟩ = some (.int .i64 e) ∧ w'.cell? ⟨w.heap.size, 1, none⟩ = some (.int .i64 f) ∧ w.heap.size < w'.heap.size) ((refine ⟨?_, ?_, ?_⟩ <;> first | with_reducible assumption | ((repeat first | rw [cell_set_far _ _ _ _ _ _ (by omega)] | rw [cell_alloc_before _ _ _ _ (by omega)] | rw [cell_alloc_drew _ _ _ _ (by omega)] | rw [cell_drew]); with_reducible assumption) | ((rw [cell_setRow_far _ _ _ _ _ (by omega)]); with_reducible assumption) | ((rw [setRow_size]); with_reducible assumption) | (simp; done) | (simp [World.setCell]; first | done | omega) | (simp [go_sem, World.cell?_alloc_past, World.cell?_setCell_far, *]; done))) ((first | (go_at_call 83; refine (NR.out _).mono ?_; rintro rv w1 ⟨rfl, hb⟩; have ns : w.heap.size < w1.heap.size := hb.ltK; have n0 : w1.cell? ⟨w.heap.size, 0, none⟩ = some (.int .i64 e) := hb.cellK; have n1 : w1.cell? ⟨w.heap.size, 1, none⟩ = some (.int .i64 f) := hb.cellK; (first | (have nx := Ext.trans hx hb; clear hx) | (have nx := Ext.trans (hx.alloc _) hb; clear hx) | (have nx := Ext.trans hx.drew hb; clear hx) | have nx := hb); clear hb; try clear hs; try clear g0; try clear g1; have hx := nx; clear nx; have hs := ns; clear ns; have g0 := n0; clear n0; have g1 := n1; clear n1))))
  try go_wp2_with fail
  go_region_held3 (fun w' => w'.cell? ⟨w.heap.size, 0, none⟩ = some (.int .i64 e) ∧ w'.cell? ⟨w.heap.size, 1, none⟩ = some (.int .i64 f) ∧ w.heap.size < w'.heap.size) ((refine ⟨?_, ?_, ?_⟩ <;> first | with_reducible assumption | ((repeat first | rw [cell_set_far _ _ _ _ _ _ (by omega)] | rw [cell_alloc_before _ _ _ _ (by omega)] | rw [cell_alloc_drew _ _ _ _ (by omega)] | rw [cell_drew]); with_reducible assumption) | ((rw [cell_setRow_far _ _ _ _ _ (by omega)]); with_reducible assumption) | ((rw [setRow_size]); with_reducible assumption) | (simp; done) | (simp [World.setCell]; first | done | omega) | (simp [go_sem, World.cell?_alloc_past, World.cell?_setCell_far, *]; done))) ((first | (go_at_call 85; (with_reducible refine (fmSign_any e f a hgg a0 _).mono ?_); rintro rv w1 ⟨rfl, hb⟩; have ns : w.heap.size < w1.heap.size := hb.ltK; have n0 : w1.cell? ⟨w.heap.size, 0, none⟩ = some (.int .i64 e) := hb.cellK; have n1 : w1.cell? ⟨w.heap.size, 1, none⟩ = some (.int .i64 f) := hb.cellK; (first | (have nx := Ext.trans hx hb; clear hx) | (have nx := Ext.trans (hx.alloc _) hb; clear hx) | (have nx := Ext.trans hx.drew hb; clear hx) | have nx := hb); clear hb; try clear hs; try clear g0; try clear g1; have hx := nx; clear nx; have hs := ns; clear ns; have g0 := n0; clear n0; have g1 := n1; clear n1) | (go_at_call 84; refine (fmOf_any e f (a / pw (e + f)) 0 hgg (by omega) (by omega) (by omega) (by omega) _).mono ?_; rintro rv w1 ⟨rfl, hb⟩; have ns : w.heap.size < w1.heap.size := hb.ltK; have n0 : w1.cell? ⟨w.heap.size, 0, none⟩ = some (.int .i64 e) := hb.cellK; have n1 : w1.cell? ⟨w.heap.size, 1, none⟩ = some (.int .i64 f) := hb.cellK; (first | (have nx := Ext.trans hx hb; clear hx) | (have nx := Ext.trans (hx.alloc _) hb; clear hx) | (have nx := Ext.trans hx.drew hb; clear hx) | have nx := hb); clear hb; try clear hs; try clear g0; try clear g1; have hx := nx; clear nx; have hs := ns; clear ns; have g0 := n0; clear n0; have g1 := n1; clear n1)))
  go_wp2_with fail
  go_ret2
  exact ⟨_, rfl, Or.inr (Or.inr (Or.inl ⟨by unfold rqP; omega, by omega, by rw [HR.out]; exact hz, by first | rfl | simp⟩)), Ext.auK⟩

set_option maxHeartbeats 1600000 in
theorem sRemainderOf_zfn (e f a b R : Int) (hg : reB e f a b = true) (ha : kindV e f a = 0) (hb : kindV e f b = 1 ∨ kindV e f b = 2) (hR : (rmV e f a b) = R) (hz : ¬ R = 0) (w : World) : Calls Tryz.prog 40 #[fmt e f, .int .i64 a, .int .i64 b] w (ARboth (ReD e f a b) w) := by
  obtain ⟨hap, hbp⟩ := re_iff.1 hg
  have hgg := (pat_iff.1 hap).1
  have a0 := (pat_iff.1 hap).2.1
  have NA := Lib.hid (fun w => arNoK e f a false hap (by simp; omega) w)
  have IA := Lib.hid (fun w => arIsK e f a false hap (by simp; omega) w)
  have ZA := Lib.hid (fun w => arZeroK e f a true hap (by simp; omega) w)
  have NB := Lib.hid (fun w => arNoK e f b false hbp (by simp; omega) w)
  have IB := Lib.hid (fun w => arIsK e f b false hbp (by simp; omega) w)
  have ZB := Lib.hid (fun w => arZeroK e f b false hbp (by simp; omega) w)
  have u1 := un_bd hgg
  have sga := sign_01 hap
  have ubA := units_bd e f a hap
  have ubB := units_bd e f b hbp
  have nb := (kind_units hbp).2.1 hb
  have HR := Lib.hid hR
  obtain ⟨rb1, rb2⟩ := rm_bd hap hbp nb
  rw [hR] at rb1 rb2
  have FUA := Lib.hid (fun w => fmUnits_any e f a hap w)
  have FUB := Lib.hid (fun w => fmUnits_any e f b hbp w)
  have LA := Lib.hid (fun w => l1Abs_nat (unitsV e f b) (by omega) (by omega) w)
  have NR := Lib.hid (fun w => arNearest_any (unitsV e f a) ((unitsV e f b).natAbs : Int) (by omega) (by omega) (by omega) (by omega) w)
  unfold rmV at hR
  obtain ⟨nb1, nb2⟩ := nr_bd hap hbp nb
  have k1 : IntKind.i64.wrap (nrV (unitsV e f a) ((unitsV e f b).natAbs : Int) * ((unitsV e f b).natAbs : Int)) = nrV (unitsV e f a) ((unitsV e f b).natAbs : Int) * ((unitsV e f b).natAbs : Int) := IntWalk.i64_in _ (by omega)
  have k2 : IntKind.i64.wrap ((unitsV e f a) - nrV (unitsV e f a) ((unitsV e f b).natAbs : Int) * ((unitsV e f b).natAbs : Int)) = R := by rw [hR]; exact IntWalk.i64_in _ (by omega)
  clear hR nb1 nb2
  have hzb : (R == 0) = false := by simpa using hz
  generalize nrV (unitsV e f a) ((unitsV e f b).natAbs : Int) = Q at *
  generalize ((unitsV e f b).natAbs : Int) = V at *
  go_enter Tryz.func40, Tryz.ntmps40
  go_wp2_with (first | (go_at_call 75; (with_reducible refine (fmIs_any e f a _).mono ?_); rintro rv w1 ⟨rfl, hb⟩; have ns : w.heap.size < w1.heap.size := hb.ltK; have n0 : w1.cell? ⟨w.heap.size, 0, none⟩ = some (.int .i64 e) := hb.cellK; have n1 : w1.cell? ⟨w.heap.size, 1, none⟩ = some (.int .i64 f) := hb.cellK; (first | (have nx := Ext.trans hx hb; clear hx) | (have nx := Ext.trans (hx.alloc _) hb; clear hx) | (have nx := Ext.trans hx.drew hb; clear hx) | have nx := hb); clear hb; try clear hs; try clear g0; try clear g1; have hx := nx; clear nx; have hs := ns; clear ns; have g0 := n0; clear n0; have g1 := n1; clear n1) | (go_at_call 75; (with_reducible refine (fmIs_any e f b _).mono ?_); rintro rv w1 ⟨rfl, hb⟩; have ns : w.heap.size < w1.heap.size := hb.ltK; have n0 : w1.cell? ⟨w.heap.size, 0, none⟩ = some (.int .i64 e) := hb.cellK; have n1 : w1.cell? ⟨w.heap.size, 1, none⟩ = some (.int .i64 f) := hb.cellK; (first | (have nx := Ext.trans hx hb; clear hx) | (have nx := Ext.trans (hx.alloc _) hb; clear hx) | (have nx := Ext.trans hx.drew hb; clear hx) | have nx := hb); clear hb; try clear hs; try clear g0; try clear g1; have hx := nx; clear nx; have hs := ns; clear ns; have g0 := n0; clear n0; have g1 := n1; clear n1) | (go_at_call 77; (with_reducible refine (NA.out _).mono ?_); rintro rv w1 ⟨rfl, hb⟩; have ns : w.heap.size < w1.heap.size := hb.ltK; have n0 : w1.cell? ⟨w.heap.size, 0, none⟩ = some (.int .i64 e) := hb.cellK; have n1 : w1.cell? ⟨w.heap.size, 1, none⟩ = some (.int .i64 f) := hb.cellK; (first | (have nx := Ext.trans hx hb; clear hx) | (have nx := Ext.trans (hx.alloc _) hb; clear hx) | (have nx := Ext.trans hx.drew hb; clear hx) | have nx := hb); clear hb; try clear hs; try clear g0; try clear g1; have hx := nx; clear nx; have hs := ns; clear ns; have g0 := n0; clear n0; have g1 := n1; clear n1) | (go_at_call 78; (with_reducible refine (IA.out _).mono ?_); rintro rv w1 ⟨rfl, hb⟩; have ns : w.heap.size < w1.heap.size := hb.ltK; have n0 : w1.cell? ⟨w.heap.size, 0, none⟩ = some (.int .i64 e) := hb.cellK; have n1 : w1.cell? ⟨w.heap.size, 1, none⟩ = some (.int .i64 f) := hb.cellK; (first | (have nx := Ext.trans hx hb; clear hx) | (have nx := Ext.trans (hx.alloc _) hb; clear hx) | (have nx := Ext.trans hx.drew hb; clear hx) | have nx := hb); clear hb; try clear hs; try clear g0; try clear g1; have hx := nx; clear nx; have hs := ns; clear ns; have g0 := n0; clear n0; have g1 := n1; clear n1) | (go_at_call 79; (with_reducible refine (ZA.out _).mono ?_); rintro rv w1 ⟨rfl, hb⟩; have ns : w.heap.size < w1.heap.size := hb.ltK; have n0 : w1.cell? ⟨w.heap.size, 0, none⟩ = some (.int .i64 e) := hb.cellK; have n1 : w1.cell? ⟨w.heap.size, 1, none⟩ = some (.int .i64 f) := hb.cellK; (first | (have nx := Ext.trans hx hb; clear hx) | (have nx := Ext.trans (hx.alloc _) hb; clear hx) | (have nx := Ext.trans hx.drew hb; clear hx) | have nx := hb); clear hb; try clear hs; try clear g0; try clear g1; have hx := nx; clear nx; have hs := ns; clear ns; have g0 := n0; clear n0; have g1 := n1; clear n1) | (go_at_call 77; (with_reducible refine (NB.out _).mono ?_); rintro rv w1 ⟨rfl, hb⟩; have ns : w.heap.size < w1.heap.size := hb.ltK; have n0 : w1.cell? ⟨w.heap.size, 0, none⟩ = some (.int .i64 e) := hb.cellK; have n1 : w1.cell? ⟨w.heap.size, 1, none⟩ = some (.int .i64 f) := hb.cellK; (first | (have nx := Ext.trans hx hb; clear hx) | (have nx := Ext.trans (hx.alloc _) hb; clear hx) | (have nx := Ext.trans hx.drew hb; clear hx) | have nx := hb); clear hb; try clear hs; try clear g0; try clear g1; have hx := nx; clear nx; have hs := ns; clear ns; have g0 := n0; clear n0; have g1 := n1; clear n1) | (go_at_call 78; (with_reducible refine (IB.out _).mono ?_); rintro rv w1 ⟨rfl, hb⟩; have ns : w.heap.size < w1.heap.size := hb.ltK; have n0 : w1.cell? ⟨w.heap.size, 0, none⟩ = some (.int .i64 e) := hb.cellK; have n1 : w1.cell? ⟨w.heap.size, 1, none⟩ = some (.int .i64 f) := hb.cellK; (first | (have nx := Ext.trans hx hb; clear hx) | (have nx := Ext.trans (hx.alloc _) hb; clear hx) | (have nx := Ext.trans hx.drew hb; clear hx) | have nx := hb); clear hb; try clear hs; try clear g0; try clear g1; have hx := nx; clear nx; have hs := ns; clear ns; have g0 := n0; clear n0; have g1 := n1; clear n1) | (go_at_call 79; (with_reducible refine (ZB.out _).mono ?_); rintro rv w1 ⟨rfl, hb⟩; have ns : w.heap.size < w1.heap.size := hb.ltK; have n0 : w1.cell? ⟨w.heap.size, 0, none⟩ = some (.int .i64 e) := hb.cellK; have n1 : w1.cell? ⟨w.heap.size, 1, none⟩ = some (.int .i64 f) := hb.cellK; (first | (have nx := Ext.trans hx hb; clear hx) | (have nx := Ext.trans (hx.alloc _) hb; clear hx) | (have nx := Ext.trans hx.drew hb; clear hx) | have nx := hb); clear hb; try clear hs; try clear g0; try clear g1; have hx := nx; clear nx; have hs := ns; clear ns; have g0 := n0; clear n0; have g1 := n1; clear n1) | (go_at_call 80; refine (arQuiet_any e f hgg _).mono ?_; rintro rv w1 ⟨rfl, hb⟩; have ns : w.heap.size < w1.heap.size := hb.ltK; have n0 : w1.cell? ⟨w.heap.size, 0, none⟩ = some (.int .i64 e) := hb.cellK; have n1 : w1.cell? ⟨w.heap.size, 1, none⟩ = some (.int .i64 f) := hb.cellK; (first | (have nx := Ext.trans hx hb; clear hx) | (have nx := Ext.trans (hx.alloc _) hb; clear hx) | (have nx := Ext.trans hx.drew hb; clear hx) | have nx := hb); clear hb; try clear hs; try clear g0; try clear g1; have hx := nx; clear nx; have hs := ns; clear ns; have g0 := n0; clear n0; have g1 := n1; clear n1))
  go_region_held3 (fun w' => w'.cell? ⟨w.heap.size, 0, none⟩ = some (.int .i64 e) ∧ w'.cell? ⟨w.heap.size, 1, none⟩ = some (.int .i64 f) ∧ w.heap.size < w'.heap.size) ((refine ⟨?_, ?_, ?_⟩ <;> first | with_reducible assumption | ((repeat first | rw [cell_set_far _ _ _ _ _ _ (by omega)] | rw [cell_alloc_before _ _ _ _ (by omega)] | rw [cell_alloc_drew _ _ _ _ (by omega)] | rw [cell_drew]); with_reducible assumption) | ((rw [cell_setRow_far _ _ _ _ _ (by omega)]); with_reducible assumption) | ((rw [setRow_size]); with_reducible assumption) | (simp; done) | (simp [World.setCell]; first | done | omega) | (simp [go_sem, World.cell?_alloc_past, World.cell?_setCell_far, *]; done))) ((first | (go_at_call 81; (with_reducible refine (FUA.out _).mono ?_); rintro rv w1 ⟨rfl, hb⟩; have ns : w.heap.size < w1.heap.size := hb.ltK; have n0 : w1.cell? ⟨w.heap.size, 0, none⟩ = some (.int .i64 e) := hb.cellK; have n1 : w1.cell? ⟨w.heap.size, 1, none⟩ = some (.int .i64 f) := hb.cellK; (first | (have nx := Ext.trans hx hb; clear hx) | (have nx := Ext.trans (hx.alloc _) hb; clear hx) | (have nx := Ext.trans hx.drew hb; clear hx) | have nx := hb); clear hb; try clear hs; try clear g0; try clear g1; have hx := nx; clear nx; have hs := ns; clear ns; have g0 := n0; clear n0; have g1 := n1; clear n1) | (go_at_call 81; (with_reducible refine (FUB.out _).mono ?_); rintro rv w1 ⟨rfl, hb⟩; have ns : w.heap.size < w1.heap.size := hb.ltK; have n0 : w1.cell? ⟨w.heap.size, 0, none⟩ = some (.int .i64 e) := hb.cellK; have n1 : w1.cell? ⟨w.heap.size, 1, none⟩ = some (.int .i64 f) := hb.cellK; (first | (have nx := Ext.trans hx hb; clear hx) | (have nx := Ext.trans (hx.alloc _) hb; clear hx) | (have nx := Ext.trans hx.drew hb; clear hx) | have nx := hb); clear hb; try clear hs; try clear g0; try clear g1; have hx := nx; clear nx; have hs := ns; clear ns; have g0 := n0; clear n0; have g1 := n1; clear n1) | (go_at_call 82; refine (LA.out _).mono ?_; rintro rv w1 ⟨rfl, rfl⟩)))
  go_wp2_with (first | (go_at_call 83; refine (NR.out _).mono ?_; rintro rv w1 ⟨rfl, hb⟩; have ns : w.heap.size < w1.heap.size := hb.ltK; have n0 : w1.cell? ⟨w.heap.size, 0, none⟩ = some (.int .i64 e) := hb.cellK; have n1 : w1.cell? ⟨w.heap.size, 1, none⟩ = some (.int .i64 f) := hb.cellK; (first | (have nx := Ext.trans hx hb; clear hx) | (have nx := Ext.trans (hx.alloc _) hb; clear hx) | (have nx := Ext.trans hx.drew hb; clear hx) | have nx := hb); clear hb; try clear hs; try clear g0; try clear g1; have hx := nx; clear nx; have hs := ns; clear ns; have g0 := n0; clear n0; have g1 := n1; clear n1))
  try (go_region_held3 (fun w' => w'.cell? ⟨w.heap.size, 0, none⟩ = some (.int .i64 e) ∧ w'.cell? ⟨w.heap.size, 1, none⟩ = some (.int .i64 f) ∧ w.heap.size < w'.heap.size) ((refine ⟨?_, ?_, ?_⟩ <;> first | with_reducible assumption | ((repeat first | rw [cell_set_far _ _ _ _ _ _ (by omega)] | rw [cell_alloc_before _ _ _ _ (by omega)] | rw [cell_alloc_drew _ _ _ _ (by omega)] | rw [cell_drew]); with_reducible assumption) | ((rw [cell_setRow_far _ _ _ _ _ (by omega)]); with_reducible assumption) | ((rw [setRow_size]); with_reducible assumption) | (simp; done) | (simp [World.setCell]; first | done | omega) | (simp [go_sem, World.cell?_alloc_past, World.cell?_setCell_far, *]; done))) ((first | (go_at_call 83; refine (NR.out _).mono ?_; rintro rv w1 ⟨rfl, hb⟩; have ns : w.heap.size < w1.heap.size := hb.ltK; have n0 : w1.cell? ⟨w.heap.size, 0, none⟩ = some (.int .i64 e) := hb.cellK; have n1 : w1.cell? ⟨w.heap.size, 1, none⟩ = some (.int .i64 f) := hb.cellK; (first | (have nx := Ext.trans hx hb; clear hx) | (have nx := Ext.trans (hx.alloc _) hb; clear hx) | (have nx := Ext.trans hx.drew hb; clear hx) | have nx := hb); clear hb; try clear hs; try clear g0; try clear g1; have hx := nx; clear nx; have hs := ns; clear ns; have g0 := n0; clear n0; have g1 := n1; clear n1))))
  try go_wp2_with fail
  go_region_held3 (fun w' => w'.cell? ⟨w.heap.size, 0, none⟩ = some (.int .i64 e) ∧ w'.cell? ⟨w.heap.size, 1, none⟩ = some (.int .i64 f) ∧ w.heap.size < w'.heap.size) ((refine ⟨?_, ?_, ?_⟩ <;> first | with_reducible assumption | ((repeat first | rw [cell_set_far _ _ _ _ _ _ (by omega)] | rw [cell_alloc_before _ _ _ _ (by omega)] | rw [cell_alloc_drew _ _ _ _ (by omega)] | rw [cell_drew]); with_reducible assumption) | ((rw [cell_setRow_far _ _ _ _ _ (by omega)]); with_reducible assumption) | ((rw [setRow_size]); with_reducible assumption) | (simp; done) | (simp [World.setCell]; first | done | omega) | (simp [go_sem, World.cell?_alloc_past, World.cell?_setCell_far, *]; done))) ((first | (go_at_call 87; refine (rdUnit_any e f hgg _).mono ?_; rintro rv w1 ⟨rfl, hb⟩; have ns : w.heap.size < w1.heap.size := hb.ltK; have n0 : w1.cell? ⟨w.heap.size, 0, none⟩ = some (.int .i64 e) := hb.cellK; have n1 : w1.cell? ⟨w.heap.size, 1, none⟩ = some (.int .i64 f) := hb.cellK; (first | (have nx := Ext.trans hx hb; clear hx) | (have nx := Ext.trans (hx.alloc _) hb; clear hx) | (have nx := Ext.trans hx.drew hb; clear hx) | have nx := hb); clear hb; try clear hs; try clear g0; try clear g1; have hx := nx; clear nx; have hs := ns; clear ns; have g0 := n0; clear n0; have g1 := n1; clear n1) | (go_at_call 86; refine (arRound_any e f R (unV e f) 0 hgg (by omega) (by omega) (by omega) (by omega) (by omega) (by omega) _).mono ?_; rintro rv w1 ⟨s, rfl, hq, hb⟩; have HQ := Lib.hid hq; clear hq; have ns : w.heap.size < w1.heap.size := hb.ltK; have n0 : w1.cell? ⟨w.heap.size, 0, none⟩ = some (.int .i64 e) := hb.cellK; have n1 : w1.cell? ⟨w.heap.size, 1, none⟩ = some (.int .i64 f) := hb.cellK; (first | (have nx := Ext.trans hx hb; clear hx) | (have nx := Ext.trans (hx.alloc _) hb; clear hx) | (have nx := Ext.trans hx.drew hb; clear hx) | have nx := hb); clear hb; try clear hs; try clear g0; try clear g1; have hx := nx; clear nx; have hs := ns; clear ns; have g0 := n0; clear n0; have g1 := n1; clear n1)))
  go_wp2_with fail
  go_ret2
  exact ⟨_, rfl, Or.inr (Or.inr (Or.inr ⟨by unfold rqP; omega, by omega, by rw [HR.out]; exact hz, s, by rw [HR.out], by rw [HR.out]; have h := HQ.out; rwa [Int.sub_self] at h⟩)), Ext.auK⟩

set_option maxHeartbeats 1600000 in
theorem sRemainderOf_ffz (e f a b R : Int) (hg : reB e f a b = true) (ha : kindV e f a = 1 ∨ kindV e f a = 2) (hb : kindV e f b = 1 ∨ kindV e f b = 2) (hR : (rmV e f a b) = R) (hz : R = 0) (w : World) : Calls Tryz.prog 40 #[fmt e f, .int .i64 a, .int .i64 b] w (ARboth (ReD e f a b) w) := by
  obtain ⟨hap, hbp⟩ := re_iff.1 hg
  have hgg := (pat_iff.1 hap).1
  have a0 := (pat_iff.1 hap).2.1
  have NA := Lib.hid (fun w => arNoK e f a false hap (by simp; omega) w)
  have IA := Lib.hid (fun w => arIsK e f a false hap (by simp; omega) w)
  have ZA := Lib.hid (fun w => arZeroK e f a false hap (by simp; omega) w)
  have NB := Lib.hid (fun w => arNoK e f b false hbp (by simp; omega) w)
  have IB := Lib.hid (fun w => arIsK e f b false hbp (by simp; omega) w)
  have ZB := Lib.hid (fun w => arZeroK e f b false hbp (by simp; omega) w)
  have u1 := un_bd hgg
  have sga := sign_01 hap
  have ubA := units_bd e f a hap
  have ubB := units_bd e f b hbp
  have nb := (kind_units hbp).2.1 hb
  have HR := Lib.hid hR
  obtain ⟨rb1, rb2⟩ := rm_bd hap hbp nb
  rw [hR] at rb1 rb2
  have FUA := Lib.hid (fun w => fmUnits_any e f a hap w)
  have FUB := Lib.hid (fun w => fmUnits_any e f b hbp w)
  have LA := Lib.hid (fun w => l1Abs_nat (unitsV e f b) (by omega) (by omega) w)
  have NR := Lib.hid (fun w => arNearest_any (unitsV e f a) ((unitsV e f b).natAbs : Int) (by omega) (by omega) (by omega) (by omega) w)
  unfold rmV at hR
  obtain ⟨nb1, nb2⟩ := nr_bd hap hbp nb
  have k1 : IntKind.i64.wrap (nrV (unitsV e f a) ((unitsV e f b).natAbs : Int) * ((unitsV e f b).natAbs : Int)) = nrV (unitsV e f a) ((unitsV e f b).natAbs : Int) * ((unitsV e f b).natAbs : Int) := IntWalk.i64_in _ (by omega)
  have k2 : IntKind.i64.wrap ((unitsV e f a) - nrV (unitsV e f a) ((unitsV e f b).natAbs : Int) * ((unitsV e f b).natAbs : Int)) = R := by rw [hR]; exact IntWalk.i64_in _ (by omega)
  clear hR nb1 nb2
  have hzb : (R == 0) = true := by simpa using hz
  generalize nrV (unitsV e f a) ((unitsV e f b).natAbs : Int) = Q at *
  generalize ((unitsV e f b).natAbs : Int) = V at *
  go_enter Tryz.func40, Tryz.ntmps40
  go_wp2_with (first | (go_at_call 75; (with_reducible refine (fmIs_any e f a _).mono ?_); rintro rv w1 ⟨rfl, hb⟩; have ns : w.heap.size < w1.heap.size := hb.ltK; have n0 : w1.cell? ⟨w.heap.size, 0, none⟩ = some (.int .i64 e) := hb.cellK; have n1 : w1.cell? ⟨w.heap.size, 1, none⟩ = some (.int .i64 f) := hb.cellK; (first | (have nx := Ext.trans hx hb; clear hx) | (have nx := Ext.trans (hx.alloc _) hb; clear hx) | (have nx := Ext.trans hx.drew hb; clear hx) | have nx := hb); clear hb; try clear hs; try clear g0; try clear g1; have hx := nx; clear nx; have hs := ns; clear ns; have g0 := n0; clear n0; have g1 := n1; clear n1) | (go_at_call 75; (with_reducible refine (fmIs_any e f b _).mono ?_); rintro rv w1 ⟨rfl, hb⟩; have ns : w.heap.size < w1.heap.size := hb.ltK; have n0 : w1.cell? ⟨w.heap.size, 0, none⟩ = some (.int .i64 e) := hb.cellK; have n1 : w1.cell? ⟨w.heap.size, 1, none⟩ = some (.int .i64 f) := hb.cellK; (first | (have nx := Ext.trans hx hb; clear hx) | (have nx := Ext.trans (hx.alloc _) hb; clear hx) | (have nx := Ext.trans hx.drew hb; clear hx) | have nx := hb); clear hb; try clear hs; try clear g0; try clear g1; have hx := nx; clear nx; have hs := ns; clear ns; have g0 := n0; clear n0; have g1 := n1; clear n1) | (go_at_call 77; (with_reducible refine (NA.out _).mono ?_); rintro rv w1 ⟨rfl, hb⟩; have ns : w.heap.size < w1.heap.size := hb.ltK; have n0 : w1.cell? ⟨w.heap.size, 0, none⟩ = some (.int .i64 e) := hb.cellK; have n1 : w1.cell? ⟨w.heap.size, 1, none⟩ = some (.int .i64 f) := hb.cellK; (first | (have nx := Ext.trans hx hb; clear hx) | (have nx := Ext.trans (hx.alloc _) hb; clear hx) | (have nx := Ext.trans hx.drew hb; clear hx) | have nx := hb); clear hb; try clear hs; try clear g0; try clear g1; have hx := nx; clear nx; have hs := ns; clear ns; have g0 := n0; clear n0; have g1 := n1; clear n1) | (go_at_call 78; (with_reducible refine (IA.out _).mono ?_); rintro rv w1 ⟨rfl, hb⟩; have ns : w.heap.size < w1.heap.size := hb.ltK; have n0 : w1.cell? ⟨w.heap.size, 0, none⟩ = some (.int .i64 e) := hb.cellK; have n1 : w1.cell? ⟨w.heap.size, 1, none⟩ = some (.int .i64 f) := hb.cellK; (first | (have nx := Ext.trans hx hb; clear hx) | (have nx := Ext.trans (hx.alloc _) hb; clear hx) | (have nx := Ext.trans hx.drew hb; clear hx) | have nx := hb); clear hb; try clear hs; try clear g0; try clear g1; have hx := nx; clear nx; have hs := ns; clear ns; have g0 := n0; clear n0; have g1 := n1; clear n1) | (go_at_call 79; (with_reducible refine (ZA.out _).mono ?_); rintro rv w1 ⟨rfl, hb⟩; have ns : w.heap.size < w1.heap.size := hb.ltK; have n0 : w1.cell? ⟨w.heap.size, 0, none⟩ = some (.int .i64 e) := hb.cellK; have n1 : w1.cell? ⟨w.heap.size, 1, none⟩ = some (.int .i64 f) := hb.cellK; (first | (have nx := Ext.trans hx hb; clear hx) | (have nx := Ext.trans (hx.alloc _) hb; clear hx) | (have nx := Ext.trans hx.drew hb; clear hx) | have nx := hb); clear hb; try clear hs; try clear g0; try clear g1; have hx := nx; clear nx; have hs := ns; clear ns; have g0 := n0; clear n0; have g1 := n1; clear n1) | (go_at_call 77; (with_reducible refine (NB.out _).mono ?_); rintro rv w1 ⟨rfl, hb⟩; have ns : w.heap.size < w1.heap.size := hb.ltK; have n0 : w1.cell? ⟨w.heap.size, 0, none⟩ = some (.int .i64 e) := hb.cellK; have n1 : w1.cell? ⟨w.heap.size, 1, none⟩ = some (.int .i64 f) := hb.cellK; (first | (have nx := Ext.trans hx hb; clear hx) | (have nx := Ext.trans (hx.alloc _) hb; clear hx) | (have nx := Ext.trans hx.drew hb; clear hx) | have nx := hb); clear hb; try clear hs; try clear g0; try clear g1; have hx := nx; clear nx; have hs := ns; clear ns; have g0 := n0; clear n0; have g1 := n1; clear n1) | (go_at_call 78; (with_reducible refine (IB.out _).mono ?_); rintro rv w1 ⟨rfl, hb⟩; have ns : w.heap.size < w1.heap.size := hb.ltK; have n0 : w1.cell? ⟨w.heap.size, 0, none⟩ = some (.int .i64 e) := hb.cellK; have n1 : w1.cell? ⟨w.heap.size, 1, none⟩ = some (.int .i64 f) := hb.cellK; (first | (have nx := Ext.trans hx hb; clear hx) | (have nx := Ext.trans (hx.alloc _) hb; clear hx) | (have nx := Ext.trans hx.drew hb; clear hx) | have nx := hb); clear hb; try clear hs; try clear g0; try clear g1; have hx := nx; clear nx; have hs := ns; clear ns; have g0 := n0; clear n0; have g1 := n1; clear n1) | (go_at_call 79; (with_reducible refine (ZB.out _).mono ?_); rintro rv w1 ⟨rfl, hb⟩; have ns : w.heap.size < w1.heap.size := hb.ltK; have n0 : w1.cell? ⟨w.heap.size, 0, none⟩ = some (.int .i64 e) := hb.cellK; have n1 : w1.cell? ⟨w.heap.size, 1, none⟩ = some (.int .i64 f) := hb.cellK; (first | (have nx := Ext.trans hx hb; clear hx) | (have nx := Ext.trans (hx.alloc _) hb; clear hx) | (have nx := Ext.trans hx.drew hb; clear hx) | have nx := hb); clear hb; try clear hs; try clear g0; try clear g1; have hx := nx; clear nx; have hs := ns; clear ns; have g0 := n0; clear n0; have g1 := n1; clear n1) | (go_at_call 80; refine (arQuiet_any e f hgg _).mono ?_; rintro rv w1 ⟨rfl, hb⟩; have ns : w.heap.size < w1.heap.size := hb.ltK; have n0 : w1.cell? ⟨w.heap.size, 0, none⟩ = some (.int .i64 e) := hb.cellK; have n1 : w1.cell? ⟨w.heap.size, 1, none⟩ = some (.int .i64 f) := hb.cellK; (first | (have nx := Ext.trans hx hb; clear hx) | (have nx := Ext.trans (hx.alloc _) hb; clear hx) | (have nx := Ext.trans hx.drew hb; clear hx) | have nx := hb); clear hb; try clear hs; try clear g0; try clear g1; have hx := nx; clear nx; have hs := ns; clear ns; have g0 := n0; clear n0; have g1 := n1; clear n1))
  go_region_held3 (fun w' => w'.cell? ⟨w.heap.size, 0, none⟩ = some (.int .i64 e) ∧ w'.cell? ⟨w.heap.size, 1, none⟩ = some (.int .i64 f) ∧ w.heap.size < w'.heap.size) ((refine ⟨?_, ?_, ?_⟩ <;> first | with_reducible assumption | ((repeat first | rw [cell_set_far _ _ _ _ _ _ (by omega)] | rw [cell_alloc_before _ _ _ _ (by omega)] | rw [cell_alloc_drew _ _ _ _ (by omega)] | rw [cell_drew]); with_reducible assumption) | ((rw [cell_setRow_far _ _ _ _ _ (by omega)]); with_reducible assumption) | ((rw [setRow_size]); with_reducible assumption) | (simp; done) | (simp [World.setCell]; first | done | omega) | (simp [go_sem, World.cell?_alloc_past, World.cell?_setCell_far, *]; done))) ((first | (go_at_call 81; (with_reducible refine (FUA.out _).mono ?_); rintro rv w1 ⟨rfl, hb⟩; have ns : w.heap.size < w1.heap.size := hb.ltK; have n0 : w1.cell? ⟨w.heap.size, 0, none⟩ = some (.int .i64 e) := hb.cellK; have n1 : w1.cell? ⟨w.heap.size, 1, none⟩ = some (.int .i64 f) := hb.cellK; (first | (have nx := Ext.trans hx hb; clear hx) | (have nx := Ext.trans (hx.alloc _) hb; clear hx) | (have nx := Ext.trans hx.drew hb; clear hx) | have nx := hb); clear hb; try clear hs; try clear g0; try clear g1; have hx := nx; clear nx; have hs := ns; clear ns; have g0 := n0; clear n0; have g1 := n1; clear n1) | (go_at_call 81; (with_reducible refine (FUB.out _).mono ?_); rintro rv w1 ⟨rfl, hb⟩; have ns : w.heap.size < w1.heap.size := hb.ltK; have n0 : w1.cell? ⟨w.heap.size, 0, none⟩ = some (.int .i64 e) := hb.cellK; have n1 : w1.cell? ⟨w.heap.size, 1, none⟩ = some (.int .i64 f) := hb.cellK; (first | (have nx := Ext.trans hx hb; clear hx) | (have nx := Ext.trans (hx.alloc _) hb; clear hx) | (have nx := Ext.trans hx.drew hb; clear hx) | have nx := hb); clear hb; try clear hs; try clear g0; try clear g1; have hx := nx; clear nx; have hs := ns; clear ns; have g0 := n0; clear n0; have g1 := n1; clear n1) | (go_at_call 82; refine (LA.out _).mono ?_; rintro rv w1 ⟨rfl, rfl⟩)))
  go_wp2_with (first | (go_at_call 83; refine (NR.out _).mono ?_; rintro rv w1 ⟨rfl, hb⟩; have ns : w.heap.size < w1.heap.size := hb.ltK; have n0 : w1.cell? ⟨w.heap.size, 0, none⟩ = some (.int .i64 e) := hb.cellK; have n1 : w1.cell? ⟨w.heap.size, 1, none⟩ = some (.int .i64 f) := hb.cellK; (first | (have nx := Ext.trans hx hb; clear hx) | (have nx := Ext.trans (hx.alloc _) hb; clear hx) | (have nx := Ext.trans hx.drew hb; clear hx) | have nx := hb); clear hb; try clear hs; try clear g0; try clear g1; have hx := nx; clear nx; have hs := ns; clear ns; have g0 := n0; clear n0; have g1 := n1; clear n1))
  try (go_region_held3 (fun w' => w'.cell? ⟨w.heap.size, 0, none⟩ = some (.int .i64 e) ∧ w'.cell? ⟨w.heap.size, 1, none⟩ = some (.int .i64 f) ∧ w.heap.size < w'.heap.size) ((refine ⟨?_, ?_, ?_⟩ <;> first | with_reducible assumption | ((repeat first | rw [cell_set_far _ _ _ _ _ _ (by omega)] | rw [cell_alloc_before _ _ _ _ (by omega)] | rw [cell_alloc_drew _ _ _ _ (by omega)] | rw [cell_drew]); with_reducible assumption) | ((rw [cell_setRow_far _ _ _ _ _ (by omega)]); with_reducible assumption) | ((rw [setRow_size]); with_reducible assumption) | (simp; done) | (simp [World.setCell]; first | done | omega) | (simp [go_sem, World.cell?_alloc_past, World.cell?_setCell_far, *]; done))) ((first | (go_at_call 83; refine (NR.out _).mono ?_; rintro rv w1 ⟨rfl, hb⟩; have ns : w.heap.size < w1.heap.size := hb.ltK; have n0 : w1.cell? ⟨w.heap.size, 0, none⟩ = some (.int .i64 e) := hb.cellK; have n1 : w1.cell? ⟨w.heap.size, 1, none⟩ = some (.int .i64 f) := hb.cellK; (first | (have nx := Ext.trans hx hb; clear hx) | (have nx := Ext.trans (hx.alloc _) hb; clear hx) | (have nx := Ext.trans hx.drew hb; clear hx) | have nx := hb); clear hb; try clear hs; try clear g0; try clear g1; have hx := nx; clear nx; have hs := ns; clear ns; have g0 := n0; clear n0; have g1 := n1; clear n1))))
  try go_wp2_with fail
  go_region_held3 (fun w' => w'.cell? ⟨w.heap.size, 0, none⟩ = some (.int .i64 e) ∧ w'.cell? ⟨w.heap.size, 1, none⟩ = some (.int .i64 f) ∧ w.heap.size < w'.heap.size) ((refine ⟨?_, ?_, ?_⟩ <;> first | with_reducible assumption | ((repeat first | rw [cell_set_far _ _ _ _ _ _ (by omega)] | rw [cell_alloc_before _ _ _ _ (by omega)] | rw [cell_alloc_drew _ _ _ _ (by omega)] | rw [cell_drew]); with_reducible assumption) | ((rw [cell_setRow_far _ _ _ _ _ (by omega)]); with_reducible assumption) | ((rw [setRow_size]); with_reducible assumption) | (simp; done) | (simp [World.setCell]; first | done | omega) | (simp [go_sem, World.cell?_alloc_past, World.cell?_setCell_far, *]; done))) ((first | (go_at_call 85; (with_reducible refine (fmSign_any e f a hgg a0 _).mono ?_); rintro rv w1 ⟨rfl, hb⟩; have ns : w.heap.size < w1.heap.size := hb.ltK; have n0 : w1.cell? ⟨w.heap.size, 0, none⟩ = some (.int .i64 e) := hb.cellK; have n1 : w1.cell? ⟨w.heap.size, 1, none⟩ = some (.int .i64 f) := hb.cellK; (first | (have nx := Ext.trans hx hb; clear hx) | (have nx := Ext.trans (hx.alloc _) hb; clear hx) | (have nx := Ext.trans hx.drew hb; clear hx) | have nx := hb); clear hb; try clear hs; try clear g0; try clear g1; have hx := nx; clear nx; have hs := ns; clear ns; have g0 := n0; clear n0; have g1 := n1; clear n1) | (go_at_call 84; refine (fmOf_any e f (a / pw (e + f)) 0 hgg (by omega) (by omega) (by omega) (by omega) _).mono ?_; rintro rv w1 ⟨rfl, hb⟩; have ns : w.heap.size < w1.heap.size := hb.ltK; have n0 : w1.cell? ⟨w.heap.size, 0, none⟩ = some (.int .i64 e) := hb.cellK; have n1 : w1.cell? ⟨w.heap.size, 1, none⟩ = some (.int .i64 f) := hb.cellK; (first | (have nx := Ext.trans hx hb; clear hx) | (have nx := Ext.trans (hx.alloc _) hb; clear hx) | (have nx := Ext.trans hx.drew hb; clear hx) | have nx := hb); clear hb; try clear hs; try clear g0; try clear g1; have hx := nx; clear nx; have hs := ns; clear ns; have g0 := n0; clear n0; have g1 := n1; clear n1)))
  go_wp2_with fail
  go_ret2
  exact ⟨_, rfl, Or.inr (Or.inr (Or.inl ⟨by unfold rqP; omega, by omega, by rw [HR.out]; exact hz, by first | rfl | simp⟩)), Ext.auK⟩

set_option maxHeartbeats 1600000 in
theorem sRemainderOf_ffn (e f a b R : Int) (hg : reB e f a b = true) (ha : kindV e f a = 1 ∨ kindV e f a = 2) (hb : kindV e f b = 1 ∨ kindV e f b = 2) (hR : (rmV e f a b) = R) (hz : ¬ R = 0) (w : World) : Calls Tryz.prog 40 #[fmt e f, .int .i64 a, .int .i64 b] w (ARboth (ReD e f a b) w) := by
  obtain ⟨hap, hbp⟩ := re_iff.1 hg
  have hgg := (pat_iff.1 hap).1
  have a0 := (pat_iff.1 hap).2.1
  have NA := Lib.hid (fun w => arNoK e f a false hap (by simp; omega) w)
  have IA := Lib.hid (fun w => arIsK e f a false hap (by simp; omega) w)
  have ZA := Lib.hid (fun w => arZeroK e f a false hap (by simp; omega) w)
  have NB := Lib.hid (fun w => arNoK e f b false hbp (by simp; omega) w)
  have IB := Lib.hid (fun w => arIsK e f b false hbp (by simp; omega) w)
  have ZB := Lib.hid (fun w => arZeroK e f b false hbp (by simp; omega) w)
  have u1 := un_bd hgg
  have sga := sign_01 hap
  have ubA := units_bd e f a hap
  have ubB := units_bd e f b hbp
  have nb := (kind_units hbp).2.1 hb
  have HR := Lib.hid hR
  obtain ⟨rb1, rb2⟩ := rm_bd hap hbp nb
  rw [hR] at rb1 rb2
  have FUA := Lib.hid (fun w => fmUnits_any e f a hap w)
  have FUB := Lib.hid (fun w => fmUnits_any e f b hbp w)
  have LA := Lib.hid (fun w => l1Abs_nat (unitsV e f b) (by omega) (by omega) w)
  have NR := Lib.hid (fun w => arNearest_any (unitsV e f a) ((unitsV e f b).natAbs : Int) (by omega) (by omega) (by omega) (by omega) w)
  unfold rmV at hR
  obtain ⟨nb1, nb2⟩ := nr_bd hap hbp nb
  have k1 : IntKind.i64.wrap (nrV (unitsV e f a) ((unitsV e f b).natAbs : Int) * ((unitsV e f b).natAbs : Int)) = nrV (unitsV e f a) ((unitsV e f b).natAbs : Int) * ((unitsV e f b).natAbs : Int) := IntWalk.i64_in _ (by omega)
  have k2 : IntKind.i64.wrap ((unitsV e f a) - nrV (unitsV e f a) ((unitsV e f b).natAbs : Int) * ((unitsV e f b).natAbs : Int)) = R := by rw [hR]; exact IntWalk.i64_in _ (by omega)
  clear hR nb1 nb2
  have hzb : (R == 0) = false := by simpa using hz
  generalize nrV (unitsV e f a) ((unitsV e f b).natAbs : Int) = Q at *
  generalize ((unitsV e f b).natAbs : Int) = V at *
  go_enter Tryz.func40, Tryz.ntmps40
  go_wp2_with (first | (go_at_call 75; (with_reducible refine (fmIs_any e f a _).mono ?_); rintro rv w1 ⟨rfl, hb⟩; have ns : w.heap.size < w1.heap.size := hb.ltK; have n0 : w1.cell? ⟨w.heap.size, 0, none⟩ = some (.int .i64 e) := hb.cellK; have n1 : w1.cell? ⟨w.heap.size, 1, none⟩ = some (.int .i64 f) := hb.cellK; (first | (have nx := Ext.trans hx hb; clear hx) | (have nx := Ext.trans (hx.alloc _) hb; clear hx) | (have nx := Ext.trans hx.drew hb; clear hx) | have nx := hb); clear hb; try clear hs; try clear g0; try clear g1; have hx := nx; clear nx; have hs := ns; clear ns; have g0 := n0; clear n0; have g1 := n1; clear n1) | (go_at_call 75; (with_reducible refine (fmIs_any e f b _).mono ?_); rintro rv w1 ⟨rfl, hb⟩; have ns : w.heap.size < w1.heap.size := hb.ltK; have n0 : w1.cell? ⟨w.heap.size, 0, none⟩ = some (.int .i64 e) := hb.cellK; have n1 : w1.cell? ⟨w.heap.size, 1, none⟩ = some (.int .i64 f) := hb.cellK; (first | (have nx := Ext.trans hx hb; clear hx) | (have nx := Ext.trans (hx.alloc _) hb; clear hx) | (have nx := Ext.trans hx.drew hb; clear hx) | have nx := hb); clear hb; try clear hs; try clear g0; try clear g1; have hx := nx; clear nx; have hs := ns; clear ns; have g0 := n0; clear n0; have g1 := n1; clear n1) | (go_at_call 77; (with_reducible refine (NA.out _).mono ?_); rintro rv w1 ⟨rfl, hb⟩; have ns : w.heap.size < w1.heap.size := hb.ltK; have n0 : w1.cell? ⟨w.heap.size, 0, none⟩ = some (.int .i64 e) := hb.cellK; have n1 : w1.cell? ⟨w.heap.size, 1, none⟩ = some (.int .i64 f) := hb.cellK; (first | (have nx := Ext.trans hx hb; clear hx) | (have nx := Ext.trans (hx.alloc _) hb; clear hx) | (have nx := Ext.trans hx.drew hb; clear hx) | have nx := hb); clear hb; try clear hs; try clear g0; try clear g1; have hx := nx; clear nx; have hs := ns; clear ns; have g0 := n0; clear n0; have g1 := n1; clear n1) | (go_at_call 78; (with_reducible refine (IA.out _).mono ?_); rintro rv w1 ⟨rfl, hb⟩; have ns : w.heap.size < w1.heap.size := hb.ltK; have n0 : w1.cell? ⟨w.heap.size, 0, none⟩ = some (.int .i64 e) := hb.cellK; have n1 : w1.cell? ⟨w.heap.size, 1, none⟩ = some (.int .i64 f) := hb.cellK; (first | (have nx := Ext.trans hx hb; clear hx) | (have nx := Ext.trans (hx.alloc _) hb; clear hx) | (have nx := Ext.trans hx.drew hb; clear hx) | have nx := hb); clear hb; try clear hs; try clear g0; try clear g1; have hx := nx; clear nx; have hs := ns; clear ns; have g0 := n0; clear n0; have g1 := n1; clear n1) | (go_at_call 79; (with_reducible refine (ZA.out _).mono ?_); rintro rv w1 ⟨rfl, hb⟩; have ns : w.heap.size < w1.heap.size := hb.ltK; have n0 : w1.cell? ⟨w.heap.size, 0, none⟩ = some (.int .i64 e) := hb.cellK; have n1 : w1.cell? ⟨w.heap.size, 1, none⟩ = some (.int .i64 f) := hb.cellK; (first | (have nx := Ext.trans hx hb; clear hx) | (have nx := Ext.trans (hx.alloc _) hb; clear hx) | (have nx := Ext.trans hx.drew hb; clear hx) | have nx := hb); clear hb; try clear hs; try clear g0; try clear g1; have hx := nx; clear nx; have hs := ns; clear ns; have g0 := n0; clear n0; have g1 := n1; clear n1) | (go_at_call 77; (with_reducible refine (NB.out _).mono ?_); rintro rv w1 ⟨rfl, hb⟩; have ns : w.heap.size < w1.heap.size := hb.ltK; have n0 : w1.cell? ⟨w.heap.size, 0, none⟩ = some (.int .i64 e) := hb.cellK; have n1 : w1.cell? ⟨w.heap.size, 1, none⟩ = some (.int .i64 f) := hb.cellK; (first | (have nx := Ext.trans hx hb; clear hx) | (have nx := Ext.trans (hx.alloc _) hb; clear hx) | (have nx := Ext.trans hx.drew hb; clear hx) | have nx := hb); clear hb; try clear hs; try clear g0; try clear g1; have hx := nx; clear nx; have hs := ns; clear ns; have g0 := n0; clear n0; have g1 := n1; clear n1) | (go_at_call 78; (with_reducible refine (IB.out _).mono ?_); rintro rv w1 ⟨rfl, hb⟩; have ns : w.heap.size < w1.heap.size := hb.ltK; have n0 : w1.cell? ⟨w.heap.size, 0, none⟩ = some (.int .i64 e) := hb.cellK; have n1 : w1.cell? ⟨w.heap.size, 1, none⟩ = some (.int .i64 f) := hb.cellK; (first | (have nx := Ext.trans hx hb; clear hx) | (have nx := Ext.trans (hx.alloc _) hb; clear hx) | (have nx := Ext.trans hx.drew hb; clear hx) | have nx := hb); clear hb; try clear hs; try clear g0; try clear g1; have hx := nx; clear nx; have hs := ns; clear ns; have g0 := n0; clear n0; have g1 := n1; clear n1) | (go_at_call 79; (with_reducible refine (ZB.out _).mono ?_); rintro rv w1 ⟨rfl, hb⟩; have ns : w.heap.size < w1.heap.size := hb.ltK; have n0 : w1.cell? ⟨w.heap.size, 0, none⟩ = some (.int .i64 e) := hb.cellK; have n1 : w1.cell? ⟨w.heap.size, 1, none⟩ = some (.int .i64 f) := hb.cellK; (first | (have nx := Ext.trans hx hb; clear hx) | (have nx := Ext.trans (hx.alloc _) hb; clear hx) | (have nx := Ext.trans hx.drew hb; clear hx) | have nx := hb); clear hb; try clear hs; try clear g0; try clear g1; have hx := nx; clear nx; have hs := ns; clear ns; have g0 := n0; clear n0; have g1 := n1; clear n1) | (go_at_call 80; refine (arQuiet_any e f hgg _).mono ?_; rintro rv w1 ⟨rfl, hb⟩; have ns : w.heap.size < w1.heap.size := hb.ltK; have n0 : w1.cell? ⟨w.heap.size, 0, none⟩ = some (.int .i64 e) := hb.cellK; have n1 : w1.cell? ⟨w.heap.size, 1, none⟩ = some (.int .i64 f) := hb.cellK; (first | (have nx := Ext.trans hx hb; clear hx) | (have nx := Ext.trans (hx.alloc _) hb; clear hx) | (have nx := Ext.trans hx.drew hb; clear hx) | have nx := hb); clear hb; try clear hs; try clear g0; try clear g1; have hx := nx; clear nx; have hs := ns; clear ns; have g0 := n0; clear n0; have g1 := n1; clear n1))
  go_region_held3 (fun w' => w'.cell? ⟨w.heap.size, 0, none⟩ = some (.int .i64 e) ∧ w'.cell? ⟨w.heap.size, 1, none⟩ = some (.int .i64 f) ∧ w.heap.size < w'.heap.size) ((refine ⟨?_, ?_, ?_⟩ <;> first | with_reducible assumption | ((repeat first | rw [cell_set_far _ _ _ _ _ _ (by omega)] | rw [cell_alloc_before _ _ _ _ (by omega)] | rw [cell_alloc_drew _ _ _ _ (by omega)] | rw [cell_drew]); with_reducible assumption) | ((rw [cell_setRow_far _ _ _ _ _ (by omega)]); with_reducible assumption) | ((rw [setRow_size]); with_reducible assumption) | (simp; done) | (simp [World.setCell]; first | done | omega) | (simp [go_sem, World.cell?_alloc_past, World.cell?_setCell_far, *]; done))) ((first | (go_at_call 81; (with_reducible refine (FUA.out _).mono ?_); rintro rv w1 ⟨rfl, hb⟩; have ns : w.heap.size < w1.heap.size := hb.ltK; have n0 : w1.cell? ⟨w.heap.size, 0, none⟩ = some (.int .i64 e) := hb.cellK; have n1 : w1.cell? ⟨w.heap.size, 1, none⟩ = some (.int .i64 f) := hb.cellK; (first | (have nx := Ext.trans hx hb; clear hx) | (have nx := Ext.trans (hx.alloc _) hb; clear hx) | (have nx := Ext.trans hx.drew hb; clear hx) | have nx := hb); clear hb; try clear hs; try clear g0; try clear g1; have hx := nx; clear nx; have hs := ns; clear ns; have g0 := n0; clear n0; have g1 := n1; clear n1) | (go_at_call 81; (with_reducible refine (FUB.out _).mono ?_); rintro rv w1 ⟨rfl, hb⟩; have ns : w.heap.size < w1.heap.size := hb.ltK; have n0 : w1.cell? ⟨w.heap.size, 0, none⟩ = some (.int .i64 e) := hb.cellK; have n1 : w1.cell? ⟨w.heap.size, 1, none⟩ = some (.int .i64 f) := hb.cellK; (first | (have nx := Ext.trans hx hb; clear hx) | (have nx := Ext.trans (hx.alloc _) hb; clear hx) | (have nx := Ext.trans hx.drew hb; clear hx) | have nx := hb); clear hb; try clear hs; try clear g0; try clear g1; have hx := nx; clear nx; have hs := ns; clear ns; have g0 := n0; clear n0; have g1 := n1; clear n1) | (go_at_call 82; refine (LA.out _).mono ?_; rintro rv w1 ⟨rfl, rfl⟩)))
  go_wp2_with (first | (go_at_call 83; refine (NR.out _).mono ?_; rintro rv w1 ⟨rfl, hb⟩; have ns : w.heap.size < w1.heap.size := hb.ltK; have n0 : w1.cell? ⟨w.heap.size, 0, none⟩ = some (.int .i64 e) := hb.cellK; have n1 : w1.cell? ⟨w.heap.size, 1, none⟩ = some (.int .i64 f) := hb.cellK; (first | (have nx := Ext.trans hx hb; clear hx) | (have nx := Ext.trans (hx.alloc _) hb; clear hx) | (have nx := Ext.trans hx.drew hb; clear hx) | have nx := hb); clear hb; try clear hs; try clear g0; try clear g1; have hx := nx; clear nx; have hs := ns; clear ns; have g0 := n0; clear n0; have g1 := n1; clear n1))
  try (go_region_held3 (fun w' => w'.cell? ⟨w.heap.size, 0, none⟩ = some (.int .i64 e) ∧ w'.cell? ⟨w.heap.size, 1, none⟩ = some (.int .i64 f) ∧ w.heap.size < w'.heap.size) ((refine ⟨?_, ?_, ?_⟩ <;> first | with_reducible assumption | ((repeat first | rw [cell_set_far _ _ _ _ _ _ (by omega)] | rw [cell_alloc_before _ _ _ _ (by omega)] | rw [cell_alloc_drew _ _ _ _ (by omega)] | rw [cell_drew]); with_reducible assumption) | ((rw [cell_setRow_far _ _ _ _ _ (by omega)]); with_reducible assumption) | ((rw [setRow_size]); with_reducible assumption) | (simp; done) | (simp [World.setCell]; first | done | omega) | (simp [go_sem, World.cell?_alloc_past, World.cell?_setCell_far, *]; done))) ((first | (go_at_call 83; refine (NR.out _).mono ?_; rintro rv w1 ⟨rfl, hb⟩; have ns : w.heap.size < w1.heap.size := hb.ltK; have n0 : w1.cell? ⟨w.heap.size, 0, none⟩ = some (.int .i64 e) := hb.cellK; have n1 : w1.cell? ⟨w.heap.size, 1, none⟩ = some (.int .i64 f) := hb.cellK; (first | (have nx := Ext.trans hx hb; clear hx) | (have nx := Ext.trans (hx.alloc _) hb; clear hx) | (have nx := Ext.trans hx.drew hb; clear hx) | have nx := hb); clear hb; try clear hs; try clear g0; try clear g1; have hx := nx; clear nx; have hs := ns; clear ns; have g0 := n0; clear n0; have g1 := n1; clear n1))))
  try go_wp2_with fail
  go_region_held3 (fun w' => w'.cell? ⟨w.heap.size, 0, none⟩ = some (.int .i64 e) ∧ w'.cell? ⟨w.heap.size, 1, none⟩ = some (.int .i64 f) ∧ w.heap.size < w'.heap.size) ((refine ⟨?_, ?_, ?_⟩ <;> first | with_reducible assumption | ((repeat first | rw [cell_set_far _ _ _ _ _ _ (by omega)] | rw [cell_alloc_before _ _ _ _ (by omega)] | rw [cell_alloc_drew _ _ _ _ (by omega)] | rw [cell_drew]); with_reducible assumption) | ((rw [cell_setRow_far _ _ _ _ _ (by omega)]); with_reducible assumption) | ((rw [setRow_size]); with_reducible assumption) | (simp; done) | (simp [World.setCell]; first | done | omega) | (simp [go_sem, World.cell?_alloc_past, World.cell?_setCell_far, *]; done))) ((first | (go_at_call 87; refine (rdUnit_any e f hgg _).mono ?_; rintro rv w1 ⟨rfl, hb⟩; have ns : w.heap.size < w1.heap.size := hb.ltK; have n0 : w1.cell? ⟨w.heap.size, 0, none⟩ = some (.int .i64 e) := hb.cellK; have n1 : w1.cell? ⟨w.heap.size, 1, none⟩ = some (.int .i64 f) := hb.cellK; (first | (have nx := Ext.trans hx hb; clear hx) | (have nx := Ext.trans (hx.alloc _) hb; clear hx) | (have nx := Ext.trans hx.drew hb; clear hx) | have nx := hb); clear hb; try clear hs; try clear g0; try clear g1; have hx := nx; clear nx; have hs := ns; clear ns; have g0 := n0; clear n0; have g1 := n1; clear n1) | (go_at_call 86; refine (arRound_any e f R (unV e f) 0 hgg (by omega) (by omega) (by omega) (by omega) (by omega) (by omega) _).mono ?_; rintro rv w1 ⟨s, rfl, hq, hb⟩; have HQ := Lib.hid hq; clear hq; have ns : w.heap.size < w1.heap.size := hb.ltK; have n0 : w1.cell? ⟨w.heap.size, 0, none⟩ = some (.int .i64 e) := hb.cellK; have n1 : w1.cell? ⟨w.heap.size, 1, none⟩ = some (.int .i64 f) := hb.cellK; (first | (have nx := Ext.trans hx hb; clear hx) | (have nx := Ext.trans (hx.alloc _) hb; clear hx) | (have nx := Ext.trans hx.drew hb; clear hx) | have nx := hb); clear hb; try clear hs; try clear g0; try clear g1; have hx := nx; clear nx; have hs := ns; clear ns; have g0 := n0; clear n0; have g1 := n1; clear n1)))
  go_wp2_with fail
  go_ret2
  exact ⟨_, rfl, Or.inr (Or.inr (Or.inr ⟨by unfold rqP; omega, by omega, by rw [HR.out]; exact hz, s, by rw [HR.out], by rw [HR.out]; have h := HQ.out; rwa [Int.sub_self] at h⟩)), Ext.auK⟩

theorem sRemainderOf_yes (e f a b : Int) (hg : reB e f a b = true) (w : World) : Calls Tryz.prog 40 #[fmt e f, .int .i64 a, .int .i64 b] w (ARboth (ReD e f a b) w) := by
  obtain ⟨hap, hbp⟩ := re_iff.1 hg
  rcases kind_parts hap with ⟨ka, _⟩ | ⟨ka, _⟩ | ⟨ka, _⟩ | ⟨ka, _⟩
  · exact sRemainderOf_xy e f a b hg ka w
  · rcases kind_parts hbp with ⟨kb, _⟩ | ⟨kb, _⟩ | ⟨kb, _⟩ | ⟨kb, _⟩
    · exact sRemainderOf_ox e f a b hg (by omega) kb w
    · exact sRemainderOf_io e f a b hg ka (by omega) w
    · exact sRemainderOf_io e f a b hg ka (by omega) w
    · exact sRemainderOf_io e f a b hg ka (by omega) w
  · rcases kind_parts hbp with ⟨kb, _⟩ | ⟨kb, _⟩ | ⟨kb, _⟩ | ⟨kb, _⟩
    · exact sRemainderOf_ox e f a b hg (by omega) kb w
    · exact sRemainderOf_zi e f a b hg ka kb w
    · exact sRemainderOf_zz e f a b hg ka kb w
    · by_cases hz : (rmV e f a b) = 0
      · exact sRemainderOf_zfz e f a b _ hg ka kb rfl hz w
      · exact sRemainderOf_zfn e f a b _ hg ka kb rfl hz w
  · rcases kind_parts hbp with ⟨kb, _⟩ | ⟨kb, _⟩ | ⟨kb, _⟩ | ⟨kb, _⟩
    · exact sRemainderOf_ox e f a b hg (by omega) kb w
    · exact sRemainderOf_fi e f a b hg ka kb w
    · exact sRemainderOf_fz e f a b hg ka kb w
    · by_cases hz : (rmV e f a b) = 0
      · exact sRemainderOf_ffz e f a b _ hg ka kb rfl hz w
      · exact sRemainderOf_ffn e f a b _ hg ka kb rfl hz w
end Go.Proofs.YtfgbndjhaiigbaaGreatDoor

namespace Go.Proofs.YtfgbndjhaiigbaaGreatDoor
open Go Go.RowKit
set_option linter.unusedSimpArgs false
set_option linter.unusedVariables false
set_option maxRecDepth 100000

attribute [local go_sem] ta_finite_finite ta_finite_infinite ta_finite_noNumber ta_infinite_finite ta_infinite_infinite ta_infinite_noNumber ta_noNumber_finite ta_noNumber_infinite ta_noNumber_noNumber

theorem frest_zero (p1 q1 r1 p2 q2 r2 : Int) (h2 : q2 = 0) (w : World) : Calls Tryz.prog 132 #[.agg #[.int .i64 p1, .int .i64 q1, .int .i64 r1], .agg #[.int .i64 p2, .int .i64 q2, .int .i64 r2]] w fun rv w' => rv = .returned (.iface 107 (.agg #[])) ∧ Ext w w' := by
  have zb := Lib.hid (fun w => finZero_t p2 q2 r2 h2 w)
  clear h2
  go_enter Tryz.func132, Tryz.ntmps132
  go_wp2_with (go_at_call 152; refine (zb.out _).mono ?_; rintro rv w1 ⟨rfl, hb⟩; have ns : w.heap.size + 1 < w1.heap.size := hb.ltK; have n0 : w1.cell? ⟨w.heap.size, 0, none⟩ = some (.int .i64 p1) := hb.cellK; have n1 : w1.cell? ⟨w.heap.size, 1, none⟩ = some (.int .i64 q1) := hb.cellK; have n2 : w1.cell? ⟨w.heap.size, 2, none⟩ = some (.int .i64 r1) := hb.cellK; have n3 : w1.cell? ⟨w.heap.size + 1, 0, none⟩ = some (.int .i64 p2) := hb.cellK; have n4 : w1.cell? ⟨w.heap.size + 1, 1, none⟩ = some (.int .i64 q2) := hb.cellK; have n5 : w1.cell? ⟨w.heap.size + 1, 2, none⟩ = some (.int .i64 r2) := hb.cellK; (first | (have nx := Ext.trans hx hb; clear hx) | (have nx := Ext.trans (hx.alloc _) hb; clear hx) | (have nx := Ext.trans hx.drew hb; clear hx) | have nx := hb); clear hb; try clear hs; try clear g0; try clear g1; try clear g2; try clear g3; try clear g4; try clear g5; have hx := nx; clear nx; have hs := ns; clear ns; have g0 := n0; clear n0; have g1 := n1; clear n1; have g2 := n2; clear n2; have g3 := n3; clear n3; have g4 := n4; clear n4; have g5 := n5; clear n5)
  go_ret
  exact ⟨rfl, Ext.auK⟩

set_option maxHeartbeats 1600000 in
theorem frest_0 (q1 r1 p2 q2 r2 A B x Q L R z1 z2 z3 : Int) (h2 : ¬ q2 = 0) (TG : Hid (∀ w, Calls Tryz.prog 134 #[.agg #[.int .i64 0, .int .i64 q1, .int .i64 r1], .agg #[.int .i64 p2, .int .i64 q2, .int .i64 r2]] w fun rv w' => rv = .returned (.tuple #[.int .i64 A, .int .i64 B, .int .i64 x]) ∧ Ext w w'))
    (WQ : Hid (∀ w, Calls Tryz.prog 135 #[.int .i64 A, .int .i64 B, .int .i64 0, .bool false] w fun rv w' => rv = .returned (.int .i64 Q) ∧ Ext w w')) (kB : IntKind.i64.wrap (B * Q) = B * Q) (kL : IntKind.i64.wrap (A - B * Q) = L) (kR : L = R)
    (FO : Hid (∀ w, Calls Tryz.prog 148 #[.int .i64 R, .int .i64 x, .int .i64 0] w fun rv w' => rv = .returned (.agg #[.int .i64 z1, .int .i64 z2, .int .i64 z3]) ∧ Ext w w')) (w : World) : Calls Tryz.prog 132 #[.agg #[.int .i64 0, .int .i64 q1, .int .i64 r1], .agg #[.int .i64 p2, .int .i64 q2, .int .i64 r2]] w fun rv w' => rv = .returned (.iface 82 (.agg #[.int .i64 z1, .int .i64 z2, .int .i64 z3])) ∧ Ext w w' := by
  have zb := Lib.hid (fun w => finZero_f p2 q2 r2 h2 w)
  clear h2
  subst kR
  go_enter Tryz.func132, Tryz.ntmps132
  go_wp2_with (first | (go_at_call 152; refine (zb.out _).mono ?_; rintro rv w1 ⟨rfl, hb⟩; have ns : w.heap.size + 1 < w1.heap.size := hb.ltK; have n0 : w1.cell? ⟨w.heap.size, 0, none⟩ = some (.int .i64 0) := hb.cellK; have n1 : w1.cell? ⟨w.heap.size, 1, none⟩ = some (.int .i64 q1) := hb.cellK; have n2 : w1.cell? ⟨w.heap.size, 2, none⟩ = some (.int .i64 r1) := hb.cellK; have n3 : w1.cell? ⟨w.heap.size + 1, 0, none⟩ = some (.int .i64 p2) := hb.cellK; have n4 : w1.cell? ⟨w.heap.size + 1, 1, none⟩ = some (.int .i64 q2) := hb.cellK; have n5 : w1.cell? ⟨w.heap.size + 1, 2, none⟩ = some (.int .i64 r2) := hb.cellK; (first | (have nx := Ext.trans hx hb; clear hx) | (have nx := Ext.trans (hx.alloc _) hb; clear hx) | (have nx := Ext.trans hx.drew hb; clear hx) | have nx := hb); clear hb; try clear hs; try clear g0; try clear g1; try clear g2; try clear g3; try clear g4; try clear g5; have hx := nx; clear nx; have hs := ns; clear ns; have g0 := n0; clear n0; have g1 := n1; clear n1; have g2 := n2; clear n2; have g3 := n3; clear n3; have g4 := n4; clear n4; have g5 := n5; clear n5))
  try (go_region_held3 (fun w' => w'.cell? ⟨w.heap.size, 0, none⟩ = some (.int .i64 0) ∧ w'.cell? ⟨w.heap.size, 1, none⟩ = some (.int .i64 q1) ∧ w'.cell? ⟨w.heap.size, 2, none⟩ = some (.int .i64 r1) ∧ w'.cell? ⟨w.heap.size + 1, 0, none⟩ = some (.int .i64 p2) ∧ w'.cell? ⟨w.heap.size + 1, 1, none⟩ = some (.int .i64 q2) ∧ w'.cell? ⟨w.heap.size + 1, 2, none⟩ = some (.int .i64 r2) ∧ w.heap.size + 1 < w'.heap.size) ((refine ⟨?_, ?_, ?_, ?_, ?_, ?_, ?_⟩ <;> first | with_reducible assumption | ((repeat first | rw [cell_set_far _ _ _ _ _ _ (by omega)] | rw [cell_alloc_before _ _ _ _ (by omega)] | rw [cell_alloc_drew _ _ _ _ (by omega)] | rw [cell_drew]); with_reducible assumption) | ((rw [cell_setRow_far _ _ _ _ _ (by omega)]); with_reducible assumption) | ((rw [setRow_size]); with_reducible assumption) | (simp; done) | (simp [World.setCell]; first | done | omega) | (simp [go_sem, World.cell?_alloc_past, World.cell?_setCell_far, *]; done))) ((first | (go_at_call 134; refine (TG.out _).mono ?_; rintro rv w1 ⟨rfl, hb⟩; have ns : w.heap.size + 1 < w1.heap.size := hb.ltK; have n0 : w1.cell? ⟨w.heap.size, 0, none⟩ = some (.int .i64 0) := hb.cellK; have n1 : w1.cell? ⟨w.heap.size, 1, none⟩ = some (.int .i64 q1) := hb.cellK; have n2 : w1.cell? ⟨w.heap.size, 2, none⟩ = some (.int .i64 r1) := hb.cellK; have n3 : w1.cell? ⟨w.heap.size + 1, 0, none⟩ = some (.int .i64 p2) := hb.cellK; have n4 : w1.cell? ⟨w.heap.size + 1, 1, none⟩ = some (.int .i64 q2) := hb.cellK; have n5 : w1.cell? ⟨w.heap.size + 1, 2, none⟩ = some (.int .i64 r2) := hb.cellK; (first | (have nx := Ext.trans hx hb; clear hx) | (have nx := Ext.trans (hx.alloc _) hb; clear hx) | (have nx := Ext.trans hx.drew hb; clear hx) | have nx := hb); clear hb; try clear hs; try clear g0; try clear g1; try clear g2; try clear g3; try clear g4; try clear g5; have hx := nx; clear nx; have hs := ns; clear ns; have g0 := n0; clear n0; have g1 := n1; clear n1; have g2 := n2; clear n2; have g3 := n3; clear n3; have g4 := n4; clear n4; have g5 := n5; clear n5))))
  try go_wp2_with (first | (go_at_call 134; refine (TG.out _).mono ?_; rintro rv w1 ⟨rfl, hb⟩; have ns : w.heap.size + 1 < w1.heap.size := hb.ltK; have n0 : w1.cell? ⟨w.heap.size, 0, none⟩ = some (.int .i64 0) := hb.cellK; have n1 : w1.cell? ⟨w.heap.size, 1, none⟩ = some (.int .i64 q1) := hb.cellK; have n2 : w1.cell? ⟨w.heap.size, 2, none⟩ = some (.int .i64 r1) := hb.cellK; have n3 : w1.cell? ⟨w.heap.size + 1, 0, none⟩ = some (.int .i64 p2) := hb.cellK; have n4 : w1.cell? ⟨w.heap.size + 1, 1, none⟩ = some (.int .i64 q2) := hb.cellK; have n5 : w1.cell? ⟨w.heap.size + 1, 2, none⟩ = some (.int .i64 r2) := hb.cellK; (first | (have nx := Ext.trans hx hb; clear hx) | (have nx := Ext.trans (hx.alloc _) hb; clear hx) | (have nx := Ext.trans hx.drew hb; clear hx) | have nx := hb); clear hb; try clear hs; try clear g0; try clear g1; try clear g2; try clear g3; try clear g4; try clear g5; have hx := nx; clear nx; have hs := ns; clear ns; have g0 := n0; clear n0; have g1 := n1; clear n1; have g2 := n2; clear n2; have g3 := n3; clear n3; have g4 := n4; clear n4; have g5 := n5; clear n5))
  try (go_region_held3 (fun w' => w'.cell? ⟨w.heap.size, 0, none⟩ = some (.int .i64 0) ∧ w'.cell? ⟨w.heap.size, 1, none⟩ = some (.int .i64 q1) ∧ w'.cell? ⟨w.heap.size, 2, none⟩ = some (.int .i64 r1) ∧ w'.cell? ⟨w.heap.size + 1, 0, none⟩ = some (.int .i64 p2) ∧ w'.cell? ⟨w.heap.size + 1, 1, none⟩ = some (.int .i64 q2) ∧ w'.cell? ⟨w.heap.size + 1, 2, none⟩ = some (.int .i64 r2) ∧ w.heap.size + 1 < w'.heap.size) ((refine ⟨?_, ?_, ?_, ?_, ?_, ?_, ?_⟩ <;> first | with_reducible assumption | ((repeat first | rw [cell_set_far _ _ _ _ _ _ (by omega)] | rw [cell_alloc_before _ _ _ _ (by omega)] | rw [cell_alloc_drew _ _ _ _ (by omega)] | rw [cell_drew]); with_reducible assumption) | ((rw [cell_setRow_far _ _ _ _ _ (by omega)]); with_reducible assumption) | ((rw [setRow_size]); with_reducible assumption) | (simp; done) | (simp [World.setCell]; first | done | omega) | (simp [go_sem, World.cell?_alloc_past, World.cell?_setCell_far, *]; done))) ((first | (go_at_call 135; refine (WQ.out _).mono ?_; rintro rv w1 ⟨rfl, hb⟩; have ns : w.heap.size + 1 < w1.heap.size := hb.ltK; have n0 : w1.cell? ⟨w.heap.size, 0, none⟩ = some (.int .i64 0) := hb.cellK; have n1 : w1.cell? ⟨w.heap.size, 1, none⟩ = some (.int .i64 q1) := hb.cellK; have n2 : w1.cell? ⟨w.heap.size, 2, none⟩ = some (.int .i64 r1) := hb.cellK; have n3 : w1.cell? ⟨w.heap.size + 1, 0, none⟩ = some (.int .i64 p2) := hb.cellK; have n4 : w1.cell? ⟨w.heap.size + 1, 1, none⟩ = some (.int .i64 q2) := hb.cellK; have n5 : w1.cell? ⟨w.heap.size + 1, 2, none⟩ = some (.int .i64 r2) := hb.cellK; (first | (have nx := Ext.trans hx hb; clear hx) | (have nx := Ext.trans (hx.alloc _) hb; clear hx) | (have nx := Ext.trans hx.drew hb; clear hx) | have nx := hb); clear hb; try clear hs; try clear g0; try clear g1; try clear g2; try clear g3; try clear g4; try clear g5; have hx := nx; clear nx; have hs := ns; clear ns; have g0 := n0; clear n0; have g1 := n1; clear n1; have g2 := n2; clear n2; have g3 := n3; clear n3; have g4 := n4; clear n4; have g5 := n5; clear n5))))
  try go_wp2_with (first | (go_at_call 135; refine (WQ.out _).mono ?_; rintro rv w1 ⟨rfl, hb⟩; have ns : w.heap.size + 1 < w1.heap.size := hb.ltK; have n0 : w1.cell? ⟨w.heap.size, 0, none⟩ = some (.int .i64 0) := hb.cellK; have n1 : w1.cell? ⟨w.heap.size, 1, none⟩ = some (.int .i64 q1) := hb.cellK; have n2 : w1.cell? ⟨w.heap.size, 2, none⟩ = some (.int .i64 r1) := hb.cellK; have n3 : w1.cell? ⟨w.heap.size + 1, 0, none⟩ = some (.int .i64 p2) := hb.cellK; have n4 : w1.cell? ⟨w.heap.size + 1, 1, none⟩ = some (.int .i64 q2) := hb.cellK; have n5 : w1.cell? ⟨w.heap.size + 1, 2, none⟩ = some (.int .i64 r2) := hb.cellK; (first | (have nx := Ext.trans hx hb; clear hx) | (have nx := Ext.trans (hx.alloc _) hb; clear hx) | (have nx := Ext.trans hx.drew hb; clear hx) | have nx := hb); clear hb; try clear hs; try clear g0; try clear g1; try clear g2; try clear g3; try clear g4; try clear g5; have hx := nx; clear nx; have hs := ns; clear ns; have g0 := n0; clear n0; have g1 := n1; clear n1; have g2 := n2; clear n2; have g3 := n3; clear n3; have g4 := n4; clear n4; have g5 := n5; clear n5))
  try (go_region_held3 (fun w' => w'.cell? ⟨w.heap.size, 0, none⟩ = some (.int .i64 0) ∧ w'.cell? ⟨w.heap.size, 1, none⟩ = some (.int .i64 q1) ∧ w'.cell? ⟨w.heap.size, 2, none⟩ = some (.int .i64 r1) ∧ w'.cell? ⟨w.heap.size + 1, 0, none⟩ = some (.int .i64 p2) ∧ w'.cell? ⟨w.heap.size + 1, 1, none⟩ = some (.int .i64 q2) ∧ w'.cell? ⟨w.heap.size + 1, 2, none⟩ = some (.int .i64 r2) ∧ w.heap.size + 1 < w'.heap.size) ((refine ⟨?_, ?_, ?_, ?_, ?_, ?_, ?_⟩ <;> first | with_reducible assumption | ((repeat first | rw [cell_set_far _ _ _ _ _ _ (by omega)] | rw [cell_alloc_before _ _ _ _ (by omega)] | rw [cell_alloc_drew _ _ _ _ (by omega)] | rw [cell_drew]); with_reducible assumption) | ((rw [cell_setRow_far _ _ _ _ _ (by omega)]); with_reducible assumption) | ((rw [setRow_size]); with_reducible assumption) | (simp; done) | (simp [World.setCell]; first | done | omega) | (simp [go_sem, World.cell?_alloc_past, World.cell?_setCell_far, *]; done))) ((first | (go_at_call 148; refine (FO.out _).mono ?_; rintro rv w1 ⟨rfl, hb⟩; have ns : w.heap.size + 1 < w1.heap.size := hb.ltK; have n0 : w1.cell? ⟨w.heap.size, 0, none⟩ = some (.int .i64 0) := hb.cellK; have n1 : w1.cell? ⟨w.heap.size, 1, none⟩ = some (.int .i64 q1) := hb.cellK; have n2 : w1.cell? ⟨w.heap.size, 2, none⟩ = some (.int .i64 r1) := hb.cellK; have n3 : w1.cell? ⟨w.heap.size + 1, 0, none⟩ = some (.int .i64 p2) := hb.cellK; have n4 : w1.cell? ⟨w.heap.size + 1, 1, none⟩ = some (.int .i64 q2) := hb.cellK; have n5 : w1.cell? ⟨w.heap.size + 1, 2, none⟩ = some (.int .i64 r2) := hb.cellK; (first | (have nx := Ext.trans hx hb; clear hx) | (have nx := Ext.trans (hx.alloc _) hb; clear hx) | (have nx := Ext.trans hx.drew hb; clear hx) | have nx := hb); clear hb; try clear hs; try clear g0; try clear g1; try clear g2; try clear g3; try clear g4; try clear g5; have hx := nx; clear nx; have hs := ns; clear ns; have g0 := n0; clear n0; have g1 := n1; clear n1; have g2 := n2; clear n2; have g3 := n3; clear n3; have g4 := n4; clear n4; have g5 := n5; clear n5))))
  try go_wp2_with (first | (go_at_call 148; refine (FO.out _).mono ?_; rintro rv w1 ⟨rfl, hb⟩; have ns : w.heap.size + 1 < w1.heap.size := hb.ltK; have n0 : w1.cell? ⟨w.heap.size, 0, none⟩ = some (.int .i64 0) := hb.cellK; have n1 : w1.cell? ⟨w.heap.size, 1, none⟩ = some (.int .i64 q1) := hb.cellK; have n2 : w1.cell? ⟨w.heap.size, 2, none⟩ = some (.int .i64 r1) := hb.cellK; have n3 : w1.cell? ⟨w.heap.size + 1, 0, none⟩ = some (.int .i64 p2) := hb.cellK; have n4 : w1.cell? ⟨w.heap.size + 1, 1, none⟩ = some (.int .i64 q2) := hb.cellK; have n5 : w1.cell? ⟨w.heap.size + 1, 2, none⟩ = some (.int .i64 r2) := hb.cellK; (first | (have nx := Ext.trans hx hb; clear hx) | (have nx := Ext.trans (hx.alloc _) hb; clear hx) | (have nx := Ext.trans hx.drew hb; clear hx) | have nx := hb); clear hb; try clear hs; try clear g0; try clear g1; try clear g2; try clear g3; try clear g4; try clear g5; have hx := nx; clear nx; have hs := ns; clear ns; have g0 := n0; clear n0; have g1 := n1; clear n1; have g2 := n2; clear n2; have g3 := n3; clear n3; have g4 := n4; clear n4; have g5 := n5; clear n5))
  go_ret
  exact ⟨rfl, Ext.auK⟩

set_option maxHeartbeats 1600000 in
theorem frest_1 (q1 r1 p2 q2 r2 A B x Q L R z1 z2 z3 : Int) (h2 : ¬ q2 = 0) (TG : Hid (∀ w, Calls Tryz.prog 134 #[.agg #[.int .i64 1, .int .i64 q1, .int .i64 r1], .agg #[.int .i64 p2, .int .i64 q2, .int .i64 r2]] w fun rv w' => rv = .returned (.tuple #[.int .i64 A, .int .i64 B, .int .i64 x]) ∧ Ext w w'))
    (WQ : Hid (∀ w, Calls Tryz.prog 135 #[.int .i64 A, .int .i64 B, .int .i64 0, .bool false] w fun rv w' => rv = .returned (.int .i64 Q) ∧ Ext w w')) (kB : IntKind.i64.wrap (B * Q) = B * Q) (kL : IntKind.i64.wrap (A - B * Q) = L) (kR : IntKind.i64.wrap (-L) = R)
    (FO : Hid (∀ w, Calls Tryz.prog 148 #[.int .i64 R, .int .i64 x, .int .i64 1] w fun rv w' => rv = .returned (.agg #[.int .i64 z1, .int .i64 z2, .int .i64 z3]) ∧ Ext w w')) (w : World) : Calls Tryz.prog 132 #[.agg #[.int .i64 1, .int .i64 q1, .int .i64 r1], .agg #[.int .i64 p2, .int .i64 q2, .int .i64 r2]] w fun rv w' => rv = .returned (.iface 82 (.agg #[.int .i64 z1, .int .i64 z2, .int .i64 z3])) ∧ Ext w w' := by
  have zb := Lib.hid (fun w => finZero_f p2 q2 r2 h2 w)
  clear h2
  skip
  go_enter Tryz.func132, Tryz.ntmps132
  go_wp2_with (first | (go_at_call 152; refine (zb.out _).mono ?_; rintro rv w1 ⟨rfl, hb⟩; have ns : w.heap.size + 1 < w1.heap.size := hb.ltK; have n0 : w1.cell? ⟨w.heap.size, 0, none⟩ = some (.int .i64 1) := hb.cellK; have n1 : w1.cell? ⟨w.heap.size, 1, none⟩ = some (.int .i64 q1) := hb.cellK; have n2 : w1.cell? ⟨w.heap.size, 2, none⟩ = some (.int .i64 r1) := hb.cellK; have n3 : w1.cell? ⟨w.heap.size + 1, 0, none⟩ = some (.int .i64 p2) := hb.cellK; have n4 : w1.cell? ⟨w.heap.size + 1, 1, none⟩ = some (.int .i64 q2) := hb.cellK; have n5 : w1.cell? ⟨w.heap.size + 1, 2, none⟩ = some (.int .i64 r2) := hb.cellK; (first | (have nx := Ext.trans hx hb; clear hx) | (have nx := Ext.trans (hx.alloc _) hb; clear hx) | (have nx := Ext.trans hx.drew hb; clear hx) | have nx := hb); clear hb; try clear hs; try clear g0; try clear g1; try clear g2; try clear g3; try clear g4; try clear g5; have hx := nx; clear nx; have hs := ns; clear ns; have g0 := n0; clear n0; have g1 := n1; clear n1; have g2 := n2; clear n2; have g3 := n3; clear n3; have g4 := n4; clear n4; have g5 := n5; clear n5))
  try (go_region_held3 (fun w' => w'.cell? ⟨w.heap.size, 0, none⟩ = some (.int .i64 1) ∧ w'.cell? ⟨w.heap.size, 1, none⟩ = some (.int .i64 q1) ∧ w'.cell? ⟨w.heap.size, 2, none⟩ = some (.int .i64 r1) ∧ w'.cell? ⟨w.heap.size + 1, 0, none⟩ = some (.int .i64 p2) ∧ w'.cell? ⟨w.heap.size + 1, 1, none⟩ = some (.int .i64 q2) ∧ w'.cell? ⟨w.heap.size + 1, 2, none⟩ = some (.int .i64 r2) ∧ w.heap.size + 1 < w'.heap.size) ((refine ⟨?_, ?_, ?_, ?_, ?_, ?_, ?_⟩ <;> first | with_reducible assumption | ((repeat first | rw [cell_set_far _ _ _ _ _ _ (by omega)] | rw [cell_alloc_before _ _ _ _ (by omega)] | rw [cell_alloc_drew _ _ _ _ (by omega)] | rw [cell_drew]); with_reducible assumption) | ((rw [cell_setRow_far _ _ _ _ _ (by omega)]); with_reducible assumption) | ((rw [setRow_size]); with_reducible assumption) | (simp; done) | (simp [World.setCell]; first | done | omega) | (simp [go_sem, World.cell?_alloc_past, World.cell?_setCell_far, *]; done))) ((first | (go_at_call 134; refine (TG.out _).mono ?_; rintro rv w1 ⟨rfl, hb⟩; have ns : w.heap.size + 1 < w1.heap.size := hb.ltK; have n0 : w1.cell? ⟨w.heap.size, 0, none⟩ = some (.int .i64 1) := hb.cellK; have n1 : w1.cell? ⟨w.heap.size, 1, none⟩ = some (.int .i64 q1) := hb.cellK; have n2 : w1.cell? ⟨w.heap.size, 2, none⟩ = some (.int .i64 r1) := hb.cellK; have n3 : w1.cell? ⟨w.heap.size + 1, 0, none⟩ = some (.int .i64 p2) := hb.cellK; have n4 : w1.cell? ⟨w.heap.size + 1, 1, none⟩ = some (.int .i64 q2) := hb.cellK; have n5 : w1.cell? ⟨w.heap.size + 1, 2, none⟩ = some (.int .i64 r2) := hb.cellK; (first | (have nx := Ext.trans hx hb; clear hx) | (have nx := Ext.trans (hx.alloc _) hb; clear hx) | (have nx := Ext.trans hx.drew hb; clear hx) | have nx := hb); clear hb; try clear hs; try clear g0; try clear g1; try clear g2; try clear g3; try clear g4; try clear g5; have hx := nx; clear nx; have hs := ns; clear ns; have g0 := n0; clear n0; have g1 := n1; clear n1; have g2 := n2; clear n2; have g3 := n3; clear n3; have g4 := n4; clear n4; have g5 := n5; clear n5))))
  try go_wp2_with (first | (go_at_call 134; refine (TG.out _).mono ?_; rintro rv w1 ⟨rfl, hb⟩; have ns : w.heap.size + 1 < w1.heap.size := hb.ltK; have n0 : w1.cell? ⟨w.heap.size, 0, none⟩ = some (.int .i64 1) := hb.cellK; have n1 : w1.cell? ⟨w.heap.size, 1, none⟩ = some (.int .i64 q1) := hb.cellK; have n2 : w1.cell? ⟨w.heap.size, 2, none⟩ = some (.int .i64 r1) := hb.cellK; have n3 : w1.cell? ⟨w.heap.size + 1, 0, none⟩ = some (.int .i64 p2) := hb.cellK; have n4 : w1.cell? ⟨w.heap.size + 1, 1, none⟩ = some (.int .i64 q2) := hb.cellK; have n5 : w1.cell? ⟨w.heap.size + 1, 2, none⟩ = some (.int .i64 r2) := hb.cellK; (first | (have nx := Ext.trans hx hb; clear hx) | (have nx := Ext.trans (hx.alloc _) hb; clear hx) | (have nx := Ext.trans hx.drew hb; clear hx) | have nx := hb); clear hb; try clear hs; try clear g0; try clear g1; try clear g2; try clear g3; try clear g4; try clear g5; have hx := nx; clear nx; have hs := ns; clear ns; have g0 := n0; clear n0; have g1 := n1; clear n1; have g2 := n2; clear n2; have g3 := n3; clear n3; have g4 := n4; clear n4; have g5 := n5; clear n5))
  try (go_region_held3 (fun w' => w'.cell? ⟨w.heap.size, 0, none⟩ = some (.int .i64 1) ∧ w'.cell? ⟨w.heap.size, 1, none⟩ = some (.int .i64 q1) ∧ w'.cell? ⟨w.heap.size, 2, none⟩ = some (.int .i64 r1) ∧ w'.cell? ⟨w.heap.size + 1, 0, none⟩ = some (.int .i64 p2) ∧ w'.cell? ⟨w.heap.size + 1, 1, none⟩ = some (.int .i64 q2) ∧ w'.cell? ⟨w.heap.size + 1, 2, none⟩ = some (.int .i64 r2) ∧ w.heap.size + 1 < w'.heap.size) ((refine ⟨?_, ?_, ?_, ?_, ?_, ?_, ?_⟩ <;> first | with_reducible assumption | ((repeat first | rw [cell_set_far _ _ _ _ _ _ (by omega)] | rw [cell_alloc_before _ _ _ _ (by omega)] | rw [cell_alloc_drew _ _ _ _ (by omega)] | rw [cell_drew]); with_reducible assumption) | ((rw [cell_setRow_far _ _ _ _ _ (by omega)]); with_reducible assumption) | ((rw [setRow_size]); with_reducible assumption) | (simp; done) | (simp [World.setCell]; first | done | omega) | (simp [go_sem, World.cell?_alloc_past, World.cell?_setCell_far, *]; done))) ((first | (go_at_call 135; refine (WQ.out _).mono ?_; rintro rv w1 ⟨rfl, hb⟩; have ns : w.heap.size + 1 < w1.heap.size := hb.ltK; have n0 : w1.cell? ⟨w.heap.size, 0, none⟩ = some (.int .i64 1) := hb.cellK; have n1 : w1.cell? ⟨w.heap.size, 1, none⟩ = some (.int .i64 q1) := hb.cellK; have n2 : w1.cell? ⟨w.heap.size, 2, none⟩ = some (.int .i64 r1) := hb.cellK; have n3 : w1.cell? ⟨w.heap.size + 1, 0, none⟩ = some (.int .i64 p2) := hb.cellK; have n4 : w1.cell? ⟨w.heap.size + 1, 1, none⟩ = some (.int .i64 q2) := hb.cellK; have n5 : w1.cell? ⟨w.heap.size + 1, 2, none⟩ = some (.int .i64 r2) := hb.cellK; (first | (have nx := Ext.trans hx hb; clear hx) | (have nx := Ext.trans (hx.alloc _) hb; clear hx) | (have nx := Ext.trans hx.drew hb; clear hx) | have nx := hb); clear hb; try clear hs; try clear g0; try clear g1; try clear g2; try clear g3; try clear g4; try clear g5; have hx := nx; clear nx; have hs := ns; clear ns; have g0 := n0; clear n0; have g1 := n1; clear n1; have g2 := n2; clear n2; have g3 := n3; clear n3; have g4 := n4; clear n4; have g5 := n5; clear n5))))
  try go_wp2_with (first | (go_at_call 135; refine (WQ.out _).mono ?_; rintro rv w1 ⟨rfl, hb⟩; have ns : w.heap.size + 1 < w1.heap.size := hb.ltK; have n0 : w1.cell? ⟨w.heap.size, 0, none⟩ = some (.int .i64 1) := hb.cellK; have n1 : w1.cell? ⟨w.heap.size, 1, none⟩ = some (.int .i64 q1) := hb.cellK; have n2 : w1.cell? ⟨w.heap.size, 2, none⟩ = some (.int .i64 r1) := hb.cellK; have n3 : w1.cell? ⟨w.heap.size + 1, 0, none⟩ = some (.int .i64 p2) := hb.cellK; have n4 : w1.cell? ⟨w.heap.size + 1, 1, none⟩ = some (.int .i64 q2) := hb.cellK; have n5 : w1.cell? ⟨w.heap.size + 1, 2, none⟩ = some (.int .i64 r2) := hb.cellK; (first | (have nx := Ext.trans hx hb; clear hx) | (have nx := Ext.trans (hx.alloc _) hb; clear hx) | (have nx := Ext.trans hx.drew hb; clear hx) | have nx := hb); clear hb; try clear hs; try clear g0; try clear g1; try clear g2; try clear g3; try clear g4; try clear g5; have hx := nx; clear nx; have hs := ns; clear ns; have g0 := n0; clear n0; have g1 := n1; clear n1; have g2 := n2; clear n2; have g3 := n3; clear n3; have g4 := n4; clear n4; have g5 := n5; clear n5))
  try (go_region_held3 (fun w' => w'.cell? ⟨w.heap.size, 0, none⟩ = some (.int .i64 1) ∧ w'.cell? ⟨w.heap.size, 1, none⟩ = some (.int .i64 q1) ∧ w'.cell? ⟨w.heap.size, 2, none⟩ = some (.int .i64 r1) ∧ w'.cell? ⟨w.heap.size + 1, 0, none⟩ = some (.int .i64 p2) ∧ w'.cell? ⟨w.heap.size + 1, 1, none⟩ = some (.int .i64 q2) ∧ w'.cell? ⟨w.heap.size + 1, 2, none⟩ = some (.int .i64 r2) ∧ w.heap.size + 1 < w'.heap.size) ((refine ⟨?_, ?_, ?_, ?_, ?_, ?_, ?_⟩ <;> first | with_reducible assumption | ((repeat first | rw [cell_set_far _ _ _ _ _ _ (by omega)] | rw [cell_alloc_before _ _ _ _ (by omega)] | rw [cell_alloc_drew _ _ _ _ (by omega)] | rw [cell_drew]); with_reducible assumption) | ((rw [cell_setRow_far _ _ _ _ _ (by omega)]); with_reducible assumption) | ((rw [setRow_size]); with_reducible assumption) | (simp; done) | (simp [World.setCell]; first | done | omega) | (simp [go_sem, World.cell?_alloc_past, World.cell?_setCell_far, *]; done))) ((first | (go_at_call 148; refine (FO.out _).mono ?_; rintro rv w1 ⟨rfl, hb⟩; have ns : w.heap.size + 1 < w1.heap.size := hb.ltK; have n0 : w1.cell? ⟨w.heap.size, 0, none⟩ = some (.int .i64 1) := hb.cellK; have n1 : w1.cell? ⟨w.heap.size, 1, none⟩ = some (.int .i64 q1) := hb.cellK; have n2 : w1.cell? ⟨w.heap.size, 2, none⟩ = some (.int .i64 r1) := hb.cellK; have n3 : w1.cell? ⟨w.heap.size + 1, 0, none⟩ = some (.int .i64 p2) := hb.cellK; have n4 : w1.cell? ⟨w.heap.size + 1, 1, none⟩ = some (.int .i64 q2) := hb.cellK; have n5 : w1.cell? ⟨w.heap.size + 1, 2, none⟩ = some (.int .i64 r2) := hb.cellK; (first | (have nx := Ext.trans hx hb; clear hx) | (have nx := Ext.trans (hx.alloc _) hb; clear hx) | (have nx := Ext.trans hx.drew hb; clear hx) | have nx := hb); clear hb; try clear hs; try clear g0; try clear g1; try clear g2; try clear g3; try clear g4; try clear g5; have hx := nx; clear nx; have hs := ns; clear ns; have g0 := n0; clear n0; have g1 := n1; clear n1; have g2 := n2; clear n2; have g3 := n3; clear n3; have g4 := n4; clear n4; have g5 := n5; clear n5))))
  try go_wp2_with (first | (go_at_call 148; refine (FO.out _).mono ?_; rintro rv w1 ⟨rfl, hb⟩; have ns : w.heap.size + 1 < w1.heap.size := hb.ltK; have n0 : w1.cell? ⟨w.heap.size, 0, none⟩ = some (.int .i64 1) := hb.cellK; have n1 : w1.cell? ⟨w.heap.size, 1, none⟩ = some (.int .i64 q1) := hb.cellK; have n2 : w1.cell? ⟨w.heap.size, 2, none⟩ = some (.int .i64 r1) := hb.cellK; have n3 : w1.cell? ⟨w.heap.size + 1, 0, none⟩ = some (.int .i64 p2) := hb.cellK; have n4 : w1.cell? ⟨w.heap.size + 1, 1, none⟩ = some (.int .i64 q2) := hb.cellK; have n5 : w1.cell? ⟨w.heap.size + 1, 2, none⟩ = some (.int .i64 r2) := hb.cellK; (first | (have nx := Ext.trans hx hb; clear hx) | (have nx := Ext.trans (hx.alloc _) hb; clear hx) | (have nx := Ext.trans hx.drew hb; clear hx) | have nx := hb); clear hb; try clear hs; try clear g0; try clear g1; try clear g2; try clear g3; try clear g4; try clear g5; have hx := nx; clear nx; have hs := ns; clear ns; have g0 := n0; clear n0; have g1 := n1; clear n1; have g2 := n2; clear n2; have g3 := n3; clear n3; have g4 := n4; clear n4; have g5 := n5; clear n5))
  go_ret
  exact ⟨rfl, Ext.auK⟩

set_option maxHeartbeats 1600000 in
theorem ofTwoRest_fin (e f a b mode m n x : Int) (hap : patB e f a = true) (hbp : patB e f b = true) (mo0 : 0 ≤ mode) (mo1 : mode ≤ 5) (hm : m = 0 ∨ m = 1) (v0 : 0 ≤ n) (v1 : n < 4611686018427387904) (k0 : -149 ≤ x - unV e f) (k1 : x - unV e f ≤ 149) 
    (op : ∀ w, Calls Tryz.prog 88 #[(Value.iface (opT e f a) (opX e f a)), (Value.iface (opT e f b) (opX e f b))] w fun rv w' => rv = .returned (.iface 82 (.agg #[.int .i64 m, .int .i64 n, .int .i64 x])) ∧ Ext w w') (w : World) (hT : TW w) :
    Calls Tryz.prog 64 #[fmt e f, .int .i64 a, .int .i64 b, .int .i64 mode, .func (.func 88) #[] #[]] w (OTout e f m n (x - unV e f) mode w) := by
  have hg := (pat_iff.1 hap).1
  have hmo : moB mode = true := mo_iff.2 ⟨mo0, mo1⟩
  have OP := Lib.hid op; clear op
  go_enter Tryz.func64, Tryz.ntmps64
  go_wp2_with (go_at_call 73; (with_reducible refine (operandsOf2 e f mode a b (w.heap.size + 1) hmo hap hbp _ (hT.ext Ext.auK) (by first | with_reducible assumption | (simp; done) | (simp [go_sem]; done)) (by first | with_reducible assumption | (simp; done) | (simp [go_sem]; done)) (by simp; try omega)).mono ?_); rintro rv w1 ⟨v, rfl, how, hb⟩; obtain ⟨gl, cap, rfl, hg1, hg2⟩ := how.form (by omega); have c0 := how.cellAt 0 (by omega); have c1 := how.cellAt 1 (by omega); simp only [List.getElem?_cons_zero, List.getElem?_cons_succ] at c0 c1; have c0 := c0; have c1 := c1; clear how; have ns : w.heap.size < w1.heap.size := hb.lt (by first | (simp; done) | (simp; omega)); have g0 : w1.cell? ⟨w.heap.size, 0, none⟩ = some (.int .i64 e) := (hb.cells _ _ (by first | (simp; done) | (simp; omega))).trans (by first | (simp; done) | (simp [go_sem, *]; done)); have g1 : w1.cell? ⟨w.heap.size, 1, none⟩ = some (.int .i64 f) := (hb.cells _ _ (by first | (simp; done) | (simp; omega))).trans (by first | (simp; done) | (simp [go_sem, *]; done)); have hx : Ext w w1 := Ext.trans Ext.auK hb; clear hb)
  have hs : max w.heap.size gl < w1.heap.size := by omega
  go_region_held3 (fun w' => w'.cell? ⟨w.heap.size, 0, none⟩ = some (.int .i64 e) ∧ w'.cell? ⟨w.heap.size, 1, none⟩ = some (.int .i64 f) ∧ w'.cell? ⟨gl, 0, none⟩ = some ((Value.iface (opT e f a) (opX e f a))) ∧ w'.cell? ⟨gl, 1, none⟩ = some ((Value.iface (opT e f b) (opX e f b))) ∧ max w.heap.size gl < w'.heap.size) ((refine ⟨?_, ?_, ?_, ?_, ?_⟩ <;> first | with_reducible assumption | ((repeat first | rw [cell_set_far _ _ _ _ _ _ (by omega)] | rw [cell_alloc_before _ _ _ _ (by omega)] | rw [cell_alloc_drew _ _ _ _ (by omega)] | rw [cell_drew]); with_reducible assumption) | ((rw [cell_setRow_far _ _ _ _ _ (by omega)]); with_reducible assumption) | ((rw [setRow_size]); with_reducible assumption) | (simp; done) | (simp [World.setCell]; first | done | omega) | (simp [go_sem, World.cell?_alloc_past, World.cell?_setCell_far, *]; done))) ((first | (go_at_call 88; refine (OP.out _).mono ?_; rintro rv w1 ⟨rfl, hb⟩; have ns : max w.heap.size gl < w1.heap.size := hb.ltK; have n0 : w1.cell? ⟨w.heap.size, 0, none⟩ = some (.int .i64 e) := hb.cellK; have n1 : w1.cell? ⟨w.heap.size, 1, none⟩ = some (.int .i64 f) := hb.cellK; have n2 : w1.cell? ⟨gl, 0, none⟩ = some ((Value.iface (opT e f a) (opX e f a))) := hb.cellK; have n3 : w1.cell? ⟨gl, 1, none⟩ = some ((Value.iface (opT e f b) (opX e f b))) := hb.cellK; (first | (have nx := Ext.trans hx hb; clear hx) | (have nx := Ext.trans (hx.alloc _) hb; clear hx) | (have nx := Ext.trans hx.drew hb; clear hx) | have nx := hb); clear hb; try clear hs; try clear g0; try clear g1; try clear g2; try clear g3; have hx := nx; clear nx; have hs := ns; clear ns; have g0 := n0; clear n0; have g1 := n1; clear n1; have g2 := n2; clear n2; have g3 := n3; clear n3) | (go_at_call 133; refine (finRounded_any e f m n x mode hg hm v0 v1 k0 k1 mo0 mo1 _).mono ?_; rintro rv w1 ⟨s, rfl, hq, hb⟩; have HQ := Lib.hid hq; clear hq; have ns : max w.heap.size gl < w1.heap.size := hb.ltK; have n0 : w1.cell? ⟨w.heap.size, 0, none⟩ = some (.int .i64 e) := hb.cellK; have n1 : w1.cell? ⟨w.heap.size, 1, none⟩ = some (.int .i64 f) := hb.cellK; have n2 : w1.cell? ⟨gl, 0, none⟩ = some ((Value.iface (opT e f a) (opX e f a))) := hb.cellK; have n3 : w1.cell? ⟨gl, 1, none⟩ = some ((Value.iface (opT e f b) (opX e f b))) := hb.cellK; (first | (have nx := Ext.trans hx hb; clear hx) | (have nx := Ext.trans (hx.alloc _) hb; clear hx) | (have nx := Ext.trans hx.drew hb; clear hx) | have nx := hb); clear hb; try clear hs; try clear g0; try clear g1; try clear g2; try clear g3; have hx := nx; clear nx; have hs := ns; clear ns; have g0 := n0; clear n0; have g1 := n1; clear n1; have g2 := n2; clear n2; have g3 := n3; clear n3)))
  go_wp2_with fail
  go_ret2
  exact ⟨s, rfl, HQ.out, Ext.auK⟩

set_option maxHeartbeats 1600000 in
theorem ofTwoRest_no (e f a b mode  : Int) (hap : patB e f a = true) (hbp : patB e f b = true) (mo0 : 0 ≤ mode) (mo1 : mode ≤ 5) 
    (op : ∀ w, Calls Tryz.prog 88 #[(Value.iface (opT e f a) (opX e f a)), (Value.iface (opT e f b) (opX e f b))] w fun rv w' => rv = .returned (.iface 107 (.agg #[])) ∧ Ext w w') (w : World) (hT : TW w) :
    Calls Tryz.prog 64 #[fmt e f, .int .i64 a, .int .i64 b, .int .i64 mode, .func (.func 88) #[] #[]] w (fun rv w' => rv = .returned (.tuple #[.int .i64 (quV e f), .bool true]) ∧ Ext w w') := by
  have hg := (pat_iff.1 hap).1
  have hmo : moB mode = true := mo_iff.2 ⟨mo0, mo1⟩
  have OP := Lib.hid op; clear op
  go_enter Tryz.func64, Tryz.ntmps64
  go_wp2_with (go_at_call 73; (with_reducible refine (operandsOf2 e f mode a b (w.heap.size + 1) hmo hap hbp _ (hT.ext Ext.auK) (by first | with_reducible assumption | (simp; done) | (simp [go_sem]; done)) (by first | with_reducible assumption | (simp; done) | (simp [go_sem]; done)) (by simp; try omega)).mono ?_); rintro rv w1 ⟨v, rfl, how, hb⟩; obtain ⟨gl, cap, rfl, hg1, hg2⟩ := how.form (by omega); have c0 := how.cellAt 0 (by omega); have c1 := how.cellAt 1 (by omega); simp only [List.getElem?_cons_zero, List.getElem?_cons_succ] at c0 c1; have c0 := c0; have c1 := c1; clear how; have ns : w.heap.size < w1.heap.size := hb.lt (by first | (simp; done) | (simp; omega)); have g0 : w1.cell? ⟨w.heap.size, 0, none⟩ = some (.int .i64 e) := (hb.cells _ _ (by first | (simp; done) | (simp; omega))).trans (by first | (simp; done) | (simp [go_sem, *]; done)); have g1 : w1.cell? ⟨w.heap.size, 1, none⟩ = some (.int .i64 f) := (hb.cells _ _ (by first | (simp; done) | (simp; omega))).trans (by first | (simp; done) | (simp [go_sem, *]; done)); have hx : Ext w w1 := Ext.trans Ext.auK hb; clear hb)
  have hs : max w.heap.size gl < w1.heap.size := by omega
  go_region_held3 (fun w' => w'.cell? ⟨w.heap.size, 0, none⟩ = some (.int .i64 e) ∧ w'.cell? ⟨w.heap.size, 1, none⟩ = some (.int .i64 f) ∧ w'.cell? ⟨gl, 0, none⟩ = some ((Value.iface (opT e f a) (opX e f a))) ∧ w'.cell? ⟨gl, 1, none⟩ = some ((Value.iface (opT e f b) (opX e f b))) ∧ max w.heap.size gl < w'.heap.size) ((refine ⟨?_, ?_, ?_, ?_, ?_⟩ <;> first | with_reducible assumption | ((repeat first | rw [cell_set_far _ _ _ _ _ _ (by omega)] | rw [cell_alloc_before _ _ _ _ (by omega)] | rw [cell_alloc_drew _ _ _ _ (by omega)] | rw [cell_drew]); with_reducible assumption) | ((rw [cell_setRow_far _ _ _ _ _ (by omega)]); with_reducible assumption) | ((rw [setRow_size]); with_reducible assumption) | (simp; done) | (simp [World.setCell]; first | done | omega) | (simp [go_sem, World.cell?_alloc_past, World.cell?_setCell_far, *]; done))) ((first | (go_at_call 88; refine (OP.out _).mono ?_; rintro rv w1 ⟨rfl, hb⟩; have ns : max w.heap.size gl < w1.heap.size := hb.ltK; have n0 : w1.cell? ⟨w.heap.size, 0, none⟩ = some (.int .i64 e) := hb.cellK; have n1 : w1.cell? ⟨w.heap.size, 1, none⟩ = some (.int .i64 f) := hb.cellK; have n2 : w1.cell? ⟨gl, 0, none⟩ = some ((Value.iface (opT e f a) (opX e f a))) := hb.cellK; have n3 : w1.cell? ⟨gl, 1, none⟩ = some ((Value.iface (opT e f b) (opX e f b))) := hb.cellK; (first | (have nx := Ext.trans hx hb; clear hx) | (have nx := Ext.trans (hx.alloc _) hb; clear hx) | (have nx := Ext.trans hx.drew hb; clear hx) | have nx := hb); clear hb; try clear hs; try clear g0; try clear g1; try clear g2; try clear g3; have hx := nx; clear nx; have hs := ns; clear ns; have g0 := n0; clear n0; have g1 := n1; clear n1; have g2 := n2; clear n2; have g3 := n3; clear n3) | (go_at_call 226; refine (noRounded_any e f mode hg _).mono ?_; rintro rv w1 ⟨rfl, hb⟩; have ns : max w.heap.size gl < w1.heap.size := hb.ltK; have n0 : w1.cell? ⟨w.heap.size, 0, none⟩ = some (.int .i64 e) := hb.cellK; have n1 : w1.cell? ⟨w.heap.size, 1, none⟩ = some (.int .i64 f) := hb.cellK; have n2 : w1.cell? ⟨gl, 0, none⟩ = some ((Value.iface (opT e f a) (opX e f a))) := hb.cellK; have n3 : w1.cell? ⟨gl, 1, none⟩ = some ((Value.iface (opT e f b) (opX e f b))) := hb.cellK; (first | (have nx := Ext.trans hx hb; clear hx) | (have nx := Ext.trans (hx.alloc _) hb; clear hx) | (have nx := Ext.trans hx.drew hb; clear hx) | have nx := hb); clear hb; try clear hs; try clear g0; try clear g1; try clear g2; try clear g3; have hx := nx; clear nx; have hs := ns; clear ns; have g0 := n0; clear n0; have g1 := n1; clear n1; have g2 := n2; clear n2; have g3 := n3; clear n3)))
  go_wp2_with fail
  go_ret2
  exact ⟨rfl, Ext.auK⟩
end Go.Proofs.YtfgbndjhaiigbaaGreatDoor

