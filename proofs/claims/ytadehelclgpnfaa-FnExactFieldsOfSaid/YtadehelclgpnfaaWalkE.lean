/-
  Contracts of the exported functions on patterns, fields, signs and sizes, each under the conditions that its line names.
-/
import Derived.Test.YtadehelclgpnfaaRows
import Derived.Test.YtadehelclgpnfaaPlain
import Derived.Test.YtadehelclgpnfaaWalkA
import Derived.Test.YtadehelclgpnfaaWalkF
import Derived.Test.YtadehelclgpnfaaWalkC
import Derived.Test.YtadehelclgpnfaaWalkD
import Derived.WalkKit
import Derived.WalkSpells
import Derived.WalkLawsBesides
import Derived.StillTactics
import Derived.Laws.Pointers
import Derived.Deep.RegionHeld3
import Derived.Deep.QuietTactic
import Derived.BigQuiet
import Derived.Outline
import Derived.Lib.Hide
import Derived.RowKit3
import Derived.Carry
import Derived.IntWalk
namespace Go.Proofs.Ytadehelclgpnfaa
open Go Go.RowKit
set_option linter.unusedSimpArgs false
set_option linter.unusedVariables false

theorem field_bd (e f p : Int) (hg : patB e f p = true) : (0 ≤ p / pw (e + f) ∧ p / pw (e + f) ≤ 1) ∧ (0 ≤ p % pw (e + f) ∧ p % pw (e + f) < pw (e + f)) ∧ (0 ≤ p % pw (e + f) / pw f ∧ p % pw (e + f) / pw f < pw e) ∧ (0 ≤ p % pw f ∧ p % pw f < pw f) ∧ p = p / pw (e + f) * pw (e + f) + p % pw (e + f) := by
  obtain ⟨hg0, hp0, hp1⟩ := pat_iff.1 hg
  obtain ⟨h1, h2, h3, h4⟩ := good_iff.1 hg0
  obtain ⟨⟨a1, a2⟩, ⟨b1, b2⟩, ⟨c1, c2⟩, hmul⟩ := pw_facts h1 h2 h3 h4
  have Hmul := Lib.hid hmul; clear hmul
  have q1 := Int.emod_nonneg p (show pw (e + f) ≠ 0 by omega)
  have q2 := Int.emod_lt_of_pos p (show 0 < pw (e + f) by omega)
  refine ⟨⟨Int.ediv_nonneg hp0 (by omega), ?_⟩, ⟨q1, q2⟩, ⟨Int.ediv_nonneg q1 (by omega), ?_⟩, ⟨Int.emod_nonneg _ (by omega), Int.emod_lt_of_pos _ (by omega)⟩, ?_⟩
  · have := Int.ediv_lt_of_lt_mul (show 0 < pw (e + f) by omega) (show p < 2 * pw (e + f) from hp1); omega
  · exact Int.ediv_lt_of_lt_mul (by omega) (by rw [← Hmul.out]; exact q2)
  · have := Int.mul_ediv_add_emod p (pw (e + f)); rw [Int.mul_comm]; omega

theorem sFieldsOf_no (e f p : Int) (hg : patB e f p = false) (w : World) : Calls Try.prog 20 #[fmt e f, .int .i64 p] w fun rv w' => rv = .returned (.tuple #[.int .i64 0, .int .i64 0, .int .i64 0, .bool false]) ∧ Ext w w' := by
  go_enter Try.func20, Try.ntmps20
  go_wp2_with (go_at_call 40; refine (fmIs_any e f _ _).mono ?_; rintro rv w1 ⟨rfl, hb⟩; have hc := hb.cells; have hz := hb.frz; have hs : w.heap.size < w1.heap.size := hb.lt (by first | assumption | omega | (simp; done) | (simp; omega)); have g0 : w1.cell? ⟨w.heap.size, 0, none⟩ = some (.int .i64 e) := (hc _ _ (by first | assumption | omega | (simp; done) | (simp; omega))).trans (by first | assumption | (simp; done)); have g1 : w1.cell? ⟨w.heap.size, 1, none⟩ = some (.int .i64 f) := (hc _ _ (by first | assumption | omega | (simp; done) | (simp; omega))).trans (by first | assumption | (simp; done)); clear hc hz)
  refine bodyPost_ret (v := .tuple #[.int .i64 0, .int .i64 0, .int .i64 0, .bool false]) (by simp [results, Try.results20, go_sem, *]) rfl ?_
  exact ⟨rfl, (by repeat (first | exact Ext.refl _ | assumption | apply Ext.alloc | apply Ext.drew | apply Ext.drewN | (refine Ext.setCell ?_ (by simp) _) | (refine Ext.trans ?_ (by assumption))))⟩

theorem sFieldsOf_yes (e f p : Int) (hg : patB e f p = true) (w : World) : Calls Try.prog 20 #[fmt e f, .int .i64 p] w fun rv w' => rv = .returned (.tuple #[.int .i64 (p / pw (e + f)), .int .i64 (p % pw (e + f) / pw f), .int .i64 (p % pw f), .bool true]) ∧ Ext w w' := by
  obtain ⟨hg0, hp0, hp1⟩ := pat_iff.1 hg
  obtain ⟨h1, h2, h3, h4⟩ := good_iff.1 hg0
  obtain ⟨⟨a1, a2⟩, ⟨b1, b2⟩, ⟨c1, c2⟩, hmul⟩ := pw_facts h1 h2 h3 h4
  have Hmul := Lib.hid hmul; clear hmul
  go_enter Try.func20, Try.ntmps20
  go_wp2_with (go_at_call 40; refine (fmIs_any e f _ _).mono ?_; rintro rv w1 ⟨rfl, hb⟩; have hc := hb.cells; have hz := hb.frz; have hs : w.heap.size < w1.heap.size := hb.lt (by first | assumption | omega | (simp; done) | (simp; omega)); have g0 : w1.cell? ⟨w.heap.size, 0, none⟩ = some (.int .i64 e) := (hc _ _ (by first | assumption | omega | (simp; done) | (simp; omega))).trans (by first | assumption | (simp; done)); have g1 : w1.cell? ⟨w.heap.size, 1, none⟩ = some (.int .i64 f) := (hc _ _ (by first | assumption | omega | (simp; done) | (simp; omega))).trans (by first | assumption | (simp; done)); clear hc hz)
  go_region_held3 (fun w' => w'.cell? ⟨w.heap.size, 0, none⟩ = some (.int .i64 e) ∧ w'.cell? ⟨w.heap.size, 1, none⟩ = some (.int .i64 f) ∧ w.heap.size < w'.heap.size) ((refine ⟨?_, ?_, ?_⟩ <;> first | assumption | (simp; done) | (simp [go_sem, World.cell?_alloc_past, World.cell?_setCell_far, *]; done) | (simp; omega))) ((first | (go_at_call 41; refine (fmSign_any e f _ hg0 (by omega) _).mono ?_; rintro rv w1 ⟨rfl, hb⟩; have hc := hb.cells; have hz := hb.frz; have hs : w.heap.size < w1.heap.size := hb.lt (by first | assumption | omega | (simp; done) | (simp; omega)); have g0 : w1.cell? ⟨w.heap.size, 0, none⟩ = some (.int .i64 e) := (hc _ _ (by first | assumption | omega | (simp; done) | (simp; omega))).trans (by first | assumption | (simp; done)); have g1 : w1.cell? ⟨w.heap.size, 1, none⟩ = some (.int .i64 f) := (hc _ _ (by first | assumption | omega | (simp; done) | (simp; omega))).trans (by first | assumption | (simp; done)); clear hc hz) | (go_at_call 42; refine (fmField_any e f _ hg0 (by omega) _).mono ?_; rintro rv w1 ⟨rfl, hb⟩; have hc := hb.cells; have hz := hb.frz; have hs : w.heap.size < w1.heap.size := hb.lt (by first | assumption | omega | (simp; done) | (simp; omega)); have g0 : w1.cell? ⟨w.heap.size, 0, none⟩ = some (.int .i64 e) := (hc _ _ (by first | assumption | omega | (simp; done) | (simp; omega))).trans (by first | assumption | (simp; done)); have g1 : w1.cell? ⟨w.heap.size, 1, none⟩ = some (.int .i64 f) := (hc _ _ (by first | assumption | omega | (simp; done) | (simp; omega))).trans (by first | assumption | (simp; done)); clear hc hz) | (go_at_call 43; refine (fmRest_any e f _ hg0 (by omega) _).mono ?_; rintro rv w1 ⟨rfl, hb⟩; have hc := hb.cells; have hz := hb.frz; have hs : w.heap.size < w1.heap.size := hb.lt (by first | assumption | omega | (simp; done) | (simp; omega)); have g0 : w1.cell? ⟨w.heap.size, 0, none⟩ = some (.int .i64 e) := (hc _ _ (by first | assumption | omega | (simp; done) | (simp; omega))).trans (by first | assumption | (simp; done)); have g1 : w1.cell? ⟨w.heap.size, 1, none⟩ = some (.int .i64 f) := (hc _ _ (by first | assumption | omega | (simp; done) | (simp; omega))).trans (by first | assumption | (simp; done)); clear hc hz)))
  go_wp2
  refine bodyPost_ret (v := .tuple #[.int .i64 (p / pw (e + f)), .int .i64 (p % pw (e + f) / pw f), .int .i64 (p % pw f), .bool true]) (by simp [results, Try.results20, go_sem, *]) rfl ?_
  exact ⟨rfl, (by repeat (first | exact Ext.refl _ | assumption | apply Ext.alloc | apply Ext.drew | apply Ext.drewN | (refine Ext.setCell ?_ (by simp) _) | (refine Ext.trans ?_ (by assumption))))⟩

theorem iFieldsOf_no (e f p : Int) (hg : patB e f p = false) (w : World) : Calls Try.prog 21 #[fmt e f, .int .i64 p] w fun rv w' => rv = .returned (.tuple #[.int .i64 0, .int .i64 0, .int .i64 0, .bool false]) ∧ Ext w w' := by
  go_enter Try.func21, Try.ntmps21
  go_wp2_with (go_at_call 44; refine (isPattern_any e f _ _).mono ?_; rintro rv w1 ⟨rfl, hb⟩; have hc := hb.cells; have hz := hb.frz; have hs : w.heap.size < w1.heap.size := hb.lt (by first | assumption | omega | (simp; done) | (simp; omega)); have g0 : w1.cell? ⟨w.heap.size, 0, none⟩ = some (.int .i64 e) := (hc _ _ (by first | assumption | omega | (simp; done) | (simp; omega))).trans (by first | assumption | (simp; done)); have g1 : w1.cell? ⟨w.heap.size, 1, none⟩ = some (.int .i64 f) := (hc _ _ (by first | assumption | omega | (simp; done) | (simp; omega))).trans (by first | assumption | (simp; done)); clear hc hz)
  refine bodyPost_ret (v := .tuple #[.int .i64 0, .int .i64 0, .int .i64 0, .bool false]) (by simp [results, Try.results21, go_sem, *]) rfl ?_
  exact ⟨rfl, (by repeat (first | exact Ext.refl _ | assumption | apply Ext.alloc | apply Ext.drew | apply Ext.drewN | (refine Ext.setCell ?_ (by simp) _) | (refine Ext.trans ?_ (by assumption))))⟩

theorem iFieldsOf_yes (e f p : Int) (hg : patB e f p = true) (w : World) : Calls Try.prog 21 #[fmt e f, .int .i64 p] w fun rv w' => rv = .returned (.tuple #[.int .i64 (p / pw (e + f)), .int .i64 (p % pw (e + f) / pw f), .int .i64 (p % pw f), .bool true]) ∧ Ext w w' := by
  obtain ⟨hg0, hp0, hp1⟩ := pat_iff.1 hg
  obtain ⟨h1, h2, h3, h4⟩ := good_iff.1 hg0
  obtain ⟨⟨a1, a2⟩, ⟨b1, b2⟩, ⟨c1, c2⟩, hmul⟩ := pw_facts h1 h2 h3 h4
  have Hmul := Lib.hid hmul; clear hmul
  go_enter Try.func21, Try.ntmps21
  go_wp2_with (first | (go_at_call 44; refine (isPattern_any e f _ _).mono ?_; rintro rv w1 ⟨rfl, hb⟩; have hc := hb.cells; have hz := hb.frz; have hs : w.heap.size < w1.heap.size := hb.lt (by first | assumption | omega | (simp; done) | (simp; omega)); have g0 : w1.cell? ⟨w.heap.size, 0, none⟩ = some (.int .i64 e) := (hc _ _ (by first | assumption | omega | (simp; done) | (simp; omega))).trans (by first | assumption | (simp; done)); have g1 : w1.cell? ⟨w.heap.size, 1, none⟩ = some (.int .i64 f) := (hc _ _ (by first | assumption | omega | (simp; done) | (simp; omega))).trans (by first | assumption | (simp; done)); clear hc hz) | (go_at_call 45; refine (fieldsOf_any e f _ hg0 (by omega) (by omega) _).mono ?_; rintro rv w1 ⟨rfl, hb⟩; have hc := hb.cells; have hz := hb.frz; have hs : w.heap.size < w1.heap.size := hb.lt (by first | assumption | omega | (simp; done) | (simp; omega)); have g0 : w1.cell? ⟨w.heap.size, 0, none⟩ = some (.int .i64 e) := (hc _ _ (by first | assumption | omega | (simp; done) | (simp; omega))).trans (by first | assumption | (simp; done)); have g1 : w1.cell? ⟨w.heap.size, 1, none⟩ = some (.int .i64 f) := (hc _ _ (by first | assumption | omega | (simp; done) | (simp; omega))).trans (by first | assumption | (simp; done)); clear hc hz))
  go_quiet (fail)
  go_wp2
  refine bodyPost_ret (v := .tuple #[.int .i64 (p / pw (e + f)), .int .i64 (p % pw (e + f) / pw f), .int .i64 (p % pw f), .bool true]) (by simp [results, Try.results21, go_sem, *]) rfl ?_
  exact ⟨rfl, (by repeat (first | exact Ext.refl _ | assumption | apply Ext.alloc | apply Ext.drew | apply Ext.drewN | (refine Ext.setCell ?_ (by simp) _) | (refine Ext.trans ?_ (by assumption))))⟩

theorem sAbsOf_no (e f p : Int) (hg : patB e f p = false) (w : World) : Calls Try.prog 26 #[fmt e f, .int .i64 p] w fun rv w' => rv = .returned (.tuple #[.int .i64 0, .bool false]) ∧ Ext w w' := by
  go_enter Try.func26, Try.ntmps26
  go_wp2_with (go_at_call 40; refine (fmIs_any e f _ _).mono ?_; rintro rv w1 ⟨rfl, hb⟩; have hc := hb.cells; have hz := hb.frz; have hs : w.heap.size < w1.heap.size := hb.lt (by first | assumption | omega | (simp; done) | (simp; omega)); have g0 : w1.cell? ⟨w.heap.size, 0, none⟩ = some (.int .i64 e) := (hc _ _ (by first | assumption | omega | (simp; done) | (simp; omega))).trans (by first | assumption | (simp; done)); have g1 : w1.cell? ⟨w.heap.size, 1, none⟩ = some (.int .i64 f) := (hc _ _ (by first | assumption | omega | (simp; done) | (simp; omega))).trans (by first | assumption | (simp; done)); clear hc hz)
  go_ret2
  exact ⟨rfl, (by repeat (first | exact Ext.refl _ | assumption | apply Ext.alloc | apply Ext.drew | apply Ext.drewN | (refine Ext.setCell ?_ (by simp) _) | (refine Ext.trans ?_ (by assumption))))⟩

theorem sAbsOf_yes (e f p : Int) (hg : patB e f p = true) (w : World) : Calls Try.prog 26 #[fmt e f, .int .i64 p] w fun rv w' => rv = .returned (.tuple #[.int .i64 (p % pw (e + f)), .bool true]) ∧ Ext w w' := by
  obtain ⟨hg0, hp0, hp1⟩ := pat_iff.1 hg
  obtain ⟨h1, h2, h3, h4⟩ := good_iff.1 hg0
  obtain ⟨⟨a1, a2⟩, ⟨b1, b2⟩, ⟨c1, c2⟩, hmul⟩ := pw_facts h1 h2 h3 h4
  have Hmul := Lib.hid hmul; clear hmul
  go_enter Try.func26, Try.ntmps26
  go_wp2_with (first | (go_at_call 40; refine (fmIs_any e f _ _).mono ?_; rintro rv w1 ⟨rfl, hb⟩; have hc := hb.cells; have hz := hb.frz; have hs : w.heap.size < w1.heap.size := hb.lt (by first | assumption | omega | (simp; done) | (simp; omega)); have g0 : w1.cell? ⟨w.heap.size, 0, none⟩ = some (.int .i64 e) := (hc _ _ (by first | assumption | omega | (simp; done) | (simp; omega))).trans (by first | assumption | (simp; done)); have g1 : w1.cell? ⟨w.heap.size, 1, none⟩ = some (.int .i64 f) := (hc _ _ (by first | assumption | omega | (simp; done) | (simp; omega))).trans (by first | assumption | (simp; done)); clear hc hz) | (go_at_call 54; refine (fmSize_any e f _ hg0 (by omega) _).mono ?_; rintro rv w1 ⟨rfl, hb⟩; have hc := hb.cells; have hz := hb.frz; have hs : w.heap.size < w1.heap.size := hb.lt (by first | assumption | omega | (simp; done) | (simp; omega)); have g0 : w1.cell? ⟨w.heap.size, 0, none⟩ = some (.int .i64 e) := (hc _ _ (by first | assumption | omega | (simp; done) | (simp; omega))).trans (by first | assumption | (simp; done)); have g1 : w1.cell? ⟨w.heap.size, 1, none⟩ = some (.int .i64 f) := (hc _ _ (by first | assumption | omega | (simp; done) | (simp; omega))).trans (by first | assumption | (simp; done)); clear hc hz))
  go_ret2
  exact ⟨rfl, (by repeat (first | exact Ext.refl _ | assumption | apply Ext.alloc | apply Ext.drew | apply Ext.drewN | (refine Ext.setCell ?_ (by simp) _) | (refine Ext.trans ?_ (by assumption))))⟩

theorem iAbsOf_no (e f p : Int) (hg : patB e f p = false) (w : World) : Calls Try.prog 27 #[fmt e f, .int .i64 p] w fun rv w' => rv = .returned (.tuple #[.int .i64 0, .bool false]) ∧ Ext w w' := by
  go_enter Try.func27, Try.ntmps27
  go_wp2_with (go_at_call 44; refine (isPattern_any e f _ _).mono ?_; rintro rv w1 ⟨rfl, hb⟩; have hc := hb.cells; have hz := hb.frz; have hs : w.heap.size < w1.heap.size := hb.lt (by first | assumption | omega | (simp; done) | (simp; omega)); have g0 : w1.cell? ⟨w.heap.size, 0, none⟩ = some (.int .i64 e) := (hc _ _ (by first | assumption | omega | (simp; done) | (simp; omega))).trans (by first | assumption | (simp; done)); have g1 : w1.cell? ⟨w.heap.size, 1, none⟩ = some (.int .i64 f) := (hc _ _ (by first | assumption | omega | (simp; done) | (simp; omega))).trans (by first | assumption | (simp; done)); clear hc hz)
  go_ret2
  exact ⟨rfl, (by repeat (first | exact Ext.refl _ | assumption | apply Ext.alloc | apply Ext.drew | apply Ext.drewN | (refine Ext.setCell ?_ (by simp) _) | (refine Ext.trans ?_ (by assumption))))⟩

theorem iAbsOf_yes (e f p : Int) (hg : patB e f p = true) (w : World) : Calls Try.prog 27 #[fmt e f, .int .i64 p] w fun rv w' => rv = .returned (.tuple #[.int .i64 (p % pw (e + f)), .bool true]) ∧ Ext w w' := by
  obtain ⟨hg0, hp0, hp1⟩ := pat_iff.1 hg
  obtain ⟨h1, h2, h3, h4⟩ := good_iff.1 hg0
  obtain ⟨⟨a1, a2⟩, ⟨b1, b2⟩, ⟨c1, c2⟩, hmul⟩ := pw_facts h1 h2 h3 h4
  have Hmul := Lib.hid hmul; clear hmul
  go_enter Try.func27, Try.ntmps27
  go_wp2_with (first | (go_at_call 44; refine (isPattern_any e f _ _).mono ?_; rintro rv w1 ⟨rfl, hb⟩; have hc := hb.cells; have hz := hb.frz; have hs : w.heap.size < w1.heap.size := hb.lt (by first | assumption | omega | (simp; done) | (simp; omega)); have g0 : w1.cell? ⟨w.heap.size, 0, none⟩ = some (.int .i64 e) := (hc _ _ (by first | assumption | omega | (simp; done) | (simp; omega))).trans (by first | assumption | (simp; done)); have g1 : w1.cell? ⟨w.heap.size, 1, none⟩ = some (.int .i64 f) := (hc _ _ (by first | assumption | omega | (simp; done) | (simp; omega))).trans (by first | assumption | (simp; done)); clear hc hz) | (go_at_call 53; refine (signBit_any e f hg0 _).mono ?_; rintro rv w1 ⟨rfl, hb⟩; have hc := hb.cells; have hz := hb.frz; have hs : w.heap.size < w1.heap.size := hb.lt (by first | assumption | omega | (simp; done) | (simp; omega)); have g0 : w1.cell? ⟨w.heap.size, 0, none⟩ = some (.int .i64 e) := (hc _ _ (by first | assumption | omega | (simp; done) | (simp; omega))).trans (by first | assumption | (simp; done)); have g1 : w1.cell? ⟨w.heap.size, 1, none⟩ = some (.int .i64 f) := (hc _ _ (by first | assumption | omega | (simp; done) | (simp; omega))).trans (by first | assumption | (simp; done)); clear hc hz))
  go_ret2
  exact ⟨rfl, (by repeat (first | exact Ext.refl _ | assumption | apply Ext.alloc | apply Ext.drew | apply Ext.drewN | (refine Ext.setCell ?_ (by simp) _) | (refine Ext.trans ?_ (by assumption))))⟩

theorem fmNegate_any (e f p : Int) (hg : patB e f p = true) (w : World) : Calls Try.prog 52 #[fmt e f, .int .i64 p] w fun rv w' => rv = .returned (.int .i64 ((1 - p / pw (e + f)) * pw (e + f) + p % pw (e + f))) ∧ Ext w w' := by
  obtain ⟨hg0, hp0, hp1⟩ := pat_iff.1 hg
  obtain ⟨h1, h2, h3, h4⟩ := good_iff.1 hg0
  obtain ⟨⟨a1, a2⟩, ⟨b1, b2⟩, ⟨c1, c2⟩, hmul⟩ := pw_facts h1 h2 h3 h4
  have Hmul := Lib.hid hmul; clear hmul
  obtain ⟨⟨s0, s1⟩, ⟨z0, z1⟩, ⟨x0, x1⟩, ⟨r0, r1⟩, hsum⟩ := field_bd e f p hg
  have Hsum := Lib.hid hsum; clear hsum
  have k1 : IntKind.i64.wrap (1 - p / pw (e + f)) = 1 - p / pw (e + f) := IntWalk.i64_in _ (by omega)
  go_enter Try.func52, Try.ntmps52
  go_wp2_with fail
  go_region_held3 (fun w' => w'.cell? ⟨w.heap.size, 0, none⟩ = some (.int .i64 e) ∧ w'.cell? ⟨w.heap.size, 1, none⟩ = some (.int .i64 f) ∧ w.heap.size < w'.heap.size) ((refine ⟨?_, ?_, ?_⟩ <;> first | assumption | (simp; done) | (simp [go_sem, World.cell?_alloc_past, World.cell?_setCell_far, *]; done) | (simp; omega))) ((first | (go_at_call 41; refine (fmSign_any e f _ hg0 (by omega) _).mono ?_; rintro rv w1 ⟨rfl, hb⟩; have hc := hb.cells; have hz := hb.frz; have hs : w.heap.size < w1.heap.size := hb.lt (by first | assumption | omega | (simp; done) | (simp; omega)); have g0 : w1.cell? ⟨w.heap.size, 0, none⟩ = some (.int .i64 e) := (hc _ _ (by first | assumption | omega | (simp; done) | (simp; omega))).trans (by first | assumption | (simp; done)); have g1 : w1.cell? ⟨w.heap.size, 1, none⟩ = some (.int .i64 f) := (hc _ _ (by first | assumption | omega | (simp; done) | (simp; omega))).trans (by first | assumption | (simp; done)); clear hc hz) | (go_at_call 54; refine (fmSize_any e f _ hg0 (by omega) _).mono ?_; rintro rv w1 ⟨rfl, hb⟩; have hc := hb.cells; have hz := hb.frz; have hs : w.heap.size < w1.heap.size := hb.lt (by first | assumption | omega | (simp; done) | (simp; omega)); have g0 : w1.cell? ⟨w.heap.size, 0, none⟩ = some (.int .i64 e) := (hc _ _ (by first | assumption | omega | (simp; done) | (simp; omega))).trans (by first | assumption | (simp; done)); have g1 : w1.cell? ⟨w.heap.size, 1, none⟩ = some (.int .i64 f) := (hc _ _ (by first | assumption | omega | (simp; done) | (simp; omega))).trans (by first | assumption | (simp; done)); clear hc hz) | (go_at_call 48; refine (fmOf_any e f _ _ hg0 (by omega) (by omega) (by omega) (by omega) _).mono ?_; rintro rv w1 ⟨rfl, hb⟩; have hc := hb.cells; have hz := hb.frz; have hs : w.heap.size < w1.heap.size := hb.lt (by first | assumption | omega | (simp; done) | (simp; omega)); have g0 : w1.cell? ⟨w.heap.size, 0, none⟩ = some (.int .i64 e) := (hc _ _ (by first | assumption | omega | (simp; done) | (simp; omega))).trans (by first | assumption | (simp; done)); have g1 : w1.cell? ⟨w.heap.size, 1, none⟩ = some (.int .i64 f) := (hc _ _ (by first | assumption | omega | (simp; done) | (simp; omega))).trans (by first | assumption | (simp; done)); clear hc hz)))
  go_wp2
  go_ret
  exact ⟨rfl, (by repeat (first | exact Ext.refl _ | assumption | apply Ext.alloc | apply Ext.drew | apply Ext.drewN | (refine Ext.setCell ?_ (by simp) _) | (refine Ext.trans ?_ (by assumption))))⟩

theorem sNegateOf_no (e f p : Int) (hg : patB e f p = false) (w : World) : Calls Try.prog 24 #[fmt e f, .int .i64 p] w fun rv w' => rv = .returned (.tuple #[.int .i64 0, .bool false]) ∧ Ext w w' := by
  go_enter Try.func24, Try.ntmps24
  go_wp2_with (go_at_call 40; refine (fmIs_any e f _ _).mono ?_; rintro rv w1 ⟨rfl, hb⟩; have hc := hb.cells; have hz := hb.frz; have hs : w.heap.size < w1.heap.size := hb.lt (by first | assumption | omega | (simp; done) | (simp; omega)); have g0 : w1.cell? ⟨w.heap.size, 0, none⟩ = some (.int .i64 e) := (hc _ _ (by first | assumption | omega | (simp; done) | (simp; omega))).trans (by first | assumption | (simp; done)); have g1 : w1.cell? ⟨w.heap.size, 1, none⟩ = some (.int .i64 f) := (hc _ _ (by first | assumption | omega | (simp; done) | (simp; omega))).trans (by first | assumption | (simp; done)); clear hc hz)
  go_ret2
  exact ⟨rfl, (by repeat (first | exact Ext.refl _ | assumption | apply Ext.alloc | apply Ext.drew | apply Ext.drewN | (refine Ext.setCell ?_ (by simp) _) | (refine Ext.trans ?_ (by assumption))))⟩

theorem sNegateOf_yes (e f p : Int) (hg : patB e f p = true) (w : World) : Calls Try.prog 24 #[fmt e f, .int .i64 p] w fun rv w' => rv = .returned (.tuple #[.int .i64 ((1 - p / pw (e + f)) * pw (e + f) + p % pw (e + f)), .bool true]) ∧ Ext w w' := by
  obtain ⟨hg0, hp0, hp1⟩ := pat_iff.1 hg
  obtain ⟨h1, h2, h3, h4⟩ := good_iff.1 hg0
  obtain ⟨⟨a1, a2⟩, ⟨b1, b2⟩, ⟨c1, c2⟩, hmul⟩ := pw_facts h1 h2 h3 h4
  have Hmul := Lib.hid hmul; clear hmul
  go_enter Try.func24, Try.ntmps24
  go_wp2_with (first | (go_at_call 40; refine (fmIs_any e f _ _).mono ?_; rintro rv w1 ⟨rfl, hb⟩; have hc := hb.cells; have hz := hb.frz; have hs : w.heap.size < w1.heap.size := hb.lt (by first | assumption | omega | (simp; done) | (simp; omega)); have g0 : w1.cell? ⟨w.heap.size, 0, none⟩ = some (.int .i64 e) := (hc _ _ (by first | assumption | omega | (simp; done) | (simp; omega))).trans (by first | assumption | (simp; done)); have g1 : w1.cell? ⟨w.heap.size, 1, none⟩ = some (.int .i64 f) := (hc _ _ (by first | assumption | omega | (simp; done) | (simp; omega))).trans (by first | assumption | (simp; done)); clear hc hz) | (go_at_call 52; refine (fmNegate_any e f _ hg _).mono ?_; rintro rv w1 ⟨rfl, hb⟩; have hc := hb.cells; have hz := hb.frz; have hs : w.heap.size < w1.heap.size := hb.lt (by first | assumption | omega | (simp; done) | (simp; omega)); have g0 : w1.cell? ⟨w.heap.size, 0, none⟩ = some (.int .i64 e) := (hc _ _ (by first | assumption | omega | (simp; done) | (simp; omega))).trans (by first | assumption | (simp; done)); have g1 : w1.cell? ⟨w.heap.size, 1, none⟩ = some (.int .i64 f) := (hc _ _ (by first | assumption | omega | (simp; done) | (simp; omega))).trans (by first | assumption | (simp; done)); clear hc hz))
  go_ret2
  exact ⟨rfl, (by repeat (first | exact Ext.refl _ | assumption | apply Ext.alloc | apply Ext.drew | apply Ext.drewN | (refine Ext.setCell ?_ (by simp) _) | (refine Ext.trans ?_ (by assumption))))⟩

theorem iNegateOf_no (e f p : Int) (hg : patB e f p = false) (w : World) : Calls Try.prog 25 #[fmt e f, .int .i64 p] w fun rv w' => rv = .returned (.tuple #[.int .i64 0, .bool false]) ∧ Ext w w' := by
  go_enter Try.func25, Try.ntmps25
  go_wp2_with (go_at_call 44; refine (isPattern_any e f _ _).mono ?_; rintro rv w1 ⟨rfl, hb⟩; have hc := hb.cells; have hz := hb.frz; have hs : w.heap.size < w1.heap.size := hb.lt (by first | assumption | omega | (simp; done) | (simp; omega)); have g0 : w1.cell? ⟨w.heap.size, 0, none⟩ = some (.int .i64 e) := (hc _ _ (by first | assumption | omega | (simp; done) | (simp; omega))).trans (by first | assumption | (simp; done)); have g1 : w1.cell? ⟨w.heap.size, 1, none⟩ = some (.int .i64 f) := (hc _ _ (by first | assumption | omega | (simp; done) | (simp; omega))).trans (by first | assumption | (simp; done)); clear hc hz)
  go_ret2
  exact ⟨rfl, (by repeat (first | exact Ext.refl _ | assumption | apply Ext.alloc | apply Ext.drew | apply Ext.drewN | (refine Ext.setCell ?_ (by simp) _) | (refine Ext.trans ?_ (by assumption))))⟩

theorem iNegateOf_yes (e f p : Int) (hg : patB e f p = true) (w : World) : Calls Try.prog 25 #[fmt e f, .int .i64 p] w fun rv w' => rv = .returned (.tuple #[.int .i64 ((1 - p / pw (e + f)) * pw (e + f) + p % pw (e + f)), .bool true]) ∧ Ext w w' := by
  obtain ⟨hg0, hp0, hp1⟩ := pat_iff.1 hg
  obtain ⟨h1, h2, h3, h4⟩ := good_iff.1 hg0
  obtain ⟨⟨a1, a2⟩, ⟨b1, b2⟩, ⟨c1, c2⟩, hmul⟩ := pw_facts h1 h2 h3 h4
  have Hmul := Lib.hid hmul; clear hmul
  have k1 : bits .xor .i64 p (pw (e + f)) = (1 - p / pw (e + f)) * pw (e + f) + p % pw (e + f) := xor_pw p (e + f) hp0 hp1 (by omega)
  go_enter Try.func25, Try.ntmps25
  go_wp2_with (first | (go_at_call 44; refine (isPattern_any e f _ _).mono ?_; rintro rv w1 ⟨rfl, hb⟩; have hc := hb.cells; have hz := hb.frz; have hs : w.heap.size < w1.heap.size := hb.lt (by first | assumption | omega | (simp; done) | (simp; omega)); have g0 : w1.cell? ⟨w.heap.size, 0, none⟩ = some (.int .i64 e) := (hc _ _ (by first | assumption | omega | (simp; done) | (simp; omega))).trans (by first | assumption | (simp; done)); have g1 : w1.cell? ⟨w.heap.size, 1, none⟩ = some (.int .i64 f) := (hc _ _ (by first | assumption | omega | (simp; done) | (simp; omega))).trans (by first | assumption | (simp; done)); clear hc hz) | (go_at_call 53; refine (signBit_any e f hg0 _).mono ?_; rintro rv w1 ⟨rfl, hb⟩; have hc := hb.cells; have hz := hb.frz; have hs : w.heap.size < w1.heap.size := hb.lt (by first | assumption | omega | (simp; done) | (simp; omega)); have g0 : w1.cell? ⟨w.heap.size, 0, none⟩ = some (.int .i64 e) := (hc _ _ (by first | assumption | omega | (simp; done) | (simp; omega))).trans (by first | assumption | (simp; done)); have g1 : w1.cell? ⟨w.heap.size, 1, none⟩ = some (.int .i64 f) := (hc _ _ (by first | assumption | omega | (simp; done) | (simp; omega))).trans (by first | assumption | (simp; done)); clear hc hz))
  go_ret2
  exact ⟨rfl, (by repeat (first | exact Ext.refl _ | assumption | apply Ext.alloc | apply Ext.drew | apply Ext.drewN | (refine Ext.setCell ?_ (by simp) _) | (refine Ext.trans ?_ (by assumption))))⟩


end Go.Proofs.Ytadehelclgpnfaa
