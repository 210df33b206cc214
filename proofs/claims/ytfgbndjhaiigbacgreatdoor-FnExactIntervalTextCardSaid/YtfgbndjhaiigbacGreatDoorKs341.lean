/-
  Contracts of the functions that the laws reach, and the plain facts that they rest on, each under the conditions that its line names; part 41.
-/
import Derived.Test.YtfgbndjhaiigbacGreatDoorKs31
import Derived.Test.YtfgbndjhaiigbacGreatDoorKs32
import Derived.Test.YtfgbndjhaiigbacGreatDoorKs33
import Derived.Test.YtfgbndjhaiigbacGreatDoorKs34
import Derived.Test.YtfgbndjhaiigbacGreatDoorKs35
import Derived.Test.YtfgbndjhaiigbacGreatDoorKs36
import Derived.Test.YtfgbndjhaiigbacGreatDoorKs37
import Derived.Test.YtfgbndjhaiigbacGreatDoorKs38
import Derived.Test.YtfgbndjhaiigbacGreatDoorKs39
import Derived.Test.YtfgbndjhaiigbacGreatDoorKs310
import Derived.Test.YtfgbndjhaiigbacGreatDoorKs311
import Derived.Test.YtfgbndjhaiigbacGreatDoorKs312
import Derived.Test.YtfgbndjhaiigbacGreatDoorKs313
import Derived.Test.YtfgbndjhaiigbacGreatDoorKs314
import Derived.Test.YtfgbndjhaiigbacGreatDoorKs315
import Derived.Test.YtfgbndjhaiigbacGreatDoorKs316
import Derived.Test.YtfgbndjhaiigbacGreatDoorKs317
import Derived.Test.YtfgbndjhaiigbacGreatDoorKs318
import Derived.Test.YtfgbndjhaiigbacGreatDoorKs319
import Derived.Test.YtfgbndjhaiigbacGreatDoorKs320
import Derived.Test.YtfgbndjhaiigbacGreatDoorKs321
import Derived.Test.YtfgbndjhaiigbacGreatDoorKs322
import Derived.Test.YtfgbndjhaiigbacGreatDoorKs323
import Derived.Test.YtfgbndjhaiigbacGreatDoorKs324
import Derived.Test.YtfgbndjhaiigbacGreatDoorKs325
import Derived.Test.YtfgbndjhaiigbacGreatDoorKs326
import Derived.Test.YtfgbndjhaiigbacGreatDoorKs327
import Derived.Test.YtfgbndjhaiigbacGreatDoorKs328
import Derived.Test.YtfgbndjhaiigbacGreatDoorKs329
import Derived.Test.YtfgbndjhaiigbacGreatDoorKs330
import Derived.Test.YtfgbndjhaiigbacGreatDoorKs331
import Derived.Test.YtfgbndjhaiigbacGreatDoorKs332
import Derived.Test.YtfgbndjhaiigbacGreatDoorKs333
import Derived.Test.YtfgbndjhaiigbacGreatDoorKs335
import Derived.Test.YtfgbndjhaiigbacGreatDoorKs336
import Derived.Test.YtfgbndjhaiigbacGreatDoorKs337
import Derived.Test.YtfgbndjhaiigbacGreatDoorKs339
import Derived.Test.YtfgbndjhaiigbacGreatDoorKs340
import Derived.Test.YtfgbndjhaiigbacGreatDoorRows
import Derived.WalkKit
import Derived.Handy
import Derived.LoopTactic
import Derived.LoopN
import Derived.Laws.OwnMore
import Derived.OwnWalk
import Derived.Deep.AppendLies
import Derived.Laws.Bits64b
import Derived.WalkSpells
import Derived.WalkLawsBesides
import Derived.StillTactics
import Derived.Laws.Pointers
import Derived.Deep.RegionHeld3
import Derived.Deep.QuietTactic
import Derived.BigQuiet
import Derived.Outline
import Derived.Lib.Hide
import Derived.RowKit3
import Derived.Carry
import Derived.IntWalk
import Derived.Lib.ItoaNum
import Derived.Laws.BytesString
import Derived.Lib.AtoiAll
import Derived.Lib.IndexMore
import Derived.Laws.EntriesVeiled
namespace Go.Proofs.YtfgbndjhaiigbacGreatDoor
open Go Go.RowKit
set_option linter.unusedSimpArgs false
set_option linter.unusedVariables false
set_option maxRecDepth 100000

attribute [local go_sem] ta_finite_finite ta_finite_infinite ta_finite_noNumber ta_infinite_finite ta_infinite_infinite ta_infinite_noNumber ta_noNumber_finite ta_noNumber_infinite ta_noNumber_noNumber

theorem shTx_len {e f a : Int} (hp : patB e f a = true) (w : World) : (shTx e f a).length ≤ 100 := by
  have s := sgT_length (a / pw (e + f))
  unfold shTx
  cases hf : finB e f a
  · cases hn : numB e f a
    · simp
    · simp; omega
  · obtain ⟨⟨D0, D1⟩, T0, T1⟩ := so_bd hf w
    have l1 := itoa_len (n := soD e f a) (by omega) (by omega)
    have l2 := itoa_len (n := soT e f a) (by omega) (by omega)
    simp only [if_true, List.length_append, List.length_cons, List.length_nil]
    omega

theorem iv_str (x y : List UInt8) : ((⟨#[91]⟩ : ByteArray) ++ ⟨x.toArray⟩ ++ ⟨#[44]⟩ ++ ⟨y.toArray⟩ ++ ⟨#[93]⟩) = ⟨([91] ++ x ++ [44] ++ y ++ [93]).toArray⟩ := by
  apply ByteArray.ext
  simp [ByteArray.data_append]

theorem iIntervalText_no (e f a b : Int) (hg : ivB e f a b = false) (w : World) : Calls Tryz.prog 42 #[fmt e f, two a b] w fun rv w' => rv = .returned (.tuple #[.string ⟨#[]⟩, .bool false]) ∧ Ext w w' := by
  have IA := fun w => isInterval_any e f a b w
  rw [hg] at IA
  have IA := Lib.hid IA
  clear hg
  go_enter Tryz.func42, Tryz.ntmps42
  go_wp2_with (go_at_call 99; refine (IA.out _).mono ?_; rintro rv w1 ⟨rfl, hb⟩; have ns : w.heap.size + 1 < w1.heap.size := hb.ltK; have n0 : w1.cell? ⟨w.heap.size, 0, none⟩ = some (.int .i64 e) := hb.cellK; have n1 : w1.cell? ⟨w.heap.size, 1, none⟩ = some (.int .i64 f) := hb.cellK; have n2 : w1.cell? ⟨w.heap.size + 1, 0, none⟩ = some (.int .i64 a) := hb.cellK; have n3 : w1.cell? ⟨w.heap.size + 1, 1, none⟩ = some (.int .i64 b) := hb.cellK; (first | (have nx := hx.trK hb; clear hx) | have nx := hb); clear hb; try clear hs; try clear g0; try clear g1; try clear g2; try clear g3; have hx := nx; clear nx; have hs := ns; clear ns; have g0 := n0; clear n0; have g1 := n1; clear n1; have g2 := n2; clear n2; have g3 := n3; clear n3)
  go_ret2
  exact ⟨rfl, Ext.auK⟩

theorem sIntervalText_no (e f a b : Int) (hg : ivB e f a b = false) (w : World) : Calls Tryz.prog 40 #[fmt e f, two a b] w fun rv w' => rv = .returned (.tuple #[.string ⟨#[]⟩, .bool false]) ∧ Ext w w' := by
  have IA := fun w => ivGood_any e f a b w
  rw [hg] at IA
  have IA := Lib.hid IA
  clear hg
  go_enter Tryz.func40, Tryz.ntmps40
  go_wp2_with (go_at_call 98; refine (IA.out _).mono ?_; rintro rv w1 ⟨rfl, hb⟩; have ns : w.heap.size + 1 < w1.heap.size := hb.ltK; have n0 : w1.cell? ⟨w.heap.size, 0, none⟩ = some (.int .i64 e) := hb.cellK; have n1 : w1.cell? ⟨w.heap.size, 1, none⟩ = some (.int .i64 f) := hb.cellK; have n2 : w1.cell? ⟨w.heap.size + 1, 0, none⟩ = some (.int .i64 a) := hb.cellK; have n3 : w1.cell? ⟨w.heap.size + 1, 1, none⟩ = some (.int .i64 b) := hb.cellK; (first | (have nx := hx.trK hb; clear hx) | have nx := hb); clear hb; try clear hs; try clear g0; try clear g1; try clear g2; try clear g3; have hx := nx; clear nx; have hs := ns; clear ns; have g0 := n0; clear n0; have g1 := n1; clear n1; have g2 := n2; clear n2; have g3 := n3; clear n3)
  go_ret2
  exact ⟨rfl, Ext.auK⟩

set_option maxHeartbeats 1600000 in
theorem iIntervalText_yes (e f a b : Int) (hg : ivB e f a b = true) (w : World) (hT : TT w) : Calls Tryz.prog 42 #[fmt e f, two a b] w fun rv w' => rv = .returned (.tuple #[.string ⟨([91] ++ shTx e f a ++ [44] ++ shTx e f b ++ [93]).toArray⟩, .bool true]) ∧ Ext w w' := by
  have IA := fun w => isInterval_any e f a b w
  rw [hg] at IA
  have IA := Lib.hid IA
  obtain ⟨pa, pb⟩ := iv_pats hg
  have A := Lib.hid (fun w hT => iShortestText_yes e f a pa w hT)
  have B := Lib.hid (fun w hT => iShortestText_yes e f b pb w hT)
  have l1 := shTx_len pa w
  have l2 := shTx_len pb w
  rw [← iv_str]
  clear hg pa pb
  generalize shTx e f a = x at *
  generalize shTx e f b = y at *
  have c1 : ¬ 9223372036854775807 < 1 + x.length := by omega
  have c2 : ¬ 9223372036854775807 < 1 + x.length + 1 := by omega
  have c3 : ¬ 9223372036854775807 < 1 + x.length + 1 + y.length := by omega
  have c4 : ¬ 9223372036854775807 < 1 + x.length + 1 + y.length + 1 := by omega
  clear l1 l2
  go_enter Tryz.func42, Tryz.ntmps42
  go_wp2_with (first | (go_at_call 99; refine (IA.out _).mono ?_; rintro rv w1 ⟨rfl, hb⟩; have ns : w.heap.size + 1 < w1.heap.size := hb.ltK; have n0 : w1.cell? ⟨w.heap.size, 0, none⟩ = some (.int .i64 e) := hb.cellK; have n1 : w1.cell? ⟨w.heap.size, 1, none⟩ = some (.int .i64 f) := hb.cellK; have n2 : w1.cell? ⟨w.heap.size + 1, 0, none⟩ = some (.int .i64 a) := hb.cellK; have n3 : w1.cell? ⟨w.heap.size + 1, 1, none⟩ = some (.int .i64 b) := hb.cellK; (first | (have nx := hx.trK hb; clear hx) | have nx := hb); clear hb; try clear hs; try clear g0; try clear g1; try clear g2; try clear g3; have hx := nx; clear nx; have hs := ns; clear ns; have g0 := n0; clear n0; have g1 := n1; clear n1; have g2 := n2; clear n2; have g3 := n3; clear n3) | (go_at_call 37; (with_reducible refine (A.out _ (hT.ext Ext.auK)).mono ?_); rintro rv w1 ⟨rfl, hb⟩; have ns : w.heap.size + 1 < w1.heap.size := hb.ltK; have n0 : w1.cell? ⟨w.heap.size, 0, none⟩ = some (.int .i64 e) := hb.cellK; have n1 : w1.cell? ⟨w.heap.size, 1, none⟩ = some (.int .i64 f) := hb.cellK; have n2 : w1.cell? ⟨w.heap.size + 1, 0, none⟩ = some (.int .i64 a) := hb.cellK; have n3 : w1.cell? ⟨w.heap.size + 1, 1, none⟩ = some (.int .i64 b) := hb.cellK; (first | (have nx := hx.trK hb; clear hx) | have nx := hb); clear hb; try clear hs; try clear g0; try clear g1; try clear g2; try clear g3; have hx := nx; clear nx; have hs := ns; clear ns; have g0 := n0; clear n0; have g1 := n1; clear n1; have g2 := n2; clear n2; have g3 := n3; clear n3) | (go_at_call 37; (with_reducible refine (B.out _ (hT.ext Ext.auK)).mono ?_); rintro rv w1 ⟨rfl, hb⟩; have ns : w.heap.size + 1 < w1.heap.size := hb.ltK; have n0 : w1.cell? ⟨w.heap.size, 0, none⟩ = some (.int .i64 e) := hb.cellK; have n1 : w1.cell? ⟨w.heap.size, 1, none⟩ = some (.int .i64 f) := hb.cellK; have n2 : w1.cell? ⟨w.heap.size + 1, 0, none⟩ = some (.int .i64 a) := hb.cellK; have n3 : w1.cell? ⟨w.heap.size + 1, 1, none⟩ = some (.int .i64 b) := hb.cellK; (first | (have nx := hx.trK hb; clear hx) | have nx := hb); clear hb; try clear hs; try clear g0; try clear g1; try clear g2; try clear g3; have hx := nx; clear nx; have hs := ns; clear ns; have g0 := n0; clear n0; have g1 := n1; clear n1; have g2 := n2; clear n2; have g3 := n3; clear n3))
  all_goals exact bodyPost_ret (v := .tuple #[.string (⟨#[91]⟩ ++ ⟨x.toArray⟩ ++ ⟨#[44]⟩ ++ ⟨y.toArray⟩ ++ ⟨#[93]⟩), .bool true]) (by simp [results, Tryz.results42, go_sem, *]) rfl ⟨rfl, Ext.auK⟩

theorem sTxText_yes (e f a : Int) (hg : patB e f a = true) (w : World) : Calls Tryz.prog 86 #[fmt e f, .int .i64 a] w fun rv w' => rv = .returned (.string ⟨(shTx e f a).toArray⟩) ∧ Ext w w' := by
  unfold shTx
  cases hf : finB e f a
  · cases hn : numB e f a
    · exact sTxText_nan e f a hg hn w
    · exact sTxText_inf e f a hg hf hn w
  · exact sTxText_fin e f a hg hf w

set_option maxHeartbeats 3200000 in
theorem sIntervalText_yes (e f a b : Int) (hg : ivB e f a b = true) (w : World) : Calls Tryz.prog 40 #[fmt e f, two a b] w fun rv w' => rv = .returned (.tuple #[.string ⟨([91] ++ shTx e f a ++ [44] ++ shTx e f b ++ [93]).toArray⟩, .bool true]) ∧ Ext w w' := by
  have IA := fun w => ivGood_any e f a b w
  rw [hg] at IA
  have IA := Lib.hid IA
  obtain ⟨pa, pb⟩ := iv_pats hg
  have A := Lib.hid (fun w => sTxText_yes e f a pa w)
  have B := Lib.hid (fun w => sTxText_yes e f b pb w)
  have l1 := shTx_len pa w
  have l2 := shTx_len pb w
  rw [← iv_str]
  clear hg pa pb
  generalize shTx e f a = x at *
  generalize shTx e f b = y at *
  have c1 : ¬ 9223372036854775807 < 1 + x.length := by omega
  have c2 : ¬ 9223372036854775807 < 1 + x.length + 1 := by omega
  have c3 : ¬ 9223372036854775807 < 1 + x.length + 1 + y.length := by omega
  have c4 : ¬ 9223372036854775807 < 1 + x.length + 1 + y.length + 1 := by omega
  clear l1 l2
  go_enter Tryz.func40, Tryz.ntmps40
  go_wp2_with (go_at_call 98; refine (IA.out _).mono ?_; rintro rv w1 ⟨rfl, hb⟩; have ns : w.heap.size + 1 < w1.heap.size := hb.ltK; have n0 : w1.cell? ⟨w.heap.size, 0, none⟩ = some (.int .i64 e) := hb.cellK; have n1 : w1.cell? ⟨w.heap.size, 1, none⟩ = some (.int .i64 f) := hb.cellK; have n2 : w1.cell? ⟨w.heap.size + 1, 0, none⟩ = some (.int .i64 a) := hb.cellK; have n3 : w1.cell? ⟨w.heap.size + 1, 1, none⟩ = some (.int .i64 b) := hb.cellK; (first | (have nx := hx.trK hb; clear hx) | have nx := hb); clear hb; try clear hs; try clear g0; try clear g1; try clear g2; try clear g3; have hx := nx; clear nx; have hs := ns; clear ns; have g0 := n0; clear n0; have g1 := n1; clear n1; have g2 := n2; clear n2; have g3 := n3; clear n3)
  go_region_held3 (fun w' => w'.cell? ⟨w.heap.size, 0, none⟩ = some (.int .i64 e) ∧ w'.cell? ⟨w.heap.size, 1, none⟩ = some (.int .i64 f) ∧ w'.cell? ⟨w.heap.size + 1, 0, none⟩ = some (.int .i64 a) ∧ w'.cell? ⟨w.heap.size + 1, 1, none⟩ = some (.int .i64 b) ∧ w.heap.size + 1 < w'.heap.size) ((refine ⟨?_, ?_, ?_, ?_, ?_⟩ <;> first | with_reducible assumption | ((rw [cell_setRow_far _ _ _ _ _ (by omega)]); with_reducible assumption) | ((rw [setRow_size]); with_reducible assumption) | ((repeat rw [World.cell?_setCell_far _ _ _ _ (by simp)]); with_reducible assumption) | (simp; done) | (simp [World.setCell]; first | done | omega) | (simp [go_sem, World.cell?_alloc_past, World.cell?_setCell_far, *]; done))) ((first | (go_at_call 86; (with_reducible refine (A.out _).mono ?_); rintro rv w1 ⟨rfl, hb⟩; have ns : w.heap.size + 1 < w1.heap.size := hb.ltK; have n0 : w1.cell? ⟨w.heap.size, 0, none⟩ = some (.int .i64 e) := hb.cellK; have n1 : w1.cell? ⟨w.heap.size, 1, none⟩ = some (.int .i64 f) := hb.cellK; have n2 : w1.cell? ⟨w.heap.size + 1, 0, none⟩ = some (.int .i64 a) := hb.cellK; have n3 : w1.cell? ⟨w.heap.size + 1, 1, none⟩ = some (.int .i64 b) := hb.cellK; (first | (have nx := hx.trK hb; clear hx) | have nx := hb); clear hb; try clear hs; try clear g0; try clear g1; try clear g2; try clear g3; have hx := nx; clear nx; have hs := ns; clear ns; have g0 := n0; clear n0; have g1 := n1; clear n1; have g2 := n2; clear n2; have g3 := n3; clear n3) | (go_at_call 86; (with_reducible refine (B.out _).mono ?_); rintro rv w1 ⟨rfl, hb⟩; have ns : w.heap.size + 1 < w1.heap.size := hb.ltK; have n0 : w1.cell? ⟨w.heap.size, 0, none⟩ = some (.int .i64 e) := hb.cellK; have n1 : w1.cell? ⟨w.heap.size, 1, none⟩ = some (.int .i64 f) := hb.cellK; have n2 : w1.cell? ⟨w.heap.size + 1, 0, none⟩ = some (.int .i64 a) := hb.cellK; have n3 : w1.cell? ⟨w.heap.size + 1, 1, none⟩ = some (.int .i64 b) := hb.cellK; (first | (have nx := hx.trK hb; clear hx) | have nx := hb); clear hb; try clear hs; try clear g0; try clear g1; try clear g2; try clear g3; have hx := nx; clear nx; have hs := ns; clear ns; have g0 := n0; clear n0; have g1 := n1; clear n1; have g2 := n2; clear n2; have g3 := n3; clear n3)))
  all_goals (try go_wp2_with fail)
  all_goals exact bodyPost_ret (v := .tuple #[.string (⟨#[91]⟩ ++ ⟨x.toArray⟩ ++ ⟨#[44]⟩ ++ ⟨y.toArray⟩ ++ ⟨#[93]⟩), .bool true]) (by simp [results, Tryz.results40, go_sem, *]) rfl ⟨rfl, Ext.auK⟩
end Go.Proofs.YtfgbndjhaiigbacGreatDoor

