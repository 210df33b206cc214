/-
  Contracts of the functions that the laws reach, and the plain facts that they rest on, each under the conditions that its line names; part 32.
-/
import Derived.Test.YtafkcgpfllloiaaGreatDoorKWO1
import Derived.Test.YtafkcgpfllloiaaGreatDoorKWO2
import Derived.Test.YtafkcgpfllloiaaGreatDoorKWO3
import Derived.Test.YtafkcgpfllloiaaGreatDoorKWO4
import Derived.Test.YtafkcgpfllloiaaGreatDoorKWO5
import Derived.Test.YtafkcgpfllloiaaGreatDoorKWO6
import Derived.Test.YtafkcgpfllloiaaGreatDoorKWO7
import Derived.Test.YtafkcgpfllloiaaGreatDoorKWO8
import Derived.Test.YtafkcgpfllloiaaGreatDoorKWO9
import Derived.Test.YtafkcgpfllloiaaGreatDoorKWO10
import Derived.Test.YtafkcgpfllloiaaGreatDoorKWO11
import Derived.Test.YtafkcgpfllloiaaGreatDoorKWO12
import Derived.Test.YtafkcgpfllloiaaGreatDoorKWO13
import Derived.Test.YtafkcgpfllloiaaGreatDoorKWO14
import Derived.Test.YtafkcgpfllloiaaGreatDoorKWO15
import Derived.Test.YtafkcgpfllloiaaGreatDoorKWO16
import Derived.Test.YtafkcgpfllloiaaGreatDoorKWO17
import Derived.Test.YtafkcgpfllloiaaGreatDoorKWO18
import Derived.Test.YtafkcgpfllloiaaGreatDoorKWO19
import Derived.Test.YtafkcgpfllloiaaGreatDoorKWO20
import Derived.Test.YtafkcgpfllloiaaGreatDoorKWO21
import Derived.Test.YtafkcgpfllloiaaGreatDoorKWO22
import Derived.Test.YtafkcgpfllloiaaGreatDoorKWO23
import Derived.Test.YtafkcgpfllloiaaGreatDoorKWO24
import Derived.Test.YtafkcgpfllloiaaGreatDoorKWO25
import Derived.Test.YtafkcgpfllloiaaGreatDoorKWO26
import Derived.Test.YtafkcgpfllloiaaGreatDoorKWO27
import Derived.Test.YtafkcgpfllloiaaGreatDoorKWO28
import Derived.Test.YtafkcgpfllloiaaGreatDoorKWO29
import Derived.Test.YtafkcgpfllloiaaGreatDoorKWO30
import Derived.Test.YtafkcgpfllloiaaGreatDoorKWO31
import Derived.Test.YtafkcgpfllloiaaGreatDoorRows
import Derived.WalkKit
import Derived.LoopTactic
import Derived.Laws.Bits64b
import Derived.WalkSpells
import Derived.WalkLawsBesides
import Derived.StillTactics
import Derived.Laws.Pointers
import Derived.Deep.RegionHeld3
import Derived.Deep.QuietTactic
import Derived.BigQuiet
import Derived.Outline
import Derived.Lib.Hide
import Derived.RowKit3
import Derived.Carry
import Derived.IntWalk
import Derived.BigRegion
import Derived.Handy
import Derived.LoopN
import Derived.Laws.OwnMore
import Derived.OwnWalk
import Derived.Deep.AppendLies
import Derived.Laws.EntriesVeiled
namespace Go.Proofs.YtafkcgpfllloiaaGreatDoor
open Go Go.RowKit
set_option linter.unusedSimpArgs false
set_option linter.unusedVariables false
set_option maxRecDepth 100000

theorem inf_form {e f p : Int} (hp : patB e f p = true) (hk : kindV e f p = 3) : p / pw (e + f) * pw (e + f) + (pw e - 1) * pw f = p := by
  obtain ⟨hg, p0, p1⟩ := pat_iff.1 hp
  have c1 := pw_pos f
  have c2 := pw_pos (e + f)
  have k1 : p % pw (e + f) / pw f = pw e - 1 ∧ p % pw f = 0 := by
    unfold kindV at hk
    by_cases h : p % pw (e + f) / pw f = pw e - 1
    · by_cases h2 : p % pw f = 0
      · exact ⟨h, h2⟩
      · simp [h, h2] at hk
    · have : (p % pw (e + f) / pw f == pw e - 1) = false := by simpa using h
      rw [this] at hk
      simp at hk
      split at hk
      · omega
      · split at hk <;> omega
  obtain ⟨h1, h2, h3, h4⟩ := good_iff.1 hg
  have hd : pw (e + f) = pw e * pw f := pw_add e f (by omega) (by omega)
  have hm : p % pw (e + f) % pw f = p % pw f := by
    rw [hd]
    exact Int.emod_emod_of_dvd p ⟨pw e, Int.mul_comm _ _⟩
  have d1 := Int.mul_ediv_add_emod p (pw (e + f))
  have d2 := Int.mul_ediv_add_emod (p % pw (e + f)) (pw f)
  rw [hm, k1.1, k1.2] at d2
  rw [Int.mul_comm] at d1 d2
  omega
end Go.Proofs.YtafkcgpfllloiaaGreatDoor

namespace Go.Proofs.YtafkcgpfllloiaaGreatDoor
open Go Go.RowKit
set_option linter.unusedSimpArgs false
set_option linter.unusedVariables false
set_option maxRecDepth 100000

theorem pls_zero {e f x mode s : Int} {neg : Bool} (hg : goodB e f = true) (hq : RndD e f 0 x mode neg s) : s = 0 :=
  rnd_one (good_iff.1 hg).2.2.1 (show (0 : Int) < pw 149 by have := pw_pos 149; omega) hq (rnd_null hg)
end Go.Proofs.YtafkcgpfllloiaaGreatDoor

namespace Go.Proofs.YtafkcgpfllloiaaGreatDoor
open Go Go.RowKit
set_option linter.unusedSimpArgs false
set_option linter.unusedVariables false
set_option maxRecDepth 100000

theorem zero_form {e f p : Int} (hp : patB e f p = true) (hk : kindV e f p = 0) : p / pw (e + f) * pw (e + f) = p := by
  have h0 : p % pw (e + f) = 0 := by
    obtain ⟨hg, p0, p1⟩ := pat_iff.1 hp
    obtain ⟨h1, h2, h3, h4⟩ := good_iff.1 hg
    have c1 := pw_pos f
    have c2 := pw_pos (e + f)
    have r0 := Int.emod_nonneg p (show pw (e + f) ≠ 0 by omega)
    have hd : pw (e + f) = pw e * pw f := pw_add e f (by omega) (by omega)
    have hm : p % pw (e + f) % pw f = p % pw f := by
      rw [hd]
      exact Int.emod_emod_of_dvd p ⟨pw e, Int.mul_comm _ _⟩
    have d2 := Int.mul_ediv_add_emod (p % pw (e + f)) (pw f)
    have q0 : 0 ≤ p % pw (e + f) / pw f := Int.ediv_nonneg r0 (by omega)
    have e0 := (pw_facts h1 h2 h3 h4).2.1.1
    have k1 : p % pw (e + f) / pw f = 0 ∧ p % pw f = 0 := by
      unfold kindV at hk
      have rr := Int.emod_nonneg p (show pw f ≠ 0 by omega)
      by_cases h : p % pw (e + f) / pw f = pw e - 1
      · by_cases g : p % pw f = 0 <;> simp [h, g] at hk
      · have : (p % pw (e + f) / pw f == pw e - 1) = false := by simpa using h
        rw [this] at hk
        by_cases g : 0 < p % pw (e + f) / pw f
        · simp [g] at hk
        · by_cases g2 : 0 < p % pw f
          · simp [g, g2] at hk
          · exact ⟨by omega, by omega⟩
    rw [hm, k1.1, k1.2] at d2
    omega
  have d1 := Int.mul_ediv_add_emod p (pw (e + f))
  rw [h0, Int.mul_comm] at d1
  omega

theorem ab_zero {e f a mode : Int} : abB e f a 0 mode = (patB e f a && moB mode) := by
  unfold abB
  cases h : patB e f a
  · rfl
  · obtain ⟨hg, _, _⟩ := pat_iff.1 h
    have q := pw_pos (e + f)
    rw [show patB e f 0 = true from pat_iff.2 ⟨hg, by omega, by omega⟩]
    simp
end Go.Proofs.YtafkcgpfllloiaaGreatDoor

namespace Go.Proofs.YtafkcgpfllloiaaGreatDoor
open Go Go.RowKit
set_option linter.unusedSimpArgs false
set_option linter.unusedVariables false
set_option maxRecDepth 100000

attribute [local go_sem] ta_finite_finite ta_finite_infinite ta_finite_noNumber ta_infinite_finite ta_infinite_infinite ta_infinite_noNumber ta_noNumber_finite ta_noNumber_infinite ta_noNumber_noNumber

theorem cl_whole (m n x k z : Int) (gK : Nat) (WA : Hid (∀ w, Calls Tryz.prog 68 #[.agg #[.int .i64 m, .int .i64 n, .int .i64 x], .int .i64 k] w fun rv w' => rv = .returned (.int .i64 z) ∧ Ext w w')) (w : World) (lK : gK < w.heap.size) (c : w.cell? ⟨gK, 0, none⟩ = some (.int .i64 k)) :
    Calls Tryz.prog 67 #[.agg #[.int .i64 m, .int .i64 n, .int .i64 x], .pointer (some ⟨gK, 0, none⟩)] w fun rv w' => rv = .returned (.agg #[.int .i64 m, .int .i64 z, .int .i64 0]) ∧ Ext w w' := by
  have c1 : ∀ A B, ((w.alloc A).alloc B).cell? ⟨gK, 0, none⟩ = some (.int .i64 k) := fun A B => (cell_alloc_before _ _ _ _ (by simp; omega)).trans ((cell_alloc_before _ _ _ _ lK).trans c)
  have c2 : ∀ A, (w.alloc A).cell? ⟨gK, 0, none⟩ = some (.int .i64 k) := fun A => (cell_alloc_before _ _ _ _ lK).trans c
  go_enter Tryz.func67, Tryz.ntmps67
  go_wp2_with fail
  go_region_held3 (fun w' => w'.cell? ⟨w.heap.size, 0, none⟩ = some (.int .i64 m) ∧ w'.cell? ⟨w.heap.size, 1, none⟩ = some (.int .i64 n) ∧ w'.cell? ⟨w.heap.size, 2, none⟩ = some (.int .i64 x) ∧ w'.cell? ⟨gK, 0, none⟩ = some (.int .i64 k) ∧ w.heap.size + 1 < w'.heap.size) ((refine ⟨?_, ?_, ?_, ?_, ?_⟩ <;> first | with_reducible assumption | ((repeat first | rw [cell_set_far _ _ _ _ _ _ (by omega)] | rw [cell_alloc_before _ _ _ _ (by omega)] | rw [cell_alloc_drew _ _ _ _ (by omega)] | rw [cell_drew]); with_reducible assumption) | ((rw [cell_setRow_far _ _ _ _ _ (by omega)]); with_reducible assumption) | ((rw [setRow_size]); with_reducible assumption) | (simp; done) | (simp [World.setCell]; first | done | omega) | (simp [go_sem, World.cell?_alloc_past, World.cell?_setCell_far, *]; done))) ((first | (go_at_call 68; (with_reducible refine (WA.out _).mono ?_); rintro rv w1 ⟨rfl, hb⟩; have ns : w.heap.size + 1 < w1.heap.size := hb.lt (by first | with_reducible assumption | omega | (simp; done) | (simp; omega)); have n0 : w1.cell? ⟨w.heap.size, 0, none⟩ = some (.int .i64 m) := (hb.cells _ _ (by first | with_reducible assumption | omega | (simp; done) | (simp; omega))).trans (by first | with_reducible assumption | (simp; done) | (simp; with_reducible assumption) | (rw [cell_alloc_before _ _ _ _ (by omega)]; with_reducible assumption) | (simp [go_sem, *]; done)); have n1 : w1.cell? ⟨w.heap.size, 1, none⟩ = some (.int .i64 n) := (hb.cells _ _ (by first | with_reducible assumption | omega | (simp; done) | (simp; omega))).trans (by first | with_reducible assumption | (simp; done) | (simp; with_reducible assumption) | (rw [cell_alloc_before _ _ _ _ (by omega)]; with_reducible assumption) | (simp [go_sem, *]; done)); have n2 : w1.cell? ⟨w.heap.size, 2, none⟩ = some (.int .i64 x) := (hb.cells _ _ (by first | with_reducible assumption | omega | (simp; done) | (simp; omega))).trans (by first | with_reducible assumption | (simp; done) | (simp; with_reducible assumption) | (rw [cell_alloc_before _ _ _ _ (by omega)]; with_reducible assumption) | (simp [go_sem, *]; done)); have n3 : w1.cell? ⟨gK, 0, none⟩ = some (.int .i64 k) := (hb.cells _ _ (by first | with_reducible assumption | omega | (simp; done) | (simp; omega))).trans (by first | with_reducible assumption | (simp; done) | (simp; with_reducible assumption) | (rw [cell_alloc_before _ _ _ _ (by omega)]; with_reducible assumption) | (simp [go_sem, *]; done)); have n4 : w1.cell? ⟨w.heap.size + 1, 0, none⟩ = some (.int .i64 0) := (hb.cells _ _ (by first | with_reducible assumption | omega | (simp; done) | (simp; omega))).trans (by first | with_reducible assumption | (simp; done) | (simp; with_reducible assumption) | (rw [cell_alloc_before _ _ _ _ (by omega)]; with_reducible assumption) | (simp [go_sem, *]; done)); have n5 : w1.cell? ⟨w.heap.size + 1, 1, none⟩ = some (.int .i64 0) := (hb.cells _ _ (by first | with_reducible assumption | omega | (simp; done) | (simp; omega))).trans (by first | with_reducible assumption | (simp; done) | (simp; with_reducible assumption) | (rw [cell_alloc_before _ _ _ _ (by omega)]; with_reducible assumption) | (simp [go_sem, *]; done)); have n6 : w1.cell? ⟨w.heap.size + 1, 2, none⟩ = some (.int .i64 0) := (hb.cells _ _ (by first | with_reducible assumption | omega | (simp; done) | (simp; omega))).trans (by first | with_reducible assumption | (simp; done) | (simp; with_reducible assumption) | (rw [cell_alloc_before _ _ _ _ (by omega)]; with_reducible assumption) | (simp [go_sem, *]; done)); have nz0 : w1.frozen? ⟨w.heap.size + 1, 0, none⟩ = false := (hb.frz _ _ (by first | with_reducible assumption | omega | (simp; done) | (simp; omega))).trans (by first | with_reducible assumption | (simp [go_sem]; done) | (simp [go_sem]; with_reducible assumption)); have nz1 : w1.frozen? ⟨w.heap.size + 1, 1, none⟩ = false := (hb.frz _ _ (by first | with_reducible assumption | omega | (simp; done) | (simp; omega))).trans (by first | with_reducible assumption | (simp [go_sem]; done) | (simp [go_sem]; with_reducible assumption)); have nz2 : w1.frozen? ⟨w.heap.size + 1, 2, none⟩ = false := (hb.frz _ _ (by first | with_reducible assumption | omega | (simp; done) | (simp; omega))).trans (by first | with_reducible assumption | (simp [go_sem]; done) | (simp [go_sem]; with_reducible assumption)); (first | (have nx := Ext.trans hx hb; clear hx) | (have nx := Ext.trans (hx.alloc _) hb; clear hx) | (have nx := Ext.trans hx.drew hb; clear hx) | have nx := hb); clear hb; try clear hs; try clear g0; try clear g1; try clear g2; try clear g3; try clear g4; try clear g5; try clear g6; try clear z0; try clear z1; try clear z2; have hx := nx; clear nx; have hs := ns; clear ns; have g0 := n0; clear n0; have g1 := n1; clear n1; have g2 := n2; clear n2; have g3 := n3; clear n3; have g4 := n4; clear n4; have g5 := n5; clear n5; have g6 := n6; clear n6; have z0 := nz0; clear nz0; have z1 := nz1; clear nz1; have z2 := nz2; clear nz2)))
  go_wp2_with fail
  all_goals (exact bodyPost_ret (v := .agg #[.int .i64 m, .int .i64 z, .int .i64 0]) (by simp [results, Tryz.results67, go_sem, *]) rfl ⟨rfl, (by repeat (first | exact Ext.refl _ | with_reducible assumption | apply Ext.alloc | apply Ext.drew | apply Ext.drewN | (refine Ext.setRow ?_ (by first | (simp; done) | (simp; omega) | omega) _) | (refine Ext.setCell ?_ (by first | (simp; done) | (simp; omega) | omega) _) | (refine Ext.trans ?_ (by with_reducible assumption))))⟩)

set_option maxHeartbeats 3200000 in
theorem ofWhole_fin (e f a k mode z1 z2 z3 : Int) (gK : Nat) (hap : patB e f a = true) (m0 : 0 ≤ mode) (m1 : mode ≤ 5) (fa : finB e f a = true) (hm : z1 = 0 ∨ z1 = 1) (v0 : 0 ≤ z2) (v1 : z2 < 4611686018427387904) (j0 : -149 ≤ z3 - unV e f) (j1 : z3 - unV e f ≤ 149)
    (clc : ∀ w, gK < w.heap.size → w.cell? ⟨gK, 0, none⟩ = some (.int .i64 k) → Calls Tryz.prog 67 #[.agg #[.int .i64 (a / pw (e + f)), .int .i64 ((odV (unitsV e f a)).natAbs : Int), .int .i64 (shE (unitsV e f a) (unV e f))], .pointer (some ⟨gK, 0, none⟩)] w fun rv w' => rv = .returned (.agg #[.int .i64 z1, .int .i64 z2, .int .i64 z3]) ∧ Ext w w') (w : World) (hT : TW w) (q0 : w.cell? ⟨gK, 0, none⟩ = some (.int .i64 k)) (lK : gK < w.heap.size) :
    Calls Tryz.prog 66 #[fmt e f, .int .i64 a, .int .i64 mode, .func (.func 67) #[] #[.pointer (some ⟨gK, 0, none⟩)]] w (OTout e f z1 z2 (z3 - unV e f) mode w) := by
  have hg := (pat_iff.1 hap).1
  have hmo : moB mode = true := mo_iff.2 ⟨m0, m1⟩
  have CLC := Lib.hid clc; clear clc
  have OA := Lib.hid (op_fin fa)
  go_enter Tryz.func66, Tryz.ntmps66
  go_wp2_with (go_at_call 49; (with_reducible refine (operandsOf1 e f mode a (w.heap.size + 1) hmo hap _ (hT.ext (by repeat (first | exact Ext.refl _ | with_reducible assumption | apply Ext.alloc | apply Ext.drew | apply Ext.drewN | (refine Ext.setRow ?_ (by first | (simp; done) | (simp; omega) | omega) _) | (refine Ext.setCell ?_ (by first | (simp; done) | (simp; omega) | omega) _) | (refine Ext.trans ?_ (by with_reducible assumption))))) (by first | with_reducible assumption | (simp; done) | (simp [go_sem]; done)) (by simp; try omega)).mono ?_); rintro rv w1 ⟨v, rfl, how, hb⟩; obtain ⟨gl, cap, rfl, hg1, hg2⟩ := how.form (by omega); have c0 := how.cellAt 0 (by omega); simp only [List.getElem?_cons_zero] at c0; rw [OA.out] at c0; clear how; have ns : w.heap.size < w1.heap.size := hb.lt (by first | (simp; done) | (simp; omega)); have g0 : w1.cell? ⟨w.heap.size, 0, none⟩ = some (.int .i64 e) := (hb.cells _ _ (by first | (simp; done) | (simp; omega))).trans (by first | (simp; done) | (simp [go_sem, *]; done)); have g1 : w1.cell? ⟨w.heap.size, 1, none⟩ = some (.int .i64 f) := (hb.cells _ _ (by first | (simp; done) | (simp; omega))).trans (by first | (simp; done) | (simp [go_sem, *]; done)); have k0 : w1.cell? ⟨gK, 0, none⟩ = some (.int .i64 k) := (hb.cells _ _ (by simp; omega)).trans (by first | (simp [go_sem, *]; done) | (rw [cell_alloc_before _ _ _ _ (by simp; omega), cell_alloc_before _ _ _ _ (by omega)]; with_reducible assumption)); have hx : Ext w w1 := Ext.trans (by repeat (first | exact Ext.refl _ | with_reducible assumption | apply Ext.alloc | apply Ext.drew | apply Ext.drewN | (refine Ext.setRow ?_ (by first | (simp; done) | (simp; omega) | omega) _) | (refine Ext.setCell ?_ (by first | (simp; done) | (simp; omega) | omega) _) | (refine Ext.trans ?_ (by with_reducible assumption)))) hb; clear hb)
  clear q0
  have hK : max w.heap.size (max gl gK) < w1.heap.size := by have := hx.le; omega
  go_wp2_with fail
  go_region_held3 (fun w' => w'.cell? ⟨w.heap.size, 0, none⟩ = some (.int .i64 e) ∧ w'.cell? ⟨w.heap.size, 1, none⟩ = some (.int .i64 f) ∧ w'.cell? ⟨gl, 0, none⟩ = some ((.iface 59 (.agg #[.int .i64 (a / pw (e + f)), .int .i64 ((odV (unitsV e f a)).natAbs : Int), .int .i64 (shE (unitsV e f a) (unV e f))]))) ∧ w'.cell? ⟨gK, 0, none⟩ = some (.int .i64 k) ∧ w'.cell? ⟨w1.heap.size, 0, none⟩ = some (.int .i64 (a / pw (e + f))) ∧ w'.cell? ⟨w1.heap.size, 1, none⟩ = some (.int .i64 ((odV (unitsV e f a)).natAbs : Int)) ∧ w'.cell? ⟨w1.heap.size, 2, none⟩ = some (.int .i64 (shE (unitsV e f a) (unV e f))) ∧ w1.heap.size < w'.heap.size) ((refine ⟨?_, ?_, ?_, ?_, ?_, ?_, ?_, ?_⟩ <;> first | with_reducible assumption | ((repeat first | rw [cell_set_far _ _ _ _ _ _ (by omega)] | rw [cell_alloc_before _ _ _ _ (by omega)] | rw [cell_alloc_drew _ _ _ _ (by omega)] | rw [cell_drew]); with_reducible assumption) | ((rw [cell_setRow_far _ _ _ _ _ (by omega)]); with_reducible assumption) | ((rw [setRow_size]); with_reducible assumption) | (simp; done) | (simp [World.setCell]; first | done | omega) | (simp [go_sem, World.cell?_alloc_past, World.cell?_setCell_far, *]; done))) ((first | (go_at_call 67; refine (CLC.out _ (by omega) (by first | with_reducible assumption | (simp [go_sem, *]; done))).mono ?_; rintro rv w3 ⟨rfl, hb⟩; have ns : w1.heap.size < w3.heap.size := hb.lt (by first | with_reducible assumption | omega | (simp; done) | (simp; omega)); have n0 : w3.cell? ⟨w.heap.size, 0, none⟩ = some (.int .i64 e) := (hb.cells _ _ (by first | with_reducible assumption | omega | (simp; done) | (simp; omega))).trans (by first | with_reducible assumption | (simp; done) | (simp; with_reducible assumption) | (rw [cell_alloc_before _ _ _ _ (by omega)]; with_reducible assumption) | (simp [go_sem, *]; done)); have n1 : w3.cell? ⟨w.heap.size, 1, none⟩ = some (.int .i64 f) := (hb.cells _ _ (by first | with_reducible assumption | omega | (simp; done) | (simp; omega))).trans (by first | with_reducible assumption | (simp; done) | (simp; with_reducible assumption) | (rw [cell_alloc_before _ _ _ _ (by omega)]; with_reducible assumption) | (simp [go_sem, *]; done)); have n2 : w3.cell? ⟨gl, 0, none⟩ = some ((.iface 59 (.agg #[.int .i64 (a / pw (e + f)), .int .i64 ((odV (unitsV e f a)).natAbs : Int), .int .i64 (shE (unitsV e f a) (unV e f))]))) := (hb.cells _ _ (by first | with_reducible assumption | omega | (simp; done) | (simp; omega))).trans (by first | with_reducible assumption | (simp; done) | (simp; with_reducible assumption) | (rw [cell_alloc_before _ _ _ _ (by omega)]; with_reducible assumption) | (simp [go_sem, *]; done)); have n3 : w3.cell? ⟨gK, 0, none⟩ = some (.int .i64 k) := (hb.cells _ _ (by first | with_reducible assumption | omega | (simp; done) | (simp; omega))).trans (by first | with_reducible assumption | (simp; done) | (simp; with_reducible assumption) | (rw [cell_alloc_before _ _ _ _ (by omega)]; with_reducible assumption) | (simp [go_sem, *]; done)); have n4 : w3.cell? ⟨w1.heap.size, 0, none⟩ = some (.int .i64 (a / pw (e + f))) := (hb.cells _ _ (by first | with_reducible assumption | omega | (simp; done) | (simp; omega))).trans (by first | with_reducible assumption | (simp; done) | (simp; with_reducible assumption) | (rw [cell_alloc_before _ _ _ _ (by omega)]; with_reducible assumption) | (simp [go_sem, *]; done)); have n5 : w3.cell? ⟨w1.heap.size, 1, none⟩ = some (.int .i64 ((odV (unitsV e f a)).natAbs : Int)) := (hb.cells _ _ (by first | with_reducible assumption | omega | (simp; done) | (simp; omega))).trans (by first | with_reducible assumption | (simp; done) | (simp; with_reducible assumption) | (rw [cell_alloc_before _ _ _ _ (by omega)]; with_reducible assumption) | (simp [go_sem, *]; done)); have n6 : w3.cell? ⟨w1.heap.size, 2, none⟩ = some (.int .i64 (shE (unitsV e f a) (unV e f))) := (hb.cells _ _ (by first | with_reducible assumption | omega | (simp; done) | (simp; omega))).trans (by first | with_reducible assumption | (simp; done) | (simp; with_reducible assumption) | (rw [cell_alloc_before _ _ _ _ (by omega)]; with_reducible assumption) | (simp [go_sem, *]; done)); (first | (have nx := Ext.trans hx hb; clear hx) | (have nx := Ext.trans (hx.alloc _) hb; clear hx) | (have nx := Ext.trans hx.drew hb; clear hx) | have nx := hb); clear hb; try clear hs; try clear g0; try clear g1; try clear g2; try clear g3; try clear g4; try clear g5; try clear g6; have hx := nx; clear nx; have hs := ns; clear ns; have g0 := n0; clear n0; have g1 := n1; clear n1; have g2 := n2; clear n2; have g3 := n3; clear n3; have g4 := n4; clear n4; have g5 := n5; clear n5; have g6 := n6; clear n6) | (go_at_call 104; refine (finRounded_any e f z1 z2 z3 mode hg hm v0 v1 j0 j1 m0 m1 _).mono ?_; rintro rv w3 ⟨s, rfl, hq, hb⟩; have HQ := Lib.hid hq; clear hq; have ns : w1.heap.size < w3.heap.size := hb.lt (by first | with_reducible assumption | omega | (simp; done) | (simp; omega)); have n0 : w3.cell? ⟨w.heap.size, 0, none⟩ = some (.int .i64 e) := (hb.cells _ _ (by first | with_reducible assumption | omega | (simp; done) | (simp; omega))).trans (by first | with_reducible assumption | (simp; done) | (simp; with_reducible assumption) | (rw [cell_alloc_before _ _ _ _ (by omega)]; with_reducible assumption) | (simp [go_sem, *]; done)); have n1 : w3.cell? ⟨w.heap.size, 1, none⟩ = some (.int .i64 f) := (hb.cells _ _ (by first | with_reducible assumption | omega | (simp; done) | (simp; omega))).trans (by first | with_reducible assumption | (simp; done) | (simp; with_reducible assumption) | (rw [cell_alloc_before _ _ _ _ (by omega)]; with_reducible assumption) | (simp [go_sem, *]; done)); have n2 : w3.cell? ⟨gl, 0, none⟩ = some ((.iface 59 (.agg #[.int .i64 (a / pw (e + f)), .int .i64 ((odV (unitsV e f a)).natAbs : Int), .int .i64 (shE (unitsV e f a) (unV e f))]))) := (hb.cells _ _ (by first | with_reducible assumption | omega | (simp; done) | (simp; omega))).trans (by first | with_reducible assumption | (simp; done) | (simp; with_reducible assumption) | (rw [cell_alloc_before _ _ _ _ (by omega)]; with_reducible assumption) | (simp [go_sem, *]; done)); have n3 : w3.cell? ⟨gK, 0, none⟩ = some (.int .i64 k) := (hb.cells _ _ (by first | with_reducible assumption | omega | (simp; done) | (simp; omega))).trans (by first | with_reducible assumption | (simp; done) | (simp; with_reducible assumption) | (rw [cell_alloc_before _ _ _ _ (by omega)]; with_reducible assumption) | (simp [go_sem, *]; done)); have n4 : w3.cell? ⟨w1.heap.size, 0, none⟩ = some (.int .i64 (a / pw (e + f))) := (hb.cells _ _ (by first | with_reducible assumption | omega | (simp; done) | (simp; omega))).trans (by first | with_reducible assumption | (simp; done) | (simp; with_reducible assumption) | (rw [cell_alloc_before _ _ _ _ (by omega)]; with_reducible assumption) | (simp [go_sem, *]; done)); have n5 : w3.cell? ⟨w1.heap.size, 1, none⟩ = some (.int .i64 ((odV (unitsV e f a)).natAbs : Int)) := (hb.cells _ _ (by first | with_reducible assumption | omega | (simp; done) | (simp; omega))).trans (by first | with_reducible assumption | (simp; done) | (simp; with_reducible assumption) | (rw [cell_alloc_before _ _ _ _ (by omega)]; with_reducible assumption) | (simp [go_sem, *]; done)); have n6 : w3.cell? ⟨w1.heap.size, 2, none⟩ = some (.int .i64 (shE (unitsV e f a) (unV e f))) := (hb.cells _ _ (by first | with_reducible assumption | omega | (simp; done) | (simp; omega))).trans (by first | with_reducible assumption | (simp; done) | (simp; with_reducible assumption) | (rw [cell_alloc_before _ _ _ _ (by omega)]; with_reducible assumption) | (simp [go_sem, *]; done)); (first | (have nx := Ext.trans hx hb; clear hx) | (have nx := Ext.trans (hx.alloc _) hb; clear hx) | (have nx := Ext.trans hx.drew hb; clear hx) | have nx := hb); clear hb; try clear hs; try clear g0; try clear g1; try clear g2; try clear g3; try clear g4; try clear g5; try clear g6; have hx := nx; clear nx; have hs := ns; clear ns; have g0 := n0; clear n0; have g1 := n1; clear n1; have g2 := n2; clear n2; have g3 := n3; clear n3; have g4 := n4; clear n4; have g5 := n5; clear n5; have g6 := n6; clear n6)))
  go_wp2_with fail
  go_ret2
  exact ⟨s, rfl, HQ.out, (by repeat (first | exact Ext.refl _ | with_reducible assumption | apply Ext.alloc | apply Ext.drew | apply Ext.drewN | (refine Ext.setRow ?_ (by first | (simp; done) | (simp; omega) | omega) _) | (refine Ext.setCell ?_ (by first | (simp; done) | (simp; omega) | omega) _) | (refine Ext.trans ?_ (by with_reducible assumption))))⟩
end Go.Proofs.YtafkcgpfllloiaaGreatDoor

