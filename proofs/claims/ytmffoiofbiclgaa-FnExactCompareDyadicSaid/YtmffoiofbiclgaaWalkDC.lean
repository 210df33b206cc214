/-
  Contracts of the functions that compare dyadic numbers and turn their signs, each under the conditions that its line names.
-/
import Derived.Test.YtmffoiofbiclgaaRows
import Derived.Test.YtmffoiofbiclgaaPlain
import Derived.Test.YtmffoiofbiclgaaBelow
import Derived.Test.YtmffoiofbiclgaaNear
import Derived.Test.YtmffoiofbiclgaaDy
import Derived.Test.YtmffoiofbiclgaaDyC
import Derived.Test.YtmffoiofbiclgaaWalkA
import Derived.Test.YtmffoiofbiclgaaWalkDA
import Derived.Test.YtmffoiofbiclgaaLen
import Derived.Test.YtmffoiofbiclgaaWalkDB
import Derived.WalkKit
import Derived.LoopTactic
import Derived.Laws.Bits64b
import Derived.WalkSpells
import Derived.WalkLawsBesides
import Derived.StillTactics
import Derived.Laws.Pointers
import Derived.Deep.RegionHeld3
import Derived.Deep.QuietTactic
import Derived.BigQuiet
import Derived.Outline
import Derived.Lib.Hide
import Derived.RowKit3
import Derived.Carry
import Derived.IntWalk
namespace Go.Proofs.Ytmffoiofbiclgaa
open Go Go.RowKit
set_option linter.unusedSimpArgs false
set_option linter.unusedVariables false

theorem quiet_sym {P : Program} {f : FuncId} {args : Array Value} {w : World} {n : Nat} {v : Value}
    (h : Calls P f args (w.drewN n) fun e w' => e = .returned v ∧ w.drewN n = w') : Calls P f args (w.drewN n) fun e w'' => e = .returned v ∧ ∃ m, w'' = w.drewN m :=
  h.mono fun _ _ ⟨he, hm⟩ => ⟨he, n, hm.symm⟩

theorem plV_abs (n : Int) : plV (n.natAbs : Int) = plV n := by unfold plV; simp

theorem sg_add2 (x y : Int) : -2 ≤ sgV x - sgV y ∧ sgV x - sgV y ≤ 2 := by have := sg_bd x; have := sg_bd y; omega

theorem cmp_of_sg {na ea nb eb : Int} (ha : dyB na ea = true) (hb : dyB nb eb = true) (h : sgV na ≠ sgV nb ∨ na = 0) : cmpD na ea nb eb = sgV (sgV na - sgV nb) := by
  obtain ⟨⟨a1, a2, a3, a4⟩, _⟩ := dy_iff.1 ha
  obtain ⟨⟨b1, b2, b3, b4⟩, _⟩ := dy_iff.1 hb
  have va := val_sg (n := na) a3
  have vb := val_sg (n := nb) b3
  unfold cmpD
  have z : sgV (0 : Int) = 0 := rfl
  rcases Int.lt_trichotomy (valD na ea) 0 with g | g | g <;> rcases Int.lt_trichotomy (valD nb eb) 0 with k | k | k
  · rw [sg_neg g] at va; rw [sg_neg k] at vb; rcases h with h | h
    · omega
    · subst h; rw [z] at va; omega
  · rw [sg_neg g] at va; rw [k, z] at vb; rw [sg_neg (by omega), ← va, ← vb]; rfl
  · rw [sg_neg g] at va; rw [sg_pos k] at vb; rw [sg_neg (by omega), ← va, ← vb]; rfl
  · rw [g, z] at va; rw [sg_neg k] at vb; rw [sg_pos (by omega), ← va, ← vb]; rfl
  · rw [g, z] at va; rw [k, z] at vb; rw [g, k, ← va, ← vb]
  · rw [g, z] at va; rw [sg_pos k] at vb; rw [sg_neg (by omega), ← va, ← vb]; rfl
  · rw [sg_pos g] at va; rw [sg_neg k] at vb; rw [sg_pos (by omega), ← va, ← vb]; rfl
  · rw [sg_pos g] at va; rw [k, z] at vb; rw [sg_pos (by omega), ← va, ← vb]; rfl
  · rw [sg_pos g] at va; rw [sg_pos k] at vb; rcases h with h | h
    · omega
    · subst h; rw [z] at va; omega

/-- The first place, if the signs are the same. -/
theorem cmp_of_place {na ea nb eb : Int} (ha : dyB na ea = true) (hb : dyB nb eb = true) (hs : sgV na = sgV nb) (h0 : na ≠ 0) (h : plV na + ea ≠ plV nb + eb) : cmpD na ea nb eb = sgV (plV na + ea - (plV nb + eb)) * sgV na := by
  rcases Int.lt_or_gt_of_ne h0 with g | g
  · have s : sgV na = -1 := sg_neg g
    have ht : topV na ea ≠ topV nb eb := by unfold topV; rw [← hs, s]; omega
    rw [cmp_top ha hb ht]
    unfold topV
    rw [← hs, s]
    rcases Int.lt_or_gt_of_ne h with k | k
    · rw [sg_pos (by omega), sg_neg (by omega)]; rfl
    · rw [sg_neg (by omega), sg_pos (by omega)]; rfl
  · have s : sgV na = 1 := sg_pos g
    have ht : topV na ea ≠ topV nb eb := by unfold topV; rw [← hs, s]; omega
    rw [cmp_top ha hb ht]
    unfold topV
    rw [← hs, s, Int.mul_one]
    congr 1
    omega

theorem low_fits2 {na ea nb eb : Int} (ha : dyB na ea = true) (hb : dyB nb eb = true) (hs : sgV na = sgV nb) (h : plV na + ea = plV nb + eb) :
    (-2251799813685248 ≤ na * pw (ea - min ea eb) ∧ na * pw (ea - min ea eb) ≤ 2251799813685248 ∧ ea - min ea eb ≤ 200) ∧
    (-2251799813685248 ≤ nb * pw (eb - min ea eb) ∧ nb * pw (eb - min ea eb) ≤ 2251799813685248 ∧ eb - min ea eb ≤ 200) := by
  have e : topV na ea = topV nb eb := by unfold topV; rw [hs]; congr 1; omega
  refine ⟨low_fits ha hb e, ?_⟩
  have := low_fits hb ha e.symm
  rwa [show min eb ea = min ea eb by omega] at this

theorem low_few {na ea nb eb : Int} (ha : dyB na ea = true) (hb : dyB nb eb = true) (h0 : na ≠ 0) (h1 : nb ≠ 0) (h : plV na + ea = plV nb + eb) :
    0 ≤ ea - min ea eb ∧ ea - min ea eb ≤ 51 ∧ 0 ≤ eb - min ea eb ∧ eb - min ea eb ≤ 51 := by
  obtain ⟨⟨a1, a2, a3, a4⟩, _⟩ := dy_iff.1 ha
  obtain ⟨⟨b1, b2, b3, b4⟩, _⟩ := dy_iff.1 hb
  have := (top_bd ha).2.2; have := (top_bd hb).2.2
  have := (pl_bd na h0 (by omega) (by omega)).1
  have := (pl_bd nb h1 (by omega) (by omega)).1
  omega

set_option maxHeartbeats 800000 in
theorem rdCompare_sg (na ea nb eb : Int) (ha : dyB na ea = true) (hb : dyB nb eb = true) (h : sgV na ≠ sgV nb) (w : World) : Calls Try.prog 17 #[two na ea, two nb eb] w fun rv w' => rv = .returned (.int .i64 (cmpD na ea nb eb)) ∧ Ext w w' := by
  obtain ⟨⟨a1, a2, a3, a4⟩, _⟩ := dy_iff.1 ha
  obtain ⟨⟨b1, b2, b3, b4⟩, _⟩ := dy_iff.1 hb
  have hk := cmp_of_sg ha hb (Or.inl h)
  have Hk := Lib.hid hk; clear hk
  have hd : (sgV na == sgV nb) = false := by simpa using h
  have hd2 : (sgV na != sgV nb) = true := by simpa using h
  have r := sg_add2 na nb
  have k1 : IntKind.i64.wrap (sgV na - sgV nb) = sgV na - sgV nb := IntWalk.i64_in _ (by omega)
  go_enter Try.func17, Try.ntmps17
  go_wp2_with fail
  go_quiet ((first | (go_at_call 21; exact quiet_sym (rdSignOf_any _ _))))
  go_wp2_with fail
  go_region_held3 (fun w' => w'.cell? ⟨w.heap.size, 0, none⟩ = some (.int .i64 na) ∧ w'.cell? ⟨w.heap.size, 1, none⟩ = some (.int .i64 ea) ∧ w'.cell? ⟨w.heap.size + 1, 0, none⟩ = some (.int .i64 nb) ∧ w'.cell? ⟨w.heap.size + 1, 1, none⟩ = some (.int .i64 eb) ∧ w.heap.size + 1 < w'.heap.size) ((refine ⟨?_, ?_, ?_, ?_, ?_⟩ <;> first | with_reducible assumption | ((rw [cell_setRow_far _ _ _ _ _ (by omega)]); with_reducible assumption) | ((rw [setRow_size]); with_reducible assumption) | ((repeat rw [World.cell?_setCell_far _ _ _ _ (by simp)]); with_reducible assumption) | (simp; done) | (simp [World.setCell]; first | done | omega) | (simp [go_sem, World.cell?_alloc_past, World.cell?_setCell_far, *]; done))) ((first | (go_at_call 21; refine (rdSignOf_any _ _).mono ?_; rintro rv w1 ⟨rfl, rfl⟩)))
  go_wp2_with fail
  go_ret
  exact ⟨ret_int Hk.out.symm, (by repeat (first | exact Ext.refl _ | with_reducible assumption | apply Ext.alloc | apply Ext.drew | apply Ext.drewN | (refine Ext.setRow ?_ (by simp) _) | (refine Ext.setCell ?_ (by simp) _) | (refine Ext.trans ?_ (by with_reducible assumption))))⟩

set_option maxHeartbeats 800000 in
theorem rdCompare_zero (na ea nb eb : Int) (ha : dyB na ea = true) (hb : dyB nb eb = true) (h : sgV na = sgV nb) (h0 : na = 0) (w : World) : Calls Try.prog 17 #[two na ea, two nb eb] w fun rv w' => rv = .returned (.int .i64 (cmpD na ea nb eb)) ∧ Ext w w' := by
  obtain ⟨⟨a1, a2, a3, a4⟩, _⟩ := dy_iff.1 ha
  obtain ⟨⟨b1, b2, b3, b4⟩, _⟩ := dy_iff.1 hb
  have hk := cmp_of_sg ha hb (Or.inr h0)
  have Hk := Lib.hid hk; clear hk
  have hd : (sgV na == sgV nb) = true := by simpa using h
  have hd2 : (sgV na != sgV nb) = false := by simpa using h
  have hd3 : (na == 0) = true := by simpa using h0
  have r := sg_add2 na nb
  have k1 : IntKind.i64.wrap (sgV na - sgV nb) = sgV na - sgV nb := IntWalk.i64_in _ (by omega)
  clear h h0
  go_enter Try.func17, Try.ntmps17
  go_wp2_with fail
  go_quiet ((first | (go_at_call 21; exact quiet_sym (rdSignOf_any _ _))))
  go_wp2_with fail
  go_region_held3 (fun w' => w'.cell? ⟨w.heap.size, 0, none⟩ = some (.int .i64 na) ∧ w'.cell? ⟨w.heap.size, 1, none⟩ = some (.int .i64 ea) ∧ w'.cell? ⟨w.heap.size + 1, 0, none⟩ = some (.int .i64 nb) ∧ w'.cell? ⟨w.heap.size + 1, 1, none⟩ = some (.int .i64 eb) ∧ w.heap.size + 1 < w'.heap.size) ((refine ⟨?_, ?_, ?_, ?_, ?_⟩ <;> first | with_reducible assumption | ((rw [cell_setRow_far _ _ _ _ _ (by omega)]); with_reducible assumption) | ((rw [setRow_size]); with_reducible assumption) | ((repeat rw [World.cell?_setCell_far _ _ _ _ (by simp)]); with_reducible assumption) | (simp; done) | (simp [World.setCell]; first | done | omega) | (simp [go_sem, World.cell?_alloc_past, World.cell?_setCell_far, *]; done))) ((first | (go_at_call 21; refine (rdSignOf_any _ _).mono ?_; rintro rv w1 ⟨rfl, rfl⟩)))
  go_wp2_with fail
  go_ret
  exact ⟨ret_int Hk.out.symm, (by repeat (first | exact Ext.refl _ | with_reducible assumption | apply Ext.alloc | apply Ext.drew | apply Ext.drewN | (refine Ext.setRow ?_ (by simp) _) | (refine Ext.setCell ?_ (by simp) _) | (refine Ext.trans ?_ (by with_reducible assumption))))⟩

theorem sg_nz {na nb : Int} (h : sgV na = sgV nb) (h0 : na ≠ 0) : nb ≠ 0 := by
  intro hb
  subst hb
  rcases Int.lt_or_gt_of_ne h0 with g | g
  · rw [sg_neg g] at h; cases h
  · rw [sg_pos g] at h; cases h

set_option maxHeartbeats 800000 in
theorem rdCompare_place (na ea nb eb : Int) (ha : dyB na ea = true) (hb : dyB nb eb = true) (h : sgV na = sgV nb) (h0 : na ≠ 0) (h5 : plV na + ea ≠ plV nb + eb) (w : World) : Calls Try.prog 17 #[two na ea, two nb eb] w fun rv w' => rv = .returned (.int .i64 (cmpD na ea nb eb)) ∧ Ext w w' := by
  obtain ⟨⟨a1, a2, a3, a4⟩, _⟩ := dy_iff.1 ha
  obtain ⟨⟨b1, b2, b3, b4⟩, _⟩ := dy_iff.1 hb
  have hk := cmp_of_place ha hb h h0 h5
  have Hk := Lib.hid hk; clear hk
  have hd : (sgV na == sgV nb) = true := by simpa using h
  have hd2 : (sgV na != sgV nb) = false := by simpa using h
  have hd3 : (na == 0) = false := by simpa using h0
  have hd4 : (plV na + ea == plV nb + eb) = false := by simpa using h5
  have hd5 : (plV na + ea != plV nb + eb) = true := by simpa using h5
  have pa := (top_bd ha).2.2
  have pb := (top_bd hb).2.2
  have ra := sg_bd (plV na + ea - (plV nb + eb))
  have rb := sg_bd na
  have m1 : -1 ≤ sgV (plV na + ea - (plV nb + eb)) * sgV na ∧ sgV (plV na + ea - (plV nb + eb)) * sgV na ≤ 1 := by
    rw [← Hk.out]; exact sg_bd _
  have pa1 := pa.1; have pa2 := pa.2; have pb1 := pb.1; have pb2 := pb.2
  have m2 := m1.1; have m3 := m1.2
  have k1 : IntKind.i64.wrap (plV na + ea) = plV na + ea := IntWalk.i64_in _ (by omega)
  have k2 : IntKind.i64.wrap (plV nb + eb) = plV nb + eb := IntWalk.i64_in _ (by omega)
  have k3 : IntKind.i64.wrap (plV na + ea - (plV nb + eb)) = plV na + ea - (plV nb + eb) := IntWalk.i64_in _ (by omega)
  have k4 : IntKind.i64.wrap (sgV (plV na + ea - (plV nb + eb)) * sgV na) = sgV (plV na + ea - (plV nb + eb)) * sgV na := IntWalk.i64_in _ (by omega)
  clear h h0 h5 m1 pa pb
  go_enter Try.func17, Try.ntmps17
  go_wp2_with fail
  go_quiet ((first | (go_at_call 21; exact quiet_sym (rdSignOf_any _ _))))
  go_wp2_with fail
  go_region_held3 (fun w' => w'.cell? ⟨w.heap.size, 0, none⟩ = some (.int .i64 na) ∧ w'.cell? ⟨w.heap.size, 1, none⟩ = some (.int .i64 ea) ∧ w'.cell? ⟨w.heap.size + 1, 0, none⟩ = some (.int .i64 nb) ∧ w'.cell? ⟨w.heap.size + 1, 1, none⟩ = some (.int .i64 eb) ∧ w.heap.size + 1 < w'.heap.size) ((refine ⟨?_, ?_, ?_, ?_, ?_⟩ <;> first | with_reducible assumption | ((rw [cell_setRow_far _ _ _ _ _ (by omega)]); with_reducible assumption) | ((rw [setRow_size]); with_reducible assumption) | ((repeat rw [World.cell?_setCell_far _ _ _ _ (by simp)]); with_reducible assumption) | (simp; done) | (simp [World.setCell]; first | done | omega) | (simp [go_sem, World.cell?_alloc_past, World.cell?_setCell_far, *]; done))) ((first | (go_at_call 23; refine (l1Abs_any _ (by omega) (by omega) _).mono ?_; rintro rv w1 ⟨rfl, rfl⟩) | (go_at_call 22; refine (rdBits_any _ (by omega) (by omega) _).mono ?_; rintro rv w1 ⟨rfl, rfl⟩; (try rw [plV_abs]))))
  go_wp2_with fail
  go_region_held3 (fun w' => w'.cell? ⟨w.heap.size, 0, none⟩ = some (.int .i64 na) ∧ w'.cell? ⟨w.heap.size, 1, none⟩ = some (.int .i64 ea) ∧ w'.cell? ⟨w.heap.size + 1, 0, none⟩ = some (.int .i64 nb) ∧ w'.cell? ⟨w.heap.size + 1, 1, none⟩ = some (.int .i64 eb) ∧ w.heap.size + 1 < w'.heap.size) ((refine ⟨?_, ?_, ?_, ?_, ?_⟩ <;> first | with_reducible assumption | ((rw [cell_setRow_far _ _ _ _ _ (by omega)]); with_reducible assumption) | ((rw [setRow_size]); with_reducible assumption) | ((repeat rw [World.cell?_setCell_far _ _ _ _ (by simp)]); with_reducible assumption) | (simp; done) | (simp [World.setCell]; first | done | omega) | (simp [go_sem, World.cell?_alloc_past, World.cell?_setCell_far, *]; done))) ((first | (go_at_call 21; refine (rdSignOf_any _ _).mono ?_; rintro rv w1 ⟨rfl, rfl⟩)))
  go_wp2_with fail
  go_ret
  exact ⟨ret_int Hk.out.symm, (by repeat (first | exact Ext.refl _ | with_reducible assumption | apply Ext.alloc | apply Ext.drew | apply Ext.drewN | (refine Ext.setRow ?_ (by simp) _) | (refine Ext.setCell ?_ (by simp) _) | (refine Ext.trans ?_ (by with_reducible assumption))))⟩

set_option maxHeartbeats 1600000 in
theorem rdCompare_low (na ea nb eb : Int) (ha : dyB na ea = true) (hb : dyB nb eb = true) (h : sgV na = sgV nb) (h0 : na ≠ 0) (h5 : plV na + ea = plV nb + eb) (w : World) : Calls Try.prog 17 #[two na ea, two nb eb] w fun rv w' => rv = .returned (.int .i64 (cmpD na ea nb eb)) ∧ Ext w w' := by
  obtain ⟨⟨a1, a2, a3, a4⟩, _⟩ := dy_iff.1 ha
  obtain ⟨⟨b1, b2, b3, b4⟩, _⟩ := dy_iff.1 hb
  have hk := cmp_low (na := na) (ea := ea) (nb := nb) (eb := eb) (l := min ea eb) (by omega) (by omega) (by omega)
  have Hk := Lib.hid hk; clear hk
  obtain ⟨⟨f1, f2, _⟩, ⟨f3, f4, _⟩⟩ := low_fits2 ha hb h h5
  obtain ⟨f5, f6, f7, f8⟩ := low_few ha hb h0 (sg_nz h h0) h5
  have hd : (sgV na == sgV nb) = true := by simpa using h
  have hd2 : (sgV na != sgV nb) = false := by simpa using h
  have hd3 : (na == 0) = false := by simpa using h0
  have hd4 : (plV na + ea == plV nb + eb) = true := by simpa using h5
  have hd5 : (plV na + ea != plV nb + eb) = false := by simpa using h5
  have pa := (top_bd ha).2.2
  have pb := (top_bd hb).2.2
  have pa1 := pa.1; have pa2 := pa.2; have pb1 := pb.1; have pb2 := pb.2
  have k1 : IntKind.i64.wrap (plV na + ea) = plV na + ea := IntWalk.i64_in _ (by omega)
  have k2 : IntKind.i64.wrap (plV nb + eb) = plV nb + eb := IntWalk.i64_in _ (by omega)
  have k3 : IntKind.i64.wrap (ea - min ea eb) = ea - min ea eb := IntWalk.i64_in _ (by omega)
  have k4 : IntKind.i64.wrap (eb - min ea eb) = eb - min ea eb := IntWalk.i64_in _ (by omega)
  have k5 : IntKind.i64.wrap (na * pw (ea - min ea eb)) = na * pw (ea - min ea eb) := IntWalk.i64_in _ (by omega)
  have k6 : IntKind.i64.wrap (nb * pw (eb - min ea eb)) = nb * pw (eb - min ea eb) := IntWalk.i64_in _ (by omega)
  have k7 : IntKind.i64.wrap (na * pw (ea - min ea eb) - nb * pw (eb - min ea eb)) = na * pw (ea - min ea eb) - nb * pw (eb - min ea eb) := IntWalk.i64_in _ (by omega)
  clear h h0 h5 pa pb
  go_enter Try.func17, Try.ntmps17
  go_wp2_with fail
  go_quiet ((first | (go_at_call 21; exact quiet_sym (rdSignOf_any _ _))))
  go_wp2_with fail
  go_region_held3 (fun w' => w'.cell? ⟨w.heap.size, 0, none⟩ = some (.int .i64 na) ∧ w'.cell? ⟨w.heap.size, 1, none⟩ = some (.int .i64 ea) ∧ w'.cell? ⟨w.heap.size + 1, 0, none⟩ = some (.int .i64 nb) ∧ w'.cell? ⟨w.heap.size + 1, 1, none⟩ = some (.int .i64 eb) ∧ w.heap.size + 1 < w'.heap.size) ((refine ⟨?_, ?_, ?_, ?_, ?_⟩ <;> first | with_reducible assumption | ((rw [cell_setRow_far _ _ _ _ _ (by omega)]); with_reducible assumption) | ((rw [setRow_size]); with_reducible assumption) | ((repeat rw [World.cell?_setCell_far _ _ _ _ (by simp)]); with_reducible assumption) | (simp; done) | (simp [World.setCell]; first | done | omega) | (simp [go_sem, World.cell?_alloc_past, World.cell?_setCell_far, *]; done))) ((first | (go_at_call 23; refine (l1Abs_any _ (by omega) (by omega) _).mono ?_; rintro rv w1 ⟨rfl, rfl⟩) | (go_at_call 22; refine (rdBits_any _ (by omega) (by omega) _).mono ?_; rintro rv w1 ⟨rfl, rfl⟩; (try rw [plV_abs]))))
  go_wp2_with (go_at_call 24; refine (l1Least_any _ _ _).mono ?_; rintro rv w1 ⟨rfl, rfl⟩)
  go_region_held3 (fun w' => w'.cell? ⟨w.heap.size, 0, none⟩ = some (.int .i64 na) ∧ w'.cell? ⟨w.heap.size, 1, none⟩ = some (.int .i64 ea) ∧ w'.cell? ⟨w.heap.size + 1, 0, none⟩ = some (.int .i64 nb) ∧ w'.cell? ⟨w.heap.size + 1, 1, none⟩ = some (.int .i64 eb) ∧ w.heap.size + 1 < w'.heap.size) ((refine ⟨?_, ?_, ?_, ?_, ?_⟩ <;> first | with_reducible assumption | ((rw [cell_setRow_far _ _ _ _ _ (by omega)]); with_reducible assumption) | ((rw [setRow_size]); with_reducible assumption) | ((repeat rw [World.cell?_setCell_far _ _ _ _ (by simp)]); with_reducible assumption) | (simp; done) | (simp [World.setCell]; first | done | omega) | (simp [go_sem, World.cell?_alloc_past, World.cell?_setCell_far, *]; done))) ((first | (go_at_call 25; refine (rdPower_any _ (by omega) (by omega) _).mono ?_; rintro rv w1 ⟨rfl, rfl⟩) | (go_at_call 21; refine (rdSignOf_any _ _).mono ?_; rintro rv w1 ⟨rfl, rfl⟩)))
  go_wp2_with fail
  go_ret
  exact ⟨ret_int Hk.out.symm, (by repeat (first | exact Ext.refl _ | with_reducible assumption | apply Ext.alloc | apply Ext.drew | apply Ext.drewN | (refine Ext.setRow ?_ (by simp) _) | (refine Ext.setCell ?_ (by simp) _) | (refine Ext.trans ?_ (by with_reducible assumption))))⟩

end Go.Proofs.Ytmffoiofbiclgaa
