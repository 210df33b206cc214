/-
  Contracts of the functions that the laws reach, and the plain facts that they rest on, each under the conditions that its line names; part 29.
-/
import Derived.Test.YtfgbndjhaiigbabDoorKyb1
import Derived.Test.YtfgbndjhaiigbabDoorKyb2
import Derived.Test.YtfgbndjhaiigbabDoorKyb3
import Derived.Test.YtfgbndjhaiigbabDoorKyb4
import Derived.Test.YtfgbndjhaiigbabDoorKyb5
import Derived.Test.YtfgbndjhaiigbabDoorKyb6
import Derived.Test.YtfgbndjhaiigbabDoorKyb7
import Derived.Test.YtfgbndjhaiigbabDoorKyb8
import Derived.Test.YtfgbndjhaiigbabDoorKyb9
import Derived.Test.YtfgbndjhaiigbabDoorKyb10
import Derived.Test.YtfgbndjhaiigbabDoorKyb11
import Derived.Test.YtfgbndjhaiigbabDoorKyb12
import Derived.Test.YtfgbndjhaiigbabDoorKyb13
import Derived.Test.YtfgbndjhaiigbabDoorKyb14
import Derived.Test.YtfgbndjhaiigbabDoorKyb15
import Derived.Test.YtfgbndjhaiigbabDoorKyb16
import Derived.Test.YtfgbndjhaiigbabDoorKyb17
import Derived.Test.YtfgbndjhaiigbabDoorKyb18
import Derived.Test.YtfgbndjhaiigbabDoorKyb19
import Derived.Test.YtfgbndjhaiigbabDoorKyb20
import Derived.Test.YtfgbndjhaiigbabDoorKyb21
import Derived.Test.YtfgbndjhaiigbabDoorKyb27
import Derived.Test.YtfgbndjhaiigbabDoorKyb28
import Derived.Test.YtfgbndjhaiigbabDoorRows
import Derived.WalkKit
import Derived.LoopTactic
import Derived.Deep.OwnRows
import Derived.LoopN
import Derived.Deep.LoopGhost
import Derived.Laws.Bits64b
import Derived.WalkSpells
import Derived.WalkLawsBesides
import Derived.StillTactics
import Derived.Laws.Pointers
import Derived.Deep.RegionHeld3
import Derived.Deep.QuietTactic
import Derived.BigQuiet
import Derived.Outline
import Derived.Lib.Hide
import Derived.RowKit3
import Derived.Carry
import Derived.IntWalk
namespace Go.Proofs.YtfgbndjhaiigbabDoor
open Go Go.RowKit
set_option linter.unusedSimpArgs false
set_option linter.unusedVariables false
set_option maxRecDepth 100000

theorem ext_add {w w' : World} {a : Addr} (h : Ext w w') (ha : a.block < w.heap.size) (i : Nat) : w'.cell? (a.add i) = w.cell? (a.add i) :=
  Below.cell (p := a.add i) h (by have e : (a.add i).block = a.block := (by unfold Addr.add; split <;> rfl)
                                  rw [e]; exact ha)

theorem exList_long (e f : Int) (V : Nat → Int) (a : Addr) (n cap : Nat) (hn : 12 < n) (w : World) : Calls Tryd.prog 46 #[fmt e f, .slice (some a) n cap] w fun rv w' => rv = .returned (.bool false) ∧ Ext w w' := by
  have h1 : (12 : Int) < (n : Int) := by omega
  go_enter Tryd.func46, Tryd.ntmps46
  go_wp2
  go_ret
  exact ⟨rfl, (by repeat (first | exact Ext.refl _ | with_reducible assumption | apply Ext.alloc | apply Ext.drew | apply Ext.drewN | (refine Ext.setRow ?_ (by first | (simp; done) | (simp; omega) | omega) _) | (refine Ext.setCell ?_ (by first | (simp; done) | (simp; omega) | omega) _) | (refine Ext.trans ?_ (by with_reducible assumption))))⟩

set_option maxHeartbeats 1600000 in
theorem exList_all (e f : Int) (V : Nat → Int) (a : Addr) (n cap : Nat) (hn : n ≤ 12) (hV : ∀ i, i < n → finB e f (V i) = true) (w : World) (hc : ∀ i, i < n → w.cell? (a.add i) = some (.int .i64 (V i))) (ha : a.block < w.heap.size) : Calls Tryd.prog 46 #[fmt e f, .slice (some a) n cap] w fun rv w' => rv = .returned (.bool (goodB e f)) ∧ Ext w w' := by
  have h12 : ¬ (12 : Int) < (n : Int) := by omega
  go_enter Tryd.func46, Tryd.ntmps46
  go_wp2
  go_loopw [12] (fun x wr => ∃ k : Nat, x = .int .i64 (k : Int) ∧ k ≤ n ∧ w.heap.size < wr.heap.size ∧ wr.cell? ⟨w.heap.size, 0, none⟩ = some (.int .i64 e) ∧ wr.cell? ⟨w.heap.size, 1, none⟩ = some (.int .i64 f) ∧ Ext w wr) (fun x _ => n - (intOf x).toNat)
  case atStart => exact ⟨0, rfl, by omega, by simp, by simp [go_sem], by simp [go_sem], Ext.new _ _⟩
  case round =>
    obtain ⟨k, rfl, hk, hs, g0, g1, hx⟩ := hrel
    by_cases hlt : k < n
    · have hlt2 : k < n := hlt
      have h1 : ((k : Nat) : Int) < (n : Int) := by omega
      have h0 : (0 : Int) ≤ (k : Int) := by omega
      have h2 : ((k : Int)).toNat = k := by omega
      have u1 : IntKind.i64.wrap ((k : Int) + 1) = (k : Int) + 1 := IntWalk.i64_in _ (by omega)
      have e0 : (a.add k).block = a.block := (by unfold Addr.add; split <;> rfl)
      have ga : wr.cell? (a.add k) = some (.int .i64 (V k)) := (Below.cell (p := a.add k) hx (by rw [e0]; exact ha)).trans (hc k hlt2)
      have hVk := hV k hlt
      have FF := Lib.hid (fun w => fmFinite_any e f (V k) w)
      rw [hVk] at FF
      go_wp2_with (go_at_call 60; refine (FF.out _).mono ?_; rintro rv w1 ⟨rfl, hb⟩; have ns : w.heap.size < w1.heap.size := hb.lt (by first | with_reducible assumption | omega | (simp; done) | (simp; omega)); have n0 : w1.cell? ⟨w.heap.size, 0, none⟩ = some (.int .i64 e) := (hb.cells _ _ (by first | with_reducible assumption | omega | (simp; done) | (simp; omega))).trans (by first | with_reducible assumption | (simp; done) | (simp; with_reducible assumption) | (rw [cell_alloc_before _ _ _ _ (by omega)]; with_reducible assumption) | (simp [go_sem, *]; done)); have n1 : w1.cell? ⟨w.heap.size, 1, none⟩ = some (.int .i64 f) := (hb.cells _ _ (by first | with_reducible assumption | omega | (simp; done) | (simp; omega))).trans (by first | with_reducible assumption | (simp; done) | (simp; with_reducible assumption) | (rw [cell_alloc_before _ _ _ _ (by omega)]; with_reducible assumption) | (simp [go_sem, *]; done)); (first | (have nx := Ext.trans hx hb; clear hx) | (have nx := Ext.trans (hx.alloc _) hb; clear hx) | (have nx := Ext.trans hx.drew hb; clear hx) | have nx := hb); clear hb; try clear hs; try clear g0; try clear g1; have hx := nx; clear nx; have hs := ns; clear ns; have g0 := n0; clear n0; have g1 := n1; clear n1)
      go_roundw
      case rel => exact ⟨k + 1, by simp, by omega, by with_reducible assumption, by with_reducible assumption, by with_reducible assumption, by with_reducible assumption⟩
      case measure => simp [intOf]; omega
    · have h1 : ¬ ((k : Nat) : Int) < (n : Int) := by omega
      go_wp2_with (go_at_call 98; refine (fmGood_any e f _).mono ?_; rintro rv w1 ⟨rfl, hb⟩; have ns : w.heap.size < w1.heap.size := hb.lt (by first | with_reducible assumption | omega | (simp; done) | (simp; omega)); have n0 : w1.cell? ⟨w.heap.size, 0, none⟩ = some (.int .i64 e) := (hb.cells _ _ (by first | with_reducible assumption | omega | (simp; done) | (simp; omega))).trans (by first | with_reducible assumption | (simp; done) | (simp; with_reducible assumption) | (rw [cell_alloc_before _ _ _ _ (by omega)]; with_reducible assumption) | (simp [go_sem, *]; done)); have n1 : w1.cell? ⟨w.heap.size, 1, none⟩ = some (.int .i64 f) := (hb.cells _ _ (by first | with_reducible assumption | omega | (simp; done) | (simp; omega))).trans (by first | with_reducible assumption | (simp; done) | (simp; with_reducible assumption) | (rw [cell_alloc_before _ _ _ _ (by omega)]; with_reducible assumption) | (simp [go_sem, *]; done)); (first | (have nx := Ext.trans hx hb; clear hx) | (have nx := Ext.trans (hx.alloc _) hb; clear hx) | (have nx := Ext.trans hx.drew hb; clear hx) | have nx := hb); clear hb; try clear hs; try clear g0; try clear g1; have hx := nx; clear nx; have hs := ns; clear ns; have g0 := n0; clear n0; have g1 := n1; clear n1)
      go_ret
      exact ⟨rfl, (by repeat (first | exact Ext.refl _ | with_reducible assumption | apply Ext.alloc | apply Ext.drew | apply Ext.drewN | (refine Ext.setRow ?_ (by first | (simp; done) | (simp; omega) | omega) _) | (refine Ext.setCell ?_ (by first | (simp; done) | (simp; omega) | omega) _) | (refine Ext.trans ?_ (by with_reducible assumption))))⟩

set_option maxHeartbeats 1600000 in
theorem exList_stop (e f : Int) (V : Nat → Int) (a : Addr) (n cap : Nat) (hn : n ≤ 12) (m : Nat) (hm : m < n) (hV : ∀ i, i < m → finB e f (V i) = true) (hb2 : finB e f (V m) = false) (w : World) (hc : ∀ i, i < n → w.cell? (a.add i) = some (.int .i64 (V i))) (ha : a.block < w.heap.size) : Calls Tryd.prog 46 #[fmt e f, .slice (some a) n cap] w fun rv w' => rv = .returned (.bool false) ∧ Ext w w' := by
  have h12 : ¬ (12 : Int) < (n : Int) := by omega
  go_enter Tryd.func46, Tryd.ntmps46
  go_wp2
  go_loopw [12] (fun x wr => ∃ k : Nat, x = .int .i64 (k : Int) ∧ k ≤ m ∧ w.heap.size < wr.heap.size ∧ wr.cell? ⟨w.heap.size, 0, none⟩ = some (.int .i64 e) ∧ wr.cell? ⟨w.heap.size, 1, none⟩ = some (.int .i64 f) ∧ Ext w wr) (fun x _ => n - (intOf x).toNat)
  case atStart => exact ⟨0, rfl, by omega, by simp, by simp [go_sem], by simp [go_sem], Ext.new _ _⟩
  case round =>
    obtain ⟨k, rfl, hk, hs, g0, g1, hx⟩ := hrel
    have hlt2 : k < n := by omega
    have h1 : ((k : Nat) : Int) < (n : Int) := by omega
    have h0 : (0 : Int) ≤ (k : Int) := by omega
    have h2 : ((k : Int)).toNat = k := by omega
    have u1 : IntKind.i64.wrap ((k : Int) + 1) = (k : Int) + 1 := IntWalk.i64_in _ (by omega)
    have e0 : (a.add k).block = a.block := (by unfold Addr.add; split <;> rfl)
    have ga : wr.cell? (a.add k) = some (.int .i64 (V k)) := (Below.cell (p := a.add k) hx (by rw [e0]; exact ha)).trans (hc k hlt2)
    by_cases hlt : k < m
    · have hVk := hV k hlt
      have FF := Lib.hid (fun w => fmFinite_any e f (V k) w)
      rw [hVk] at FF
      go_wp2_with (go_at_call 60; refine (FF.out _).mono ?_; rintro rv w1 ⟨rfl, hb⟩; have ns : w.heap.size < w1.heap.size := hb.lt (by first | with_reducible assumption | omega | (simp; done) | (simp; omega)); have n0 : w1.cell? ⟨w.heap.size, 0, none⟩ = some (.int .i64 e) := (hb.cells _ _ (by first | with_reducible assumption | omega | (simp; done) | (simp; omega))).trans (by first | with_reducible assumption | (simp; done) | (simp; with_reducible assumption) | (rw [cell_alloc_before _ _ _ _ (by omega)]; with_reducible assumption) | (simp [go_sem, *]; done)); have n1 : w1.cell? ⟨w.heap.size, 1, none⟩ = some (.int .i64 f) := (hb.cells _ _ (by first | with_reducible assumption | omega | (simp; done) | (simp; omega))).trans (by first | with_reducible assumption | (simp; done) | (simp; with_reducible assumption) | (rw [cell_alloc_before _ _ _ _ (by omega)]; with_reducible assumption) | (simp [go_sem, *]; done)); (first | (have nx := Ext.trans hx hb; clear hx) | (have nx := Ext.trans (hx.alloc _) hb; clear hx) | (have nx := Ext.trans hx.drew hb; clear hx) | have nx := hb); clear hb; try clear hs; try clear g0; try clear g1; have hx := nx; clear nx; have hs := ns; clear ns; have g0 := n0; clear n0; have g1 := n1; clear n1)
      go_roundw
      case rel => exact ⟨k + 1, by simp, by omega, by with_reducible assumption, by with_reducible assumption, by with_reducible assumption, by with_reducible assumption⟩
      case measure => simp [intOf]; omega
    · have hkm : k = m := by omega
      subst hkm
      have FF := Lib.hid (fun w => fmFinite_any e f (V k) w)
      rw [hb2] at FF
      go_wp2_with (go_at_call 60; refine (FF.out _).mono ?_; rintro rv w1 ⟨rfl, hb⟩; have ns : w.heap.size < w1.heap.size := hb.lt (by first | with_reducible assumption | omega | (simp; done) | (simp; omega)); have n0 : w1.cell? ⟨w.heap.size, 0, none⟩ = some (.int .i64 e) := (hb.cells _ _ (by first | with_reducible assumption | omega | (simp; done) | (simp; omega))).trans (by first | with_reducible assumption | (simp; done) | (simp; with_reducible assumption) | (rw [cell_alloc_before _ _ _ _ (by omega)]; with_reducible assumption) | (simp [go_sem, *]; done)); have n1 : w1.cell? ⟨w.heap.size, 1, none⟩ = some (.int .i64 f) := (hb.cells _ _ (by first | with_reducible assumption | omega | (simp; done) | (simp; omega))).trans (by first | with_reducible assumption | (simp; done) | (simp; with_reducible assumption) | (rw [cell_alloc_before _ _ _ _ (by omega)]; with_reducible assumption) | (simp [go_sem, *]; done)); (first | (have nx := Ext.trans hx hb; clear hx) | (have nx := Ext.trans (hx.alloc _) hb; clear hx) | (have nx := Ext.trans hx.drew hb; clear hx) | have nx := hb); clear hb; try clear hs; try clear g0; try clear g1; have hx := nx; clear nx; have hs := ns; clear ns; have g0 := n0; clear n0; have g1 := n1; clear n1)
      go_ret
      exact ⟨rfl, (by repeat (first | exact Ext.refl _ | with_reducible assumption | apply Ext.alloc | apply Ext.drew | apply Ext.drewN | (refine Ext.setRow ?_ (by first | (simp; done) | (simp; omega) | omega) _) | (refine Ext.setCell ?_ (by first | (simp; done) | (simp; omega) | omega) _) | (refine Ext.trans ?_ (by with_reducible assumption))))⟩

theorem exList_any (e f : Int) (V : Nat → Int) (a : Addr) (n cap : Nat) (w : World) (hc : ∀ i, i < n → w.cell? (a.add i) = some (.int .i64 (V i))) (ha : a.block < w.heap.size) : Calls Tryd.prog 46 #[fmt e f, .slice (some a) n cap] w fun rv w' => rv = .returned (.bool (lstB e f V n)) ∧ Ext w w' := by
  unfold lstB
  by_cases hn : n ≤ 12
  · by_cases hA : allF e f V n = true
    · rw [decide_eq_true hn, hA, Bool.and_true, Bool.and_true]
      exact exList_all e f V a n cap hn (allF_iff.1 hA) w hc ha
    · have hA2 : allF e f V n = false := by simpa using hA
      obtain ⟨m, hm, hV, hb⟩ := allF_not hA2
      rw [hA2, Bool.and_false]
      exact exList_stop e f V a n cap hn m hm hV hb w hc ha
  · rw [decide_eq_false hn, Bool.and_false, Bool.false_and]
    exact exList_long e f V a n cap (by omega) w

/-- The sum of the first k values, in units. -/
def sumU (e f : Int) (V : Nat → Int) : Nat → Int
  | 0 => 0
  | k + 1 => sumU e f V k + unitsV e f (V k)

theorem sumU_size {e f : Int} {V : Nat → Int} {n : Nat} (hV : ∀ i, i < n → finB e f (V i) = true) (k : Nat) (hk : k ≤ n) : -(2199023255552 * (k : Int)) ≤ sumU e f V k ∧ sumU e f V k ≤ 2199023255552 * (k : Int) := by
  induction k with
  | zero => simp [sumU]
  | succ k ih =>
    obtain ⟨i1, i2⟩ := ih (by omega)
    have hf := hV k (by omega)
    obtain ⟨_, _, s3, s4, _, _⟩ := ns_small hf hf
    unfold sumU
    push_cast
    omega

theorem exUnits_any (e f : Int) (V : Nat → Int) (a : Addr) (n cap : Nat) (hn : n ≤ 12) (hV : ∀ i, i < n → finB e f (V i) = true) (w : World) (hc : ∀ i, i < n → w.cell? (a.add i) = some (.int .i64 (V i))) (ha : a.block < w.heap.size) : Calls Tryd.prog 48 #[fmt e f, .slice (some a) n cap] w fun rv w' => rv = .returned (.int .i64 (sumU e f V n)) ∧ Ext w w' := by
  go_enter Tryd.func48, Tryd.ntmps48
  go_wp2
  go_loopw [5, 10] (fun y x wr => ∃ k : Nat, x = .int .i64 (k : Int) ∧ k ≤ n ∧ y = .int .i64 (sumU e f V k) ∧ w.heap.size < wr.heap.size ∧ wr.cell? ⟨w.heap.size, 0, none⟩ = some (.int .i64 e) ∧ wr.cell? ⟨w.heap.size, 1, none⟩ = some (.int .i64 f) ∧ Ext w wr) (fun _ x _ => n - (intOf x).toNat)
  case atStart => exact ⟨0, rfl, by omega, rfl, by simp, by simp [go_sem], by simp [go_sem], Ext.new _ _⟩
  case round =>
    obtain ⟨k, rfl, hk, rfl, hs, g0, g1, hx⟩ := hrel
    by_cases hlt : k < n
    · have hlt2 : k < n := hlt
      have h1 : ((k : Nat) : Int) < (n : Int) := by omega
      have h0 : (0 : Int) ≤ (k : Int) := by omega
      have h2 : ((k : Int)).toNat = k := by omega
      have u1 : IntKind.i64.wrap ((k : Int) + 1) = (k : Int) + 1 := IntWalk.i64_in _ (by omega)
      have e0 : (a.add k).block = a.block := (by unfold Addr.add; split <;> rfl)
      have ga : wr.cell? (a.add k) = some (.int .i64 (V k)) := (Below.cell (p := a.add k) hx (by rw [e0]; exact ha)).trans (hc k hlt2)
      have hVk := (fin_pat (hV k hlt)).1
      have sz1 := sumU_size hV k (by omega)
      have sz2 := sumU_size hV (k + 1) (by omega)
      have ks : sumU e f V (k + 1) = sumU e f V k + unitsV e f (V k) := rfl
      rw [ks] at sz2
      have kw : IntKind.i64.wrap (sumU e f V k + unitsV e f (V k)) = sumU e f V k + unitsV e f (V k) := IntWalk.i64_in _ (by omega)
      have KS := Lib.hid ks; clear ks sz1 sz2
      go_wp2_with (go_at_call 42; refine (fmUnits_any e f (V k) hVk _).mono ?_; rintro rv w1 ⟨rfl, hb⟩; have ns : w.heap.size < w1.heap.size := hb.lt (by first | with_reducible assumption | omega | (simp; done) | (simp; omega)); have n0 : w1.cell? ⟨w.heap.size, 0, none⟩ = some (.int .i64 e) := (hb.cells _ _ (by first | with_reducible assumption | omega | (simp; done) | (simp; omega))).trans (by first | with_reducible assumption | (simp; done) | (simp; with_reducible assumption) | (rw [cell_alloc_before _ _ _ _ (by omega)]; with_reducible assumption) | (simp [go_sem, *]; done)); have n1 : w1.cell? ⟨w.heap.size, 1, none⟩ = some (.int .i64 f) := (hb.cells _ _ (by first | with_reducible assumption | omega | (simp; done) | (simp; omega))).trans (by first | with_reducible assumption | (simp; done) | (simp; with_reducible assumption) | (rw [cell_alloc_before _ _ _ _ (by omega)]; with_reducible assumption) | (simp [go_sem, *]; done)); (first | (have nx := Ext.trans hx hb; clear hx) | (have nx := Ext.trans (hx.alloc _) hb; clear hx) | (have nx := Ext.trans hx.drew hb; clear hx) | have nx := hb); clear hb; try clear hs; try clear g0; try clear g1; have hx := nx; clear nx; have hs := ns; clear ns; have g0 := n0; clear n0; have g1 := n1; clear n1)
      go_roundw
      case rel => exact ⟨k + 1, by simp, by omega, by rw [KS.out], by with_reducible assumption, by with_reducible assumption, by with_reducible assumption, by with_reducible assumption⟩
      case measure => simp [intOf]; omega
    · have h1 : ¬ ((k : Nat) : Int) < (n : Int) := by omega
      have hkn : k = n := by omega
      go_wp2_with fail
      go_ret
      subst hkn
      exact ⟨rfl, (by repeat (first | exact Ext.refl _ | with_reducible assumption | apply Ext.alloc | apply Ext.drew | apply Ext.drewN | (refine Ext.setRow ?_ (by first | (simp; done) | (simp; omega) | omega) _) | (refine Ext.setCell ?_ (by first | (simp; done) | (simp; omega) | omega) _) | (refine Ext.trans ?_ (by with_reducible assumption))))⟩

theorem lst_iff {e f : Int} {V : Nat → Int} {n : Nat} : lstB e f V n = true ↔ goodB e f = true ∧ n ≤ 12 ∧ ∀ i, i < n → finB e f (V i) = true := by
  unfold lstB; rw [Bool.and_eq_true, Bool.and_eq_true, decide_eq_true_eq, allF_iff, and_assoc]

theorem conv_cw {e f p : Int} (h : finB e f p = true) : ∀ w, (convert 59 3 (.float .f32 (floatOfInt .f32 (unitsV e f p)))).run Tryd.prog w = .ok (.int .i64 (unitsV e f p)) w := by
  obtain ⟨hg, s0, s1, hu⟩ := fin_size h
  obtain ⟨okM, ltM⟩ := mgN_ok hg s0 s1
  have hb := mg_bd hg s0 s1
  have q := int_mg (decide (unitsV e f p < 0)) okM (by omega)
  have e1 : sv (decide (unitsV e f p < 0)) (mgV f (p % pw (e + f))).toNat = unitsV e f p := by unfold sv; split <;> rename_i h <;> simp at h <;> omega
  rw [e1, ← cw_mg hu, ← int_cw] at q
  exact fun w => run_convert_float_int w _ _ .f32 .i64 _ _ (by kernel_rfl) Tryd.underlying3 q

theorem row_ext {w w' : World} {b n : Nat} {t : TypeId} {g : Nat → Value} (h : w.rowIs b t n g) (hx : Ext w w') : w'.rowIs b t n g := h.of_block (hx.block _ h.lt)
end Go.Proofs.YtfgbndjhaiigbabDoor

