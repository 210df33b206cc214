/-
  Contracts of the functions that the laws reach, and the plain facts that they rest on, each under the conditions that its line names; part 31.
-/
import Derived.Test.YtcpamgmaijjhoaaGreatDoorKrs1
import Derived.Test.YtcpamgmaijjhoaaGreatDoorKrs2
import Derived.Test.YtcpamgmaijjhoaaGreatDoorKrs3
import Derived.Test.YtcpamgmaijjhoaaGreatDoorKrs4
import Derived.Test.YtcpamgmaijjhoaaGreatDoorKrs5
import Derived.Test.YtcpamgmaijjhoaaGreatDoorKrs6
import Derived.Test.YtcpamgmaijjhoaaGreatDoorKrs7
import Derived.Test.YtcpamgmaijjhoaaGreatDoorKrs8
import Derived.Test.YtcpamgmaijjhoaaGreatDoorKrs9
import Derived.Test.YtcpamgmaijjhoaaGreatDoorKrs10
import Derived.Test.YtcpamgmaijjhoaaGreatDoorKrs11
import Derived.Test.YtcpamgmaijjhoaaGreatDoorKrs12
import Derived.Test.YtcpamgmaijjhoaaGreatDoorKrs13
import Derived.Test.YtcpamgmaijjhoaaGreatDoorKrs14
import Derived.Test.YtcpamgmaijjhoaaGreatDoorKrs15
import Derived.Test.YtcpamgmaijjhoaaGreatDoorKrs16
import Derived.Test.YtcpamgmaijjhoaaGreatDoorKrs17
import Derived.Test.YtcpamgmaijjhoaaGreatDoorKrs18
import Derived.Test.YtcpamgmaijjhoaaGreatDoorKrs19
import Derived.Test.YtcpamgmaijjhoaaGreatDoorKrs20
import Derived.Test.YtcpamgmaijjhoaaGreatDoorKrs21
import Derived.Test.YtcpamgmaijjhoaaGreatDoorKrs22
import Derived.Test.YtcpamgmaijjhoaaGreatDoorKrs23
import Derived.Test.YtcpamgmaijjhoaaGreatDoorKrs27
import Derived.Test.YtcpamgmaijjhoaaGreatDoorKrs28
import Derived.Test.YtcpamgmaijjhoaaGreatDoorKrs29
import Derived.Test.YtcpamgmaijjhoaaGreatDoorKrs30
import Derived.Test.YtcpamgmaijjhoaaGreatDoorRows
import Derived.WalkKit
import Derived.LoopTactic
import Derived.LoopN
import Derived.Deep.LoopGhost
import Derived.Laws.Bits64b
import Derived.WalkSpells
import Derived.WalkLawsBesides
import Derived.StillTactics
import Derived.Laws.Pointers
import Derived.Deep.RegionHeld3
import Derived.Deep.QuietTactic
import Derived.BigQuiet
import Derived.Outline
import Derived.Lib.Hide
import Derived.RowKit3
import Derived.Carry
import Derived.IntWalk
namespace Go.Proofs.YtcpamgmaijjhoaaGreatDoor
open Go Go.RowKit
set_option linter.unusedSimpArgs false
set_option linter.unusedVariables false
set_option maxRecDepth 100000

set_option maxHeartbeats 3200000 in
theorem iExactSum_yes (e f : Int) (V : Nat → Int) (a : Addr) (n cap : Nat) (h : lstB e f V n = true) (w : World) (hc : ∀ i, i < n → w.cell? (a.add i) = some (.int .i64 (V i))) (ha : a.block < w.heap.size) (hT : TW w) : Calls Tryz.prog 121 #[fmt e f, .slice (some a) n cap] w fun rv w' => rv = .returned (.tuple #[two (nfN (sumU e f V n) (unV e f)) (nfE (sumU e f V n) (unV e f)), .bool (nfB (sumU e f V n) (unV e f))]) ∧ Ext w w' := by
  go_enter Tryz.func121, Tryz.ntmps121
  go_wp2_with (go_at_call 173; (with_reducible refine (valuesOf_list e f V a n cap h _ (fun i hi => (ext_add (a := a) (w := w) (by repeat (first | exact Ext.refl _ | with_reducible assumption | apply Ext.alloc | apply Ext.drew | apply Ext.drewN | (refine Ext.setRow ?_ (by first | (simp; done) | (simp; omega) | omega) _) | (refine Ext.setCell ?_ (by first | (simp; done) | (simp; omega) | omega) _) | (refine Ext.trans ?_ (by with_reducible assumption)))) ha i).trans (hc i hi)) (by simp; omega)).mono ?_); rintro rv w1 ⟨p, cp, rfl, hp, hb⟩; have ns : w.heap.size + 1 < w1.heap.size := hb.lt (by first | (simp; done) | (simp; omega)); have g0 : w1.cell? ⟨w.heap.size, 0, none⟩ = some (.int .i64 e) := (hb.cells _ _ (by first | (simp; done) | (simp; omega))).trans (by first | (simp; done) | (simp [go_sem, *]; done)); have g1 : w1.cell? ⟨w.heap.size, 1, none⟩ = some (.int .i64 f) := (hb.cells _ _ (by first | (simp; done) | (simp; omega))).trans (by first | (simp; done) | (simp [go_sem, *]; done)); have g2 : w1.cell? ⟨w.heap.size + 1, 0, none⟩ = some (.int .i64 0) := (hb.cells _ _ (by first | (simp; done) | (simp; omega))).trans (by first | (simp; done) | (simp [go_sem, *]; done)); have g3 : w1.cell? ⟨w.heap.size + 1, 1, none⟩ = some (.int .i64 0) := (hb.cells _ _ (by first | (simp; done) | (simp; omega))).trans (by first | (simp; done) | (simp [go_sem, *]; done)); have z0 : w1.frozen? ⟨w.heap.size + 1, 0, none⟩ = false := (hb.frz _ _ (by first | (simp; done) | (simp; omega))).trans (by first | (simp [go_sem]; done) | (simp [go_sem, *]; done)); have z1 : w1.frozen? ⟨w.heap.size + 1, 1, none⟩ = false := (hb.frz _ _ (by first | (simp; done) | (simp; omega))).trans (by first | (simp [go_sem]; done) | (simp [go_sem, *]; done)); have hx : Ext w w1 := Ext.trans (by repeat (first | exact Ext.refl _ | with_reducible assumption | apply Ext.alloc | apply Ext.drew | apply Ext.drewN | (refine Ext.setRow ?_ (by first | (simp; done) | (simp; omega) | omega) _) | (refine Ext.setCell ?_ (by first | (simp; done) | (simp; omega) | omega) _) | (refine Ext.trans ?_ (by with_reducible assumption)))) hb; clear hb)
  obtain ⟨hg, h12, hV⟩ := lst_iff.1 h
  obtain ⟨uv1, uv2, _, _⟩ := un_bd hg
  have hs1 := sumU_size hV n (by omega)
  go_loopw [8, 22] (fun y x wr => ∃ k : Nat, x = .int .i64 (k : Int) ∧ k ≤ n ∧ y = .int .i64 (sumU e f V k) ∧ wr.cell? ⟨w.heap.size, 0, none⟩ = some (.int .i64 e) ∧ wr.cell? ⟨w.heap.size, 1, none⟩ = some (.int .i64 f) ∧ wr.cell? ⟨w.heap.size + 1, 0, none⟩ = some (.int .i64 0) ∧ wr.cell? ⟨w.heap.size + 1, 1, none⟩ = some (.int .i64 0) ∧ wr.frozen? ⟨w.heap.size + 1, 0, none⟩ = false ∧ wr.frozen? ⟨w.heap.size + 1, 1, none⟩ = false ∧ w.heap.size + 1 < wr.heap.size ∧ Ext w wr ∧ Ext w1 wr) (fun _ x _ => n - (intOf x).toNat)
  case atStart => exact ⟨0, rfl, by omega, rfl, g0, g1, g2, g3, z0, z1, by with_reducible assumption, hx, Ext.refl _⟩
  case round =>
    clear g0 g1 g2 g3 z0 z1 hx
    obtain ⟨k, rfl, hk, rfl, g0, g1, g2, g3, z0, z1, hs, hx, hy⟩ := hrel
    by_cases hlt : k < n
    · obtain ⟨gl, rfl, q1, q2, hcl⟩ := hp (by omega)
      have h1 : ((k : Nat) : Int) < (n : Int) := by omega
      have h0 : (0 : Int) ≤ (k : Int) := by omega
      have h2 : ((k : Int)).toNat = k := by omega
      have u1 : IntKind.i64.wrap ((k : Int) + 1) = (k : Int) + 1 := IntWalk.i64_in _ (by omega)
      have ga : wr.cell? ⟨gl, k, none⟩ = some (.float .f32 (floatOfInt .f32 (unitsV e f (V k)))) := (hy.cells _ _ q2).trans (hcl k hlt)
      have cvk := conv_cw (hV k hlt)
      have sz1 := sumU_size hV k (by omega)
      have sz2 := sumU_size hV (k + 1) (by omega)
      have ks : sumU e f V (k + 1) = sumU e f V k + unitsV e f (V k) := rfl
      rw [ks] at sz2
      have kw : IntKind.i64.wrap (sumU e f V k + unitsV e f (V k)) = sumU e f V k + unitsV e f (V k) := IntWalk.i64_in _ (by omega)
      have KS := Lib.hid ks; clear ks sz1 sz2 hs1
      generalize floatOfInt .f32 (unitsV e f (V k)) = xk at *
      go_wp2_with fail
      go_roundw
      case rel => exact ⟨k + 1, by simp, by omega, by rw [KS.out], by with_reducible assumption, by with_reducible assumption, by with_reducible assumption, by with_reducible assumption, by with_reducible assumption, by with_reducible assumption, by with_reducible assumption, by with_reducible assumption, by with_reducible assumption⟩
      case measure => simp [intOf]; omega
    · have h1 : ¬ ((k : Nat) : Int) < (n : Int) := by omega
      have hkn : k = n := by omega
      subst hkn
      go_wp2_with (first | (go_at_call 111; refine (unitPower_any e f hg _).mono ?_; rintro rv w1 ⟨rfl, hb⟩; have ns : w.heap.size + 1 < w1.heap.size := hb.lt (by first | with_reducible assumption | omega | (simp; done) | (simp; omega)); have n0 : w1.cell? ⟨w.heap.size, 0, none⟩ = some (.int .i64 e) := (hb.cells _ _ (by first | with_reducible assumption | omega | (simp; done) | (simp; omega))).trans (by first | with_reducible assumption | (simp; done) | (simp; with_reducible assumption) | (rw [cell_alloc_before _ _ _ _ (by omega)]; with_reducible assumption) | (simp [go_sem, *]; done)); have n1 : w1.cell? ⟨w.heap.size, 1, none⟩ = some (.int .i64 f) := (hb.cells _ _ (by first | with_reducible assumption | omega | (simp; done) | (simp; omega))).trans (by first | with_reducible assumption | (simp; done) | (simp; with_reducible assumption) | (rw [cell_alloc_before _ _ _ _ (by omega)]; with_reducible assumption) | (simp [go_sem, *]; done)); have n2 : w1.cell? ⟨w.heap.size + 1, 0, none⟩ = some (.int .i64 0) := (hb.cells _ _ (by first | with_reducible assumption | omega | (simp; done) | (simp; omega))).trans (by first | with_reducible assumption | (simp; done) | (simp; with_reducible assumption) | (rw [cell_alloc_before _ _ _ _ (by omega)]; with_reducible assumption) | (simp [go_sem, *]; done)); have n3 : w1.cell? ⟨w.heap.size + 1, 1, none⟩ = some (.int .i64 0) := (hb.cells _ _ (by first | with_reducible assumption | omega | (simp; done) | (simp; omega))).trans (by first | with_reducible assumption | (simp; done) | (simp; with_reducible assumption) | (rw [cell_alloc_before _ _ _ _ (by omega)]; with_reducible assumption) | (simp [go_sem, *]; done)); have nz0 : w1.frozen? ⟨w.heap.size + 1, 0, none⟩ = false := (hb.frz _ _ (by first | with_reducible assumption | omega | (simp; done) | (simp; omega))).trans (by first | with_reducible assumption | (simp [go_sem]; done) | (simp [go_sem]; with_reducible assumption)); have nz1 : w1.frozen? ⟨w.heap.size + 1, 1, none⟩ = false := (hb.frz _ _ (by first | with_reducible assumption | omega | (simp; done) | (simp; omega))).trans (by first | with_reducible assumption | (simp [go_sem]; done) | (simp [go_sem]; with_reducible assumption)); (first | (have nx := Ext.trans hx hb; clear hx) | (have nx := Ext.trans (hx.alloc _) hb; clear hx) | (have nx := Ext.trans hx.drew hb; clear hx) | have nx := hb); clear hb; try clear hs; try clear g0; try clear g1; try clear g2; try clear g3; try clear z0; try clear z1; have hx := nx; clear nx; have hs := ns; clear ns; have g0 := n0; clear n0; have g1 := n1; clear n1; have g2 := n2; clear n2; have g3 := n3; clear n3; have z0 := nz0; clear nz0; have z1 := nz1; clear nz1) | (go_at_call 101; refine (lowest_any _ _ (by omega) (by omega) (by omega) (by omega) _ (hT.ext (by repeat (first | exact Ext.refl _ | with_reducible assumption | apply Ext.alloc | apply Ext.drew | apply Ext.drewN | (refine Ext.setRow ?_ (by first | (simp; done) | (simp; omega) | omega) _) | (refine Ext.setCell ?_ (by first | (simp; done) | (simp; omega) | omega) _) | (refine Ext.trans ?_ (by with_reducible assumption)))))).mono ?_; rintro rv w1 ⟨rfl, hb⟩; have ns : w.heap.size + 1 < w1.heap.size := hb.lt (by first | with_reducible assumption | omega | (simp; done) | (simp; omega)); have n0 : w1.cell? ⟨w.heap.size, 0, none⟩ = some (.int .i64 e) := (hb.cells _ _ (by first | with_reducible assumption | omega | (simp; done) | (simp; omega))).trans (by first | with_reducible assumption | (simp; done) | (simp; with_reducible assumption) | (rw [cell_alloc_before _ _ _ _ (by omega)]; with_reducible assumption) | (simp [go_sem, *]; done)); have n1 : w1.cell? ⟨w.heap.size, 1, none⟩ = some (.int .i64 f) := (hb.cells _ _ (by first | with_reducible assumption | omega | (simp; done) | (simp; omega))).trans (by first | with_reducible assumption | (simp; done) | (simp; with_reducible assumption) | (rw [cell_alloc_before _ _ _ _ (by omega)]; with_reducible assumption) | (simp [go_sem, *]; done)); have n2 : w1.cell? ⟨w.heap.size + 1, 0, none⟩ = some (.int .i64 0) := (hb.cells _ _ (by first | with_reducible assumption | omega | (simp; done) | (simp; omega))).trans (by first | with_reducible assumption | (simp; done) | (simp; with_reducible assumption) | (rw [cell_alloc_before _ _ _ _ (by omega)]; with_reducible assumption) | (simp [go_sem, *]; done)); have n3 : w1.cell? ⟨w.heap.size + 1, 1, none⟩ = some (.int .i64 0) := (hb.cells _ _ (by first | with_reducible assumption | omega | (simp; done) | (simp; omega))).trans (by first | with_reducible assumption | (simp; done) | (simp; with_reducible assumption) | (rw [cell_alloc_before _ _ _ _ (by omega)]; with_reducible assumption) | (simp [go_sem, *]; done)); have nz0 : w1.frozen? ⟨w.heap.size + 1, 0, none⟩ = false := (hb.frz _ _ (by first | with_reducible assumption | omega | (simp; done) | (simp; omega))).trans (by first | with_reducible assumption | (simp [go_sem]; done) | (simp [go_sem]; with_reducible assumption)); have nz1 : w1.frozen? ⟨w.heap.size + 1, 1, none⟩ = false := (hb.frz _ _ (by first | with_reducible assumption | omega | (simp; done) | (simp; omega))).trans (by first | with_reducible assumption | (simp [go_sem]; done) | (simp [go_sem]; with_reducible assumption)); (first | (have nx := Ext.trans hx hb; clear hx) | (have nx := Ext.trans (hx.alloc _) hb; clear hx) | (have nx := Ext.trans hx.drew hb; clear hx) | have nx := hb); clear hb; try clear hs; try clear g0; try clear g1; try clear g2; try clear g3; try clear z0; try clear z1; have hx := nx; clear nx; have hs := ns; clear ns; have g0 := n0; clear n0; have g1 := n1; clear n1; have g2 := n2; clear n2; have g3 := n3; clear n3; have z0 := nz0; clear nz0; have z1 := nz1; clear nz1))
      exact bodyPost_ret (v := .tuple #[two (nfN (sumU e f V k) (unV e f)) (nfE (sumU e f V k) (unV e f)), .bool (nfB (sumU e f V k) (unV e f))]) (by simp [results, Tryz.results121, go_sem, *]) rfl ⟨rfl, (by repeat (first | exact Ext.refl _ | with_reducible assumption | apply Ext.alloc | apply Ext.drew | apply Ext.drewN | (refine Ext.setRow ?_ (by first | (simp; done) | (simp; omega) | omega) _) | (refine Ext.setCell ?_ (by first | (simp; done) | (simp; omega) | omega) _) | (refine Ext.trans ?_ (by with_reducible assumption))))⟩

theorem sum_low {e f : Int} {V : Nat → Int} {n : Nat} (h : lstB e f V n = true) : nfB (sumU e f V n) (unV e f) = true ∧ nfN (sumU e f V n) (unV e f) = odV (sumU e f V n) ∧ nfE (sumU e f V n) (unV e f) = shE (sumU e f V n) (unV e f) := by
  obtain ⟨hg, h12, hV⟩ := lst_iff.1 h
  obtain ⟨uv1, uv2, _, _⟩ := un_bd hg
  have hs := sumU_size hV n (by omega)
  exact nf_small (by omega) (by omega) (by omega) (by omega)

theorem iExactSum_no (e f : Int) (V : Nat → Int) (a : Addr) (n cap : Nat) (h : lstB e f V n = false) (w : World) (hc : ∀ i, i < n → w.cell? (a.add i) = some (.int .i64 (V i))) (ha : a.block < w.heap.size) : Calls Tryz.prog 121 #[fmt e f, .slice (some a) n cap] w fun rv w' => rv = .returned (.tuple #[two 0 0, .bool false]) ∧ Ext w w' := by
  go_enter Tryz.func121, Tryz.ntmps121
  go_wp2_with (go_at_call 173; (with_reducible refine (valuesOf_list_no e f V a n cap h _ (fun i hi => (ext_add (a := a) (w := w) (by repeat (first | exact Ext.refl _ | with_reducible assumption | apply Ext.alloc | apply Ext.drew | apply Ext.drewN | (refine Ext.setRow ?_ (by first | (simp; done) | (simp; omega) | omega) _) | (refine Ext.setCell ?_ (by first | (simp; done) | (simp; omega) | omega) _) | (refine Ext.trans ?_ (by with_reducible assumption)))) ha i).trans (hc i hi)) (by simp; omega)).mono ?_); rintro rv w1 ⟨rfl, hb⟩; have ns : w.heap.size + 1 < w1.heap.size := hb.lt (by first | (simp; done) | (simp; omega)); have g0 : w1.cell? ⟨w.heap.size, 0, none⟩ = some (.int .i64 e) := (hb.cells _ _ (by first | (simp; done) | (simp; omega))).trans (by first | (simp; done) | (simp [go_sem, *]; done)); have g1 : w1.cell? ⟨w.heap.size, 1, none⟩ = some (.int .i64 f) := (hb.cells _ _ (by first | (simp; done) | (simp; omega))).trans (by first | (simp; done) | (simp [go_sem, *]; done)); have g2 : w1.cell? ⟨w.heap.size + 1, 0, none⟩ = some (.int .i64 0) := (hb.cells _ _ (by first | (simp; done) | (simp; omega))).trans (by first | (simp; done) | (simp [go_sem, *]; done)); have g3 : w1.cell? ⟨w.heap.size + 1, 1, none⟩ = some (.int .i64 0) := (hb.cells _ _ (by first | (simp; done) | (simp; omega))).trans (by first | (simp; done) | (simp [go_sem, *]; done)); have z0 : w1.frozen? ⟨w.heap.size + 1, 0, none⟩ = false := (hb.frz _ _ (by first | (simp; done) | (simp; omega))).trans (by first | (simp [go_sem]; done) | (simp [go_sem, *]; done)); have z1 : w1.frozen? ⟨w.heap.size + 1, 1, none⟩ = false := (hb.frz _ _ (by first | (simp; done) | (simp; omega))).trans (by first | (simp [go_sem]; done) | (simp [go_sem, *]; done)); have hx : Ext w w1 := Ext.trans (by repeat (first | exact Ext.refl _ | with_reducible assumption | apply Ext.alloc | apply Ext.drew | apply Ext.drewN | (refine Ext.setRow ?_ (by first | (simp; done) | (simp; omega) | omega) _) | (refine Ext.setCell ?_ (by first | (simp; done) | (simp; omega) | omega) _) | (refine Ext.trans ?_ (by with_reducible assumption)))) hb; clear hb)
  exact bodyPost_ret (v := .tuple #[two 0 0, .bool false]) (by simp [results, Tryz.results121, go_sem, *]) rfl ⟨rfl, (by repeat (first | exact Ext.refl _ | with_reducible assumption | apply Ext.alloc | apply Ext.drew | apply Ext.drewN | (refine Ext.setRow ?_ (by first | (simp; done) | (simp; omega) | omega) _) | (refine Ext.setCell ?_ (by first | (simp; done) | (simp; omega) | omega) _) | (refine Ext.trans ?_ (by with_reducible assumption))))⟩

theorem iExactSum_any (e f : Int) (V : Nat → Int) (a : Addr) (n cap : Nat) (w : World) (hc : ∀ i, i < n → w.cell? (a.add i) = some (.int .i64 (V i))) (ha : a.block < w.heap.size) (hT : TW w) : Calls Tryz.prog 121 #[fmt e f, .slice (some a) n cap] w fun rv w' => rv = .returned (.tuple #[two (if lstB e f V n = true then odV (sumU e f V n) else 0) (if lstB e f V n = true then shE (sumU e f V n) (unV e f) else 0), .bool (lstB e f V n)]) ∧ Ext w w' := by
  cases h : lstB e f V n
  · exact iExactSum_no e f V a n cap h w hc ha
  · obtain ⟨e1, e2, e3⟩ := sum_low h
    have := iExactSum_yes e f V a n cap h w hc ha hT
    rw [e1, e2, e3] at this
    exact this
end Go.Proofs.YtcpamgmaijjhoaaGreatDoor

