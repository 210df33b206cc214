/-
  Contracts of the functions that add dyadic numbers, each under the conditions that its line names.
-/
import Derived.Test.YtmffoiofbiclgaaDoorRows
import Derived.Test.YtmffoiofbiclgaaDoorPlain
import Derived.Test.YtmffoiofbiclgaaDoorBelow
import Derived.Test.YtmffoiofbiclgaaDoorNear
import Derived.Test.YtmffoiofbiclgaaDoorDy
import Derived.Test.YtmffoiofbiclgaaDoorDyC
import Derived.Test.YtmffoiofbiclgaaDoorWalkA
import Derived.Test.YtmffoiofbiclgaaDoorWalkDA
import Derived.Test.YtmffoiofbiclgaaDoorDyS
import Derived.Test.YtmffoiofbiclgaaDoorLen
import Derived.Test.YtmffoiofbiclgaaDoorWalkDB
import Derived.Test.YtmffoiofbiclgaaDoorWalkTZ
import Derived.Test.YtmffoiofbiclgaaDoorWalkDE
import Derived.Test.YtmffoiofbiclgaaDoorWalkDF
import Derived.Test.YtmffoiofbiclgaaDoorWalkC
import Derived.Test.YtmffoiofbiclgaaDoorWalkDG
import Derived.Test.YtmffoiofbiclgaaDoorFar
import Derived.WalkKit
import Derived.LoopTactic
import Derived.Laws.Bits64b
import Derived.WalkSpells
import Derived.WalkLawsBesides
import Derived.StillTactics
import Derived.Laws.Pointers
import Derived.Deep.RegionHeld3
import Derived.Deep.QuietTactic
import Derived.BigQuiet
import Derived.Outline
import Derived.Lib.Hide
import Derived.RowKit3
import Derived.Carry
import Derived.IntWalk
namespace Go.Proofs.YtmffoiofbiclgaaDoor
open Go Go.RowKit
set_option linter.unusedSimpArgs false
set_option linter.unusedVariables false

theorem su_za {na ea nb eb : Int} (h : na = 0) : suB na ea nb eb = true ∧ suN na ea nb eb = nb ∧ suE na ea nb eb = eb := by
  unfold suB suN suE; rw [if_pos h, if_pos h]; simp [h]
theorem su_zb {na ea nb eb : Int} (h0 : na ≠ 0) (h : nb = 0) : suB na ea nb eb = true ∧ suN na ea nb eb = na ∧ suE na ea nb eb = ea := by
  unfold suB suN suE; rw [if_neg h0, if_neg h0, if_pos h, if_pos h]; simp [h]
theorem su_no {na ea nb eb : Int} (h0 : na ≠ 0) (h1 : nb ≠ 0) (h : rmB 60 na ea nb eb = false) : suB na ea nb eb = false ∧ suN na ea nb eb = 0 ∧ suE na ea nb eb = 0 := by
  unfold suB suN suE; rw [if_neg h0, if_neg h0, if_neg h1, if_neg h1, h]; simp [h0, h1]
theorem su_yes {na ea nb eb : Int} (h0 : na ≠ 0) (h1 : nb ≠ 0) (h : rmB 60 na ea nb eb = true) : suB na ea nb eb = nfB (suS na ea nb eb) (suL ea eb) ∧ suN na ea nb eb = nfN (suS na ea nb eb) (suL ea eb) ∧ suE na ea nb eb = nfE (suS na ea nb eb) (suL ea eb) := by
  unfold suB suN suE; rw [if_neg h0, if_neg h0, if_neg h1, if_neg h1, h]; simp [h0, h1]
theorem su_off {na ea nb eb : Int} (ha : dyB na ea = true) (hb : dyB nb eb = true) (h0 : na ≠ 0) (h1 : nb ≠ 0) (h : rmB 62 na ea nb eb = true) : suB na ea nb eb = nfB (suS na ea nb eb) (suL ea eb) ∧ suN na ea nb eb = nfN (suS na ea nb eb) (suL ea eb) ∧ suE na ea nb eb = nfE (suS na ea nb eb) (suL ea eb) := by
  cases h6 : rmB 60 na ea nb eb
  · obtain ⟨e1, e2, e3⟩ := su_no h0 h1 h6
    have f1 := su_far ha hb h0 h1 h h6
    have f0 : suS na ea nb eb ≠ 0 := by
      intro hz
      rw [hz] at f1
      have := (nf_zero (S := 0) (l := suL ea eb) rfl).1
      rw [this] at f1; cases f1
    have f2 : dyB (odV (suS na ea nb eb)) (suL ea eb + tzV (suS na ea nb eb)) = false := by
      unfold nfB at f1
      simp at f1
      exact f1.2
    obtain ⟨n1, n2, n3⟩ := nf_no f0 f2
    rw [e1, e2, e3, n1, n2, n3]
    exact ⟨rfl, rfl, rfl⟩
  · exact su_yes h0 h1 h6

theorem su_none {na ea nb eb : Int} (h0 : na ≠ 0) (h1 : nb ≠ 0) (h : rmB 62 na ea nb eb = false) : suB na ea nb eb = false ∧ suN na ea nb eb = 0 ∧ suE na ea nb eb = 0 := by
  refine su_no h0 h1 ?_
  cases h6 : rmB 60 na ea nb eb
  · rfl
  · have := room_any.1 h6
    rw [room_any.2 (show plV na + (ea - suL ea eb) ≤ 62 ∧ plV nb + (eb - suL ea eb) ≤ 62 by omega)] at h
    cases h

theorem shifted_no (n d k : Int) (hg : dyB n d = true) (hk : -100 ≤ k) (hk2 : k ≤ d) (h : 62 < plV n + (d - k)) (w : World) : Calls Tryd.prog 39 #[two n d, .int .i64 k] w fun rv w' => rv = .returned (.tuple #[.int .i64 0, .bool false]) ∧ Ext w w' := by
  obtain ⟨⟨h1, h2, h3, h4⟩, _⟩ := dy_iff.1 hg
  have p1 := (top_bd hg).2.2.1
  have p2 := (top_bd hg).2.2.2
  go_enter Tryd.func39, Tryd.ntmps39
  go_wp2_with (go_at_call 41; refine (placesOf_any _ (by omega) (by omega) _).mono ?_; rintro rv w1 ⟨rfl, rfl⟩)
  go_ret2
  exact ⟨rfl, (by repeat (first | exact Ext.refl _ | with_reducible assumption | apply Ext.alloc | apply Ext.drew | apply Ext.drewN | (refine Ext.setRow ?_ (by first | (simp; done) | (simp; omega) | omega) _) | (refine Ext.setCell ?_ (by first | (simp; done) | (simp; omega) | omega) _) | (refine Ext.trans ?_ (by with_reducible assumption))))⟩

theorem shifted_yes (n d k : Int) (hg : dyB n d = true) (hk : -100 ≤ k) (hk2 : k ≤ d) (h : plV n + (d - k) ≤ 62) (w : World) : Calls Tryd.prog 39 #[two n d, .int .i64 k] w fun rv w' => rv = .returned (.tuple #[.int .i64 (n * pw (d - k)), .bool true]) ∧ Ext w w' := by
  obtain ⟨⟨h1, h2, h3, h4⟩, _⟩ := dy_iff.1 hg
  have p1 := (top_bd hg).2.2.1
  have p2 := (top_bd hg).2.2.2
  have b := mul_bd (n := n) (j := d - k) (k := 62) (by omega) h (by decide) (by omega) (by omega)
  rw [show pw 62 = 4611686018427387904 from rfl] at b
  have b1 : -4611686018427387904 < n * pw (d - k) := by omega
  have b2 : n * pw (d - k) < 4611686018427387904 := by omega
  clear b
  have k1 := pw_of (d - k)
  have k2 : IntKind.i64.wrap (n * pw (d - k)) = n * pw (d - k) := IntWalk.i64_in _ (by omega)
  have k3 : IntKind.i64.wrap (d - k) = d - k := IntWalk.i64_in _ (by omega)
  go_enter Tryd.func39, Tryd.ntmps39
  go_wp2_with (go_at_call 41; refine (placesOf_any _ (by omega) (by omega) _).mono ?_; rintro rv w1 ⟨rfl, rfl⟩)
  go_ret2
  exact ⟨rfl, (by repeat (first | exact Ext.refl _ | with_reducible assumption | apply Ext.alloc | apply Ext.drew | apply Ext.drewN | (refine Ext.setRow ?_ (by first | (simp; done) | (simp; omega) | omega) _) | (refine Ext.setCell ?_ (by first | (simp; done) | (simp; omega) | omega) _) | (refine Ext.trans ?_ (by with_reducible assumption))))⟩

theorem rdIf_self (n d : Int) (hg : dyB n d = true) (w : World) : Calls Tryd.prog 25 #[two n d] w fun rv w' => rv = .returned (.tuple #[two (n) (d), .bool true]) ∧ Ext w w' := rdIf_yes n d hg w

set_option maxHeartbeats 1600000 in
theorem rdPlus_za (na ea nb eb : Int) (ha : dyB na ea = true) (hb : dyB nb eb = true) (h0 : na = 0) (w : World) : Calls Tryd.prog 37 #[two na ea, two nb eb] w fun rv w' => rv = .returned (.tuple #[two (suN na ea nb eb) (suE na ea nb eb), .bool (suB na ea nb eb)]) ∧ Ext w w' := by
  obtain ⟨e1, e2, e3⟩ := su_za (ea := ea) (nb := nb) (eb := eb) h0
  have E1 := Lib.hid e1; have E2 := Lib.hid e2; have E3 := Lib.hid e3; clear e1 e2 e3
  have k0 : (na == 0) = true := by simpa using h0
  clear h0
  go_enter Tryd.func37, Tryd.ntmps37
  go_wp2_with (go_at_call 25; refine (rdIf_self _ _ (by assumption) _).mono ?_; rintro rv w1 ⟨rfl, hb⟩; have ns : w.heap.size + 2 < w1.heap.size := hb.lt (by first | with_reducible assumption | omega | (simp; done) | (simp; omega)); have n0 : w1.cell? ⟨w.heap.size, 0, none⟩ = some (.int .i64 na) := (hb.cells _ _ (by first | with_reducible assumption | omega | (simp; done) | (simp; omega))).trans (by first | with_reducible assumption | (simp; done) | (simp; with_reducible assumption) | (rw [cell_alloc_before _ _ _ _ (by omega)]; with_reducible assumption) | (simp [go_sem, *]; done)); have n1 : w1.cell? ⟨w.heap.size, 1, none⟩ = some (.int .i64 ea) := (hb.cells _ _ (by first | with_reducible assumption | omega | (simp; done) | (simp; omega))).trans (by first | with_reducible assumption | (simp; done) | (simp; with_reducible assumption) | (rw [cell_alloc_before _ _ _ _ (by omega)]; with_reducible assumption) | (simp [go_sem, *]; done)); have n2 : w1.cell? ⟨w.heap.size + 1, 0, none⟩ = some (.int .i64 nb) := (hb.cells _ _ (by first | with_reducible assumption | omega | (simp; done) | (simp; omega))).trans (by first | with_reducible assumption | (simp; done) | (simp; with_reducible assumption) | (rw [cell_alloc_before _ _ _ _ (by omega)]; with_reducible assumption) | (simp [go_sem, *]; done)); have n3 : w1.cell? ⟨w.heap.size + 1, 1, none⟩ = some (.int .i64 eb) := (hb.cells _ _ (by first | with_reducible assumption | omega | (simp; done) | (simp; omega))).trans (by first | with_reducible assumption | (simp; done) | (simp; with_reducible assumption) | (rw [cell_alloc_before _ _ _ _ (by omega)]; with_reducible assumption) | (simp [go_sem, *]; done)); have n4 : w1.cell? ⟨w.heap.size + 2, 0, none⟩ = some (.int .i64 0) := (hb.cells _ _ (by first | with_reducible assumption | omega | (simp; done) | (simp; omega))).trans (by first | with_reducible assumption | (simp; done) | (simp; with_reducible assumption) | (rw [cell_alloc_before _ _ _ _ (by omega)]; with_reducible assumption) | (simp [go_sem, *]; done)); have n5 : w1.cell? ⟨w.heap.size + 2, 1, none⟩ = some (.int .i64 0) := (hb.cells _ _ (by first | with_reducible assumption | omega | (simp; done) | (simp; omega))).trans (by first | with_reducible assumption | (simp; done) | (simp; with_reducible assumption) | (rw [cell_alloc_before _ _ _ _ (by omega)]; with_reducible assumption) | (simp [go_sem, *]; done)); have nz0 : w1.frozen? ⟨w.heap.size + 2, 0, none⟩ = false := (hb.frz _ _ (by first | with_reducible assumption | omega | (simp; done) | (simp; omega))).trans (by first | with_reducible assumption | (simp [go_sem]; done) | (simp [go_sem]; with_reducible assumption)); have nz1 : w1.frozen? ⟨w.heap.size + 2, 1, none⟩ = false := (hb.frz _ _ (by first | with_reducible assumption | omega | (simp; done) | (simp; omega))).trans (by first | with_reducible assumption | (simp [go_sem]; done) | (simp [go_sem]; with_reducible assumption)); (first | (have nx := Ext.trans hx hb; clear hx) | (have nx := Ext.trans (hx.alloc _) hb; clear hx) | (have nx := Ext.trans hx.drew hb; clear hx) | have nx := hb); clear hb; try clear hs; try clear g0; try clear g1; try clear g2; try clear g3; try clear g4; try clear g5; try clear z0; try clear z1; have hx := nx; clear nx; have hs := ns; clear ns; have g0 := n0; clear n0; have g1 := n1; clear n1; have g2 := n2; clear n2; have g3 := n3; clear n3; have g4 := n4; clear n4; have g5 := n5; clear n5; have z0 := nz0; clear nz0; have z1 := nz1; clear nz1)
  exact bodyPost_ret (v := .tuple #[two (nb) (eb), .bool true]) (by simp [results, Tryd.results37, go_sem, *]) rfl ⟨ret_d E1.out.symm E2.out.symm E3.out.symm, (by repeat (first | exact Ext.refl _ | with_reducible assumption | apply Ext.alloc | apply Ext.drew | apply Ext.drewN | (refine Ext.setRow ?_ (by first | (simp; done) | (simp; omega) | omega) _) | (refine Ext.setCell ?_ (by first | (simp; done) | (simp; omega) | omega) _) | (refine Ext.trans ?_ (by with_reducible assumption))))⟩

set_option maxHeartbeats 1600000 in
theorem rdPlus_zb (na ea nb eb : Int) (ha : dyB na ea = true) (hb : dyB nb eb = true) (h0 : na ≠ 0) (h1 : nb = 0) (w : World) : Calls Tryd.prog 37 #[two na ea, two nb eb] w fun rv w' => rv = .returned (.tuple #[two (suN na ea nb eb) (suE na ea nb eb), .bool (suB na ea nb eb)]) ∧ Ext w w' := by
  obtain ⟨e1, e2, e3⟩ := su_zb (ea := ea) (eb := eb) h0 h1
  have E1 := Lib.hid e1; have E2 := Lib.hid e2; have E3 := Lib.hid e3; clear e1 e2 e3
  have k0 : (na == 0) = false := by simpa using h0
  have k1 : (nb == 0) = true := by simpa using h1
  clear h0 h1
  go_enter Tryd.func37, Tryd.ntmps37
  go_wp2_with (go_at_call 25; refine (rdIf_self _ _ (by assumption) _).mono ?_; rintro rv w1 ⟨rfl, hb⟩; have ns : w.heap.size + 2 < w1.heap.size := hb.lt (by first | with_reducible assumption | omega | (simp; done) | (simp; omega)); have n0 : w1.cell? ⟨w.heap.size, 0, none⟩ = some (.int .i64 na) := (hb.cells _ _ (by first | with_reducible assumption | omega | (simp; done) | (simp; omega))).trans (by first | with_reducible assumption | (simp; done) | (simp; with_reducible assumption) | (rw [cell_alloc_before _ _ _ _ (by omega)]; with_reducible assumption) | (simp [go_sem, *]; done)); have n1 : w1.cell? ⟨w.heap.size, 1, none⟩ = some (.int .i64 ea) := (hb.cells _ _ (by first | with_reducible assumption | omega | (simp; done) | (simp; omega))).trans (by first | with_reducible assumption | (simp; done) | (simp; with_reducible assumption) | (rw [cell_alloc_before _ _ _ _ (by omega)]; with_reducible assumption) | (simp [go_sem, *]; done)); have n2 : w1.cell? ⟨w.heap.size + 1, 0, none⟩ = some (.int .i64 nb) := (hb.cells _ _ (by first | with_reducible assumption | omega | (simp; done) | (simp; omega))).trans (by first | with_reducible assumption | (simp; done) | (simp; with_reducible assumption) | (rw [cell_alloc_before _ _ _ _ (by omega)]; with_reducible assumption) | (simp [go_sem, *]; done)); have n3 : w1.cell? ⟨w.heap.size + 1, 1, none⟩ = some (.int .i64 eb) := (hb.cells _ _ (by first | with_reducible assumption | omega | (simp; done) | (simp; omega))).trans (by first | with_reducible assumption | (simp; done) | (simp; with_reducible assumption) | (rw [cell_alloc_before _ _ _ _ (by omega)]; with_reducible assumption) | (simp [go_sem, *]; done)); have n4 : w1.cell? ⟨w.heap.size + 2, 0, none⟩ = some (.int .i64 0) := (hb.cells _ _ (by first | with_reducible assumption | omega | (simp; done) | (simp; omega))).trans (by first | with_reducible assumption | (simp; done) | (simp; with_reducible assumption) | (rw [cell_alloc_before _ _ _ _ (by omega)]; with_reducible assumption) | (simp [go_sem, *]; done)); have n5 : w1.cell? ⟨w.heap.size + 2, 1, none⟩ = some (.int .i64 0) := (hb.cells _ _ (by first | with_reducible assumption | omega | (simp; done) | (simp; omega))).trans (by first | with_reducible assumption | (simp; done) | (simp; with_reducible assumption) | (rw [cell_alloc_before _ _ _ _ (by omega)]; with_reducible assumption) | (simp [go_sem, *]; done)); have nz0 : w1.frozen? ⟨w.heap.size + 2, 0, none⟩ = false := (hb.frz _ _ (by first | with_reducible assumption | omega | (simp; done) | (simp; omega))).trans (by first | with_reducible assumption | (simp [go_sem]; done) | (simp [go_sem]; with_reducible assumption)); have nz1 : w1.frozen? ⟨w.heap.size + 2, 1, none⟩ = false := (hb.frz _ _ (by first | with_reducible assumption | omega | (simp; done) | (simp; omega))).trans (by first | with_reducible assumption | (simp [go_sem]; done) | (simp [go_sem]; with_reducible assumption)); (first | (have nx := Ext.trans hx hb; clear hx) | (have nx := Ext.trans (hx.alloc _) hb; clear hx) | (have nx := Ext.trans hx.drew hb; clear hx) | have nx := hb); clear hb; try clear hs; try clear g0; try clear g1; try clear g2; try clear g3; try clear g4; try clear g5; try clear z0; try clear z1; have hx := nx; clear nx; have hs := ns; clear ns; have g0 := n0; clear n0; have g1 := n1; clear n1; have g2 := n2; clear n2; have g3 := n3; clear n3; have g4 := n4; clear n4; have g5 := n5; clear n5; have z0 := nz0; clear nz0; have z1 := nz1; clear nz1)
  exact bodyPost_ret (v := .tuple #[two (na) (ea), .bool true]) (by simp [results, Tryd.results37, go_sem, *]) rfl ⟨ret_d E1.out.symm E2.out.symm E3.out.symm, (by repeat (first | exact Ext.refl _ | with_reducible assumption | apply Ext.alloc | apply Ext.drew | apply Ext.drewN | (refine Ext.setRow ?_ (by first | (simp; done) | (simp; omega) | omega) _) | (refine Ext.setCell ?_ (by first | (simp; done) | (simp; omega) | omega) _) | (refine Ext.trans ?_ (by with_reducible assumption))))⟩

set_option maxHeartbeats 3200000 in
theorem rdPlus_sn (na ea nb eb : Int) (ha : dyB na ea = true) (hb : dyB nb eb = true) (h0 : na ≠ 0) (h1 : nb ≠ 0) (hl : ea < eb) (hr : rmB 60 na ea nb eb = false) (w : World) : Calls Tryd.prog 37 #[two na ea, two nb eb] w fun rv w' => rv = .returned (.tuple #[two (suN na ea nb eb) (suE na ea nb eb), .bool (suB na ea nb eb)]) ∧ Ext w w' := by
  obtain ⟨⟨a1, a2, a3, a4⟩, _⟩ := dy_iff.1 ha
  obtain ⟨⟨b1, b2, b3, b4⟩, _⟩ := dy_iff.1 hb
  have pa := (top_bd ha).2.2
  have pb := (top_bd hb).2.2
  have pa1 := pa.1; have pa2 := pa.2; have pb1 := pb.1; have pb2 := pb.2
  clear pa pb
  obtain ⟨e1, e2, e3⟩ := su_no h0 h1 hr
  have E1 := Lib.hid e1; have E2 := Lib.hid e2; have E3 := Lib.hid e3; clear e1 e2 e3
  have k0 : (na == 0) = false := by simpa using h0
  have k1 : (nb == 0) = false := by simpa using h1
  have sl : suL ea eb = ea := by unfold suL; omega
  have k2 : IntKind.i64.wrap (plV nb + eb) = plV nb + eb := IntWalk.i64_in _ (by omega)
  have k3 : IntKind.i64.wrap (plV nb + eb - ea) = plV nb + eb - ea := IntWalk.i64_in _ (by omega)
  have r1 : ¬ plV nb + eb - ea ≤ 60 := by
    intro h
    rw [room_any.2 (by rw [sl]; omega)] at hr
    cases hr
  clear hr h0 h1 sl
  go_enter Tryd.func37, Tryd.ntmps37
  go_wp2_with fail
  go_region_held3 (fun w' => w'.cell? ⟨w.heap.size, 0, none⟩ = some (.int .i64 nb) ∧ w'.cell? ⟨w.heap.size, 1, none⟩ = some (.int .i64 eb) ∧ w'.cell? ⟨w.heap.size + 1, 0, none⟩ = some (.int .i64 na) ∧ w'.cell? ⟨w.heap.size + 1, 1, none⟩ = some (.int .i64 ea) ∧ w.heap.size + 2 < w'.heap.size) ((refine ⟨?_, ?_, ?_, ?_, ?_⟩ <;> first | with_reducible assumption | ((rw [cell_setRow_far _ _ _ _ _ (by omega)]); with_reducible assumption) | ((rw [setRow_size]); with_reducible assumption) | ((repeat rw [World.cell?_setCell_far _ _ _ _ (by simp)]); with_reducible assumption) | (simp; done) | (simp [World.setCell]; first | done | omega) | (simp [go_sem, World.cell?_alloc_past, World.cell?_setCell_far, *]; done))) ((first | (go_at_call 56; refine (l1Abs_any _ (by omega) (by omega) _).mono ?_; rintro rv w1 ⟨rfl, rfl⟩) | (go_at_call 55; refine (rdBits_any _ (by omega) (by omega) _).mono ?_; rintro rv w1 ⟨rfl, rfl⟩; (try rw [plV_abs]))))
  go_wp2_with fail
  exact bodyPost_ret (v := .tuple #[two 0 0, .bool false]) (by simp [results, Tryd.results37, go_sem, *]) rfl ⟨ret_d E1.out.symm E2.out.symm E3.out.symm, (by repeat (first | exact Ext.refl _ | with_reducible assumption | apply Ext.alloc | apply Ext.drew | apply Ext.drewN | (refine Ext.setRow ?_ (by first | (simp; done) | (simp; omega) | omega) _) | (refine Ext.setCell ?_ (by first | (simp; done) | (simp; omega) | omega) _) | (refine Ext.trans ?_ (by with_reducible assumption))))⟩

set_option maxHeartbeats 3200000 in
theorem rdPlus_sy (na ea nb eb : Int) (ha : dyB na ea = true) (hb : dyB nb eb = true) (h0 : na ≠ 0) (h1 : nb ≠ 0) (hl : ea < eb) (hr : rmB 60 na ea nb eb = true) (w : World) : Calls Tryd.prog 37 #[two na ea, two nb eb] w fun rv w' => rv = .returned (.tuple #[two (suN na ea nb eb) (suE na ea nb eb), .bool (suB na ea nb eb)]) ∧ Ext w w' := by
  obtain ⟨⟨a1, a2, a3, a4⟩, _⟩ := dy_iff.1 ha
  obtain ⟨⟨b1, b2, b3, b4⟩, _⟩ := dy_iff.1 hb
  have pa := (top_bd ha).2.2
  have pb := (top_bd hb).2.2
  have pa1 := pa.1; have pa2 := pa.2; have pb1 := pb.1; have pb2 := pb.2
  clear pa pb
  obtain ⟨e1, e2, e3⟩ := su_yes h0 h1 hr
  have E1 := Lib.hid e1; have E2 := Lib.hid e2; have E3 := Lib.hid e3; clear e1 e2 e3
  have k0 : (na == 0) = false := by simpa using h0
  have k1 : (nb == 0) = false := by simpa using h1
  have sl : suL ea eb = ea := by unfold suL; omega
  have k2 : IntKind.i64.wrap (plV nb + eb) = plV nb + eb := IntWalk.i64_in _ (by omega)
  have k3 : IntKind.i64.wrap (plV nb + eb - ea) = plV nb + eb - ea := IntWalk.i64_in _ (by omega)
  have r0 := room_any.1 hr
  rw [sl] at r0
  have r1 : plV nb + eb - ea ≤ 60 := by omega
  have bd := su_bd ha hb (by decide) hr
  have es : suS na ea nb eb = nb * pw (eb - ea) + na := by
    unfold suS; rw [sl]
    rw [show eb - ea = eb - ea from rfl, show ea - ea = 0 by omega, show na * pw 0 = na from Int.mul_one _, Int.add_comm]
  rw [sl] at bd
  have b1 := bd.2.1
  have b2 := bd.2.2
  have j1 : 0 ≤ eb - ea := by omega
  have j2 : eb - ea ≤ 62 := by omega
  have k4 : IntKind.i64.wrap (eb - ea) = eb - ea := IntWalk.i64_in _ (by omega)
  have k5 : IntKind.i64.wrap (nb * pw (eb - ea)) = nb * pw (eb - ea) := IntWalk.i64_in _ (by omega)
  have k6 : IntKind.i64.wrap (nb * pw (eb - ea) + na) = nb * pw (eb - ea) + na := IntWalk.i64_in _ (by omega)
  have ES := Lib.hid es; have SL := Lib.hid sl; clear es sl bd hr r0 h0 h1
  go_enter Tryd.func37, Tryd.ntmps37
  go_wp2_with fail
  go_region_held3 (fun w' => w'.cell? ⟨w.heap.size, 0, none⟩ = some (.int .i64 nb) ∧ w'.cell? ⟨w.heap.size, 1, none⟩ = some (.int .i64 eb) ∧ w'.cell? ⟨w.heap.size + 1, 0, none⟩ = some (.int .i64 na) ∧ w'.cell? ⟨w.heap.size + 1, 1, none⟩ = some (.int .i64 ea) ∧ w.heap.size + 2 < w'.heap.size) ((refine ⟨?_, ?_, ?_, ?_, ?_⟩ <;> first | with_reducible assumption | ((repeat first | rw [cell_set_far _ _ _ _ _ _ (by omega)] | rw [cell_alloc_before _ _ _ _ (by omega)] | rw [cell_alloc_drew _ _ _ _ (by omega)] | rw [cell_drew]); with_reducible assumption) | ((rw [cell_setRow_far _ _ _ _ _ (by omega)]); with_reducible assumption) | ((rw [setRow_size]); with_reducible assumption) | (simp; done) | (simp [World.setCell]; first | done | omega) | (simp [go_sem, World.cell?_alloc_past, World.cell?_setCell_far, *]; done))) ((first | (go_at_call 56; refine (l1Abs_any _ (by omega) (by omega) _).mono ?_; rintro rv w1 ⟨rfl, rfl⟩) | (go_at_call 55; refine (rdBits_any _ (by omega) (by omega) _).mono ?_; rintro rv w1 ⟨rfl, rfl⟩; (try rw [plV_abs]))))
  go_wp2_with fail
  go_region_held3 (fun w' => w'.cell? ⟨w.heap.size, 0, none⟩ = some (.int .i64 nb) ∧ w'.cell? ⟨w.heap.size, 1, none⟩ = some (.int .i64 eb) ∧ w'.cell? ⟨w.heap.size + 1, 0, none⟩ = some (.int .i64 na) ∧ w'.cell? ⟨w.heap.size + 1, 1, none⟩ = some (.int .i64 ea) ∧ w.heap.size + 2 < w'.heap.size) ((refine ⟨?_, ?_, ?_, ?_, ?_⟩ <;> first | with_reducible assumption | ((repeat first | rw [cell_set_far _ _ _ _ _ _ (by omega)] | rw [cell_alloc_before _ _ _ _ (by omega)] | rw [cell_alloc_drew _ _ _ _ (by omega)] | rw [cell_drew]); with_reducible assumption) | ((rw [cell_setRow_far _ _ _ _ _ (by omega)]); with_reducible assumption) | ((rw [setRow_size]); with_reducible assumption) | (simp; done) | (simp [World.setCell]; first | done | omega) | (simp [go_sem, World.cell?_alloc_past, World.cell?_setCell_far, *]; done))) ((first | (go_at_call 57; refine (rdPower_any _ (by omega) (by omega) _).mono ?_; rintro rv w1 ⟨rfl, rfl⟩) | (go_at_call 26; refine (rdShort_any _ _ (by omega) (by omega) (by omega) (by omega) _).mono ?_; rintro rv w1 ⟨rfl, hb⟩; have ns : w.heap.size + 2 < w1.heap.size := hb.lt (by first | with_reducible assumption | omega | (simp; done) | (simp; omega)); have n0 : w1.cell? ⟨w.heap.size, 0, none⟩ = some (.int .i64 nb) := (hb.cells _ _ (by first | with_reducible assumption | omega | (simp; done) | (simp; omega))).trans (by first | with_reducible assumption | (simp; done) | (simp; with_reducible assumption) | (rw [cell_alloc_before _ _ _ _ (by omega)]; with_reducible assumption) | (simp [go_sem, *]; done)); have n1 : w1.cell? ⟨w.heap.size, 1, none⟩ = some (.int .i64 eb) := (hb.cells _ _ (by first | with_reducible assumption | omega | (simp; done) | (simp; omega))).trans (by first | with_reducible assumption | (simp; done) | (simp; with_reducible assumption) | (rw [cell_alloc_before _ _ _ _ (by omega)]; with_reducible assumption) | (simp [go_sem, *]; done)); have n2 : w1.cell? ⟨w.heap.size + 1, 0, none⟩ = some (.int .i64 na) := (hb.cells _ _ (by first | with_reducible assumption | omega | (simp; done) | (simp; omega))).trans (by first | with_reducible assumption | (simp; done) | (simp; with_reducible assumption) | (rw [cell_alloc_before _ _ _ _ (by omega)]; with_reducible assumption) | (simp [go_sem, *]; done)); have n3 : w1.cell? ⟨w.heap.size + 1, 1, none⟩ = some (.int .i64 ea) := (hb.cells _ _ (by first | with_reducible assumption | omega | (simp; done) | (simp; omega))).trans (by first | with_reducible assumption | (simp; done) | (simp; with_reducible assumption) | (rw [cell_alloc_before _ _ _ _ (by omega)]; with_reducible assumption) | (simp [go_sem, *]; done)); have n4 : w1.cell? ⟨w.heap.size + 2, 0, none⟩ = some (.int .i64 0) := (hb.cells _ _ (by first | with_reducible assumption | omega | (simp; done) | (simp; omega))).trans (by first | with_reducible assumption | (simp; done) | (simp; with_reducible assumption) | (rw [cell_alloc_before _ _ _ _ (by omega)]; with_reducible assumption) | (simp [go_sem, *]; done)); have n5 : w1.cell? ⟨w.heap.size + 2, 1, none⟩ = some (.int .i64 0) := (hb.cells _ _ (by first | with_reducible assumption | omega | (simp; done) | (simp; omega))).trans (by first | with_reducible assumption | (simp; done) | (simp; with_reducible assumption) | (rw [cell_alloc_before _ _ _ _ (by omega)]; with_reducible assumption) | (simp [go_sem, *]; done)); have nz0 : w1.frozen? ⟨w.heap.size + 2, 0, none⟩ = false := (hb.frz _ _ (by first | with_reducible assumption | omega | (simp; done) | (simp; omega))).trans (by first | with_reducible assumption | (simp [go_sem]; done) | (simp [go_sem]; with_reducible assumption)); have nz1 : w1.frozen? ⟨w.heap.size + 2, 1, none⟩ = false := (hb.frz _ _ (by first | with_reducible assumption | omega | (simp; done) | (simp; omega))).trans (by first | with_reducible assumption | (simp [go_sem]; done) | (simp [go_sem]; with_reducible assumption)); (first | (have nx := Ext.trans hx hb; clear hx) | (have nx := Ext.trans (hx.alloc _) hb; clear hx) | (have nx := Ext.trans hx.drew hb; clear hx) | have nx := hb); clear hb; try clear hs; try clear g0; try clear g1; try clear g2; try clear g3; try clear g4; try clear g5; try clear z0; try clear z1; have hx := nx; clear nx; have hs := ns; clear ns; have g0 := n0; clear n0; have g1 := n1; clear n1; have g2 := n2; clear n2; have g3 := n3; clear n3; have g4 := n4; clear n4; have g5 := n5; clear n5; have z0 := nz0; clear nz0; have z1 := nz1; clear nz1) | (go_at_call 25; refine (rdIf_any _ _ _).mono ?_; rintro rv w1 ⟨rfl, hb⟩; have ns : w.heap.size + 2 < w1.heap.size := hb.lt (by first | with_reducible assumption | omega | (simp; done) | (simp; omega)); have n0 : w1.cell? ⟨w.heap.size, 0, none⟩ = some (.int .i64 nb) := (hb.cells _ _ (by first | with_reducible assumption | omega | (simp; done) | (simp; omega))).trans (by first | with_reducible assumption | (simp; done) | (simp; with_reducible assumption) | (rw [cell_alloc_before _ _ _ _ (by omega)]; with_reducible assumption) | (simp [go_sem, *]; done)); have n1 : w1.cell? ⟨w.heap.size, 1, none⟩ = some (.int .i64 eb) := (hb.cells _ _ (by first | with_reducible assumption | omega | (simp; done) | (simp; omega))).trans (by first | with_reducible assumption | (simp; done) | (simp; with_reducible assumption) | (rw [cell_alloc_before _ _ _ _ (by omega)]; with_reducible assumption) | (simp [go_sem, *]; done)); have n2 : w1.cell? ⟨w.heap.size + 1, 0, none⟩ = some (.int .i64 na) := (hb.cells _ _ (by first | with_reducible assumption | omega | (simp; done) | (simp; omega))).trans (by first | with_reducible assumption | (simp; done) | (simp; with_reducible assumption) | (rw [cell_alloc_before _ _ _ _ (by omega)]; with_reducible assumption) | (simp [go_sem, *]; done)); have n3 : w1.cell? ⟨w.heap.size + 1, 1, none⟩ = some (.int .i64 ea) := (hb.cells _ _ (by first | with_reducible assumption | omega | (simp; done) | (simp; omega))).trans (by first | with_reducible assumption | (simp; done) | (simp; with_reducible assumption) | (rw [cell_alloc_before _ _ _ _ (by omega)]; with_reducible assumption) | (simp [go_sem, *]; done)); have n4 : w1.cell? ⟨w.heap.size + 2, 0, none⟩ = some (.int .i64 0) := (hb.cells _ _ (by first | with_reducible assumption | omega | (simp; done) | (simp; omega))).trans (by first | with_reducible assumption | (simp; done) | (simp; with_reducible assumption) | (rw [cell_alloc_before _ _ _ _ (by omega)]; with_reducible assumption) | (simp [go_sem, *]; done)); have n5 : w1.cell? ⟨w.heap.size + 2, 1, none⟩ = some (.int .i64 0) := (hb.cells _ _ (by first | with_reducible assumption | omega | (simp; done) | (simp; omega))).trans (by first | with_reducible assumption | (simp; done) | (simp; with_reducible assumption) | (rw [cell_alloc_before _ _ _ _ (by omega)]; with_reducible assumption) | (simp [go_sem, *]; done)); have nz0 : w1.frozen? ⟨w.heap.size + 2, 0, none⟩ = false := (hb.frz _ _ (by first | with_reducible assumption | omega | (simp; done) | (simp; omega))).trans (by first | with_reducible assumption | (simp [go_sem]; done) | (simp [go_sem]; with_reducible assumption)); have nz1 : w1.frozen? ⟨w.heap.size + 2, 1, none⟩ = false := (hb.frz _ _ (by first | with_reducible assumption | omega | (simp; done) | (simp; omega))).trans (by first | with_reducible assumption | (simp [go_sem]; done) | (simp [go_sem]; with_reducible assumption)); (first | (have nx := Ext.trans hx hb; clear hx) | (have nx := Ext.trans (hx.alloc _) hb; clear hx) | (have nx := Ext.trans hx.drew hb; clear hx) | have nx := hb); clear hb; try clear hs; try clear g0; try clear g1; try clear g2; try clear g3; try clear g4; try clear g5; try clear z0; try clear z1; have hx := nx; clear nx; have hs := ns; clear ns; have g0 := n0; clear n0; have g1 := n1; clear n1; have g2 := n2; clear n2; have g3 := n3; clear n3; have g4 := n4; clear n4; have g5 := n5; clear n5; have z0 := nz0; clear nz0; have z1 := nz1; clear nz1)))
  go_wp2_with fail
  exact bodyPost_ret (v := .tuple #[two (nfN (nb * pw (eb - ea) + na) ea) (nfE (nb * pw (eb - ea) + na) ea), .bool (nfB (nb * pw (eb - ea) + na) ea)]) (by simp [results, Tryd.results37, go_sem, *]) rfl ⟨ret_d (by rw [E1.out, ES.out, SL.out]) (by rw [E2.out, ES.out, SL.out]) (by rw [E3.out, ES.out, SL.out]), (by repeat (first | exact Ext.refl _ | with_reducible assumption | apply Ext.alloc | apply Ext.drew | apply Ext.drewN | (refine Ext.setRow ?_ (by first | (simp; done) | (simp; omega) | omega) _) | (refine Ext.setCell ?_ (by first | (simp; done) | (simp; omega) | omega) _) | (refine Ext.trans ?_ (by with_reducible assumption))))⟩

set_option maxHeartbeats 3200000 in
theorem rdPlus_nn (na ea nb eb : Int) (ha : dyB na ea = true) (hb : dyB nb eb = true) (h0 : na ≠ 0) (h1 : nb ≠ 0) (hl : ¬ ea < eb) (hr : rmB 60 na ea nb eb = false) (w : World) : Calls Tryd.prog 37 #[two na ea, two nb eb] w fun rv w' => rv = .returned (.tuple #[two (suN na ea nb eb) (suE na ea nb eb), .bool (suB na ea nb eb)]) ∧ Ext w w' := by
  obtain ⟨⟨a1, a2, a3, a4⟩, _⟩ := dy_iff.1 ha
  obtain ⟨⟨b1, b2, b3, b4⟩, _⟩ := dy_iff.1 hb
  have pa := (top_bd ha).2.2
  have pb := (top_bd hb).2.2
  have pa1 := pa.1; have pa2 := pa.2; have pb1 := pb.1; have pb2 := pb.2
  clear pa pb
  obtain ⟨e1, e2, e3⟩ := su_no h0 h1 hr
  have E1 := Lib.hid e1; have E2 := Lib.hid e2; have E3 := Lib.hid e3; clear e1 e2 e3
  have k0 : (na == 0) = false := by simpa using h0
  have k1 : (nb == 0) = false := by simpa using h1
  have sl : suL ea eb = eb := by unfold suL; omega
  have k2 : IntKind.i64.wrap (plV na + ea) = plV na + ea := IntWalk.i64_in _ (by omega)
  have k3 : IntKind.i64.wrap (plV na + ea - eb) = plV na + ea - eb := IntWalk.i64_in _ (by omega)
  have r1 : ¬ plV na + ea - eb ≤ 60 := by
    intro h
    rw [room_any.2 (by rw [sl]; omega)] at hr
    cases hr
  clear hr h0 h1 sl
  go_enter Tryd.func37, Tryd.ntmps37
  go_wp2_with fail
  go_region_held3 (fun w' => w'.cell? ⟨w.heap.size, 0, none⟩ = some (.int .i64 na) ∧ w'.cell? ⟨w.heap.size, 1, none⟩ = some (.int .i64 ea) ∧ w'.cell? ⟨w.heap.size + 1, 0, none⟩ = some (.int .i64 nb) ∧ w'.cell? ⟨w.heap.size + 1, 1, none⟩ = some (.int .i64 eb) ∧ w.heap.size + 2 < w'.heap.size) ((refine ⟨?_, ?_, ?_, ?_, ?_⟩ <;> first | with_reducible assumption | ((rw [cell_setRow_far _ _ _ _ _ (by omega)]); with_reducible assumption) | ((rw [setRow_size]); with_reducible assumption) | ((repeat rw [World.cell?_setCell_far _ _ _ _ (by simp)]); with_reducible assumption) | (simp; done) | (simp [World.setCell]; first | done | omega) | (simp [go_sem, World.cell?_alloc_past, World.cell?_setCell_far, *]; done))) ((first | (go_at_call 56; refine (l1Abs_any _ (by omega) (by omega) _).mono ?_; rintro rv w1 ⟨rfl, rfl⟩) | (go_at_call 55; refine (rdBits_any _ (by omega) (by omega) _).mono ?_; rintro rv w1 ⟨rfl, rfl⟩; (try rw [plV_abs]))))
  go_wp2_with fail
  exact bodyPost_ret (v := .tuple #[two 0 0, .bool false]) (by simp [results, Tryd.results37, go_sem, *]) rfl ⟨ret_d E1.out.symm E2.out.symm E3.out.symm, (by repeat (first | exact Ext.refl _ | with_reducible assumption | apply Ext.alloc | apply Ext.drew | apply Ext.drewN | (refine Ext.setRow ?_ (by first | (simp; done) | (simp; omega) | omega) _) | (refine Ext.setCell ?_ (by first | (simp; done) | (simp; omega) | omega) _) | (refine Ext.trans ?_ (by with_reducible assumption))))⟩

set_option maxHeartbeats 3200000 in
theorem rdPlus_ny (na ea nb eb : Int) (ha : dyB na ea = true) (hb : dyB nb eb = true) (h0 : na ≠ 0) (h1 : nb ≠ 0) (hl : ¬ ea < eb) (hr : rmB 60 na ea nb eb = true) (w : World) : Calls Tryd.prog 37 #[two na ea, two nb eb] w fun rv w' => rv = .returned (.tuple #[two (suN na ea nb eb) (suE na ea nb eb), .bool (suB na ea nb eb)]) ∧ Ext w w' := by
  obtain ⟨⟨a1, a2, a3, a4⟩, _⟩ := dy_iff.1 ha
  obtain ⟨⟨b1, b2, b3, b4⟩, _⟩ := dy_iff.1 hb
  have pa := (top_bd ha).2.2
  have pb := (top_bd hb).2.2
  have pa1 := pa.1; have pa2 := pa.2; have pb1 := pb.1; have pb2 := pb.2
  clear pa pb
  obtain ⟨e1, e2, e3⟩ := su_yes h0 h1 hr
  have E1 := Lib.hid e1; have E2 := Lib.hid e2; have E3 := Lib.hid e3; clear e1 e2 e3
  have k0 : (na == 0) = false := by simpa using h0
  have k1 : (nb == 0) = false := by simpa using h1
  have sl : suL ea eb = eb := by unfold suL; omega
  have k2 : IntKind.i64.wrap (plV na + ea) = plV na + ea := IntWalk.i64_in _ (by omega)
  have k3 : IntKind.i64.wrap (plV na + ea - eb) = plV na + ea - eb := IntWalk.i64_in _ (by omega)
  have r0 := room_any.1 hr
  rw [sl] at r0
  have r1 : plV na + ea - eb ≤ 60 := by omega
  have bd := su_bd ha hb (by decide) hr
  have es : suS na ea nb eb = na * pw (ea - eb) + nb := by
    unfold suS; rw [sl]
    rw [show eb - eb = 0 by omega, show nb * pw 0 = nb from Int.mul_one _]
  rw [sl] at bd
  have b1 := bd.1.1
  have b2 := bd.1.2
  have j1 : 0 ≤ ea - eb := by omega
  have j2 : ea - eb ≤ 62 := by omega
  have k4 : IntKind.i64.wrap (ea - eb) = ea - eb := IntWalk.i64_in _ (by omega)
  have k5 : IntKind.i64.wrap (na * pw (ea - eb)) = na * pw (ea - eb) := IntWalk.i64_in _ (by omega)
  have k6 : IntKind.i64.wrap (na * pw (ea - eb) + nb) = na * pw (ea - eb) + nb := IntWalk.i64_in _ (by omega)
  have ES := Lib.hid es; have SL := Lib.hid sl; clear es sl bd hr r0 h0 h1
  go_enter Tryd.func37, Tryd.ntmps37
  go_wp2_with fail
  go_region_held3 (fun w' => w'.cell? ⟨w.heap.size, 0, none⟩ = some (.int .i64 na) ∧ w'.cell? ⟨w.heap.size, 1, none⟩ = some (.int .i64 ea) ∧ w'.cell? ⟨w.heap.size + 1, 0, none⟩ = some (.int .i64 nb) ∧ w'.cell? ⟨w.heap.size + 1, 1, none⟩ = some (.int .i64 eb) ∧ w.heap.size + 2 < w'.heap.size) ((refine ⟨?_, ?_, ?_, ?_, ?_⟩ <;> first | with_reducible assumption | ((repeat first | rw [cell_set_far _ _ _ _ _ _ (by omega)] | rw [cell_alloc_before _ _ _ _ (by omega)] | rw [cell_alloc_drew _ _ _ _ (by omega)] | rw [cell_drew]); with_reducible assumption) | ((rw [cell_setRow_far _ _ _ _ _ (by omega)]); with_reducible assumption) | ((rw [setRow_size]); with_reducible assumption) | (simp; done) | (simp [World.setCell]; first | done | omega) | (simp [go_sem, World.cell?_alloc_past, World.cell?_setCell_far, *]; done))) ((first | (go_at_call 56; refine (l1Abs_any _ (by omega) (by omega) _).mono ?_; rintro rv w1 ⟨rfl, rfl⟩) | (go_at_call 55; refine (rdBits_any _ (by omega) (by omega) _).mono ?_; rintro rv w1 ⟨rfl, rfl⟩; (try rw [plV_abs]))))
  go_wp2_with fail
  go_region_held3 (fun w' => w'.cell? ⟨w.heap.size, 0, none⟩ = some (.int .i64 na) ∧ w'.cell? ⟨w.heap.size, 1, none⟩ = some (.int .i64 ea) ∧ w'.cell? ⟨w.heap.size + 1, 0, none⟩ = some (.int .i64 nb) ∧ w'.cell? ⟨w.heap.size + 1, 1, none⟩ = some (.int .i64 eb) ∧ w.heap.size + 2 < w'.heap.size) ((refine ⟨?_, ?_, ?_, ?_, ?_⟩ <;> first | with_reducible assumption | ((repeat first | rw [cell_set_far _ _ _ _ _ _ (by omega)] | rw [cell_alloc_before _ _ _ _ (by omega)] | rw [cell_alloc_drew _ _ _ _ (by omega)] | rw [cell_drew]); with_reducible assumption) | ((rw [cell_setRow_far _ _ _ _ _ (by omega)]); with_reducible assumption) | ((rw [setRow_size]); with_reducible assumption) | (simp; done) | (simp [World.setCell]; first | done | omega) | (simp [go_sem, World.cell?_alloc_past, World.cell?_setCell_far, *]; done))) ((first | (go_at_call 57; refine (rdPower_any _ (by omega) (by omega) _).mono ?_; rintro rv w1 ⟨rfl, rfl⟩) | (go_at_call 26; refine (rdShort_any _ _ (by omega) (by omega) (by omega) (by omega) _).mono ?_; rintro rv w1 ⟨rfl, hb⟩; have ns : w.heap.size + 2 < w1.heap.size := hb.lt (by first | with_reducible assumption | omega | (simp; done) | (simp; omega)); have n0 : w1.cell? ⟨w.heap.size, 0, none⟩ = some (.int .i64 na) := (hb.cells _ _ (by first | with_reducible assumption | omega | (simp; done) | (simp; omega))).trans (by first | with_reducible assumption | (simp; done) | (simp; with_reducible assumption) | (rw [cell_alloc_before _ _ _ _ (by omega)]; with_reducible assumption) | (simp [go_sem, *]; done)); have n1 : w1.cell? ⟨w.heap.size, 1, none⟩ = some (.int .i64 ea) := (hb.cells _ _ (by first | with_reducible assumption | omega | (simp; done) | (simp; omega))).trans (by first | with_reducible assumption | (simp; done) | (simp; with_reducible assumption) | (rw [cell_alloc_before _ _ _ _ (by omega)]; with_reducible assumption) | (simp [go_sem, *]; done)); have n2 : w1.cell? ⟨w.heap.size + 1, 0, none⟩ = some (.int .i64 nb) := (hb.cells _ _ (by first | with_reducible assumption | omega | (simp; done) | (simp; omega))).trans (by first | with_reducible assumption | (simp; done) | (simp; with_reducible assumption) | (rw [cell_alloc_before _ _ _ _ (by omega)]; with_reducible assumption) | (simp [go_sem, *]; done)); have n3 : w1.cell? ⟨w.heap.size + 1, 1, none⟩ = some (.int .i64 eb) := (hb.cells _ _ (by first | with_reducible assumption | omega | (simp; done) | (simp; omega))).trans (by first | with_reducible assumption | (simp; done) | (simp; with_reducible assumption) | (rw [cell_alloc_before _ _ _ _ (by omega)]; with_reducible assumption) | (simp [go_sem, *]; done)); have n4 : w1.cell? ⟨w.heap.size + 2, 0, none⟩ = some (.int .i64 0) := (hb.cells _ _ (by first | with_reducible assumption | omega | (simp; done) | (simp; omega))).trans (by first | with_reducible assumption | (simp; done) | (simp; with_reducible assumption) | (rw [cell_alloc_before _ _ _ _ (by omega)]; with_reducible assumption) | (simp [go_sem, *]; done)); have n5 : w1.cell? ⟨w.heap.size + 2, 1, none⟩ = some (.int .i64 0) := (hb.cells _ _ (by first | with_reducible assumption | omega | (simp; done) | (simp; omega))).trans (by first | with_reducible assumption | (simp; done) | (simp; with_reducible assumption) | (rw [cell_alloc_before _ _ _ _ (by omega)]; with_reducible assumption) | (simp [go_sem, *]; done)); have nz0 : w1.frozen? ⟨w.heap.size + 2, 0, none⟩ = false := (hb.frz _ _ (by first | with_reducible assumption | omega | (simp; done) | (simp; omega))).trans (by first | with_reducible assumption | (simp [go_sem]; done) | (simp [go_sem]; with_reducible assumption)); have nz1 : w1.frozen? ⟨w.heap.size + 2, 1, none⟩ = false := (hb.frz _ _ (by first | with_reducible assumption | omega | (simp; done) | (simp; omega))).trans (by first | with_reducible assumption | (simp [go_sem]; done) | (simp [go_sem]; with_reducible assumption)); (first | (have nx := Ext.trans hx hb; clear hx) | (have nx := Ext.trans (hx.alloc _) hb; clear hx) | (have nx := Ext.trans hx.drew hb; clear hx) | have nx := hb); clear hb; try clear hs; try clear g0; try clear g1; try clear g2; try clear g3; try clear g4; try clear g5; try clear z0; try clear z1; have hx := nx; clear nx; have hs := ns; clear ns; have g0 := n0; clear n0; have g1 := n1; clear n1; have g2 := n2; clear n2; have g3 := n3; clear n3; have g4 := n4; clear n4; have g5 := n5; clear n5; have z0 := nz0; clear nz0; have z1 := nz1; clear nz1) | (go_at_call 25; refine (rdIf_any _ _ _).mono ?_; rintro rv w1 ⟨rfl, hb⟩; have ns : w.heap.size + 2 < w1.heap.size := hb.lt (by first | with_reducible assumption | omega | (simp; done) | (simp; omega)); have n0 : w1.cell? ⟨w.heap.size, 0, none⟩ = some (.int .i64 na) := (hb.cells _ _ (by first | with_reducible assumption | omega | (simp; done) | (simp; omega))).trans (by first | with_reducible assumption | (simp; done) | (simp; with_reducible assumption) | (rw [cell_alloc_before _ _ _ _ (by omega)]; with_reducible assumption) | (simp [go_sem, *]; done)); have n1 : w1.cell? ⟨w.heap.size, 1, none⟩ = some (.int .i64 ea) := (hb.cells _ _ (by first | with_reducible assumption | omega | (simp; done) | (simp; omega))).trans (by first | with_reducible assumption | (simp; done) | (simp; with_reducible assumption) | (rw [cell_alloc_before _ _ _ _ (by omega)]; with_reducible assumption) | (simp [go_sem, *]; done)); have n2 : w1.cell? ⟨w.heap.size + 1, 0, none⟩ = some (.int .i64 nb) := (hb.cells _ _ (by first | with_reducible assumption | omega | (simp; done) | (simp; omega))).trans (by first | with_reducible assumption | (simp; done) | (simp; with_reducible assumption) | (rw [cell_alloc_before _ _ _ _ (by omega)]; with_reducible assumption) | (simp [go_sem, *]; done)); have n3 : w1.cell? ⟨w.heap.size + 1, 1, none⟩ = some (.int .i64 eb) := (hb.cells _ _ (by first | with_reducible assumption | omega | (simp; done) | (simp; omega))).trans (by first | with_reducible assumption | (simp; done) | (simp; with_reducible assumption) | (rw [cell_alloc_before _ _ _ _ (by omega)]; with_reducible assumption) | (simp [go_sem, *]; done)); have n4 : w1.cell? ⟨w.heap.size + 2, 0, none⟩ = some (.int .i64 0) := (hb.cells _ _ (by first | with_reducible assumption | omega | (simp; done) | (simp; omega))).trans (by first | with_reducible assumption | (simp; done) | (simp; with_reducible assumption) | (rw [cell_alloc_before _ _ _ _ (by omega)]; with_reducible assumption) | (simp [go_sem, *]; done)); have n5 : w1.cell? ⟨w.heap.size + 2, 1, none⟩ = some (.int .i64 0) := (hb.cells _ _ (by first | with_reducible assumption | omega | (simp; done) | (simp; omega))).trans (by first | with_reducible assumption | (simp; done) | (simp; with_reducible assumption) | (rw [cell_alloc_before _ _ _ _ (by omega)]; with_reducible assumption) | (simp [go_sem, *]; done)); have nz0 : w1.frozen? ⟨w.heap.size + 2, 0, none⟩ = false := (hb.frz _ _ (by first | with_reducible assumption | omega | (simp; done) | (simp; omega))).trans (by first | with_reducible assumption | (simp [go_sem]; done) | (simp [go_sem]; with_reducible assumption)); have nz1 : w1.frozen? ⟨w.heap.size + 2, 1, none⟩ = false := (hb.frz _ _ (by first | with_reducible assumption | omega | (simp; done) | (simp; omega))).trans (by first | with_reducible assumption | (simp [go_sem]; done) | (simp [go_sem]; with_reducible assumption)); (first | (have nx := Ext.trans hx hb; clear hx) | (have nx := Ext.trans (hx.alloc _) hb; clear hx) | (have nx := Ext.trans hx.drew hb; clear hx) | have nx := hb); clear hb; try clear hs; try clear g0; try clear g1; try clear g2; try clear g3; try clear g4; try clear g5; try clear z0; try clear z1; have hx := nx; clear nx; have hs := ns; clear ns; have g0 := n0; clear n0; have g1 := n1; clear n1; have g2 := n2; clear n2; have g3 := n3; clear n3; have g4 := n4; clear n4; have g5 := n5; clear n5; have z0 := nz0; clear nz0; have z1 := nz1; clear nz1)))
  go_wp2_with fail
  exact bodyPost_ret (v := .tuple #[two (nfN (na * pw (ea - eb) + nb) eb) (nfE (na * pw (ea - eb) + nb) eb), .bool (nfB (na * pw (ea - eb) + nb) eb)]) (by simp [results, Tryd.results37, go_sem, *]) rfl ⟨ret_d (by rw [E1.out, ES.out, SL.out]) (by rw [E2.out, ES.out, SL.out]) (by rw [E3.out, ES.out, SL.out]), (by repeat (first | exact Ext.refl _ | with_reducible assumption | apply Ext.alloc | apply Ext.drew | apply Ext.drewN | (refine Ext.setRow ?_ (by first | (simp; done) | (simp; omega) | omega) _) | (refine Ext.setCell ?_ (by first | (simp; done) | (simp; omega) | omega) _) | (refine Ext.trans ?_ (by with_reducible assumption))))⟩

end Go.Proofs.YtmffoiofbiclgaaDoor
