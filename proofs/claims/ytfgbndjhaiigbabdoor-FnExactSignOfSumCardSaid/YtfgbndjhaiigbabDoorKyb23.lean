/-
  Contracts of the functions that the laws reach, and the plain facts that they rest on, each under the conditions that its line names; part 23.
-/
import Derived.Test.YtfgbndjhaiigbabDoorKyb1
import Derived.Test.YtfgbndjhaiigbabDoorKyb2
import Derived.Test.YtfgbndjhaiigbabDoorKyb3
import Derived.Test.YtfgbndjhaiigbabDoorKyb4
import Derived.Test.YtfgbndjhaiigbabDoorKyb5
import Derived.Test.YtfgbndjhaiigbabDoorKyb6
import Derived.Test.YtfgbndjhaiigbabDoorKyb7
import Derived.Test.YtfgbndjhaiigbabDoorKyb22
import Derived.Test.YtfgbndjhaiigbabDoorRows
import Derived.WalkKit
import Derived.LoopTactic
import Derived.Laws.Bits64b
import Derived.WalkSpells
import Derived.WalkLawsBesides
import Derived.StillTactics
import Derived.Laws.Pointers
import Derived.Deep.RegionHeld3
import Derived.Deep.QuietTactic
import Derived.BigQuiet
import Derived.Outline
import Derived.Lib.Hide
import Derived.RowKit3
import Derived.Carry
import Derived.IntWalk
namespace Go.Proofs.YtfgbndjhaiigbabDoor
open Go Go.RowKit
set_option linter.unusedSimpArgs false
set_option linter.unusedVariables false

theorem nf_bool (S l : Int) (b : Bool) (N E : Int) (hb : nfB S l = b) (hn : nfN S l = N) (he : nfE S l = E) : Ending.returned (.tuple #[two N E, .bool b]) = .returned (.tuple #[two (nfN S l) (nfE S l), .bool (nfB S l)]) := by rw [hb, hn, he]

theorem frz_ab (w : World) (A : Obj) (k o : Nat) (h : k < w.heap.size) : (w.alloc A).frozen? ⟨k, o, none⟩ = w.frozen? ⟨k, o, none⟩ := (Ext.new w A).frz k o h

theorem nf_cases (n d : Int) : (dyB (odV n) (shE n d) = false → nfB n d = false ∧ nfN n d = 0 ∧ nfE n d = 0) ∧ (dyB (odV n) (shE n d) = true → nfB n d = true ∧ nfN n d = odV n ∧ nfE n d = shE n d) := by
  by_cases h0 : n = 0
  · subst h0
    have q := nf_zero (S := 0) (l := d) rfl
    rw [od_zero, show shE 0 d = 0 from rfl]
    exact ⟨fun h => absurd h (by decide), fun _ => q⟩
  · rw [show shE n d = d + tzV n from if_neg h0]
    exact ⟨fun h => nf_no h0 h, fun h => nf_yes h0 h⟩

theorem withOdd_any (n d : Int) (h1 : -9223372036854775808 < n) (h2 : n < 9223372036854775808) (h3 : -1000000 ≤ d) (h4 : d ≤ 1000000) (w : World) (hT : TW w) : Calls Tryd.prog 102 #[.int .i64 n, .int .i64 d] w fun rv w' => rv = .returned (two (odV n) (shE n d)) ∧ Ext w w' := by
  by_cases h0 : n = 0
  · subst h0
    rw [od_zero, show shE 0 d = 0 from rfl]
    go_enter Tryd.func102, Tryd.ntmps102
    go_wp2
    exact bodyPost_ret (v := two 0 0) (by simp [results, Tryd.results102, go_sem, *]) rfl ⟨rfl, (by repeat (first | exact Ext.refl _ | with_reducible assumption | apply Ext.alloc | apply Ext.drew | apply Ext.drewN | (refine Ext.setRow ?_ (by first | (simp; done) | (simp; omega) | omega) _) | (refine Ext.setCell ?_ (by first | (simp; done) | (simp; omega) | omega) _) | (refine Ext.trans ?_ (by with_reducible assumption))))⟩
  · have kz : (n == 0) = false := by simpa using h0
    obtain ⟨t0, t1, t2, t3⟩ := tz_spec n h0 h1 h2
    have T2 := Lib.hid t2; clear t2
    have p1 := pw_of (tzV n)
    have p2 : n / pw (tzV n) = odV n := rfl
    have k3 : IntKind.i64.wrap (d + tzV n) = d + tzV n := IntWalk.i64_in _ (by omega)
    rw [show shE n d = d + tzV n from if_neg h0]
    go_enter Tryd.func102, Tryd.ntmps102
    go_wp2_with (go_at_call 140; refine (tz_any _ h0 h1 h2 _ (hT.ext (by repeat (first | exact Ext.refl _ | with_reducible assumption | apply Ext.alloc | apply Ext.drew | apply Ext.drewN | (refine Ext.setRow ?_ (by first | (simp; done) | (simp; omega) | omega) _) | (refine Ext.setCell ?_ (by first | (simp; done) | (simp; omega) | omega) _) | (refine Ext.trans ?_ (by with_reducible assumption)))))).mono ?_; rintro rv w1 ⟨rfl, rfl⟩)
    exact bodyPost_ret (v := two (odV n) (d + tzV n)) (by simp [results, Tryd.results102, go_sem, *]) rfl ⟨rfl, (by repeat (first | exact Ext.refl _ | with_reducible assumption | apply Ext.alloc | apply Ext.drew | apply Ext.drewN | (refine Ext.setRow ?_ (by first | (simp; done) | (simp; omega) | omega) _) | (refine Ext.setCell ?_ (by first | (simp; done) | (simp; omega) | omega) _) | (refine Ext.trans ?_ (by with_reducible assumption))))⟩

set_option maxHeartbeats 800000 in
theorem lowest_any (n d : Int) (h1 : -9223372036854775808 < n) (h2 : n < 9223372036854775808) (h3 : -1000000 ≤ d) (h4 : d ≤ 1000000) (w : World) (hT : TW w) : Calls Tryd.prog 51 #[.int .i64 n, .int .i64 d] w fun rv w' => rv = .returned (.tuple #[two (nfN n d) (nfE n d), .bool (nfB n d)]) ∧ Ext w w' := by
  have WA := Lib.hid (fun w hT => withOdd_any n d h1 h2 h3 h4 w hT)
  have ID := Lib.hid (fun w => iIsDyadic_any (odV n) (shE n d) w)
  obtain ⟨c1, c2⟩ := nf_cases n d
  cases hg : dyB (odV n) (shE n d)
  · obtain ⟨e1, e2, e3⟩ := c1 hg
    have H := Lib.hid (nf_bool n d _ _ _ e1 e2 e3); clear e1 e2 e3 c1 c2
    rw [hg] at ID
    generalize odV n = N at *
    generalize shE n d = E at *
    go_enter Tryd.func51, Tryd.ntmps51
    go_wp2_with (first | (go_at_call 102; refine (WA.out _ (hT.ext (by repeat (first | exact Ext.refl _ | with_reducible assumption | apply Ext.alloc | apply Ext.drew | apply Ext.drewN | (refine Ext.setRow ?_ (by first | (simp; done) | (simp; omega) | omega) _) | (refine Ext.setCell ?_ (by first | (simp; done) | (simp; omega) | omega) _) | (refine Ext.trans ?_ (by with_reducible assumption)))))).mono ?_; rintro rv w1 ⟨rfl, hb⟩; have ns : w.heap.size < w1.heap.size := hb.lt (by first | with_reducible assumption | omega | (simp; done) | (simp; omega)); have n0 : w1.cell? ⟨w.heap.size, 0, none⟩ = some (.int .i64 0) := (hb.cells _ _ (by first | with_reducible assumption | omega | (simp; done) | (simp; omega))).trans (by first | with_reducible assumption | (simp; done) | (simp; with_reducible assumption) | (rw [cell_alloc_before _ _ _ _ (by omega)]; with_reducible assumption) | (simp [go_sem, *]; done)); have n1 : w1.cell? ⟨w.heap.size, 1, none⟩ = some (.int .i64 0) := (hb.cells _ _ (by first | with_reducible assumption | omega | (simp; done) | (simp; omega))).trans (by first | with_reducible assumption | (simp; done) | (simp; with_reducible assumption) | (rw [cell_alloc_before _ _ _ _ (by omega)]; with_reducible assumption) | (simp [go_sem, *]; done)); have nz0 : w1.frozen? ⟨w.heap.size, 0, none⟩ = false := (hb.frz _ _ (by first | with_reducible assumption | omega | (simp; done) | (simp; omega))).trans (by first | with_reducible assumption | (simp [go_sem]; done) | (simp [go_sem]; with_reducible assumption)); have nz1 : w1.frozen? ⟨w.heap.size, 1, none⟩ = false := (hb.frz _ _ (by first | with_reducible assumption | omega | (simp; done) | (simp; omega))).trans (by first | with_reducible assumption | (simp [go_sem]; done) | (simp [go_sem]; with_reducible assumption)); (first | (have nx := Ext.trans hx hb; clear hx) | (have nx := Ext.trans (hx.alloc _) hb; clear hx) | (have nx := Ext.trans hx.drew hb; clear hx) | have nx := hb); clear hb; try clear hs; try clear g0; try clear g1; try clear z0; try clear z1; have hx := nx; clear nx; have hs := ns; clear ns; have g0 := n0; clear n0; have g1 := n1; clear n1; have z0 := nz0; clear nz0; have z1 := nz1; clear nz1) | (go_at_call 103; refine (ID.out _).mono ?_; rintro rv w2 ⟨rfl, hb⟩; have p0 : w2.cell? ⟨w1.heap.size, 0, none⟩ = some (.int .i64 N) := (hb.cells _ _ (by simp)).trans (by simp); have p1 : w2.cell? ⟨w1.heap.size, 1, none⟩ = some (.int .i64 E) := (hb.cells _ _ (by simp)).trans (by simp [go_sem]); have q0 : w2.cell? ⟨w.heap.size, 0, none⟩ = some (.int .i64 0) := (hb.cells _ _ (by simp; omega)).trans ((cell_alloc_before _ _ _ _ ns).trans n0); have q1 : w2.cell? ⟨w.heap.size, 1, none⟩ = some (.int .i64 0) := (hb.cells _ _ (by simp; omega)).trans ((cell_alloc_before _ _ _ _ ns).trans n1); have y0 : w2.frozen? ⟨w.heap.size, 0, none⟩ = false := (hb.frz _ _ (by simp; omega)).trans ((frz_ab _ _ _ _ ns).trans nz0); have y1 : w2.frozen? ⟨w.heap.size, 1, none⟩ = false := (hb.frz _ _ (by simp; omega)).trans ((frz_ab _ _ _ _ ns).trans nz1); have hx2 : Ext w w2 := Ext.trans (by repeat (first | exact Ext.refl _ | with_reducible assumption | apply Ext.alloc | apply Ext.drew | apply Ext.drewN | (refine Ext.setRow ?_ (by first | (simp; done) | (simp; omega) | omega) _) | (refine Ext.setCell ?_ (by first | (simp; done) | (simp; omega) | omega) _) | (refine Ext.trans ?_ (by with_reducible assumption)))) hb; clear hb n0 n1 nz0 nz1))
    exact bodyPost_ret (v := .tuple #[two (0) (0), .bool false]) (by simp [results, Tryd.results51, go_sem, *]) rfl ⟨H.out, (by repeat (first | exact Ext.refl _ | with_reducible assumption | apply Ext.alloc | apply Ext.drew | apply Ext.drewN | (refine Ext.setRow ?_ (by first | (simp; done) | (simp; omega) | omega) _) | (refine Ext.setCell ?_ (by first | (simp; done) | (simp; omega) | omega) _) | (refine Ext.trans ?_ (by with_reducible assumption))))⟩
  · obtain ⟨e1, e2, e3⟩ := c2 hg
    have H := Lib.hid (nf_bool n d _ _ _ e1 e2 e3); clear e1 e2 e3 c1 c2
    rw [hg] at ID
    generalize odV n = N at *
    generalize shE n d = E at *
    go_enter Tryd.func51, Tryd.ntmps51
    go_wp2_with (first | (go_at_call 102; refine (WA.out _ (hT.ext (by repeat (first | exact Ext.refl _ | with_reducible assumption | apply Ext.alloc | apply Ext.drew | apply Ext.drewN | (refine Ext.setRow ?_ (by first | (simp; done) | (simp; omega) | omega) _) | (refine Ext.setCell ?_ (by first | (simp; done) | (simp; omega) | omega) _) | (refine Ext.trans ?_ (by with_reducible assumption)))))).mono ?_; rintro rv w1 ⟨rfl, hb⟩; have ns : w.heap.size < w1.heap.size := hb.lt (by first | with_reducible assumption | omega | (simp; done) | (simp; omega)); have n0 : w1.cell? ⟨w.heap.size, 0, none⟩ = some (.int .i64 0) := (hb.cells _ _ (by first | with_reducible assumption | omega | (simp; done) | (simp; omega))).trans (by first | with_reducible assumption | (simp; done) | (simp; with_reducible assumption) | (rw [cell_alloc_before _ _ _ _ (by omega)]; with_reducible assumption) | (simp [go_sem, *]; done)); have n1 : w1.cell? ⟨w.heap.size, 1, none⟩ = some (.int .i64 0) := (hb.cells _ _ (by first | with_reducible assumption | omega | (simp; done) | (simp; omega))).trans (by first | with_reducible assumption | (simp; done) | (simp; with_reducible assumption) | (rw [cell_alloc_before _ _ _ _ (by omega)]; with_reducible assumption) | (simp [go_sem, *]; done)); have nz0 : w1.frozen? ⟨w.heap.size, 0, none⟩ = false := (hb.frz _ _ (by first | with_reducible assumption | omega | (simp; done) | (simp; omega))).trans (by first | with_reducible assumption | (simp [go_sem]; done) | (simp [go_sem]; with_reducible assumption)); have nz1 : w1.frozen? ⟨w.heap.size, 1, none⟩ = false := (hb.frz _ _ (by first | with_reducible assumption | omega | (simp; done) | (simp; omega))).trans (by first | with_reducible assumption | (simp [go_sem]; done) | (simp [go_sem]; with_reducible assumption)); (first | (have nx := Ext.trans hx hb; clear hx) | (have nx := Ext.trans (hx.alloc _) hb; clear hx) | (have nx := Ext.trans hx.drew hb; clear hx) | have nx := hb); clear hb; try clear hs; try clear g0; try clear g1; try clear z0; try clear z1; have hx := nx; clear nx; have hs := ns; clear ns; have g0 := n0; clear n0; have g1 := n1; clear n1; have z0 := nz0; clear nz0; have z1 := nz1; clear nz1) | (go_at_call 103; refine (ID.out _).mono ?_; rintro rv w2 ⟨rfl, hb⟩; have p0 : w2.cell? ⟨w1.heap.size, 0, none⟩ = some (.int .i64 N) := (hb.cells _ _ (by simp)).trans (by simp); have p1 : w2.cell? ⟨w1.heap.size, 1, none⟩ = some (.int .i64 E) := (hb.cells _ _ (by simp)).trans (by simp [go_sem]); have q0 : w2.cell? ⟨w.heap.size, 0, none⟩ = some (.int .i64 0) := (hb.cells _ _ (by simp; omega)).trans ((cell_alloc_before _ _ _ _ ns).trans n0); have q1 : w2.cell? ⟨w.heap.size, 1, none⟩ = some (.int .i64 0) := (hb.cells _ _ (by simp; omega)).trans ((cell_alloc_before _ _ _ _ ns).trans n1); have y0 : w2.frozen? ⟨w.heap.size, 0, none⟩ = false := (hb.frz _ _ (by simp; omega)).trans ((frz_ab _ _ _ _ ns).trans nz0); have y1 : w2.frozen? ⟨w.heap.size, 1, none⟩ = false := (hb.frz _ _ (by simp; omega)).trans ((frz_ab _ _ _ _ ns).trans nz1); have hx2 : Ext w w2 := Ext.trans (by repeat (first | exact Ext.refl _ | with_reducible assumption | apply Ext.alloc | apply Ext.drew | apply Ext.drewN | (refine Ext.setRow ?_ (by first | (simp; done) | (simp; omega) | omega) _) | (refine Ext.setCell ?_ (by first | (simp; done) | (simp; omega) | omega) _) | (refine Ext.trans ?_ (by with_reducible assumption)))) hb; clear hb n0 n1 nz0 nz1))
    exact bodyPost_ret (v := .tuple #[two (N) (E), .bool true]) (by simp [results, Tryd.results51, go_sem, *]) rfl ⟨H.out, (by repeat (first | exact Ext.refl _ | with_reducible assumption | apply Ext.alloc | apply Ext.drew | apply Ext.drewN | (refine Ext.setRow ?_ (by first | (simp; done) | (simp; omega) | omega) _) | (refine Ext.setCell ?_ (by first | (simp; done) | (simp; omega) | omega) _) | (refine Ext.trans ?_ (by with_reducible assumption))))⟩
end Go.Proofs.YtfgbndjhaiigbabDoor

namespace Go.Proofs.YtfgbndjhaiigbabDoor
open Go Go.RowKit
set_option linter.unusedSimpArgs false
set_option linter.unusedVariables false

theorem ret_d {a b a' b' : Int} {c c' : Bool} (hc : c = c') (ha : a = a') (hb : b = b') : Ending.returned (.tuple #[two a b, .bool c]) = .returned (.tuple #[two a' b', .bool c']) := by rw [ha, hb, hc]
end Go.Proofs.YtfgbndjhaiigbabDoor

namespace Go.Proofs.YtfgbndjhaiigbabDoor
open Go Go.RowKit
set_option linter.unusedSimpArgs false
set_option linter.unusedVariables false

theorem su_za {na ea nb eb : Int} (h : na = 0) : suB na ea nb eb = true ∧ suN na ea nb eb = nb ∧ suE na ea nb eb = eb := by
  unfold suB suN suE; rw [if_pos h, if_pos h]; simp [h]

theorem su_zb {na ea nb eb : Int} (h0 : na ≠ 0) (h : nb = 0) : suB na ea nb eb = true ∧ suN na ea nb eb = na ∧ suE na ea nb eb = ea := by
  unfold suB suN suE; rw [if_neg h0, if_neg h0, if_pos h, if_pos h]; simp [h]

theorem su_no {na ea nb eb : Int} (h0 : na ≠ 0) (h1 : nb ≠ 0) (h : rmB 60 na ea nb eb = false) : suB na ea nb eb = false ∧ suN na ea nb eb = 0 ∧ suE na ea nb eb = 0 := by
  unfold suB suN suE; rw [if_neg h0, if_neg h0, if_neg h1, if_neg h1, h]; simp [h0, h1]

theorem su_yes {na ea nb eb : Int} (h0 : na ≠ 0) (h1 : nb ≠ 0) (h : rmB 60 na ea nb eb = true) : suB na ea nb eb = nfB (suS na ea nb eb) (suL ea eb) ∧ suN na ea nb eb = nfN (suS na ea nb eb) (suL ea eb) ∧ suE na ea nb eb = nfE (suS na ea nb eb) (suL ea eb) := by
  unfold suB suN suE; rw [if_neg h0, if_neg h0, if_neg h1, if_neg h1, h]; simp [h0, h1]

theorem su_off {na ea nb eb : Int} (ha : dyB na ea = true) (hb : dyB nb eb = true) (h0 : na ≠ 0) (h1 : nb ≠ 0) (h : rmB 62 na ea nb eb = true) : suB na ea nb eb = nfB (suS na ea nb eb) (suL ea eb) ∧ suN na ea nb eb = nfN (suS na ea nb eb) (suL ea eb) ∧ suE na ea nb eb = nfE (suS na ea nb eb) (suL ea eb) := by
  cases h6 : rmB 60 na ea nb eb
  · obtain ⟨e1, e2, e3⟩ := su_no h0 h1 h6
    have f1 := su_far ha hb h0 h1 h h6
    have f0 : suS na ea nb eb ≠ 0 := by
      intro hz
      rw [hz] at f1
      have := (nf_zero (S := 0) (l := suL ea eb) rfl).1
      rw [this] at f1; cases f1
    have f2 : dyB (odV (suS na ea nb eb)) (suL ea eb + tzV (suS na ea nb eb)) = false := by
      unfold nfB at f1
      simp at f1
      exact f1.2
    obtain ⟨n1, n2, n3⟩ := nf_no f0 f2
    rw [e1, e2, e3, n1, n2, n3]
    exact ⟨rfl, rfl, rfl⟩
  · exact su_yes h0 h1 h6

theorem su_none {na ea nb eb : Int} (h0 : na ≠ 0) (h1 : nb ≠ 0) (h : rmB 62 na ea nb eb = false) : suB na ea nb eb = false ∧ suN na ea nb eb = 0 ∧ suE na ea nb eb = 0 := by
  refine su_no h0 h1 ?_
  cases h6 : rmB 60 na ea nb eb
  · rfl
  · have := room_any.1 h6
    rw [room_any.2 (show plV na + (ea - suL ea eb) ≤ 62 ∧ plV nb + (eb - suL ea eb) ≤ 62 by omega)] at h
    cases h

theorem shifted_no (n d k : Int) (hg : dyB n d = true) (hk : -100 ≤ k) (hk2 : k ≤ d) (h : 62 < plV n + (d - k)) (w : World) : Calls Tryd.prog 156 #[two n d, .int .i64 k] w fun rv w' => rv = .returned (.tuple #[.int .i64 0, .bool false]) ∧ Ext w w' := by
  obtain ⟨⟨h1, h2, h3, h4⟩, _⟩ := dy_iff.1 hg
  have p1 := (top_bd hg).2.2.1
  have p2 := (top_bd hg).2.2.2
  go_enter Tryd.func156, Tryd.ntmps156
  go_wp2_with (go_at_call 173; refine (placesOf_any _ (by omega) (by omega) _).mono ?_; rintro rv w1 ⟨rfl, rfl⟩)
  go_ret2
  exact ⟨rfl, (by repeat (first | exact Ext.refl _ | with_reducible assumption | apply Ext.alloc | apply Ext.drew | apply Ext.drewN | (refine Ext.setRow ?_ (by first | (simp; done) | (simp; omega) | omega) _) | (refine Ext.setCell ?_ (by first | (simp; done) | (simp; omega) | omega) _) | (refine Ext.trans ?_ (by with_reducible assumption))))⟩

theorem shifted_yes (n d k : Int) (hg : dyB n d = true) (hk : -100 ≤ k) (hk2 : k ≤ d) (h : plV n + (d - k) ≤ 62) (w : World) : Calls Tryd.prog 156 #[two n d, .int .i64 k] w fun rv w' => rv = .returned (.tuple #[.int .i64 (n * pw (d - k)), .bool true]) ∧ Ext w w' := by
  obtain ⟨⟨h1, h2, h3, h4⟩, _⟩ := dy_iff.1 hg
  have p1 := (top_bd hg).2.2.1
  have p2 := (top_bd hg).2.2.2
  have b := mul_bd (n := n) (j := d - k) (k := 62) (by omega) h (by decide) (by omega) (by omega)
  rw [show pw 62 = 4611686018427387904 from rfl] at b
  have b1 : -4611686018427387904 < n * pw (d - k) := by omega
  have b2 : n * pw (d - k) < 4611686018427387904 := by omega
  clear b
  have k1 := pw_of (d - k)
  have k2 : IntKind.i64.wrap (n * pw (d - k)) = n * pw (d - k) := IntWalk.i64_in _ (by omega)
  have k3 : IntKind.i64.wrap (d - k) = d - k := IntWalk.i64_in _ (by omega)
  go_enter Tryd.func156, Tryd.ntmps156
  go_wp2_with (go_at_call 173; refine (placesOf_any _ (by omega) (by omega) _).mono ?_; rintro rv w1 ⟨rfl, rfl⟩)
  go_ret2
  exact ⟨rfl, (by repeat (first | exact Ext.refl _ | with_reducible assumption | apply Ext.alloc | apply Ext.drew | apply Ext.drewN | (refine Ext.setRow ?_ (by first | (simp; done) | (simp; omega) | omega) _) | (refine Ext.setCell ?_ (by first | (simp; done) | (simp; omega) | omega) _) | (refine Ext.trans ?_ (by with_reducible assumption))))⟩
end Go.Proofs.YtfgbndjhaiigbabDoor

namespace Go.Proofs.YtfgbndjhaiigbabDoor
open Go Go.RowKit
set_option linter.unusedSimpArgs false
set_option linter.unusedVariables false

theorem dy_zero {n d : Int} (h : dyB n d = true) : (n == 0 && d == 0) = (n == 0) := by
  obtain ⟨_, h5⟩ := dy_iff.1 h
  by_cases h0 : n = 0
  · subst h0; simp; omega
  · simp [h0]

set_option maxHeartbeats 1600000 in
theorem sumOf_za (na ea nb eb : Int) (ha : dyB na ea = true) (hb : dyB nb eb = true) (h0 : na = 0) (w : World) (hT : TW w) : Calls Tryd.prog 138 #[two na ea, two nb eb] w fun rv w' => rv = .returned (.tuple #[two (suN na ea nb eb) (suE na ea nb eb), .bool (suB na ea nb eb)]) ∧ Ext w w' := by
  obtain ⟨e1, e2, e3⟩ := su_za (ea := ea) (nb := nb) (eb := eb) h0
  have E1 := Lib.hid e1; have E2 := Lib.hid e2; have E3 := Lib.hid e3; clear e1 e2 e3
  have kz : ∀ w, (Instr.build 31 #[]).run Tryd.prog w = .ok (two 0 0) w := fun w => run_build w _ _ _ (by kernel_rfl)
  have q := eqDy na ea 0 0
  rw [dy_zero ha, show (na == 0) = true by simpa using h0] at q
  obtain ⟨⟨b1, b2, b3, b4⟩, _⟩ := dy_iff.1 hb
  have LW := fun (w : World) (hT : TW w) => lowest_any nb eb (by omega) (by omega) (by omega) (by omega) w hT
  obtain ⟨n1, n2, n3⟩ := nf_self hb
  rw [n1, n2, n3] at LW
  have LW := Lib.hid LW
  clear h0 b1 b2 b3 b4 n1 n2 n3
  go_enter Tryd.func138, Tryd.ntmps138
  go_wp2_with (go_at_call 51; refine (LW.out _ (hT.ext (by repeat (first | exact Ext.refl _ | with_reducible assumption | apply Ext.alloc | apply Ext.drew | apply Ext.drewN | (refine Ext.setRow ?_ (by first | (simp; done) | (simp; omega) | omega) _) | (refine Ext.setCell ?_ (by first | (simp; done) | (simp; omega) | omega) _) | (refine Ext.trans ?_ (by with_reducible assumption)))))).mono ?_; rintro rv w1 ⟨rfl, hb⟩; have ns : w.heap.size + 2 < w1.heap.size := hb.lt (by first | with_reducible assumption | omega | (simp; done) | (simp; omega)); have n0 : w1.cell? ⟨w.heap.size, 0, none⟩ = some (.int .i64 na) := (hb.cells _ _ (by first | with_reducible assumption | omega | (simp; done) | (simp; omega))).trans (by first | with_reducible assumption | (simp; done) | (simp; with_reducible assumption) | (rw [cell_alloc_before _ _ _ _ (by omega)]; with_reducible assumption) | (simp [go_sem, *]; done)); have n1 : w1.cell? ⟨w.heap.size, 1, none⟩ = some (.int .i64 ea) := (hb.cells _ _ (by first | with_reducible assumption | omega | (simp; done) | (simp; omega))).trans (by first | with_reducible assumption | (simp; done) | (simp; with_reducible assumption) | (rw [cell_alloc_before _ _ _ _ (by omega)]; with_reducible assumption) | (simp [go_sem, *]; done)); have n2 : w1.cell? ⟨w.heap.size + 1, 0, none⟩ = some (.int .i64 nb) := (hb.cells _ _ (by first | with_reducible assumption | omega | (simp; done) | (simp; omega))).trans (by first | with_reducible assumption | (simp; done) | (simp; with_reducible assumption) | (rw [cell_alloc_before _ _ _ _ (by omega)]; with_reducible assumption) | (simp [go_sem, *]; done)); have n3 : w1.cell? ⟨w.heap.size + 1, 1, none⟩ = some (.int .i64 eb) := (hb.cells _ _ (by first | with_reducible assumption | omega | (simp; done) | (simp; omega))).trans (by first | with_reducible assumption | (simp; done) | (simp; with_reducible assumption) | (rw [cell_alloc_before _ _ _ _ (by omega)]; with_reducible assumption) | (simp [go_sem, *]; done)); have n4 : w1.cell? ⟨w.heap.size + 2, 0, none⟩ = some (.int .i64 0) := (hb.cells _ _ (by first | with_reducible assumption | omega | (simp; done) | (simp; omega))).trans (by first | with_reducible assumption | (simp; done) | (simp; with_reducible assumption) | (rw [cell_alloc_before _ _ _ _ (by omega)]; with_reducible assumption) | (simp [go_sem, *]; done)); have n5 : w1.cell? ⟨w.heap.size + 2, 1, none⟩ = some (.int .i64 0) := (hb.cells _ _ (by first | with_reducible assumption | omega | (simp; done) | (simp; omega))).trans (by first | with_reducible assumption | (simp; done) | (simp; with_reducible assumption) | (rw [cell_alloc_before _ _ _ _ (by omega)]; with_reducible assumption) | (simp [go_sem, *]; done)); have nz0 : w1.frozen? ⟨w.heap.size + 2, 0, none⟩ = false := (hb.frz _ _ (by first | with_reducible assumption | omega | (simp; done) | (simp; omega))).trans (by first | with_reducible assumption | (simp [go_sem]; done) | (simp [go_sem]; with_reducible assumption)); have nz1 : w1.frozen? ⟨w.heap.size + 2, 1, none⟩ = false := (hb.frz _ _ (by first | with_reducible assumption | omega | (simp; done) | (simp; omega))).trans (by first | with_reducible assumption | (simp [go_sem]; done) | (simp [go_sem]; with_reducible assumption)); (first | (have nx := Ext.trans hx hb; clear hx) | (have nx := Ext.trans (hx.alloc _) hb; clear hx) | (have nx := Ext.trans hx.drew hb; clear hx) | have nx := hb); clear hb; try clear hs; try clear g0; try clear g1; try clear g2; try clear g3; try clear g4; try clear g5; try clear z0; try clear z1; have hx := nx; clear nx; have hs := ns; clear ns; have g0 := n0; clear n0; have g1 := n1; clear n1; have g2 := n2; clear n2; have g3 := n3; clear n3; have g4 := n4; clear n4; have g5 := n5; clear n5; have z0 := nz0; clear nz0; have z1 := nz1; clear nz1)
  exact bodyPost_ret (v := .tuple #[two (nb) (eb), .bool true]) (by simp [results, Tryd.results138, go_sem, *]) rfl ⟨ret_d E1.out.symm E2.out.symm E3.out.symm, (by repeat (first | exact Ext.refl _ | with_reducible assumption | apply Ext.alloc | apply Ext.drew | apply Ext.drewN | (refine Ext.setRow ?_ (by first | (simp; done) | (simp; omega) | omega) _) | (refine Ext.setCell ?_ (by first | (simp; done) | (simp; omega) | omega) _) | (refine Ext.trans ?_ (by with_reducible assumption))))⟩

set_option maxHeartbeats 1600000 in
theorem sumOf_zb (na ea nb eb : Int) (ha : dyB na ea = true) (hb : dyB nb eb = true) (h0 : na ≠ 0) (h1 : nb = 0) (w : World) : Calls Tryd.prog 138 #[two na ea, two nb eb] w fun rv w' => rv = .returned (.tuple #[two (suN na ea nb eb) (suE na ea nb eb), .bool (suB na ea nb eb)]) ∧ Ext w w' := by
  obtain ⟨e1, e2, e3⟩ := su_zb (ea := ea) (eb := eb) h0 h1
  have E1 := Lib.hid e1; have E2 := Lib.hid e2; have E3 := Lib.hid e3; clear e1 e2 e3
  have kz : ∀ w, (Instr.build 31 #[]).run Tryd.prog w = .ok (two 0 0) w := fun w => run_build w _ _ _ (by kernel_rfl)
  have q := eqDy na ea 0 0
  rw [dy_zero ha, show (na == 0) = false by simpa using h0] at q
  have q2 := eqDy nb eb 0 0
  rw [dy_zero hb, show (nb == 0) = true by simpa using h1] at q2
  clear h0 h1
  go_enter Tryd.func138, Tryd.ntmps138
  go_wp2_with fail
  exact bodyPost_ret (v := .tuple #[two (na) (ea), .bool true]) (by simp [results, Tryd.results138, go_sem, *]) rfl ⟨ret_d E1.out.symm E2.out.symm E3.out.symm, (by repeat (first | exact Ext.refl _ | with_reducible assumption | apply Ext.alloc | apply Ext.drew | apply Ext.drewN | (refine Ext.setRow ?_ (by first | (simp; done) | (simp; omega) | omega) _) | (refine Ext.setCell ?_ (by first | (simp; done) | (simp; omega) | omega) _) | (refine Ext.trans ?_ (by with_reducible assumption))))⟩

set_option maxHeartbeats 3200000 in
theorem sumOf_no1 (na ea nb eb : Int) (ha : dyB na ea = true) (hb : dyB nb eb = true) (h0 : na ≠ 0) (h1 : nb ≠ 0) (hr : rmB 62 na ea nb eb = false) (hq : 62 < plV na + (ea - min ea eb)) (w : World) : Calls Tryd.prog 138 #[two na ea, two nb eb] w fun rv w' => rv = .returned (.tuple #[two (suN na ea nb eb) (suE na ea nb eb), .bool (suB na ea nb eb)]) ∧ Ext w w' := by
  obtain ⟨⟨a1, a2, a3, a4⟩, _⟩ := dy_iff.1 ha
  obtain ⟨⟨b1, b2, b3, b4⟩, _⟩ := dy_iff.1 hb
  obtain ⟨e1, e2, e3⟩ := su_none (ea := ea) (eb := eb) h0 h1 hr
  have E1 := Lib.hid e1; have E2 := Lib.hid e2; have E3 := Lib.hid e3; clear e1 e2 e3
  have kz : ∀ w, (Instr.build 31 #[]).run Tryd.prog w = .ok (two 0 0) w := fun w => run_build w _ _ _ (by kernel_rfl)
  have q := eqDy na ea 0 0
  rw [dy_zero ha, show (na == 0) = false by simpa using h0] at q
  have q2 := eqDy nb eb 0 0
  rw [dy_zero hb, show (nb == 0) = false by simpa using h1] at q2
  clear h0 h1 hr
  go_enter Tryd.func138, Tryd.ntmps138
  go_wp2_with (first | (go_at_call 156; (with_reducible refine (shifted_no na ea _ ha (by omega) (by omega) (by omega) _).mono ?_); rintro rv w1 ⟨rfl, hb⟩; have ns : w.heap.size + 2 < w1.heap.size := hb.lt (by first | with_reducible assumption | omega | (simp; done) | (simp; omega)); have n0 : w1.cell? ⟨w.heap.size, 0, none⟩ = some (.int .i64 na) := (hb.cells _ _ (by first | with_reducible assumption | omega | (simp; done) | (simp; omega))).trans (by first | with_reducible assumption | (simp; done) | (simp; with_reducible assumption) | (rw [cell_alloc_before _ _ _ _ (by omega)]; with_reducible assumption) | (simp [go_sem, *]; done)); have n1 : w1.cell? ⟨w.heap.size, 1, none⟩ = some (.int .i64 ea) := (hb.cells _ _ (by first | with_reducible assumption | omega | (simp; done) | (simp; omega))).trans (by first | with_reducible assumption | (simp; done) | (simp; with_reducible assumption) | (rw [cell_alloc_before _ _ _ _ (by omega)]; with_reducible assumption) | (simp [go_sem, *]; done)); have n2 : w1.cell? ⟨w.heap.size + 1, 0, none⟩ = some (.int .i64 nb) := (hb.cells _ _ (by first | with_reducible assumption | omega | (simp; done) | (simp; omega))).trans (by first | with_reducible assumption | (simp; done) | (simp; with_reducible assumption) | (rw [cell_alloc_before _ _ _ _ (by omega)]; with_reducible assumption) | (simp [go_sem, *]; done)); have n3 : w1.cell? ⟨w.heap.size + 1, 1, none⟩ = some (.int .i64 eb) := (hb.cells _ _ (by first | with_reducible assumption | omega | (simp; done) | (simp; omega))).trans (by first | with_reducible assumption | (simp; done) | (simp; with_reducible assumption) | (rw [cell_alloc_before _ _ _ _ (by omega)]; with_reducible assumption) | (simp [go_sem, *]; done)); have n4 : w1.cell? ⟨w.heap.size + 2, 0, none⟩ = some (.int .i64 0) := (hb.cells _ _ (by first | with_reducible assumption | omega | (simp; done) | (simp; omega))).trans (by first | with_reducible assumption | (simp; done) | (simp; with_reducible assumption) | (rw [cell_alloc_before _ _ _ _ (by omega)]; with_reducible assumption) | (simp [go_sem, *]; done)); have n5 : w1.cell? ⟨w.heap.size + 2, 1, none⟩ = some (.int .i64 0) := (hb.cells _ _ (by first | with_reducible assumption | omega | (simp; done) | (simp; omega))).trans (by first | with_reducible assumption | (simp; done) | (simp; with_reducible assumption) | (rw [cell_alloc_before _ _ _ _ (by omega)]; with_reducible assumption) | (simp [go_sem, *]; done)); have nz0 : w1.frozen? ⟨w.heap.size + 2, 0, none⟩ = false := (hb.frz _ _ (by first | with_reducible assumption | omega | (simp; done) | (simp; omega))).trans (by first | with_reducible assumption | (simp [go_sem]; done) | (simp [go_sem]; with_reducible assumption)); have nz1 : w1.frozen? ⟨w.heap.size + 2, 1, none⟩ = false := (hb.frz _ _ (by first | with_reducible assumption | omega | (simp; done) | (simp; omega))).trans (by first | with_reducible assumption | (simp [go_sem]; done) | (simp [go_sem]; with_reducible assumption)); (first | (have nx := Ext.trans hx hb; clear hx) | (have nx := Ext.trans (hx.alloc _) hb; clear hx) | (have nx := Ext.trans hx.drew hb; clear hx) | have nx := hb); clear hb; try clear hs; try clear g0; try clear g1; try clear g2; try clear g3; try clear g4; try clear g5; try clear z0; try clear z1; have hx := nx; clear nx; have hs := ns; clear ns; have g0 := n0; clear n0; have g1 := n1; clear n1; have g2 := n2; clear n2; have g3 := n3; clear n3; have g4 := n4; clear n4; have g5 := n5; clear n5; have z0 := nz0; clear nz0; have z1 := nz1; clear nz1))
  exact bodyPost_ret (v := .tuple #[two 0 0, .bool false]) (by simp [results, Tryd.results138, go_sem, *]) rfl ⟨ret_d E1.out.symm E2.out.symm E3.out.symm, (by repeat (first | exact Ext.refl _ | with_reducible assumption | apply Ext.alloc | apply Ext.drew | apply Ext.drewN | (refine Ext.setRow ?_ (by first | (simp; done) | (simp; omega) | omega) _) | (refine Ext.setCell ?_ (by first | (simp; done) | (simp; omega) | omega) _) | (refine Ext.trans ?_ (by with_reducible assumption))))⟩

set_option maxHeartbeats 3200000 in
theorem sumOf_no2 (na ea nb eb : Int) (ha : dyB na ea = true) (hb : dyB nb eb = true) (h0 : na ≠ 0) (h1 : nb ≠ 0) (hr : rmB 62 na ea nb eb = false) (hq : plV na + (ea - min ea eb) ≤ 62) (hq2 : 62 < plV nb + (eb - min ea eb)) (w : World) : Calls Tryd.prog 138 #[two na ea, two nb eb] w fun rv w' => rv = .returned (.tuple #[two (suN na ea nb eb) (suE na ea nb eb), .bool (suB na ea nb eb)]) ∧ Ext w w' := by
  obtain ⟨⟨a1, a2, a3, a4⟩, _⟩ := dy_iff.1 ha
  obtain ⟨⟨b1, b2, b3, b4⟩, _⟩ := dy_iff.1 hb
  obtain ⟨e1, e2, e3⟩ := su_none (ea := ea) (eb := eb) h0 h1 hr
  have E1 := Lib.hid e1; have E2 := Lib.hid e2; have E3 := Lib.hid e3; clear e1 e2 e3
  have kz : ∀ w, (Instr.build 31 #[]).run Tryd.prog w = .ok (two 0 0) w := fun w => run_build w _ _ _ (by kernel_rfl)
  have q := eqDy na ea 0 0
  rw [dy_zero ha, show (na == 0) = false by simpa using h0] at q
  have q2 := eqDy nb eb 0 0
  rw [dy_zero hb, show (nb == 0) = false by simpa using h1] at q2
  clear h0 h1 hr
  go_enter Tryd.func138, Tryd.ntmps138
  go_wp2_with (first | (go_at_call 156; (with_reducible refine (shifted_yes na ea _ ha (by omega) (by omega) (by omega) _).mono ?_); rintro rv w1 ⟨rfl, hb⟩; have ns : w.heap.size + 2 < w1.heap.size := hb.lt (by first | with_reducible assumption | omega | (simp; done) | (simp; omega)); have n0 : w1.cell? ⟨w.heap.size, 0, none⟩ = some (.int .i64 na) := (hb.cells _ _ (by first | with_reducible assumption | omega | (simp; done) | (simp; omega))).trans (by first | with_reducible assumption | (simp; done) | (simp; with_reducible assumption) | (rw [cell_alloc_before _ _ _ _ (by omega)]; with_reducible assumption) | (simp [go_sem, *]; done)); have n1 : w1.cell? ⟨w.heap.size, 1, none⟩ = some (.int .i64 ea) := (hb.cells _ _ (by first | with_reducible assumption | omega | (simp; done) | (simp; omega))).trans (by first | with_reducible assumption | (simp; done) | (simp; with_reducible assumption) | (rw [cell_alloc_before _ _ _ _ (by omega)]; with_reducible assumption) | (simp [go_sem, *]; done)); have n2 : w1.cell? ⟨w.heap.size + 1, 0, none⟩ = some (.int .i64 nb) := (hb.cells _ _ (by first | with_reducible assumption | omega | (simp; done) | (simp; omega))).trans (by first | with_reducible assumption | (simp; done) | (simp; with_reducible assumption) | (rw [cell_alloc_before _ _ _ _ (by omega)]; with_reducible assumption) | (simp [go_sem, *]; done)); have n3 : w1.cell? ⟨w.heap.size + 1, 1, none⟩ = some (.int .i64 eb) := (hb.cells _ _ (by first | with_reducible assumption | omega | (simp; done) | (simp; omega))).trans (by first | with_reducible assumption | (simp; done) | (simp; with_reducible assumption) | (rw [cell_alloc_before _ _ _ _ (by omega)]; with_reducible assumption) | (simp [go_sem, *]; done)); have n4 : w1.cell? ⟨w.heap.size + 2, 0, none⟩ = some (.int .i64 0) := (hb.cells _ _ (by first | with_reducible assumption | omega | (simp; done) | (simp; omega))).trans (by first | with_reducible assumption | (simp; done) | (simp; with_reducible assumption) | (rw [cell_alloc_before _ _ _ _ (by omega)]; with_reducible assumption) | (simp [go_sem, *]; done)); have n5 : w1.cell? ⟨w.heap.size + 2, 1, none⟩ = some (.int .i64 0) := (hb.cells _ _ (by first | with_reducible assumption | omega | (simp; done) | (simp; omega))).trans (by first | with_reducible assumption | (simp; done) | (simp; with_reducible assumption) | (rw [cell_alloc_before _ _ _ _ (by omega)]; with_reducible assumption) | (simp [go_sem, *]; done)); have nz0 : w1.frozen? ⟨w.heap.size + 2, 0, none⟩ = false := (hb.frz _ _ (by first | with_reducible assumption | omega | (simp; done) | (simp; omega))).trans (by first | with_reducible assumption | (simp [go_sem]; done) | (simp [go_sem]; with_reducible assumption)); have nz1 : w1.frozen? ⟨w.heap.size + 2, 1, none⟩ = false := (hb.frz _ _ (by first | with_reducible assumption | omega | (simp; done) | (simp; omega))).trans (by first | with_reducible assumption | (simp [go_sem]; done) | (simp [go_sem]; with_reducible assumption)); (first | (have nx := Ext.trans hx hb; clear hx) | (have nx := Ext.trans (hx.alloc _) hb; clear hx) | (have nx := Ext.trans hx.drew hb; clear hx) | have nx := hb); clear hb; try clear hs; try clear g0; try clear g1; try clear g2; try clear g3; try clear g4; try clear g5; try clear z0; try clear z1; have hx := nx; clear nx; have hs := ns; clear ns; have g0 := n0; clear n0; have g1 := n1; clear n1; have g2 := n2; clear n2; have g3 := n3; clear n3; have g4 := n4; clear n4; have g5 := n5; clear n5; have z0 := nz0; clear nz0; have z1 := nz1; clear nz1) | (go_at_call 156; (with_reducible refine (shifted_no nb eb _ hb (by omega) (by omega) (by omega) _).mono ?_); rintro rv w1 ⟨rfl, hb⟩; have ns : w.heap.size + 2 < w1.heap.size := hb.lt (by first | with_reducible assumption | omega | (simp; done) | (simp; omega)); have n0 : w1.cell? ⟨w.heap.size, 0, none⟩ = some (.int .i64 na) := (hb.cells _ _ (by first | with_reducible assumption | omega | (simp; done) | (simp; omega))).trans (by first | with_reducible assumption | (simp; done) | (simp; with_reducible assumption) | (rw [cell_alloc_before _ _ _ _ (by omega)]; with_reducible assumption) | (simp [go_sem, *]; done)); have n1 : w1.cell? ⟨w.heap.size, 1, none⟩ = some (.int .i64 ea) := (hb.cells _ _ (by first | with_reducible assumption | omega | (simp; done) | (simp; omega))).trans (by first | with_reducible assumption | (simp; done) | (simp; with_reducible assumption) | (rw [cell_alloc_before _ _ _ _ (by omega)]; with_reducible assumption) | (simp [go_sem, *]; done)); have n2 : w1.cell? ⟨w.heap.size + 1, 0, none⟩ = some (.int .i64 nb) := (hb.cells _ _ (by first | with_reducible assumption | omega | (simp; done) | (simp; omega))).trans (by first | with_reducible assumption | (simp; done) | (simp; with_reducible assumption) | (rw [cell_alloc_before _ _ _ _ (by omega)]; with_reducible assumption) | (simp [go_sem, *]; done)); have n3 : w1.cell? ⟨w.heap.size + 1, 1, none⟩ = some (.int .i64 eb) := (hb.cells _ _ (by first | with_reducible assumption | omega | (simp; done) | (simp; omega))).trans (by first | with_reducible assumption | (simp; done) | (simp; with_reducible assumption) | (rw [cell_alloc_before _ _ _ _ (by omega)]; with_reducible assumption) | (simp [go_sem, *]; done)); have n4 : w1.cell? ⟨w.heap.size + 2, 0, none⟩ = some (.int .i64 0) := (hb.cells _ _ (by first | with_reducible assumption | omega | (simp; done) | (simp; omega))).trans (by first | with_reducible assumption | (simp; done) | (simp; with_reducible assumption) | (rw [cell_alloc_before _ _ _ _ (by omega)]; with_reducible assumption) | (simp [go_sem, *]; done)); have n5 : w1.cell? ⟨w.heap.size + 2, 1, none⟩ = some (.int .i64 0) := (hb.cells _ _ (by first | with_reducible assumption | omega | (simp; done) | (simp; omega))).trans (by first | with_reducible assumption | (simp; done) | (simp; with_reducible assumption) | (rw [cell_alloc_before _ _ _ _ (by omega)]; with_reducible assumption) | (simp [go_sem, *]; done)); have nz0 : w1.frozen? ⟨w.heap.size + 2, 0, none⟩ = false := (hb.frz _ _ (by first | with_reducible assumption | omega | (simp; done) | (simp; omega))).trans (by first | with_reducible assumption | (simp [go_sem]; done) | (simp [go_sem]; with_reducible assumption)); have nz1 : w1.frozen? ⟨w.heap.size + 2, 1, none⟩ = false := (hb.frz _ _ (by first | with_reducible assumption | omega | (simp; done) | (simp; omega))).trans (by first | with_reducible assumption | (simp [go_sem]; done) | (simp [go_sem]; with_reducible assumption)); (first | (have nx := Ext.trans hx hb; clear hx) | (have nx := Ext.trans (hx.alloc _) hb; clear hx) | (have nx := Ext.trans hx.drew hb; clear hx) | have nx := hb); clear hb; try clear hs; try clear g0; try clear g1; try clear g2; try clear g3; try clear g4; try clear g5; try clear z0; try clear z1; have hx := nx; clear nx; have hs := ns; clear ns; have g0 := n0; clear n0; have g1 := n1; clear n1; have g2 := n2; clear n2; have g3 := n3; clear n3; have g4 := n4; clear n4; have g5 := n5; clear n5; have z0 := nz0; clear nz0; have z1 := nz1; clear nz1))
  exact bodyPost_ret (v := .tuple #[two 0 0, .bool false]) (by simp [results, Tryd.results138, go_sem, *]) rfl ⟨ret_d E1.out.symm E2.out.symm E3.out.symm, (by repeat (first | exact Ext.refl _ | with_reducible assumption | apply Ext.alloc | apply Ext.drew | apply Ext.drewN | (refine Ext.setRow ?_ (by first | (simp; done) | (simp; omega) | omega) _) | (refine Ext.setCell ?_ (by first | (simp; done) | (simp; omega) | omega) _) | (refine Ext.trans ?_ (by with_reducible assumption))))⟩

set_option maxHeartbeats 3200000 in
theorem sumOf_sum (na ea nb eb : Int) (ha : dyB na ea = true) (hb : dyB nb eb = true) (h0 : na ≠ 0) (h1 : nb ≠ 0) (hr : rmB 62 na ea nb eb = true) (w : World) (hT : TW w) : Calls Tryd.prog 138 #[two na ea, two nb eb] w fun rv w' => rv = .returned (.tuple #[two (suN na ea nb eb) (suE na ea nb eb), .bool (suB na ea nb eb)]) ∧ Ext w w' := by
  obtain ⟨⟨a1, a2, a3, a4⟩, _⟩ := dy_iff.1 ha
  obtain ⟨⟨b1, b2, b3, b4⟩, _⟩ := dy_iff.1 hb
  obtain ⟨e1, e2, e3⟩ := su_off ha hb h0 h1 hr
  have E1 := Lib.hid e1; have E2 := Lib.hid e2; have E3 := Lib.hid e3; clear e1 e2 e3
  obtain ⟨⟨p1, p2⟩, ⟨p3, p4⟩⟩ := su_bd ha hb (by decide) hr
  obtain ⟨hq, hq2⟩ := room_any.1 hr
  unfold suL at hq hq2 p1 p2 p3 p4
  have kz : ∀ w, (Instr.build 31 #[]).run Tryd.prog w = .ok (two 0 0) w := fun w => run_build w _ _ _ (by kernel_rfl)
  have q := eqDy na ea 0 0
  rw [dy_zero ha, show (na == 0) = false by simpa using h0] at q
  have q2 := eqDy nb eb 0 0
  rw [dy_zero hb, show (nb == 0) = false by simpa using h1] at q2
  have k1 : IntKind.i64.wrap (na * pw (ea - min ea eb) + nb * pw (eb - min ea eb)) = na * pw (ea - min ea eb) + nb * pw (eb - min ea eb) := IntWalk.i64_in _ (by omega)
  clear h0 h1 hr
  go_enter Tryd.func138, Tryd.ntmps138
  go_wp2_with (first | (go_at_call 156; (with_reducible refine (shifted_yes na ea _ ha (by omega) (by omega) (by omega) _).mono ?_); rintro rv w1 ⟨rfl, hb⟩; have ns : w.heap.size + 2 < w1.heap.size := hb.lt (by first | with_reducible assumption | omega | (simp; done) | (simp; omega)); have n0 : w1.cell? ⟨w.heap.size, 0, none⟩ = some (.int .i64 na) := (hb.cells _ _ (by first | with_reducible assumption | omega | (simp; done) | (simp; omega))).trans (by first | with_reducible assumption | (simp; done) | (simp; with_reducible assumption) | (rw [cell_alloc_before _ _ _ _ (by omega)]; with_reducible assumption) | (simp [go_sem, *]; done)); have n1 : w1.cell? ⟨w.heap.size, 1, none⟩ = some (.int .i64 ea) := (hb.cells _ _ (by first | with_reducible assumption | omega | (simp; done) | (simp; omega))).trans (by first | with_reducible assumption | (simp; done) | (simp; with_reducible assumption) | (rw [cell_alloc_before _ _ _ _ (by omega)]; with_reducible assumption) | (simp [go_sem, *]; done)); have n2 : w1.cell? ⟨w.heap.size + 1, 0, none⟩ = some (.int .i64 nb) := (hb.cells _ _ (by first | with_reducible assumption | omega | (simp; done) | (simp; omega))).trans (by first | with_reducible assumption | (simp; done) | (simp; with_reducible assumption) | (rw [cell_alloc_before _ _ _ _ (by omega)]; with_reducible assumption) | (simp [go_sem, *]; done)); have n3 : w1.cell? ⟨w.heap.size + 1, 1, none⟩ = some (.int .i64 eb) := (hb.cells _ _ (by first | with_reducible assumption | omega | (simp; done) | (simp; omega))).trans (by first | with_reducible assumption | (simp; done) | (simp; with_reducible assumption) | (rw [cell_alloc_before _ _ _ _ (by omega)]; with_reducible assumption) | (simp [go_sem, *]; done)); have n4 : w1.cell? ⟨w.heap.size + 2, 0, none⟩ = some (.int .i64 0) := (hb.cells _ _ (by first | with_reducible assumption | omega | (simp; done) | (simp; omega))).trans (by first | with_reducible assumption | (simp; done) | (simp; with_reducible assumption) | (rw [cell_alloc_before _ _ _ _ (by omega)]; with_reducible assumption) | (simp [go_sem, *]; done)); have n5 : w1.cell? ⟨w.heap.size + 2, 1, none⟩ = some (.int .i64 0) := (hb.cells _ _ (by first | with_reducible assumption | omega | (simp; done) | (simp; omega))).trans (by first | with_reducible assumption | (simp; done) | (simp; with_reducible assumption) | (rw [cell_alloc_before _ _ _ _ (by omega)]; with_reducible assumption) | (simp [go_sem, *]; done)); have nz0 : w1.frozen? ⟨w.heap.size + 2, 0, none⟩ = false := (hb.frz _ _ (by first | with_reducible assumption | omega | (simp; done) | (simp; omega))).trans (by first | with_reducible assumption | (simp [go_sem]; done) | (simp [go_sem]; with_reducible assumption)); have nz1 : w1.frozen? ⟨w.heap.size + 2, 1, none⟩ = false := (hb.frz _ _ (by first | with_reducible assumption | omega | (simp; done) | (simp; omega))).trans (by first | with_reducible assumption | (simp [go_sem]; done) | (simp [go_sem]; with_reducible assumption)); (first | (have nx := Ext.trans hx hb; clear hx) | (have nx := Ext.trans (hx.alloc _) hb; clear hx) | (have nx := Ext.trans hx.drew hb; clear hx) | have nx := hb); clear hb; try clear hs; try clear g0; try clear g1; try clear g2; try clear g3; try clear g4; try clear g5; try clear z0; try clear z1; have hx := nx; clear nx; have hs := ns; clear ns; have g0 := n0; clear n0; have g1 := n1; clear n1; have g2 := n2; clear n2; have g3 := n3; clear n3; have g4 := n4; clear n4; have g5 := n5; clear n5; have z0 := nz0; clear nz0; have z1 := nz1; clear nz1) | (go_at_call 156; (with_reducible refine (shifted_yes nb eb _ hb (by omega) (by omega) (by omega) _).mono ?_); rintro rv w1 ⟨rfl, hb⟩; have ns : w.heap.size + 2 < w1.heap.size := hb.lt (by first | with_reducible assumption | omega | (simp; done) | (simp; omega)); have n0 : w1.cell? ⟨w.heap.size, 0, none⟩ = some (.int .i64 na) := (hb.cells _ _ (by first | with_reducible assumption | omega | (simp; done) | (simp; omega))).trans (by first | with_reducible assumption | (simp; done) | (simp; with_reducible assumption) | (rw [cell_alloc_before _ _ _ _ (by omega)]; with_reducible assumption) | (simp [go_sem, *]; done)); have n1 : w1.cell? ⟨w.heap.size, 1, none⟩ = some (.int .i64 ea) := (hb.cells _ _ (by first | with_reducible assumption | omega | (simp; done) | (simp; omega))).trans (by first | with_reducible assumption | (simp; done) | (simp; with_reducible assumption) | (rw [cell_alloc_before _ _ _ _ (by omega)]; with_reducible assumption) | (simp [go_sem, *]; done)); have n2 : w1.cell? ⟨w.heap.size + 1, 0, none⟩ = some (.int .i64 nb) := (hb.cells _ _ (by first | with_reducible assumption | omega | (simp; done) | (simp; omega))).trans (by first | with_reducible assumption | (simp; done) | (simp; with_reducible assumption) | (rw [cell_alloc_before _ _ _ _ (by omega)]; with_reducible assumption) | (simp [go_sem, *]; done)); have n3 : w1.cell? ⟨w.heap.size + 1, 1, none⟩ = some (.int .i64 eb) := (hb.cells _ _ (by first | with_reducible assumption | omega | (simp; done) | (simp; omega))).trans (by first | with_reducible assumption | (simp; done) | (simp; with_reducible assumption) | (rw [cell_alloc_before _ _ _ _ (by omega)]; with_reducible assumption) | (simp [go_sem, *]; done)); have n4 : w1.cell? ⟨w.heap.size + 2, 0, none⟩ = some (.int .i64 0) := (hb.cells _ _ (by first | with_reducible assumption | omega | (simp; done) | (simp; omega))).trans (by first | with_reducible assumption | (simp; done) | (simp; with_reducible assumption) | (rw [cell_alloc_before _ _ _ _ (by omega)]; with_reducible assumption) | (simp [go_sem, *]; done)); have n5 : w1.cell? ⟨w.heap.size + 2, 1, none⟩ = some (.int .i64 0) := (hb.cells _ _ (by first | with_reducible assumption | omega | (simp; done) | (simp; omega))).trans (by first | with_reducible assumption | (simp; done) | (simp; with_reducible assumption) | (rw [cell_alloc_before _ _ _ _ (by omega)]; with_reducible assumption) | (simp [go_sem, *]; done)); have nz0 : w1.frozen? ⟨w.heap.size + 2, 0, none⟩ = false := (hb.frz _ _ (by first | with_reducible assumption | omega | (simp; done) | (simp; omega))).trans (by first | with_reducible assumption | (simp [go_sem]; done) | (simp [go_sem]; with_reducible assumption)); have nz1 : w1.frozen? ⟨w.heap.size + 2, 1, none⟩ = false := (hb.frz _ _ (by first | with_reducible assumption | omega | (simp; done) | (simp; omega))).trans (by first | with_reducible assumption | (simp [go_sem]; done) | (simp [go_sem]; with_reducible assumption)); (first | (have nx := Ext.trans hx hb; clear hx) | (have nx := Ext.trans (hx.alloc _) hb; clear hx) | (have nx := Ext.trans hx.drew hb; clear hx) | have nx := hb); clear hb; try clear hs; try clear g0; try clear g1; try clear g2; try clear g3; try clear g4; try clear g5; try clear z0; try clear z1; have hx := nx; clear nx; have hs := ns; clear ns; have g0 := n0; clear n0; have g1 := n1; clear n1; have g2 := n2; clear n2; have g3 := n3; clear n3; have g4 := n4; clear n4; have g5 := n5; clear n5; have z0 := nz0; clear nz0; have z1 := nz1; clear nz1) | (go_at_call 51; refine (lowest_any _ _ (by omega) (by omega) (by omega) (by omega) _ (hT.ext (by repeat (first | exact Ext.refl _ | with_reducible assumption | apply Ext.alloc | apply Ext.drew | apply Ext.drewN | (refine Ext.setRow ?_ (by first | (simp; done) | (simp; omega) | omega) _) | (refine Ext.setCell ?_ (by first | (simp; done) | (simp; omega) | omega) _) | (refine Ext.trans ?_ (by with_reducible assumption)))))).mono ?_; rintro rv w1 ⟨rfl, hb⟩; have ns : w.heap.size + 2 < w1.heap.size := hb.lt (by first | with_reducible assumption | omega | (simp; done) | (simp; omega)); have n0 : w1.cell? ⟨w.heap.size, 0, none⟩ = some (.int .i64 na) := (hb.cells _ _ (by first | with_reducible assumption | omega | (simp; done) | (simp; omega))).trans (by first | with_reducible assumption | (simp; done) | (simp; with_reducible assumption) | (rw [cell_alloc_before _ _ _ _ (by omega)]; with_reducible assumption) | (simp [go_sem, *]; done)); have n1 : w1.cell? ⟨w.heap.size, 1, none⟩ = some (.int .i64 ea) := (hb.cells _ _ (by first | with_reducible assumption | omega | (simp; done) | (simp; omega))).trans (by first | with_reducible assumption | (simp; done) | (simp; with_reducible assumption) | (rw [cell_alloc_before _ _ _ _ (by omega)]; with_reducible assumption) | (simp [go_sem, *]; done)); have n2 : w1.cell? ⟨w.heap.size + 1, 0, none⟩ = some (.int .i64 nb) := (hb.cells _ _ (by first | with_reducible assumption | omega | (simp; done) | (simp; omega))).trans (by first | with_reducible assumption | (simp; done) | (simp; with_reducible assumption) | (rw [cell_alloc_before _ _ _ _ (by omega)]; with_reducible assumption) | (simp [go_sem, *]; done)); have n3 : w1.cell? ⟨w.heap.size + 1, 1, none⟩ = some (.int .i64 eb) := (hb.cells _ _ (by first | with_reducible assumption | omega | (simp; done) | (simp; omega))).trans (by first | with_reducible assumption | (simp; done) | (simp; with_reducible assumption) | (rw [cell_alloc_before _ _ _ _ (by omega)]; with_reducible assumption) | (simp [go_sem, *]; done)); have n4 : w1.cell? ⟨w.heap.size + 2, 0, none⟩ = some (.int .i64 0) := (hb.cells _ _ (by first | with_reducible assumption | omega | (simp; done) | (simp; omega))).trans (by first | with_reducible assumption | (simp; done) | (simp; with_reducible assumption) | (rw [cell_alloc_before _ _ _ _ (by omega)]; with_reducible assumption) | (simp [go_sem, *]; done)); have n5 : w1.cell? ⟨w.heap.size + 2, 1, none⟩ = some (.int .i64 0) := (hb.cells _ _ (by first | with_reducible assumption | omega | (simp; done) | (simp; omega))).trans (by first | with_reducible assumption | (simp; done) | (simp; with_reducible assumption) | (rw [cell_alloc_before _ _ _ _ (by omega)]; with_reducible assumption) | (simp [go_sem, *]; done)); have nz0 : w1.frozen? ⟨w.heap.size + 2, 0, none⟩ = false := (hb.frz _ _ (by first | with_reducible assumption | omega | (simp; done) | (simp; omega))).trans (by first | with_reducible assumption | (simp [go_sem]; done) | (simp [go_sem]; with_reducible assumption)); have nz1 : w1.frozen? ⟨w.heap.size + 2, 1, none⟩ = false := (hb.frz _ _ (by first | with_reducible assumption | omega | (simp; done) | (simp; omega))).trans (by first | with_reducible assumption | (simp [go_sem]; done) | (simp [go_sem]; with_reducible assumption)); (first | (have nx := Ext.trans hx hb; clear hx) | (have nx := Ext.trans (hx.alloc _) hb; clear hx) | (have nx := Ext.trans hx.drew hb; clear hx) | have nx := hb); clear hb; try clear hs; try clear g0; try clear g1; try clear g2; try clear g3; try clear g4; try clear g5; try clear z0; try clear z1; have hx := nx; clear nx; have hs := ns; clear ns; have g0 := n0; clear n0; have g1 := n1; clear n1; have g2 := n2; clear n2; have g3 := n3; clear n3; have g4 := n4; clear n4; have g5 := n5; clear n5; have z0 := nz0; clear nz0; have z1 := nz1; clear nz1))
  exact bodyPost_ret (v := .tuple #[two (nfN (na * pw (ea - min ea eb) + nb * pw (eb - min ea eb)) (min ea eb)) (nfE (na * pw (ea - min ea eb) + nb * pw (eb - min ea eb)) (min ea eb)), .bool (nfB (na * pw (ea - min ea eb) + nb * pw (eb - min ea eb)) (min ea eb))]) (by simp [results, Tryd.results138, go_sem, *]) rfl ⟨ret_d E1.out.symm E2.out.symm E3.out.symm, (by repeat (first | exact Ext.refl _ | with_reducible assumption | apply Ext.alloc | apply Ext.drew | apply Ext.drewN | (refine Ext.setRow ?_ (by first | (simp; done) | (simp; omega) | omega) _) | (refine Ext.setCell ?_ (by first | (simp; done) | (simp; omega) | omega) _) | (refine Ext.trans ?_ (by with_reducible assumption))))⟩

theorem sumOf_any (na ea nb eb : Int) (ha : dyB na ea = true) (hb : dyB nb eb = true) (w : World) (hT : TW w) : Calls Tryd.prog 138 #[two na ea, two nb eb] w fun rv w' => rv = .returned (.tuple #[two (suN na ea nb eb) (suE na ea nb eb), .bool (suB na ea nb eb)]) ∧ Ext w w' := by
  by_cases h0 : na = 0
  · exact sumOf_za na ea nb eb ha hb h0 w hT
  · by_cases h1 : nb = 0
    · exact sumOf_zb na ea nb eb ha hb h0 h1 w
    · cases hr : rmB 62 na ea nb eb
      · by_cases hq : 62 < plV na + (ea - min ea eb)
        · exact sumOf_no1 na ea nb eb ha hb h0 h1 hr hq w
        · by_cases hq2 : 62 < plV nb + (eb - min ea eb)
          · exact sumOf_no2 na ea nb eb ha hb h0 h1 hr (by omega) hq2 w
          · rw [room_any.2 (show plV na + (ea - suL ea eb) ≤ 62 ∧ plV nb + (eb - suL ea eb) ≤ 62 by unfold suL; omega)] at hr
            cases hr
      · exact sumOf_sum na ea nb eb ha hb h0 h1 hr w hT

theorem iPlusDyadic_yes (na ea nb eb : Int) (hg : dy2B na ea nb eb = true) (w : World) (hT : TW w) : Calls Tryd.prog 97 #[two na ea, two nb eb] w fun rv w' => rv = .returned (.tuple #[two (suN na ea nb eb) (suE na ea nb eb), .bool (suB na ea nb eb)]) ∧ Ext w w' := by
  obtain ⟨ha, hb⟩ := dy2_iff.1 hg
  have SC := Lib.hid (fun (w : World) (hT : TW w) => sumOf_any na ea nb eb ha hb w hT)
  have hi := dy2_iff.2 ⟨ha, hb⟩
  clear hg
  go_enter Tryd.func97, Tryd.ntmps97
  go_wp2_with (first | (go_at_call 103; refine (iIsDyadic_any _ _ _).mono ?_; rintro rv w1 ⟨rfl, hb⟩; have ns : w.heap.size + 2 < w1.heap.size := hb.lt (by first | with_reducible assumption | omega | (simp; done) | (simp; omega)); have n0 : w1.cell? ⟨w.heap.size, 0, none⟩ = some (.int .i64 na) := (hb.cells _ _ (by first | with_reducible assumption | omega | (simp; done) | (simp; omega))).trans (by first | with_reducible assumption | (simp; done) | (simp; with_reducible assumption) | (rw [cell_alloc_before _ _ _ _ (by omega)]; with_reducible assumption) | (simp [go_sem, *]; done)); have n1 : w1.cell? ⟨w.heap.size, 1, none⟩ = some (.int .i64 ea) := (hb.cells _ _ (by first | with_reducible assumption | omega | (simp; done) | (simp; omega))).trans (by first | with_reducible assumption | (simp; done) | (simp; with_reducible assumption) | (rw [cell_alloc_before _ _ _ _ (by omega)]; with_reducible assumption) | (simp [go_sem, *]; done)); have n2 : w1.cell? ⟨w.heap.size + 1, 0, none⟩ = some (.int .i64 nb) := (hb.cells _ _ (by first | with_reducible assumption | omega | (simp; done) | (simp; omega))).trans (by first | with_reducible assumption | (simp; done) | (simp; with_reducible assumption) | (rw [cell_alloc_before _ _ _ _ (by omega)]; with_reducible assumption) | (simp [go_sem, *]; done)); have n3 : w1.cell? ⟨w.heap.size + 1, 1, none⟩ = some (.int .i64 eb) := (hb.cells _ _ (by first | with_reducible assumption | omega | (simp; done) | (simp; omega))).trans (by first | with_reducible assumption | (simp; done) | (simp; with_reducible assumption) | (rw [cell_alloc_before _ _ _ _ (by omega)]; with_reducible assumption) | (simp [go_sem, *]; done)); have n4 : w1.cell? ⟨w.heap.size + 2, 0, none⟩ = some (.int .i64 0) := (hb.cells _ _ (by first | with_reducible assumption | omega | (simp; done) | (simp; omega))).trans (by first | with_reducible assumption | (simp; done) | (simp; with_reducible assumption) | (rw [cell_alloc_before _ _ _ _ (by omega)]; with_reducible assumption) | (simp [go_sem, *]; done)); have n5 : w1.cell? ⟨w.heap.size + 2, 1, none⟩ = some (.int .i64 0) := (hb.cells _ _ (by first | with_reducible assumption | omega | (simp; done) | (simp; omega))).trans (by first | with_reducible assumption | (simp; done) | (simp; with_reducible assumption) | (rw [cell_alloc_before _ _ _ _ (by omega)]; with_reducible assumption) | (simp [go_sem, *]; done)); have nz0 : w1.frozen? ⟨w.heap.size + 2, 0, none⟩ = false := (hb.frz _ _ (by first | with_reducible assumption | omega | (simp; done) | (simp; omega))).trans (by first | with_reducible assumption | (simp [go_sem]; done) | (simp [go_sem]; with_reducible assumption)); have nz1 : w1.frozen? ⟨w.heap.size + 2, 1, none⟩ = false := (hb.frz _ _ (by first | with_reducible assumption | omega | (simp; done) | (simp; omega))).trans (by first | with_reducible assumption | (simp [go_sem]; done) | (simp [go_sem]; with_reducible assumption)); (first | (have nx := Ext.trans hx hb; clear hx) | (have nx := Ext.trans (hx.alloc _) hb; clear hx) | (have nx := Ext.trans hx.drew hb; clear hx) | have nx := hb); clear hb; try clear hs; try clear g0; try clear g1; try clear g2; try clear g3; try clear g4; try clear g5; try clear z0; try clear z1; have hx := nx; clear nx; have hs := ns; clear ns; have g0 := n0; clear n0; have g1 := n1; clear n1; have g2 := n2; clear n2; have g3 := n3; clear n3; have g4 := n4; clear n4; have g5 := n5; clear n5; have z0 := nz0; clear nz0; have z1 := nz1; clear nz1) | (go_at_call 138; refine (SC.out _ (hT.ext (by repeat (first | exact Ext.refl _ | with_reducible assumption | apply Ext.alloc | apply Ext.drew | apply Ext.drewN | (refine Ext.setRow ?_ (by first | (simp; done) | (simp; omega) | omega) _) | (refine Ext.setCell ?_ (by first | (simp; done) | (simp; omega) | omega) _) | (refine Ext.trans ?_ (by with_reducible assumption)))))).mono ?_; rintro rv w1 ⟨rfl, hb⟩; have ns : w.heap.size + 2 < w1.heap.size := hb.lt (by first | with_reducible assumption | omega | (simp; done) | (simp; omega)); have n0 : w1.cell? ⟨w.heap.size, 0, none⟩ = some (.int .i64 na) := (hb.cells _ _ (by first | with_reducible assumption | omega | (simp; done) | (simp; omega))).trans (by first | with_reducible assumption | (simp; done) | (simp; with_reducible assumption) | (rw [cell_alloc_before _ _ _ _ (by omega)]; with_reducible assumption) | (simp [go_sem, *]; done)); have n1 : w1.cell? ⟨w.heap.size, 1, none⟩ = some (.int .i64 ea) := (hb.cells _ _ (by first | with_reducible assumption | omega | (simp; done) | (simp; omega))).trans (by first | with_reducible assumption | (simp; done) | (simp; with_reducible assumption) | (rw [cell_alloc_before _ _ _ _ (by omega)]; with_reducible assumption) | (simp [go_sem, *]; done)); have n2 : w1.cell? ⟨w.heap.size + 1, 0, none⟩ = some (.int .i64 nb) := (hb.cells _ _ (by first | with_reducible assumption | omega | (simp; done) | (simp; omega))).trans (by first | with_reducible assumption | (simp; done) | (simp; with_reducible assumption) | (rw [cell_alloc_before _ _ _ _ (by omega)]; with_reducible assumption) | (simp [go_sem, *]; done)); have n3 : w1.cell? ⟨w.heap.size + 1, 1, none⟩ = some (.int .i64 eb) := (hb.cells _ _ (by first | with_reducible assumption | omega | (simp; done) | (simp; omega))).trans (by first | with_reducible assumption | (simp; done) | (simp; with_reducible assumption) | (rw [cell_alloc_before _ _ _ _ (by omega)]; with_reducible assumption) | (simp [go_sem, *]; done)); have n4 : w1.cell? ⟨w.heap.size + 2, 0, none⟩ = some (.int .i64 0) := (hb.cells _ _ (by first | with_reducible assumption | omega | (simp; done) | (simp; omega))).trans (by first | with_reducible assumption | (simp; done) | (simp; with_reducible assumption) | (rw [cell_alloc_before _ _ _ _ (by omega)]; with_reducible assumption) | (simp [go_sem, *]; done)); have n5 : w1.cell? ⟨w.heap.size + 2, 1, none⟩ = some (.int .i64 0) := (hb.cells _ _ (by first | with_reducible assumption | omega | (simp; done) | (simp; omega))).trans (by first | with_reducible assumption | (simp; done) | (simp; with_reducible assumption) | (rw [cell_alloc_before _ _ _ _ (by omega)]; with_reducible assumption) | (simp [go_sem, *]; done)); have nz0 : w1.frozen? ⟨w.heap.size + 2, 0, none⟩ = false := (hb.frz _ _ (by first | with_reducible assumption | omega | (simp; done) | (simp; omega))).trans (by first | with_reducible assumption | (simp [go_sem]; done) | (simp [go_sem]; with_reducible assumption)); have nz1 : w1.frozen? ⟨w.heap.size + 2, 1, none⟩ = false := (hb.frz _ _ (by first | with_reducible assumption | omega | (simp; done) | (simp; omega))).trans (by first | with_reducible assumption | (simp [go_sem]; done) | (simp [go_sem]; with_reducible assumption)); (first | (have nx := Ext.trans hx hb; clear hx) | (have nx := Ext.trans (hx.alloc _) hb; clear hx) | (have nx := Ext.trans hx.drew hb; clear hx) | have nx := hb); clear hb; try clear hs; try clear g0; try clear g1; try clear g2; try clear g3; try clear g4; try clear g5; try clear z0; try clear z1; have hx := nx; clear nx; have hs := ns; clear ns; have g0 := n0; clear n0; have g1 := n1; clear n1; have g2 := n2; clear n2; have g3 := n3; clear n3; have g4 := n4; clear n4; have g5 := n5; clear n5; have z0 := nz0; clear nz0; have z1 := nz1; clear nz1))
  exact bodyPost_ret (v := .tuple #[two (suN na ea nb eb) (suE na ea nb eb), .bool (suB na ea nb eb)]) (by simp [results, Tryd.results97, go_sem, *]) rfl ⟨rfl, (by repeat (first | exact Ext.refl _ | with_reducible assumption | apply Ext.alloc | apply Ext.drew | apply Ext.drewN | (refine Ext.setRow ?_ (by first | (simp; done) | (simp; omega) | omega) _) | (refine Ext.setCell ?_ (by first | (simp; done) | (simp; omega) | omega) _) | (refine Ext.trans ?_ (by with_reducible assumption))))⟩
end Go.Proofs.YtfgbndjhaiigbabDoor

namespace Go.Proofs.YtfgbndjhaiigbabDoor
open Go

theorem od_scale {x j : Int} (hj : 0 ≤ j) (h0 : x ≠ 0) (h1 : -9223372036854775808 < x * pw j) (h2 : x * pw j < 9223372036854775808) : odV (x * pw j) = odV x ∧ tzV (x * pw j) = tzV x + j := by
  have hp := pw_pos j
  have hx1 : -9223372036854775808 < x ∧ x < 9223372036854775808 := by
    have e : ((x * pw j).natAbs : Int) = x.natAbs * (pw j).natAbs := by rw [Int.natAbs_mul, Int.natCast_mul]
    have := Int.mul_le_mul_of_nonneg_left (show 1 ≤ ((pw j).natAbs : Int) by omega) (show 0 ≤ (x.natAbs : Int) by omega)
    omega
  obtain ⟨t0, t1, t2, t3⟩ := tz_spec x h0 hx1.1 hx1.2
  have e : x * pw j = odV x * pw (tzV x + j) := by
    rw [pw_add _ _ t0 hj, ← Int.mul_assoc, ← t2]
  have := tz_of (x * pw j) (odV x) (tzV x + j) (by omega) t3 e h1 h2
  exact ⟨this.2, this.1⟩

theorem mul_top {n : Int} (h1 : -4398046511104 ≤ n) (h2 : n ≤ 4398046511104) (h0 : n ≠ 0) : plV (odV n) + tzV n ≤ 43 := by
  obtain ⟨t0, t1, t2, t3⟩ := tz_spec n h0 (by omega) (by omega)
  have b := od_bd n 4398046511104 (by decide) h1 h2
  have o0 : odV n ≠ 0 := by omega
  have lo := mul_lo (n := odV n) (j := tzV n) t0 o0 (by omega) (by omega)
  rw [← t2] at lo
  apply Int.le_of_not_gt
  intro hgt
  have hm := pw_mono (a := 43) (b := plV (odV n) - 1 + tzV n) (by omega)
  rw [show pw 43 = 8796093022208 from rfl] at hm
  omega

/-- The sum of two numbers of units, each in lowest terms. -/
theorem su_units {a b u : Int} (a1 : -4398046511104 ≤ a) (a2 : a ≤ 4398046511104) (b1 : -4398046511104 ≤ b) (b2 : b ≤ 4398046511104) (u1 : -40 ≤ u) (u2 : u ≤ 0) :
    suB (odV a) (shE a u) (odV b) (shE b u) = true ∧ suN (odV a) (shE a u) (odV b) (shE b u) = odV (a + b) ∧ suE (odV a) (shE a u) (odV b) (shE b u) = shE (a + b) u := by
  by_cases za : a = 0
  · subst za
    rw [od_zero, Int.zero_add]
    exact su_za rfl
  · by_cases zb : b = 0
    · subst zb
      obtain ⟨s1, s2⟩ := od_sign (S := a) (by omega) (by omega)
      rw [od_zero, Int.add_zero]
      exact su_zb (fun h => za (s2.1 h)) rfl
    · obtain ⟨_, sa⟩ := od_sign (S := a) (by omega) (by omega)
      obtain ⟨_, sb⟩ := od_sign (S := b) (by omega) (by omega)
      obtain ⟨ta0, ta1, ta2, ta3⟩ := tz_spec a za (by omega) (by omega)
      obtain ⟨tb0, tb1, tb2, tb3⟩ := tz_spec b zb (by omega) (by omega)
      have la := tz_lt (S := a) (b := 43) za (by omega) (by omega) (by rw [show pw 43 = 8796093022208 from rfl]; omega)
      have lb := tz_lt (S := b) (b := 43) zb (by omega) (by omega) (by rw [show pw 43 = 8796093022208 from rfl]; omega)
      have ea : shE a u = u + tzV a := if_neg za
      have eb : shE b u = u + tzV b := if_neg zb
      have da := dy_low (m := a) (u := u) (by omega) (by omega) u1 (by omega)
      have db := dy_low (m := b) (u := u) (by omega) (by omega) u1 (by omega)
      obtain ⟨j, hj⟩ : ∃ j, j = min (tzV a) (tzV b) := ⟨_, rfl⟩
      have hl : suL (shE a u) (shE b u) = u + j := by unfold suL; omega
      have hS : suS (odV a) (shE a u) (odV b) (shE b u) * pw j = a + b := by
        unfold suS
        rw [hl, ea, eb, Int.add_mul, Int.mul_assoc, Int.mul_assoc, ← pw_add _ _ (by omega) (by omega), ← pw_add _ _ (by omega) (by omega),
          show u + tzV a - (u + j) + j = tzV a by omega, show u + tzV b - (u + j) + j = tzV b by omega, ← ta2, ← tb2]
      have pj := pw_pos j
      have hSb : ((suS (odV a) (shE a u) (odV b) (shE b u)).natAbs : Int) ≤ 8796093022208 := by
        have : ((suS (odV a) (shE a u) (odV b) (shE b u) * pw j).natAbs : Int) ≤ 8796093022208 := by rw [hS]; omega
        rw [Int.natAbs_mul, Int.natCast_mul] at this
        have := Int.mul_le_mul_of_nonneg_left (show 1 ≤ ((pw j).natAbs : Int) by omega) (show 0 ≤ ((suS (odV a) (shE a u) (odV b) (shE b u)).natAbs : Int) by omega)
        omega
      have hr : rmB 60 (odV a) (shE a u) (odV b) (shE b u) = true := by
        rw [room_any, hl, ea, eb]
        have oa := mul_top (n := a) (by omega) (by omega) za
        have ob := mul_top (n := b) (by omega) (by omega) zb
        omega
      obtain ⟨e1, e2, e3⟩ := su_yes (fun h => za (sa.1 h)) (fun h => zb (sb.1 h)) hr
      rw [e1, e2, e3, hl]
      generalize suS (odV a) (shE a u) (odV b) (shE b u) = S at *
      by_cases hz : S = 0
      · subst hz
        rw [Int.zero_mul] at hS
        rw [← hS, od_zero]
        exact nf_zero rfl
      · obtain ⟨o1, o2⟩ := od_scale (x := S) (j := j) (by omega) hz (by rw [hS]; omega) (by rw [hS]; omega)
        rw [hS] at o1 o2
        have hab : a + b ≠ 0 := by
          intro h0
          rw [h0] at hS
          rcases Int.mul_eq_zero.1 hS with g | g
          · exact hz g
          · omega
        have dd := dy_low (m := a + b) (u := u) (by omega) (by omega) u1 (by omega)
        rw [show shE (a + b) u = u + tzV (a + b) from if_neg hab, o1, o2] at dd
        have := nf_yes (S := S) (l := u + j) hz (by rw [show u + j + tzV S = u + (tzV S + j) by omega]; exact dd)
        rw [this.1, this.2.1, this.2.2, show shE (a + b) u = u + tzV (a + b) from if_neg hab, o1, o2]
        exact ⟨rfl, rfl, by omega⟩
end Go.Proofs.YtfgbndjhaiigbabDoor

