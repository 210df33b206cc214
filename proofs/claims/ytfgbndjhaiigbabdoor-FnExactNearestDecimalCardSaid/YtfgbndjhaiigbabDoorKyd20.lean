/-
  Contracts of the functions that the laws reach, and the plain facts that they rest on, each under the conditions that its line names; part 20.
-/
import Derived.Test.YtfgbndjhaiigbabDoorKyd1
import Derived.Test.YtfgbndjhaiigbabDoorKyd2
import Derived.Test.YtfgbndjhaiigbabDoorKyd3
import Derived.Test.YtfgbndjhaiigbabDoorKyd4
import Derived.Test.YtfgbndjhaiigbabDoorKyd5
import Derived.Test.YtfgbndjhaiigbabDoorKyd6
import Derived.Test.YtfgbndjhaiigbabDoorKyd7
import Derived.Test.YtfgbndjhaiigbabDoorKyd8
import Derived.Test.YtfgbndjhaiigbabDoorKyd9
import Derived.Test.YtfgbndjhaiigbabDoorKyd10
import Derived.Test.YtfgbndjhaiigbabDoorKyd11
import Derived.Test.YtfgbndjhaiigbabDoorKyd12
import Derived.Test.YtfgbndjhaiigbabDoorKyd13
import Derived.Test.YtfgbndjhaiigbabDoorKyd14
import Derived.Test.YtfgbndjhaiigbabDoorKyd15
import Derived.Test.YtfgbndjhaiigbabDoorKyd16
import Derived.Test.YtfgbndjhaiigbabDoorKyd17
import Derived.Test.YtfgbndjhaiigbabDoorKyd18
import Derived.Test.YtfgbndjhaiigbabDoorKyd19
import Derived.Test.YtfgbndjhaiigbabDoorRows
import Derived.WalkKit
import Derived.LoopTactic
import Derived.Laws.Bits64b
import Derived.WalkSpells
import Derived.WalkLawsBesides
import Derived.StillTactics
import Derived.Laws.Pointers
import Derived.Deep.RegionHeld3
import Derived.Deep.QuietTactic
import Derived.BigQuiet
import Derived.Outline
import Derived.Lib.Hide
import Derived.RowKit3
import Derived.Carry
import Derived.IntWalk
namespace Go.Proofs.YtfgbndjhaiigbabDoor
open Go Go.RowKit
set_option linter.unusedSimpArgs false
set_option linter.unusedVariables false

theorem rounded_any (p mode : Int) (R S : Nat) (neg : Bool) (p0 : 0 ≤ p) (p1 : p ≤ 1152921504606846976) (okR : Ok Ieee.single R) (ltR : R < 2 ^ 192) (okS : Ok Ieee.single S) (m0 : 0 ≤ mode) (m1 : mode ≤ 5) (w : World) :
    Calls Tryd.prog 145 #[.agg #[.int .i64 p, .float .f32 (fw Ieee.single R), .float .f32 (fw Ieee.single S)], .int .i64 mode, .bool neg] w fun rv w' => rv = .returned (.int .i64 (rndP (R : Int) (S : Int) p mode neg)) ∧ Ext w w' := by
  have oz : FloatKind.f32.format.order (fw Ieee.single R) 0 = some (if R = 0 then .eq else .gt) := order_zero okR
  by_cases hR : R = 0
  · rw [if_pos hR] at oz
    have e : rndP (R : Int) (S : Int) p mode neg = p := by unfold rndP; rw [if_pos (by omega)]
    rw [e]
    exact rounded_zero p _ _ mode neg p0 p1 oz w
  · rw [if_neg hR] at oz
    have hm := mul_two okR
    have ok2 := ok_two okR ltR
    have hc0 := fun w => compare_fw (2 * R) S ok2 okS w
    have e0 : rndP (R : Int) (S : Int) p mode neg = if upR (R : Int) (S : Int) p mode neg = true then p + 1 else p := by unfold rndP; rw [if_neg (show ¬ (R : Int) = 0 by omega)]
    rw [e0]
    have par : p % 2 = 0 ∨ p % 2 = 1 := by omega
    have hmode : mode = 0 ∨ mode = 1 ∨ mode = 2 ∨ mode = 3 ∨ mode = 4 ∨ mode = 5 := by omega
    rcases hmode with rfl | rfl | rfl | rfl | rfl | rfl
    · have u : upR (R : Int) (S : Int) p 0 neg = decide ((S : Int) < 2 * (R : Int) ∨ (2 * (R : Int) = S ∧ p % 2 = 1)) := rfl
      rw [u]
      rcases Nat.lt_trichotomy (2 * R) S with g | g | g
      · rw [decide_eq_false (by omega)]
        rw [sg_neg (show ((2 * R : Nat) : Int) - S < 0 by omega)] at hc0
        exact rounded_evenL p _ _ neg p0 p1 oz _ hm hc0 w
      · rw [sg_zero (show ((2 * R : Nat) : Int) - S = 0 by omega)] at hc0
        rcases par with h | h
        · rw [decide_eq_false (by omega)]
          exact rounded_evenE p _ _ neg p0 p1 oz _ hm hc0 h w
        · rw [decide_eq_true (by omega)]
          exact rounded_evenO p _ _ neg p0 p1 oz _ hm hc0 h w
      · rw [decide_eq_true (by omega)]
        rw [sg_pos (show 0 < ((2 * R : Nat) : Int) - S by omega)] at hc0
        exact rounded_evenG p _ _ neg p0 p1 oz _ hm hc0 w
    · have u : upR (R : Int) (S : Int) p 1 neg = decide ((S : Int) ≤ 2 * (R : Int)) := rfl
      rw [u]
      rcases Nat.lt_trichotomy (2 * R) S with g | g | g
      · rw [decide_eq_false (by omega)]
        rw [sg_neg (show ((2 * R : Nat) : Int) - S < 0 by omega)] at hc0
        exact rounded_awayL p _ _ neg p0 p1 oz _ hm hc0 w
      · rw [sg_zero (show ((2 * R : Nat) : Int) - S = 0 by omega)] at hc0
        rw [decide_eq_true (by omega)]
        exact rounded_awayM p _ _ neg p0 p1 oz _ hm hc0 w
      · rw [decide_eq_true (by omega)]
        rw [sg_pos (show 0 < ((2 * R : Nat) : Int) - S by omega)] at hc0
        exact rounded_awayG p _ _ neg p0 p1 oz _ hm hc0 w
    · exact rounded_cut p _ _ neg p0 p1 oz w
    · cases neg
      · exact rounded_upP p _ _ p0 p1 oz w
      · exact rounded_upN p _ _ p0 p1 oz w
    · cases neg
      · exact rounded_downP p _ _ p0 p1 oz w
      · exact rounded_downN p _ _ p0 p1 oz w
    · have u : upR (R : Int) (S : Int) p 5 neg = decide (p % 2 = 0) := rfl
      rw [u]
      rcases par with h | h
      · rw [decide_eq_true h]
        exact rounded_oddE p _ _ neg p0 p1 oz h w
      · rw [decide_eq_false (by omega)]
        exact rounded_oddO p _ _ neg p0 p1 oz h w
end Go.Proofs.YtfgbndjhaiigbabDoor

namespace Go.Proofs.YtfgbndjhaiigbabDoor
open Go Go.RowKit
set_option linter.unusedSimpArgs false
set_option linter.unusedVariables false

theorem isMode_any (m : Int) (w : World) : Calls Tryd.prog 64 #[.int .i64 m] w fun rv w' => rv = .returned (.bool (moB m)) ∧ w = w' := by
  by_cases h1 : 0 ≤ m <;> by_cases h2 : m ≤ 5
  all_goals
    have hk : moB m = decide (0 ≤ m ∧ m ≤ 5) := rfl
    have Hk := Lib.hid hk; clear hk
    go_enter Tryd.func64, Tryd.ntmps64
    go_wp2
    go_ret
    exact ⟨ret_bool (by rw [Hk.out]; first | (simp [h1, h2]; done) | (simp; omega)), rfl⟩
end Go.Proofs.YtfgbndjhaiigbabDoor

namespace Go.Proofs.YtfgbndjhaiigbabDoor
open Go Go.RowKit
set_option linter.unusedSimpArgs false
set_option linter.unusedVariables false

/-- Twice a quotient, and the odd number behind it if something is left. -/
def oqV (n d : Int) : Int := 2 * n.tdiv d + sgV (n.tmod d)

theorem tdiv_bd {n d b : Int} (_ : 0 < d) (h1 : -b ≤ n) (h2 : n ≤ b) : -b ≤ n.tdiv d ∧ n.tdiv d ≤ b := by
  have h := Int.natAbs_tdiv_le_natAbs n d
  omega

theorem oq_pos {n d : Int} (hd : 0 < d) (h : 0 ≤ n) : oqV n d = 2 * (n / d) + (if n % d = 0 then 0 else 1) := by
  unfold oqV
  rw [Int.tdiv_eq_ediv_of_nonneg h, Int.tmod_eq_emod_of_nonneg h]
  have r0 := Int.emod_nonneg n (show d ≠ 0 by omega)
  by_cases hz : n % d = 0
  · rw [if_pos hz, sg_zero hz]
  · rw [if_neg hz, sg_pos (by omega)]

/-- Of four times a number over twice another one. -/
theorem oq_four {X D : Int} (hD : 0 < D) (h : 0 ≤ X) : oqV (4 * X) (2 * D) = 2 * (2 * X / D) + (if 2 * X % D = 0 then 0 else 1) := by
  rw [oq_pos (by omega) (by omega)]
  have e : 4 * X = 2 * (2 * X) := by omega
  have e1 : 4 * X / (2 * D) = 2 * X / D := by rw [e]; exact Int.mul_ediv_mul_of_pos (a := 2) (2 * X) D (by decide)
  have e2 : 4 * X % (2 * D) = 2 * (2 * X % D) := by rw [e]; exact Int.mul_emod_mul_of_pos (a := 2) (2 * X) D (by decide)
  rw [e1, e2]
  congr 1
  by_cases hz : 2 * X % D = 0
  · rw [if_pos hz, if_pos (by omega)]
  · rw [if_neg hz, if_neg (by omega)]

theorem quiet_same {P : Program} {f : FuncId} {args : Array Value} {w : World} {n : Nat} {v : Value}
    (h : Calls P f args (w.drewN n) fun e w' => e = .returned v ∧ w.drewN n = w') : Calls P f args (w.drewN n) fun e w'' => e = .returned v ∧ ∃ m, w'' = w.drewN m :=
  h.mono fun _ _ ⟨he, hm⟩ => ⟨he, n, hm.symm⟩

theorem oddQuotient_any (n d : Int) (hd : 0 < d) (h1 : -2305843009213693952 ≤ n) (h2 : n ≤ 2305843009213693952) (w : World) : Calls Tryd.prog 120 #[.int .i64 n, .int .i64 d] w fun rv w' => rv = .returned (.int .i64 (oqV n d)) ∧ Ext w w' := by
  have b := tdiv_bd hd h1 h2
  have s := sg_bd (n.tmod d)
  have dz : ¬ d = 0 := by omega
  have dz2 : (d == 0) = false := by simpa using dz
  have dm : ¬ d = -1 := by omega
  have k1 : IntKind.i64.wrap (n.tdiv d) = n.tdiv d := IntWalk.i64_in _ (by omega)
  have k2 : IntKind.i64.wrap (2 * n.tdiv d) = 2 * n.tdiv d := IntWalk.i64_in _ (by omega)
  have k3 : IntKind.i64.wrap (2 * n.tdiv d + sgV (n.tmod d)) = 2 * n.tdiv d + sgV (n.tmod d) := IntWalk.i64_in _ (by omega)
  have k4 : n.tmod d - 0 = n.tmod d := by omega
  have hk : oqV n d = 2 * n.tdiv d + sgV (n.tmod d) := rfl
  have Hk := Lib.hid hk; clear hk
  go_enter Tryd.func120, Tryd.ntmps120
  go_wp2_with fail
  go_quiet ((first | (go_at_call 59; exact quiet_same (compare_sg _ _ _))))
  go_wp2_with fail
  go_ret
  exact ⟨ret_int (by rw [Hk.out]; try rw [k4]), (by repeat (first | exact Ext.refl _ | with_reducible assumption | apply Ext.alloc | apply Ext.drew | apply Ext.drewN | (refine Ext.setRow ?_ (by first | (simp; done) | (simp; omega) | omega) _) | (refine Ext.setCell ?_ (by first | (simp; done) | (simp; omega) | omega) _) | (refine Ext.trans ?_ (by with_reducible assumption))))⟩

theorem quarterPower_any (e f : Int) (hg : goodB e f = true) (w : World) : Calls Tryd.prog 119 #[fmt e f] w fun rv w' => rv = .returned (.int .i64 (unV e f - 2)) ∧ Ext w w' := by
  obtain ⟨u1, u2, u3, u4⟩ := un_bd hg
  have k1 : IntKind.i64.wrap (unV e f - 2) = unV e f - 2 := IntWalk.i64_in _ (by omega)
  go_enter Tryd.func119, Tryd.ntmps119
  go_wp2_with (go_at_call 52; refine (unitPower_any e f hg _).mono ?_; rintro rv w1 ⟨rfl, hb⟩; have ns : w.heap.size < w1.heap.size := hb.lt (by first | with_reducible assumption | omega | (simp; done) | (simp; omega)); have n0 : w1.cell? ⟨w.heap.size, 0, none⟩ = some (.int .i64 e) := (hb.cells _ _ (by first | with_reducible assumption | omega | (simp; done) | (simp; omega))).trans (by first | with_reducible assumption | (simp; done) | (simp; with_reducible assumption) | (rw [cell_alloc_before _ _ _ _ (by omega)]; with_reducible assumption) | (simp [go_sem, *]; done)); have n1 : w1.cell? ⟨w.heap.size, 1, none⟩ = some (.int .i64 f) := (hb.cells _ _ (by first | with_reducible assumption | omega | (simp; done) | (simp; omega))).trans (by first | with_reducible assumption | (simp; done) | (simp; with_reducible assumption) | (rw [cell_alloc_before _ _ _ _ (by omega)]; with_reducible assumption) | (simp [go_sem, *]; done)); (first | (have nx := Ext.trans hx hb; clear hx) | (have nx := Ext.trans (hx.alloc _) hb; clear hx) | (have nx := Ext.trans hx.drew hb; clear hx) | have nx := hb); clear hb; try clear hs; try clear g0; try clear g1; have hx := nx; clear nx; have hs := ns; clear ns; have g0 := n0; clear n0; have g1 := n1; clear n1)
  go_ret
  exact ⟨rfl, (by repeat (first | exact Ext.refl _ | with_reducible assumption | apply Ext.alloc | apply Ext.drew | apply Ext.drewN | (refine Ext.setRow ?_ (by first | (simp; done) | (simp; omega) | omega) _) | (refine Ext.setCell ?_ (by first | (simp; done) | (simp; omega) | omega) _) | (refine Ext.trans ?_ (by with_reducible assumption))))⟩

/-- How many quarters of a unit stand for a fraction. -/
def qrV (e f n d : Int) : Int := oqV (n * pw (2 - unV e f)) (2 * d)

theorem quartersOf_any (e f n d : Int) (hg : goodB e f = true) (n0 : -1000000000 ≤ n) (n1 : n ≤ 1000000000) (d0 : 0 < d) (d1 : d ≤ 1152921504606846976) (w : World) : Calls Tryd.prog 121 #[fmt e f, .int .i64 n, .int .i64 d] w fun rv w' => rv = .returned (.int .i64 (qrV e f n d)) ∧ Ext w w' := by
  obtain ⟨u1, u2, u3, u4⟩ := un_bd hg
  obtain ⟨q, hq⟩ : ∃ q, q = unV e f - 2 := ⟨_, rfl⟩
  have QPC := Lib.hid (fun w => by have := quarterPower_any e f hg w; rw [← hq] at this; exact this)
  have p1 := pw_pos (-q)
  have p2 := pw_le (a := -q) 26 67108864 rfl (by omega)
  have hs : 2 - unV e f = -q := by omega
  have m1 : n * pw (-q) ≤ 67108864000000000 := by
    rcases Int.le_total n 0 with h | h
    · have := Int.mul_nonneg (show 0 ≤ -n by omega) (show 0 ≤ pw (-q) by omega)
      rw [Int.neg_mul] at this
      omega
    · have := Int.mul_le_mul n1 p2 (by omega) (by decide)
      omega
  have m0 : -67108864000000000 ≤ n * pw (-q) := by
    rcases Int.le_total n 0 with h | h
    · have := Int.mul_le_mul (show -n ≤ 1000000000 by omega) p2 (by omega) (by decide)
      rw [Int.neg_mul] at this
      omega
    · have := Int.mul_nonneg h (show 0 ≤ pw (-q) by omega)
      omega
  unfold qrV
  rw [hs]
  have OQC := Lib.hid (fun w => oddQuotient_any (n * pw (-q)) (2 * d) (by omega) (by omega) (by omega) w)
  have k1 : IntKind.i64.wrap (-q) = -q := IntWalk.i64_in _ (by omega)
  have k2 : IntKind.i64.wrap (n * pw (-q)) = n * pw (-q) := IntWalk.i64_in _ (by omega)
  have k3 : IntKind.i64.wrap (2 * d) = 2 * d := IntWalk.i64_in _ (by omega)
  have k4 := pw_of (-q)
  have k5 : min (-q).toNat 64 = (-q).toNat := by omega
  have q3 : q ≤ 0 := by omega
  have q4 : 0 ≤ -q := by omega
  generalize oqV (n * pw (-q)) (2 * d) = Z at *
  clear hq hs m0 m1 p2
  go_enter Tryd.func121, Tryd.ntmps121
  go_wp2_with (first | (go_at_call 119; refine (QPC.out _).mono ?_; rintro rv w1 ⟨rfl, hb⟩; have ns : w.heap.size < w1.heap.size := hb.lt (by first | with_reducible assumption | omega | (simp; done) | (simp; omega)); have n0 : w1.cell? ⟨w.heap.size, 0, none⟩ = some (.int .i64 e) := (hb.cells _ _ (by first | with_reducible assumption | omega | (simp; done) | (simp; omega))).trans (by first | with_reducible assumption | (simp; done) | (simp; with_reducible assumption) | (rw [cell_alloc_before _ _ _ _ (by omega)]; with_reducible assumption) | (simp [go_sem, *]; done)); have n1 : w1.cell? ⟨w.heap.size, 1, none⟩ = some (.int .i64 f) := (hb.cells _ _ (by first | with_reducible assumption | omega | (simp; done) | (simp; omega))).trans (by first | with_reducible assumption | (simp; done) | (simp; with_reducible assumption) | (rw [cell_alloc_before _ _ _ _ (by omega)]; with_reducible assumption) | (simp [go_sem, *]; done)); (first | (have nx := Ext.trans hx hb; clear hx) | (have nx := Ext.trans (hx.alloc _) hb; clear hx) | (have nx := Ext.trans hx.drew hb; clear hx) | have nx := hb); clear hb; try clear hs; try clear g0; try clear g1; have hx := nx; clear nx; have hs := ns; clear ns; have g0 := n0; clear n0; have g1 := n1; clear n1) | (go_at_call 120; (with_reducible refine (OQC.out _).mono ?_); rintro rv w1 ⟨rfl, hb⟩; have ns : w.heap.size < w1.heap.size := hb.lt (by first | with_reducible assumption | omega | (simp; done) | (simp; omega)); have n0 : w1.cell? ⟨w.heap.size, 0, none⟩ = some (.int .i64 e) := (hb.cells _ _ (by first | with_reducible assumption | omega | (simp; done) | (simp; omega))).trans (by first | with_reducible assumption | (simp; done) | (simp; with_reducible assumption) | (rw [cell_alloc_before _ _ _ _ (by omega)]; with_reducible assumption) | (simp [go_sem, *]; done)); have n1 : w1.cell? ⟨w.heap.size, 1, none⟩ = some (.int .i64 f) := (hb.cells _ _ (by first | with_reducible assumption | omega | (simp; done) | (simp; omega))).trans (by first | with_reducible assumption | (simp; done) | (simp; with_reducible assumption) | (rw [cell_alloc_before _ _ _ _ (by omega)]; with_reducible assumption) | (simp [go_sem, *]; done)); (first | (have nx := Ext.trans hx hb; clear hx) | (have nx := Ext.trans (hx.alloc _) hb; clear hx) | (have nx := Ext.trans hx.drew hb; clear hx) | have nx := hb); clear hb; try clear hs; try clear g0; try clear g1; have hx := nx; clear nx; have hs := ns; clear ns; have g0 := n0; clear n0; have g1 := n1; clear n1))
  go_ret
  exact ⟨rfl, (by repeat (first | exact Ext.refl _ | with_reducible assumption | apply Ext.alloc | apply Ext.drew | apply Ext.drewN | (refine Ext.setRow ?_ (by first | (simp; done) | (simp; omega) | omega) _) | (refine Ext.setCell ?_ (by first | (simp; done) | (simp; omega) | omega) _) | (refine Ext.trans ?_ (by with_reducible assumption))))⟩
end Go.Proofs.YtfgbndjhaiigbabDoor

