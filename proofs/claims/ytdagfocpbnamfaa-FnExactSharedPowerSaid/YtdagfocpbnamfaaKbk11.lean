/-
  Contracts of the functions that the laws reach, and the plain facts that they rest on, each under the conditions that its line names; part 11.
-/
import Derived.Test.YtdagfocpbnamfaaKbk1
import Derived.Test.YtdagfocpbnamfaaKbk2
import Derived.Test.YtdagfocpbnamfaaKbk3
import Derived.Test.YtdagfocpbnamfaaKbk4
import Derived.Test.YtdagfocpbnamfaaKbk5
import Derived.Test.YtdagfocpbnamfaaKbk6
import Derived.Test.YtdagfocpbnamfaaKbk7
import Derived.Test.YtdagfocpbnamfaaKbk8
import Derived.Test.YtdagfocpbnamfaaKbk9
import Derived.Test.YtdagfocpbnamfaaKbk10
import Derived.Test.YtdagfocpbnamfaaRows
import Derived.WalkKit
import Derived.LoopTactic
import Derived.Deep.OwnRows
import Derived.LoopN
import Derived.Deep.LoopGhost
import Derived.Laws.Bits64b
import Derived.WalkSpells
import Derived.WalkLawsBesides
import Derived.StillTactics
import Derived.Laws.Pointers
import Derived.Deep.RegionHeld3
import Derived.Deep.QuietTactic
import Derived.BigQuiet
import Derived.Outline
import Derived.Lib.Hide
import Derived.RowKit3
import Derived.Carry
import Derived.IntWalk
import Derived.Deep.DeepCutAuto
import Derived.Deep.CutBlock
import Derived.Laws.OwnMore
import Derived.OwnWalk
import Derived.Deep.AppendLies
import Derived.Laws.FloatArith
import Derived.Laws.BitsAllLaws
import Ieee.Arith
import Derived.ScopeJumps
import Derived.WalkMore
namespace Go.Proofs.Ytdagfocpbnamfaa
open Go Go.RowKit
set_option linter.unusedSimpArgs false
set_option linter.unusedVariables false
set_option maxRecDepth 100000

theorem row_ext {w w' : World} {b n : Nat} {t : TypeId} {g : Nat → Value} (h : w.rowIs b t n g) (hx : Ext w w') : w'.rowIs b t n g := h.of_block (hx.block _ h.lt)
end Go.Proofs.Ytdagfocpbnamfaa

namespace Go.Proofs.Ytdagfocpbnamfaa
open Go Go.RowKit
set_option linter.unusedSimpArgs false
set_option linter.unusedVariables false
set_option maxRecDepth 100000

/-- The first k numbers lie between two others. -/
def allR (lo hi : Int) (V : Nat → Int) : Nat → Bool
  | 0 => true
  | k + 1 => allR lo hi V k && decide (lo ≤ V k ∧ V k ≤ hi)

theorem allR_mono {lo hi : Int} {V : Nat → Int} {k n : Nat} (h : k ≤ n) (hb : allR lo hi V k = false) : allR lo hi V n = false := by
  induction n with
  | zero =>
    have : k = 0 := by omega
    subst this; exact hb
  | succ n ih =>
    by_cases e1 : k = n + 1
    · subst e1; exact hb
    · unfold allR; rw [ih (by omega)]; rfl

theorem allR_at {lo hi : Int} {V : Nat → Int} {n : Nat} (h : allR lo hi V n = true) (i : Nat) (hi2 : i < n) : lo ≤ V i ∧ V i ≤ hi := by
  induction n with
  | zero => omega
  | succ n ih =>
    unfold allR at h
    rw [Bool.and_eq_true] at h
    by_cases e1 : i = n
    · subst e1; exact of_decide_eq_true h.2
    · exact ih h.1 (by omega)

/-- A raw list. -/
def rawB (V : Nat → Int) (n : Nat) : Bool := decide (1 ≤ (n : Int) ∧ (n : Int) ≤ 16) && allR (-1000000) 1000000 V n

theorem raw_iff {V : Nat → Int} {n : Nat} : rawB V n = true ↔ (1 ≤ n ∧ n ≤ 16) ∧ allR (-1000000) 1000000 V n = true := by
  unfold rawB
  rw [Bool.and_eq_true, decide_eq_true_iff]
  constructor <;> (rintro ⟨⟨a, b⟩, c⟩; exact ⟨⟨by omega, by omega⟩, c⟩)

set_option maxHeartbeats 1600000 in
theorem l1All_row (lo hi : Int) (V : Nat → Int) (bb n : Nat) (hn : n ≤ 1048576) (w : World) (h : w.rowIs bb 3 n (fun i => .int .i64 (V i))) : Calls Try.prog 135 #[.slice (some ⟨bb, 0, none⟩) n n, .int .i64 lo, .int .i64 hi] w fun rv w' => rv = .returned (.bool (allR lo hi V n)) ∧ w = w' := by
  go_enter Try.func135, Try.ntmps135
  go_wp2
  go_loopw [11] (fun x wr => ∃ k : Nat, x = .int .i64 (k : Int) ∧ k ≤ n ∧ allR lo hi V k = true ∧ wr = w) (fun x _ => n - (intOf x).toNat)
  case atStart => exact ⟨0, rfl, by omega, rfl, rfl⟩
  case round =>
    obtain ⟨k, rfl, hk, hA, rfl⟩ := hrel
    by_cases hlt : k < n
    · have hlt2 : k < n := hlt
      have h1 : ((k : Nat) : Int) < (n : Int) := by omega
      have h0 : (0 : Int) ≤ (k : Int) := by omega
      have h2 : ((k : Int)).toNat = k := by omega
      have u1 : IntKind.i64.wrap ((k : Int) + 1) = (k : Int) + 1 := IntWalk.i64_in _ (by omega)
      have ga : wr.cell? ⟨bb, k, none⟩ = some (.int .i64 (V k)) := h.cell hlt2
      have LA := Lib.hid (fun w => l1In_any (V k) lo hi w)
      cases hd : decide (lo ≤ V k ∧ V k ≤ hi)
      · have HN : RowKit.Hid (allR lo hi V n = false) := Lib.hid (allR_mono (k := k + 1) (by omega) (by unfold allR; rw [hd, Bool.and_false]))
        rw [hd] at LA
        clear hd hA
        generalize V k = v at *
        go_wp2_with (go_at_call 70; refine (LA.out _).mono ?_; rintro rv w1 ⟨rfl, rfl⟩)
        go_ret
        exact ⟨by rw [HN.out]; rfl, by first | trivial | rfl⟩
      · have HN : RowKit.Hid (allR lo hi V (k + 1) = true) := Lib.hid (by unfold allR; rw [hd, hA]; rfl)
        rw [hd] at LA
        clear hd hA
        generalize V k = v at *
        go_wp2_with (go_at_call 70; refine (LA.out _).mono ?_; rintro rv w1 ⟨rfl, rfl⟩)
        go_roundw
        case rel => exact ⟨k + 1, by simp, by omega, HN.out, by first | trivial | rfl⟩
        case measure => simp [intOf]; omega
    · have h1 : ¬ ((k : Nat) : Int) < (n : Int) := by omega
      have hkn : k = n := by omega
      subst hkn
      have HA := Lib.hid hA
      clear hA
      go_wp2_with fail
      go_ret
      exact ⟨by rw [HA.out]; rfl, by first | trivial | rfl⟩

theorem blRaw_row (V : Nat → Int) (bb n : Nat) (hn : n ≤ 1048576) (w : World) (h : w.rowIs bb 3 n (fun i => .int .i64 (V i))) : Calls Try.prog 77 #[.slice (some ⟨bb, 0, none⟩) n n] w fun rv w' => rv = .returned (.bool (rawB V n)) ∧ w = w' := by
  have LA := Lib.hid (l1All_row (-1000000) 1000000 V bb n hn w h)
  have LI := Lib.hid (l1In_any (n : Int) 1 16 w)
  unfold rawB
  generalize decide (1 ≤ (n : Int) ∧ (n : Int) ≤ 16) = B at *
  generalize allR (-1000000) 1000000 V n = A at *
  cases B
  all_goals
    go_enter Try.func77, Try.ntmps77
    go_wp2_with (first | (go_at_call 70; refine (LI.out).mono ?_; rintro rv w1 ⟨rfl, rfl⟩) | (go_at_call 135; refine (LA.out).mono ?_; rintro rv w1 ⟨rfl, rfl⟩))
    go_ret
    exact ⟨rfl, rfl⟩

set_option maxHeartbeats 1600000 in
theorem isRaw_row (V : Nat → Int) (bb n : Nat) (w : World) (h : w.rowIs bb 3 n (fun i => .int .i64 (V i))) : Calls Try.prog 79 #[.slice (some ⟨bb, 0, none⟩) n n] w fun rv w' => rv = .returned (.bool (rawB V n)) ∧ w = w' := by
  by_cases hz : n = 0
  · have HN : RowKit.Hid (rawB V n = false) := Lib.hid (by subst hz; rfl)
    have h1 : ((n : Int) == 0) = true := by subst hz; rfl
    have h2 : (n : Int) = 0 := by omega
    go_enter Try.func79, Try.ntmps79
    go_wp2
    go_ret
    exact ⟨by rw [HN.out]; rfl, by first | trivial | rfl⟩
  · by_cases h16 : 16 < n
    · have HN : RowKit.Hid (rawB V n = false) := Lib.hid (by unfold rawB; rw [decide_eq_false (by omega)]; rfl)
      have h1 : ((n : Int) == 0) = false := by simpa using hz
      have h2 : (16 : Int) < (n : Int) := by omega
      go_enter Try.func79, Try.ntmps79
      go_wp2
      go_ret
      exact ⟨by rw [HN.out]; rfl, by first | trivial | rfl⟩
    · have hz1 : ((n : Int) == 0) = false := by simpa using hz
      have hz2 : ¬ (16 : Int) < (n : Int) := by omega
      have HR : RowKit.Hid (rawB V n = allR (-1000000) 1000000 V n) := Lib.hid (by unfold rawB; rw [decide_eq_true (by omega)]; rfl)
      go_enter Try.func79, Try.ntmps79
      go_wp2
      go_loopw [15] (fun x wr => ∃ k : Nat, x = .int .i64 (k : Int) ∧ k ≤ n ∧ allR (-1000000) 1000000 V k = true ∧ wr = w) (fun x _ => n - (intOf x).toNat)
      case atStart => exact ⟨0, rfl, by omega, rfl, rfl⟩
      case round =>
        obtain ⟨k, rfl, hk, hA, rfl⟩ := hrel
        by_cases hlt : k < n
        · have hlt2 : k < n := hlt
          have h1 : ((k : Nat) : Int) < (n : Int) := by omega
          have h0 : (0 : Int) ≤ (k : Int) := by omega
          have h2 : ((k : Int)).toNat = k := by omega
          have u1 : IntKind.i64.wrap ((k : Int) + 1) = (k : Int) + 1 := IntWalk.i64_in _ (by omega)
          have ga : wr.cell? ⟨bb, k, none⟩ = some (.int .i64 (V k)) := h.cell hlt2
          have LA := Lib.hid (fun w => isSizeAtMost_any (V k) 1000000 (by decide) (by decide) w)
          cases hd : decide (-1000000 ≤ V k ∧ V k ≤ 1000000)
          · have HN : RowKit.Hid (allR (-1000000) 1000000 V n = false) := Lib.hid (allR_mono (k := k + 1) (by omega) (by unfold allR; rw [hd, Bool.and_false]))
            rw [hd] at LA
            clear hd hA
            generalize V k = v at *
            go_wp2_with (go_at_call 88; refine (LA.out _).mono ?_; rintro rv w1 ⟨rfl, rfl⟩)
            go_ret
            exact ⟨by rw [HR.out, HN.out]; rfl, by first | trivial | rfl⟩
          · have HN : RowKit.Hid (allR (-1000000) 1000000 V (k + 1) = true) := Lib.hid (by unfold allR; rw [hd, hA]; rfl)
            rw [hd] at LA
            clear hd hA
            generalize V k = v at *
            go_wp2_with (go_at_call 88; refine (LA.out _).mono ?_; rintro rv w1 ⟨rfl, rfl⟩)
            go_roundw
            case rel => exact ⟨k + 1, by simp, by omega, HN.out, by first | trivial | rfl⟩
            case measure => simp [intOf]; omega
        · have h1 : ¬ ((k : Nat) : Int) < (n : Int) := by omega
          have hkn : k = n := by omega
          subst hkn
          have HA := Lib.hid hA
          clear hA
          go_wp2_with fail
          go_ret
          exact ⟨by rw [HR.out, HA.out]; rfl, by first | trivial | rfl⟩

theorem topPower_any (e f : Int) (hg : goodB e f = true) (w : World) : Calls Try.prog 81 #[fmt e f] w fun rv w' => rv = .returned (.int .i64 (pw (e - 1) - 1)) ∧ Ext w w' := by
  go_enter Try.func81, Try.ntmps81
  go_wp2_with (go_at_call 140; refine (iBiasOf_yes e f hg _).mono ?_; rintro rv w1 ⟨rfl, hb⟩; have ns : w.heap.size < w1.heap.size := hb.lt (by first | with_reducible assumption | omega | (simp; done) | (simp; omega)); have n0 : w1.cell? ⟨w.heap.size, 0, none⟩ = some (.int .i64 e) := (hb.cells _ _ (by first | with_reducible assumption | omega | (simp; done) | (simp; omega))).trans (by first | with_reducible assumption | (simp; done) | (simp; with_reducible assumption) | (rw [cell_alloc_before _ _ _ _ (by omega)]; with_reducible assumption) | (simp [go_sem, *]; done)); have n1 : w1.cell? ⟨w.heap.size, 1, none⟩ = some (.int .i64 f) := (hb.cells _ _ (by first | with_reducible assumption | omega | (simp; done) | (simp; omega))).trans (by first | with_reducible assumption | (simp; done) | (simp; with_reducible assumption) | (rw [cell_alloc_before _ _ _ _ (by omega)]; with_reducible assumption) | (simp [go_sem, *]; done)); (first | (have nx := Ext.trans hx hb; clear hx) | (have nx := Ext.trans (hx.alloc _) hb; clear hx) | (have nx := Ext.trans hx.drew hb; clear hx) | have nx := hb); clear hb; try clear hs; try clear g0; try clear g1; have hx := nx; clear nx; have hs := ns; clear ns; have g0 := n0; clear n0; have g1 := n1; clear n1)
  go_ret
  exact ⟨rfl, (by repeat (first | exact Ext.refl _ | with_reducible assumption | apply Ext.alloc | apply Ext.drew | apply Ext.drewN | (refine Ext.setRow ?_ (by first | (simp; done) | (simp; omega) | omega) _) | (refine Ext.setCell ?_ (by first | (simp; done) | (simp; omega) | omega) _) | (refine Ext.trans ?_ (by with_reducible assumption))))⟩

theorem pw_half {e : Int} (h : 1 ≤ e) : pw e = 2 * pw (e - 1) := by
  have := pw_add 1 (e - 1) (by decide) (by omega)
  rw [show 1 + (e - 1) = e by omega] at this
  rw [this]; rfl

theorem blTop_any (e f : Int) (hg : goodB e f = true) (w : World) : Calls Try.prog 138 #[fmt e f] w fun rv w' => rv = .returned (.int .i64 (pw (e - 1) - 1)) ∧ Ext w w' := by
  obtain ⟨h1, h2, h3, h4⟩ := good_iff.1 hg
  obtain ⟨⟨a1, a2⟩, ⟨b1, b2⟩, ⟨c1, c2⟩, hmul⟩ := pw_facts h1 h2 h3 h4
  have Hmul := Lib.hid hmul; clear hmul
  have hh := pw_half (e := e) (by omega)
  have c1 := pw_pos (e - 1)
  have c3 : pw (e - 1) ≤ 16 := pw_le 4 16 rfl (by omega)
  have k1 : IntKind.i64.wrap (pw e - 1 - 1) = pw e - 1 - 1 := IntWalk.i64_in _ (by omega)
  have k2 : IntKind.i64.wrap (pw e - 1 - 1 - (pw (e - 1) - 1)) = pw (e - 1) - 1 := by
    rw [IntWalk.i64_in _ (by omega)]; omega
  clear hh
  have FO := Lib.hid (fun w => fmOnes_any e f hg w)
  have FB := Lib.hid (fun w => fmBias_any e f hg w)
  generalize pw (e - 1) = P at *
  generalize pw e = R at *
  go_enter Try.func138, Try.ntmps138
  go_wp2_with (first | (go_at_call 145; refine (FO.out _).mono ?_; rintro rv w1 ⟨rfl, hb⟩; have ns : w.heap.size < w1.heap.size := hb.lt (by first | with_reducible assumption | omega | (simp; done) | (simp; omega)); have n0 : w1.cell? ⟨w.heap.size, 0, none⟩ = some (.int .i64 e) := (hb.cells _ _ (by first | with_reducible assumption | omega | (simp; done) | (simp; omega))).trans (by first | with_reducible assumption | (simp; done) | (simp; with_reducible assumption) | (rw [cell_alloc_before _ _ _ _ (by omega)]; with_reducible assumption) | (simp [go_sem, *]; done)); have n1 : w1.cell? ⟨w.heap.size, 1, none⟩ = some (.int .i64 f) := (hb.cells _ _ (by first | with_reducible assumption | omega | (simp; done) | (simp; omega))).trans (by first | with_reducible assumption | (simp; done) | (simp; with_reducible assumption) | (rw [cell_alloc_before _ _ _ _ (by omega)]; with_reducible assumption) | (simp [go_sem, *]; done)); (first | (have nx := Ext.trans hx hb; clear hx) | (have nx := Ext.trans (hx.alloc _) hb; clear hx) | (have nx := Ext.trans hx.drew hb; clear hx) | have nx := hb); clear hb; try clear hs; try clear g0; try clear g1; have hx := nx; clear nx; have hs := ns; clear ns; have g0 := n0; clear n0; have g1 := n1; clear n1) | (go_at_call 168; refine (FB.out _).mono ?_; rintro rv w1 ⟨rfl, hb⟩; have ns : w.heap.size < w1.heap.size := hb.lt (by first | with_reducible assumption | omega | (simp; done) | (simp; omega)); have n0 : w1.cell? ⟨w.heap.size, 0, none⟩ = some (.int .i64 e) := (hb.cells _ _ (by first | with_reducible assumption | omega | (simp; done) | (simp; omega))).trans (by first | with_reducible assumption | (simp; done) | (simp; with_reducible assumption) | (rw [cell_alloc_before _ _ _ _ (by omega)]; with_reducible assumption) | (simp [go_sem, *]; done)); have n1 : w1.cell? ⟨w.heap.size, 1, none⟩ = some (.int .i64 f) := (hb.cells _ _ (by first | with_reducible assumption | omega | (simp; done) | (simp; omega))).trans (by first | with_reducible assumption | (simp; done) | (simp; with_reducible assumption) | (rw [cell_alloc_before _ _ _ _ (by omega)]; with_reducible assumption) | (simp [go_sem, *]; done)); (first | (have nx := Ext.trans hx hb; clear hx) | (have nx := Ext.trans (hx.alloc _) hb; clear hx) | (have nx := Ext.trans hx.drew hb; clear hx) | have nx := hb); clear hb; try clear hs; try clear g0; try clear g1; have hx := nx; clear nx; have hs := ns; clear ns; have g0 := n0; clear n0; have g1 := n1; clear n1))
  try (go_region_held3 (fun w' => w'.cell? ⟨w.heap.size, 0, none⟩ = some (.int .i64 e) ∧ w'.cell? ⟨w.heap.size, 1, none⟩ = some (.int .i64 f) ∧ w.heap.size < w'.heap.size) ((refine ⟨?_, ?_, ?_⟩ <;> first | with_reducible assumption | ((rw [cell_setRow_far _ _ _ _ _ (by omega)]); with_reducible assumption) | ((rw [setRow_size]); with_reducible assumption) | ((repeat rw [World.cell?_setCell_far _ _ _ _ (by simp)]); with_reducible assumption) | (simp; done) | (simp [World.setCell]; first | done | omega) | (simp [go_sem, World.cell?_alloc_past, World.cell?_setCell_far, *]; done))) ((first | (go_at_call 145; refine (FO.out _).mono ?_; rintro rv w1 ⟨rfl, hb⟩; have ns : w.heap.size < w1.heap.size := hb.lt (by first | with_reducible assumption | omega | (simp; done) | (simp; omega)); have n0 : w1.cell? ⟨w.heap.size, 0, none⟩ = some (.int .i64 e) := (hb.cells _ _ (by first | with_reducible assumption | omega | (simp; done) | (simp; omega))).trans (by first | with_reducible assumption | (simp; done) | (simp; with_reducible assumption) | (rw [cell_alloc_before _ _ _ _ (by omega)]; with_reducible assumption) | (simp [go_sem, *]; done)); have n1 : w1.cell? ⟨w.heap.size, 1, none⟩ = some (.int .i64 f) := (hb.cells _ _ (by first | with_reducible assumption | omega | (simp; done) | (simp; omega))).trans (by first | with_reducible assumption | (simp; done) | (simp; with_reducible assumption) | (rw [cell_alloc_before _ _ _ _ (by omega)]; with_reducible assumption) | (simp [go_sem, *]; done)); (first | (have nx := Ext.trans hx hb; clear hx) | (have nx := Ext.trans (hx.alloc _) hb; clear hx) | (have nx := Ext.trans hx.drew hb; clear hx) | have nx := hb); clear hb; try clear hs; try clear g0; try clear g1; have hx := nx; clear nx; have hs := ns; clear ns; have g0 := n0; clear n0; have g1 := n1; clear n1) | (go_at_call 168; refine (FB.out _).mono ?_; rintro rv w1 ⟨rfl, hb⟩; have ns : w.heap.size < w1.heap.size := hb.lt (by first | with_reducible assumption | omega | (simp; done) | (simp; omega)); have n0 : w1.cell? ⟨w.heap.size, 0, none⟩ = some (.int .i64 e) := (hb.cells _ _ (by first | with_reducible assumption | omega | (simp; done) | (simp; omega))).trans (by first | with_reducible assumption | (simp; done) | (simp; with_reducible assumption) | (rw [cell_alloc_before _ _ _ _ (by omega)]; with_reducible assumption) | (simp [go_sem, *]; done)); have n1 : w1.cell? ⟨w.heap.size, 1, none⟩ = some (.int .i64 f) := (hb.cells _ _ (by first | with_reducible assumption | omega | (simp; done) | (simp; omega))).trans (by first | with_reducible assumption | (simp; done) | (simp; with_reducible assumption) | (rw [cell_alloc_before _ _ _ _ (by omega)]; with_reducible assumption) | (simp [go_sem, *]; done)); (first | (have nx := Ext.trans hx hb; clear hx) | (have nx := Ext.trans (hx.alloc _) hb; clear hx) | (have nx := Ext.trans hx.drew hb; clear hx) | have nx := hb); clear hb; try clear hs; try clear g0; try clear g1; have hx := nx; clear nx; have hs := ns; clear ns; have g0 := n0; clear n0; have g1 := n1; clear n1))))
  all_goals (try go_wp2_with fail)
  all_goals go_ret
  all_goals exact ⟨ret_int rfl, (by repeat (first | exact Ext.refl _ | with_reducible assumption | apply Ext.alloc | apply Ext.drew | apply Ext.drewN | (refine Ext.setRow ?_ (by first | (simp; done) | (simp; omega) | omega) _) | (refine Ext.setCell ?_ (by first | (simp; done) | (simp; omega) | omega) _) | (refine Ext.trans ?_ (by with_reducible assumption))))⟩

/-- What BitsOfBlock asks for. -/
def btB (e f n : Int) : Bool := goodB e f && decide (0 ≤ n ∧ n ≤ 16)

theorem bt_mul {e f n : Int} (h : btB e f n = true) : goodB e f = true ∧ (0 ≤ n ∧ n ≤ 16) ∧ 0 ≤ n * (1 + e + f) ∧ n * (1 + e + f) ≤ 256 := by
  unfold btB at h
  rw [Bool.and_eq_true, decide_eq_true_iff] at h
  obtain ⟨hg, h0, h1⟩ := h
  obtain ⟨g1, g2, g3, g4⟩ := good_iff.1 hg
  refine ⟨hg, ⟨h0, h1⟩, Int.mul_nonneg h0 (by omega), ?_⟩
  have := Int.mul_le_mul (a := n) (b := 1 + e + f) (c := 16) (d := 16) h1 (by omega) (by omega) (by decide)
  omega

theorem sBitsOfBlock_no (e f n : Int) (hg : btB e f n = false) (w : World) : Calls Try.prog 23 #[fmt e f, .int .i64 n] w fun rv w' => rv = .returned (.tuple #[.int .i64 0, .bool false]) ∧ Ext w w' := by
  have LI := Lib.hid (fun w => l1In_any n 0 16 w)
  have GD := Lib.hid (fun w => fmGood_any e f w)
  unfold btB at hg
  generalize decide (0 ≤ n ∧ n ≤ 16) = B at *
  generalize goodB e f = G at *
  cases G
  · clear hg
    go_enter Try.func23, Try.ntmps23
    go_wp2_with (go_at_call 69; refine (GD.out _).mono ?_; rintro rv w1 ⟨rfl, hb⟩; have ns : w.heap.size < w1.heap.size := hb.lt (by first | with_reducible assumption | omega | (simp; done) | (simp; omega)); have n0 : w1.cell? ⟨w.heap.size, 0, none⟩ = some (.int .i64 e) := (hb.cells _ _ (by first | with_reducible assumption | omega | (simp; done) | (simp; omega))).trans (by first | with_reducible assumption | (simp; done) | (simp; with_reducible assumption) | (rw [cell_alloc_before _ _ _ _ (by omega)]; with_reducible assumption) | (simp [go_sem, *]; done)); have n1 : w1.cell? ⟨w.heap.size, 1, none⟩ = some (.int .i64 f) := (hb.cells _ _ (by first | with_reducible assumption | omega | (simp; done) | (simp; omega))).trans (by first | with_reducible assumption | (simp; done) | (simp; with_reducible assumption) | (rw [cell_alloc_before _ _ _ _ (by omega)]; with_reducible assumption) | (simp [go_sem, *]; done)); (first | (have nx := Ext.trans hx hb; clear hx) | (have nx := Ext.trans (hx.alloc _) hb; clear hx) | (have nx := Ext.trans hx.drew hb; clear hx) | have nx := hb); clear hb; try clear hs; try clear g0; try clear g1; have hx := nx; clear nx; have hs := ns; clear ns; have g0 := n0; clear n0; have g1 := n1; clear n1)
    go_ret2
    exact ⟨rfl, (by repeat (first | exact Ext.refl _ | with_reducible assumption | apply Ext.alloc | apply Ext.drew | apply Ext.drewN | (refine Ext.setRow ?_ (by first | (simp; done) | (simp; omega) | omega) _) | (refine Ext.setCell ?_ (by first | (simp; done) | (simp; omega) | omega) _) | (refine Ext.trans ?_ (by with_reducible assumption))))⟩
  · obtain rfl : B = false := by simpa using hg
    go_enter Try.func23, Try.ntmps23
    go_wp2_with (first | (go_at_call 69; refine (GD.out _).mono ?_; rintro rv w1 ⟨rfl, hb⟩; have ns : w.heap.size < w1.heap.size := hb.lt (by first | with_reducible assumption | omega | (simp; done) | (simp; omega)); have n0 : w1.cell? ⟨w.heap.size, 0, none⟩ = some (.int .i64 e) := (hb.cells _ _ (by first | with_reducible assumption | omega | (simp; done) | (simp; omega))).trans (by first | with_reducible assumption | (simp; done) | (simp; with_reducible assumption) | (rw [cell_alloc_before _ _ _ _ (by omega)]; with_reducible assumption) | (simp [go_sem, *]; done)); have n1 : w1.cell? ⟨w.heap.size, 1, none⟩ = some (.int .i64 f) := (hb.cells _ _ (by first | with_reducible assumption | omega | (simp; done) | (simp; omega))).trans (by first | with_reducible assumption | (simp; done) | (simp; with_reducible assumption) | (rw [cell_alloc_before _ _ _ _ (by omega)]; with_reducible assumption) | (simp [go_sem, *]; done)); (first | (have nx := Ext.trans hx hb; clear hx) | (have nx := Ext.trans (hx.alloc _) hb; clear hx) | (have nx := Ext.trans hx.drew hb; clear hx) | have nx := hb); clear hb; try clear hs; try clear g0; try clear g1; have hx := nx; clear nx; have hs := ns; clear ns; have g0 := n0; clear n0; have g1 := n1; clear n1) | (go_at_call 70; refine (LI.out _).mono ?_; rintro rv w1 ⟨rfl, rfl⟩))
    go_ret2
    exact ⟨rfl, (by repeat (first | exact Ext.refl _ | with_reducible assumption | apply Ext.alloc | apply Ext.drew | apply Ext.drewN | (refine Ext.setRow ?_ (by first | (simp; done) | (simp; omega) | omega) _) | (refine Ext.setCell ?_ (by first | (simp; done) | (simp; omega) | omega) _) | (refine Ext.trans ?_ (by with_reducible assumption))))⟩

theorem sBitsOfBlock_yes (e f n : Int) (hg : btB e f n = true) (w : World) : Calls Try.prog 23 #[fmt e f, .int .i64 n] w fun rv w' => rv = .returned (.tuple #[.int .i64 (8 + n * (1 + e + f)), .bool true]) ∧ Ext w w' := by
  obtain ⟨hg, hn, m0, m1⟩ := bt_mul hg
  have LI := Lib.hid (fun w => l1In_any n 0 16 w)
  have GD := Lib.hid (fun w => fmGood_any e f w)
  have FW := Lib.hid (fun w => fmWidth_any e f hg w)
  rw [decide_eq_true hn] at LI
  rw [hg] at GD
  have k1 : IntKind.i64.wrap (n * (1 + e + f)) = n * (1 + e + f) := IntWalk.i64_in _ (by omega)
  have k2 : IntKind.i64.wrap (8 + n * (1 + e + f)) = 8 + n * (1 + e + f) := IntWalk.i64_in _ (by omega)
  generalize 1 + e + f = W at *
  clear hg hn
  go_enter Try.func23, Try.ntmps23
  go_wp2_with (first | (go_at_call 69; refine (GD.out _).mono ?_; rintro rv w1 ⟨rfl, hb⟩; have ns : w.heap.size < w1.heap.size := hb.lt (by first | with_reducible assumption | omega | (simp; done) | (simp; omega)); have n0 : w1.cell? ⟨w.heap.size, 0, none⟩ = some (.int .i64 e) := (hb.cells _ _ (by first | with_reducible assumption | omega | (simp; done) | (simp; omega))).trans (by first | with_reducible assumption | (simp; done) | (simp; with_reducible assumption) | (rw [cell_alloc_before _ _ _ _ (by omega)]; with_reducible assumption) | (simp [go_sem, *]; done)); have n1 : w1.cell? ⟨w.heap.size, 1, none⟩ = some (.int .i64 f) := (hb.cells _ _ (by first | with_reducible assumption | omega | (simp; done) | (simp; omega))).trans (by first | with_reducible assumption | (simp; done) | (simp; with_reducible assumption) | (rw [cell_alloc_before _ _ _ _ (by omega)]; with_reducible assumption) | (simp [go_sem, *]; done)); (first | (have nx := Ext.trans hx hb; clear hx) | (have nx := Ext.trans (hx.alloc _) hb; clear hx) | (have nx := Ext.trans hx.drew hb; clear hx) | have nx := hb); clear hb; try clear hs; try clear g0; try clear g1; have hx := nx; clear nx; have hs := ns; clear ns; have g0 := n0; clear n0; have g1 := n1; clear n1) | (go_at_call 70; refine (LI.out _).mono ?_; rintro rv w1 ⟨rfl, rfl⟩) | (go_at_call 71; refine (FW.out _).mono ?_; rintro rv w1 ⟨rfl, hb⟩; have ns : w.heap.size < w1.heap.size := hb.lt (by first | with_reducible assumption | omega | (simp; done) | (simp; omega)); have n0 : w1.cell? ⟨w.heap.size, 0, none⟩ = some (.int .i64 e) := (hb.cells _ _ (by first | with_reducible assumption | omega | (simp; done) | (simp; omega))).trans (by first | with_reducible assumption | (simp; done) | (simp; with_reducible assumption) | (rw [cell_alloc_before _ _ _ _ (by omega)]; with_reducible assumption) | (simp [go_sem, *]; done)); have n1 : w1.cell? ⟨w.heap.size, 1, none⟩ = some (.int .i64 f) := (hb.cells _ _ (by first | with_reducible assumption | omega | (simp; done) | (simp; omega))).trans (by first | with_reducible assumption | (simp; done) | (simp; with_reducible assumption) | (rw [cell_alloc_before _ _ _ _ (by omega)]; with_reducible assumption) | (simp [go_sem, *]; done)); (first | (have nx := Ext.trans hx hb; clear hx) | (have nx := Ext.trans (hx.alloc _) hb; clear hx) | (have nx := Ext.trans hx.drew hb; clear hx) | have nx := hb); clear hb; try clear hs; try clear g0; try clear g1; have hx := nx; clear nx; have hs := ns; clear ns; have g0 := n0; clear n0; have g1 := n1; clear n1))
  try (go_region_held3 (fun w' => w'.cell? ⟨w.heap.size, 0, none⟩ = some (.int .i64 e) ∧ w'.cell? ⟨w.heap.size, 1, none⟩ = some (.int .i64 f) ∧ w.heap.size < w'.heap.size) ((refine ⟨?_, ?_, ?_⟩ <;> first | with_reducible assumption | ((rw [cell_setRow_far _ _ _ _ _ (by omega)]); with_reducible assumption) | ((rw [setRow_size]); with_reducible assumption) | ((repeat rw [World.cell?_setCell_far _ _ _ _ (by simp)]); with_reducible assumption) | (simp; done) | (simp [World.setCell]; first | done | omega) | (simp [go_sem, World.cell?_alloc_past, World.cell?_setCell_far, *]; done))) ((first | (go_at_call 71; refine (FW.out _).mono ?_; rintro rv w1 ⟨rfl, hb⟩; have ns : w.heap.size < w1.heap.size := hb.lt (by first | with_reducible assumption | omega | (simp; done) | (simp; omega)); have n0 : w1.cell? ⟨w.heap.size, 0, none⟩ = some (.int .i64 e) := (hb.cells _ _ (by first | with_reducible assumption | omega | (simp; done) | (simp; omega))).trans (by first | with_reducible assumption | (simp; done) | (simp; with_reducible assumption) | (rw [cell_alloc_before _ _ _ _ (by omega)]; with_reducible assumption) | (simp [go_sem, *]; done)); have n1 : w1.cell? ⟨w.heap.size, 1, none⟩ = some (.int .i64 f) := (hb.cells _ _ (by first | with_reducible assumption | omega | (simp; done) | (simp; omega))).trans (by first | with_reducible assumption | (simp; done) | (simp; with_reducible assumption) | (rw [cell_alloc_before _ _ _ _ (by omega)]; with_reducible assumption) | (simp [go_sem, *]; done)); (first | (have nx := Ext.trans hx hb; clear hx) | (have nx := Ext.trans (hx.alloc _) hb; clear hx) | (have nx := Ext.trans hx.drew hb; clear hx) | have nx := hb); clear hb; try clear hs; try clear g0; try clear g1; have hx := nx; clear nx; have hs := ns; clear ns; have g0 := n0; clear n0; have g1 := n1; clear n1))))
  all_goals (try go_wp2_with fail)
  all_goals go_ret2
  all_goals exact ⟨rfl, (by repeat (first | exact Ext.refl _ | with_reducible assumption | apply Ext.alloc | apply Ext.drew | apply Ext.drewN | (refine Ext.setRow ?_ (by first | (simp; done) | (simp; omega) | omega) _) | (refine Ext.setCell ?_ (by first | (simp; done) | (simp; omega) | omega) _) | (refine Ext.trans ?_ (by with_reducible assumption))))⟩

theorem iBitsOfBlock_no (e f n : Int) (hg : btB e f n = false) (w : World) : Calls Try.prog 24 #[fmt e f, .int .i64 n] w fun rv w' => rv = .returned (.tuple #[.int .i64 0, .bool false]) ∧ Ext w w' := by
  cases h0 : goodB e f
  · clear hg
    go_enter Try.func24, Try.ntmps24
    go_wp2_with (go_at_call 72; refine (iWidthOf_no e f h0 _).mono ?_; rintro rv w1 ⟨rfl, hb⟩; have ns : w.heap.size < w1.heap.size := hb.lt (by first | with_reducible assumption | omega | (simp; done) | (simp; omega)); have n0 : w1.cell? ⟨w.heap.size, 0, none⟩ = some (.int .i64 e) := (hb.cells _ _ (by first | with_reducible assumption | omega | (simp; done) | (simp; omega))).trans (by first | with_reducible assumption | (simp; done) | (simp; with_reducible assumption) | (rw [cell_alloc_before _ _ _ _ (by omega)]; with_reducible assumption) | (simp [go_sem, *]; done)); have n1 : w1.cell? ⟨w.heap.size, 1, none⟩ = some (.int .i64 f) := (hb.cells _ _ (by first | with_reducible assumption | omega | (simp; done) | (simp; omega))).trans (by first | with_reducible assumption | (simp; done) | (simp; with_reducible assumption) | (rw [cell_alloc_before _ _ _ _ (by omega)]; with_reducible assumption) | (simp [go_sem, *]; done)); (first | (have nx := Ext.trans hx hb; clear hx) | (have nx := Ext.trans (hx.alloc _) hb; clear hx) | (have nx := Ext.trans hx.drew hb; clear hx) | have nx := hb); clear hb; try clear hs; try clear g0; try clear g1; have hx := nx; clear nx; have hs := ns; clear ns; have g0 := n0; clear n0; have g1 := n1; clear n1)
    go_ret2
    exact ⟨rfl, (by repeat (first | exact Ext.refl _ | with_reducible assumption | apply Ext.alloc | apply Ext.drew | apply Ext.drewN | (refine Ext.setRow ?_ (by first | (simp; done) | (simp; omega) | omega) _) | (refine Ext.setCell ?_ (by first | (simp; done) | (simp; omega) | omega) _) | (refine Ext.trans ?_ (by with_reducible assumption))))⟩
  · have WO := Lib.hid (fun w => iWidthOf_yes e f h0 w)
    have hn : ¬ (0 ≤ n ∧ n ≤ 16) := by
      unfold btB at hg
      rw [h0, Bool.true_and] at hg
      exact of_decide_eq_false hg
    generalize 1 + e + f = W at *
    clear hg h0
    by_cases h1 : n < 0
    · clear hn
      go_enter Try.func24, Try.ntmps24
      go_wp2_with (go_at_call 72; refine (WO.out _).mono ?_; rintro rv w1 ⟨rfl, hb⟩; have ns : w.heap.size < w1.heap.size := hb.lt (by first | with_reducible assumption | omega | (simp; done) | (simp; omega)); have n0 : w1.cell? ⟨w.heap.size, 0, none⟩ = some (.int .i64 e) := (hb.cells _ _ (by first | with_reducible assumption | omega | (simp; done) | (simp; omega))).trans (by first | with_reducible assumption | (simp; done) | (simp; with_reducible assumption) | (rw [cell_alloc_before _ _ _ _ (by omega)]; with_reducible assumption) | (simp [go_sem, *]; done)); have n1 : w1.cell? ⟨w.heap.size, 1, none⟩ = some (.int .i64 f) := (hb.cells _ _ (by first | with_reducible assumption | omega | (simp; done) | (simp; omega))).trans (by first | with_reducible assumption | (simp; done) | (simp; with_reducible assumption) | (rw [cell_alloc_before _ _ _ _ (by omega)]; with_reducible assumption) | (simp [go_sem, *]; done)); (first | (have nx := Ext.trans hx hb; clear hx) | (have nx := Ext.trans (hx.alloc _) hb; clear hx) | (have nx := Ext.trans hx.drew hb; clear hx) | have nx := hb); clear hb; try clear hs; try clear g0; try clear g1; have hx := nx; clear nx; have hs := ns; clear ns; have g0 := n0; clear n0; have g1 := n1; clear n1)
      go_ret2
      exact ⟨rfl, (by repeat (first | exact Ext.refl _ | with_reducible assumption | apply Ext.alloc | apply Ext.drew | apply Ext.drewN | (refine Ext.setRow ?_ (by first | (simp; done) | (simp; omega) | omega) _) | (refine Ext.setCell ?_ (by first | (simp; done) | (simp; omega) | omega) _) | (refine Ext.trans ?_ (by with_reducible assumption))))⟩
    · have h2 : 16 < n := by omega
      clear hn
      go_enter Try.func24, Try.ntmps24
      go_wp2_with (go_at_call 72; refine (WO.out _).mono ?_; rintro rv w1 ⟨rfl, hb⟩; have ns : w.heap.size < w1.heap.size := hb.lt (by first | with_reducible assumption | omega | (simp; done) | (simp; omega)); have n0 : w1.cell? ⟨w.heap.size, 0, none⟩ = some (.int .i64 e) := (hb.cells _ _ (by first | with_reducible assumption | omega | (simp; done) | (simp; omega))).trans (by first | with_reducible assumption | (simp; done) | (simp; with_reducible assumption) | (rw [cell_alloc_before _ _ _ _ (by omega)]; with_reducible assumption) | (simp [go_sem, *]; done)); have n1 : w1.cell? ⟨w.heap.size, 1, none⟩ = some (.int .i64 f) := (hb.cells _ _ (by first | with_reducible assumption | omega | (simp; done) | (simp; omega))).trans (by first | with_reducible assumption | (simp; done) | (simp; with_reducible assumption) | (rw [cell_alloc_before _ _ _ _ (by omega)]; with_reducible assumption) | (simp [go_sem, *]; done)); (first | (have nx := Ext.trans hx hb; clear hx) | (have nx := Ext.trans (hx.alloc _) hb; clear hx) | (have nx := Ext.trans hx.drew hb; clear hx) | have nx := hb); clear hb; try clear hs; try clear g0; try clear g1; have hx := nx; clear nx; have hs := ns; clear ns; have g0 := n0; clear n0; have g1 := n1; clear n1)
      go_ret2
      exact ⟨rfl, (by repeat (first | exact Ext.refl _ | with_reducible assumption | apply Ext.alloc | apply Ext.drew | apply Ext.drewN | (refine Ext.setRow ?_ (by first | (simp; done) | (simp; omega) | omega) _) | (refine Ext.setCell ?_ (by first | (simp; done) | (simp; omega) | omega) _) | (refine Ext.trans ?_ (by with_reducible assumption))))⟩

theorem iBitsOfBlock_yes (e f n : Int) (hg : btB e f n = true) (w : World) : Calls Try.prog 24 #[fmt e f, .int .i64 n] w fun rv w' => rv = .returned (.tuple #[.int .i64 (8 + n * (1 + e + f)), .bool true]) ∧ Ext w w' := by
  obtain ⟨hg, ⟨hn0, hn1⟩, m0, m1⟩ := bt_mul hg
  have WO := Lib.hid (fun w => iWidthOf_yes e f hg w)
  have h1 : ¬ n < 0 := by omega
  have h2 : ¬ 16 < n := by omega
  have k1 : IntKind.i64.wrap (n * (1 + e + f)) = n * (1 + e + f) := IntWalk.i64_in _ (by omega)
  have k2 : IntKind.i64.wrap (8 + n * (1 + e + f)) = 8 + n * (1 + e + f) := IntWalk.i64_in _ (by omega)
  generalize 1 + e + f = W at *
  clear hg
  go_enter Try.func24, Try.ntmps24
  go_wp2_with (go_at_call 72; refine (WO.out _).mono ?_; rintro rv w1 ⟨rfl, hb⟩; have ns : w.heap.size < w1.heap.size := hb.lt (by first | with_reducible assumption | omega | (simp; done) | (simp; omega)); have n0 : w1.cell? ⟨w.heap.size, 0, none⟩ = some (.int .i64 e) := (hb.cells _ _ (by first | with_reducible assumption | omega | (simp; done) | (simp; omega))).trans (by first | with_reducible assumption | (simp; done) | (simp; with_reducible assumption) | (rw [cell_alloc_before _ _ _ _ (by omega)]; with_reducible assumption) | (simp [go_sem, *]; done)); have n1 : w1.cell? ⟨w.heap.size, 1, none⟩ = some (.int .i64 f) := (hb.cells _ _ (by first | with_reducible assumption | omega | (simp; done) | (simp; omega))).trans (by first | with_reducible assumption | (simp; done) | (simp; with_reducible assumption) | (rw [cell_alloc_before _ _ _ _ (by omega)]; with_reducible assumption) | (simp [go_sem, *]; done)); (first | (have nx := Ext.trans hx hb; clear hx) | (have nx := Ext.trans (hx.alloc _) hb; clear hx) | (have nx := Ext.trans hx.drew hb; clear hx) | have nx := hb); clear hb; try clear hs; try clear g0; try clear g1; have hx := nx; clear nx; have hs := ns; clear ns; have g0 := n0; clear n0; have g1 := n1; clear n1)
  go_ret2
  exact ⟨rfl, (by repeat (first | exact Ext.refl _ | with_reducible assumption | apply Ext.alloc | apply Ext.drew | apply Ext.drewN | (refine Ext.setRow ?_ (by first | (simp; done) | (simp; omega) | omega) _) | (refine Ext.setCell ?_ (by first | (simp; done) | (simp; omega) | omega) _) | (refine Ext.trans ?_ (by with_reducible assumption))))⟩
end Go.Proofs.Ytdagfocpbnamfaa

namespace Go.Proofs.Ytdagfocpbnamfaa
open Go Go.RowKit
set_option linter.unusedSimpArgs false
set_option linter.unusedVariables false
set_option maxRecDepth 100000

/-- The greatest size of the first k numbers; the most places of them. -/
def mxV (V : Nat → Int) : Nat → Int
  | 0 => 0
  | k + 1 => max (mxV V k) ((V k).natAbs : Int)

def plM (V : Nat → Int) : Nat → Int
  | 0 => 0
  | k + 1 => max (plM V k) (plV (V k))

theorem mx_bd {V : Nat → Int} {n : Nat} (h : allR (-1000000) 1000000 V n = true) (k : Nat) (hk : k ≤ n) : 0 ≤ mxV V k ∧ mxV V k ≤ 1000000 := by
  induction k with
  | zero => exact ⟨Int.le_refl _, by show (0 : Int) ≤ 1000000; decide⟩
  | succ k ih =>
    have i1 := ih (by omega)
    have i2 := allR_at h k (by omega)
    unfold mxV
    omega

theorem pl_mono {a b : Int} (h : a.natAbs ≤ b.natAbs) (hb : b.natAbs ≤ 1000000) : plV a ≤ plV b := by
  by_cases ha : a = 0
  · subst ha; rw [pl_zero]; exact pl_nn b
  · have p := pl_bd a ha (by omega) (by omega)
    have q := pl_ge b (plV a - 1) (by have := p.1; omega) (by omega) (by omega)
    omega

theorem pl_max {a b : Int} (h0 : 0 ≤ a) (h1 : a ≤ 1000000) (h2 : b.natAbs ≤ 1000000) : plV (max a (b.natAbs : Int)) = max (plV a) (plV b) := by
  by_cases h : a ≤ (b.natAbs : Int)
  · have e1 : max a (b.natAbs : Int) = (b.natAbs : Int) := by omega
    rw [e1, plV_abs]
    have := pl_mono (a := a) (b := b) (by omega) h2
    omega
  · have e1 : max a (b.natAbs : Int) = a := by omega
    rw [e1]
    have := pl_mono (a := b) (b := a) (by omega) (by omega)
    omega

theorem plM_eq {V : Nat → Int} {n : Nat} (h : allR (-1000000) 1000000 V n = true) (k : Nat) (hk : k ≤ n) : plM V k = plV (mxV V k) := by
  induction k with
  | zero => exact pl_zero.symm
  | succ k ih =>
    have i1 := mx_bd h k (by omega)
    have i2 := allR_at h k (by omega)
    unfold plM mxV
    rw [ih (by omega), pl_max i1.1 i1.2 (by omega)]

theorem pl20 {a : Int} (h : a.natAbs ≤ 1000000) : 0 ≤ plV a ∧ plV a ≤ 20 := ⟨pl_nn a, pl_le a 20 (by decide) (by decide) (by rw [show pw 20 = 1048576 from rfl]; omega)⟩

theorem plM_bd {V : Nat → Int} {n : Nat} (h : allR (-1000000) 1000000 V n = true) (k : Nat) (hk : k ≤ n) : 0 ≤ plM V k ∧ plM V k ≤ 20 := by
  have i1 := mx_bd h k hk
  rw [plM_eq h k hk]
  exact pl20 (by omega)

theorem pl_nz {a : Int} (h0 : 0 ≤ a) (h1 : a ≤ 1000000) : plV a = 0 ↔ a = 0 := by
  constructor
  · intro h
    by_cases ha : a = 0
    · exact ha
    · have p := pl_bd a ha (by omega) (by omega)
      have q := pl_ge a 0 (by rw [show pw 0 = 1 from rfl]; omega) (by omega) (by omega)
      omega
  · rintro rfl; exact pl_zero

/-- The shared power of a raw list. -/
def shP (e : Int) (V : Nat → Int) (n : Nat) : Int := if mxV V n = 0 then 0 else plV (mxV V n) - 1 - (pw (e - 1) - 1)

/-- What SharedPower asks for. -/
def spB (e f : Int) (V : Nat → Int) (n : Nat) : Bool := goodB e f && rawB V n

def spV (e f : Int) (V : Nat → Int) (n : Nat) : Int := if spB e f V n = true then shP e V n else 0

set_option maxHeartbeats 1600000 in
theorem blShared_row (e f : Int) (V : Nat → Int) (bb n : Nat) (hg : goodB e f = true) (hr : rawB V n = true) (w : World) (h : w.rowIs bb 3 n (fun i => .int .i64 (V i))) : Calls Try.prog 78 #[fmt e f, .slice (some ⟨bb, 0, none⟩) n n] w fun rv w' => rv = .returned (.int .i64 (shP e V n)) ∧ Ext w w' := by
  obtain ⟨hn, hA⟩ := raw_iff.1 hr
  have hc1 := pw_pos (e - 1)
  have hc3 : pw (e - 1) ≤ 16 := pw_le 4 16 rfl (by have := good_iff.1 hg; omega)
  have BT := Lib.hid (fun w => blTop_any e f hg w)
  have H := Lib.hid h
  have h' := h
  go_enter Try.func78, Try.ntmps78
  go_wp2
  go_loopw [5, 10] (fun y x wr => ∃ k : Nat, x = .int .i64 (k : Int) ∧ k ≤ n ∧ y = .int .i64 (mxV V k) ∧ w.heap.size < wr.heap.size ∧ wr.cell? ⟨w.heap.size, 0, none⟩ = some (.int .i64 e) ∧ wr.cell? ⟨w.heap.size, 1, none⟩ = some (.int .i64 f) ∧ Ext w wr) (fun _ x _ => n - (intOf x).toNat)
  case atStart => exact ⟨0, rfl, by omega, rfl, by simp, by simp [go_sem], by simp [go_sem], Ext.new _ _⟩
  case round =>
    obtain ⟨k, rfl, hk, rfl, hs, g0, g1, hx⟩ := hrel
    by_cases hlt : k < n
    · have hlt2 : k < n := hlt
      have h1 : ((k : Nat) : Int) < (n : Int) := by omega
      have h0 : (0 : Int) ≤ (k : Int) := by omega
      have h2 : ((k : Int)).toNat = k := by omega
      have u1 : IntKind.i64.wrap ((k : Int) + 1) = (k : Int) + 1 := IntWalk.i64_in _ (by omega)
      have ga : wr.cell? ⟨bb, k, none⟩ = some (.int .i64 (V k)) := (row_ext h hx).cell hlt2
      have i2 := allR_at hA k hlt
      have LA := Lib.hid (fun w => l1Abs_nat (V k) (by omega) (by omega) w)
      have HE := Lib.hid (show mxV V (k + 1) = max (mxV V k) ((V k).natAbs : Int) from rfl)
      generalize ((V k).natAbs : Int) = a at *
      generalize V k = v at *
      generalize mxV V k = m at *
      clear i2
      go_wp2_with (first | (go_at_call 125; refine (LA.out _).mono ?_; rintro rv w1 ⟨rfl, rfl⟩) | (go_at_call 136; refine (l1Most_max _ _ _).mono ?_; rintro rv w1 ⟨rfl, rfl⟩))
      go_roundw
      case rel => exact ⟨k + 1, by simp, by omega, by rw [HE.out], by with_reducible assumption, by with_reducible assumption, by with_reducible assumption, by with_reducible assumption⟩
      case measure => simp [intOf]; omega
    · have h1 : ¬ ((k : Nat) : Int) < (n : Int) := by omega
      have hkn : k = n := by omega
      subst hkn
      have hm := mx_bd hA k (Nat.le_refl _)
      by_cases hz : mxV V k = 0
      · have HZ : RowKit.Hid (shP e V k = 0) := Lib.hid (if_pos hz)
        have hz1 : (mxV V k == 0) = true := by simpa using hz
        rw [hz]
        clear hz hz1
        go_wp2_with fail
        go_ret
        exact ⟨by rw [HZ.out]; rfl, (by repeat (first | exact Ext.refl _ | with_reducible assumption | apply Ext.alloc | apply Ext.drew | apply Ext.drewN | (refine Ext.setRow ?_ (by first | (simp; done) | (simp; omega) | omega) _) | (refine Ext.setCell ?_ (by first | (simp; done) | (simp; omega) | omega) _) | (refine Ext.trans ?_ (by with_reducible assumption))))⟩
      · have HZ : RowKit.Hid (shP e V k = plV (mxV V k) - 1 - (pw (e - 1) - 1)) := Lib.hid (if_neg hz)
        have hz1 : (mxV V k == 0) = false := by simpa using hz
        have p20 := pl20 (a := mxV V k) (by omega)
        have RB := Lib.hid (fun w => rdBits_any (mxV V k) (by omega) (by omega) w)
        have kw1 : IntKind.i64.wrap (plV (mxV V k) - 1) = plV (mxV V k) - 1 := IntWalk.i64_in _ (by omega)
        have kw2 : IntKind.i64.wrap (plV (mxV V k) - 1 - (pw (e - 1) - 1)) = plV (mxV V k) - 1 - (pw (e - 1) - 1) := IntWalk.i64_in _ (by omega)
        generalize plV (mxV V k) = q at *
        generalize mxV V k = m at *
        generalize pw (e - 1) = P at *
        go_wp2_with (first | (go_at_call 137; refine (RB.out _).mono ?_; rintro rv w1 ⟨rfl, rfl⟩) | (go_at_call 138; refine (BT.out _).mono ?_; rintro rv w1 ⟨rfl, hb⟩; have ns : w.heap.size < w1.heap.size := hb.lt (by first | with_reducible assumption | omega | (simp; done) | (simp; omega)); have n0 : w1.cell? ⟨w.heap.size, 0, none⟩ = some (.int .i64 e) := (hb.cells _ _ (by first | with_reducible assumption | omega | (simp; done) | (simp; omega))).trans (by first | with_reducible assumption | (simp; done) | (simp; with_reducible assumption) | (rw [cell_alloc_before _ _ _ _ (by omega)]; with_reducible assumption) | (simp [go_sem, *]; done)); have n1 : w1.cell? ⟨w.heap.size, 1, none⟩ = some (.int .i64 f) := (hb.cells _ _ (by first | with_reducible assumption | omega | (simp; done) | (simp; omega))).trans (by first | with_reducible assumption | (simp; done) | (simp; with_reducible assumption) | (rw [cell_alloc_before _ _ _ _ (by omega)]; with_reducible assumption) | (simp [go_sem, *]; done)); (first | (have nx := Ext.trans hx hb; clear hx) | (have nx := Ext.trans (hx.alloc _) hb; clear hx) | (have nx := Ext.trans hx.drew hb; clear hx) | have nx := hb); clear hb; try clear hs; try clear g0; try clear g1; have hx := nx; clear nx; have hs := ns; clear ns; have g0 := n0; clear n0; have g1 := n1; clear n1))
        try (go_region_held3 (fun w' => w'.cell? ⟨w.heap.size, 0, none⟩ = some (.int .i64 e) ∧ w'.cell? ⟨w.heap.size, 1, none⟩ = some (.int .i64 f) ∧ w.heap.size < w'.heap.size) ((refine ⟨?_, ?_, ?_⟩ <;> first | with_reducible assumption | ((rw [cell_setRow_far _ _ _ _ _ (by omega)]); with_reducible assumption) | ((rw [setRow_size]); with_reducible assumption) | ((repeat rw [World.cell?_setCell_far _ _ _ _ (by simp)]); with_reducible assumption) | (simp; done) | (simp [World.setCell]; first | done | omega) | (simp [go_sem, World.cell?_alloc_past, World.cell?_setCell_far, *]; done))) ((first | (go_at_call 137; refine (RB.out _).mono ?_; rintro rv w1 ⟨rfl, rfl⟩) | (go_at_call 138; refine (BT.out _).mono ?_; rintro rv w1 ⟨rfl, hb⟩; have ns : w.heap.size < w1.heap.size := hb.lt (by first | with_reducible assumption | omega | (simp; done) | (simp; omega)); have n0 : w1.cell? ⟨w.heap.size, 0, none⟩ = some (.int .i64 e) := (hb.cells _ _ (by first | with_reducible assumption | omega | (simp; done) | (simp; omega))).trans (by first | with_reducible assumption | (simp; done) | (simp; with_reducible assumption) | (rw [cell_alloc_before _ _ _ _ (by omega)]; with_reducible assumption) | (simp [go_sem, *]; done)); have n1 : w1.cell? ⟨w.heap.size, 1, none⟩ = some (.int .i64 f) := (hb.cells _ _ (by first | with_reducible assumption | omega | (simp; done) | (simp; omega))).trans (by first | with_reducible assumption | (simp; done) | (simp; with_reducible assumption) | (rw [cell_alloc_before _ _ _ _ (by omega)]; with_reducible assumption) | (simp [go_sem, *]; done)); (first | (have nx := Ext.trans hx hb; clear hx) | (have nx := Ext.trans (hx.alloc _) hb; clear hx) | (have nx := Ext.trans hx.drew hb; clear hx) | have nx := hb); clear hb; try clear hs; try clear g0; try clear g1; have hx := nx; clear nx; have hs := ns; clear ns; have g0 := n0; clear n0; have g1 := n1; clear n1))))
        all_goals (try go_wp2_with fail)
        all_goals go_ret
        all_goals exact ⟨by rw [HZ.out]; rfl, (by repeat (first | exact Ext.refl _ | with_reducible assumption | apply Ext.alloc | apply Ext.drew | apply Ext.drewN | (refine Ext.setRow ?_ (by first | (simp; done) | (simp; omega) | omega) _) | (refine Ext.setCell ?_ (by first | (simp; done) | (simp; omega) | omega) _) | (refine Ext.trans ?_ (by with_reducible assumption))))⟩

theorem sSharedPower_row (e f : Int) (V : Nat → Int) (bb n : Nat) (hn : n ≤ 1048576) (w : World) (h : w.rowIs bb 3 n (fun i => .int .i64 (V i))) : Calls Try.prog 30 #[fmt e f, .slice (some ⟨bb, 0, none⟩) n n] w fun rv w' => rv = .returned (.tuple #[.int .i64 (spV e f V n), .bool (spB e f V n)]) ∧ Ext w w' := by
  have GD := Lib.hid (fun w => fmGood_any e f w)
  have BR := Lib.hid (fun w h => blRaw_row V bb n hn w h)
  have BS := Lib.hid (fun hg hr w h => blShared_row e f V bb n hg hr w h)
  unfold spV spB
  generalize shP e V n = s at *
  cases hg : goodB e f
  · rw [hg] at GD
    clear BS
    go_enter Try.func30, Try.ntmps30
    go_wp2_with (go_at_call 69; refine (GD.out _).mono ?_; rintro rv w1 ⟨rfl, hb⟩; have ns : w.heap.size < w1.heap.size := hb.lt (by first | with_reducible assumption | omega | (simp; done) | (simp; omega)); have n0 : w1.cell? ⟨w.heap.size, 0, none⟩ = some (.int .i64 e) := (hb.cells _ _ (by first | with_reducible assumption | omega | (simp; done) | (simp; omega))).trans (by first | with_reducible assumption | (simp; done) | (simp; with_reducible assumption) | (rw [cell_alloc_before _ _ _ _ (by omega)]; with_reducible assumption) | (simp [go_sem, *]; done)); have n1 : w1.cell? ⟨w.heap.size, 1, none⟩ = some (.int .i64 f) := (hb.cells _ _ (by first | with_reducible assumption | omega | (simp; done) | (simp; omega))).trans (by first | with_reducible assumption | (simp; done) | (simp; with_reducible assumption) | (rw [cell_alloc_before _ _ _ _ (by omega)]; with_reducible assumption) | (simp [go_sem, *]; done)); (first | (have nx := Ext.trans hx hb; clear hx) | (have nx := Ext.trans (hx.alloc _) hb; clear hx) | (have nx := Ext.trans hx.drew hb; clear hx) | have nx := hb); clear hb; try clear hs; try clear g0; try clear g1; have hx := nx; clear nx; have hs := ns; clear ns; have g0 := n0; clear n0; have g1 := n1; clear n1)
    go_ret2
    exact ⟨rfl, (by repeat (first | exact Ext.refl _ | with_reducible assumption | apply Ext.alloc | apply Ext.drew | apply Ext.drewN | (refine Ext.setRow ?_ (by first | (simp; done) | (simp; omega) | omega) _) | (refine Ext.setCell ?_ (by first | (simp; done) | (simp; omega) | omega) _) | (refine Ext.trans ?_ (by with_reducible assumption))))⟩
  · cases hr : rawB V n
    · rw [hg] at GD
      rw [hr] at BR
      clear BS
      go_enter Try.func30, Try.ntmps30
      go_wp2_with (first | (go_at_call 69; refine (GD.out _).mono ?_; rintro rv w1 ⟨rfl, hb⟩; have ns : w.heap.size < w1.heap.size := hb.lt (by first | with_reducible assumption | omega | (simp; done) | (simp; omega)); have n0 : w1.cell? ⟨w.heap.size, 0, none⟩ = some (.int .i64 e) := (hb.cells _ _ (by first | with_reducible assumption | omega | (simp; done) | (simp; omega))).trans (by first | with_reducible assumption | (simp; done) | (simp; with_reducible assumption) | (rw [cell_alloc_before _ _ _ _ (by omega)]; with_reducible assumption) | (simp [go_sem, *]; done)); have n1 : w1.cell? ⟨w.heap.size, 1, none⟩ = some (.int .i64 f) := (hb.cells _ _ (by first | with_reducible assumption | omega | (simp; done) | (simp; omega))).trans (by first | with_reducible assumption | (simp; done) | (simp; with_reducible assumption) | (rw [cell_alloc_before _ _ _ _ (by omega)]; with_reducible assumption) | (simp [go_sem, *]; done)); (first | (have nx := Ext.trans hx hb; clear hx) | (have nx := Ext.trans (hx.alloc _) hb; clear hx) | (have nx := Ext.trans hx.drew hb; clear hx) | have nx := hb); clear hb; try clear hs; try clear g0; try clear g1; have hx := nx; clear nx; have hs := ns; clear ns; have g0 := n0; clear n0; have g1 := n1; clear n1) | (go_at_call 77; refine (BR.out _ (row_ext h (by repeat (first | exact Ext.refl _ | with_reducible assumption | apply Ext.alloc | apply Ext.drew | apply Ext.drewN | (refine Ext.setRow ?_ (by first | (simp; done) | (simp; omega) | omega) _) | (refine Ext.setCell ?_ (by first | (simp; done) | (simp; omega) | omega) _) | (refine Ext.trans ?_ (by with_reducible assumption)))))).mono ?_; rintro rv w1 ⟨rfl, rfl⟩))
      go_ret2
      exact ⟨rfl, (by repeat (first | exact Ext.refl _ | with_reducible assumption | apply Ext.alloc | apply Ext.drew | apply Ext.drewN | (refine Ext.setRow ?_ (by first | (simp; done) | (simp; omega) | omega) _) | (refine Ext.setCell ?_ (by first | (simp; done) | (simp; omega) | omega) _) | (refine Ext.trans ?_ (by with_reducible assumption))))⟩
    · have BS2 := Lib.hid (BS.out hg hr)
      rw [hg] at GD
      rw [hr] at BR
      clear BS
      go_enter Try.func30, Try.ntmps30
      go_wp2_with (first | (go_at_call 69; refine (GD.out _).mono ?_; rintro rv w1 ⟨rfl, hb⟩; have ns : w.heap.size < w1.heap.size := hb.lt (by first | with_reducible assumption | omega | (simp; done) | (simp; omega)); have n0 : w1.cell? ⟨w.heap.size, 0, none⟩ = some (.int .i64 e) := (hb.cells _ _ (by first | with_reducible assumption | omega | (simp; done) | (simp; omega))).trans (by first | with_reducible assumption | (simp; done) | (simp; with_reducible assumption) | (rw [cell_alloc_before _ _ _ _ (by omega)]; with_reducible assumption) | (simp [go_sem, *]; done)); have n1 : w1.cell? ⟨w.heap.size, 1, none⟩ = some (.int .i64 f) := (hb.cells _ _ (by first | with_reducible assumption | omega | (simp; done) | (simp; omega))).trans (by first | with_reducible assumption | (simp; done) | (simp; with_reducible assumption) | (rw [cell_alloc_before _ _ _ _ (by omega)]; with_reducible assumption) | (simp [go_sem, *]; done)); (first | (have nx := Ext.trans hx hb; clear hx) | (have nx := Ext.trans (hx.alloc _) hb; clear hx) | (have nx := Ext.trans hx.drew hb; clear hx) | have nx := hb); clear hb; try clear hs; try clear g0; try clear g1; have hx := nx; clear nx; have hs := ns; clear ns; have g0 := n0; clear n0; have g1 := n1; clear n1) | (go_at_call 77; refine (BR.out _ (row_ext h (by repeat (first | exact Ext.refl _ | with_reducible assumption | apply Ext.alloc | apply Ext.drew | apply Ext.drewN | (refine Ext.setRow ?_ (by first | (simp; done) | (simp; omega) | omega) _) | (refine Ext.setCell ?_ (by first | (simp; done) | (simp; omega) | omega) _) | (refine Ext.trans ?_ (by with_reducible assumption)))))).mono ?_; rintro rv w1 ⟨rfl, rfl⟩) | (go_at_call 78; refine (BS2.out _ (row_ext h (by repeat (first | exact Ext.refl _ | with_reducible assumption | apply Ext.alloc | apply Ext.drew | apply Ext.drewN | (refine Ext.setRow ?_ (by first | (simp; done) | (simp; omega) | omega) _) | (refine Ext.setCell ?_ (by first | (simp; done) | (simp; omega) | omega) _) | (refine Ext.trans ?_ (by with_reducible assumption)))))).mono ?_; rintro rv w1 ⟨rfl, hb⟩; have ns : w.heap.size < w1.heap.size := hb.lt (by first | with_reducible assumption | omega | (simp; done) | (simp; omega)); have n0 : w1.cell? ⟨w.heap.size, 0, none⟩ = some (.int .i64 e) := (hb.cells _ _ (by first | with_reducible assumption | omega | (simp; done) | (simp; omega))).trans (by first | with_reducible assumption | (simp; done) | (simp; with_reducible assumption) | (rw [cell_alloc_before _ _ _ _ (by omega)]; with_reducible assumption) | (simp [go_sem, *]; done)); have n1 : w1.cell? ⟨w.heap.size, 1, none⟩ = some (.int .i64 f) := (hb.cells _ _ (by first | with_reducible assumption | omega | (simp; done) | (simp; omega))).trans (by first | with_reducible assumption | (simp; done) | (simp; with_reducible assumption) | (rw [cell_alloc_before _ _ _ _ (by omega)]; with_reducible assumption) | (simp [go_sem, *]; done)); (first | (have nx := Ext.trans hx hb; clear hx) | (have nx := Ext.trans (hx.alloc _) hb; clear hx) | (have nx := Ext.trans hx.drew hb; clear hx) | have nx := hb); clear hb; try clear hs; try clear g0; try clear g1; have hx := nx; clear nx; have hs := ns; clear ns; have g0 := n0; clear n0; have g1 := n1; clear n1))
      go_ret2
      exact ⟨rfl, (by repeat (first | exact Ext.refl _ | with_reducible assumption | apply Ext.alloc | apply Ext.drew | apply Ext.drewN | (refine Ext.setRow ?_ (by first | (simp; done) | (simp; omega) | omega) _) | (refine Ext.setCell ?_ (by first | (simp; done) | (simp; omega) | omega) _) | (refine Ext.trans ?_ (by with_reducible assumption))))⟩

set_option maxHeartbeats 1600000 in
theorem iSharedPower_yes (e f : Int) (V : Nat → Int) (bb n : Nat) (hg : goodB e f = true) (hr : rawB V n = true) (w : World) (h : w.rowIs bb 3 n (fun i => .int .i64 (V i))) : Calls Try.prog 31 #[fmt e f, .slice (some ⟨bb, 0, none⟩) n n] w fun rv w' => rv = .returned (.tuple #[.int .i64 (shP e V n), .bool true]) ∧ Ext w w' := by
  obtain ⟨hn, hA⟩ := raw_iff.1 hr
  have hc1 := pw_pos (e - 1)
  have hc3 : pw (e - 1) ≤ 16 := pw_le 4 16 rfl (by have := good_iff.1 hg; omega)
  have GD := Lib.hid (fun w => isFormat_any e f w)
  have BR := Lib.hid (fun w h => isRaw_row V bb n w h)
  have BT := Lib.hid (fun w => topPower_any e f hg w)
  rw [hg] at GD
  rw [hr] at BR
  go_enter Try.func31, Try.ntmps31
  go_wp2_with (first | (go_at_call 76; refine (GD.out _).mono ?_; rintro rv w1 ⟨rfl, hb⟩; have ns : w.heap.size < w1.heap.size := hb.lt (by first | with_reducible assumption | omega | (simp; done) | (simp; omega)); have n0 : w1.cell? ⟨w.heap.size, 0, none⟩ = some (.int .i64 e) := (hb.cells _ _ (by first | with_reducible assumption | omega | (simp; done) | (simp; omega))).trans (by first | with_reducible assumption | (simp; done) | (simp; with_reducible assumption) | (rw [cell_alloc_before _ _ _ _ (by omega)]; with_reducible assumption) | (simp [go_sem, *]; done)); have n1 : w1.cell? ⟨w.heap.size, 1, none⟩ = some (.int .i64 f) := (hb.cells _ _ (by first | with_reducible assumption | omega | (simp; done) | (simp; omega))).trans (by first | with_reducible assumption | (simp; done) | (simp; with_reducible assumption) | (rw [cell_alloc_before _ _ _ _ (by omega)]; with_reducible assumption) | (simp [go_sem, *]; done)); (first | (have nx := Ext.trans hx hb; clear hx) | (have nx := Ext.trans (hx.alloc _) hb; clear hx) | (have nx := Ext.trans hx.drew hb; clear hx) | have nx := hb); clear hb; try clear hs; try clear g0; try clear g1; have hx := nx; clear nx; have hs := ns; clear ns; have g0 := n0; clear n0; have g1 := n1; clear n1) | (go_at_call 79; refine (BR.out _ (row_ext h (by repeat (first | exact Ext.refl _ | with_reducible assumption | apply Ext.alloc | apply Ext.drew | apply Ext.drewN | (refine Ext.setRow ?_ (by first | (simp; done) | (simp; omega) | omega) _) | (refine Ext.setCell ?_ (by first | (simp; done) | (simp; omega) | omega) _) | (refine Ext.trans ?_ (by with_reducible assumption)))))).mono ?_; rintro rv w1 ⟨rfl, rfl⟩))
  go_loopw [6, 19] (fun y x wr => ∃ k : Nat, x = .int .i64 (k : Int) ∧ k ≤ n ∧ y = .int .i64 (plM V k) ∧ w.heap.size < wr.heap.size ∧ wr.cell? ⟨w.heap.size, 0, none⟩ = some (.int .i64 e) ∧ wr.cell? ⟨w.heap.size, 1, none⟩ = some (.int .i64 f) ∧ Ext w wr) (fun _ x _ => n - (intOf x).toNat)
  case atStart => exact ⟨0, rfl, by omega, rfl, by with_reducible assumption, by with_reducible assumption, by with_reducible assumption, (by repeat (first | exact Ext.refl _ | with_reducible assumption | apply Ext.alloc | apply Ext.drew | apply Ext.drewN | (refine Ext.setRow ?_ (by first | (simp; done) | (simp; omega) | omega) _) | (refine Ext.setCell ?_ (by first | (simp; done) | (simp; omega) | omega) _) | (refine Ext.trans ?_ (by with_reducible assumption))))⟩
  case round =>
    clear ns n0 n1 nx
    obtain ⟨k, rfl, hk, rfl, hs, g0, g1, hx⟩ := hrel
    by_cases hlt : k < n
    · have hlt2 : k < n := hlt
      have h1 : ((k : Nat) : Int) < (n : Int) := by omega
      have h0 : (0 : Int) ≤ (k : Int) := by omega
      have h2 : ((k : Int)).toNat = k := by omega
      have u1 : IntKind.i64.wrap ((k : Int) + 1) = (k : Int) + 1 := IntWalk.i64_in _ (by omega)
      have ga : wr.cell? ⟨bb, k, none⟩ = some (.int .i64 (V k)) := (row_ext h hx).cell hlt2
      have i2 := allR_at hA k hlt
      have LA := Lib.hid (fun w => placesOf_any (V k) (by omega) (by omega) w)
      have HE := Lib.hid (show plM V (k + 1) = max (plM V k) (plV (V k)) from rfl)
      generalize plV (V k) = a at *
      generalize V k = v at *
      generalize plM V k = m at *
      clear i2
      go_wp2_with (go_at_call 80; refine (LA.out _).mono ?_; rintro rv w1 ⟨rfl, rfl⟩)
      go_roundw
      case rel => exact ⟨k + 1, by simp, by omega, by rw [HE.out], by with_reducible assumption, by with_reducible assumption, by with_reducible assumption, by with_reducible assumption⟩
      case measure => simp [intOf]; omega
    · have h1 : ¬ ((k : Nat) : Int) < (n : Int) := by omega
      have hkn : k = n := by omega
      subst hkn
      have hm := mx_bd hA k (Nat.le_refl _)
      have hp := plM_bd hA k (Nat.le_refl _)
      have hq := plM_eq hA k (Nat.le_refl _)
      have hz := pl_nz hm.1 hm.2
      rw [← hq] at hz
      by_cases h0 : plM V k = 0
      · have HZ : RowKit.Hid (shP e V k = 0) := Lib.hid (if_pos (hz.1 h0))
        rw [h0]
        clear h0 hz hq hp hm
        go_wp2_with fail
        go_ret2
        exact ⟨by rw [HZ.out]; rfl, (by repeat (first | exact Ext.refl _ | with_reducible assumption | apply Ext.alloc | apply Ext.drew | apply Ext.drewN | (refine Ext.setRow ?_ (by first | (simp; done) | (simp; omega) | omega) _) | (refine Ext.setCell ?_ (by first | (simp; done) | (simp; omega) | omega) _) | (refine Ext.trans ?_ (by with_reducible assumption))))⟩
      · have HZ : RowKit.Hid (shP e V k = plM V k - 1 - (pw (e - 1) - 1)) := Lib.hid (by rw [hq]; exact if_neg (fun q => h0 (hz.2 q)))
        have hz1 : (plM V k == 0) = false := by simpa using h0
        have kw1 : IntKind.i64.wrap (plM V k - 1) = plM V k - 1 := IntWalk.i64_in _ (by omega)
        have kw2 : IntKind.i64.wrap (plM V k - 1 - (pw (e - 1) - 1)) = plM V k - 1 - (pw (e - 1) - 1) := IntWalk.i64_in _ (by omega)
        clear hz hq hm
        generalize plM V k = m at *
        generalize pw (e - 1) = P at *
        go_wp2_with (go_at_call 81; refine (BT.out _).mono ?_; rintro rv w1 ⟨rfl, hb⟩; have ns : w.heap.size < w1.heap.size := hb.lt (by first | with_reducible assumption | omega | (simp; done) | (simp; omega)); have n0 : w1.cell? ⟨w.heap.size, 0, none⟩ = some (.int .i64 e) := (hb.cells _ _ (by first | with_reducible assumption | omega | (simp; done) | (simp; omega))).trans (by first | with_reducible assumption | (simp; done) | (simp; with_reducible assumption) | (rw [cell_alloc_before _ _ _ _ (by omega)]; with_reducible assumption) | (simp [go_sem, *]; done)); have n1 : w1.cell? ⟨w.heap.size, 1, none⟩ = some (.int .i64 f) := (hb.cells _ _ (by first | with_reducible assumption | omega | (simp; done) | (simp; omega))).trans (by first | with_reducible assumption | (simp; done) | (simp; with_reducible assumption) | (rw [cell_alloc_before _ _ _ _ (by omega)]; with_reducible assumption) | (simp [go_sem, *]; done)); (first | (have nx := Ext.trans hx hb; clear hx) | (have nx := Ext.trans (hx.alloc _) hb; clear hx) | (have nx := Ext.trans hx.drew hb; clear hx) | have nx := hb); clear hb; try clear hs; try clear g0; try clear g1; have hx := nx; clear nx; have hs := ns; clear ns; have g0 := n0; clear n0; have g1 := n1; clear n1)
        try (go_region_held3 (fun w' => w'.cell? ⟨w.heap.size, 0, none⟩ = some (.int .i64 e) ∧ w'.cell? ⟨w.heap.size, 1, none⟩ = some (.int .i64 f) ∧ w.heap.size < w'.heap.size) ((refine ⟨?_, ?_, ?_⟩ <;> first | with_reducible assumption | ((rw [cell_setRow_far _ _ _ _ _ (by omega)]); with_reducible assumption) | ((rw [setRow_size]); with_reducible assumption) | ((repeat rw [World.cell?_setCell_far _ _ _ _ (by simp)]); with_reducible assumption) | (simp; done) | (simp [World.setCell]; first | done | omega) | (simp [go_sem, World.cell?_alloc_past, World.cell?_setCell_far, *]; done))) ((first | (go_at_call 81; refine (BT.out _).mono ?_; rintro rv w1 ⟨rfl, hb⟩; have ns : w.heap.size < w1.heap.size := hb.lt (by first | with_reducible assumption | omega | (simp; done) | (simp; omega)); have n0 : w1.cell? ⟨w.heap.size, 0, none⟩ = some (.int .i64 e) := (hb.cells _ _ (by first | with_reducible assumption | omega | (simp; done) | (simp; omega))).trans (by first | with_reducible assumption | (simp; done) | (simp; with_reducible assumption) | (rw [cell_alloc_before _ _ _ _ (by omega)]; with_reducible assumption) | (simp [go_sem, *]; done)); have n1 : w1.cell? ⟨w.heap.size, 1, none⟩ = some (.int .i64 f) := (hb.cells _ _ (by first | with_reducible assumption | omega | (simp; done) | (simp; omega))).trans (by first | with_reducible assumption | (simp; done) | (simp; with_reducible assumption) | (rw [cell_alloc_before _ _ _ _ (by omega)]; with_reducible assumption) | (simp [go_sem, *]; done)); (first | (have nx := Ext.trans hx hb; clear hx) | (have nx := Ext.trans (hx.alloc _) hb; clear hx) | (have nx := Ext.trans hx.drew hb; clear hx) | have nx := hb); clear hb; try clear hs; try clear g0; try clear g1; have hx := nx; clear nx; have hs := ns; clear ns; have g0 := n0; clear n0; have g1 := n1; clear n1))))
        all_goals (try go_wp2_with fail)
        all_goals go_ret2
        all_goals exact ⟨by rw [HZ.out]; rfl, (by repeat (first | exact Ext.refl _ | with_reducible assumption | apply Ext.alloc | apply Ext.drew | apply Ext.drewN | (refine Ext.setRow ?_ (by first | (simp; done) | (simp; omega) | omega) _) | (refine Ext.setCell ?_ (by first | (simp; done) | (simp; omega) | omega) _) | (refine Ext.trans ?_ (by with_reducible assumption))))⟩

theorem iSharedPower_row (e f : Int) (V : Nat → Int) (bb n : Nat) (w : World) (h : w.rowIs bb 3 n (fun i => .int .i64 (V i))) : Calls Try.prog 31 #[fmt e f, .slice (some ⟨bb, 0, none⟩) n n] w fun rv w' => rv = .returned (.tuple #[.int .i64 (spV e f V n), .bool (spB e f V n)]) ∧ Ext w w' := by
  have GD := Lib.hid (fun w => isFormat_any e f w)
  have BR := Lib.hid (fun w h => isRaw_row V bb n w h)
  unfold spV spB
  cases hg : goodB e f
  · rw [hg] at GD
    go_enter Try.func31, Try.ntmps31
    go_wp2_with (go_at_call 76; refine (GD.out _).mono ?_; rintro rv w1 ⟨rfl, hb⟩; have ns : w.heap.size < w1.heap.size := hb.lt (by first | with_reducible assumption | omega | (simp; done) | (simp; omega)); have n0 : w1.cell? ⟨w.heap.size, 0, none⟩ = some (.int .i64 e) := (hb.cells _ _ (by first | with_reducible assumption | omega | (simp; done) | (simp; omega))).trans (by first | with_reducible assumption | (simp; done) | (simp; with_reducible assumption) | (rw [cell_alloc_before _ _ _ _ (by omega)]; with_reducible assumption) | (simp [go_sem, *]; done)); have n1 : w1.cell? ⟨w.heap.size, 1, none⟩ = some (.int .i64 f) := (hb.cells _ _ (by first | with_reducible assumption | omega | (simp; done) | (simp; omega))).trans (by first | with_reducible assumption | (simp; done) | (simp; with_reducible assumption) | (rw [cell_alloc_before _ _ _ _ (by omega)]; with_reducible assumption) | (simp [go_sem, *]; done)); (first | (have nx := Ext.trans hx hb; clear hx) | (have nx := Ext.trans (hx.alloc _) hb; clear hx) | (have nx := Ext.trans hx.drew hb; clear hx) | have nx := hb); clear hb; try clear hs; try clear g0; try clear g1; have hx := nx; clear nx; have hs := ns; clear ns; have g0 := n0; clear n0; have g1 := n1; clear n1)
    go_ret2
    exact ⟨rfl, (by repeat (first | exact Ext.refl _ | with_reducible assumption | apply Ext.alloc | apply Ext.drew | apply Ext.drewN | (refine Ext.setRow ?_ (by first | (simp; done) | (simp; omega) | omega) _) | (refine Ext.setCell ?_ (by first | (simp; done) | (simp; omega) | omega) _) | (refine Ext.trans ?_ (by with_reducible assumption))))⟩
  · cases hr : rawB V n
    · rw [hg] at GD
      rw [hr] at BR
      go_enter Try.func31, Try.ntmps31
      go_wp2_with (first | (go_at_call 76; refine (GD.out _).mono ?_; rintro rv w1 ⟨rfl, hb⟩; have ns : w.heap.size < w1.heap.size := hb.lt (by first | with_reducible assumption | omega | (simp; done) | (simp; omega)); have n0 : w1.cell? ⟨w.heap.size, 0, none⟩ = some (.int .i64 e) := (hb.cells _ _ (by first | with_reducible assumption | omega | (simp; done) | (simp; omega))).trans (by first | with_reducible assumption | (simp; done) | (simp; with_reducible assumption) | (rw [cell_alloc_before _ _ _ _ (by omega)]; with_reducible assumption) | (simp [go_sem, *]; done)); have n1 : w1.cell? ⟨w.heap.size, 1, none⟩ = some (.int .i64 f) := (hb.cells _ _ (by first | with_reducible assumption | omega | (simp; done) | (simp; omega))).trans (by first | with_reducible assumption | (simp; done) | (simp; with_reducible assumption) | (rw [cell_alloc_before _ _ _ _ (by omega)]; with_reducible assumption) | (simp [go_sem, *]; done)); (first | (have nx := Ext.trans hx hb; clear hx) | (have nx := Ext.trans (hx.alloc _) hb; clear hx) | (have nx := Ext.trans hx.drew hb; clear hx) | have nx := hb); clear hb; try clear hs; try clear g0; try clear g1; have hx := nx; clear nx; have hs := ns; clear ns; have g0 := n0; clear n0; have g1 := n1; clear n1) | (go_at_call 79; refine (BR.out _ (row_ext h (by repeat (first | exact Ext.refl _ | with_reducible assumption | apply Ext.alloc | apply Ext.drew | apply Ext.drewN | (refine Ext.setRow ?_ (by first | (simp; done) | (simp; omega) | omega) _) | (refine Ext.setCell ?_ (by first | (simp; done) | (simp; omega) | omega) _) | (refine Ext.trans ?_ (by with_reducible assumption)))))).mono ?_; rintro rv w1 ⟨rfl, rfl⟩))
      go_ret2
      exact ⟨rfl, (by repeat (first | exact Ext.refl _ | with_reducible assumption | apply Ext.alloc | apply Ext.drew | apply Ext.drewN | (refine Ext.setRow ?_ (by first | (simp; done) | (simp; omega) | omega) _) | (refine Ext.setCell ?_ (by first | (simp; done) | (simp; omega) | omega) _) | (refine Ext.trans ?_ (by with_reducible assumption))))⟩
    · exact iSharedPower_yes e f V bb n hg hr w h

set_option maxHeartbeats 3200000 in
theorem wSharedPower (e f : Int) (p : Option Addr) (n cap : Nat) (V : Nat → Int) (w : World) (hold : HoldsL w p n V) : Calls Try.prog 7 #[fmt e f, .slice p n cap] w fun rv w' => rv = .returned (.bool true) ∧ Ext w w' := by
  by_cases hn : n ≤ 1048576
  · have h12 : ¬ (1048576 : Int) < (n : Int) := by omega
    have SA := Lib.hid (fun b w h => sSharedPower_row e f V b n hn w h)
    have IA := Lib.hid (fun b w h => iSharedPower_row e f V b n w h)
    generalize spV e f V n = N at *
    generalize spB e f V n = B at *
    cases B
    all_goals
      go_enter Try.func7, Try.ntmps7
      go_wp2_with (first | (go_at_call 15; refine (toFormat_any e f _).mono ?_; rintro rv w1 ⟨rfl, hb⟩; (try (have Q9 := Lib.hid (row_ext Q.out (Ext.trans (by repeat (first | exact Ext.refl _ | with_reducible assumption | apply Ext.alloc | apply Ext.drew | apply Ext.drewN | (refine Ext.setRow ?_ (by first | (simp; done) | (simp; omega) | omega) _) | (refine Ext.setCell ?_ (by first | (simp; done) | (simp; omega) | omega) _) | (refine Ext.trans ?_ (by with_reducible assumption)))) hb)); clear Q; have Q := Q9; clear Q9)); (try (have R9 := Lib.hid (row_ext R.out (Ext.trans (by repeat (first | exact Ext.refl _ | with_reducible assumption | apply Ext.alloc | apply Ext.drew | apply Ext.drewN | (refine Ext.setRow ?_ (by first | (simp; done) | (simp; omega) | omega) _) | (refine Ext.setCell ?_ (by first | (simp; done) | (simp; omega) | omega) _) | (refine Ext.trans ?_ (by with_reducible assumption)))) hb)); clear R; have R := R9; clear R9)); have ns : w.heap.size < w1.heap.size := hb.lt (by first | with_reducible assumption | omega | (simp; done) | (simp; omega)); have n0 : w1.cell? ⟨w.heap.size, 0, none⟩ = some (.int .i64 e) := (hb.cells _ _ (by first | with_reducible assumption | omega | (simp; done) | (simp; omega))).trans (by first | with_reducible assumption | (simp; done) | (simp; with_reducible assumption) | (rw [cell_alloc_before _ _ _ _ (by omega)]; with_reducible assumption) | (simp [go_sem, *]; done)); have n1 : w1.cell? ⟨w.heap.size, 1, none⟩ = some (.int .i64 f) := (hb.cells _ _ (by first | with_reducible assumption | omega | (simp; done) | (simp; omega))).trans (by first | with_reducible assumption | (simp; done) | (simp; with_reducible assumption) | (rw [cell_alloc_before _ _ _ _ (by omega)]; with_reducible assumption) | (simp [go_sem, *]; done)); (first | (have nx := Ext.trans hx hb; clear hx) | (have nx := Ext.trans (hx.alloc _) hb; clear hx) | (have nx := Ext.trans hx.drew hb; clear hx) | have nx := hb); clear hb; try clear hs; try clear g0; try clear g1; have hx := nx; clear nx; have hs := ns; clear ns; have g0 := n0; clear n0; have g1 := n1; clear n1) | (go_at_call 16; refine (toIntS_any p n cap V hn _ (hold.ext (by repeat (first | exact Ext.refl _ | with_reducible assumption | apply Ext.alloc | apply Ext.drew | apply Ext.drewN | (refine Ext.setRow ?_ (by first | (simp; done) | (simp; omega) | omega) _) | (refine Ext.setCell ?_ (by first | (simp; done) | (simp; omega) | omega) _) | (refine Ext.trans ?_ (by with_reducible assumption)))))).mono ?_; rintro rv w1 ⟨b, rfl, hq, hrow, hb⟩; (try clear Q); (try (have Q := Lib.hid (row_ext R.out (Ext.trans (by repeat (first | exact Ext.refl _ | with_reducible assumption | apply Ext.alloc | apply Ext.drew | apply Ext.drewN | (refine Ext.setRow ?_ (by first | (simp; done) | (simp; omega) | omega) _) | (refine Ext.setCell ?_ (by first | (simp; done) | (simp; omega) | omega) _) | (refine Ext.trans ?_ (by with_reducible assumption)))) hb)); clear R)); have R := Lib.hid hrow; clear hrow hq; have ns : w.heap.size < w1.heap.size := hb.lt (by first | with_reducible assumption | omega | (simp; done) | (simp; omega)); have n0 : w1.cell? ⟨w.heap.size, 0, none⟩ = some (.int .i64 e) := (hb.cells _ _ (by first | with_reducible assumption | omega | (simp; done) | (simp; omega))).trans (by first | with_reducible assumption | (simp; done) | (simp; with_reducible assumption) | (rw [cell_alloc_before _ _ _ _ (by omega)]; with_reducible assumption) | (simp [go_sem, *]; done)); have n1 : w1.cell? ⟨w.heap.size, 1, none⟩ = some (.int .i64 f) := (hb.cells _ _ (by first | with_reducible assumption | omega | (simp; done) | (simp; omega))).trans (by first | with_reducible assumption | (simp; done) | (simp; with_reducible assumption) | (rw [cell_alloc_before _ _ _ _ (by omega)]; with_reducible assumption) | (simp [go_sem, *]; done)); (first | (have nx := Ext.trans hx hb; clear hx) | (have nx := Ext.trans (hx.alloc _) hb; clear hx) | (have nx := Ext.trans hx.drew hb; clear hx) | have nx := hb); clear hb; try clear hs; try clear g0; try clear g1; have hx := nx; clear nx; have hs := ns; clear ns; have g0 := n0; clear n0; have g1 := n1; clear n1) | (go_at_call 30; refine (SA.out _ _ (row_ext R.out (by repeat (first | exact Ext.refl _ | with_reducible assumption | apply Ext.alloc | apply Ext.drew | apply Ext.drewN | (refine Ext.setRow ?_ (by first | (simp; done) | (simp; omega) | omega) _) | (refine Ext.setCell ?_ (by first | (simp; done) | (simp; omega) | omega) _) | (refine Ext.trans ?_ (by with_reducible assumption)))))).mono ?_; rintro rv w1 ⟨rfl, hb⟩; (try (have Q9 := Lib.hid (row_ext Q.out (Ext.trans (by repeat (first | exact Ext.refl _ | with_reducible assumption | apply Ext.alloc | apply Ext.drew | apply Ext.drewN | (refine Ext.setRow ?_ (by first | (simp; done) | (simp; omega) | omega) _) | (refine Ext.setCell ?_ (by first | (simp; done) | (simp; omega) | omega) _) | (refine Ext.trans ?_ (by with_reducible assumption)))) hb)); clear Q; have Q := Q9; clear Q9)); (try (have R9 := Lib.hid (row_ext R.out (Ext.trans (by repeat (first | exact Ext.refl _ | with_reducible assumption | apply Ext.alloc | apply Ext.drew | apply Ext.drewN | (refine Ext.setRow ?_ (by first | (simp; done) | (simp; omega) | omega) _) | (refine Ext.setCell ?_ (by first | (simp; done) | (simp; omega) | omega) _) | (refine Ext.trans ?_ (by with_reducible assumption)))) hb)); clear R; have R := R9; clear R9)); have ns : w.heap.size < w1.heap.size := hb.lt (by first | with_reducible assumption | omega | (simp; done) | (simp; omega)); have n0 : w1.cell? ⟨w.heap.size, 0, none⟩ = some (.int .i64 e) := (hb.cells _ _ (by first | with_reducible assumption | omega | (simp; done) | (simp; omega))).trans (by first | with_reducible assumption | (simp; done) | (simp; with_reducible assumption) | (rw [cell_alloc_before _ _ _ _ (by omega)]; with_reducible assumption) | (simp [go_sem, *]; done)); have n1 : w1.cell? ⟨w.heap.size, 1, none⟩ = some (.int .i64 f) := (hb.cells _ _ (by first | with_reducible assumption | omega | (simp; done) | (simp; omega))).trans (by first | with_reducible assumption | (simp; done) | (simp; with_reducible assumption) | (rw [cell_alloc_before _ _ _ _ (by omega)]; with_reducible assumption) | (simp [go_sem, *]; done)); (first | (have nx := Ext.trans hx hb; clear hx) | (have nx := Ext.trans (hx.alloc _) hb; clear hx) | (have nx := Ext.trans hx.drew hb; clear hx) | have nx := hb); clear hb; try clear hs; try clear g0; try clear g1; have hx := nx; clear nx; have hs := ns; clear ns; have g0 := n0; clear n0; have g1 := n1; clear n1) | (go_at_call 31; refine (IA.out _ _ (row_ext R.out (by repeat (first | exact Ext.refl _ | with_reducible assumption | apply Ext.alloc | apply Ext.drew | apply Ext.drewN | (refine Ext.setRow ?_ (by first | (simp; done) | (simp; omega) | omega) _) | (refine Ext.setCell ?_ (by first | (simp; done) | (simp; omega) | omega) _) | (refine Ext.trans ?_ (by with_reducible assumption)))))).mono ?_; rintro rv w1 ⟨rfl, hb⟩; (try (have Q9 := Lib.hid (row_ext Q.out (Ext.trans (by repeat (first | exact Ext.refl _ | with_reducible assumption | apply Ext.alloc | apply Ext.drew | apply Ext.drewN | (refine Ext.setRow ?_ (by first | (simp; done) | (simp; omega) | omega) _) | (refine Ext.setCell ?_ (by first | (simp; done) | (simp; omega) | omega) _) | (refine Ext.trans ?_ (by with_reducible assumption)))) hb)); clear Q; have Q := Q9; clear Q9)); (try (have R9 := Lib.hid (row_ext R.out (Ext.trans (by repeat (first | exact Ext.refl _ | with_reducible assumption | apply Ext.alloc | apply Ext.drew | apply Ext.drewN | (refine Ext.setRow ?_ (by first | (simp; done) | (simp; omega) | omega) _) | (refine Ext.setCell ?_ (by first | (simp; done) | (simp; omega) | omega) _) | (refine Ext.trans ?_ (by with_reducible assumption)))) hb)); clear R; have R := R9; clear R9)); have ns : w.heap.size < w1.heap.size := hb.lt (by first | with_reducible assumption | omega | (simp; done) | (simp; omega)); have n0 : w1.cell? ⟨w.heap.size, 0, none⟩ = some (.int .i64 e) := (hb.cells _ _ (by first | with_reducible assumption | omega | (simp; done) | (simp; omega))).trans (by first | with_reducible assumption | (simp; done) | (simp; with_reducible assumption) | (rw [cell_alloc_before _ _ _ _ (by omega)]; with_reducible assumption) | (simp [go_sem, *]; done)); have n1 : w1.cell? ⟨w.heap.size, 1, none⟩ = some (.int .i64 f) := (hb.cells _ _ (by first | with_reducible assumption | omega | (simp; done) | (simp; omega))).trans (by first | with_reducible assumption | (simp; done) | (simp; with_reducible assumption) | (rw [cell_alloc_before _ _ _ _ (by omega)]; with_reducible assumption) | (simp [go_sem, *]; done)); (first | (have nx := Ext.trans hx hb; clear hx) | (have nx := Ext.trans (hx.alloc _) hb; clear hx) | (have nx := Ext.trans hx.drew hb; clear hx) | have nx := hb); clear hb; try clear hs; try clear g0; try clear g1; have hx := nx; clear nx; have hs := ns; clear ns; have g0 := n0; clear n0; have g1 := n1; clear n1) | (go_at_call 18; refine (eqIntS_same _ _ n n n V hn _ (row_ext Q.out (by repeat (first | exact Ext.refl _ | with_reducible assumption | apply Ext.alloc | apply Ext.drew | apply Ext.drewN | (refine Ext.setRow ?_ (by first | (simp; done) | (simp; omega) | omega) _) | (refine Ext.setCell ?_ (by first | (simp; done) | (simp; omega) | omega) _) | (refine Ext.trans ?_ (by with_reducible assumption))))) (row_ext R.out (by repeat (first | exact Ext.refl _ | with_reducible assumption | apply Ext.alloc | apply Ext.drew | apply Ext.drewN | (refine Ext.setRow ?_ (by first | (simp; done) | (simp; omega) | omega) _) | (refine Ext.setCell ?_ (by first | (simp; done) | (simp; omega) | omega) _) | (refine Ext.trans ?_ (by with_reducible assumption)))))).mono ?_; rintro rv w1 ⟨rfl, hb⟩; have ns : w.heap.size < w1.heap.size := hb.lt (by first | with_reducible assumption | omega | (simp; done) | (simp; omega)); have n0 : w1.cell? ⟨w.heap.size, 0, none⟩ = some (.int .i64 e) := (hb.cells _ _ (by first | with_reducible assumption | omega | (simp; done) | (simp; omega))).trans (by first | with_reducible assumption | (simp; done) | (simp; with_reducible assumption) | (rw [cell_alloc_before _ _ _ _ (by omega)]; with_reducible assumption) | (simp [go_sem, *]; done)); have n1 : w1.cell? ⟨w.heap.size, 1, none⟩ = some (.int .i64 f) := (hb.cells _ _ (by first | with_reducible assumption | omega | (simp; done) | (simp; omega))).trans (by first | with_reducible assumption | (simp; done) | (simp; with_reducible assumption) | (rw [cell_alloc_before _ _ _ _ (by omega)]; with_reducible assumption) | (simp [go_sem, *]; done)); (first | (have nx := Ext.trans hx hb; clear hx) | (have nx := Ext.trans (hx.alloc _) hb; clear hx) | (have nx := Ext.trans hx.drew hb; clear hx) | have nx := hb); clear hb; try clear hs; try clear g0; try clear g1; have hx := nx; clear nx; have hs := ns; clear ns; have g0 := n0; clear n0; have g1 := n1; clear n1))
      go_ret
      exact ⟨rfl, (by repeat (first | exact Ext.refl _ | with_reducible assumption | apply Ext.alloc | apply Ext.drew | apply Ext.drewN | (refine Ext.setRow ?_ (by first | (simp; done) | (simp; omega) | omega) _) | (refine Ext.setCell ?_ (by first | (simp; done) | (simp; omega) | omega) _) | (refine Ext.trans ?_ (by with_reducible assumption))))⟩
  · have h12 : (1048576 : Int) < (n : Int) := by omega
    go_enter Try.func7, Try.ntmps7
    go_wp2_with fail
    go_ret
    exact ⟨rfl, (by repeat (first | exact Ext.refl _ | with_reducible assumption | apply Ext.alloc | apply Ext.drew | apply Ext.drewN | (refine Ext.setRow ?_ (by first | (simp; done) | (simp; omega) | omega) _) | (refine Ext.setCell ?_ (by first | (simp; done) | (simp; omega) | omega) _) | (refine Ext.trans ?_ (by with_reducible assumption))))⟩
end Go.Proofs.Ytdagfocpbnamfaa

namespace Go.Proofs.Ytdagfocpbnamfaa
open Go Go.RowKit
set_option linter.unusedSimpArgs false
set_option linter.unusedVariables false
set_option maxRecDepth 100000

/-- A slice of n numbers in a block of its own, or of none. -/
def OwnL (w : World) (p : Option Addr) (n : Nat) (V : Nat → Int) : Prop := 0 < n → ∃ b c f, p = some ⟨b, 0, none⟩ ∧ w.rowIs b 3 c f ∧ n ≤ c ∧ ∀ i, i < n → f i = .int .i64 (V i)

theorem OwnL.block {w w' : World} {p : Option Addr} {n : Nat} {V : Nat → Int} (h : OwnL w p n V) (hw : 0 < n → ∀ b, p = some ⟨b, 0, none⟩ → w'.heap[b]? = w.heap[b]?) : OwnL w' p n V := fun hn => by
  obtain ⟨b, c, f, rfl, hr, hc, hf⟩ := h hn
  exact ⟨b, c, f, rfl, hr.of_block (hw hn b rfl), hc, hf⟩

theorem OwnL.lt {w : World} {p : Option Addr} {n : Nat} {V : Nat → Int} (h : OwnL w p n V) (hn : 0 < n) {b : Nat} (hp : p = some ⟨b, 0, none⟩) : b < w.heap.size := by
  obtain ⟨b2, c, f, rfl, hr, _⟩ := h hn
  cases hp
  exact hr.lt

theorem OwnL.ext {w w' : World} {p : Option Addr} {n : Nat} {V : Nat → Int} (h : OwnL w p n V) (hx : Ext w w') : OwnL w' p n V := h.block (fun hn b hp => hx.block _ (h.lt hn hp))

theorem row_own {w : World} {g n : Nat} {V : Nat → Int} (h : w.rowIs g 3 n (fun i => .int .i64 (V i))) : OwnL w (some ⟨g, 0, none⟩) n V := fun _ => ⟨g, n, _, rfl, h, Nat.le_refl _, fun _ _ => rfl⟩

set_option maxHeartbeats 1600000 in
theorem eqIntS_own (p q : Option Addr) (n c1 c2 : Nat) (V : Nat → Int) (hn : n ≤ 1048576) (w : World) (hp : OwnL w p n V) (hq : OwnL w q n V) : Calls Try.prog 18 #[.slice p n c1, .slice q n c2] w fun rv w' => rv = .returned (.bool true) ∧ Ext w w' := by
  go_enter Try.func18, Try.ntmps18
  go_wp2
  go_loopw [5] (fun x wr => ∃ k : Nat, x = .int .i64 (k : Int) ∧ k ≤ n ∧ OwnL wr p n V ∧ OwnL wr q n V ∧ Ext w wr) (fun x _ => n - (intOf x).toNat)
  case atStart => exact ⟨0, rfl, by omega, hp, hq, Ext.refl _⟩
  case round =>
    obtain ⟨k, rfl, hk, hra, hrb, hx⟩ := hrel
    by_cases hlt : k < n
    · obtain ⟨b1, d1, f1, rfl, ra, l1, e1⟩ := hra (by omega)
      obtain ⟨b2, d2, f2, rfl, rb, l2, e2⟩ := hrb (by omega)
      have h1 : ((k : Nat) : Int) < (n : Int) := by omega
      have h0 : (0 : Int) ≤ (k : Int) := by omega
      have h2 : ((k : Int)).toNat = k := by omega
      have u1 : IntKind.i64.wrap ((k : Int) + 1) = (k : Int) + 1 := IntWalk.i64_in _ (by omega)
      have u2 : IntKind.i64.wrap (1 + (k : Int) + 1) = 1 + (k : Int) + 1 := IntWalk.i64_in _ (by omega)
      have g1 : wr.cell? ⟨b1, k, none⟩ = some (.int .i64 (V k)) := by rw [ra.cell (by omega), e1 k hlt]
      have g2 : wr.cell? ⟨b2, k, none⟩ = some (.int .i64 (V k)) := by rw [rb.cell (by omega), e2 k hlt]
      have HA := Lib.hid hra
      have HB := Lib.hid hrb
      clear hra hrb hp hq ra rb e1 e2
      go_wp2_with fail
      go_region
      go_wp2_with fail
      go_roundw
      case rel => exact ⟨k + 1, by simp, by omega, HA.out.ext (by repeat (first | exact Ext.refl _ | with_reducible assumption | apply Ext.alloc | apply Ext.drew | apply Ext.drewN | (refine Ext.setRow ?_ (by first | (simp; done) | (simp; omega) | omega) _) | (refine Ext.setCell ?_ (by first | (simp; done) | (simp; omega) | omega) _) | (refine Ext.trans ?_ (by with_reducible assumption)))), HB.out.ext (by repeat (first | exact Ext.refl _ | with_reducible assumption | apply Ext.alloc | apply Ext.drew | apply Ext.drewN | (refine Ext.setRow ?_ (by first | (simp; done) | (simp; omega) | omega) _) | (refine Ext.setCell ?_ (by first | (simp; done) | (simp; omega) | omega) _) | (refine Ext.trans ?_ (by with_reducible assumption)))), (by repeat (first | exact Ext.refl _ | with_reducible assumption | apply Ext.alloc | apply Ext.drew | apply Ext.drewN | (refine Ext.setRow ?_ (by first | (simp; done) | (simp; omega) | omega) _) | (refine Ext.setCell ?_ (by first | (simp; done) | (simp; omega) | omega) _) | (refine Ext.trans ?_ (by with_reducible assumption))))⟩
      case measure => simp [intOf]; omega
    · have h1 : ¬ ((k : Nat) : Int) < (n : Int) := by omega
      go_wp2_with fail
      go_ret
      exact ⟨rfl, (by repeat (first | exact Ext.refl _ | with_reducible assumption | apply Ext.alloc | apply Ext.drew | apply Ext.drewN | (refine Ext.setRow ?_ (by first | (simp; done) | (simp; omega) | omega) _) | (refine Ext.setCell ?_ (by first | (simp; done) | (simp; omega) | omega) _) | (refine Ext.trans ?_ (by with_reducible assumption))))⟩
end Go.Proofs.Ytdagfocpbnamfaa

namespace Go.Proofs.Ytdagfocpbnamfaa
open Go Go.RowKit
set_option linter.unusedSimpArgs false
set_option linter.unusedVariables false
set_option maxRecDepth 100000

/-- A block. -/
abbrev blk (P : Int) (p : Option Addr) (n c : Nat) : Value := .agg #[.int .i64 P, .slice p n c]

theorem szIntS_ok (p : Option Addr) (n c : Nat) (hn : n ≤ 1048576) (w : World) : Calls Try.prog 73 #[.slice p n c, .int .i64 1048576] w fun rv w' => rv = .returned (.int .i64 (1048576 - (n : Int))) ∧ Ext w w' := by
  have h1 : ¬ (1048576 - (n : Int) < 0) := by omega
  have k1 : IntKind.i64.wrap (1048576 - (n : Int)) = 1048576 - (n : Int) := IntWalk.i64_in _ (by omega)
  go_enter Try.func73, Try.ntmps73
  go_wp2
  go_ret
  exact ⟨rfl, Ext.refl _⟩

theorem szIntS_big (p : Option Addr) (n c : Nat) (hn : ¬ n ≤ 1048576) (h48 : (n : Int) ≤ 9223372036854775807) (w : World) : Calls Try.prog 73 #[.slice p n c, .int .i64 1048576] w fun rv w' => rv = .returned (.int .i64 (-1)) ∧ Ext w w' := by
  have h1 : (1048576 - (n : Int) < 0) := by omega
  have k1 : IntKind.i64.wrap (1048576 - (n : Int)) = 1048576 - (n : Int) := IntWalk.i64_in _ (by omega)
  go_enter Try.func73, Try.ntmps73
  go_wp2
  go_ret
  exact ⟨rfl, Ext.refl _⟩

theorem szBlock_ok (P : Int) (p : Option Addr) (n c : Nat) (hn : n ≤ 1048576) (w : World) : Calls Try.prog 25 #[blk P p n c, .int .i64 1048576] w fun rv w' => rv = .returned (.int .i64 (1048576 - (n : Int))) ∧ Ext w w' := by
  have h1 : ¬ (1048576 - (n : Int) < 0) := by omega
  go_enter Try.func25, Try.ntmps25
  go_wp2_with (go_at_call 73; refine (szIntS_ok _ _ _ hn _).mono ?_; rintro rv w1 ⟨rfl, hb⟩; have ns : w.heap.size < w1.heap.size := hb.lt (by first | with_reducible assumption | omega | (simp; done) | (simp; omega)); have n0 : w1.cell? ⟨w.heap.size, 0, none⟩ = some (.int .i64 P) := (hb.cells _ _ (by first | with_reducible assumption | omega | (simp; done) | (simp; omega))).trans (by first | with_reducible assumption | (simp; done) | (simp; with_reducible assumption) | (rw [cell_alloc_before _ _ _ _ (by omega)]; with_reducible assumption) | (simp [go_sem, *]; done)); have n1 : w1.cell? ⟨w.heap.size, 1, none⟩ = some (.slice p n c) := (hb.cells _ _ (by first | with_reducible assumption | omega | (simp; done) | (simp; omega))).trans (by first | with_reducible assumption | (simp; done) | (simp; with_reducible assumption) | (rw [cell_alloc_before _ _ _ _ (by omega)]; with_reducible assumption) | (simp [go_sem, *]; done)); (first | (have nx := Ext.trans hx hb; clear hx) | (have nx := Ext.trans (hx.alloc _) hb; clear hx) | (have nx := Ext.trans hx.drew hb; clear hx) | have nx := hb); clear hb; try clear hs; try clear g0; try clear g1; have hx := nx; clear nx; have hs := ns; clear ns; have g0 := n0; clear n0; have g1 := n1; clear n1)
  go_ret
  exact ⟨rfl, (by repeat (first | exact Ext.refl _ | with_reducible assumption | apply Ext.alloc | apply Ext.drew | apply Ext.drewN | (refine Ext.setRow ?_ (by first | (simp; done) | (simp; omega) | omega) _) | (refine Ext.setCell ?_ (by first | (simp; done) | (simp; omega) | omega) _) | (refine Ext.trans ?_ (by with_reducible assumption))))⟩

theorem szBlock_big (P : Int) (p : Option Addr) (n c : Nat) (hn : ¬ n ≤ 1048576) (h48 : (n : Int) ≤ 9223372036854775807) (w : World) : Calls Try.prog 25 #[blk P p n c, .int .i64 1048576] w fun rv w' => rv = .returned (.int .i64 (-1)) ∧ Ext w w' := by
  go_enter Try.func25, Try.ntmps25
  go_wp2_with (go_at_call 73; refine (szIntS_big _ _ _ hn h48 _).mono ?_; rintro rv w1 ⟨rfl, hb⟩; have ns : w.heap.size < w1.heap.size := hb.lt (by first | with_reducible assumption | omega | (simp; done) | (simp; omega)); have n0 : w1.cell? ⟨w.heap.size, 0, none⟩ = some (.int .i64 P) := (hb.cells _ _ (by first | with_reducible assumption | omega | (simp; done) | (simp; omega))).trans (by first | with_reducible assumption | (simp; done) | (simp; with_reducible assumption) | (rw [cell_alloc_before _ _ _ _ (by omega)]; with_reducible assumption) | (simp [go_sem, *]; done)); have n1 : w1.cell? ⟨w.heap.size, 1, none⟩ = some (.slice p n c) := (hb.cells _ _ (by first | with_reducible assumption | omega | (simp; done) | (simp; omega))).trans (by first | with_reducible assumption | (simp; done) | (simp; with_reducible assumption) | (rw [cell_alloc_before _ _ _ _ (by omega)]; with_reducible assumption) | (simp [go_sem, *]; done)); (first | (have nx := Ext.trans hx hb; clear hx) | (have nx := Ext.trans (hx.alloc _) hb; clear hx) | (have nx := Ext.trans hx.drew hb; clear hx) | have nx := hb); clear hb; try clear hs; try clear g0; try clear g1; have hx := nx; clear nx; have hs := ns; clear ns; have g0 := n0; clear n0; have g1 := n1; clear n1)
  go_ret
  exact ⟨rfl, (by repeat (first | exact Ext.refl _ | with_reducible assumption | apply Ext.alloc | apply Ext.drew | apply Ext.drewN | (refine Ext.setRow ?_ (by first | (simp; done) | (simp; omega) | omega) _) | (refine Ext.setCell ?_ (by first | (simp; done) | (simp; omega) | omega) _) | (refine Ext.trans ?_ (by with_reducible assumption))))⟩

theorem toBlock_any (P : Int) (p : Option Addr) (n cap : Nat) (V : Nat → Int) (hn : n ≤ 1048576) (w : World) (hold : HoldsL w p n V) :
    Calls Try.prog 27 #[blk P p n cap] w fun rv w' => ∃ b, rv = .returned (blk P (some ⟨b, 0, none⟩) n n) ∧ w.heap.size ≤ b ∧ w'.rowIs b 3 n (fun i => .int .i64 (V i)) ∧ Ext w w' := by
  go_enter Try.func27, Try.ntmps27
  go_wp2_with (go_at_call 16; refine (toIntS_any p n cap V hn _ (hold.ext (by repeat (first | exact Ext.refl _ | with_reducible assumption | apply Ext.alloc | apply Ext.drew | apply Ext.drewN | (refine Ext.setRow ?_ (by first | (simp; done) | (simp; omega) | omega) _) | (refine Ext.setCell ?_ (by first | (simp; done) | (simp; omega) | omega) _) | (refine Ext.trans ?_ (by with_reducible assumption)))))).mono ?_; rintro rv w1 ⟨b, rfl, hq, hrow, hb⟩; have HR := Lib.hid hrow; have HQ := Lib.hid hq; clear hrow hq; have ns : w.heap.size + 1 + 1 < w1.heap.size := hb.lt (by first | with_reducible assumption | omega | (simp; done) | (simp; omega)); have n0 : w1.cell? ⟨w.heap.size + 1 + 1, 0, none⟩ = some (.int .i64 P) := (hb.cells _ _ (by first | with_reducible assumption | omega | (simp; done) | (simp; omega))).trans (by first | with_reducible assumption | (simp; done) | (simp; with_reducible assumption) | (rw [cell_alloc_before _ _ _ _ (by omega)]; with_reducible assumption) | (simp [go_sem, *]; done)); have n1 : w1.cell? ⟨w.heap.size + 1 + 1, 1, none⟩ = some (.slice none 0 0) := (hb.cells _ _ (by first | with_reducible assumption | omega | (simp; done) | (simp; omega))).trans (by first | with_reducible assumption | (simp; done) | (simp; with_reducible assumption) | (rw [cell_alloc_before _ _ _ _ (by omega)]; with_reducible assumption) | (simp [go_sem, *]; done)); have n2 : w1.cell? ⟨w.heap.size + 1, 0, none⟩ = some (.int .i64 0) := (hb.cells _ _ (by first | with_reducible assumption | omega | (simp; done) | (simp; omega))).trans (by first | with_reducible assumption | (simp; done) | (simp; with_reducible assumption) | (rw [cell_alloc_before _ _ _ _ (by omega)]; with_reducible assumption) | (simp [go_sem, *]; done)); have n3 : w1.cell? ⟨w.heap.size + 1, 1, none⟩ = some (.slice none 0 0) := (hb.cells _ _ (by first | with_reducible assumption | omega | (simp; done) | (simp; omega))).trans (by first | with_reducible assumption | (simp; done) | (simp; with_reducible assumption) | (rw [cell_alloc_before _ _ _ _ (by omega)]; with_reducible assumption) | (simp [go_sem, *]; done)); have nz0 : w1.frozen? ⟨w.heap.size + 1 + 1, 0, none⟩ = false := (hb.frz _ _ (by first | with_reducible assumption | omega | (simp; done) | (simp; omega))).trans (by first | with_reducible assumption | (simp [go_sem]; done) | (simp [go_sem]; with_reducible assumption)); have nz1 : w1.frozen? ⟨w.heap.size + 1 + 1, 1, none⟩ = false := (hb.frz _ _ (by first | with_reducible assumption | omega | (simp; done) | (simp; omega))).trans (by first | with_reducible assumption | (simp [go_sem]; done) | (simp [go_sem]; with_reducible assumption)); have nz2 : w1.frozen? ⟨w.heap.size + 1, 0, none⟩ = false := (hb.frz _ _ (by first | with_reducible assumption | omega | (simp; done) | (simp; omega))).trans (by first | with_reducible assumption | (simp [go_sem]; done) | (simp [go_sem]; with_reducible assumption)); have nz3 : w1.frozen? ⟨w.heap.size + 1, 1, none⟩ = false := (hb.frz _ _ (by first | with_reducible assumption | omega | (simp; done) | (simp; omega))).trans (by first | with_reducible assumption | (simp [go_sem]; done) | (simp [go_sem]; with_reducible assumption)); (first | (have nx := Ext.trans hx hb; clear hx) | (have nx := Ext.trans (hx.alloc _) hb; clear hx) | (have nx := Ext.trans hx.drew hb; clear hx) | have nx := hb); clear hb; try clear hs; try clear g0; try clear g1; try clear g2; try clear g3; try clear z0; try clear z1; try clear z2; try clear z3; have hx := nx; clear nx; have hs := ns; clear ns; have g0 := n0; clear n0; have g1 := n1; clear n1; have g2 := n2; clear n2; have g3 := n3; clear n3; have z0 := nz0; clear nz0; have z1 := nz1; clear nz1; have z2 := nz2; clear nz2; have z3 := nz3; clear nz3)
  refine bodyPost_ret (v := blk P (some ⟨b, 0, none⟩) n n) (by simp [results, Try.results27, go_sem, *]) rfl ⟨b, rfl, by have := HQ.out; simp at this; omega, ?_, (by repeat (first | exact Ext.refl _ | with_reducible assumption | apply Ext.alloc | apply Ext.drew | apply Ext.drewN | (refine Ext.setRow ?_ (by first | (simp; done) | (simp; omega) | omega) _) | (refine Ext.setCell ?_ (by first | (simp; done) | (simp; omega) | omega) _) | (refine Ext.trans ?_ (by with_reducible assumption))))⟩
  exact HR.out.of_block (by
    have := HQ.out
    simp at this
    rw [Below.heap_setCell _ _ _ _ (show b ≠ w.heap.size + 1 by omega), Below.heap_setCell _ _ _ _ (show b ≠ w.heap.size + 1 by omega), Below.heap_setCell _ _ _ _ (show b ≠ w.heap.size + 1 + 1 by omega)])

theorem eqBlock_own (P : Int) (p q : Option Addr) (n c1 c2 : Nat) (V : Nat → Int) (hn : n ≤ 1048576) (w : World) (hp : OwnL w p n V) (hq : OwnL w q n V) : Calls Try.prog 29 #[blk P p n c1, blk P q n c2] w fun rv w' => rv = .returned (.bool true) ∧ Ext w w' := by
  go_enter Try.func29, Try.ntmps29
  go_wp2_with (go_at_call 18; refine (eqIntS_own p q n c1 c2 V hn _ (hp.ext (by repeat (first | exact Ext.refl _ | with_reducible assumption | apply Ext.alloc | apply Ext.drew | apply Ext.drewN | (refine Ext.setRow ?_ (by first | (simp; done) | (simp; omega) | omega) _) | (refine Ext.setCell ?_ (by first | (simp; done) | (simp; omega) | omega) _) | (refine Ext.trans ?_ (by with_reducible assumption))))) (hq.ext (by repeat (first | exact Ext.refl _ | with_reducible assumption | apply Ext.alloc | apply Ext.drew | apply Ext.drewN | (refine Ext.setRow ?_ (by first | (simp; done) | (simp; omega) | omega) _) | (refine Ext.setCell ?_ (by first | (simp; done) | (simp; omega) | omega) _) | (refine Ext.trans ?_ (by with_reducible assumption)))))).mono ?_; rintro rv w1 ⟨rfl, hb⟩; have ns : w.heap.size + 1 < w1.heap.size := hb.lt (by first | with_reducible assumption | omega | (simp; done) | (simp; omega)); have n0 : w1.cell? ⟨w.heap.size, 0, none⟩ = some (.int .i64 P) := (hb.cells _ _ (by first | with_reducible assumption | omega | (simp; done) | (simp; omega))).trans (by first | with_reducible assumption | (simp; done) | (simp; with_reducible assumption) | (rw [cell_alloc_before _ _ _ _ (by omega)]; with_reducible assumption) | (simp [go_sem, *]; done)); have n1 : w1.cell? ⟨w.heap.size, 1, none⟩ = some (.slice p n c1) := (hb.cells _ _ (by first | with_reducible assumption | omega | (simp; done) | (simp; omega))).trans (by first | with_reducible assumption | (simp; done) | (simp; with_reducible assumption) | (rw [cell_alloc_before _ _ _ _ (by omega)]; with_reducible assumption) | (simp [go_sem, *]; done)); have n2 : w1.cell? ⟨w.heap.size + 1, 0, none⟩ = some (.int .i64 P) := (hb.cells _ _ (by first | with_reducible assumption | omega | (simp; done) | (simp; omega))).trans (by first | with_reducible assumption | (simp; done) | (simp; with_reducible assumption) | (rw [cell_alloc_before _ _ _ _ (by omega)]; with_reducible assumption) | (simp [go_sem, *]; done)); have n3 : w1.cell? ⟨w.heap.size + 1, 1, none⟩ = some (.slice q n c2) := (hb.cells _ _ (by first | with_reducible assumption | omega | (simp; done) | (simp; omega))).trans (by first | with_reducible assumption | (simp; done) | (simp; with_reducible assumption) | (rw [cell_alloc_before _ _ _ _ (by omega)]; with_reducible assumption) | (simp [go_sem, *]; done)); (first | (have nx := Ext.trans hx hb; clear hx) | (have nx := Ext.trans (hx.alloc _) hb; clear hx) | (have nx := Ext.trans hx.drew hb; clear hx) | have nx := hb); clear hb; try clear hs; try clear g0; try clear g1; try clear g2; try clear g3; have hx := nx; clear nx; have hs := ns; clear ns; have g0 := n0; clear n0; have g1 := n1; clear n1; have g2 := n2; clear n2; have g3 := n3; clear n3)
  go_ret
  exact ⟨rfl, (by repeat (first | exact Ext.refl _ | with_reducible assumption | apply Ext.alloc | apply Ext.drew | apply Ext.drewN | (refine Ext.setRow ?_ (by first | (simp; done) | (simp; omega) | omega) _) | (refine Ext.setCell ?_ (by first | (simp; done) | (simp; omega) | omega) _) | (refine Ext.trans ?_ (by with_reducible assumption))))⟩

/-- There is a block. -/
def blB (e f P : Int) (V : Nat → Int) (n : Nat) : Bool := goodB e f && (decide (-40 ≤ P ∧ P ≤ 40) && (decide (n ≤ 16) && allF e f V n))

theorem allF_mono {e f : Int} {V : Nat → Int} {k n : Nat} (h : k < n) (hb : finB e f (V k) = false) : allF e f V n = false := by
  cases hA : allF e f V n
  · rfl
  · have := allF_iff.1 hA k h
    rw [hb] at this; cases this

theorem isBlockPower_any (P : Int) (w : World) : Calls Try.prog 84 #[.int .i64 P] w fun rv w' => rv = .returned (.bool (decide (-40 ≤ P ∧ P ≤ 40))) ∧ w = w' := by
  go_enter Try.func84, Try.ntmps84
  go_wp2_with (go_at_call 88; refine (isSizeAtMost_any P 40 (by decide) (by decide) _).mono ?_; rintro rv w1 ⟨rfl, rfl⟩)
  go_ret
  exact ⟨ret_bool (Bool.decide_and _ _).symm, rfl⟩

set_option maxHeartbeats 3200000 in
theorem iBlock_row (e f P : Int) (V : Nat → Int) (bb n : Nat) (w : World) (h : w.rowIs bb 3 n (fun i => .int .i64 (V i))) : Calls Try.prog 75 #[fmt e f, blk P (some ⟨bb, 0, none⟩) n n] w fun rv w' => rv = .returned (.bool (blB e f P V n)) ∧ Ext w w' := by
  have GD := Lib.hid (fun w => isFormat_any e f w)
  have BP := Lib.hid (fun w => isBlockPower_any P w)
  cases hg : goodB e f
  · have HZ : RowKit.Hid (blB e f P V n = false) := Lib.hid (by unfold blB; rw [hg]; rfl)
    rw [hg] at GD
    by_cases hn : (16 : Int) < (n : Int)
    all_goals
      cases hP : decide (-40 ≤ P ∧ P ≤ 40)
      all_goals
        rw [hP] at BP
        clear hP
        go_enter Try.func75, Try.ntmps75
        go_wp2_with (first | (go_at_call 76; refine (GD.out _).mono ?_; rintro rv w1 ⟨rfl, hb⟩; have ns : w.heap.size + 1 < w1.heap.size := hb.lt (by first | with_reducible assumption | omega | (simp; done) | (simp; omega)); have n0 : w1.cell? ⟨w.heap.size, 0, none⟩ = some (.int .i64 e) := (hb.cells _ _ (by first | with_reducible assumption | omega | (simp; done) | (simp; omega))).trans (by first | with_reducible assumption | (simp; done) | (simp; with_reducible assumption) | (rw [cell_alloc_before _ _ _ _ (by omega)]; with_reducible assumption) | (simp [go_sem, *]; done)); have n1 : w1.cell? ⟨w.heap.size, 1, none⟩ = some (.int .i64 f) := (hb.cells _ _ (by first | with_reducible assumption | omega | (simp; done) | (simp; omega))).trans (by first | with_reducible assumption | (simp; done) | (simp; with_reducible assumption) | (rw [cell_alloc_before _ _ _ _ (by omega)]; with_reducible assumption) | (simp [go_sem, *]; done)); have n2 : w1.cell? ⟨w.heap.size + 1, 0, none⟩ = some (.int .i64 P) := (hb.cells _ _ (by first | with_reducible assumption | omega | (simp; done) | (simp; omega))).trans (by first | with_reducible assumption | (simp; done) | (simp; with_reducible assumption) | (rw [cell_alloc_before _ _ _ _ (by omega)]; with_reducible assumption) | (simp [go_sem, *]; done)); have n3 : w1.cell? ⟨w.heap.size + 1, 1, none⟩ = some (.slice (some ⟨bb, 0, none⟩) n n) := (hb.cells _ _ (by first | with_reducible assumption | omega | (simp; done) | (simp; omega))).trans (by first | with_reducible assumption | (simp; done) | (simp; with_reducible assumption) | (rw [cell_alloc_before _ _ _ _ (by omega)]; with_reducible assumption) | (simp [go_sem, *]; done)); (first | (have nx := Ext.trans hx hb; clear hx) | (have nx := Ext.trans (hx.alloc _) hb; clear hx) | (have nx := Ext.trans hx.drew hb; clear hx) | have nx := hb); clear hb; try clear hs; try clear g0; try clear g1; try clear g2; try clear g3; have hx := nx; clear nx; have hs := ns; clear ns; have g0 := n0; clear n0; have g1 := n1; clear n1; have g2 := n2; clear n2; have g3 := n3; clear n3) | (go_at_call 84; refine (BP.out _).mono ?_; rintro rv w1 ⟨rfl, rfl⟩))
        go_ret
        exact ⟨by rw [HZ.out]; rfl, (by repeat (first | exact Ext.refl _ | with_reducible assumption | apply Ext.alloc | apply Ext.drew | apply Ext.drewN | (refine Ext.setRow ?_ (by first | (simp; done) | (simp; omega) | omega) _) | (refine Ext.setCell ?_ (by first | (simp; done) | (simp; omega) | omega) _) | (refine Ext.trans ?_ (by with_reducible assumption))))⟩
  · cases hP : decide (-40 ≤ P ∧ P ≤ 40)
    · have HZ : RowKit.Hid (blB e f P V n = false) := Lib.hid (by unfold blB; rw [hP, hg]; rfl)
      rw [hg] at GD
      rw [hP] at BP
      clear hP
      by_cases hn : (16 : Int) < (n : Int)
      all_goals
        go_enter Try.func75, Try.ntmps75
        go_wp2_with (first | (go_at_call 76; refine (GD.out _).mono ?_; rintro rv w1 ⟨rfl, hb⟩; have ns : w.heap.size + 1 < w1.heap.size := hb.lt (by first | with_reducible assumption | omega | (simp; done) | (simp; omega)); have n0 : w1.cell? ⟨w.heap.size, 0, none⟩ = some (.int .i64 e) := (hb.cells _ _ (by first | with_reducible assumption | omega | (simp; done) | (simp; omega))).trans (by first | with_reducible assumption | (simp; done) | (simp; with_reducible assumption) | (rw [cell_alloc_before _ _ _ _ (by omega)]; with_reducible assumption) | (simp [go_sem, *]; done)); have n1 : w1.cell? ⟨w.heap.size, 1, none⟩ = some (.int .i64 f) := (hb.cells _ _ (by first | with_reducible assumption | omega | (simp; done) | (simp; omega))).trans (by first | with_reducible assumption | (simp; done) | (simp; with_reducible assumption) | (rw [cell_alloc_before _ _ _ _ (by omega)]; with_reducible assumption) | (simp [go_sem, *]; done)); have n2 : w1.cell? ⟨w.heap.size + 1, 0, none⟩ = some (.int .i64 P) := (hb.cells _ _ (by first | with_reducible assumption | omega | (simp; done) | (simp; omega))).trans (by first | with_reducible assumption | (simp; done) | (simp; with_reducible assumption) | (rw [cell_alloc_before _ _ _ _ (by omega)]; with_reducible assumption) | (simp [go_sem, *]; done)); have n3 : w1.cell? ⟨w.heap.size + 1, 1, none⟩ = some (.slice (some ⟨bb, 0, none⟩) n n) := (hb.cells _ _ (by first | with_reducible assumption | omega | (simp; done) | (simp; omega))).trans (by first | with_reducible assumption | (simp; done) | (simp; with_reducible assumption) | (rw [cell_alloc_before _ _ _ _ (by omega)]; with_reducible assumption) | (simp [go_sem, *]; done)); (first | (have nx := Ext.trans hx hb; clear hx) | (have nx := Ext.trans (hx.alloc _) hb; clear hx) | (have nx := Ext.trans hx.drew hb; clear hx) | have nx := hb); clear hb; try clear hs; try clear g0; try clear g1; try clear g2; try clear g3; have hx := nx; clear nx; have hs := ns; clear ns; have g0 := n0; clear n0; have g1 := n1; clear n1; have g2 := n2; clear n2; have g3 := n3; clear n3) | (go_at_call 84; refine (BP.out _).mono ?_; rintro rv w1 ⟨rfl, rfl⟩))
        go_ret
        exact ⟨by rw [HZ.out]; rfl, (by repeat (first | exact Ext.refl _ | with_reducible assumption | apply Ext.alloc | apply Ext.drew | apply Ext.drewN | (refine Ext.setRow ?_ (by first | (simp; done) | (simp; omega) | omega) _) | (refine Ext.setCell ?_ (by first | (simp; done) | (simp; omega) | omega) _) | (refine Ext.trans ?_ (by with_reducible assumption))))⟩
    · rw [hP] at BP
      by_cases hn : (16 : Int) < (n : Int)
      · have HZ : RowKit.Hid (blB e f P V n = false) := Lib.hid (by unfold blB; rw [decide_eq_false (show ¬ n ≤ 16 by omega), hP, hg]; rfl)
        rw [hg] at GD
        clear hP
        go_enter Try.func75, Try.ntmps75
        go_wp2_with (first | (go_at_call 76; refine (GD.out _).mono ?_; rintro rv w1 ⟨rfl, hb⟩; have ns : w.heap.size + 1 < w1.heap.size := hb.lt (by first | with_reducible assumption | omega | (simp; done) | (simp; omega)); have n0 : w1.cell? ⟨w.heap.size, 0, none⟩ = some (.int .i64 e) := (hb.cells _ _ (by first | with_reducible assumption | omega | (simp; done) | (simp; omega))).trans (by first | with_reducible assumption | (simp; done) | (simp; with_reducible assumption) | (rw [cell_alloc_before _ _ _ _ (by omega)]; with_reducible assumption) | (simp [go_sem, *]; done)); have n1 : w1.cell? ⟨w.heap.size, 1, none⟩ = some (.int .i64 f) := (hb.cells _ _ (by first | with_reducible assumption | omega | (simp; done) | (simp; omega))).trans (by first | with_reducible assumption | (simp; done) | (simp; with_reducible assumption) | (rw [cell_alloc_before _ _ _ _ (by omega)]; with_reducible assumption) | (simp [go_sem, *]; done)); have n2 : w1.cell? ⟨w.heap.size + 1, 0, none⟩ = some (.int .i64 P) := (hb.cells _ _ (by first | with_reducible assumption | omega | (simp; done) | (simp; omega))).trans (by first | with_reducible assumption | (simp; done) | (simp; with_reducible assumption) | (rw [cell_alloc_before _ _ _ _ (by omega)]; with_reducible assumption) | (simp [go_sem, *]; done)); have n3 : w1.cell? ⟨w.heap.size + 1, 1, none⟩ = some (.slice (some ⟨bb, 0, none⟩) n n) := (hb.cells _ _ (by first | with_reducible assumption | omega | (simp; done) | (simp; omega))).trans (by first | with_reducible assumption | (simp; done) | (simp; with_reducible assumption) | (rw [cell_alloc_before _ _ _ _ (by omega)]; with_reducible assumption) | (simp [go_sem, *]; done)); (first | (have nx := Ext.trans hx hb; clear hx) | (have nx := Ext.trans (hx.alloc _) hb; clear hx) | (have nx := Ext.trans hx.drew hb; clear hx) | have nx := hb); clear hb; try clear hs; try clear g0; try clear g1; try clear g2; try clear g3; have hx := nx; clear nx; have hs := ns; clear ns; have g0 := n0; clear n0; have g1 := n1; clear n1; have g2 := n2; clear n2; have g3 := n3; clear n3) | (go_at_call 84; refine (BP.out _).mono ?_; rintro rv w1 ⟨rfl, rfl⟩))
        go_ret
        exact ⟨by rw [HZ.out]; rfl, (by repeat (first | exact Ext.refl _ | with_reducible assumption | apply Ext.alloc | apply Ext.drew | apply Ext.drewN | (refine Ext.setRow ?_ (by first | (simp; done) | (simp; omega) | omega) _) | (refine Ext.setCell ?_ (by first | (simp; done) | (simp; omega) | omega) _) | (refine Ext.trans ?_ (by with_reducible assumption))))⟩
      · have HR : RowKit.Hid (blB e f P V n = allF e f V n) := Lib.hid (by unfold blB; rw [hg, hP, decide_eq_true (show n ≤ 16 by omega)]; rfl)
        rw [hg] at GD
        clear hP
        have HH := Lib.hid h
        go_enter Try.func75, Try.ntmps75
        go_wp2_with (first | (go_at_call 76; refine (GD.out _).mono ?_; rintro rv w1 ⟨rfl, hb⟩; have ns : w.heap.size + 1 < w1.heap.size := hb.lt (by first | with_reducible assumption | omega | (simp; done) | (simp; omega)); have n0 : w1.cell? ⟨w.heap.size, 0, none⟩ = some (.int .i64 e) := (hb.cells _ _ (by first | with_reducible assumption | omega | (simp; done) | (simp; omega))).trans (by first | with_reducible assumption | (simp; done) | (simp; with_reducible assumption) | (rw [cell_alloc_before _ _ _ _ (by omega)]; with_reducible assumption) | (simp [go_sem, *]; done)); have n1 : w1.cell? ⟨w.heap.size, 1, none⟩ = some (.int .i64 f) := (hb.cells _ _ (by first | with_reducible assumption | omega | (simp; done) | (simp; omega))).trans (by first | with_reducible assumption | (simp; done) | (simp; with_reducible assumption) | (rw [cell_alloc_before _ _ _ _ (by omega)]; with_reducible assumption) | (simp [go_sem, *]; done)); have n2 : w1.cell? ⟨w.heap.size + 1, 0, none⟩ = some (.int .i64 P) := (hb.cells _ _ (by first | with_reducible assumption | omega | (simp; done) | (simp; omega))).trans (by first | with_reducible assumption | (simp; done) | (simp; with_reducible assumption) | (rw [cell_alloc_before _ _ _ _ (by omega)]; with_reducible assumption) | (simp [go_sem, *]; done)); have n3 : w1.cell? ⟨w.heap.size + 1, 1, none⟩ = some (.slice (some ⟨bb, 0, none⟩) n n) := (hb.cells _ _ (by first | with_reducible assumption | omega | (simp; done) | (simp; omega))).trans (by first | with_reducible assumption | (simp; done) | (simp; with_reducible assumption) | (rw [cell_alloc_before _ _ _ _ (by omega)]; with_reducible assumption) | (simp [go_sem, *]; done)); (first | (have nx := Ext.trans hx hb; clear hx) | (have nx := Ext.trans (hx.alloc _) hb; clear hx) | (have nx := Ext.trans hx.drew hb; clear hx) | have nx := hb); clear hb; try clear hs; try clear g0; try clear g1; try clear g2; try clear g3; have hx := nx; clear nx; have hs := ns; clear ns; have g0 := n0; clear n0; have g1 := n1; clear n1; have g2 := n2; clear n2; have g3 := n3; clear n3) | (go_at_call 84; refine (BP.out _).mono ?_; rintro rv w1 ⟨rfl, rfl⟩))
        go_loopw [25] (fun x wr => ∃ k : Nat, x = .int .i64 (k : Int) ∧ k ≤ n ∧ (∀ i, i < k → finB e f (V i) = true) ∧ w.heap.size + 1 < wr.heap.size ∧ wr.cell? ⟨w.heap.size, 0, none⟩ = some (.int .i64 e) ∧ wr.cell? ⟨w.heap.size, 1, none⟩ = some (.int .i64 f) ∧ wr.cell? ⟨w.heap.size + 1, 0, none⟩ = some (.int .i64 P) ∧ wr.cell? ⟨w.heap.size + 1, 1, none⟩ = some (.slice (some ⟨bb, 0, none⟩) n n) ∧ Ext w wr) (fun x _ => n - (intOf x).toNat)
        case atStart => exact ⟨0, rfl, by omega, fun i hi => by omega, by with_reducible assumption, by with_reducible assumption, by with_reducible assumption, by with_reducible assumption, by with_reducible assumption, (by repeat (first | exact Ext.refl _ | with_reducible assumption | apply Ext.alloc | apply Ext.drew | apply Ext.drewN | (refine Ext.setRow ?_ (by first | (simp; done) | (simp; omega) | omega) _) | (refine Ext.setCell ?_ (by first | (simp; done) | (simp; omega) | omega) _) | (refine Ext.trans ?_ (by with_reducible assumption))))⟩
        case round =>
          clear ns n0 n1 n2 n3 nx
          obtain ⟨k, rfl, hk, hA, hs, g0, g1, g2, g3, hx⟩ := hrel
          by_cases hlt : k < n
          · have hlt2 : k < n := hlt
            have h1 : ((k : Nat) : Int) < (n : Int) := by omega
            have h0 : (0 : Int) ≤ (k : Int) := by omega
            have h2 : ((k : Int)).toNat = k := by omega
            have u1 : IntKind.i64.wrap ((k : Int) + 1) = (k : Int) + 1 := IntWalk.i64_in _ (by omega)
            have ga : wr.cell? ⟨bb, k, none⟩ = some (.int .i64 (V k)) := (row_ext HH.out hx).cell hlt2
            have FA := Lib.hid (fun w => hasFinite_any e f (V k) w)
            cases hd : finB e f (V k)
            · have HN : RowKit.Hid (allF e f V n = false) := Lib.hid (allF_mono hlt hd)
              rw [hd] at FA
              clear hd hA
              generalize V k = v at *
              go_wp2_with (go_at_call 99; refine (FA.out _).mono ?_; rintro rv w1 ⟨rfl, hb⟩; have ns : w.heap.size + 1 < w1.heap.size := hb.lt (by first | with_reducible assumption | omega | (simp; done) | (simp; omega)); have n0 : w1.cell? ⟨w.heap.size, 0, none⟩ = some (.int .i64 e) := (hb.cells _ _ (by first | with_reducible assumption | omega | (simp; done) | (simp; omega))).trans (by first | with_reducible assumption | (simp; done) | (simp; with_reducible assumption) | (rw [cell_alloc_before _ _ _ _ (by omega)]; with_reducible assumption) | (simp [go_sem, *]; done)); have n1 : w1.cell? ⟨w.heap.size, 1, none⟩ = some (.int .i64 f) := (hb.cells _ _ (by first | with_reducible assumption | omega | (simp; done) | (simp; omega))).trans (by first | with_reducible assumption | (simp; done) | (simp; with_reducible assumption) | (rw [cell_alloc_before _ _ _ _ (by omega)]; with_reducible assumption) | (simp [go_sem, *]; done)); have n2 : w1.cell? ⟨w.heap.size + 1, 0, none⟩ = some (.int .i64 P) := (hb.cells _ _ (by first | with_reducible assumption | omega | (simp; done) | (simp; omega))).trans (by first | with_reducible assumption | (simp; done) | (simp; with_reducible assumption) | (rw [cell_alloc_before _ _ _ _ (by omega)]; with_reducible assumption) | (simp [go_sem, *]; done)); have n3 : w1.cell? ⟨w.heap.size + 1, 1, none⟩ = some (.slice (some ⟨bb, 0, none⟩) n n) := (hb.cells _ _ (by first | with_reducible assumption | omega | (simp; done) | (simp; omega))).trans (by first | with_reducible assumption | (simp; done) | (simp; with_reducible assumption) | (rw [cell_alloc_before _ _ _ _ (by omega)]; with_reducible assumption) | (simp [go_sem, *]; done)); (first | (have nx := Ext.trans hx hb; clear hx) | (have nx := Ext.trans (hx.alloc _) hb; clear hx) | (have nx := Ext.trans hx.drew hb; clear hx) | have nx := hb); clear hb; try clear hs; try clear g0; try clear g1; try clear g2; try clear g3; have hx := nx; clear nx; have hs := ns; clear ns; have g0 := n0; clear n0; have g1 := n1; clear n1; have g2 := n2; clear n2; have g3 := n3; clear n3)
              go_ret
              exact ⟨by rw [HR.out, HN.out]; rfl, (by repeat (first | exact Ext.refl _ | with_reducible assumption | apply Ext.alloc | apply Ext.drew | apply Ext.drewN | (refine Ext.setRow ?_ (by first | (simp; done) | (simp; omega) | omega) _) | (refine Ext.setCell ?_ (by first | (simp; done) | (simp; omega) | omega) _) | (refine Ext.trans ?_ (by with_reducible assumption))))⟩
            · have HN : RowKit.Hid (∀ i, i < k + 1 → finB e f (V i) = true) := Lib.hid (fun i hi => by
                by_cases e1 : i = k
                · subst e1; exact hd
                · exact hA i (by omega))
              rw [hd] at FA
              clear hd hA
              generalize V k = v at *
              go_wp2_with (go_at_call 99; refine (FA.out _).mono ?_; rintro rv w1 ⟨rfl, hb⟩; have ns : w.heap.size + 1 < w1.heap.size := hb.lt (by first | with_reducible assumption | omega | (simp; done) | (simp; omega)); have n0 : w1.cell? ⟨w.heap.size, 0, none⟩ = some (.int .i64 e) := (hb.cells _ _ (by first | with_reducible assumption | omega | (simp; done) | (simp; omega))).trans (by first | with_reducible assumption | (simp; done) | (simp; with_reducible assumption) | (rw [cell_alloc_before _ _ _ _ (by omega)]; with_reducible assumption) | (simp [go_sem, *]; done)); have n1 : w1.cell? ⟨w.heap.size, 1, none⟩ = some (.int .i64 f) := (hb.cells _ _ (by first | with_reducible assumption | omega | (simp; done) | (simp; omega))).trans (by first | with_reducible assumption | (simp; done) | (simp; with_reducible assumption) | (rw [cell_alloc_before _ _ _ _ (by omega)]; with_reducible assumption) | (simp [go_sem, *]; done)); have n2 : w1.cell? ⟨w.heap.size + 1, 0, none⟩ = some (.int .i64 P) := (hb.cells _ _ (by first | with_reducible assumption | omega | (simp; done) | (simp; omega))).trans (by first | with_reducible assumption | (simp; done) | (simp; with_reducible assumption) | (rw [cell_alloc_before _ _ _ _ (by omega)]; with_reducible assumption) | (simp [go_sem, *]; done)); have n3 : w1.cell? ⟨w.heap.size + 1, 1, none⟩ = some (.slice (some ⟨bb, 0, none⟩) n n) := (hb.cells _ _ (by first | with_reducible assumption | omega | (simp; done) | (simp; omega))).trans (by first | with_reducible assumption | (simp; done) | (simp; with_reducible assumption) | (rw [cell_alloc_before _ _ _ _ (by omega)]; with_reducible assumption) | (simp [go_sem, *]; done)); (first | (have nx := Ext.trans hx hb; clear hx) | (have nx := Ext.trans (hx.alloc _) hb; clear hx) | (have nx := Ext.trans hx.drew hb; clear hx) | have nx := hb); clear hb; try clear hs; try clear g0; try clear g1; try clear g2; try clear g3; have hx := nx; clear nx; have hs := ns; clear ns; have g0 := n0; clear n0; have g1 := n1; clear n1; have g2 := n2; clear n2; have g3 := n3; clear n3)
              go_roundw
              case rel => exact ⟨k + 1, by simp, by omega, HN.out, by with_reducible assumption, by with_reducible assumption, by with_reducible assumption, by with_reducible assumption, by with_reducible assumption, by with_reducible assumption⟩
              case measure => simp [intOf]; omega
          · have h1 : ¬ ((k : Nat) : Int) < (n : Int) := by omega
            have hkn : k = n := by omega
            subst hkn
            have HA : RowKit.Hid (allF e f V k = true) := Lib.hid (allF_iff.2 hA)
            clear hA
            go_wp2_with fail
            go_ret
            exact ⟨by rw [HR.out, HA.out]; rfl, (by repeat (first | exact Ext.refl _ | with_reducible assumption | apply Ext.alloc | apply Ext.drew | apply Ext.drewN | (refine Ext.setRow ?_ (by first | (simp; done) | (simp; omega) | omega) _) | (refine Ext.setCell ?_ (by first | (simp; done) | (simp; omega) | omega) _) | (refine Ext.trans ?_ (by with_reducible assumption))))⟩

set_option maxHeartbeats 3200000 in
theorem sBlock_row (e f P : Int) (V : Nat → Int) (bb n : Nat) (w : World) (h : w.rowIs bb 3 n (fun i => .int .i64 (V i))) : Calls Try.prog 74 #[fmt e f, blk P (some ⟨bb, 0, none⟩) n n] w fun rv w' => rv = .returned (.bool (blB e f P V n)) ∧ Ext w w' := by
  have GD := Lib.hid (fun w => fmGood_any e f w)
  have BP := Lib.hid (fun w => l1In_any P (-40) 40 w)
  cases hg : goodB e f
  · have HZ : RowKit.Hid (blB e f P V n = false) := Lib.hid (by unfold blB; rw [hg]; rfl)
    rw [hg] at GD
    by_cases hn : (16 : Int) < (n : Int)
    all_goals
      cases hP : decide (-40 ≤ P ∧ P ≤ 40)
      all_goals
        rw [hP] at BP
        clear hP
        go_enter Try.func74, Try.ntmps74
        go_wp2_with (first | (go_at_call 69; refine (GD.out _).mono ?_; rintro rv w1 ⟨rfl, hb⟩; have ns : w.heap.size + 1 < w1.heap.size := hb.lt (by first | with_reducible assumption | omega | (simp; done) | (simp; omega)); have n0 : w1.cell? ⟨w.heap.size, 0, none⟩ = some (.int .i64 e) := (hb.cells _ _ (by first | with_reducible assumption | omega | (simp; done) | (simp; omega))).trans (by first | with_reducible assumption | (simp; done) | (simp; with_reducible assumption) | (rw [cell_alloc_before _ _ _ _ (by omega)]; with_reducible assumption) | (simp [go_sem, *]; done)); have n1 : w1.cell? ⟨w.heap.size, 1, none⟩ = some (.int .i64 f) := (hb.cells _ _ (by first | with_reducible assumption | omega | (simp; done) | (simp; omega))).trans (by first | with_reducible assumption | (simp; done) | (simp; with_reducible assumption) | (rw [cell_alloc_before _ _ _ _ (by omega)]; with_reducible assumption) | (simp [go_sem, *]; done)); have n2 : w1.cell? ⟨w.heap.size + 1, 0, none⟩ = some (.int .i64 P) := (hb.cells _ _ (by first | with_reducible assumption | omega | (simp; done) | (simp; omega))).trans (by first | with_reducible assumption | (simp; done) | (simp; with_reducible assumption) | (rw [cell_alloc_before _ _ _ _ (by omega)]; with_reducible assumption) | (simp [go_sem, *]; done)); have n3 : w1.cell? ⟨w.heap.size + 1, 1, none⟩ = some (.slice (some ⟨bb, 0, none⟩) n n) := (hb.cells _ _ (by first | with_reducible assumption | omega | (simp; done) | (simp; omega))).trans (by first | with_reducible assumption | (simp; done) | (simp; with_reducible assumption) | (rw [cell_alloc_before _ _ _ _ (by omega)]; with_reducible assumption) | (simp [go_sem, *]; done)); (first | (have nx := Ext.trans hx hb; clear hx) | (have nx := Ext.trans (hx.alloc _) hb; clear hx) | (have nx := Ext.trans hx.drew hb; clear hx) | have nx := hb); clear hb; try clear hs; try clear g0; try clear g1; try clear g2; try clear g3; have hx := nx; clear nx; have hs := ns; clear ns; have g0 := n0; clear n0; have g1 := n1; clear n1; have g2 := n2; clear n2; have g3 := n3; clear n3) | (go_at_call 70; refine (BP.out _).mono ?_; rintro rv w1 ⟨rfl, rfl⟩))
        go_ret
        exact ⟨by rw [HZ.out]; rfl, (by repeat (first | exact Ext.refl _ | with_reducible assumption | apply Ext.alloc | apply Ext.drew | apply Ext.drewN | (refine Ext.setRow ?_ (by first | (simp; done) | (simp; omega) | omega) _) | (refine Ext.setCell ?_ (by first | (simp; done) | (simp; omega) | omega) _) | (refine Ext.trans ?_ (by with_reducible assumption))))⟩
  · cases hP : decide (-40 ≤ P ∧ P ≤ 40)
    · have HZ : RowKit.Hid (blB e f P V n = false) := Lib.hid (by unfold blB; rw [hP, hg]; rfl)
      rw [hg] at GD
      rw [hP] at BP
      clear hP
      by_cases hn : (16 : Int) < (n : Int)
      all_goals
        go_enter Try.func74, Try.ntmps74
        go_wp2_with (first | (go_at_call 69; refine (GD.out _).mono ?_; rintro rv w1 ⟨rfl, hb⟩; have ns : w.heap.size + 1 < w1.heap.size := hb.lt (by first | with_reducible assumption | omega | (simp; done) | (simp; omega)); have n0 : w1.cell? ⟨w.heap.size, 0, none⟩ = some (.int .i64 e) := (hb.cells _ _ (by first | with_reducible assumption | omega | (simp; done) | (simp; omega))).trans (by first | with_reducible assumption | (simp; done) | (simp; with_reducible assumption) | (rw [cell_alloc_before _ _ _ _ (by omega)]; with_reducible assumption) | (simp [go_sem, *]; done)); have n1 : w1.cell? ⟨w.heap.size, 1, none⟩ = some (.int .i64 f) := (hb.cells _ _ (by first | with_reducible assumption | omega | (simp; done) | (simp; omega))).trans (by first | with_reducible assumption | (simp; done) | (simp; with_reducible assumption) | (rw [cell_alloc_before _ _ _ _ (by omega)]; with_reducible assumption) | (simp [go_sem, *]; done)); have n2 : w1.cell? ⟨w.heap.size + 1, 0, none⟩ = some (.int .i64 P) := (hb.cells _ _ (by first | with_reducible assumption | omega | (simp; done) | (simp; omega))).trans (by first | with_reducible assumption | (simp; done) | (simp; with_reducible assumption) | (rw [cell_alloc_before _ _ _ _ (by omega)]; with_reducible assumption) | (simp [go_sem, *]; done)); have n3 : w1.cell? ⟨w.heap.size + 1, 1, none⟩ = some (.slice (some ⟨bb, 0, none⟩) n n) := (hb.cells _ _ (by first | with_reducible assumption | omega | (simp; done) | (simp; omega))).trans (by first | with_reducible assumption | (simp; done) | (simp; with_reducible assumption) | (rw [cell_alloc_before _ _ _ _ (by omega)]; with_reducible assumption) | (simp [go_sem, *]; done)); (first | (have nx := Ext.trans hx hb; clear hx) | (have nx := Ext.trans (hx.alloc _) hb; clear hx) | (have nx := Ext.trans hx.drew hb; clear hx) | have nx := hb); clear hb; try clear hs; try clear g0; try clear g1; try clear g2; try clear g3; have hx := nx; clear nx; have hs := ns; clear ns; have g0 := n0; clear n0; have g1 := n1; clear n1; have g2 := n2; clear n2; have g3 := n3; clear n3) | (go_at_call 70; refine (BP.out _).mono ?_; rintro rv w1 ⟨rfl, rfl⟩))
        go_ret
        exact ⟨by rw [HZ.out]; rfl, (by repeat (first | exact Ext.refl _ | with_reducible assumption | apply Ext.alloc | apply Ext.drew | apply Ext.drewN | (refine Ext.setRow ?_ (by first | (simp; done) | (simp; omega) | omega) _) | (refine Ext.setCell ?_ (by first | (simp; done) | (simp; omega) | omega) _) | (refine Ext.trans ?_ (by with_reducible assumption))))⟩
    · rw [hP] at BP
      by_cases hn : (16 : Int) < (n : Int)
      · have HZ : RowKit.Hid (blB e f P V n = false) := Lib.hid (by unfold blB; rw [decide_eq_false (show ¬ n ≤ 16 by omega), hP, hg]; rfl)
        rw [hg] at GD
        clear hP
        go_enter Try.func74, Try.ntmps74
        go_wp2_with (first | (go_at_call 69; refine (GD.out _).mono ?_; rintro rv w1 ⟨rfl, hb⟩; have ns : w.heap.size + 1 < w1.heap.size := hb.lt (by first | with_reducible assumption | omega | (simp; done) | (simp; omega)); have n0 : w1.cell? ⟨w.heap.size, 0, none⟩ = some (.int .i64 e) := (hb.cells _ _ (by first | with_reducible assumption | omega | (simp; done) | (simp; omega))).trans (by first | with_reducible assumption | (simp; done) | (simp; with_reducible assumption) | (rw [cell_alloc_before _ _ _ _ (by omega)]; with_reducible assumption) | (simp [go_sem, *]; done)); have n1 : w1.cell? ⟨w.heap.size, 1, none⟩ = some (.int .i64 f) := (hb.cells _ _ (by first | with_reducible assumption | omega | (simp; done) | (simp; omega))).trans (by first | with_reducible assumption | (simp; done) | (simp; with_reducible assumption) | (rw [cell_alloc_before _ _ _ _ (by omega)]; with_reducible assumption) | (simp [go_sem, *]; done)); have n2 : w1.cell? ⟨w.heap.size + 1, 0, none⟩ = some (.int .i64 P) := (hb.cells _ _ (by first | with_reducible assumption | omega | (simp; done) | (simp; omega))).trans (by first | with_reducible assumption | (simp; done) | (simp; with_reducible assumption) | (rw [cell_alloc_before _ _ _ _ (by omega)]; with_reducible assumption) | (simp [go_sem, *]; done)); have n3 : w1.cell? ⟨w.heap.size + 1, 1, none⟩ = some (.slice (some ⟨bb, 0, none⟩) n n) := (hb.cells _ _ (by first | with_reducible assumption | omega | (simp; done) | (simp; omega))).trans (by first | with_reducible assumption | (simp; done) | (simp; with_reducible assumption) | (rw [cell_alloc_before _ _ _ _ (by omega)]; with_reducible assumption) | (simp [go_sem, *]; done)); (first | (have nx := Ext.trans hx hb; clear hx) | (have nx := Ext.trans (hx.alloc _) hb; clear hx) | (have nx := Ext.trans hx.drew hb; clear hx) | have nx := hb); clear hb; try clear hs; try clear g0; try clear g1; try clear g2; try clear g3; have hx := nx; clear nx; have hs := ns; clear ns; have g0 := n0; clear n0; have g1 := n1; clear n1; have g2 := n2; clear n2; have g3 := n3; clear n3) | (go_at_call 70; refine (BP.out _).mono ?_; rintro rv w1 ⟨rfl, rfl⟩))
        go_ret
        exact ⟨by rw [HZ.out]; rfl, (by repeat (first | exact Ext.refl _ | with_reducible assumption | apply Ext.alloc | apply Ext.drew | apply Ext.drewN | (refine Ext.setRow ?_ (by first | (simp; done) | (simp; omega) | omega) _) | (refine Ext.setCell ?_ (by first | (simp; done) | (simp; omega) | omega) _) | (refine Ext.trans ?_ (by with_reducible assumption))))⟩
      · have HR : RowKit.Hid (blB e f P V n = allF e f V n) := Lib.hid (by unfold blB; rw [hg, hP, decide_eq_true (show n ≤ 16 by omega)]; rfl)
        rw [hg] at GD
        clear hP
        have HH := Lib.hid h
        go_enter Try.func74, Try.ntmps74
        go_wp2_with (first | (go_at_call 69; refine (GD.out _).mono ?_; rintro rv w1 ⟨rfl, hb⟩; have ns : w.heap.size + 1 < w1.heap.size := hb.lt (by first | with_reducible assumption | omega | (simp; done) | (simp; omega)); have n0 : w1.cell? ⟨w.heap.size, 0, none⟩ = some (.int .i64 e) := (hb.cells _ _ (by first | with_reducible assumption | omega | (simp; done) | (simp; omega))).trans (by first | with_reducible assumption | (simp; done) | (simp; with_reducible assumption) | (rw [cell_alloc_before _ _ _ _ (by omega)]; with_reducible assumption) | (simp [go_sem, *]; done)); have n1 : w1.cell? ⟨w.heap.size, 1, none⟩ = some (.int .i64 f) := (hb.cells _ _ (by first | with_reducible assumption | omega | (simp; done) | (simp; omega))).trans (by first | with_reducible assumption | (simp; done) | (simp; with_reducible assumption) | (rw [cell_alloc_before _ _ _ _ (by omega)]; with_reducible assumption) | (simp [go_sem, *]; done)); have n2 : w1.cell? ⟨w.heap.size + 1, 0, none⟩ = some (.int .i64 P) := (hb.cells _ _ (by first | with_reducible assumption | omega | (simp; done) | (simp; omega))).trans (by first | with_reducible assumption | (simp; done) | (simp; with_reducible assumption) | (rw [cell_alloc_before _ _ _ _ (by omega)]; with_reducible assumption) | (simp [go_sem, *]; done)); have n3 : w1.cell? ⟨w.heap.size + 1, 1, none⟩ = some (.slice (some ⟨bb, 0, none⟩) n n) := (hb.cells _ _ (by first | with_reducible assumption | omega | (simp; done) | (simp; omega))).trans (by first | with_reducible assumption | (simp; done) | (simp; with_reducible assumption) | (rw [cell_alloc_before _ _ _ _ (by omega)]; with_reducible assumption) | (simp [go_sem, *]; done)); (first | (have nx := Ext.trans hx hb; clear hx) | (have nx := Ext.trans (hx.alloc _) hb; clear hx) | (have nx := Ext.trans hx.drew hb; clear hx) | have nx := hb); clear hb; try clear hs; try clear g0; try clear g1; try clear g2; try clear g3; have hx := nx; clear nx; have hs := ns; clear ns; have g0 := n0; clear n0; have g1 := n1; clear n1; have g2 := n2; clear n2; have g3 := n3; clear n3) | (go_at_call 70; refine (BP.out _).mono ?_; rintro rv w1 ⟨rfl, rfl⟩))
        go_loopw [25] (fun x wr => ∃ k : Nat, x = .int .i64 (k : Int) ∧ k ≤ n ∧ (∀ i, i < k → finB e f (V i) = true) ∧ w.heap.size + 1 < wr.heap.size ∧ wr.cell? ⟨w.heap.size, 0, none⟩ = some (.int .i64 e) ∧ wr.cell? ⟨w.heap.size, 1, none⟩ = some (.int .i64 f) ∧ wr.cell? ⟨w.heap.size + 1, 0, none⟩ = some (.int .i64 P) ∧ wr.cell? ⟨w.heap.size + 1, 1, none⟩ = some (.slice (some ⟨bb, 0, none⟩) n n) ∧ Ext w wr) (fun x _ => n - (intOf x).toNat)
        case atStart => exact ⟨0, rfl, by omega, fun i hi => by omega, by with_reducible assumption, by with_reducible assumption, by with_reducible assumption, by with_reducible assumption, by with_reducible assumption, (by repeat (first | exact Ext.refl _ | with_reducible assumption | apply Ext.alloc | apply Ext.drew | apply Ext.drewN | (refine Ext.setRow ?_ (by first | (simp; done) | (simp; omega) | omega) _) | (refine Ext.setCell ?_ (by first | (simp; done) | (simp; omega) | omega) _) | (refine Ext.trans ?_ (by with_reducible assumption))))⟩
        case round =>
          clear ns n0 n1 n2 n3 nx
          obtain ⟨k, rfl, hk, hA, hs, g0, g1, g2, g3, hx⟩ := hrel
          by_cases hlt : k < n
          · have hlt2 : k < n := hlt
            have h1 : ((k : Nat) : Int) < (n : Int) := by omega
            have h0 : (0 : Int) ≤ (k : Int) := by omega
            have h2 : ((k : Int)).toNat = k := by omega
            have u1 : IntKind.i64.wrap ((k : Int) + 1) = (k : Int) + 1 := IntWalk.i64_in _ (by omega)
            have ga : wr.cell? ⟨bb, k, none⟩ = some (.int .i64 (V k)) := (row_ext HH.out hx).cell hlt2
            have FA := Lib.hid (fun w => fmFinite_any e f (V k) w)
            cases hd : finB e f (V k)
            · have HN : RowKit.Hid (allF e f V n = false) := Lib.hid (allF_mono hlt hd)
              rw [hd] at FA
              clear hd hA
              generalize V k = v at *
              go_wp2_with (go_at_call 64; refine (FA.out _).mono ?_; rintro rv w1 ⟨rfl, hb⟩; have ns : w.heap.size + 1 < w1.heap.size := hb.lt (by first | with_reducible assumption | omega | (simp; done) | (simp; omega)); have n0 : w1.cell? ⟨w.heap.size, 0, none⟩ = some (.int .i64 e) := (hb.cells _ _ (by first | with_reducible assumption | omega | (simp; done) | (simp; omega))).trans (by first | with_reducible assumption | (simp; done) | (simp; with_reducible assumption) | (rw [cell_alloc_before _ _ _ _ (by omega)]; with_reducible assumption) | (simp [go_sem, *]; done)); have n1 : w1.cell? ⟨w.heap.size, 1, none⟩ = some (.int .i64 f) := (hb.cells _ _ (by first | with_reducible assumption | omega | (simp; done) | (simp; omega))).trans (by first | with_reducible assumption | (simp; done) | (simp; with_reducible assumption) | (rw [cell_alloc_before _ _ _ _ (by omega)]; with_reducible assumption) | (simp [go_sem, *]; done)); have n2 : w1.cell? ⟨w.heap.size + 1, 0, none⟩ = some (.int .i64 P) := (hb.cells _ _ (by first | with_reducible assumption | omega | (simp; done) | (simp; omega))).trans (by first | with_reducible assumption | (simp; done) | (simp; with_reducible assumption) | (rw [cell_alloc_before _ _ _ _ (by omega)]; with_reducible assumption) | (simp [go_sem, *]; done)); have n3 : w1.cell? ⟨w.heap.size + 1, 1, none⟩ = some (.slice (some ⟨bb, 0, none⟩) n n) := (hb.cells _ _ (by first | with_reducible assumption | omega | (simp; done) | (simp; omega))).trans (by first | with_reducible assumption | (simp; done) | (simp; with_reducible assumption) | (rw [cell_alloc_before _ _ _ _ (by omega)]; with_reducible assumption) | (simp [go_sem, *]; done)); (first | (have nx := Ext.trans hx hb; clear hx) | (have nx := Ext.trans (hx.alloc _) hb; clear hx) | (have nx := Ext.trans hx.drew hb; clear hx) | have nx := hb); clear hb; try clear hs; try clear g0; try clear g1; try clear g2; try clear g3; have hx := nx; clear nx; have hs := ns; clear ns; have g0 := n0; clear n0; have g1 := n1; clear n1; have g2 := n2; clear n2; have g3 := n3; clear n3)
              go_ret
              exact ⟨by rw [HR.out, HN.out]; rfl, (by repeat (first | exact Ext.refl _ | with_reducible assumption | apply Ext.alloc | apply Ext.drew | apply Ext.drewN | (refine Ext.setRow ?_ (by first | (simp; done) | (simp; omega) | omega) _) | (refine Ext.setCell ?_ (by first | (simp; done) | (simp; omega) | omega) _) | (refine Ext.trans ?_ (by with_reducible assumption))))⟩
            · have HN : RowKit.Hid (∀ i, i < k + 1 → finB e f (V i) = true) := Lib.hid (fun i hi => by
                by_cases e1 : i = k
                · subst e1; exact hd
                · exact hA i (by omega))
              rw [hd] at FA
              clear hd hA
              generalize V k = v at *
              go_wp2_with (go_at_call 64; refine (FA.out _).mono ?_; rintro rv w1 ⟨rfl, hb⟩; have ns : w.heap.size + 1 < w1.heap.size := hb.lt (by first | with_reducible assumption | omega | (simp; done) | (simp; omega)); have n0 : w1.cell? ⟨w.heap.size, 0, none⟩ = some (.int .i64 e) := (hb.cells _ _ (by first | with_reducible assumption | omega | (simp; done) | (simp; omega))).trans (by first | with_reducible assumption | (simp; done) | (simp; with_reducible assumption) | (rw [cell_alloc_before _ _ _ _ (by omega)]; with_reducible assumption) | (simp [go_sem, *]; done)); have n1 : w1.cell? ⟨w.heap.size, 1, none⟩ = some (.int .i64 f) := (hb.cells _ _ (by first | with_reducible assumption | omega | (simp; done) | (simp; omega))).trans (by first | with_reducible assumption | (simp; done) | (simp; with_reducible assumption) | (rw [cell_alloc_before _ _ _ _ (by omega)]; with_reducible assumption) | (simp [go_sem, *]; done)); have n2 : w1.cell? ⟨w.heap.size + 1, 0, none⟩ = some (.int .i64 P) := (hb.cells _ _ (by first | with_reducible assumption | omega | (simp; done) | (simp; omega))).trans (by first | with_reducible assumption | (simp; done) | (simp; with_reducible assumption) | (rw [cell_alloc_before _ _ _ _ (by omega)]; with_reducible assumption) | (simp [go_sem, *]; done)); have n3 : w1.cell? ⟨w.heap.size + 1, 1, none⟩ = some (.slice (some ⟨bb, 0, none⟩) n n) := (hb.cells _ _ (by first | with_reducible assumption | omega | (simp; done) | (simp; omega))).trans (by first | with_reducible assumption | (simp; done) | (simp; with_reducible assumption) | (rw [cell_alloc_before _ _ _ _ (by omega)]; with_reducible assumption) | (simp [go_sem, *]; done)); (first | (have nx := Ext.trans hx hb; clear hx) | (have nx := Ext.trans (hx.alloc _) hb; clear hx) | (have nx := Ext.trans hx.drew hb; clear hx) | have nx := hb); clear hb; try clear hs; try clear g0; try clear g1; try clear g2; try clear g3; have hx := nx; clear nx; have hs := ns; clear ns; have g0 := n0; clear n0; have g1 := n1; clear n1; have g2 := n2; clear n2; have g3 := n3; clear n3)
              go_roundw
              case rel => exact ⟨k + 1, by simp, by omega, HN.out, by with_reducible assumption, by with_reducible assumption, by with_reducible assumption, by with_reducible assumption, by with_reducible assumption, by with_reducible assumption⟩
              case measure => simp [intOf]; omega
          · have h1 : ¬ ((k : Nat) : Int) < (n : Int) := by omega
            have hkn : k = n := by omega
            subst hkn
            have HA : RowKit.Hid (allF e f V k = true) := Lib.hid (allF_iff.2 hA)
            clear hA
            go_wp2_with fail
            go_ret
            exact ⟨by rw [HR.out, HA.out]; rfl, (by repeat (first | exact Ext.refl _ | with_reducible assumption | apply Ext.alloc | apply Ext.drew | apply Ext.drewN | (refine Ext.setRow ?_ (by first | (simp; done) | (simp; omega) | omega) _) | (refine Ext.setCell ?_ (by first | (simp; done) | (simp; omega) | omega) _) | (refine Ext.trans ?_ (by with_reducible assumption))))⟩

theorem bl_good {e f P : Int} {V : Nat → Int} {n : Nat} (h : goodB e f = false) : blB e f P V n = false := by unfold blB; rw [h]; rfl

theorem sIsBlock_row (e f P : Int) (V : Nat → Int) (bb n : Nat) (w : World) (h : w.rowIs bb 3 n (fun i => .int .i64 (V i))) : Calls Try.prog 26 #[fmt e f, blk P (some ⟨bb, 0, none⟩) n n] w fun rv w' => rv = .returned (.tuple #[.bool (blB e f P V n), .bool (goodB e f)]) ∧ Ext w w' := by
  have GD := Lib.hid (fun w => fmGood_any e f w)
  have BA := Lib.hid (fun w h => sBlock_row e f P V bb n w h)
  cases hg : goodB e f
  · rw [bl_good hg] at BA ⊢
    rw [hg] at GD
    go_enter Try.func26, Try.ntmps26
    go_wp2_with (go_at_call 69; refine (GD.out _).mono ?_; rintro rv w1 ⟨rfl, hb⟩; have ns : w.heap.size + 1 < w1.heap.size := hb.lt (by first | with_reducible assumption | omega | (simp; done) | (simp; omega)); have n0 : w1.cell? ⟨w.heap.size, 0, none⟩ = some (.int .i64 e) := (hb.cells _ _ (by first | with_reducible assumption | omega | (simp; done) | (simp; omega))).trans (by first | with_reducible assumption | (simp; done) | (simp; with_reducible assumption) | (rw [cell_alloc_before _ _ _ _ (by omega)]; with_reducible assumption) | (simp [go_sem, *]; done)); have n1 : w1.cell? ⟨w.heap.size, 1, none⟩ = some (.int .i64 f) := (hb.cells _ _ (by first | with_reducible assumption | omega | (simp; done) | (simp; omega))).trans (by first | with_reducible assumption | (simp; done) | (simp; with_reducible assumption) | (rw [cell_alloc_before _ _ _ _ (by omega)]; with_reducible assumption) | (simp [go_sem, *]; done)); have n2 : w1.cell? ⟨w.heap.size + 1, 0, none⟩ = some (.int .i64 P) := (hb.cells _ _ (by first | with_reducible assumption | omega | (simp; done) | (simp; omega))).trans (by first | with_reducible assumption | (simp; done) | (simp; with_reducible assumption) | (rw [cell_alloc_before _ _ _ _ (by omega)]; with_reducible assumption) | (simp [go_sem, *]; done)); have n3 : w1.cell? ⟨w.heap.size + 1, 1, none⟩ = some (.slice (some ⟨bb, 0, none⟩) n n) := (hb.cells _ _ (by first | with_reducible assumption | omega | (simp; done) | (simp; omega))).trans (by first | with_reducible assumption | (simp; done) | (simp; with_reducible assumption) | (rw [cell_alloc_before _ _ _ _ (by omega)]; with_reducible assumption) | (simp [go_sem, *]; done)); (first | (have nx := Ext.trans hx hb; clear hx) | (have nx := Ext.trans (hx.alloc _) hb; clear hx) | (have nx := Ext.trans hx.drew hb; clear hx) | have nx := hb); clear hb; try clear hs; try clear g0; try clear g1; try clear g2; try clear g3; have hx := nx; clear nx; have hs := ns; clear ns; have g0 := n0; clear n0; have g1 := n1; clear n1; have g2 := n2; clear n2; have g3 := n3; clear n3)
    go_ret2
    exact ⟨rfl, (by repeat (first | exact Ext.refl _ | with_reducible assumption | apply Ext.alloc | apply Ext.drew | apply Ext.drewN | (refine Ext.setRow ?_ (by first | (simp; done) | (simp; omega) | omega) _) | (refine Ext.setCell ?_ (by first | (simp; done) | (simp; omega) | omega) _) | (refine Ext.trans ?_ (by with_reducible assumption))))⟩
  · rw [hg] at GD
    generalize blB e f P V n = B at *
    go_enter Try.func26, Try.ntmps26
    go_wp2_with (first | (go_at_call 69; refine (GD.out _).mono ?_; rintro rv w1 ⟨rfl, hb⟩; have ns : w.heap.size + 1 < w1.heap.size := hb.lt (by first | with_reducible assumption | omega | (simp; done) | (simp; omega)); have n0 : w1.cell? ⟨w.heap.size, 0, none⟩ = some (.int .i64 e) := (hb.cells _ _ (by first | with_reducible assumption | omega | (simp; done) | (simp; omega))).trans (by first | with_reducible assumption | (simp; done) | (simp; with_reducible assumption) | (rw [cell_alloc_before _ _ _ _ (by omega)]; with_reducible assumption) | (simp [go_sem, *]; done)); have n1 : w1.cell? ⟨w.heap.size, 1, none⟩ = some (.int .i64 f) := (hb.cells _ _ (by first | with_reducible assumption | omega | (simp; done) | (simp; omega))).trans (by first | with_reducible assumption | (simp; done) | (simp; with_reducible assumption) | (rw [cell_alloc_before _ _ _ _ (by omega)]; with_reducible assumption) | (simp [go_sem, *]; done)); have n2 : w1.cell? ⟨w.heap.size + 1, 0, none⟩ = some (.int .i64 P) := (hb.cells _ _ (by first | with_reducible assumption | omega | (simp; done) | (simp; omega))).trans (by first | with_reducible assumption | (simp; done) | (simp; with_reducible assumption) | (rw [cell_alloc_before _ _ _ _ (by omega)]; with_reducible assumption) | (simp [go_sem, *]; done)); have n3 : w1.cell? ⟨w.heap.size + 1, 1, none⟩ = some (.slice (some ⟨bb, 0, none⟩) n n) := (hb.cells _ _ (by first | with_reducible assumption | omega | (simp; done) | (simp; omega))).trans (by first | with_reducible assumption | (simp; done) | (simp; with_reducible assumption) | (rw [cell_alloc_before _ _ _ _ (by omega)]; with_reducible assumption) | (simp [go_sem, *]; done)); (first | (have nx := Ext.trans hx hb; clear hx) | (have nx := Ext.trans (hx.alloc _) hb; clear hx) | (have nx := Ext.trans hx.drew hb; clear hx) | have nx := hb); clear hb; try clear hs; try clear g0; try clear g1; try clear g2; try clear g3; have hx := nx; clear nx; have hs := ns; clear ns; have g0 := n0; clear n0; have g1 := n1; clear n1; have g2 := n2; clear n2; have g3 := n3; clear n3) | (go_at_call 74; refine (BA.out _ (row_ext h (by repeat (first | exact Ext.refl _ | with_reducible assumption | apply Ext.alloc | apply Ext.drew | apply Ext.drewN | (refine Ext.setRow ?_ (by first | (simp; done) | (simp; omega) | omega) _) | (refine Ext.setCell ?_ (by first | (simp; done) | (simp; omega) | omega) _) | (refine Ext.trans ?_ (by with_reducible assumption)))))).mono ?_; rintro rv w1 ⟨rfl, hb⟩; have ns : w.heap.size + 1 < w1.heap.size := hb.lt (by first | with_reducible assumption | omega | (simp; done) | (simp; omega)); have n0 : w1.cell? ⟨w.heap.size, 0, none⟩ = some (.int .i64 e) := (hb.cells _ _ (by first | with_reducible assumption | omega | (simp; done) | (simp; omega))).trans (by first | with_reducible assumption | (simp; done) | (simp; with_reducible assumption) | (rw [cell_alloc_before _ _ _ _ (by omega)]; with_reducible assumption) | (simp [go_sem, *]; done)); have n1 : w1.cell? ⟨w.heap.size, 1, none⟩ = some (.int .i64 f) := (hb.cells _ _ (by first | with_reducible assumption | omega | (simp; done) | (simp; omega))).trans (by first | with_reducible assumption | (simp; done) | (simp; with_reducible assumption) | (rw [cell_alloc_before _ _ _ _ (by omega)]; with_reducible assumption) | (simp [go_sem, *]; done)); have n2 : w1.cell? ⟨w.heap.size + 1, 0, none⟩ = some (.int .i64 P) := (hb.cells _ _ (by first | with_reducible assumption | omega | (simp; done) | (simp; omega))).trans (by first | with_reducible assumption | (simp; done) | (simp; with_reducible assumption) | (rw [cell_alloc_before _ _ _ _ (by omega)]; with_reducible assumption) | (simp [go_sem, *]; done)); have n3 : w1.cell? ⟨w.heap.size + 1, 1, none⟩ = some (.slice (some ⟨bb, 0, none⟩) n n) := (hb.cells _ _ (by first | with_reducible assumption | omega | (simp; done) | (simp; omega))).trans (by first | with_reducible assumption | (simp; done) | (simp; with_reducible assumption) | (rw [cell_alloc_before _ _ _ _ (by omega)]; with_reducible assumption) | (simp [go_sem, *]; done)); (first | (have nx := Ext.trans hx hb; clear hx) | (have nx := Ext.trans (hx.alloc _) hb; clear hx) | (have nx := Ext.trans hx.drew hb; clear hx) | have nx := hb); clear hb; try clear hs; try clear g0; try clear g1; try clear g2; try clear g3; have hx := nx; clear nx; have hs := ns; clear ns; have g0 := n0; clear n0; have g1 := n1; clear n1; have g2 := n2; clear n2; have g3 := n3; clear n3))
    go_ret2
    exact ⟨rfl, (by repeat (first | exact Ext.refl _ | with_reducible assumption | apply Ext.alloc | apply Ext.drew | apply Ext.drewN | (refine Ext.setRow ?_ (by first | (simp; done) | (simp; omega) | omega) _) | (refine Ext.setCell ?_ (by first | (simp; done) | (simp; omega) | omega) _) | (refine Ext.trans ?_ (by with_reducible assumption))))⟩

theorem iIsBlock_row (e f P : Int) (V : Nat → Int) (bb n : Nat) (w : World) (h : w.rowIs bb 3 n (fun i => .int .i64 (V i))) : Calls Try.prog 28 #[fmt e f, blk P (some ⟨bb, 0, none⟩) n n] w fun rv w' => rv = .returned (.tuple #[.bool (blB e f P V n), .bool (goodB e f)]) ∧ Ext w w' := by
  have GD := Lib.hid (fun w => isFormat_any e f w)
  have BA := Lib.hid (fun w h => iBlock_row e f P V bb n w h)
  generalize blB e f P V n = B at *
  generalize goodB e f = G at *
  go_enter Try.func28, Try.ntmps28
  go_wp2_with (first | (go_at_call 76; refine (GD.out _).mono ?_; rintro rv w1 ⟨rfl, hb⟩; have ns : w.heap.size + 1 < w1.heap.size := hb.lt (by first | with_reducible assumption | omega | (simp; done) | (simp; omega)); have n0 : w1.cell? ⟨w.heap.size, 0, none⟩ = some (.int .i64 e) := (hb.cells _ _ (by first | with_reducible assumption | omega | (simp; done) | (simp; omega))).trans (by first | with_reducible assumption | (simp; done) | (simp; with_reducible assumption) | (rw [cell_alloc_before _ _ _ _ (by omega)]; with_reducible assumption) | (simp [go_sem, *]; done)); have n1 : w1.cell? ⟨w.heap.size, 1, none⟩ = some (.int .i64 f) := (hb.cells _ _ (by first | with_reducible assumption | omega | (simp; done) | (simp; omega))).trans (by first | with_reducible assumption | (simp; done) | (simp; with_reducible assumption) | (rw [cell_alloc_before _ _ _ _ (by omega)]; with_reducible assumption) | (simp [go_sem, *]; done)); have n2 : w1.cell? ⟨w.heap.size + 1, 0, none⟩ = some (.int .i64 P) := (hb.cells _ _ (by first | with_reducible assumption | omega | (simp; done) | (simp; omega))).trans (by first | with_reducible assumption | (simp; done) | (simp; with_reducible assumption) | (rw [cell_alloc_before _ _ _ _ (by omega)]; with_reducible assumption) | (simp [go_sem, *]; done)); have n3 : w1.cell? ⟨w.heap.size + 1, 1, none⟩ = some (.slice (some ⟨bb, 0, none⟩) n n) := (hb.cells _ _ (by first | with_reducible assumption | omega | (simp; done) | (simp; omega))).trans (by first | with_reducible assumption | (simp; done) | (simp; with_reducible assumption) | (rw [cell_alloc_before _ _ _ _ (by omega)]; with_reducible assumption) | (simp [go_sem, *]; done)); (first | (have nx := Ext.trans hx hb; clear hx) | (have nx := Ext.trans (hx.alloc _) hb; clear hx) | (have nx := Ext.trans hx.drew hb; clear hx) | have nx := hb); clear hb; try clear hs; try clear g0; try clear g1; try clear g2; try clear g3; have hx := nx; clear nx; have hs := ns; clear ns; have g0 := n0; clear n0; have g1 := n1; clear n1; have g2 := n2; clear n2; have g3 := n3; clear n3) | (go_at_call 75; refine (BA.out _ (row_ext h (by repeat (first | exact Ext.refl _ | with_reducible assumption | apply Ext.alloc | apply Ext.drew | apply Ext.drewN | (refine Ext.setRow ?_ (by first | (simp; done) | (simp; omega) | omega) _) | (refine Ext.setCell ?_ (by first | (simp; done) | (simp; omega) | omega) _) | (refine Ext.trans ?_ (by with_reducible assumption)))))).mono ?_; rintro rv w1 ⟨rfl, hb⟩; have ns : w.heap.size + 1 < w1.heap.size := hb.lt (by first | with_reducible assumption | omega | (simp; done) | (simp; omega)); have n0 : w1.cell? ⟨w.heap.size, 0, none⟩ = some (.int .i64 e) := (hb.cells _ _ (by first | with_reducible assumption | omega | (simp; done) | (simp; omega))).trans (by first | with_reducible assumption | (simp; done) | (simp; with_reducible assumption) | (rw [cell_alloc_before _ _ _ _ (by omega)]; with_reducible assumption) | (simp [go_sem, *]; done)); have n1 : w1.cell? ⟨w.heap.size, 1, none⟩ = some (.int .i64 f) := (hb.cells _ _ (by first | with_reducible assumption | omega | (simp; done) | (simp; omega))).trans (by first | with_reducible assumption | (simp; done) | (simp; with_reducible assumption) | (rw [cell_alloc_before _ _ _ _ (by omega)]; with_reducible assumption) | (simp [go_sem, *]; done)); have n2 : w1.cell? ⟨w.heap.size + 1, 0, none⟩ = some (.int .i64 P) := (hb.cells _ _ (by first | with_reducible assumption | omega | (simp; done) | (simp; omega))).trans (by first | with_reducible assumption | (simp; done) | (simp; with_reducible assumption) | (rw [cell_alloc_before _ _ _ _ (by omega)]; with_reducible assumption) | (simp [go_sem, *]; done)); have n3 : w1.cell? ⟨w.heap.size + 1, 1, none⟩ = some (.slice (some ⟨bb, 0, none⟩) n n) := (hb.cells _ _ (by first | with_reducible assumption | omega | (simp; done) | (simp; omega))).trans (by first | with_reducible assumption | (simp; done) | (simp; with_reducible assumption) | (rw [cell_alloc_before _ _ _ _ (by omega)]; with_reducible assumption) | (simp [go_sem, *]; done)); (first | (have nx := Ext.trans hx hb; clear hx) | (have nx := Ext.trans (hx.alloc _) hb; clear hx) | (have nx := Ext.trans hx.drew hb; clear hx) | have nx := hb); clear hb; try clear hs; try clear g0; try clear g1; try clear g2; try clear g3; have hx := nx; clear nx; have hs := ns; clear ns; have g0 := n0; clear n0; have g1 := n1; clear n1; have g2 := n2; clear n2; have g3 := n3; clear n3))
  try (go_region_held3 (fun w' => w'.cell? ⟨w.heap.size, 0, none⟩ = some (.int .i64 e) ∧ w'.cell? ⟨w.heap.size, 1, none⟩ = some (.int .i64 f) ∧ w'.cell? ⟨w.heap.size + 1, 0, none⟩ = some (.int .i64 P) ∧ w'.cell? ⟨w.heap.size + 1, 1, none⟩ = some (.slice (some ⟨bb, 0, none⟩) n n) ∧ w.heap.size + 1 < w'.heap.size) ((refine ⟨?_, ?_, ?_, ?_, ?_⟩ <;> first | with_reducible assumption | ((rw [cell_setRow_far _ _ _ _ _ (by omega)]); with_reducible assumption) | ((rw [setRow_size]); with_reducible assumption) | ((repeat rw [World.cell?_setCell_far _ _ _ _ (by simp)]); with_reducible assumption) | (simp; done) | (simp [World.setCell]; first | done | omega) | (simp [go_sem, World.cell?_alloc_past, World.cell?_setCell_far, *]; done))) ((first | (go_at_call 76; refine (GD.out _).mono ?_; rintro rv w1 ⟨rfl, hb⟩; have ns : w.heap.size + 1 < w1.heap.size := hb.lt (by first | with_reducible assumption | omega | (simp; done) | (simp; omega)); have n0 : w1.cell? ⟨w.heap.size, 0, none⟩ = some (.int .i64 e) := (hb.cells _ _ (by first | with_reducible assumption | omega | (simp; done) | (simp; omega))).trans (by first | with_reducible assumption | (simp; done) | (simp; with_reducible assumption) | (rw [cell_alloc_before _ _ _ _ (by omega)]; with_reducible assumption) | (simp [go_sem, *]; done)); have n1 : w1.cell? ⟨w.heap.size, 1, none⟩ = some (.int .i64 f) := (hb.cells _ _ (by first | with_reducible assumption | omega | (simp; done) | (simp; omega))).trans (by first | with_reducible assumption | (simp; done) | (simp; with_reducible assumption) | (rw [cell_alloc_before _ _ _ _ (by omega)]; with_reducible assumption) | (simp [go_sem, *]; done)); have n2 : w1.cell? ⟨w.heap.size + 1, 0, none⟩ = some (.int .i64 P) := (hb.cells _ _ (by first | with_reducible assumption | omega | (simp; done) | (simp; omega))).trans (by first | with_reducible assumption | (simp; done) | (simp; with_reducible assumption) | (rw [cell_alloc_before _ _ _ _ (by omega)]; with_reducible assumption) | (simp [go_sem, *]; done)); have n3 : w1.cell? ⟨w.heap.size + 1, 1, none⟩ = some (.slice (some ⟨bb, 0, none⟩) n n) := (hb.cells _ _ (by first | with_reducible assumption | omega | (simp; done) | (simp; omega))).trans (by first | with_reducible assumption | (simp; done) | (simp; with_reducible assumption) | (rw [cell_alloc_before _ _ _ _ (by omega)]; with_reducible assumption) | (simp [go_sem, *]; done)); (first | (have nx := Ext.trans hx hb; clear hx) | (have nx := Ext.trans (hx.alloc _) hb; clear hx) | (have nx := Ext.trans hx.drew hb; clear hx) | have nx := hb); clear hb; try clear hs; try clear g0; try clear g1; try clear g2; try clear g3; have hx := nx; clear nx; have hs := ns; clear ns; have g0 := n0; clear n0; have g1 := n1; clear n1; have g2 := n2; clear n2; have g3 := n3; clear n3) | (go_at_call 75; refine (BA.out _ (row_ext h (by repeat (first | exact Ext.refl _ | with_reducible assumption | apply Ext.alloc | apply Ext.drew | apply Ext.drewN | (refine Ext.setRow ?_ (by first | (simp; done) | (simp; omega) | omega) _) | (refine Ext.setCell ?_ (by first | (simp; done) | (simp; omega) | omega) _) | (refine Ext.trans ?_ (by with_reducible assumption)))))).mono ?_; rintro rv w1 ⟨rfl, hb⟩; have ns : w.heap.size + 1 < w1.heap.size := hb.lt (by first | with_reducible assumption | omega | (simp; done) | (simp; omega)); have n0 : w1.cell? ⟨w.heap.size, 0, none⟩ = some (.int .i64 e) := (hb.cells _ _ (by first | with_reducible assumption | omega | (simp; done) | (simp; omega))).trans (by first | with_reducible assumption | (simp; done) | (simp; with_reducible assumption) | (rw [cell_alloc_before _ _ _ _ (by omega)]; with_reducible assumption) | (simp [go_sem, *]; done)); have n1 : w1.cell? ⟨w.heap.size, 1, none⟩ = some (.int .i64 f) := (hb.cells _ _ (by first | with_reducible assumption | omega | (simp; done) | (simp; omega))).trans (by first | with_reducible assumption | (simp; done) | (simp; with_reducible assumption) | (rw [cell_alloc_before _ _ _ _ (by omega)]; with_reducible assumption) | (simp [go_sem, *]; done)); have n2 : w1.cell? ⟨w.heap.size + 1, 0, none⟩ = some (.int .i64 P) := (hb.cells _ _ (by first | with_reducible assumption | omega | (simp; done) | (simp; omega))).trans (by first | with_reducible assumption | (simp; done) | (simp; with_reducible assumption) | (rw [cell_alloc_before _ _ _ _ (by omega)]; with_reducible assumption) | (simp [go_sem, *]; done)); have n3 : w1.cell? ⟨w.heap.size + 1, 1, none⟩ = some (.slice (some ⟨bb, 0, none⟩) n n) := (hb.cells _ _ (by first | with_reducible assumption | omega | (simp; done) | (simp; omega))).trans (by first | with_reducible assumption | (simp; done) | (simp; with_reducible assumption) | (rw [cell_alloc_before _ _ _ _ (by omega)]; with_reducible assumption) | (simp [go_sem, *]; done)); (first | (have nx := Ext.trans hx hb; clear hx) | (have nx := Ext.trans (hx.alloc _) hb; clear hx) | (have nx := Ext.trans hx.drew hb; clear hx) | have nx := hb); clear hb; try clear hs; try clear g0; try clear g1; try clear g2; try clear g3; have hx := nx; clear nx; have hs := ns; clear ns; have g0 := n0; clear n0; have g1 := n1; clear n1; have g2 := n2; clear n2; have g3 := n3; clear n3))))
  all_goals (try go_wp2_with fail)
  all_goals go_ret2
  all_goals exact ⟨rfl, (by repeat (first | exact Ext.refl _ | with_reducible assumption | apply Ext.alloc | apply Ext.drew | apply Ext.drewN | (refine Ext.setRow ?_ (by first | (simp; done) | (simp; omega) | omega) _) | (refine Ext.setCell ?_ (by first | (simp; done) | (simp; omega) | omega) _) | (refine Ext.trans ?_ (by with_reducible assumption))))⟩
end Go.Proofs.Ytdagfocpbnamfaa

namespace Go.Proofs.Ytdagfocpbnamfaa
open Go Go.RowKit
set_option linter.unusedSimpArgs false
set_option linter.unusedVariables false
set_option maxRecDepth 100000

set_option maxHeartbeats 6400000 in
theorem wIsBlock (e f P : Int) (p : Option Addr) (n cap : Nat) (V : Nat → Int) (w : World) (hold : HoldsL w p n V) (hmx : n ≤ maxLen) : Calls Try.prog 6 #[fmt e f, blk P p n cap] w fun rv w' => rv = .returned (.bool true) ∧ Ext w w' := by
  by_cases hn : n ≤ 1048576
  · have hn1 : ¬ (1048576 - (n : Int) < 0) := by omega
    have SA := Lib.hid (fun bb w h => sIsBlock_row e f P V bb n w h)
    have IA := Lib.hid (fun bb w h => iIsBlock_row e f P V bb n w h)
    generalize blB e f P V n = B at *
    generalize goodB e f = G at *
    cases B <;> cases G
    all_goals
      go_enter Try.func6, Try.ntmps6
      go_wp2_with fail
      go_at_call 25
      refine (szBlock_ok _ _ _ _ hn _).mono ?_
      rintro rv w1 ⟨rfl, hb⟩
      have hb0 : Ext w w1 := Ext.trans (by repeat (first | exact Ext.refl _ | with_reducible assumption | apply Ext.alloc | apply Ext.drew | apply Ext.drewN | (refine Ext.setRow ?_ (by first | (simp; done) | (simp; omega) | omega) _) | (refine Ext.setCell ?_ (by first | (simp; done) | (simp; omega) | omega) _) | (refine Ext.trans ?_ (by with_reducible assumption)))) hb
      have z1 : w.heap.size ≤ w1.heap.size := hb0.size
      have x1 : Ext w w1 := hb0
      have u0_1 : w.heap.size < w1.heap.size := hb.lt (by first | (simp; done) | (simp; omega))
      have c0_0_1 : w1.cell? ⟨w.heap.size, 0, none⟩ = some (.int .i64 e) := (hb.cells _ _ (by first | (simp; done) | (simp; omega))).trans (by first | (simp; done) | (simp [go_sem]; done) | (simp [go_sem, *]; done))
      have c0_1_1 : w1.cell? ⟨w.heap.size, 1, none⟩ = some (.int .i64 f) := (hb.cells _ _ (by first | (simp; done) | (simp; omega))).trans (by first | (simp; done) | (simp [go_sem]; done) | (simp [go_sem, *]; done))
      have u1_1 : w.heap.size + 1 < w1.heap.size := hb.lt (by first | (simp; done) | (simp; omega))
      have c1_0_1 : w1.cell? ⟨w.heap.size + 1, 0, none⟩ = some (.int .i64 P) := (hb.cells _ _ (by first | (simp; done) | (simp; omega))).trans (by first | (simp; done) | (simp [go_sem]; done) | (simp [go_sem, *]; done))
      have c1_1_1 : w1.cell? ⟨w.heap.size + 1, 1, none⟩ = some (.slice p n cap) := (hb.cells _ _ (by first | (simp; done) | (simp; omega))).trans (by first | (simp; done) | (simp [go_sem]; done) | (simp [go_sem, *]; done))
      clear hb hb0
      go_wp2_with fail
      go_region_held3 (fun w' => w'.cell? ⟨w.heap.size, 0, none⟩ = some (.int .i64 e) ∧ w'.cell? ⟨w.heap.size, 1, none⟩ = some (.int .i64 f) ∧ w'.cell? ⟨w.heap.size + 1, 0, none⟩ = some (.int .i64 P) ∧ w'.cell? ⟨w.heap.size + 1, 1, none⟩ = some (.slice p n cap) ∧ w.heap.size + 1 < w'.heap.size) ((refine ⟨?_, ?_, ?_, ?_, ?_⟩ <;> first | with_reducible assumption | ((repeat first | rw [cell_set_far _ _ _ _ _ _ (by omega)] | rw [cell_alloc_before _ _ _ _ (by omega)] | rw [cell_alloc_drew _ _ _ _ (by omega)] | rw [cell_drew]); with_reducible assumption) | ((rw [cell_setRow_far _ _ _ _ _ (by omega)]); with_reducible assumption) | ((rw [setRow_size]); with_reducible assumption) | (simp; done) | (simp [World.setCell]; first | done | omega) | (simp [go_sem, World.cell?_alloc_past, World.cell?_setCell_far, *]; done))) ((first | (go_at_call 15; refine (toFormat_any e f _).mono ?_; rintro rv w2 ⟨rfl, hb⟩; have hb0 : Ext w1 w2 := Ext.trans (by repeat (first | exact Ext.refl _ | with_reducible assumption | apply Ext.alloc | apply Ext.drew | apply Ext.drewN | (refine Ext.setRow ?_ (by first | (simp; done) | (simp; omega) | omega) _) | (refine Ext.setCell ?_ (by first | (simp; done) | (simp; omega) | omega) _) | (refine Ext.trans ?_ (by with_reducible assumption)))) hb; have z2 : w1.heap.size ≤ w2.heap.size := hb0.size; have x2 : Ext w w2 := Ext.trans x1 hb0; have u0_2 : w.heap.size < w2.heap.size := hb0.lt u0_1; have c0_0_2 : w2.cell? ⟨w.heap.size, 0, none⟩ = some (.int .i64 e) := (hb0.cells _ _ u0_1).trans c0_0_1; have c0_1_2 : w2.cell? ⟨w.heap.size, 1, none⟩ = some (.int .i64 f) := (hb0.cells _ _ u0_1).trans c0_1_1; have u1_2 : w.heap.size + 1 < w2.heap.size := hb0.lt u1_1; have c1_0_2 : w2.cell? ⟨w.heap.size + 1, 0, none⟩ = some (.int .i64 P) := (hb0.cells _ _ u1_1).trans c1_0_1; have c1_1_2 : w2.cell? ⟨w.heap.size + 1, 1, none⟩ = some (.slice p n cap) := (hb0.cells _ _ u1_1).trans c1_1_1; clear x1 u0_1 u1_1 c0_0_1 c0_1_1 c1_0_1 c1_1_1; clear hb hb0) | (go_at_call 27; refine (toBlock_any P p n cap V hn _ (hold.ext (by repeat (first | exact Ext.refl _ | with_reducible assumption | apply Ext.alloc | apply Ext.drew | apply Ext.drewN | (refine Ext.setRow ?_ (by first | (simp; done) | (simp; omega) | omega) _) | (refine Ext.setCell ?_ (by first | (simp; done) | (simp; omega) | omega) _) | (refine Ext.trans ?_ (by with_reducible assumption)))))).mono ?_; rintro rv w3 ⟨t3, rfl, _, r3, hb⟩; have hb0 : Ext w2 w3 := Ext.trans (by repeat (first | exact Ext.refl _ | with_reducible assumption | apply Ext.alloc | apply Ext.drew | apply Ext.drewN | (refine Ext.setRow ?_ (by first | (simp; done) | (simp; omega) | omega) _) | (refine Ext.setCell ?_ (by first | (simp; done) | (simp; omega) | omega) _) | (refine Ext.trans ?_ (by with_reducible assumption)))) hb; have z3 : w2.heap.size ≤ w3.heap.size := hb0.size; have x3 : Ext w w3 := Ext.trans x2 hb0; have u0_3 : w.heap.size < w3.heap.size := hb0.lt u0_2; have c0_0_3 : w3.cell? ⟨w.heap.size, 0, none⟩ = some (.int .i64 e) := (hb0.cells _ _ u0_2).trans c0_0_2; have c0_1_3 : w3.cell? ⟨w.heap.size, 1, none⟩ = some (.int .i64 f) := (hb0.cells _ _ u0_2).trans c0_1_2; have u1_3 : w.heap.size + 1 < w3.heap.size := hb0.lt u1_2; have c1_0_3 : w3.cell? ⟨w.heap.size + 1, 0, none⟩ = some (.int .i64 P) := (hb0.cells _ _ u1_2).trans c1_0_2; have c1_1_3 : w3.cell? ⟨w.heap.size + 1, 1, none⟩ = some (.slice p n cap) := (hb0.cells _ _ u1_2).trans c1_1_2; clear x2 u0_2 u1_2 c0_0_2 c0_1_2 c1_0_2 c1_1_2; clear hb hb0) | (go_at_call 26; refine (SA.out _ _ (row_ext r3 (by repeat (first | exact Ext.refl _ | with_reducible assumption | apply Ext.alloc | apply Ext.drew | apply Ext.drewN | (refine Ext.setRow ?_ (by first | (simp; done) | (simp; omega) | omega) _) | (refine Ext.setCell ?_ (by first | (simp; done) | (simp; omega) | omega) _) | (refine Ext.trans ?_ (by with_reducible assumption)))))).mono ?_; rintro rv w4 ⟨rfl, hb⟩; have hb0 : Ext w3 w4 := Ext.trans (by repeat (first | exact Ext.refl _ | with_reducible assumption | apply Ext.alloc | apply Ext.drew | apply Ext.drewN | (refine Ext.setRow ?_ (by first | (simp; done) | (simp; omega) | omega) _) | (refine Ext.setCell ?_ (by first | (simp; done) | (simp; omega) | omega) _) | (refine Ext.trans ?_ (by with_reducible assumption)))) hb; have z4 : w3.heap.size ≤ w4.heap.size := hb0.size; have x4 : Ext w w4 := Ext.trans x3 hb0; have u0_4 : w.heap.size < w4.heap.size := hb0.lt u0_3; have c0_0_4 : w4.cell? ⟨w.heap.size, 0, none⟩ = some (.int .i64 e) := (hb0.cells _ _ u0_3).trans c0_0_3; have c0_1_4 : w4.cell? ⟨w.heap.size, 1, none⟩ = some (.int .i64 f) := (hb0.cells _ _ u0_3).trans c0_1_3; have u1_4 : w.heap.size + 1 < w4.heap.size := hb0.lt u1_3; have c1_0_4 : w4.cell? ⟨w.heap.size + 1, 0, none⟩ = some (.int .i64 P) := (hb0.cells _ _ u1_3).trans c1_0_3; have c1_1_4 : w4.cell? ⟨w.heap.size + 1, 1, none⟩ = some (.slice p n cap) := (hb0.cells _ _ u1_3).trans c1_1_3; have r4 := row_ext r3 hb0; clear x3 u0_3 u1_3 c0_0_3 c0_1_3 c1_0_3 c1_1_3 r3; clear r4; clear hb hb0)))
      go_wp2_with fail
      go_at_call 27
      refine (toBlock_any P p n cap V hn _ (hold.ext (by repeat (first | exact Ext.refl _ | with_reducible assumption | apply Ext.alloc | apply Ext.drew | apply Ext.drewN | (refine Ext.setRow ?_ (by first | (simp; done) | (simp; omega) | omega) _) | (refine Ext.setCell ?_ (by first | (simp; done) | (simp; omega) | omega) _) | (refine Ext.trans ?_ (by with_reducible assumption)))))).mono ?_
      rintro rv w5 ⟨t5, rfl, _, r5, hb⟩
      have hb0 : Ext w4 w5 := Ext.trans (by repeat (first | exact Ext.refl _ | with_reducible assumption | apply Ext.alloc | apply Ext.drew | apply Ext.drewN | (refine Ext.setRow ?_ (by first | (simp; done) | (simp; omega) | omega) _) | (refine Ext.setCell ?_ (by first | (simp; done) | (simp; omega) | omega) _) | (refine Ext.trans ?_ (by with_reducible assumption)))) hb
      have z5 : w4.heap.size ≤ w5.heap.size := hb0.size
      have x5 : Ext w w5 := Ext.trans x4 hb0
      have u0_5 : w.heap.size < w5.heap.size := hb0.lt u0_4
      have c0_0_5 : w5.cell? ⟨w.heap.size, 0, none⟩ = some (.int .i64 e) := (hb0.cells _ _ u0_4).trans c0_0_4
      have c0_1_5 : w5.cell? ⟨w.heap.size, 1, none⟩ = some (.int .i64 f) := (hb0.cells _ _ u0_4).trans c0_1_4
      have u1_5 : w.heap.size + 1 < w5.heap.size := hb0.lt u1_4
      have c1_0_5 : w5.cell? ⟨w.heap.size + 1, 0, none⟩ = some (.int .i64 P) := (hb0.cells _ _ u1_4).trans c1_0_4
      have c1_1_5 : w5.cell? ⟨w.heap.size + 1, 1, none⟩ = some (.slice p n cap) := (hb0.cells _ _ u1_4).trans c1_1_4
      clear x4 u0_4 u1_4 c0_0_4 c0_1_4 c1_0_4 c1_1_4
      clear hb hb0
      go_wp2_with fail
      go_region_held3 (fun w' => w'.cell? ⟨w.heap.size, 0, none⟩ = some (.int .i64 e) ∧ w'.cell? ⟨w.heap.size, 1, none⟩ = some (.int .i64 f) ∧ w'.cell? ⟨w.heap.size + 1, 0, none⟩ = some (.int .i64 P) ∧ w'.cell? ⟨w.heap.size + 1, 1, none⟩ = some (.slice p n cap) ∧ w'.cell? ⟨w5.heap.size, 0, none⟩ = some (.int .i64 P) ∧ w'.cell? ⟨w5.heap.size, 1, none⟩ = some (.slice (some ⟨t5, 0, none⟩) n n) ∧ w5.heap.size < w'.heap.size) ((refine ⟨?_, ?_, ?_, ?_, ?_, ?_, ?_⟩ <;> first | with_reducible assumption | ((repeat first | rw [cell_set_far _ _ _ _ _ _ (by omega)] | rw [cell_alloc_before _ _ _ _ (by omega)] | rw [cell_alloc_drew _ _ _ _ (by omega)] | rw [cell_drew]); with_reducible assumption) | ((rw [cell_setRow_far _ _ _ _ _ (by omega)]); with_reducible assumption) | ((rw [setRow_size]); with_reducible assumption) | (simp; done) | (simp [World.setCell]; first | done | omega) | (simp [go_sem, World.cell?_alloc_past, World.cell?_setCell_far, *]; done))) ((first | (go_at_call 15; refine (toFormat_any e f _).mono ?_; rintro rv w6 ⟨rfl, hb⟩; have hb0 : Ext w5 w6 := Ext.trans (by repeat (first | exact Ext.refl _ | with_reducible assumption | apply Ext.alloc | apply Ext.drew | apply Ext.drewN | (refine Ext.setRow ?_ (by first | (simp; done) | (simp; omega) | omega) _) | (refine Ext.setCell ?_ (by first | (simp; done) | (simp; omega) | omega) _) | (refine Ext.trans ?_ (by with_reducible assumption)))) hb; have z6 : w5.heap.size ≤ w6.heap.size := hb0.size; have x6 : Ext w w6 := Ext.trans x5 hb0; have u0_6 : w.heap.size < w6.heap.size := hb0.lt u0_5; have c0_0_6 : w6.cell? ⟨w.heap.size, 0, none⟩ = some (.int .i64 e) := (hb0.cells _ _ u0_5).trans c0_0_5; have c0_1_6 : w6.cell? ⟨w.heap.size, 1, none⟩ = some (.int .i64 f) := (hb0.cells _ _ u0_5).trans c0_1_5; have u1_6 : w.heap.size + 1 < w6.heap.size := hb0.lt u1_5; have c1_0_6 : w6.cell? ⟨w.heap.size + 1, 0, none⟩ = some (.int .i64 P) := (hb0.cells _ _ u1_5).trans c1_0_5; have c1_1_6 : w6.cell? ⟨w.heap.size + 1, 1, none⟩ = some (.slice p n cap) := (hb0.cells _ _ u1_5).trans c1_1_5; have r6 := row_ext r5 hb0; clear x5 u0_5 u1_5 c0_0_5 c0_1_5 c1_0_5 c1_1_5 r5; have u2_6 : w5.heap.size < w6.heap.size := hb.lt (by first | (simp; done) | (simp; omega)); have c2_0_6 : w6.cell? ⟨w5.heap.size, 0, none⟩ = some (.int .i64 P) := (hb.cells _ _ (by first | (simp; done) | (simp; omega))).trans (by first | (simp; done) | (simp [go_sem]; done) | (simp [go_sem, *]; done)); have c2_1_6 : w6.cell? ⟨w5.heap.size, 1, none⟩ = some (.slice (some ⟨t5, 0, none⟩) n n) := (hb.cells _ _ (by first | (simp; done) | (simp; omega))).trans (by first | (simp; done) | (simp [go_sem]; done) | (simp [go_sem, *]; done)); clear hb hb0) | (go_at_call 28; refine (IA.out _ _ (row_ext r6 (by repeat (first | exact Ext.refl _ | with_reducible assumption | apply Ext.alloc | apply Ext.drew | apply Ext.drewN | (refine Ext.setRow ?_ (by first | (simp; done) | (simp; omega) | omega) _) | (refine Ext.setCell ?_ (by first | (simp; done) | (simp; omega) | omega) _) | (refine Ext.trans ?_ (by with_reducible assumption)))))).mono ?_; rintro rv w7 ⟨rfl, hb⟩; have hb0 : Ext w6 w7 := Ext.trans (by repeat (first | exact Ext.refl _ | with_reducible assumption | apply Ext.alloc | apply Ext.drew | apply Ext.drewN | (refine Ext.setRow ?_ (by first | (simp; done) | (simp; omega) | omega) _) | (refine Ext.setCell ?_ (by first | (simp; done) | (simp; omega) | omega) _) | (refine Ext.trans ?_ (by with_reducible assumption)))) hb; have z7 : w6.heap.size ≤ w7.heap.size := hb0.size; have x7 : Ext w w7 := Ext.trans x6 hb0; have u0_7 : w.heap.size < w7.heap.size := hb0.lt u0_6; have c0_0_7 : w7.cell? ⟨w.heap.size, 0, none⟩ = some (.int .i64 e) := (hb0.cells _ _ u0_6).trans c0_0_6; have c0_1_7 : w7.cell? ⟨w.heap.size, 1, none⟩ = some (.int .i64 f) := (hb0.cells _ _ u0_6).trans c0_1_6; have u1_7 : w.heap.size + 1 < w7.heap.size := hb0.lt u1_6; have c1_0_7 : w7.cell? ⟨w.heap.size + 1, 0, none⟩ = some (.int .i64 P) := (hb0.cells _ _ u1_6).trans c1_0_6; have c1_1_7 : w7.cell? ⟨w.heap.size + 1, 1, none⟩ = some (.slice p n cap) := (hb0.cells _ _ u1_6).trans c1_1_6; have u2_7 : w5.heap.size < w7.heap.size := hb0.lt u2_6; have c2_0_7 : w7.cell? ⟨w5.heap.size, 0, none⟩ = some (.int .i64 P) := (hb0.cells _ _ u2_6).trans c2_0_6; have c2_1_7 : w7.cell? ⟨w5.heap.size, 1, none⟩ = some (.slice (some ⟨t5, 0, none⟩) n n) := (hb0.cells _ _ u2_6).trans c2_1_6; have r7 := row_ext r6 hb0; clear x6 u0_6 u1_6 u2_6 c0_0_6 c0_1_6 c1_0_6 c1_1_6 c2_0_6 c2_1_6 r6; have X7 := row_own r7; clear r7; clear hb hb0)))
      go_wp2_with fail
      go_region_held3 (fun w' => w'.cell? ⟨w.heap.size, 0, none⟩ = some (.int .i64 e) ∧ w'.cell? ⟨w.heap.size, 1, none⟩ = some (.int .i64 f) ∧ w'.cell? ⟨w.heap.size + 1, 0, none⟩ = some (.int .i64 P) ∧ w'.cell? ⟨w.heap.size + 1, 1, none⟩ = some (.slice p n cap) ∧ w'.cell? ⟨w5.heap.size, 0, none⟩ = some (.int .i64 P) ∧ w'.cell? ⟨w5.heap.size, 1, none⟩ = some (.slice (some ⟨t5, 0, none⟩) n n) ∧ w5.heap.size < w'.heap.size) ((refine ⟨?_, ?_, ?_, ?_, ?_, ?_, ?_⟩ <;> first | with_reducible assumption | ((repeat first | rw [cell_set_far _ _ _ _ _ _ (by omega)] | rw [cell_alloc_before _ _ _ _ (by omega)] | rw [cell_alloc_drew _ _ _ _ (by omega)] | rw [cell_drew]); with_reducible assumption) | ((rw [cell_setRow_far _ _ _ _ _ (by omega)]); with_reducible assumption) | ((rw [setRow_size]); with_reducible assumption) | (simp; done) | (simp [World.setCell]; first | done | omega) | (simp [go_sem, World.cell?_alloc_past, World.cell?_setCell_far, *]; done))) ((first | (go_at_call 27; refine (toBlock_any P p n cap V hn _ (hold.ext (by repeat (first | exact Ext.refl _ | with_reducible assumption | apply Ext.alloc | apply Ext.drew | apply Ext.drewN | (refine Ext.setRow ?_ (by first | (simp; done) | (simp; omega) | omega) _) | (refine Ext.setCell ?_ (by first | (simp; done) | (simp; omega) | omega) _) | (refine Ext.trans ?_ (by with_reducible assumption)))))).mono ?_; rintro rv w8 ⟨t8, rfl, _, r8, hb⟩; have hb0 : Ext w7 w8 := Ext.trans (by repeat (first | exact Ext.refl _ | with_reducible assumption | apply Ext.alloc | apply Ext.drew | apply Ext.drewN | (refine Ext.setRow ?_ (by first | (simp; done) | (simp; omega) | omega) _) | (refine Ext.setCell ?_ (by first | (simp; done) | (simp; omega) | omega) _) | (refine Ext.trans ?_ (by with_reducible assumption)))) hb; have z8 : w7.heap.size ≤ w8.heap.size := hb0.size; have x8 : Ext w w8 := Ext.trans x7 hb0; have u0_8 : w.heap.size < w8.heap.size := hb0.lt u0_7; have c0_0_8 : w8.cell? ⟨w.heap.size, 0, none⟩ = some (.int .i64 e) := (hb0.cells _ _ u0_7).trans c0_0_7; have c0_1_8 : w8.cell? ⟨w.heap.size, 1, none⟩ = some (.int .i64 f) := (hb0.cells _ _ u0_7).trans c0_1_7; have u1_8 : w.heap.size + 1 < w8.heap.size := hb0.lt u1_7; have c1_0_8 : w8.cell? ⟨w.heap.size + 1, 0, none⟩ = some (.int .i64 P) := (hb0.cells _ _ u1_7).trans c1_0_7; have c1_1_8 : w8.cell? ⟨w.heap.size + 1, 1, none⟩ = some (.slice p n cap) := (hb0.cells _ _ u1_7).trans c1_1_7; have u2_8 : w5.heap.size < w8.heap.size := hb0.lt u2_7; have c2_0_8 : w8.cell? ⟨w5.heap.size, 0, none⟩ = some (.int .i64 P) := (hb0.cells _ _ u2_7).trans c2_0_7; have c2_1_8 : w8.cell? ⟨w5.heap.size, 1, none⟩ = some (.slice (some ⟨t5, 0, none⟩) n n) := (hb0.cells _ _ u2_7).trans c2_1_7; have X8 := X7.ext hb0; clear x7 u0_7 u1_7 u2_7 c0_0_7 c0_1_7 c1_0_7 c1_1_7 c2_0_7 c2_1_7 X7; clear hb hb0) | (go_at_call 29; refine (eqBlock_own P _ _ n _ _ V hn _ (X8.ext (by repeat (first | exact Ext.refl _ | with_reducible assumption | apply Ext.alloc | apply Ext.drew | apply Ext.drewN | (refine Ext.setRow ?_ (by first | (simp; done) | (simp; omega) | omega) _) | (refine Ext.setCell ?_ (by first | (simp; done) | (simp; omega) | omega) _) | (refine Ext.trans ?_ (by with_reducible assumption))))) ((row_own r8).ext (by repeat (first | exact Ext.refl _ | with_reducible assumption | apply Ext.alloc | apply Ext.drew | apply Ext.drewN | (refine Ext.setRow ?_ (by first | (simp; done) | (simp; omega) | omega) _) | (refine Ext.setCell ?_ (by first | (simp; done) | (simp; omega) | omega) _) | (refine Ext.trans ?_ (by with_reducible assumption)))))).mono ?_; rintro rv w9 ⟨rfl, hb⟩; have hb0 : Ext w8 w9 := Ext.trans (by repeat (first | exact Ext.refl _ | with_reducible assumption | apply Ext.alloc | apply Ext.drew | apply Ext.drewN | (refine Ext.setRow ?_ (by first | (simp; done) | (simp; omega) | omega) _) | (refine Ext.setCell ?_ (by first | (simp; done) | (simp; omega) | omega) _) | (refine Ext.trans ?_ (by with_reducible assumption)))) hb; have z9 : w8.heap.size ≤ w9.heap.size := hb0.size; have x9 : Ext w w9 := Ext.trans x8 hb0; have u0_9 : w.heap.size < w9.heap.size := hb0.lt u0_8; have c0_0_9 : w9.cell? ⟨w.heap.size, 0, none⟩ = some (.int .i64 e) := (hb0.cells _ _ u0_8).trans c0_0_8; have c0_1_9 : w9.cell? ⟨w.heap.size, 1, none⟩ = some (.int .i64 f) := (hb0.cells _ _ u0_8).trans c0_1_8; have u1_9 : w.heap.size + 1 < w9.heap.size := hb0.lt u1_8; have c1_0_9 : w9.cell? ⟨w.heap.size + 1, 0, none⟩ = some (.int .i64 P) := (hb0.cells _ _ u1_8).trans c1_0_8; have c1_1_9 : w9.cell? ⟨w.heap.size + 1, 1, none⟩ = some (.slice p n cap) := (hb0.cells _ _ u1_8).trans c1_1_8; have u2_9 : w5.heap.size < w9.heap.size := hb0.lt u2_8; have c2_0_9 : w9.cell? ⟨w5.heap.size, 0, none⟩ = some (.int .i64 P) := (hb0.cells _ _ u2_8).trans c2_0_8; have c2_1_9 : w9.cell? ⟨w5.heap.size, 1, none⟩ = some (.slice (some ⟨t5, 0, none⟩) n n) := (hb0.cells _ _ u2_8).trans c2_1_8; have X9 := X8.ext hb0; have r9 := row_ext r8 hb0; clear x8 u0_8 u1_8 u2_8 c0_0_8 c0_1_8 c1_0_8 c1_1_8 c2_0_8 c2_1_8 X8 r8; clear hb hb0)))
      go_wp2_with fail
      go_ret
      exact ⟨rfl, x9⟩

  · go_enter Try.func6, Try.ntmps6
    go_wp2_with (go_at_call 25; refine (szBlock_big _ _ _ _ hn (by have h := hmx; unfold maxLen at h; omega) _).mono ?_; rintro rv w1 ⟨rfl, hb⟩; have ns : w.heap.size < w1.heap.size := hb.lt (by first | with_reducible assumption | omega | (simp; done) | (simp; omega)); (first | (have nx := Ext.trans hx hb; clear hx) | (have nx := Ext.trans (hx.alloc _) hb; clear hx) | (have nx := Ext.trans hx.drew hb; clear hx) | have nx := hb); clear hb; try clear hs; have hx := nx; clear nx; have hs := ns; clear ns)
    go_ret
    exact ⟨rfl, (by repeat (first | exact Ext.refl _ | with_reducible assumption | apply Ext.alloc | apply Ext.drew | apply Ext.drewN | (refine Ext.setRow ?_ (by first | (simp; done) | (simp; omega) | omega) _) | (refine Ext.setCell ?_ (by first | (simp; done) | (simp; omega) | omega) _) | (refine Ext.trans ?_ (by with_reducible assumption))))⟩
end Go.Proofs.Ytdagfocpbnamfaa

