/-
  Contracts of the functions that the laws reach, and the plain facts that they rest on, each under the conditions that its line names; part 25.
-/
import Derived.Test.YtdagfocpbnamfaaKbw1
import Derived.Test.YtdagfocpbnamfaaKbw2
import Derived.Test.YtdagfocpbnamfaaKbw3
import Derived.Test.YtdagfocpbnamfaaKbw4
import Derived.Test.YtdagfocpbnamfaaKbw5
import Derived.Test.YtdagfocpbnamfaaKbw6
import Derived.Test.YtdagfocpbnamfaaKbw7
import Derived.Test.YtdagfocpbnamfaaKbw8
import Derived.Test.YtdagfocpbnamfaaKbw9
import Derived.Test.YtdagfocpbnamfaaKbw10
import Derived.Test.YtdagfocpbnamfaaKbw11
import Derived.Test.YtdagfocpbnamfaaKbw12
import Derived.Test.YtdagfocpbnamfaaKbw13
import Derived.Test.YtdagfocpbnamfaaKbw14
import Derived.Test.YtdagfocpbnamfaaKbw15
import Derived.Test.YtdagfocpbnamfaaKbw16
import Derived.Test.YtdagfocpbnamfaaKbw17
import Derived.Test.YtdagfocpbnamfaaKbw18
import Derived.Test.YtdagfocpbnamfaaKbw19
import Derived.Test.YtdagfocpbnamfaaKbw20
import Derived.Test.YtdagfocpbnamfaaKbw21
import Derived.Test.YtdagfocpbnamfaaKbw22
import Derived.Test.YtdagfocpbnamfaaKbw23
import Derived.Test.YtdagfocpbnamfaaKbw24
import Derived.Test.YtdagfocpbnamfaaRows
import Derived.WalkKit
import Derived.LoopTactic
import Derived.Deep.OwnRows
import Derived.LoopN
import Derived.Deep.LoopGhost
import Derived.Laws.Bits64b
import Derived.WalkSpells
import Derived.WalkLawsBesides
import Derived.StillTactics
import Derived.Laws.Pointers
import Derived.Deep.RegionHeld3
import Derived.Deep.QuietTactic
import Derived.BigQuiet
import Derived.Outline
import Derived.Lib.Hide
import Derived.RowKit3
import Derived.Carry
import Derived.IntWalk
import Derived.Laws.OwnMore
import Derived.OwnWalk
import Derived.Deep.AppendLies
namespace Go.Proofs.Ytdagfocpbnamfaa
open Go Go.RowKit
set_option linter.unusedSimpArgs false
set_option linter.unusedVariables false
set_option maxRecDepth 100000

theorem row_ext {w w' : World} {b n : Nat} {t : TypeId} {g : Nat → Value} (h : w.rowIs b t n g) (hx : Ext w w') : w'.rowIs b t n g := h.of_block (hx.block _ h.lt)
end Go.Proofs.Ytdagfocpbnamfaa

namespace Go.Proofs.Ytdagfocpbnamfaa
open Go Go.RowKit
set_option linter.unusedSimpArgs false
set_option linter.unusedVariables false
set_option maxRecDepth 100000

/-- The first k numbers lie between two others. -/
def allR (lo hi : Int) (V : Nat → Int) : Nat → Bool
  | 0 => true
  | k + 1 => allR lo hi V k && decide (lo ≤ V k ∧ V k ≤ hi)

theorem allR_mono {lo hi : Int} {V : Nat → Int} {k n : Nat} (h : k ≤ n) (hb : allR lo hi V k = false) : allR lo hi V n = false := by
  induction n with
  | zero =>
    have : k = 0 := by omega
    subst this; exact hb
  | succ n ih =>
    by_cases e1 : k = n + 1
    · subst e1; exact hb
    · unfold allR; rw [ih (by omega)]; rfl

theorem allR_at {lo hi : Int} {V : Nat → Int} {n : Nat} (h : allR lo hi V n = true) (i : Nat) (hi2 : i < n) : lo ≤ V i ∧ V i ≤ hi := by
  induction n with
  | zero => omega
  | succ n ih =>
    unfold allR at h
    rw [Bool.and_eq_true] at h
    by_cases e1 : i = n
    · subst e1; exact of_decide_eq_true h.2
    · exact ih h.1 (by omega)

/-- A raw list. -/
def rawB (V : Nat → Int) (n : Nat) : Bool := decide (1 ≤ (n : Int) ∧ (n : Int) ≤ 16) && allR (-1000000) 1000000 V n

theorem raw_iff {V : Nat → Int} {n : Nat} : rawB V n = true ↔ (1 ≤ n ∧ n ≤ 16) ∧ allR (-1000000) 1000000 V n = true := by
  unfold rawB
  rw [Bool.and_eq_true, decide_eq_true_iff]
  constructor <;> (rintro ⟨⟨a, b⟩, c⟩; exact ⟨⟨by omega, by omega⟩, c⟩)

set_option maxHeartbeats 1600000 in
theorem l1All_row (lo hi : Int) (V : Nat → Int) (bb n : Nat) (hn : n ≤ 1048576) (w : World) (h : w.rowIs bb 3 n (fun i => .int .i64 (V i))) : Calls Try.prog 135 #[.slice (some ⟨bb, 0, none⟩) n n, .int .i64 lo, .int .i64 hi] w fun rv w' => rv = .returned (.bool (allR lo hi V n)) ∧ w = w' := by
  go_enter Try.func135, Try.ntmps135
  go_wp2
  go_loopw [11] (fun x wr => ∃ k : Nat, x = .int .i64 (k : Int) ∧ k ≤ n ∧ allR lo hi V k = true ∧ wr = w) (fun x _ => n - (intOf x).toNat)
  case atStart => exact ⟨0, rfl, by omega, rfl, rfl⟩
  case round =>
    obtain ⟨k, rfl, hk, hA, rfl⟩ := hrel
    by_cases hlt : k < n
    · have hlt2 : k < n := hlt
      have h1 : ((k : Nat) : Int) < (n : Int) := by omega
      have h0 : (0 : Int) ≤ (k : Int) := by omega
      have h2 : ((k : Int)).toNat = k := by omega
      have u1 : IntKind.i64.wrap ((k : Int) + 1) = (k : Int) + 1 := IntWalk.i64_in _ (by omega)
      have ga : wr.cell? ⟨bb, k, none⟩ = some (.int .i64 (V k)) := h.cell hlt2
      have LA := Lib.hid (fun w => l1In_any (V k) lo hi w)
      cases hd : decide (lo ≤ V k ∧ V k ≤ hi)
      · have HN : RowKit.Hid (allR lo hi V n = false) := Lib.hid (allR_mono (k := k + 1) (by omega) (by unfold allR; rw [hd, Bool.and_false]))
        rw [hd] at LA
        clear hd hA
        generalize V k = v at *
        go_wp2_with (go_at_call 70; refine (LA.out _).mono ?_; rintro rv w1 ⟨rfl, rfl⟩)
        go_ret
        exact ⟨by rw [HN.out]; rfl, by first | trivial | rfl⟩
      · have HN : RowKit.Hid (allR lo hi V (k + 1) = true) := Lib.hid (by unfold allR; rw [hd, hA]; rfl)
        rw [hd] at LA
        clear hd hA
        generalize V k = v at *
        go_wp2_with (go_at_call 70; refine (LA.out _).mono ?_; rintro rv w1 ⟨rfl, rfl⟩)
        go_roundw
        case rel => exact ⟨k + 1, by simp, by omega, HN.out, by first | trivial | rfl⟩
        case measure => simp [intOf]; omega
    · have h1 : ¬ ((k : Nat) : Int) < (n : Int) := by omega
      have hkn : k = n := by omega
      subst hkn
      have HA := Lib.hid hA
      clear hA
      go_wp2_with fail
      go_ret
      exact ⟨by rw [HA.out]; rfl, by first | trivial | rfl⟩

theorem blRaw_row (V : Nat → Int) (bb n : Nat) (hn : n ≤ 1048576) (w : World) (h : w.rowIs bb 3 n (fun i => .int .i64 (V i))) : Calls Try.prog 77 #[.slice (some ⟨bb, 0, none⟩) n n] w fun rv w' => rv = .returned (.bool (rawB V n)) ∧ w = w' := by
  have LA := Lib.hid (l1All_row (-1000000) 1000000 V bb n hn w h)
  have LI := Lib.hid (l1In_any (n : Int) 1 16 w)
  unfold rawB
  generalize decide (1 ≤ (n : Int) ∧ (n : Int) ≤ 16) = B at *
  generalize allR (-1000000) 1000000 V n = A at *
  cases B
  all_goals
    go_enter Try.func77, Try.ntmps77
    go_wp2_with (first | (go_at_call 70; refine (LI.out).mono ?_; rintro rv w1 ⟨rfl, rfl⟩) | (go_at_call 135; refine (LA.out).mono ?_; rintro rv w1 ⟨rfl, rfl⟩))
    go_ret
    exact ⟨rfl, rfl⟩

set_option maxHeartbeats 1600000 in
theorem isRaw_row (V : Nat → Int) (bb n : Nat) (w : World) (h : w.rowIs bb 3 n (fun i => .int .i64 (V i))) : Calls Try.prog 79 #[.slice (some ⟨bb, 0, none⟩) n n] w fun rv w' => rv = .returned (.bool (rawB V n)) ∧ w = w' := by
  by_cases hz : n = 0
  · have HN : RowKit.Hid (rawB V n = false) := Lib.hid (by subst hz; rfl)
    have h1 : ((n : Int) == 0) = true := by subst hz; rfl
    have h2 : (n : Int) = 0 := by omega
    go_enter Try.func79, Try.ntmps79
    go_wp2
    go_ret
    exact ⟨by rw [HN.out]; rfl, by first | trivial | rfl⟩
  · by_cases h16 : 16 < n
    · have HN : RowKit.Hid (rawB V n = false) := Lib.hid (by unfold rawB; rw [decide_eq_false (by omega)]; rfl)
      have h1 : ((n : Int) == 0) = false := by simpa using hz
      have h2 : (16 : Int) < (n : Int) := by omega
      go_enter Try.func79, Try.ntmps79
      go_wp2
      go_ret
      exact ⟨by rw [HN.out]; rfl, by first | trivial | rfl⟩
    · have hz1 : ((n : Int) == 0) = false := by simpa using hz
      have hz2 : ¬ (16 : Int) < (n : Int) := by omega
      have HR : RowKit.Hid (rawB V n = allR (-1000000) 1000000 V n) := Lib.hid (by unfold rawB; rw [decide_eq_true (by omega)]; rfl)
      go_enter Try.func79, Try.ntmps79
      go_wp2
      go_loopw [15] (fun x wr => ∃ k : Nat, x = .int .i64 (k : Int) ∧ k ≤ n ∧ allR (-1000000) 1000000 V k = true ∧ wr = w) (fun x _ => n - (intOf x).toNat)
      case atStart => exact ⟨0, rfl, by omega, rfl, rfl⟩
      case round =>
        obtain ⟨k, rfl, hk, hA, rfl⟩ := hrel
        by_cases hlt : k < n
        · have hlt2 : k < n := hlt
          have h1 : ((k : Nat) : Int) < (n : Int) := by omega
          have h0 : (0 : Int) ≤ (k : Int) := by omega
          have h2 : ((k : Int)).toNat = k := by omega
          have u1 : IntKind.i64.wrap ((k : Int) + 1) = (k : Int) + 1 := IntWalk.i64_in _ (by omega)
          have ga : wr.cell? ⟨bb, k, none⟩ = some (.int .i64 (V k)) := h.cell hlt2
          have LA := Lib.hid (fun w => isSizeAtMost_any (V k) 1000000 (by decide) (by decide) w)
          cases hd : decide (-1000000 ≤ V k ∧ V k ≤ 1000000)
          · have HN : RowKit.Hid (allR (-1000000) 1000000 V n = false) := Lib.hid (allR_mono (k := k + 1) (by omega) (by unfold allR; rw [hd, Bool.and_false]))
            rw [hd] at LA
            clear hd hA
            generalize V k = v at *
            go_wp2_with (go_at_call 88; refine (LA.out _).mono ?_; rintro rv w1 ⟨rfl, rfl⟩)
            go_ret
            exact ⟨by rw [HR.out, HN.out]; rfl, by first | trivial | rfl⟩
          · have HN : RowKit.Hid (allR (-1000000) 1000000 V (k + 1) = true) := Lib.hid (by unfold allR; rw [hd, hA]; rfl)
            rw [hd] at LA
            clear hd hA
            generalize V k = v at *
            go_wp2_with (go_at_call 88; refine (LA.out _).mono ?_; rintro rv w1 ⟨rfl, rfl⟩)
            go_roundw
            case rel => exact ⟨k + 1, by simp, by omega, HN.out, by first | trivial | rfl⟩
            case measure => simp [intOf]; omega
        · have h1 : ¬ ((k : Nat) : Int) < (n : Int) := by omega
          have hkn : k = n := by omega
          subst hkn
          have HA := Lib.hid hA
          clear hA
          go_wp2_with fail
          go_ret
          exact ⟨by rw [HR.out, HA.out]; rfl, by first | trivial | rfl⟩

theorem topPower_any (e f : Int) (hg : goodB e f = true) (w : World) : Calls Try.prog 81 #[fmt e f] w fun rv w' => rv = .returned (.int .i64 (pw (e - 1) - 1)) ∧ Ext w w' := by
  go_enter Try.func81, Try.ntmps81
  go_wp2_with (go_at_call 140; refine (iBiasOf_yes e f hg _).mono ?_; rintro rv w1 ⟨rfl, hb⟩; have ns : w.heap.size < w1.heap.size := hb.lt (by first | with_reducible assumption | omega | (simp; done) | (simp; omega)); have n0 : w1.cell? ⟨w.heap.size, 0, none⟩ = some (.int .i64 e) := (hb.cells _ _ (by first | with_reducible assumption | omega | (simp; done) | (simp; omega))).trans (by first | with_reducible assumption | (simp; done) | (simp; with_reducible assumption) | (rw [cell_alloc_before _ _ _ _ (by omega)]; with_reducible assumption) | (simp [go_sem, *]; done)); have n1 : w1.cell? ⟨w.heap.size, 1, none⟩ = some (.int .i64 f) := (hb.cells _ _ (by first | with_reducible assumption | omega | (simp; done) | (simp; omega))).trans (by first | with_reducible assumption | (simp; done) | (simp; with_reducible assumption) | (rw [cell_alloc_before _ _ _ _ (by omega)]; with_reducible assumption) | (simp [go_sem, *]; done)); (first | (have nx := Ext.trans hx hb; clear hx) | (have nx := Ext.trans (hx.alloc _) hb; clear hx) | (have nx := Ext.trans hx.drew hb; clear hx) | have nx := hb); clear hb; try clear hs; try clear g0; try clear g1; have hx := nx; clear nx; have hs := ns; clear ns; have g0 := n0; clear n0; have g1 := n1; clear n1)
  go_ret
  exact ⟨rfl, (by repeat (first | exact Ext.refl _ | with_reducible assumption | apply Ext.alloc | apply Ext.drew | apply Ext.drewN | (refine Ext.setRow ?_ (by first | (simp; done) | (simp; omega) | omega) _) | (refine Ext.setCell ?_ (by first | (simp; done) | (simp; omega) | omega) _) | (refine Ext.trans ?_ (by with_reducible assumption))))⟩

theorem pw_half {e : Int} (h : 1 ≤ e) : pw e = 2 * pw (e - 1) := by
  have := pw_add 1 (e - 1) (by decide) (by omega)
  rw [show 1 + (e - 1) = e by omega] at this
  rw [this]; rfl

theorem blTop_any (e f : Int) (hg : goodB e f = true) (w : World) : Calls Try.prog 138 #[fmt e f] w fun rv w' => rv = .returned (.int .i64 (pw (e - 1) - 1)) ∧ Ext w w' := by
  obtain ⟨h1, h2, h3, h4⟩ := good_iff.1 hg
  obtain ⟨⟨a1, a2⟩, ⟨b1, b2⟩, ⟨c1, c2⟩, hmul⟩ := pw_facts h1 h2 h3 h4
  have Hmul := Lib.hid hmul; clear hmul
  have hh := pw_half (e := e) (by omega)
  have c1 := pw_pos (e - 1)
  have c3 : pw (e - 1) ≤ 16 := pw_le 4 16 rfl (by omega)
  have k1 : IntKind.i64.wrap (pw e - 1 - 1) = pw e - 1 - 1 := IntWalk.i64_in _ (by omega)
  have k2 : IntKind.i64.wrap (pw e - 1 - 1 - (pw (e - 1) - 1)) = pw (e - 1) - 1 := by
    rw [IntWalk.i64_in _ (by omega)]; omega
  clear hh
  have FO := Lib.hid (fun w => fmOnes_any e f hg w)
  have FB := Lib.hid (fun w => fmBias_any e f hg w)
  generalize pw (e - 1) = P at *
  generalize pw e = R at *
  go_enter Try.func138, Try.ntmps138
  go_wp2_with (first | (go_at_call 145; refine (FO.out _).mono ?_; rintro rv w1 ⟨rfl, hb⟩; have ns : w.heap.size < w1.heap.size := hb.lt (by first | with_reducible assumption | omega | (simp; done) | (simp; omega)); have n0 : w1.cell? ⟨w.heap.size, 0, none⟩ = some (.int .i64 e) := (hb.cells _ _ (by first | with_reducible assumption | omega | (simp; done) | (simp; omega))).trans (by first | with_reducible assumption | (simp; done) | (simp; with_reducible assumption) | (rw [cell_alloc_before _ _ _ _ (by omega)]; with_reducible assumption) | (simp [go_sem, *]; done)); have n1 : w1.cell? ⟨w.heap.size, 1, none⟩ = some (.int .i64 f) := (hb.cells _ _ (by first | with_reducible assumption | omega | (simp; done) | (simp; omega))).trans (by first | with_reducible assumption | (simp; done) | (simp; with_reducible assumption) | (rw [cell_alloc_before _ _ _ _ (by omega)]; with_reducible assumption) | (simp [go_sem, *]; done)); (first | (have nx := Ext.trans hx hb; clear hx) | (have nx := Ext.trans (hx.alloc _) hb; clear hx) | (have nx := Ext.trans hx.drew hb; clear hx) | have nx := hb); clear hb; try clear hs; try clear g0; try clear g1; have hx := nx; clear nx; have hs := ns; clear ns; have g0 := n0; clear n0; have g1 := n1; clear n1) | (go_at_call 168; refine (FB.out _).mono ?_; rintro rv w1 ⟨rfl, hb⟩; have ns : w.heap.size < w1.heap.size := hb.lt (by first | with_reducible assumption | omega | (simp; done) | (simp; omega)); have n0 : w1.cell? ⟨w.heap.size, 0, none⟩ = some (.int .i64 e) := (hb.cells _ _ (by first | with_reducible assumption | omega | (simp; done) | (simp; omega))).trans (by first | with_reducible assumption | (simp; done) | (simp; with_reducible assumption) | (rw [cell_alloc_before _ _ _ _ (by omega)]; with_reducible assumption) | (simp [go_sem, *]; done)); have n1 : w1.cell? ⟨w.heap.size, 1, none⟩ = some (.int .i64 f) := (hb.cells _ _ (by first | with_reducible assumption | omega | (simp; done) | (simp; omega))).trans (by first | with_reducible assumption | (simp; done) | (simp; with_reducible assumption) | (rw [cell_alloc_before _ _ _ _ (by omega)]; with_reducible assumption) | (simp [go_sem, *]; done)); (first | (have nx := Ext.trans hx hb; clear hx) | (have nx := Ext.trans (hx.alloc _) hb; clear hx) | (have nx := Ext.trans hx.drew hb; clear hx) | have nx := hb); clear hb; try clear hs; try clear g0; try clear g1; have hx := nx; clear nx; have hs := ns; clear ns; have g0 := n0; clear n0; have g1 := n1; clear n1))
  try (go_region_held3 (fun w' => w'.cell? ⟨w.heap.size, 0, none⟩ = some (.int .i64 e) ∧ w'.cell? ⟨w.heap.size, 1, none⟩ = some (.int .i64 f) ∧ w.heap.size < w'.heap.size) ((refine ⟨?_, ?_, ?_⟩ <;> first | with_reducible assumption | ((rw [cell_setRow_far _ _ _ _ _ (by omega)]); with_reducible assumption) | ((rw [setRow_size]); with_reducible assumption) | ((repeat rw [World.cell?_setCell_far _ _ _ _ (by simp)]); with_reducible assumption) | (simp; done) | (simp [World.setCell]; first | done | omega) | (simp [go_sem, World.cell?_alloc_past, World.cell?_setCell_far, *]; done))) ((first | (go_at_call 145; refine (FO.out _).mono ?_; rintro rv w1 ⟨rfl, hb⟩; have ns : w.heap.size < w1.heap.size := hb.lt (by first | with_reducible assumption | omega | (simp; done) | (simp; omega)); have n0 : w1.cell? ⟨w.heap.size, 0, none⟩ = some (.int .i64 e) := (hb.cells _ _ (by first | with_reducible assumption | omega | (simp; done) | (simp; omega))).trans (by first | with_reducible assumption | (simp; done) | (simp; with_reducible assumption) | (rw [cell_alloc_before _ _ _ _ (by omega)]; with_reducible assumption) | (simp [go_sem, *]; done)); have n1 : w1.cell? ⟨w.heap.size, 1, none⟩ = some (.int .i64 f) := (hb.cells _ _ (by first | with_reducible assumption | omega | (simp; done) | (simp; omega))).trans (by first | with_reducible assumption | (simp; done) | (simp; with_reducible assumption) | (rw [cell_alloc_before _ _ _ _ (by omega)]; with_reducible assumption) | (simp [go_sem, *]; done)); (first | (have nx := Ext.trans hx hb; clear hx) | (have nx := Ext.trans (hx.alloc _) hb; clear hx) | (have nx := Ext.trans hx.drew hb; clear hx) | have nx := hb); clear hb; try clear hs; try clear g0; try clear g1; have hx := nx; clear nx; have hs := ns; clear ns; have g0 := n0; clear n0; have g1 := n1; clear n1) | (go_at_call 168; refine (FB.out _).mono ?_; rintro rv w1 ⟨rfl, hb⟩; have ns : w.heap.size < w1.heap.size := hb.lt (by first | with_reducible assumption | omega | (simp; done) | (simp; omega)); have n0 : w1.cell? ⟨w.heap.size, 0, none⟩ = some (.int .i64 e) := (hb.cells _ _ (by first | with_reducible assumption | omega | (simp; done) | (simp; omega))).trans (by first | with_reducible assumption | (simp; done) | (simp; with_reducible assumption) | (rw [cell_alloc_before _ _ _ _ (by omega)]; with_reducible assumption) | (simp [go_sem, *]; done)); have n1 : w1.cell? ⟨w.heap.size, 1, none⟩ = some (.int .i64 f) := (hb.cells _ _ (by first | with_reducible assumption | omega | (simp; done) | (simp; omega))).trans (by first | with_reducible assumption | (simp; done) | (simp; with_reducible assumption) | (rw [cell_alloc_before _ _ _ _ (by omega)]; with_reducible assumption) | (simp [go_sem, *]; done)); (first | (have nx := Ext.trans hx hb; clear hx) | (have nx := Ext.trans (hx.alloc _) hb; clear hx) | (have nx := Ext.trans hx.drew hb; clear hx) | have nx := hb); clear hb; try clear hs; try clear g0; try clear g1; have hx := nx; clear nx; have hs := ns; clear ns; have g0 := n0; clear n0; have g1 := n1; clear n1))))
  all_goals (try go_wp2_with fail)
  all_goals go_ret
  all_goals exact ⟨ret_int rfl, (by repeat (first | exact Ext.refl _ | with_reducible assumption | apply Ext.alloc | apply Ext.drew | apply Ext.drewN | (refine Ext.setRow ?_ (by first | (simp; done) | (simp; omega) | omega) _) | (refine Ext.setCell ?_ (by first | (simp; done) | (simp; omega) | omega) _) | (refine Ext.trans ?_ (by with_reducible assumption))))⟩
end Go.Proofs.Ytdagfocpbnamfaa

namespace Go.Proofs.Ytdagfocpbnamfaa
open Go Go.RowKit
set_option linter.unusedSimpArgs false
set_option linter.unusedVariables false
set_option maxRecDepth 100000

/-- The greatest size of the first k numbers; the most places of them. -/
def mxV (V : Nat → Int) : Nat → Int
  | 0 => 0
  | k + 1 => max (mxV V k) ((V k).natAbs : Int)

def plM (V : Nat → Int) : Nat → Int
  | 0 => 0
  | k + 1 => max (plM V k) (plV (V k))

theorem mx_bd {V : Nat → Int} {n : Nat} (h : allR (-1000000) 1000000 V n = true) (k : Nat) (hk : k ≤ n) : 0 ≤ mxV V k ∧ mxV V k ≤ 1000000 := by
  induction k with
  | zero => exact ⟨Int.le_refl _, by show (0 : Int) ≤ 1000000; decide⟩
  | succ k ih =>
    have i1 := ih (by omega)
    have i2 := allR_at h k (by omega)
    unfold mxV
    omega

theorem pl_mono {a b : Int} (h : a.natAbs ≤ b.natAbs) (hb : b.natAbs ≤ 1000000) : plV a ≤ plV b := by
  by_cases ha : a = 0
  · subst ha; rw [pl_zero]; exact pl_nn b
  · have p := pl_bd a ha (by omega) (by omega)
    have q := pl_ge b (plV a - 1) (by have := p.1; omega) (by omega) (by omega)
    omega

theorem pl_max {a b : Int} (h0 : 0 ≤ a) (h1 : a ≤ 1000000) (h2 : b.natAbs ≤ 1000000) : plV (max a (b.natAbs : Int)) = max (plV a) (plV b) := by
  by_cases h : a ≤ (b.natAbs : Int)
  · have e1 : max a (b.natAbs : Int) = (b.natAbs : Int) := by omega
    rw [e1, plV_abs]
    have := pl_mono (a := a) (b := b) (by omega) h2
    omega
  · have e1 : max a (b.natAbs : Int) = a := by omega
    rw [e1]
    have := pl_mono (a := b) (b := a) (by omega) (by omega)
    omega

theorem plM_eq {V : Nat → Int} {n : Nat} (h : allR (-1000000) 1000000 V n = true) (k : Nat) (hk : k ≤ n) : plM V k = plV (mxV V k) := by
  induction k with
  | zero => exact pl_zero.symm
  | succ k ih =>
    have i1 := mx_bd h k (by omega)
    have i2 := allR_at h k (by omega)
    unfold plM mxV
    rw [ih (by omega), pl_max i1.1 i1.2 (by omega)]

theorem pl20 {a : Int} (h : a.natAbs ≤ 1000000) : 0 ≤ plV a ∧ plV a ≤ 20 := ⟨pl_nn a, pl_le a 20 (by decide) (by decide) (by rw [show pw 20 = 1048576 from rfl]; omega)⟩

theorem plM_bd {V : Nat → Int} {n : Nat} (h : allR (-1000000) 1000000 V n = true) (k : Nat) (hk : k ≤ n) : 0 ≤ plM V k ∧ plM V k ≤ 20 := by
  have i1 := mx_bd h k hk
  rw [plM_eq h k hk]
  exact pl20 (by omega)

theorem pl_nz {a : Int} (h0 : 0 ≤ a) (h1 : a ≤ 1000000) : plV a = 0 ↔ a = 0 := by
  constructor
  · intro h
    by_cases ha : a = 0
    · exact ha
    · have p := pl_bd a ha (by omega) (by omega)
      have q := pl_ge a 0 (by rw [show pw 0 = 1 from rfl]; omega) (by omega) (by omega)
      omega
  · rintro rfl; exact pl_zero

/-- The shared power of a raw list. -/
def shP (e : Int) (V : Nat → Int) (n : Nat) : Int := if mxV V n = 0 then 0 else plV (mxV V n) - 1 - (pw (e - 1) - 1)

theorem shP_bd {e f : Int} {V : Nat → Int} {n : Nat} (hg : goodB e f = true) (h : rawB V n = true) : -15 ≤ shP e V n ∧ shP e V n ≤ 19 := by
  obtain ⟨_, hr⟩ := raw_iff.1 h
  have i1 := mx_bd hr n (Nat.le_refl _)
  have i2 := pl20 (a := mxV V n) (by omega)
  have c1 := pw_pos (e - 1)
  have c3 : pw (e - 1) ≤ 16 := pw_le 4 16 rfl (by have := good_iff.1 hg; omega)
  have c4 := pl_nz i1.1 i1.2
  unfold shP
  split
  · omega
  · rename_i h0
    have : plV (mxV V n) ≠ 0 := fun q => h0 (c4.1 q)
    have : 1 ≤ pw (e - 1) := c1
    omega

/-- What SharedPower asks for. -/
def spB (e f : Int) (V : Nat → Int) (n : Nat) : Bool := goodB e f && rawB V n

def spV (e f : Int) (V : Nat → Int) (n : Nat) : Int := if spB e f V n = true then shP e V n else 0

set_option maxHeartbeats 1600000 in
theorem blShared_row (e f : Int) (V : Nat → Int) (bb n : Nat) (hg : goodB e f = true) (hr : rawB V n = true) (w : World) (h : w.rowIs bb 3 n (fun i => .int .i64 (V i))) : Calls Try.prog 78 #[fmt e f, .slice (some ⟨bb, 0, none⟩) n n] w fun rv w' => rv = .returned (.int .i64 (shP e V n)) ∧ Ext w w' := by
  obtain ⟨hn, hA⟩ := raw_iff.1 hr
  have hc1 := pw_pos (e - 1)
  have hc3 : pw (e - 1) ≤ 16 := pw_le 4 16 rfl (by have := good_iff.1 hg; omega)
  have BT := Lib.hid (fun w => blTop_any e f hg w)
  have H := Lib.hid h
  have h' := h
  go_enter Try.func78, Try.ntmps78
  go_wp2
  go_loopw [5, 10] (fun y x wr => ∃ k : Nat, x = .int .i64 (k : Int) ∧ k ≤ n ∧ y = .int .i64 (mxV V k) ∧ w.heap.size < wr.heap.size ∧ wr.cell? ⟨w.heap.size, 0, none⟩ = some (.int .i64 e) ∧ wr.cell? ⟨w.heap.size, 1, none⟩ = some (.int .i64 f) ∧ Ext w wr) (fun _ x _ => n - (intOf x).toNat)
  case atStart => exact ⟨0, rfl, by omega, rfl, by simp, by simp [go_sem], by simp [go_sem], Ext.new _ _⟩
  case round =>
    obtain ⟨k, rfl, hk, rfl, hs, g0, g1, hx⟩ := hrel
    by_cases hlt : k < n
    · have hlt2 : k < n := hlt
      have h1 : ((k : Nat) : Int) < (n : Int) := by omega
      have h0 : (0 : Int) ≤ (k : Int) := by omega
      have h2 : ((k : Int)).toNat = k := by omega
      have u1 : IntKind.i64.wrap ((k : Int) + 1) = (k : Int) + 1 := IntWalk.i64_in _ (by omega)
      have ga : wr.cell? ⟨bb, k, none⟩ = some (.int .i64 (V k)) := (row_ext h hx).cell hlt2
      have i2 := allR_at hA k hlt
      have LA := Lib.hid (fun w => l1Abs_nat (V k) (by omega) (by omega) w)
      have HE := Lib.hid (show mxV V (k + 1) = max (mxV V k) ((V k).natAbs : Int) from rfl)
      generalize ((V k).natAbs : Int) = a at *
      generalize V k = v at *
      generalize mxV V k = m at *
      clear i2
      go_wp2_with (first | (go_at_call 125; refine (LA.out _).mono ?_; rintro rv w1 ⟨rfl, rfl⟩) | (go_at_call 136; refine (l1Most_max _ _ _).mono ?_; rintro rv w1 ⟨rfl, rfl⟩))
      go_roundw
      case rel => exact ⟨k + 1, by simp, by omega, by rw [HE.out], by with_reducible assumption, by with_reducible assumption, by with_reducible assumption, by with_reducible assumption⟩
      case measure => simp [intOf]; omega
    · have h1 : ¬ ((k : Nat) : Int) < (n : Int) := by omega
      have hkn : k = n := by omega
      subst hkn
      have hm := mx_bd hA k (Nat.le_refl _)
      by_cases hz : mxV V k = 0
      · have HZ : RowKit.Hid (shP e V k = 0) := Lib.hid (if_pos hz)
        have hz1 : (mxV V k == 0) = true := by simpa using hz
        rw [hz]
        clear hz hz1
        go_wp2_with fail
        go_ret
        exact ⟨by rw [HZ.out]; rfl, (by repeat (first | exact Ext.refl _ | with_reducible assumption | apply Ext.alloc | apply Ext.drew | apply Ext.drewN | (refine Ext.setRow ?_ (by first | (simp; done) | (simp; omega) | omega) _) | (refine Ext.setCell ?_ (by first | (simp; done) | (simp; omega) | omega) _) | (refine Ext.trans ?_ (by with_reducible assumption))))⟩
      · have HZ : RowKit.Hid (shP e V k = plV (mxV V k) - 1 - (pw (e - 1) - 1)) := Lib.hid (if_neg hz)
        have hz1 : (mxV V k == 0) = false := by simpa using hz
        have p20 := pl20 (a := mxV V k) (by omega)
        have RB := Lib.hid (fun w => rdBits_any (mxV V k) (by omega) (by omega) w)
        have kw1 : IntKind.i64.wrap (plV (mxV V k) - 1) = plV (mxV V k) - 1 := IntWalk.i64_in _ (by omega)
        have kw2 : IntKind.i64.wrap (plV (mxV V k) - 1 - (pw (e - 1) - 1)) = plV (mxV V k) - 1 - (pw (e - 1) - 1) := IntWalk.i64_in _ (by omega)
        generalize plV (mxV V k) = q at *
        generalize mxV V k = m at *
        generalize pw (e - 1) = P at *
        go_wp2_with (first | (go_at_call 137; refine (RB.out _).mono ?_; rintro rv w1 ⟨rfl, rfl⟩) | (go_at_call 138; refine (BT.out _).mono ?_; rintro rv w1 ⟨rfl, hb⟩; have ns : w.heap.size < w1.heap.size := hb.lt (by first | with_reducible assumption | omega | (simp; done) | (simp; omega)); have n0 : w1.cell? ⟨w.heap.size, 0, none⟩ = some (.int .i64 e) := (hb.cells _ _ (by first | with_reducible assumption | omega | (simp; done) | (simp; omega))).trans (by first | with_reducible assumption | (simp; done) | (simp; with_reducible assumption) | (rw [cell_alloc_before _ _ _ _ (by omega)]; with_reducible assumption) | (simp [go_sem, *]; done)); have n1 : w1.cell? ⟨w.heap.size, 1, none⟩ = some (.int .i64 f) := (hb.cells _ _ (by first | with_reducible assumption | omega | (simp; done) | (simp; omega))).trans (by first | with_reducible assumption | (simp; done) | (simp; with_reducible assumption) | (rw [cell_alloc_before _ _ _ _ (by omega)]; with_reducible assumption) | (simp [go_sem, *]; done)); (first | (have nx := Ext.trans hx hb; clear hx) | (have nx := Ext.trans (hx.alloc _) hb; clear hx) | (have nx := Ext.trans hx.drew hb; clear hx) | have nx := hb); clear hb; try clear hs; try clear g0; try clear g1; have hx := nx; clear nx; have hs := ns; clear ns; have g0 := n0; clear n0; have g1 := n1; clear n1))
        try (go_region_held3 (fun w' => w'.cell? ⟨w.heap.size, 0, none⟩ = some (.int .i64 e) ∧ w'.cell? ⟨w.heap.size, 1, none⟩ = some (.int .i64 f) ∧ w.heap.size < w'.heap.size) ((refine ⟨?_, ?_, ?_⟩ <;> first | with_reducible assumption | ((rw [cell_setRow_far _ _ _ _ _ (by omega)]); with_reducible assumption) | ((rw [setRow_size]); with_reducible assumption) | ((repeat rw [World.cell?_setCell_far _ _ _ _ (by simp)]); with_reducible assumption) | (simp; done) | (simp [World.setCell]; first | done | omega) | (simp [go_sem, World.cell?_alloc_past, World.cell?_setCell_far, *]; done))) ((first | (go_at_call 137; refine (RB.out _).mono ?_; rintro rv w1 ⟨rfl, rfl⟩) | (go_at_call 138; refine (BT.out _).mono ?_; rintro rv w1 ⟨rfl, hb⟩; have ns : w.heap.size < w1.heap.size := hb.lt (by first | with_reducible assumption | omega | (simp; done) | (simp; omega)); have n0 : w1.cell? ⟨w.heap.size, 0, none⟩ = some (.int .i64 e) := (hb.cells _ _ (by first | with_reducible assumption | omega | (simp; done) | (simp; omega))).trans (by first | with_reducible assumption | (simp; done) | (simp; with_reducible assumption) | (rw [cell_alloc_before _ _ _ _ (by omega)]; with_reducible assumption) | (simp [go_sem, *]; done)); have n1 : w1.cell? ⟨w.heap.size, 1, none⟩ = some (.int .i64 f) := (hb.cells _ _ (by first | with_reducible assumption | omega | (simp; done) | (simp; omega))).trans (by first | with_reducible assumption | (simp; done) | (simp; with_reducible assumption) | (rw [cell_alloc_before _ _ _ _ (by omega)]; with_reducible assumption) | (simp [go_sem, *]; done)); (first | (have nx := Ext.trans hx hb; clear hx) | (have nx := Ext.trans (hx.alloc _) hb; clear hx) | (have nx := Ext.trans hx.drew hb; clear hx) | have nx := hb); clear hb; try clear hs; try clear g0; try clear g1; have hx := nx; clear nx; have hs := ns; clear ns; have g0 := n0; clear n0; have g1 := n1; clear n1))))
        all_goals (try go_wp2_with fail)
        all_goals go_ret
        all_goals exact ⟨by rw [HZ.out]; rfl, (by repeat (first | exact Ext.refl _ | with_reducible assumption | apply Ext.alloc | apply Ext.drew | apply Ext.drewN | (refine Ext.setRow ?_ (by first | (simp; done) | (simp; omega) | omega) _) | (refine Ext.setCell ?_ (by first | (simp; done) | (simp; omega) | omega) _) | (refine Ext.trans ?_ (by with_reducible assumption))))⟩

set_option maxHeartbeats 1600000 in
theorem iSharedPower_yes (e f : Int) (V : Nat → Int) (bb n : Nat) (hg : goodB e f = true) (hr : rawB V n = true) (w : World) (h : w.rowIs bb 3 n (fun i => .int .i64 (V i))) : Calls Try.prog 31 #[fmt e f, .slice (some ⟨bb, 0, none⟩) n n] w fun rv w' => rv = .returned (.tuple #[.int .i64 (shP e V n), .bool true]) ∧ Ext w w' := by
  obtain ⟨hn, hA⟩ := raw_iff.1 hr
  have hc1 := pw_pos (e - 1)
  have hc3 : pw (e - 1) ≤ 16 := pw_le 4 16 rfl (by have := good_iff.1 hg; omega)
  have GD := Lib.hid (fun w => isFormat_any e f w)
  have BR := Lib.hid (fun w h => isRaw_row V bb n w h)
  have BT := Lib.hid (fun w => topPower_any e f hg w)
  rw [hg] at GD
  rw [hr] at BR
  go_enter Try.func31, Try.ntmps31
  go_wp2_with (first | (go_at_call 76; refine (GD.out _).mono ?_; rintro rv w1 ⟨rfl, hb⟩; have ns : w.heap.size < w1.heap.size := hb.lt (by first | with_reducible assumption | omega | (simp; done) | (simp; omega)); have n0 : w1.cell? ⟨w.heap.size, 0, none⟩ = some (.int .i64 e) := (hb.cells _ _ (by first | with_reducible assumption | omega | (simp; done) | (simp; omega))).trans (by first | with_reducible assumption | (simp; done) | (simp; with_reducible assumption) | (rw [cell_alloc_before _ _ _ _ (by omega)]; with_reducible assumption) | (simp [go_sem, *]; done)); have n1 : w1.cell? ⟨w.heap.size, 1, none⟩ = some (.int .i64 f) := (hb.cells _ _ (by first | with_reducible assumption | omega | (simp; done) | (simp; omega))).trans (by first | with_reducible assumption | (simp; done) | (simp; with_reducible assumption) | (rw [cell_alloc_before _ _ _ _ (by omega)]; with_reducible assumption) | (simp [go_sem, *]; done)); (first | (have nx := Ext.trans hx hb; clear hx) | (have nx := Ext.trans (hx.alloc _) hb; clear hx) | (have nx := Ext.trans hx.drew hb; clear hx) | have nx := hb); clear hb; try clear hs; try clear g0; try clear g1; have hx := nx; clear nx; have hs := ns; clear ns; have g0 := n0; clear n0; have g1 := n1; clear n1) | (go_at_call 79; refine (BR.out _ (row_ext h (by repeat (first | exact Ext.refl _ | with_reducible assumption | apply Ext.alloc | apply Ext.drew | apply Ext.drewN | (refine Ext.setRow ?_ (by first | (simp; done) | (simp; omega) | omega) _) | (refine Ext.setCell ?_ (by first | (simp; done) | (simp; omega) | omega) _) | (refine Ext.trans ?_ (by with_reducible assumption)))))).mono ?_; rintro rv w1 ⟨rfl, rfl⟩))
  go_loopw [6, 19] (fun y x wr => ∃ k : Nat, x = .int .i64 (k : Int) ∧ k ≤ n ∧ y = .int .i64 (plM V k) ∧ w.heap.size < wr.heap.size ∧ wr.cell? ⟨w.heap.size, 0, none⟩ = some (.int .i64 e) ∧ wr.cell? ⟨w.heap.size, 1, none⟩ = some (.int .i64 f) ∧ Ext w wr) (fun _ x _ => n - (intOf x).toNat)
  case atStart => exact ⟨0, rfl, by omega, rfl, by with_reducible assumption, by with_reducible assumption, by with_reducible assumption, (by repeat (first | exact Ext.refl _ | with_reducible assumption | apply Ext.alloc | apply Ext.drew | apply Ext.drewN | (refine Ext.setRow ?_ (by first | (simp; done) | (simp; omega) | omega) _) | (refine Ext.setCell ?_ (by first | (simp; done) | (simp; omega) | omega) _) | (refine Ext.trans ?_ (by with_reducible assumption))))⟩
  case round =>
    clear ns n0 n1 nx
    obtain ⟨k, rfl, hk, rfl, hs, g0, g1, hx⟩ := hrel
    by_cases hlt : k < n
    · have hlt2 : k < n := hlt
      have h1 : ((k : Nat) : Int) < (n : Int) := by omega
      have h0 : (0 : Int) ≤ (k : Int) := by omega
      have h2 : ((k : Int)).toNat = k := by omega
      have u1 : IntKind.i64.wrap ((k : Int) + 1) = (k : Int) + 1 := IntWalk.i64_in _ (by omega)
      have ga : wr.cell? ⟨bb, k, none⟩ = some (.int .i64 (V k)) := (row_ext h hx).cell hlt2
      have i2 := allR_at hA k hlt
      have LA := Lib.hid (fun w => placesOf_any (V k) (by omega) (by omega) w)
      have HE := Lib.hid (show plM V (k + 1) = max (plM V k) (plV (V k)) from rfl)
      generalize plV (V k) = a at *
      generalize V k = v at *
      generalize plM V k = m at *
      clear i2
      go_wp2_with (go_at_call 80; refine (LA.out _).mono ?_; rintro rv w1 ⟨rfl, rfl⟩)
      go_roundw
      case rel => exact ⟨k + 1, by simp, by omega, by rw [HE.out], by with_reducible assumption, by with_reducible assumption, by with_reducible assumption, by with_reducible assumption⟩
      case measure => simp [intOf]; omega
    · have h1 : ¬ ((k : Nat) : Int) < (n : Int) := by omega
      have hkn : k = n := by omega
      subst hkn
      have hm := mx_bd hA k (Nat.le_refl _)
      have hp := plM_bd hA k (Nat.le_refl _)
      have hq := plM_eq hA k (Nat.le_refl _)
      have hz := pl_nz hm.1 hm.2
      rw [← hq] at hz
      by_cases h0 : plM V k = 0
      · have HZ : RowKit.Hid (shP e V k = 0) := Lib.hid (if_pos (hz.1 h0))
        rw [h0]
        clear h0 hz hq hp hm
        go_wp2_with fail
        go_ret2
        exact ⟨by rw [HZ.out]; rfl, (by repeat (first | exact Ext.refl _ | with_reducible assumption | apply Ext.alloc | apply Ext.drew | apply Ext.drewN | (refine Ext.setRow ?_ (by first | (simp; done) | (simp; omega) | omega) _) | (refine Ext.setCell ?_ (by first | (simp; done) | (simp; omega) | omega) _) | (refine Ext.trans ?_ (by with_reducible assumption))))⟩
      · have HZ : RowKit.Hid (shP e V k = plM V k - 1 - (pw (e - 1) - 1)) := Lib.hid (by rw [hq]; exact if_neg (fun q => h0 (hz.2 q)))
        have hz1 : (plM V k == 0) = false := by simpa using h0
        have kw1 : IntKind.i64.wrap (plM V k - 1) = plM V k - 1 := IntWalk.i64_in _ (by omega)
        have kw2 : IntKind.i64.wrap (plM V k - 1 - (pw (e - 1) - 1)) = plM V k - 1 - (pw (e - 1) - 1) := IntWalk.i64_in _ (by omega)
        clear hz hq hm
        generalize plM V k = m at *
        generalize pw (e - 1) = P at *
        go_wp2_with (go_at_call 81; refine (BT.out _).mono ?_; rintro rv w1 ⟨rfl, hb⟩; have ns : w.heap.size < w1.heap.size := hb.lt (by first | with_reducible assumption | omega | (simp; done) | (simp; omega)); have n0 : w1.cell? ⟨w.heap.size, 0, none⟩ = some (.int .i64 e) := (hb.cells _ _ (by first | with_reducible assumption | omega | (simp; done) | (simp; omega))).trans (by first | with_reducible assumption | (simp; done) | (simp; with_reducible assumption) | (rw [cell_alloc_before _ _ _ _ (by omega)]; with_reducible assumption) | (simp [go_sem, *]; done)); have n1 : w1.cell? ⟨w.heap.size, 1, none⟩ = some (.int .i64 f) := (hb.cells _ _ (by first | with_reducible assumption | omega | (simp; done) | (simp; omega))).trans (by first | with_reducible assumption | (simp; done) | (simp; with_reducible assumption) | (rw [cell_alloc_before _ _ _ _ (by omega)]; with_reducible assumption) | (simp [go_sem, *]; done)); (first | (have nx := Ext.trans hx hb; clear hx) | (have nx := Ext.trans (hx.alloc _) hb; clear hx) | (have nx := Ext.trans hx.drew hb; clear hx) | have nx := hb); clear hb; try clear hs; try clear g0; try clear g1; have hx := nx; clear nx; have hs := ns; clear ns; have g0 := n0; clear n0; have g1 := n1; clear n1)
        try (go_region_held3 (fun w' => w'.cell? ⟨w.heap.size, 0, none⟩ = some (.int .i64 e) ∧ w'.cell? ⟨w.heap.size, 1, none⟩ = some (.int .i64 f) ∧ w.heap.size < w'.heap.size) ((refine ⟨?_, ?_, ?_⟩ <;> first | with_reducible assumption | ((rw [cell_setRow_far _ _ _ _ _ (by omega)]); with_reducible assumption) | ((rw [setRow_size]); with_reducible assumption) | ((repeat rw [World.cell?_setCell_far _ _ _ _ (by simp)]); with_reducible assumption) | (simp; done) | (simp [World.setCell]; first | done | omega) | (simp [go_sem, World.cell?_alloc_past, World.cell?_setCell_far, *]; done))) ((first | (go_at_call 81; refine (BT.out _).mono ?_; rintro rv w1 ⟨rfl, hb⟩; have ns : w.heap.size < w1.heap.size := hb.lt (by first | with_reducible assumption | omega | (simp; done) | (simp; omega)); have n0 : w1.cell? ⟨w.heap.size, 0, none⟩ = some (.int .i64 e) := (hb.cells _ _ (by first | with_reducible assumption | omega | (simp; done) | (simp; omega))).trans (by first | with_reducible assumption | (simp; done) | (simp; with_reducible assumption) | (rw [cell_alloc_before _ _ _ _ (by omega)]; with_reducible assumption) | (simp [go_sem, *]; done)); have n1 : w1.cell? ⟨w.heap.size, 1, none⟩ = some (.int .i64 f) := (hb.cells _ _ (by first | with_reducible assumption | omega | (simp; done) | (simp; omega))).trans (by first | with_reducible assumption | (simp; done) | (simp; with_reducible assumption) | (rw [cell_alloc_before _ _ _ _ (by omega)]; with_reducible assumption) | (simp [go_sem, *]; done)); (first | (have nx := Ext.trans hx hb; clear hx) | (have nx := Ext.trans (hx.alloc _) hb; clear hx) | (have nx := Ext.trans hx.drew hb; clear hx) | have nx := hb); clear hb; try clear hs; try clear g0; try clear g1; have hx := nx; clear nx; have hs := ns; clear ns; have g0 := n0; clear n0; have g1 := n1; clear n1))))
        all_goals (try go_wp2_with fail)
        all_goals go_ret2
        all_goals exact ⟨by rw [HZ.out]; rfl, (by repeat (first | exact Ext.refl _ | with_reducible assumption | apply Ext.alloc | apply Ext.drew | apply Ext.drewN | (refine Ext.setRow ?_ (by first | (simp; done) | (simp; omega) | omega) _) | (refine Ext.setCell ?_ (by first | (simp; done) | (simp; omega) | omega) _) | (refine Ext.trans ?_ (by with_reducible assumption))))⟩

theorem iSharedPower_row (e f : Int) (V : Nat → Int) (bb n : Nat) (w : World) (h : w.rowIs bb 3 n (fun i => .int .i64 (V i))) : Calls Try.prog 31 #[fmt e f, .slice (some ⟨bb, 0, none⟩) n n] w fun rv w' => rv = .returned (.tuple #[.int .i64 (spV e f V n), .bool (spB e f V n)]) ∧ Ext w w' := by
  have GD := Lib.hid (fun w => isFormat_any e f w)
  have BR := Lib.hid (fun w h => isRaw_row V bb n w h)
  unfold spV spB
  cases hg : goodB e f
  · rw [hg] at GD
    go_enter Try.func31, Try.ntmps31
    go_wp2_with (go_at_call 76; refine (GD.out _).mono ?_; rintro rv w1 ⟨rfl, hb⟩; have ns : w.heap.size < w1.heap.size := hb.lt (by first | with_reducible assumption | omega | (simp; done) | (simp; omega)); have n0 : w1.cell? ⟨w.heap.size, 0, none⟩ = some (.int .i64 e) := (hb.cells _ _ (by first | with_reducible assumption | omega | (simp; done) | (simp; omega))).trans (by first | with_reducible assumption | (simp; done) | (simp; with_reducible assumption) | (rw [cell_alloc_before _ _ _ _ (by omega)]; with_reducible assumption) | (simp [go_sem, *]; done)); have n1 : w1.cell? ⟨w.heap.size, 1, none⟩ = some (.int .i64 f) := (hb.cells _ _ (by first | with_reducible assumption | omega | (simp; done) | (simp; omega))).trans (by first | with_reducible assumption | (simp; done) | (simp; with_reducible assumption) | (rw [cell_alloc_before _ _ _ _ (by omega)]; with_reducible assumption) | (simp [go_sem, *]; done)); (first | (have nx := Ext.trans hx hb; clear hx) | (have nx := Ext.trans (hx.alloc _) hb; clear hx) | (have nx := Ext.trans hx.drew hb; clear hx) | have nx := hb); clear hb; try clear hs; try clear g0; try clear g1; have hx := nx; clear nx; have hs := ns; clear ns; have g0 := n0; clear n0; have g1 := n1; clear n1)
    go_ret2
    exact ⟨rfl, (by repeat (first | exact Ext.refl _ | with_reducible assumption | apply Ext.alloc | apply Ext.drew | apply Ext.drewN | (refine Ext.setRow ?_ (by first | (simp; done) | (simp; omega) | omega) _) | (refine Ext.setCell ?_ (by first | (simp; done) | (simp; omega) | omega) _) | (refine Ext.trans ?_ (by with_reducible assumption))))⟩
  · cases hr : rawB V n
    · rw [hg] at GD
      rw [hr] at BR
      go_enter Try.func31, Try.ntmps31
      go_wp2_with (first | (go_at_call 76; refine (GD.out _).mono ?_; rintro rv w1 ⟨rfl, hb⟩; have ns : w.heap.size < w1.heap.size := hb.lt (by first | with_reducible assumption | omega | (simp; done) | (simp; omega)); have n0 : w1.cell? ⟨w.heap.size, 0, none⟩ = some (.int .i64 e) := (hb.cells _ _ (by first | with_reducible assumption | omega | (simp; done) | (simp; omega))).trans (by first | with_reducible assumption | (simp; done) | (simp; with_reducible assumption) | (rw [cell_alloc_before _ _ _ _ (by omega)]; with_reducible assumption) | (simp [go_sem, *]; done)); have n1 : w1.cell? ⟨w.heap.size, 1, none⟩ = some (.int .i64 f) := (hb.cells _ _ (by first | with_reducible assumption | omega | (simp; done) | (simp; omega))).trans (by first | with_reducible assumption | (simp; done) | (simp; with_reducible assumption) | (rw [cell_alloc_before _ _ _ _ (by omega)]; with_reducible assumption) | (simp [go_sem, *]; done)); (first | (have nx := Ext.trans hx hb; clear hx) | (have nx := Ext.trans (hx.alloc _) hb; clear hx) | (have nx := Ext.trans hx.drew hb; clear hx) | have nx := hb); clear hb; try clear hs; try clear g0; try clear g1; have hx := nx; clear nx; have hs := ns; clear ns; have g0 := n0; clear n0; have g1 := n1; clear n1) | (go_at_call 79; refine (BR.out _ (row_ext h (by repeat (first | exact Ext.refl _ | with_reducible assumption | apply Ext.alloc | apply Ext.drew | apply Ext.drewN | (refine Ext.setRow ?_ (by first | (simp; done) | (simp; omega) | omega) _) | (refine Ext.setCell ?_ (by first | (simp; done) | (simp; omega) | omega) _) | (refine Ext.trans ?_ (by with_reducible assumption)))))).mono ?_; rintro rv w1 ⟨rfl, rfl⟩))
      go_ret2
      exact ⟨rfl, (by repeat (first | exact Ext.refl _ | with_reducible assumption | apply Ext.alloc | apply Ext.drew | apply Ext.drewN | (refine Ext.setRow ?_ (by first | (simp; done) | (simp; omega) | omega) _) | (refine Ext.setCell ?_ (by first | (simp; done) | (simp; omega) | omega) _) | (refine Ext.trans ?_ (by with_reducible assumption))))⟩
    · exact iSharedPower_yes e f V bb n hg hr w h
end Go.Proofs.Ytdagfocpbnamfaa

namespace Go.Proofs.Ytdagfocpbnamfaa
open Go Go.RowKit
set_option linter.unusedSimpArgs false
set_option linter.unusedVariables false
set_option maxRecDepth 100000

/-- There are a format and an infinite pattern. -/
def infB (e f p : Int) : Bool := patB e f p && (p % pw (e + f) / pw f == pw e - 1 && p % pw f == 0)

theorem hasInfinite_any (e f p : Int) (w : World) : Calls Try.prog 99 #[fmt e f, .int .i64 p, .func (.func 103) #[] #[]] w fun rv w' => rv = .returned (.bool (infB e f p)) ∧ Ext w w' := by
  cases hg : patB e f p
  · go_enter Try.func99, Try.ntmps99
    go_wp2_with (go_at_call 112; refine (isPattern_any e f _ _).mono ?_; rintro rv w1 ⟨rfl, hb⟩; have ns : w.heap.size < w1.heap.size := hb.lt (by first | with_reducible assumption | omega | (simp; done) | (simp; omega)); have n0 : w1.cell? ⟨w.heap.size, 0, none⟩ = some (.int .i64 e) := (hb.cells _ _ (by first | with_reducible assumption | omega | (simp; done) | (simp; omega))).trans (by first | with_reducible assumption | (simp; done) | (simp; with_reducible assumption) | (rw [cell_alloc_before _ _ _ _ (by omega)]; with_reducible assumption) | (simp [go_sem, *]; done)); have n1 : w1.cell? ⟨w.heap.size, 1, none⟩ = some (.int .i64 f) := (hb.cells _ _ (by first | with_reducible assumption | omega | (simp; done) | (simp; omega))).trans (by first | with_reducible assumption | (simp; done) | (simp; with_reducible assumption) | (rw [cell_alloc_before _ _ _ _ (by omega)]; with_reducible assumption) | (simp [go_sem, *]; done)); (first | (have nx := Ext.trans hx hb; clear hx) | (have nx := Ext.trans (hx.alloc _) hb; clear hx) | (have nx := Ext.trans hx.drew hb; clear hx) | have nx := hb); clear hb; try clear hs; try clear g0; try clear g1; have hx := nx; clear nx; have hs := ns; clear ns; have g0 := n0; clear n0; have g1 := n1; clear n1)
    go_ret
    exact ⟨ret_bool (by simp [infB, hg]), (by repeat (first | exact Ext.refl _ | with_reducible assumption | apply Ext.alloc | apply Ext.drew | apply Ext.drewN | (refine Ext.setRow ?_ (by first | (simp; done) | (simp; omega) | omega) _) | (refine Ext.setCell ?_ (by first | (simp; done) | (simp; omega) | omega) _) | (refine Ext.trans ?_ (by with_reducible assumption))))⟩
  · obtain ⟨hg0, hp0, hp1⟩ := pat_iff.1 hg
    obtain ⟨h1, h2, h3, h4⟩ := good_iff.1 hg0
    obtain ⟨⟨a1, a2⟩, ⟨b1, b2⟩, ⟨c1, c2⟩, hmul⟩ := pw_facts h1 h2 h3 h4
    clear hmul
    go_enter Try.func99, Try.ntmps99
    go_wp2_with (first | (go_at_call 112; refine (isPattern_any e f _ _).mono ?_; rintro rv w1 ⟨rfl, hb⟩; have ns : w.heap.size < w1.heap.size := hb.lt (by first | with_reducible assumption | omega | (simp; done) | (simp; omega)); have n0 : w1.cell? ⟨w.heap.size, 0, none⟩ = some (.int .i64 e) := (hb.cells _ _ (by first | with_reducible assumption | omega | (simp; done) | (simp; omega))).trans (by first | with_reducible assumption | (simp; done) | (simp; with_reducible assumption) | (rw [cell_alloc_before _ _ _ _ (by omega)]; with_reducible assumption) | (simp [go_sem, *]; done)); have n1 : w1.cell? ⟨w.heap.size, 1, none⟩ = some (.int .i64 f) := (hb.cells _ _ (by first | with_reducible assumption | omega | (simp; done) | (simp; omega))).trans (by first | with_reducible assumption | (simp; done) | (simp; with_reducible assumption) | (rw [cell_alloc_before _ _ _ _ (by omega)]; with_reducible assumption) | (simp [go_sem, *]; done)); (first | (have nx := Ext.trans hx hb; clear hx) | (have nx := Ext.trans (hx.alloc _) hb; clear hx) | (have nx := Ext.trans hx.drew hb; clear hx) | have nx := hb); clear hb; try clear hs; try clear g0; try clear g1; have hx := nx; clear nx; have hs := ns; clear ns; have g0 := n0; clear n0; have g1 := n1; clear n1) | (go_at_call 101; refine (shapeOf_any e f _ hg0 (by omega) (by omega) _).mono ?_; rintro rv w1 ⟨rfl, hb⟩; have ns : w.heap.size < w1.heap.size := hb.lt (by first | with_reducible assumption | omega | (simp; done) | (simp; omega)); have n0 : w1.cell? ⟨w.heap.size, 0, none⟩ = some (.int .i64 e) := (hb.cells _ _ (by first | with_reducible assumption | omega | (simp; done) | (simp; omega))).trans (by first | with_reducible assumption | (simp; done) | (simp; with_reducible assumption) | (rw [cell_alloc_before _ _ _ _ (by omega)]; with_reducible assumption) | (simp [go_sem, *]; done)); have n1 : w1.cell? ⟨w.heap.size, 1, none⟩ = some (.int .i64 f) := (hb.cells _ _ (by first | with_reducible assumption | omega | (simp; done) | (simp; omega))).trans (by first | with_reducible assumption | (simp; done) | (simp; with_reducible assumption) | (rw [cell_alloc_before _ _ _ _ (by omega)]; with_reducible assumption) | (simp [go_sem, *]; done)); (first | (have nx := Ext.trans hx hb; clear hx) | (have nx := Ext.trans (hx.alloc _) hb; clear hx) | (have nx := Ext.trans hx.drew hb; clear hx) | have nx := hb); clear hb; try clear hs; try clear g0; try clear g1; have hx := nx; clear nx; have hs := ns; clear ns; have g0 := n0; clear n0; have g1 := n1; clear n1) | (go_at_call 103; refine (shInfinite_any _ _ _ _ _).mono ?_; rintro rv w1 ⟨rfl, hb⟩; have ns : w.heap.size < w1.heap.size := hb.lt (by first | with_reducible assumption | omega | (simp; done) | (simp; omega)); have n0 : w1.cell? ⟨w.heap.size, 0, none⟩ = some (.int .i64 e) := (hb.cells _ _ (by first | with_reducible assumption | omega | (simp; done) | (simp; omega))).trans (by first | with_reducible assumption | (simp; done) | (simp; with_reducible assumption) | (rw [cell_alloc_before _ _ _ _ (by omega)]; with_reducible assumption) | (simp [go_sem, *]; done)); have n1 : w1.cell? ⟨w.heap.size, 1, none⟩ = some (.int .i64 f) := (hb.cells _ _ (by first | with_reducible assumption | omega | (simp; done) | (simp; omega))).trans (by first | with_reducible assumption | (simp; done) | (simp; with_reducible assumption) | (rw [cell_alloc_before _ _ _ _ (by omega)]; with_reducible assumption) | (simp [go_sem, *]; done)); (first | (have nx := Ext.trans hx hb; clear hx) | (have nx := Ext.trans (hx.alloc _) hb; clear hx) | (have nx := Ext.trans hx.drew hb; clear hx) | have nx := hb); clear hb; try clear hs; try clear g0; try clear g1; have hx := nx; clear nx; have hs := ns; clear ns; have g0 := n0; clear n0; have g1 := n1; clear n1))
    go_ret
    exact ⟨ret_bool (by simp [infB, hg]), (by repeat (first | exact Ext.refl _ | with_reducible assumption | apply Ext.alloc | apply Ext.drew | apply Ext.drewN | (refine Ext.setRow ?_ (by first | (simp; done) | (simp; omega) | omega) _) | (refine Ext.setCell ?_ (by first | (simp; done) | (simp; omega) | omega) _) | (refine Ext.trans ?_ (by with_reducible assumption))))⟩

/-- To what the size of n times 2^k units is rounded. -/
noncomputable def rqV (e f n k mode : Int) : Int := Classical.epsilon (fun s => RndD e f (n.natAbs : Int) k mode (decide (n < 0)) s)

theorem rq_eq {e f n k mode s : Int} (hg : goodB e f = true) (h : RndD e f (n.natAbs : Int) k mode (decide (n < 0)) s) : s = rqV e f n k mode ∧ 0 ≤ s ∧ s ≤ grV e f + 1 := by
  have h2 : RndD e f (n.natAbs : Int) k mode (decide (n < 0)) (rqV e f n k mode) := Classical.epsilon_spec (p := fun s => RndD e f (n.natAbs : Int) k mode (decide (n < 0)) s) ⟨s, h⟩
  exact ⟨rnd_one (good_iff.1 hg).2.2.1 (pw_pos 149) h h2, rnd_top h⟩

/-- The greatest finite value in place of an infinite one. -/
noncomputable def rfV (e f n k mode : Int) : Int := if rqV e f n k mode = grV e f + 1 then sgP e f n (grV e f) else sgP e f n (rqV e f n k mode)

theorem sg_pat {e f n s : Int} (hg : goodB e f = true) (h0 : 0 ≤ s) (h1 : s ≤ grV e f + 1) : patB e f (sgP e f n s) = true ∧ 0 ≤ sgP e f n s ∧ sgP e f n s ≤ 65535 ∧ sgP e f n s % pw (e + f) = s ∧ (sgP e f n s / pw (e + f) = 0 ∨ sgP e f n s / pw (e + f) = 1) ∧ sgP e f n s / pw (e + f) * pw (e + f) + s = sgP e f n s ∧ sgP e f n s % pw f = s % pw f := by
  obtain ⟨g0, g1, g2⟩ := gr_bd2 hg
  obtain ⟨i1, i2, i3, i4⟩ := good_iff.1 hg
  have pp := pw_pos (e + f)
  have p15 : pw (e + f) ≤ 32768 := pw_le 15 32768 rfl (by omega)
  have pf := pw_pos f
  have hef := pw_add e f (by omega) (by omega)
  have hgr : grV e f + 1 + pw f = pw (e + f) := by unfold grV; rw [hef, Int.sub_mul]; omega
  have hlt : s < pw (e + f) := by omega
  have em : s % pw (e + f) = s := Int.emod_eq_of_lt h0 hlt
  have ed : s / pw (e + f) = 0 := Int.ediv_eq_zero_of_lt h0 hlt
  unfold sgP
  by_cases hn : n < 0
  · rw [if_pos hn]
    have e1 : (pw (e + f) + s) % pw (e + f) = s := by rw [Int.add_comm, Int.add_emod_right, em]
    have e2 : (pw (e + f) + s) / pw (e + f) = 1 := by
      have := Int.add_mul_ediv_right s 1 (show pw (e + f) ≠ 0 by omega)
      rw [Int.one_mul, ed] at this
      rw [Int.add_comm, this]; rfl
    have e3 : (pw (e + f) + s) % pw f = s % pw f := by
      rw [hef, Int.add_comm]
      exact Int.add_mul_emod_self_right _ _ _
    exact ⟨pat_iff.2 ⟨hg, by omega, by omega⟩, by omega, by omega, e1, Or.inr e2, by rw [e2]; omega, e3⟩
  · rw [if_neg hn]
    exact ⟨pat_iff.2 ⟨hg, by omega, by omega⟩, by omega, by omega, em, Or.inl ed, by rw [ed]; omega, rfl⟩

theorem top_iff {e f s : Int} (hg : goodB e f = true) (h0 : 0 ≤ s) (h1 : s ≤ grV e f + 1) : ((s / pw f == pw e - 1) = true ∧ (s % pw f == 0) = true) ↔ s = grV e f + 1 := by
  have pf := pw_pos f
  have hgr : grV e f + 1 = (pw e - 1) * pw f := by unfold grV; omega
  rw [beq_iff_eq, beq_iff_eq, hgr]
  constructor
  · rintro ⟨a, b⟩
    have := Int.emod_add_mul_ediv s (pw f)
    rw [a, b, Int.zero_add, Int.mul_comm] at this
    exact this.symm
  · rintro rfl
    exact ⟨Int.mul_ediv_cancel _ (by omega), Int.mul_emod_left _ _⟩

theorem inf_sg {e f n s : Int} (hg : goodB e f = true) (h0 : 0 ≤ s) (h1 : s ≤ grV e f + 1) : infB e f (sgP e f n s) = decide (s = grV e f + 1) ∧ (kindV e f (sgP e f n s) == 3) = decide (s = grV e f + 1) := by
  obtain ⟨q1, q2, q3, q4, q5, q6, q7⟩ := sg_pat (n := n) hg h0 h1
  have ti := top_iff hg h0 h1
  unfold infB kindV
  rw [q1, q4, q7, Bool.true_and]
  by_cases h : s = grV e f + 1
  · obtain ⟨a, b⟩ := ti.2 h
    rw [a, b, decide_eq_true h]
    exact ⟨rfl, rfl⟩
  · rw [decide_eq_false h]
    refine ⟨?_, ?_⟩
    · rw [Bool.and_eq_false_iff]
      by_cases a : (s / pw f == pw e - 1) = true
      · right
        by_cases b : (s % pw f == 0) = true
        · exact absurd (ti.1 ⟨a, b⟩) h
        · simpa using b
      · left; simpa using a
    · by_cases a : (s / pw f == pw e - 1) = true
      · rw [if_pos a]
        by_cases b : (s % pw f == 0) = true
        · exact absurd (ti.1 ⟨a, b⟩) h
        · rw [if_neg b]; rfl
      · rw [if_neg a]
        split
        · rfl
        · split <;> rfl

set_option maxHeartbeats 1600000 in
theorem roundFinite_any (e f n d mode : Int) (hg : goodB e f = true) (n0 : -4611686018427387904 < n) (n1 : n < 4611686018427387904) (k0 : -149 ≤ (d - unV e f)) (k1 : (d - unV e f) ≤ 149) (m0 : 0 ≤ mode) (m1 : mode ≤ 5) (w : World) :
    Calls Try.prog 144 #[fmt e f, .int .i64 n, .int .i64 d, .int .i64 mode] w fun rv w' => rv = .returned (.int .i64 (rfV e f n (d - unV e f) mode)) ∧ Ext w w' := by
  have RS := Lib.hid (fun w => roundScaled_any e f n d mode hg n0 n1 k0 k1 m0 m1 w)
  have H1 := Lib.hid (fun s => rq_eq (n := n) (k := d - unV e f) (mode := mode) (s := s) hg)
  go_enter Try.func144, Try.ntmps144
  go_wp2_with (go_at_call 171; refine (RS.out _).mono ?_; rintro rv w1 ⟨s, rfl, hq, hb⟩; have HQ := Lib.hid hq; clear hq; have ns : w.heap.size < w1.heap.size := hb.lt (by first | with_reducible assumption | omega | (simp; done) | (simp; omega)); have n0 : w1.cell? ⟨w.heap.size, 0, none⟩ = some (.int .i64 e) := (hb.cells _ _ (by first | with_reducible assumption | omega | (simp; done) | (simp; omega))).trans (by first | with_reducible assumption | (simp; done) | (simp; with_reducible assumption) | (rw [cell_alloc_before _ _ _ _ (by omega)]; with_reducible assumption) | (simp [go_sem, *]; done)); have n1 : w1.cell? ⟨w.heap.size, 1, none⟩ = some (.int .i64 f) := (hb.cells _ _ (by first | with_reducible assumption | omega | (simp; done) | (simp; omega))).trans (by first | with_reducible assumption | (simp; done) | (simp; with_reducible assumption) | (rw [cell_alloc_before _ _ _ _ (by omega)]; with_reducible assumption) | (simp [go_sem, *]; done)); (first | (have nx := Ext.trans hx hb; clear hx) | (have nx := Ext.trans (hx.alloc _) hb; clear hx) | (have nx := Ext.trans hx.drew hb; clear hx) | have nx := hb); clear hb; try clear hs; try clear g0; try clear g1; have hx := nx; clear nx; have hs := ns; clear ns; have g0 := n0; clear n0; have g1 := n1; clear n1)
  obtain ⟨hs, s0, s1⟩ := H1.out s HQ.out
  obtain ⟨q1, q2, q3, q4, q5, q6, q7⟩ := sg_pat (n := n) hg s0 s1
  obtain ⟨i1, i2⟩ := inf_sg (n := n) hg s0 s1
  have HI := Lib.hid (fun w => hasInfinite_any e f (sgP e f n s) w)
  rw [i1] at HI
  have HZ : RowKit.Hid (rfV e f n (d - unV e f) mode = if s = grV e f + 1 then sgP e f n s - 1 else sgP e f n s) := Lib.hid (by
    unfold rfV
    rw [← hs]
    by_cases h : s = grV e f + 1
    · rw [if_pos h, if_pos h]
      unfold sgP
      split <;> omega
    · rw [if_neg h, if_neg h])
  clear hs q1 q4 q5 q6 q7 i1 i2 RS H1 HQ
  by_cases h : s = grV e f + 1
  · rw [if_pos h] at HZ
    rw [decide_eq_true h] at HI
    clear h
    generalize sgP e f n s = P at *
    have k1 : IntKind.i64.wrap (P - 1) = P - 1 := IntWalk.i64_in _ (by omega)
    go_wp2_with (go_at_call 99; refine (HI.out _).mono ?_; rintro rv w1 ⟨rfl, hb⟩; have ns : w.heap.size < w1.heap.size := hb.lt (by first | with_reducible assumption | omega | (simp; done) | (simp; omega)); have n0 : w1.cell? ⟨w.heap.size, 0, none⟩ = some (.int .i64 e) := (hb.cells _ _ (by first | with_reducible assumption | omega | (simp; done) | (simp; omega))).trans (by first | with_reducible assumption | (simp; done) | (simp; with_reducible assumption) | (rw [cell_alloc_before _ _ _ _ (by omega)]; with_reducible assumption) | (simp [go_sem, *]; done)); have n1 : w1.cell? ⟨w.heap.size, 1, none⟩ = some (.int .i64 f) := (hb.cells _ _ (by first | with_reducible assumption | omega | (simp; done) | (simp; omega))).trans (by first | with_reducible assumption | (simp; done) | (simp; with_reducible assumption) | (rw [cell_alloc_before _ _ _ _ (by omega)]; with_reducible assumption) | (simp [go_sem, *]; done)); (first | (have nx := Ext.trans hx hb; clear hx) | (have nx := Ext.trans (hx.alloc _) hb; clear hx) | (have nx := Ext.trans hx.drew hb; clear hx) | have nx := hb); clear hb; try clear hs; try clear g0; try clear g1; have hx := nx; clear nx; have hs := ns; clear ns; have g0 := n0; clear n0; have g1 := n1; clear n1)
    go_ret
    exact ⟨by rw [HZ.out]; rfl, (by repeat (first | exact Ext.refl _ | with_reducible assumption | apply Ext.alloc | apply Ext.drew | apply Ext.drewN | (refine Ext.setRow ?_ (by first | (simp; done) | (simp; omega) | omega) _) | (refine Ext.setCell ?_ (by first | (simp; done) | (simp; omega) | omega) _) | (refine Ext.trans ?_ (by with_reducible assumption))))⟩
  · rw [if_neg h] at HZ
    rw [decide_eq_false h] at HI
    clear h
    generalize sgP e f n s = P at *
    go_wp2_with (go_at_call 99; refine (HI.out _).mono ?_; rintro rv w1 ⟨rfl, hb⟩; have ns : w.heap.size < w1.heap.size := hb.lt (by first | with_reducible assumption | omega | (simp; done) | (simp; omega)); have n0 : w1.cell? ⟨w.heap.size, 0, none⟩ = some (.int .i64 e) := (hb.cells _ _ (by first | with_reducible assumption | omega | (simp; done) | (simp; omega))).trans (by first | with_reducible assumption | (simp; done) | (simp; with_reducible assumption) | (rw [cell_alloc_before _ _ _ _ (by omega)]; with_reducible assumption) | (simp [go_sem, *]; done)); have n1 : w1.cell? ⟨w.heap.size, 1, none⟩ = some (.int .i64 f) := (hb.cells _ _ (by first | with_reducible assumption | omega | (simp; done) | (simp; omega))).trans (by first | with_reducible assumption | (simp; done) | (simp; with_reducible assumption) | (rw [cell_alloc_before _ _ _ _ (by omega)]; with_reducible assumption) | (simp [go_sem, *]; done)); (first | (have nx := Ext.trans hx hb; clear hx) | (have nx := Ext.trans (hx.alloc _) hb; clear hx) | (have nx := Ext.trans hx.drew hb; clear hx) | have nx := hb); clear hb; try clear hs; try clear g0; try clear g1; have hx := nx; clear nx; have hs := ns; clear ns; have g0 := n0; clear n0; have g1 := n1; clear n1)
    go_ret
    exact ⟨by rw [HZ.out]; rfl, (by repeat (first | exact Ext.refl _ | with_reducible assumption | apply Ext.alloc | apply Ext.drew | apply Ext.drewN | (refine Ext.setRow ?_ (by first | (simp; done) | (simp; omega) | omega) _) | (refine Ext.setCell ?_ (by first | (simp; done) | (simp; omega) | omega) _) | (refine Ext.trans ?_ (by with_reducible assumption))))⟩

set_option maxHeartbeats 1600000 in
theorem blClip_sg (e f n s : Int) (hg : goodB e f = true) (s0 : 0 ≤ s) (s1 : s ≤ grV e f + 1) (w : World) :
    Calls Try.prog 141 #[fmt e f, .int .i64 (sgP e f n s)] w fun rv w' => rv = .returned (.int .i64 (if s = grV e f + 1 then sgP e f n (grV e f) else sgP e f n s)) ∧ Ext w w' := by
  obtain ⟨q1, q2, q3, q4, q5, q6, q7⟩ := sg_pat (n := n) hg s0 s1
  obtain ⟨i1, i2⟩ := inf_sg (n := n) hg s0 s1
  have FK := Lib.hid (fun w => fmKind_any e f (sgP e f n s) q1 w)
  have HZ : RowKit.Hid (s = grV e f + 1 → sgP e f n s / pw (e + f) * pw (e + f) + grV e f = sgP e f n (grV e f)) := Lib.hid (fun h => by
    have : sgP e f n s = sgP e f n (grV e f) + 1 := by unfold sgP; split <;> omega
    omega)
  obtain ⟨g0, g1, g2⟩ := gr_bd2 hg
  have FS := Lib.hid (fun w => fmSign_any e f (sgP e f n s) hg q2 w)
  have FG := Lib.hid (fun w => fmGreatest_any e f hg w)
  have FO := Lib.hid (fun w => fmOf_any e f (sgP e f n s / pw (e + f)) (grV e f) hg (by omega) (by omega) (by omega) (by omega) w)
  have hgr : (pw e - 1) * pw f - 1 = grV e f := rfl
  rw [hgr] at FG
  clear hgr q1 q4 q6 q7 i1
  by_cases h : s = grV e f + 1
  · rw [if_pos h]
    rw [decide_eq_true h] at i2
    have HZ2 := Lib.hid (HZ.out h)
    clear h HZ
    generalize kindV e f (sgP e f n s) = K at *
    generalize sgP e f n s / pw (e + f) = Q at *
    generalize sgP e f n s = P at *
    generalize sgP e f n (grV e f) = R at *
    generalize grV e f = G at *
    have i3 : K = 3 := by simpa using i2
    subst i3
    clear i2
    go_enter Try.func141, Try.ntmps141
    go_wp2_with (first | (go_at_call 128; refine (FK.out _).mono ?_; rintro rv w1 ⟨rfl, hb⟩; have ns : w.heap.size < w1.heap.size := hb.lt (by first | with_reducible assumption | omega | (simp; done) | (simp; omega)); have n0 : w1.cell? ⟨w.heap.size, 0, none⟩ = some (.int .i64 e) := (hb.cells _ _ (by first | with_reducible assumption | omega | (simp; done) | (simp; omega))).trans (by first | with_reducible assumption | (simp; done) | (simp; with_reducible assumption) | (rw [cell_alloc_before _ _ _ _ (by omega)]; with_reducible assumption) | (simp [go_sem, *]; done)); have n1 : w1.cell? ⟨w.heap.size, 1, none⟩ = some (.int .i64 f) := (hb.cells _ _ (by first | with_reducible assumption | omega | (simp; done) | (simp; omega))).trans (by first | with_reducible assumption | (simp; done) | (simp; with_reducible assumption) | (rw [cell_alloc_before _ _ _ _ (by omega)]; with_reducible assumption) | (simp [go_sem, *]; done)); (first | (have nx := Ext.trans hx hb; clear hx) | (have nx := Ext.trans (hx.alloc _) hb; clear hx) | (have nx := Ext.trans hx.drew hb; clear hx) | have nx := hb); clear hb; try clear hs; try clear g0; try clear g1; have hx := nx; clear nx; have hs := ns; clear ns; have g0 := n0; clear n0; have g1 := n1; clear n1) | (go_at_call 156; refine (FS.out _).mono ?_; rintro rv w1 ⟨rfl, hb⟩; have ns : w.heap.size < w1.heap.size := hb.lt (by first | with_reducible assumption | omega | (simp; done) | (simp; omega)); have n0 : w1.cell? ⟨w.heap.size, 0, none⟩ = some (.int .i64 e) := (hb.cells _ _ (by first | with_reducible assumption | omega | (simp; done) | (simp; omega))).trans (by first | with_reducible assumption | (simp; done) | (simp; with_reducible assumption) | (rw [cell_alloc_before _ _ _ _ (by omega)]; with_reducible assumption) | (simp [go_sem, *]; done)); have n1 : w1.cell? ⟨w.heap.size, 1, none⟩ = some (.int .i64 f) := (hb.cells _ _ (by first | with_reducible assumption | omega | (simp; done) | (simp; omega))).trans (by first | with_reducible assumption | (simp; done) | (simp; with_reducible assumption) | (rw [cell_alloc_before _ _ _ _ (by omega)]; with_reducible assumption) | (simp [go_sem, *]; done)); (first | (have nx := Ext.trans hx hb; clear hx) | (have nx := Ext.trans (hx.alloc _) hb; clear hx) | (have nx := Ext.trans hx.drew hb; clear hx) | have nx := hb); clear hb; try clear hs; try clear g0; try clear g1; have hx := nx; clear nx; have hs := ns; clear ns; have g0 := n0; clear n0; have g1 := n1; clear n1) | (go_at_call 123; refine (FG.out _).mono ?_; rintro rv w1 ⟨rfl, hb⟩; have ns : w.heap.size < w1.heap.size := hb.lt (by first | with_reducible assumption | omega | (simp; done) | (simp; omega)); have n0 : w1.cell? ⟨w.heap.size, 0, none⟩ = some (.int .i64 e) := (hb.cells _ _ (by first | with_reducible assumption | omega | (simp; done) | (simp; omega))).trans (by first | with_reducible assumption | (simp; done) | (simp; with_reducible assumption) | (rw [cell_alloc_before _ _ _ _ (by omega)]; with_reducible assumption) | (simp [go_sem, *]; done)); have n1 : w1.cell? ⟨w.heap.size, 1, none⟩ = some (.int .i64 f) := (hb.cells _ _ (by first | with_reducible assumption | omega | (simp; done) | (simp; omega))).trans (by first | with_reducible assumption | (simp; done) | (simp; with_reducible assumption) | (rw [cell_alloc_before _ _ _ _ (by omega)]; with_reducible assumption) | (simp [go_sem, *]; done)); (first | (have nx := Ext.trans hx hb; clear hx) | (have nx := Ext.trans (hx.alloc _) hb; clear hx) | (have nx := Ext.trans hx.drew hb; clear hx) | have nx := hb); clear hb; try clear hs; try clear g0; try clear g1; have hx := nx; clear nx; have hs := ns; clear ns; have g0 := n0; clear n0; have g1 := n1; clear n1) | (go_at_call 92; refine (FO.out _).mono ?_; rintro rv w1 ⟨rfl, hb⟩; have ns : w.heap.size < w1.heap.size := hb.lt (by first | with_reducible assumption | omega | (simp; done) | (simp; omega)); have n0 : w1.cell? ⟨w.heap.size, 0, none⟩ = some (.int .i64 e) := (hb.cells _ _ (by first | with_reducible assumption | omega | (simp; done) | (simp; omega))).trans (by first | with_reducible assumption | (simp; done) | (simp; with_reducible assumption) | (rw [cell_alloc_before _ _ _ _ (by omega)]; with_reducible assumption) | (simp [go_sem, *]; done)); have n1 : w1.cell? ⟨w.heap.size, 1, none⟩ = some (.int .i64 f) := (hb.cells _ _ (by first | with_reducible assumption | omega | (simp; done) | (simp; omega))).trans (by first | with_reducible assumption | (simp; done) | (simp; with_reducible assumption) | (rw [cell_alloc_before _ _ _ _ (by omega)]; with_reducible assumption) | (simp [go_sem, *]; done)); (first | (have nx := Ext.trans hx hb; clear hx) | (have nx := Ext.trans (hx.alloc _) hb; clear hx) | (have nx := Ext.trans hx.drew hb; clear hx) | have nx := hb); clear hb; try clear hs; try clear g0; try clear g1; have hx := nx; clear nx; have hs := ns; clear ns; have g0 := n0; clear n0; have g1 := n1; clear n1))
    try (go_region_held3 (fun w' => w'.cell? ⟨w.heap.size, 0, none⟩ = some (.int .i64 e) ∧ w'.cell? ⟨w.heap.size, 1, none⟩ = some (.int .i64 f) ∧ w.heap.size < w'.heap.size) ((refine ⟨?_, ?_, ?_⟩ <;> first | with_reducible assumption | ((rw [cell_setRow_far _ _ _ _ _ (by omega)]); with_reducible assumption) | ((rw [setRow_size]); with_reducible assumption) | ((repeat rw [World.cell?_setCell_far _ _ _ _ (by simp)]); with_reducible assumption) | (simp; done) | (simp [World.setCell]; first | done | omega) | (simp [go_sem, World.cell?_alloc_past, World.cell?_setCell_far, *]; done))) ((first | (go_at_call 156; refine (FS.out _).mono ?_; rintro rv w1 ⟨rfl, hb⟩; have ns : w.heap.size < w1.heap.size := hb.lt (by first | with_reducible assumption | omega | (simp; done) | (simp; omega)); have n0 : w1.cell? ⟨w.heap.size, 0, none⟩ = some (.int .i64 e) := (hb.cells _ _ (by first | with_reducible assumption | omega | (simp; done) | (simp; omega))).trans (by first | with_reducible assumption | (simp; done) | (simp; with_reducible assumption) | (rw [cell_alloc_before _ _ _ _ (by omega)]; with_reducible assumption) | (simp [go_sem, *]; done)); have n1 : w1.cell? ⟨w.heap.size, 1, none⟩ = some (.int .i64 f) := (hb.cells _ _ (by first | with_reducible assumption | omega | (simp; done) | (simp; omega))).trans (by first | with_reducible assumption | (simp; done) | (simp; with_reducible assumption) | (rw [cell_alloc_before _ _ _ _ (by omega)]; with_reducible assumption) | (simp [go_sem, *]; done)); (first | (have nx := Ext.trans hx hb; clear hx) | (have nx := Ext.trans (hx.alloc _) hb; clear hx) | (have nx := Ext.trans hx.drew hb; clear hx) | have nx := hb); clear hb; try clear hs; try clear g0; try clear g1; have hx := nx; clear nx; have hs := ns; clear ns; have g0 := n0; clear n0; have g1 := n1; clear n1) | (go_at_call 123; refine (FG.out _).mono ?_; rintro rv w1 ⟨rfl, hb⟩; have ns : w.heap.size < w1.heap.size := hb.lt (by first | with_reducible assumption | omega | (simp; done) | (simp; omega)); have n0 : w1.cell? ⟨w.heap.size, 0, none⟩ = some (.int .i64 e) := (hb.cells _ _ (by first | with_reducible assumption | omega | (simp; done) | (simp; omega))).trans (by first | with_reducible assumption | (simp; done) | (simp; with_reducible assumption) | (rw [cell_alloc_before _ _ _ _ (by omega)]; with_reducible assumption) | (simp [go_sem, *]; done)); have n1 : w1.cell? ⟨w.heap.size, 1, none⟩ = some (.int .i64 f) := (hb.cells _ _ (by first | with_reducible assumption | omega | (simp; done) | (simp; omega))).trans (by first | with_reducible assumption | (simp; done) | (simp; with_reducible assumption) | (rw [cell_alloc_before _ _ _ _ (by omega)]; with_reducible assumption) | (simp [go_sem, *]; done)); (first | (have nx := Ext.trans hx hb; clear hx) | (have nx := Ext.trans (hx.alloc _) hb; clear hx) | (have nx := Ext.trans hx.drew hb; clear hx) | have nx := hb); clear hb; try clear hs; try clear g0; try clear g1; have hx := nx; clear nx; have hs := ns; clear ns; have g0 := n0; clear n0; have g1 := n1; clear n1) | (go_at_call 92; refine (FO.out _).mono ?_; rintro rv w1 ⟨rfl, hb⟩; have ns : w.heap.size < w1.heap.size := hb.lt (by first | with_reducible assumption | omega | (simp; done) | (simp; omega)); have n0 : w1.cell? ⟨w.heap.size, 0, none⟩ = some (.int .i64 e) := (hb.cells _ _ (by first | with_reducible assumption | omega | (simp; done) | (simp; omega))).trans (by first | with_reducible assumption | (simp; done) | (simp; with_reducible assumption) | (rw [cell_alloc_before _ _ _ _ (by omega)]; with_reducible assumption) | (simp [go_sem, *]; done)); have n1 : w1.cell? ⟨w.heap.size, 1, none⟩ = some (.int .i64 f) := (hb.cells _ _ (by first | with_reducible assumption | omega | (simp; done) | (simp; omega))).trans (by first | with_reducible assumption | (simp; done) | (simp; with_reducible assumption) | (rw [cell_alloc_before _ _ _ _ (by omega)]; with_reducible assumption) | (simp [go_sem, *]; done)); (first | (have nx := Ext.trans hx hb; clear hx) | (have nx := Ext.trans (hx.alloc _) hb; clear hx) | (have nx := Ext.trans hx.drew hb; clear hx) | have nx := hb); clear hb; try clear hs; try clear g0; try clear g1; have hx := nx; clear nx; have hs := ns; clear ns; have g0 := n0; clear n0; have g1 := n1; clear n1))))
    all_goals (try go_wp2_with fail)
    all_goals go_ret
    all_goals exact ⟨by rw [HZ2.out]; rfl, (by repeat (first | exact Ext.refl _ | with_reducible assumption | apply Ext.alloc | apply Ext.drew | apply Ext.drewN | (refine Ext.setRow ?_ (by first | (simp; done) | (simp; omega) | omega) _) | (refine Ext.setCell ?_ (by first | (simp; done) | (simp; omega) | omega) _) | (refine Ext.trans ?_ (by with_reducible assumption))))⟩
  · rw [if_neg h]
    rw [decide_eq_false h] at i2
    clear h HZ
    generalize kindV e f (sgP e f n s) = K at *
    generalize sgP e f n s = P at *
    go_enter Try.func141, Try.ntmps141
    go_wp2_with (go_at_call 128; refine (FK.out _).mono ?_; rintro rv w1 ⟨rfl, hb⟩; have ns : w.heap.size < w1.heap.size := hb.lt (by first | with_reducible assumption | omega | (simp; done) | (simp; omega)); have n0 : w1.cell? ⟨w.heap.size, 0, none⟩ = some (.int .i64 e) := (hb.cells _ _ (by first | with_reducible assumption | omega | (simp; done) | (simp; omega))).trans (by first | with_reducible assumption | (simp; done) | (simp; with_reducible assumption) | (rw [cell_alloc_before _ _ _ _ (by omega)]; with_reducible assumption) | (simp [go_sem, *]; done)); have n1 : w1.cell? ⟨w.heap.size, 1, none⟩ = some (.int .i64 f) := (hb.cells _ _ (by first | with_reducible assumption | omega | (simp; done) | (simp; omega))).trans (by first | with_reducible assumption | (simp; done) | (simp; with_reducible assumption) | (rw [cell_alloc_before _ _ _ _ (by omega)]; with_reducible assumption) | (simp [go_sem, *]; done)); (first | (have nx := Ext.trans hx hb; clear hx) | (have nx := Ext.trans (hx.alloc _) hb; clear hx) | (have nx := Ext.trans hx.drew hb; clear hx) | have nx := hb); clear hb; try clear hs; try clear g0; try clear g1; have hx := nx; clear nx; have hs := ns; clear ns; have g0 := n0; clear n0; have g1 := n1; clear n1)
    go_ret
    exact ⟨rfl, (by repeat (first | exact Ext.refl _ | with_reducible assumption | apply Ext.alloc | apply Ext.drew | apply Ext.drewN | (refine Ext.setRow ?_ (by first | (simp; done) | (simp; omega) | omega) _) | (refine Ext.setCell ?_ (by first | (simp; done) | (simp; omega) | omega) _) | (refine Ext.trans ?_ (by with_reducible assumption))))⟩
end Go.Proofs.Ytdagfocpbnamfaa

namespace Go.Proofs.Ytdagfocpbnamfaa
open Go Go.RowKit
set_option linter.unusedSimpArgs false
set_option linter.unusedVariables false
set_option maxRecDepth 100000

/-- The first k patterns. -/
def patL (Q : Nat → Int) (k : Nat) : List Value := (List.range k).map (fun j => .int .i64 (Q j))

theorem patL_succ (Q : Nat → Int) (k : Nat) : patL Q (k + 1) = patL Q k ++ [.int .i64 (Q k)] := by unfold patL; rw [List.range_succ]; simp
end Go.Proofs.Ytdagfocpbnamfaa

namespace Go.Proofs.Ytdagfocpbnamfaa
open Go Go.RowKit
set_option linter.unusedSimpArgs false
set_option linter.unusedVariables false
set_option maxRecDepth 100000

noncomputable def sx0 (e f a b : Int) : Int := nsV e f ((unitsV e f a) + (unitsV e f b))

noncomputable def sb0 (e f a b : Int) : Bool := nsB e f ((unitsV e f a) + (unitsV e f b))

noncomputable def sb1 (e f a b : Int) : Bool := nsB e f (unitsV e f (sx0 e f a b) - (unitsV e f a))
end Go.Proofs.Ytdagfocpbnamfaa

namespace Go.Proofs.Ytdagfocpbnamfaa
open Go Go.RowKit
set_option linter.unusedSimpArgs false
set_option linter.unusedVariables false
set_option maxRecDepth 100000

/-- A slice of n numbers in a block of its own, or of none. -/
def OwnL (w : World) (p : Option Addr) (n : Nat) (V : Nat → Int) : Prop := 0 < n → ∃ b c f, p = some ⟨b, 0, none⟩ ∧ w.rowIs b 3 c f ∧ n ≤ c ∧ ∀ i, i < n → f i = .int .i64 (V i)

/-- Behind a number of blocks. -/
def Past (p : Option Addr) (n B : Nat) : Prop := 0 < n → ∀ b, p = some ⟨b, 0, none⟩ → B ≤ b

theorem OwnL.block {w w' : World} {p : Option Addr} {n : Nat} {V : Nat → Int} (h : OwnL w p n V) (hw : 0 < n → ∀ b, p = some ⟨b, 0, none⟩ → w'.heap[b]? = w.heap[b]?) : OwnL w' p n V := fun hn => by
  obtain ⟨b, c, f, rfl, hr, hc, hf⟩ := h hn
  exact ⟨b, c, f, rfl, hr.of_block (hw hn b rfl), hc, hf⟩

theorem OwnL.lt {w : World} {p : Option Addr} {n : Nat} {V : Nat → Int} (h : OwnL w p n V) (hn : 0 < n) {b : Nat} (hp : p = some ⟨b, 0, none⟩) : b < w.heap.size := by
  obtain ⟨b2, c, f, rfl, hr, _⟩ := h hn
  cases hp
  exact hr.lt

theorem OwnL.ext {w w' : World} {p : Option Addr} {n : Nat} {V : Nat → Int} (h : OwnL w p n V) (hx : Ext w w') : OwnL w' p n V := h.block (fun hn b hp => hx.block _ (h.lt hn hp))

/-- A row that a function owns. -/
theorem own_form {w : World} {B n : Nat} {v : Value} {Q : Nat → Int} (h : w.ownsRow B 3 1 v n (patL Q n)) : ∃ p cap, v = .slice p n cap ∧ OwnL w p n Q ∧ Past p n B := by
  rcases h with ⟨hl, ⟨rfl, rfl⟩ | ⟨g, cap, cur, rfl, hb, hg, hn, hm, hs, ht⟩⟩
  · exact ⟨none, 0, rfl, fun h => absurd h (by decide), fun h => absurd h (by decide)⟩
  · refine ⟨_, cap, rfl, fun _ => ⟨g, cur.size, fun i => cur.getD i default, rfl, ⟨cur, hg, rfl, fun i hi => ?_⟩, by omega, fun i hi => ?_⟩, fun _ b hp => ?_⟩
    · simp [hi]
    · have e : (cur.toList.take (n * 1))[i]? = (patL Q n)[i]? := by rw [ht]
      rw [List.getElem?_take, if_pos (by omega)] at e
      unfold patL at e
      simp [hi] at e
      simp [e]
    · cases hp; exact hb

theorem row_own {w : World} {g n : Nat} {V : Nat → Int} (h : w.rowIs g 3 n (fun i => .int .i64 (V i))) : OwnL w (some ⟨g, 0, none⟩) n V := fun _ => ⟨g, n, _, rfl, h, Nat.le_refl _, fun _ _ => rfl⟩

set_option maxHeartbeats 1600000 in
theorem eqIntS_own (p q : Option Addr) (n c1 c2 : Nat) (V : Nat → Int) (hn : n ≤ 1048576) (w : World) (hp : OwnL w p n V) (hq : OwnL w q n V) : Calls Try.prog 18 #[.slice p n c1, .slice q n c2] w fun rv w' => rv = .returned (.bool true) ∧ Ext w w' := by
  go_enter Try.func18, Try.ntmps18
  go_wp2
  go_loopw [5] (fun x wr => ∃ k : Nat, x = .int .i64 (k : Int) ∧ k ≤ n ∧ OwnL wr p n V ∧ OwnL wr q n V ∧ Ext w wr) (fun x _ => n - (intOf x).toNat)
  case atStart => exact ⟨0, rfl, by omega, hp, hq, Ext.refl _⟩
  case round =>
    obtain ⟨k, rfl, hk, hra, hrb, hx⟩ := hrel
    by_cases hlt : k < n
    · obtain ⟨b1, d1, f1, rfl, ra, l1, e1⟩ := hra (by omega)
      obtain ⟨b2, d2, f2, rfl, rb, l2, e2⟩ := hrb (by omega)
      have h1 : ((k : Nat) : Int) < (n : Int) := by omega
      have h0 : (0 : Int) ≤ (k : Int) := by omega
      have h2 : ((k : Int)).toNat = k := by omega
      have u1 : IntKind.i64.wrap ((k : Int) + 1) = (k : Int) + 1 := IntWalk.i64_in _ (by omega)
      have u2 : IntKind.i64.wrap (1 + (k : Int) + 1) = 1 + (k : Int) + 1 := IntWalk.i64_in _ (by omega)
      have g1 : wr.cell? ⟨b1, k, none⟩ = some (.int .i64 (V k)) := by rw [ra.cell (by omega), e1 k hlt]
      have g2 : wr.cell? ⟨b2, k, none⟩ = some (.int .i64 (V k)) := by rw [rb.cell (by omega), e2 k hlt]
      have HA := Lib.hid hra
      have HB := Lib.hid hrb
      clear hra hrb hp hq ra rb e1 e2
      go_wp2_with fail
      go_region
      go_wp2_with fail
      go_roundw
      case rel => exact ⟨k + 1, by simp, by omega, HA.out.ext (by repeat (first | exact Ext.refl _ | with_reducible assumption | apply Ext.alloc | apply Ext.drew | apply Ext.drewN | (refine Ext.setRow ?_ (by first | (simp; done) | (simp; omega) | omega) _) | (refine Ext.setCell ?_ (by first | (simp; done) | (simp; omega) | omega) _) | (refine Ext.trans ?_ (by with_reducible assumption)))), HB.out.ext (by repeat (first | exact Ext.refl _ | with_reducible assumption | apply Ext.alloc | apply Ext.drew | apply Ext.drewN | (refine Ext.setRow ?_ (by first | (simp; done) | (simp; omega) | omega) _) | (refine Ext.setCell ?_ (by first | (simp; done) | (simp; omega) | omega) _) | (refine Ext.trans ?_ (by with_reducible assumption)))), (by repeat (first | exact Ext.refl _ | with_reducible assumption | apply Ext.alloc | apply Ext.drew | apply Ext.drewN | (refine Ext.setRow ?_ (by first | (simp; done) | (simp; omega) | omega) _) | (refine Ext.setCell ?_ (by first | (simp; done) | (simp; omega) | omega) _) | (refine Ext.trans ?_ (by with_reducible assumption))))⟩
      case measure => simp [intOf]; omega
    · have h1 : ¬ ((k : Nat) : Int) < (n : Int) := by omega
      go_wp2_with fail
      go_ret
      exact ⟨rfl, (by repeat (first | exact Ext.refl _ | with_reducible assumption | apply Ext.alloc | apply Ext.drew | apply Ext.drewN | (refine Ext.setRow ?_ (by first | (simp; done) | (simp; omega) | omega) _) | (refine Ext.setCell ?_ (by first | (simp; done) | (simp; omega) | omega) _) | (refine Ext.trans ?_ (by with_reducible assumption))))⟩

set_option maxHeartbeats 1600000 in
theorem heldIntS_own (p : Option Addr) (n c1 : Nat) (hn : n ≤ 1048576) (w : World) (hp : OwnL w p n (fun i => 1 + (i : Int))) : Calls Try.prog 20 #[.slice p n c1, .int .i64 1] w fun rv w' => rv = .returned (.int .i64 (1 + (n : Int))) ∧ Ext w w' := by
  go_enter Try.func20, Try.ntmps20
  go_wp2
  go_loopw [1, 5] (fun y x wr => ∃ k : Nat, x = .int .i64 (k : Int) ∧ k ≤ n ∧ y = .int .i64 (1 + (k : Int)) ∧ OwnL wr p n (fun i => 1 + (i : Int)) ∧ Ext w wr) (fun _ x _ => n - (intOf x).toNat)
  case atStart => exact ⟨0, rfl, by omega, by simp, hp, Ext.refl _⟩
  case round =>
    obtain ⟨k, rfl, hk, rfl, hra, hx⟩ := hrel
    by_cases hlt : k < n
    · obtain ⟨b1, d1, f1, rfl, ra, l1, e1⟩ := hra (by omega)
      have h1 : ((k : Nat) : Int) < (n : Int) := by omega
      have h0 : (0 : Int) ≤ (k : Int) := by omega
      have h2 : ((k : Int)).toNat = k := by omega
      have u1 : IntKind.i64.wrap ((k : Int) + 1) = (k : Int) + 1 := IntWalk.i64_in _ (by omega)
      have u2 : IntKind.i64.wrap (1 + (k : Int) + 1) = 1 + (k : Int) + 1 := IntWalk.i64_in _ (by omega)
      have g1 : wr.cell? ⟨b1, k, none⟩ = some (.int .i64 (1 + (k : Int))) := by rw [ra.cell (by omega), e1 k hlt]
      have HA := Lib.hid hra
      clear hra hp ra e1
      go_wp2_with fail
      try (go_region; go_wp2_with fail)
      go_roundw
      case rel => exact ⟨k + 1, by simp, by omega, by (first | rfl | (simp; omega) | (push_cast; congr 1; omega)), HA.out.ext (by repeat (first | exact Ext.refl _ | with_reducible assumption | apply Ext.alloc | apply Ext.drew | apply Ext.drewN | (refine Ext.setRow ?_ (by first | (simp; done) | (simp; omega) | omega) _) | (refine Ext.setCell ?_ (by first | (simp; done) | (simp; omega) | omega) _) | (refine Ext.trans ?_ (by with_reducible assumption)))), (by repeat (first | exact Ext.refl _ | with_reducible assumption | apply Ext.alloc | apply Ext.drew | apply Ext.drewN | (refine Ext.setRow ?_ (by first | (simp; done) | (simp; omega) | omega) _) | (refine Ext.setCell ?_ (by first | (simp; done) | (simp; omega) | omega) _) | (refine Ext.trans ?_ (by with_reducible assumption))))⟩
      case measure => simp [intOf]; omega
    · have h1 : ¬ ((k : Nat) : Int) < (n : Int) := by omega
      have hkn : k = n := by omega
      subst hkn
      go_wp2_with fail
      go_ret
      exact ⟨rfl, hx⟩

/-- All of a slice is marked; nothing else has turned. -/
structure Marked (w w' : World) (p : Option Addr) (n : Nat) : Prop where
  row : OwnL w' p n (fun i => 1 + (i : Int))
  os : w'.os = w.os
  tape : w'.tape = w.tape
  output : w'.output = w.output
  size : w'.heap.size = w.heap.size
  far : ∀ k, (0 < n → ∀ b, p = some ⟨b, 0, none⟩ → k ≠ b) → w'.heap[k]? = w.heap[k]?

set_option maxHeartbeats 1600000 in
theorem markIntS_own (p : Option Addr) (n c1 : Nat) (V : Nat → Int) (hn : n ≤ 1048576) (w : World) (hp : OwnL w p n V) : Calls Try.prog 19 #[.slice p n c1, .int .i64 1] w fun rv w' => rv = .returned (.int .i64 (1 + (n : Int))) ∧ Marked w w' p n := by
  by_cases hz : 0 < n
  · obtain ⟨b, c, f, rfl, hr, hc, hf⟩ := hp hz
    go_enter Try.func19, Try.ntmps19
    go_wp2
    go_loopw [1, 5] (fun y x wr => ∃ k : Nat, x = .int .i64 (k : Int) ∧ k ≤ n ∧ y = .int .i64 (1 + (k : Int)) ∧ wr.rowIs b 3 c (fun i => if i < k then .int .i64 (1 + (i : Int)) else f i) ∧ wr.os = w.os ∧ wr.tape = w.tape ∧ wr.output = w.output ∧ wr.heap.size = w.heap.size ∧ ∀ q, q ≠ b → wr.heap[q]? = w.heap[q]?) (fun _ x _ => n - (intOf x).toNat)
    case atStart => exact ⟨0, rfl, by omega, by simp, hr.congr (fun i _ => by rw [if_neg (by omega)]), rfl, rfl, rfl, rfl, fun _ _ => rfl⟩
    case round =>
      obtain ⟨k, rfl, hk, rfl, hra, ho, ht, hu, hsz, hfar⟩ := hrel
      by_cases hlt : k < n
      · skip
        have h1 : ((k : Nat) : Int) < (n : Int) := by omega
        have h0 : (0 : Int) ≤ (k : Int) := by omega
        have h2 : ((k : Int)).toNat = k := by omega
        have u1 : IntKind.i64.wrap ((k : Int) + 1) = (k : Int) + 1 := IntWalk.i64_in _ (by omega)
        have u2 : IntKind.i64.wrap (1 + (k : Int) + 1) = 1 + (k : Int) + 1 := IntWalk.i64_in _ (by omega)
        have g1 : wr.cell? ⟨b, k, none⟩ = some (f k) := by
          have := hra.cell (show k < c by omega)
          rwa [if_neg (by omega)] at this
        have g2 : wr.cell? ⟨b, k, none⟩ = some (.int .i64 (V k)) := by rw [g1, hf k hlt]
        have g3 : wr.frozen? ⟨b, k, none⟩ = false := hra.frozen k
        have HR : RowKit.Hid ((wr.setCell ⟨b, k, none⟩ (.int .i64 (1 + (k : Int)))).rowIs b 3 c (fun i => if i < k + 1 then .int .i64 (1 + (i : Int)) else f i)) := Lib.hid ((hra.set k _).congr (fun i hi => by
          by_cases e1 : i = k
          · subst e1; rw [if_pos rfl, if_pos (by omega)]
          · rw [if_neg e1]
            by_cases e2 : i < k
            · rw [if_pos e2, if_pos (by omega)]
            · rw [if_neg e2, if_neg (by omega)]))
        have HF : RowKit.Hid (∀ q, q ≠ b → (wr.setCell ⟨b, k, none⟩ (.int .i64 (1 + (k : Int)))).heap[q]? = w.heap[q]?) := Lib.hid (fun q hq => (Below.heap_setCell _ _ _ _ hq).trans (hfar q hq))
        clear g1 hra hfar hf hr hp
        go_wp2_with fail
        try (go_region; go_wp2_with fail)
        go_roundw
        case rel => exact ⟨k + 1, by simp, by omega, by (first | rfl | (simp; omega) | (push_cast; congr 1; omega)), HR.out, ho, ht, hu, by rw [World.size_setCell]; exact hsz, HF.out⟩
        case measure => simp [intOf]; omega
      · have h1 : ¬ ((k : Nat) : Int) < (n : Int) := by omega
        have hkn : k = n := by omega
        have HR := Lib.hid hra
        have HF := Lib.hid hfar
        clear hra hfar
        subst hkn
        go_wp2_with fail
        go_ret
        exact ⟨rfl, ⟨fun _ => ⟨b, c, _, rfl, HR.out, hc, fun i hi => by rw [if_pos hi]⟩, ho, ht, hu, hsz, fun q hq => HF.out q (hq hz b rfl)⟩⟩
  · have hz2 : n = 0 := by omega
    subst hz2
    go_enter Try.func19, Try.ntmps19
    go_wp2
    go_loopw [1, 5] (fun y x wr => x = .int .i64 0 ∧ y = .int .i64 1 ∧ wr = w) (fun _ x _ => 0)
    case atStart => exact ⟨rfl, rfl, rfl⟩
    case round =>
      obtain ⟨rfl, rfl, rfl⟩ := hrel
      go_wp2_with fail
      go_ret
      exact ⟨rfl, ⟨fun h => absurd h (by decide), rfl, rfl, rfl, rfl, fun _ _ => rfl⟩⟩

theorem Past.le {p : Option Addr} {n B B2 : Nat} (h : Past p n B) (hb : B2 ≤ B) : Past p n B2 := fun hn b hp => Nat.le_trans hb (h hn b hp)

theorem own_nil (w : World) (V : Nat → Int) : OwnL w none 0 V := fun h => absurd h (by decide)

theorem past_nil (B : Nat) : Past none 0 B := fun h => absurd h (by decide)
end Go.Proofs.Ytdagfocpbnamfaa

namespace Go.Proofs.Ytdagfocpbnamfaa
open Go Go.RowKit
set_option linter.unusedSimpArgs false
set_option linter.unusedVariables false
set_option maxRecDepth 100000

/-- A block. -/
abbrev blk (P : Int) (p : Option Addr) (n c : Nat) : Value := .agg #[.int .i64 P, .slice p n c]

theorem eqBlock_own (P : Int) (p q : Option Addr) (n c1 c2 : Nat) (V : Nat → Int) (hn : n ≤ 1048576) (w : World) (hp : OwnL w p n V) (hq : OwnL w q n V) : Calls Try.prog 29 #[blk P p n c1, blk P q n c2] w fun rv w' => rv = .returned (.bool true) ∧ Ext w w' := by
  go_enter Try.func29, Try.ntmps29
  go_wp2_with (go_at_call 18; refine (eqIntS_own p q n c1 c2 V hn _ (hp.ext (by repeat (first | exact Ext.refl _ | with_reducible assumption | apply Ext.alloc | apply Ext.drew | apply Ext.drewN | (refine Ext.setRow ?_ (by first | (simp; done) | (simp; omega) | omega) _) | (refine Ext.setCell ?_ (by first | (simp; done) | (simp; omega) | omega) _) | (refine Ext.trans ?_ (by with_reducible assumption))))) (hq.ext (by repeat (first | exact Ext.refl _ | with_reducible assumption | apply Ext.alloc | apply Ext.drew | apply Ext.drewN | (refine Ext.setRow ?_ (by first | (simp; done) | (simp; omega) | omega) _) | (refine Ext.setCell ?_ (by first | (simp; done) | (simp; omega) | omega) _) | (refine Ext.trans ?_ (by with_reducible assumption)))))).mono ?_; rintro rv w1 ⟨rfl, hb⟩; have ns : w.heap.size + 1 < w1.heap.size := hb.lt (by first | with_reducible assumption | omega | (simp; done) | (simp; omega)); have n0 : w1.cell? ⟨w.heap.size, 0, none⟩ = some (.int .i64 P) := (hb.cells _ _ (by first | with_reducible assumption | omega | (simp; done) | (simp; omega))).trans (by first | with_reducible assumption | (simp; done) | (simp; with_reducible assumption) | (rw [cell_alloc_before _ _ _ _ (by omega)]; with_reducible assumption) | (simp [go_sem, *]; done)); have n1 : w1.cell? ⟨w.heap.size, 1, none⟩ = some (.slice p n c1) := (hb.cells _ _ (by first | with_reducible assumption | omega | (simp; done) | (simp; omega))).trans (by first | with_reducible assumption | (simp; done) | (simp; with_reducible assumption) | (rw [cell_alloc_before _ _ _ _ (by omega)]; with_reducible assumption) | (simp [go_sem, *]; done)); have n2 : w1.cell? ⟨w.heap.size + 1, 0, none⟩ = some (.int .i64 P) := (hb.cells _ _ (by first | with_reducible assumption | omega | (simp; done) | (simp; omega))).trans (by first | with_reducible assumption | (simp; done) | (simp; with_reducible assumption) | (rw [cell_alloc_before _ _ _ _ (by omega)]; with_reducible assumption) | (simp [go_sem, *]; done)); have n3 : w1.cell? ⟨w.heap.size + 1, 1, none⟩ = some (.slice q n c2) := (hb.cells _ _ (by first | with_reducible assumption | omega | (simp; done) | (simp; omega))).trans (by first | with_reducible assumption | (simp; done) | (simp; with_reducible assumption) | (rw [cell_alloc_before _ _ _ _ (by omega)]; with_reducible assumption) | (simp [go_sem, *]; done)); (first | (have nx := Ext.trans hx hb; clear hx) | (have nx := Ext.trans (hx.alloc _) hb; clear hx) | (have nx := Ext.trans hx.drew hb; clear hx) | have nx := hb); clear hb; try clear hs; try clear g0; try clear g1; try clear g2; try clear g3; have hx := nx; clear nx; have hs := ns; clear ns; have g0 := n0; clear n0; have g1 := n1; clear n1; have g2 := n2; clear n2; have g3 := n3; clear n3)
  go_ret
  exact ⟨rfl, (by repeat (first | exact Ext.refl _ | with_reducible assumption | apply Ext.alloc | apply Ext.drew | apply Ext.drewN | (refine Ext.setRow ?_ (by first | (simp; done) | (simp; omega) | omega) _) | (refine Ext.setCell ?_ (by first | (simp; done) | (simp; omega) | omega) _) | (refine Ext.trans ?_ (by with_reducible assumption))))⟩

theorem heldBlock_own (P : Int) (p : Option Addr) (n c : Nat) (hn : n ≤ 1048576) (w : World) (hp : OwnL w p n (fun i => 1 + (i : Int))) : Calls Try.prog 35 #[blk P p n c, .int .i64 1] w fun rv w' => rv = .returned (.int .i64 (1 + (n : Int))) ∧ Ext w w' := by
  have h1 : ¬ (1 + (n : Int) < 0) := by omega
  go_enter Try.func35, Try.ntmps35
  go_wp2_with (go_at_call 20; refine (heldIntS_own p n c hn _ (hp.ext (by repeat (first | exact Ext.refl _ | with_reducible assumption | apply Ext.alloc | apply Ext.drew | apply Ext.drewN | (refine Ext.setRow ?_ (by first | (simp; done) | (simp; omega) | omega) _) | (refine Ext.setCell ?_ (by first | (simp; done) | (simp; omega) | omega) _) | (refine Ext.trans ?_ (by with_reducible assumption)))))).mono ?_; rintro rv w1 ⟨rfl, hb⟩; have ns : w.heap.size < w1.heap.size := hb.lt (by first | with_reducible assumption | omega | (simp; done) | (simp; omega)); have n0 : w1.cell? ⟨w.heap.size, 0, none⟩ = some (.int .i64 P) := (hb.cells _ _ (by first | with_reducible assumption | omega | (simp; done) | (simp; omega))).trans (by first | with_reducible assumption | (simp; done) | (simp; with_reducible assumption) | (rw [cell_alloc_before _ _ _ _ (by omega)]; with_reducible assumption) | (simp [go_sem, *]; done)); have n1 : w1.cell? ⟨w.heap.size, 1, none⟩ = some (.slice p n c) := (hb.cells _ _ (by first | with_reducible assumption | omega | (simp; done) | (simp; omega))).trans (by first | with_reducible assumption | (simp; done) | (simp; with_reducible assumption) | (rw [cell_alloc_before _ _ _ _ (by omega)]; with_reducible assumption) | (simp [go_sem, *]; done)); (first | (have nx := Ext.trans hx hb; clear hx) | (have nx := Ext.trans (hx.alloc _) hb; clear hx) | (have nx := Ext.trans hx.drew hb; clear hx) | have nx := hb); clear hb; try clear hs; try clear g0; try clear g1; have hx := nx; clear nx; have hs := ns; clear ns; have g0 := n0; clear n0; have g1 := n1; clear n1)
  go_ret
  exact ⟨rfl, (by repeat (first | exact Ext.refl _ | with_reducible assumption | apply Ext.alloc | apply Ext.drew | apply Ext.drewN | (refine Ext.setRow ?_ (by first | (simp; done) | (simp; omega) | omega) _) | (refine Ext.setCell ?_ (by first | (simp; done) | (simp; omega) | omega) _) | (refine Ext.trans ?_ (by with_reducible assumption))))⟩

/-- All of a block's patterns are marked; of what lay before nothing else has turned. -/
structure MarkedB (w w' : World) (p : Option Addr) (n : Nat) : Prop where
  row : OwnL w' p n (fun i => 1 + (i : Int))
  os : w'.os = w.os
  tape : w'.tape = w.tape
  output : w'.output = w.output
  size : w.heap.size ≤ w'.heap.size
  far : ∀ k, k < w.heap.size → (0 < n → ∀ b, p = some ⟨b, 0, none⟩ → k ≠ b) → w'.heap[k]? = w.heap[k]?

theorem markBlock_own (P : Int) (p : Option Addr) (n c : Nat) (V : Nat → Int) (hn : n ≤ 1048576) (w : World) (hp : OwnL w p n V) : Calls Try.prog 34 #[blk P p n c, .int .i64 1] w fun rv w' => rv = .returned (.int .i64 (1 + (n : Int))) ∧ MarkedB w w' p n := by
  have hM : ∀ w1, Ext w w1 → Calls Try.prog 19 #[.slice p n c, .int .i64 1] w1 fun rv w' => rv = .returned (.int .i64 (1 + (n : Int))) ∧ Marked w1 w' p n := fun w1 hx => markIntS_own p n c V hn w1 (hp.ext hx)
  go_enter Try.func34, Try.ntmps34
  go_wp2_with (go_at_call 19; refine (hM _ (by repeat (first | exact Ext.refl _ | with_reducible assumption | apply Ext.alloc | apply Ext.drew | apply Ext.drewN | (refine Ext.setRow ?_ (by first | (simp; done) | (simp; omega) | omega) _) | (refine Ext.setCell ?_ (by first | (simp; done) | (simp; omega) | omega) _) | (refine Ext.trans ?_ (by with_reducible assumption))))).mono ?_; rintro rv w1 ⟨rfl, hm⟩)
  go_ret
  exact ⟨rfl, hm.row, hm.os.trans (Ext.new _ _).os, hm.tape.trans (Ext.new _ _).tape, hm.output.trans (Ext.new _ _).output, Nat.le_trans (Ext.new _ _).size (Nat.le_of_eq hm.size.symm), fun k hk hf => (hm.far k hf).trans ((Ext.new _ _).block k hk)⟩

theorem markB_ext {w a b : World} {p : Option Addr} {n : Nat} (h : Ext w a) (m : MarkedB a b p n) (hp : Past p n w.heap.size) : Ext w b :=
  Below.trans h ⟨m.os, m.tape, m.output, m.size, fun i hi => m.far i (by have := h.size; omega) (fun hn b hb => by have := hp hn b hb; omega)⟩

theorem isBlockPower_any (P : Int) (w : World) : Calls Try.prog 84 #[.int .i64 P] w fun rv w' => rv = .returned (.bool (decide (-40 ≤ P ∧ P ≤ 40))) ∧ w = w' := by
  go_enter Try.func84, Try.ntmps84
  go_wp2_with (go_at_call 88; refine (isSizeAtMost_any P 40 (by decide) (by decide) _).mono ?_; rintro rv w1 ⟨rfl, rfl⟩)
  go_ret
  exact ⟨ret_bool (Bool.decide_and _ _).symm, rfl⟩
end Go.Proofs.Ytdagfocpbnamfaa

