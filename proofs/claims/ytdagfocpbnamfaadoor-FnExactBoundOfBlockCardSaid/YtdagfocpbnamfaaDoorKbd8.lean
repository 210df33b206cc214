/-
  Contracts of the functions that the laws reach, and the plain facts that they rest on, each under the conditions that its line names; part 8.
-/
import Derived.Test.YtdagfocpbnamfaaDoorKbd1
import Derived.Test.YtdagfocpbnamfaaDoorKbd2
import Derived.Test.YtdagfocpbnamfaaDoorKbd3
import Derived.Test.YtdagfocpbnamfaaDoorKbd4
import Derived.Test.YtdagfocpbnamfaaDoorKbd5
import Derived.Test.YtdagfocpbnamfaaDoorKbd6
import Derived.Test.YtdagfocpbnamfaaDoorKbd7
import Derived.Test.YtdagfocpbnamfaaDoorRows
import Derived.WalkKit
import Derived.LoopTactic
import Derived.LoopN
import Derived.Deep.OwnRows
import Derived.Deep.LoopGhost
import Derived.Laws.Bits64b
import Derived.WalkSpells
import Derived.WalkLawsBesides
import Derived.StillTactics
import Derived.Laws.Pointers
import Derived.Deep.RegionHeld3
import Derived.Deep.QuietTactic
import Derived.BigQuiet
import Derived.Outline
import Derived.Lib.Hide
import Derived.RowKit3
import Derived.Carry
import Derived.IntWalk
namespace Go.Proofs.YtdagfocpbnamfaaDoor
open Go Go.RowKit
set_option linter.unusedSimpArgs false
set_option linter.unusedVariables false
set_option maxRecDepth 100000

theorem info_int : (Tryd.prog.info? 3).map (fun i => (i.zero, i.size, i.bytes)) = some (some (.int .i64 0), 1, 8) := by kernel_rfl

/-- The first k of n numbers are laid. -/
def laidV (V : Nat → Int) (k : Nat) : Nat → Value := fun j => if j < k then .int .i64 (V j) else .int .i64 0

/-- A slice that holds n numbers, or has none. -/
def HoldsL (w : World) (p : Option Addr) (n : Nat) (V : Nat → Int) : Prop := 0 < n → ∃ a, p = some a ∧ a.block < w.heap.size ∧ ∀ i, i < n → w.cell? (a.add i) = some (.int .i64 (V i))

theorem HoldsL.ext {w w' : World} {p : Option Addr} {n : Nat} {V : Nat → Int} (h : HoldsL w p n V) (hx : Ext w w') : HoldsL w' p n V := fun hn => by
  obtain ⟨a, rfl, ha, hc⟩ := h hn
  have := hx.size
  refine ⟨a, rfl, by omega, fun i hi => (Below.cell (p := a.add i) hx ?_).trans (hc i hi)⟩
  have e : (a.add i).block = a.block := (by unfold Addr.add; split <;> rfl)
  rw [e]; exact ha

theorem HoldsL.row {w : World} {b n : Nat} {V : Nat → Int} (h : w.rowIs b 3 n (fun i => .int .i64 (V i))) : HoldsL w (some ⟨b, 0, none⟩) n V := fun _ =>
  ⟨⟨b, 0, none⟩, rfl, h.lt, fun i hi => by have := h.cell hi; simp only [Addr.add]; split; · rename_i h0; subst h0; simpa using this
                                           · simpa using this⟩

theorem toIntS_any (p : Option Addr) (n cap : Nat) (V : Nat → Int) (hn : n ≤ 1048576) (w : World) (hold : HoldsL w p n V) :
    Calls Tryd.prog 6 #[.slice p n cap] w fun rv w' => ∃ b, rv = .returned (.slice (some ⟨b, 0, none⟩) n n) ∧ w.heap.size ≤ b ∧ w'.rowIs b 3 n (fun i => .int .i64 (V i)) ∧ Ext w w' := by
  have hmk := run_make_row' (P := Tryd.prog) 24 3 (.int .i64 0) 8 Tryd.underlying24 info_int rfl .i64 .i64 n (by omega) (by omega)
  go_enter Tryd.func6, Tryd.ntmps6
  go_wp2
  go_loopw [4] (fun x wr => ∃ k : Nat, x = .int .i64 (k : Int) ∧ k ≤ n ∧ wr.rowIs w.heap.size 3 n (laidV V k) ∧ Ext w wr) (fun x _ => n - (intOf x).toNat)
  case atStart =>
    exact ⟨0, rfl, by omega, (World.rowIs_made w (.int .i64 0) n 3).congr (fun i _ => by unfold laidV; rw [if_neg (by omega)]), (by repeat (first | exact Ext.refl _ | with_reducible assumption | apply Ext.alloc | apply Ext.drew | apply Ext.drewN | (refine Ext.setRow ?_ (by first | (simp; done) | (simp; omega) | omega) _) | (refine Ext.setCell ?_ (by first | (simp; done) | (simp; omega) | omega) _) | (refine Ext.trans ?_ (by with_reducible assumption))))⟩
  case round =>
    obtain ⟨k, rfl, hk, hr, hx⟩ := hrel
    by_cases hlt : k < n
    · obtain ⟨a, rfl, ha, hc⟩ := hold (by omega)
      have h1 : ((k : Nat) : Int) < (n : Int) := by omega
      have h0 : (0 : Int) ≤ (k : Int) := by omega
      have h2 : ((k : Int)).toNat = k := by omega
      have u1 : IntKind.i64.wrap ((k : Int) + 1) = (k : Int) + 1 := IntWalk.i64_in _ (by omega)
      have g1 : wr.cell? (a.add k) = some (.int .i64 (V k)) := (Below.cell (p := a.add k) hx (by have e : (a.add k).block = a.block := (by unfold Addr.add; split <;> rfl); rw [e]; exact ha)).trans (hc k hlt)
      have g2 : wr.cell? ⟨w.heap.size, k, none⟩ = some (.int .i64 0) := by
        have := hr.cell hlt
        unfold laidV at this
        rwa [if_neg (by omega)] at this
      have g3 : wr.frozen? ⟨w.heap.size, k, none⟩ = false := hr.frozen k
      go_wp2_with fail
      go_roundw
      case rel =>
        refine ⟨k + 1, by simp, by omega, (hr.set k _).congr (fun i hi => ?_), Ext.setCell hx (by simp) _⟩
        unfold laidV
        by_cases e1 : i = k
        · subst e1; rw [if_pos rfl, if_pos (by omega)]
        · rw [if_neg e1]
          by_cases e2 : i < k
          · rw [if_pos e2, if_pos (by omega)]
          · rw [if_neg e2, if_neg (by omega)]
      case measure => simp [intOf]; omega
    · have h1 : ¬ ((k : Nat) : Int) < (n : Int) := by omega
      go_wp2_with fail
      go_ret
      exact ⟨_, rfl, Nat.le_refl _, hr.congr (fun i hi => by unfold laidV; rw [if_pos (by omega)]), hx⟩

theorem eqIntS_same (a b n c1 c2 : Nat) (V : Nat → Int) (hn : n ≤ 1048576) (w : World) (ha : w.rowIs a 3 n (fun i => .int .i64 (V i))) (hb : w.rowIs b 3 n (fun i => .int .i64 (V i))) :
    Calls Tryd.prog 9 #[.slice (some ⟨a, 0, none⟩) n c1, .slice (some ⟨b, 0, none⟩) n c2] w fun rv w' => rv = .returned (.bool true) ∧ Ext w w' := by
  go_enter Tryd.func9, Tryd.ntmps9
  go_wp2
  go_loopw [5] (fun x wr => ∃ k : Nat, x = .int .i64 (k : Int) ∧ k ≤ n ∧ wr.rowIs a 3 n (fun i => .int .i64 (V i)) ∧ wr.rowIs b 3 n (fun i => .int .i64 (V i)) ∧ Ext w wr) (fun x _ => n - (intOf x).toNat)
  case atStart => exact ⟨0, rfl, by omega, ha, hb, Ext.refl _⟩
  case round =>
    obtain ⟨k, rfl, hk, hra, hrb, hx⟩ := hrel
    by_cases hlt : k < n
    · have h1 : ((k : Nat) : Int) < (n : Int) := by omega
      have h0 : (0 : Int) ≤ (k : Int) := by omega
      have h2 : ((k : Int)).toNat = k := by omega
      have u1 : IntKind.i64.wrap ((k : Int) + 1) = (k : Int) + 1 := IntWalk.i64_in _ (by omega)
      have g1 : wr.cell? ⟨a, k, none⟩ = some (.int .i64 (V k)) := hra.cell hlt
      have g2 : wr.cell? ⟨b, k, none⟩ = some (.int .i64 (V k)) := hrb.cell hlt
      go_wp2_with fail
      go_region
      go_wp2_with fail
      go_roundw
      case rel => exact ⟨k + 1, by simp, by omega, hra, hrb, (by repeat (first | exact Ext.refl _ | with_reducible assumption | apply Ext.alloc | apply Ext.drew | apply Ext.drewN | (refine Ext.setRow ?_ (by first | (simp; done) | (simp; omega) | omega) _) | (refine Ext.setCell ?_ (by first | (simp; done) | (simp; omega) | omega) _) | (refine Ext.trans ?_ (by with_reducible assumption))))⟩
      case measure => simp [intOf]; omega
    · have h1 : ¬ ((k : Nat) : Int) < (n : Int) := by omega
      go_wp2_with fail
      go_ret
      exact ⟨rfl, (by repeat (first | exact Ext.refl _ | with_reducible assumption | apply Ext.alloc | apply Ext.drew | apply Ext.drewN | (refine Ext.setRow ?_ (by first | (simp; done) | (simp; omega) | omega) _) | (refine Ext.setCell ?_ (by first | (simp; done) | (simp; omega) | omega) _) | (refine Ext.trans ?_ (by with_reducible assumption))))⟩
end Go.Proofs.YtdagfocpbnamfaaDoor

namespace Go.Proofs.YtdagfocpbnamfaaDoor
open Go Go.RowKit
set_option linter.unusedSimpArgs false
set_option linter.unusedVariables false
set_option maxRecDepth 100000

theorem row_ext {w w' : World} {b n : Nat} {t : TypeId} {g : Nat → Value} (h : w.rowIs b t n g) (hx : Ext w w') : w'.rowIs b t n g := h.of_block (hx.block _ h.lt)

/-- The first k numbers lie between two others. -/
def allR (lo hi : Int) (V : Nat → Int) : Nat → Bool
  | 0 => true
  | k + 1 => allR lo hi V k && decide (lo ≤ V k ∧ V k ≤ hi)

theorem allR_mono {lo hi : Int} {V : Nat → Int} {k n : Nat} (h : k ≤ n) (hb : allR lo hi V k = false) : allR lo hi V n = false := by
  induction n with
  | zero =>
    have : k = 0 := by omega
    subst this; exact hb
  | succ n ih =>
    by_cases e1 : k = n + 1
    · subst e1; exact hb
    · unfold allR; rw [ih (by omega)]; rfl

theorem allR_at {lo hi : Int} {V : Nat → Int} {n : Nat} (h : allR lo hi V n = true) (i : Nat) (hi2 : i < n) : lo ≤ V i ∧ V i ≤ hi := by
  induction n with
  | zero => omega
  | succ n ih =>
    unfold allR at h
    rw [Bool.and_eq_true] at h
    by_cases e1 : i = n
    · subst e1; exact of_decide_eq_true h.2
    · exact ih h.1 (by omega)

/-- A raw list. -/
def rawB (V : Nat → Int) (n : Nat) : Bool := decide (1 ≤ (n : Int) ∧ (n : Int) ≤ 16) && allR (-1000000) 1000000 V n

theorem raw_iff {V : Nat → Int} {n : Nat} : rawB V n = true ↔ (1 ≤ n ∧ n ≤ 16) ∧ allR (-1000000) 1000000 V n = true := by
  unfold rawB
  rw [Bool.and_eq_true, decide_eq_true_iff]
  constructor <;> (rintro ⟨⟨a, b⟩, c⟩; exact ⟨⟨by omega, by omega⟩, c⟩)

set_option maxHeartbeats 1600000 in
theorem l1All_row (lo hi : Int) (V : Nat → Int) (bb n : Nat) (hn : n ≤ 1048576) (w : World) (h : w.rowIs bb 3 n (fun i => .int .i64 (V i))) : Calls Tryd.prog 20 #[.slice (some ⟨bb, 0, none⟩) n n, .int .i64 lo, .int .i64 hi] w fun rv w' => rv = .returned (.bool (allR lo hi V n)) ∧ w = w' := by
  go_enter Tryd.func20, Tryd.ntmps20
  go_wp2
  go_loopw [11] (fun x wr => ∃ k : Nat, x = .int .i64 (k : Int) ∧ k ≤ n ∧ allR lo hi V k = true ∧ wr = w) (fun x _ => n - (intOf x).toNat)
  case atStart => exact ⟨0, rfl, by omega, rfl, rfl⟩
  case round =>
    obtain ⟨k, rfl, hk, hA, rfl⟩ := hrel
    by_cases hlt : k < n
    · have hlt2 : k < n := hlt
      have h1 : ((k : Nat) : Int) < (n : Int) := by omega
      have h0 : (0 : Int) ≤ (k : Int) := by omega
      have h2 : ((k : Int)).toNat = k := by omega
      have u1 : IntKind.i64.wrap ((k : Int) + 1) = (k : Int) + 1 := IntWalk.i64_in _ (by omega)
      have ga : wr.cell? ⟨bb, k, none⟩ = some (.int .i64 (V k)) := h.cell hlt2
      have LA := Lib.hid (fun w => l1In_any (V k) lo hi w)
      cases hd : decide (lo ≤ V k ∧ V k ≤ hi)
      · have HN : RowKit.Hid (allR lo hi V n = false) := Lib.hid (allR_mono (k := k + 1) (by omega) (by unfold allR; rw [hd, Bool.and_false]))
        rw [hd] at LA
        clear hd hA
        generalize V k = v at *
        go_wp2_with (go_at_call 19; refine (LA.out _).mono ?_; rintro rv w1 ⟨rfl, rfl⟩)
        go_ret
        exact ⟨by rw [HN.out]; rfl, by first | trivial | rfl⟩
      · have HN : RowKit.Hid (allR lo hi V (k + 1) = true) := Lib.hid (by unfold allR; rw [hd, hA]; rfl)
        rw [hd] at LA
        clear hd hA
        generalize V k = v at *
        go_wp2_with (go_at_call 19; refine (LA.out _).mono ?_; rintro rv w1 ⟨rfl, rfl⟩)
        go_roundw
        case rel => exact ⟨k + 1, by simp, by omega, HN.out, by first | trivial | rfl⟩
        case measure => simp [intOf]; omega
    · have h1 : ¬ ((k : Nat) : Int) < (n : Int) := by omega
      have hkn : k = n := by omega
      subst hkn
      have HA := Lib.hid hA
      clear hA
      go_wp2_with fail
      go_ret
      exact ⟨by rw [HA.out]; rfl, by first | trivial | rfl⟩

theorem blRaw_row (V : Nat → Int) (bb n : Nat) (hn : n ≤ 1048576) (w : World) (h : w.rowIs bb 3 n (fun i => .int .i64 (V i))) : Calls Tryd.prog 11 #[.slice (some ⟨bb, 0, none⟩) n n] w fun rv w' => rv = .returned (.bool (rawB V n)) ∧ w = w' := by
  have LA := Lib.hid (l1All_row (-1000000) 1000000 V bb n hn w h)
  have LI := Lib.hid (l1In_any (n : Int) 1 16 w)
  unfold rawB
  generalize decide (1 ≤ (n : Int) ∧ (n : Int) ≤ 16) = B at *
  generalize allR (-1000000) 1000000 V n = A at *
  cases B
  all_goals
    go_enter Tryd.func11, Tryd.ntmps11
    go_wp2_with (first | (go_at_call 19; refine (LI.out).mono ?_; rintro rv w1 ⟨rfl, rfl⟩) | (go_at_call 20; refine (LA.out).mono ?_; rintro rv w1 ⟨rfl, rfl⟩))
    go_ret
    exact ⟨rfl, rfl⟩

set_option maxHeartbeats 1600000 in
theorem isRaw_row (V : Nat → Int) (bb n : Nat) (w : World) (h : w.rowIs bb 3 n (fun i => .int .i64 (V i))) : Calls Tryd.prog 28 #[.slice (some ⟨bb, 0, none⟩) n n] w fun rv w' => rv = .returned (.bool (rawB V n)) ∧ w = w' := by
  by_cases hz : n = 0
  · have HN : RowKit.Hid (rawB V n = false) := Lib.hid (by subst hz; rfl)
    have h1 : ((n : Int) == 0) = true := by subst hz; rfl
    have h2 : (n : Int) = 0 := by omega
    go_enter Tryd.func28, Tryd.ntmps28
    go_wp2
    go_ret
    exact ⟨by rw [HN.out]; rfl, by first | trivial | rfl⟩
  · by_cases h16 : 16 < n
    · have HN : RowKit.Hid (rawB V n = false) := Lib.hid (by unfold rawB; rw [decide_eq_false (by omega)]; rfl)
      have h1 : ((n : Int) == 0) = false := by simpa using hz
      have h2 : (16 : Int) < (n : Int) := by omega
      go_enter Tryd.func28, Tryd.ntmps28
      go_wp2
      go_ret
      exact ⟨by rw [HN.out]; rfl, by first | trivial | rfl⟩
    · have hz1 : ((n : Int) == 0) = false := by simpa using hz
      have hz2 : ¬ (16 : Int) < (n : Int) := by omega
      have HR : RowKit.Hid (rawB V n = allR (-1000000) 1000000 V n) := Lib.hid (by unfold rawB; rw [decide_eq_true (by omega)]; rfl)
      go_enter Tryd.func28, Tryd.ntmps28
      go_wp2
      go_loopw [15] (fun x wr => ∃ k : Nat, x = .int .i64 (k : Int) ∧ k ≤ n ∧ allR (-1000000) 1000000 V k = true ∧ wr = w) (fun x _ => n - (intOf x).toNat)
      case atStart => exact ⟨0, rfl, by omega, rfl, rfl⟩
      case round =>
        obtain ⟨k, rfl, hk, hA, rfl⟩ := hrel
        by_cases hlt : k < n
        · have hlt2 : k < n := hlt
          have h1 : ((k : Nat) : Int) < (n : Int) := by omega
          have h0 : (0 : Int) ≤ (k : Int) := by omega
          have h2 : ((k : Int)).toNat = k := by omega
          have u1 : IntKind.i64.wrap ((k : Int) + 1) = (k : Int) + 1 := IntWalk.i64_in _ (by omega)
          have ga : wr.cell? ⟨bb, k, none⟩ = some (.int .i64 (V k)) := h.cell hlt2
          have LA := Lib.hid (fun w => isSizeAtMost_any (V k) 1000000 (by decide) (by decide) w)
          cases hd : decide (-1000000 ≤ V k ∧ V k ≤ 1000000)
          · have HN : RowKit.Hid (allR (-1000000) 1000000 V n = false) := Lib.hid (allR_mono (k := k + 1) (by omega) (by unfold allR; rw [hd, Bool.and_false]))
            rw [hd] at LA
            clear hd hA
            generalize V k = v at *
            go_wp2_with (go_at_call 33; refine (LA.out _).mono ?_; rintro rv w1 ⟨rfl, rfl⟩)
            go_ret
            exact ⟨by rw [HR.out, HN.out]; rfl, by first | trivial | rfl⟩
          · have HN : RowKit.Hid (allR (-1000000) 1000000 V (k + 1) = true) := Lib.hid (by unfold allR; rw [hd, hA]; rfl)
            rw [hd] at LA
            clear hd hA
            generalize V k = v at *
            go_wp2_with (go_at_call 33; refine (LA.out _).mono ?_; rintro rv w1 ⟨rfl, rfl⟩)
            go_roundw
            case rel => exact ⟨k + 1, by simp, by omega, HN.out, by first | trivial | rfl⟩
            case measure => simp [intOf]; omega
        · have h1 : ¬ ((k : Nat) : Int) < (n : Int) := by omega
          have hkn : k = n := by omega
          subst hkn
          have HA := Lib.hid hA
          clear hA
          go_wp2_with fail
          go_ret
          exact ⟨by rw [HR.out, HA.out]; rfl, by first | trivial | rfl⟩

theorem topPower_any (e f : Int) (hg : goodB e f = true) (w : World) : Calls Tryd.prog 18 #[fmt e f] w fun rv w' => rv = .returned (.int .i64 (pw (e - 1) - 1)) ∧ Ext w w' := by
  go_enter Tryd.func18, Tryd.ntmps18
  go_wp2_with (go_at_call 32; refine (iBiasOf_yes e f hg _).mono ?_; rintro rv w1 ⟨rfl, hb⟩; have ns : w.heap.size < w1.heap.size := hb.lt (by first | with_reducible assumption | omega | (simp; done) | (simp; omega)); have n0 : w1.cell? ⟨w.heap.size, 0, none⟩ = some (.int .i64 e) := (hb.cells _ _ (by first | with_reducible assumption | omega | (simp; done) | (simp; omega))).trans (by first | with_reducible assumption | (simp; done) | (simp; with_reducible assumption) | (rw [cell_alloc_before _ _ _ _ (by omega)]; with_reducible assumption) | (simp [go_sem, *]; done)); have n1 : w1.cell? ⟨w.heap.size, 1, none⟩ = some (.int .i64 f) := (hb.cells _ _ (by first | with_reducible assumption | omega | (simp; done) | (simp; omega))).trans (by first | with_reducible assumption | (simp; done) | (simp; with_reducible assumption) | (rw [cell_alloc_before _ _ _ _ (by omega)]; with_reducible assumption) | (simp [go_sem, *]; done)); (first | (have nx := Ext.trans hx hb; clear hx) | (have nx := Ext.trans (hx.alloc _) hb; clear hx) | (have nx := Ext.trans hx.drew hb; clear hx) | have nx := hb); clear hb; try clear hs; try clear g0; try clear g1; have hx := nx; clear nx; have hs := ns; clear ns; have g0 := n0; clear n0; have g1 := n1; clear n1)
  go_ret
  exact ⟨rfl, (by repeat (first | exact Ext.refl _ | with_reducible assumption | apply Ext.alloc | apply Ext.drew | apply Ext.drewN | (refine Ext.setRow ?_ (by first | (simp; done) | (simp; omega) | omega) _) | (refine Ext.setCell ?_ (by first | (simp; done) | (simp; omega) | omega) _) | (refine Ext.trans ?_ (by with_reducible assumption))))⟩

theorem pw_half {e : Int} (h : 1 ≤ e) : pw e = 2 * pw (e - 1) := by
  have := pw_add 1 (e - 1) (by decide) (by omega)
  rw [show 1 + (e - 1) = e by omega] at this
  rw [this]; rfl

theorem blTop_any (e f : Int) (hg : goodB e f = true) (w : World) : Calls Tryd.prog 14 #[fmt e f] w fun rv w' => rv = .returned (.int .i64 (pw (e - 1) - 1)) ∧ Ext w w' := by
  obtain ⟨h1, h2, h3, h4⟩ := good_iff.1 hg
  obtain ⟨⟨a1, a2⟩, ⟨b1, b2⟩, ⟨c1, c2⟩, hmul⟩ := pw_facts h1 h2 h3 h4
  have Hmul := Lib.hid hmul; clear hmul
  have hh := pw_half (e := e) (by omega)
  have c1 := pw_pos (e - 1)
  have c3 : pw (e - 1) ≤ 16 := pw_le 4 16 rfl (by omega)
  have k1 : IntKind.i64.wrap (pw e - 1 - 1) = pw e - 1 - 1 := IntWalk.i64_in _ (by omega)
  have k2 : IntKind.i64.wrap (pw e - 1 - 1 - (pw (e - 1) - 1)) = pw (e - 1) - 1 := by
    rw [IntWalk.i64_in _ (by omega)]; omega
  clear hh
  have FO := Lib.hid (fun w => fmOnes_any e f hg w)
  have FB := Lib.hid (fun w => fmBias_any e f hg w)
  generalize pw (e - 1) = P at *
  generalize pw e = R at *
  go_enter Tryd.func14, Tryd.ntmps14
  go_wp2_with (first | (go_at_call 22; refine (FO.out _).mono ?_; rintro rv w1 ⟨rfl, hb⟩; have ns : w.heap.size < w1.heap.size := hb.lt (by first | with_reducible assumption | omega | (simp; done) | (simp; omega)); have n0 : w1.cell? ⟨w.heap.size, 0, none⟩ = some (.int .i64 e) := (hb.cells _ _ (by first | with_reducible assumption | omega | (simp; done) | (simp; omega))).trans (by first | with_reducible assumption | (simp; done) | (simp; with_reducible assumption) | (rw [cell_alloc_before _ _ _ _ (by omega)]; with_reducible assumption) | (simp [go_sem, *]; done)); have n1 : w1.cell? ⟨w.heap.size, 1, none⟩ = some (.int .i64 f) := (hb.cells _ _ (by first | with_reducible assumption | omega | (simp; done) | (simp; omega))).trans (by first | with_reducible assumption | (simp; done) | (simp; with_reducible assumption) | (rw [cell_alloc_before _ _ _ _ (by omega)]; with_reducible assumption) | (simp [go_sem, *]; done)); (first | (have nx := Ext.trans hx hb; clear hx) | (have nx := Ext.trans (hx.alloc _) hb; clear hx) | (have nx := Ext.trans hx.drew hb; clear hx) | have nx := hb); clear hb; try clear hs; try clear g0; try clear g1; have hx := nx; clear nx; have hs := ns; clear ns; have g0 := n0; clear n0; have g1 := n1; clear n1) | (go_at_call 23; refine (FB.out _).mono ?_; rintro rv w1 ⟨rfl, hb⟩; have ns : w.heap.size < w1.heap.size := hb.lt (by first | with_reducible assumption | omega | (simp; done) | (simp; omega)); have n0 : w1.cell? ⟨w.heap.size, 0, none⟩ = some (.int .i64 e) := (hb.cells _ _ (by first | with_reducible assumption | omega | (simp; done) | (simp; omega))).trans (by first | with_reducible assumption | (simp; done) | (simp; with_reducible assumption) | (rw [cell_alloc_before _ _ _ _ (by omega)]; with_reducible assumption) | (simp [go_sem, *]; done)); have n1 : w1.cell? ⟨w.heap.size, 1, none⟩ = some (.int .i64 f) := (hb.cells _ _ (by first | with_reducible assumption | omega | (simp; done) | (simp; omega))).trans (by first | with_reducible assumption | (simp; done) | (simp; with_reducible assumption) | (rw [cell_alloc_before _ _ _ _ (by omega)]; with_reducible assumption) | (simp [go_sem, *]; done)); (first | (have nx := Ext.trans hx hb; clear hx) | (have nx := Ext.trans (hx.alloc _) hb; clear hx) | (have nx := Ext.trans hx.drew hb; clear hx) | have nx := hb); clear hb; try clear hs; try clear g0; try clear g1; have hx := nx; clear nx; have hs := ns; clear ns; have g0 := n0; clear n0; have g1 := n1; clear n1))
  try (go_region_held3 (fun w' => w'.cell? ⟨w.heap.size, 0, none⟩ = some (.int .i64 e) ∧ w'.cell? ⟨w.heap.size, 1, none⟩ = some (.int .i64 f) ∧ w.heap.size < w'.heap.size) ((refine ⟨?_, ?_, ?_⟩ <;> first | with_reducible assumption | ((rw [cell_setRow_far _ _ _ _ _ (by omega)]); with_reducible assumption) | ((rw [setRow_size]); with_reducible assumption) | ((repeat rw [World.cell?_setCell_far _ _ _ _ (by simp)]); with_reducible assumption) | (simp; done) | (simp [World.setCell]; first | done | omega) | (simp [go_sem, World.cell?_alloc_past, World.cell?_setCell_far, *]; done))) ((first | (go_at_call 22; refine (FO.out _).mono ?_; rintro rv w1 ⟨rfl, hb⟩; have ns : w.heap.size < w1.heap.size := hb.lt (by first | with_reducible assumption | omega | (simp; done) | (simp; omega)); have n0 : w1.cell? ⟨w.heap.size, 0, none⟩ = some (.int .i64 e) := (hb.cells _ _ (by first | with_reducible assumption | omega | (simp; done) | (simp; omega))).trans (by first | with_reducible assumption | (simp; done) | (simp; with_reducible assumption) | (rw [cell_alloc_before _ _ _ _ (by omega)]; with_reducible assumption) | (simp [go_sem, *]; done)); have n1 : w1.cell? ⟨w.heap.size, 1, none⟩ = some (.int .i64 f) := (hb.cells _ _ (by first | with_reducible assumption | omega | (simp; done) | (simp; omega))).trans (by first | with_reducible assumption | (simp; done) | (simp; with_reducible assumption) | (rw [cell_alloc_before _ _ _ _ (by omega)]; with_reducible assumption) | (simp [go_sem, *]; done)); (first | (have nx := Ext.trans hx hb; clear hx) | (have nx := Ext.trans (hx.alloc _) hb; clear hx) | (have nx := Ext.trans hx.drew hb; clear hx) | have nx := hb); clear hb; try clear hs; try clear g0; try clear g1; have hx := nx; clear nx; have hs := ns; clear ns; have g0 := n0; clear n0; have g1 := n1; clear n1) | (go_at_call 23; refine (FB.out _).mono ?_; rintro rv w1 ⟨rfl, hb⟩; have ns : w.heap.size < w1.heap.size := hb.lt (by first | with_reducible assumption | omega | (simp; done) | (simp; omega)); have n0 : w1.cell? ⟨w.heap.size, 0, none⟩ = some (.int .i64 e) := (hb.cells _ _ (by first | with_reducible assumption | omega | (simp; done) | (simp; omega))).trans (by first | with_reducible assumption | (simp; done) | (simp; with_reducible assumption) | (rw [cell_alloc_before _ _ _ _ (by omega)]; with_reducible assumption) | (simp [go_sem, *]; done)); have n1 : w1.cell? ⟨w.heap.size, 1, none⟩ = some (.int .i64 f) := (hb.cells _ _ (by first | with_reducible assumption | omega | (simp; done) | (simp; omega))).trans (by first | with_reducible assumption | (simp; done) | (simp; with_reducible assumption) | (rw [cell_alloc_before _ _ _ _ (by omega)]; with_reducible assumption) | (simp [go_sem, *]; done)); (first | (have nx := Ext.trans hx hb; clear hx) | (have nx := Ext.trans (hx.alloc _) hb; clear hx) | (have nx := Ext.trans hx.drew hb; clear hx) | have nx := hb); clear hb; try clear hs; try clear g0; try clear g1; have hx := nx; clear nx; have hs := ns; clear ns; have g0 := n0; clear n0; have g1 := n1; clear n1))))
  all_goals (try go_wp2_with fail)
  all_goals go_ret
  all_goals exact ⟨ret_int rfl, (by repeat (first | exact Ext.refl _ | with_reducible assumption | apply Ext.alloc | apply Ext.drew | apply Ext.drewN | (refine Ext.setRow ?_ (by first | (simp; done) | (simp; omega) | omega) _) | (refine Ext.setCell ?_ (by first | (simp; done) | (simp; omega) | omega) _) | (refine Ext.trans ?_ (by with_reducible assumption))))⟩
end Go.Proofs.YtdagfocpbnamfaaDoor

namespace Go.Proofs.YtdagfocpbnamfaaDoor
open Go Go.RowKit
set_option linter.unusedSimpArgs false
set_option linter.unusedVariables false
set_option maxRecDepth 100000

/-- The greatest size of the first k numbers; the most places of them. -/
def mxV (V : Nat → Int) : Nat → Int
  | 0 => 0
  | k + 1 => max (mxV V k) ((V k).natAbs : Int)

def plM (V : Nat → Int) : Nat → Int
  | 0 => 0
  | k + 1 => max (plM V k) (plV (V k))

theorem mx_bd {V : Nat → Int} {n : Nat} (h : allR (-1000000) 1000000 V n = true) (k : Nat) (hk : k ≤ n) : 0 ≤ mxV V k ∧ mxV V k ≤ 1000000 := by
  induction k with
  | zero => exact ⟨Int.le_refl _, by show (0 : Int) ≤ 1000000; decide⟩
  | succ k ih =>
    have i1 := ih (by omega)
    have i2 := allR_at h k (by omega)
    unfold mxV
    omega

theorem pl_mono {a b : Int} (h : a.natAbs ≤ b.natAbs) (hb : b.natAbs ≤ 1000000) : plV a ≤ plV b := by
  by_cases ha : a = 0
  · subst ha; rw [pl_zero]; exact pl_nn b
  · have p := pl_bd a ha (by omega) (by omega)
    have q := pl_ge b (plV a - 1) (by have := p.1; omega) (by omega) (by omega)
    omega

theorem pl_max {a b : Int} (h0 : 0 ≤ a) (h1 : a ≤ 1000000) (h2 : b.natAbs ≤ 1000000) : plV (max a (b.natAbs : Int)) = max (plV a) (plV b) := by
  by_cases h : a ≤ (b.natAbs : Int)
  · have e1 : max a (b.natAbs : Int) = (b.natAbs : Int) := by omega
    rw [e1, plV_abs]
    have := pl_mono (a := a) (b := b) (by omega) h2
    omega
  · have e1 : max a (b.natAbs : Int) = a := by omega
    rw [e1]
    have := pl_mono (a := b) (b := a) (by omega) (by omega)
    omega

theorem plM_eq {V : Nat → Int} {n : Nat} (h : allR (-1000000) 1000000 V n = true) (k : Nat) (hk : k ≤ n) : plM V k = plV (mxV V k) := by
  induction k with
  | zero => exact pl_zero.symm
  | succ k ih =>
    have i1 := mx_bd h k (by omega)
    have i2 := allR_at h k (by omega)
    unfold plM mxV
    rw [ih (by omega), pl_max i1.1 i1.2 (by omega)]

theorem pl20 {a : Int} (h : a.natAbs ≤ 1000000) : 0 ≤ plV a ∧ plV a ≤ 20 := ⟨pl_nn a, pl_le a 20 (by decide) (by decide) (by rw [show pw 20 = 1048576 from rfl]; omega)⟩

theorem plM_bd {V : Nat → Int} {n : Nat} (h : allR (-1000000) 1000000 V n = true) (k : Nat) (hk : k ≤ n) : 0 ≤ plM V k ∧ plM V k ≤ 20 := by
  have i1 := mx_bd h k hk
  rw [plM_eq h k hk]
  exact pl20 (by omega)

theorem pl_nz {a : Int} (h0 : 0 ≤ a) (h1 : a ≤ 1000000) : plV a = 0 ↔ a = 0 := by
  constructor
  · intro h
    by_cases ha : a = 0
    · exact ha
    · have p := pl_bd a ha (by omega) (by omega)
      have q := pl_ge a 0 (by rw [show pw 0 = 1 from rfl]; omega) (by omega) (by omega)
      omega
  · rintro rfl; exact pl_zero

/-- The shared power of a raw list. -/
def shP (e : Int) (V : Nat → Int) (n : Nat) : Int := if mxV V n = 0 then 0 else plV (mxV V n) - 1 - (pw (e - 1) - 1)

theorem shP_bd {e f : Int} {V : Nat → Int} {n : Nat} (hg : goodB e f = true) (h : rawB V n = true) : -15 ≤ shP e V n ∧ shP e V n ≤ 19 := by
  obtain ⟨_, hr⟩ := raw_iff.1 h
  have i1 := mx_bd hr n (Nat.le_refl _)
  have i2 := pl20 (a := mxV V n) (by omega)
  have c1 := pw_pos (e - 1)
  have c3 : pw (e - 1) ≤ 16 := pw_le 4 16 rfl (by have := good_iff.1 hg; omega)
  have c4 := pl_nz i1.1 i1.2
  unfold shP
  split
  · omega
  · rename_i h0
    have : plV (mxV V n) ≠ 0 := fun q => h0 (c4.1 q)
    have : 1 ≤ pw (e - 1) := c1
    omega

/-- What SharedPower asks for. -/
def spB (e f : Int) (V : Nat → Int) (n : Nat) : Bool := goodB e f && rawB V n

def spV (e f : Int) (V : Nat → Int) (n : Nat) : Int := if spB e f V n = true then shP e V n else 0

set_option maxHeartbeats 1600000 in
theorem blShared_row (e f : Int) (V : Nat → Int) (bb n : Nat) (hg : goodB e f = true) (hr : rawB V n = true) (w : World) (h : w.rowIs bb 3 n (fun i => .int .i64 (V i))) : Calls Tryd.prog 15 #[fmt e f, .slice (some ⟨bb, 0, none⟩) n n] w fun rv w' => rv = .returned (.int .i64 (shP e V n)) ∧ Ext w w' := by
  obtain ⟨hn, hA⟩ := raw_iff.1 hr
  have hc1 := pw_pos (e - 1)
  have hc3 : pw (e - 1) ≤ 16 := pw_le 4 16 rfl (by have := good_iff.1 hg; omega)
  have BT := Lib.hid (fun w => blTop_any e f hg w)
  have H := Lib.hid h
  have h' := h
  go_enter Tryd.func15, Tryd.ntmps15
  go_wp2
  go_loopw [5, 10] (fun y x wr => ∃ k : Nat, x = .int .i64 (k : Int) ∧ k ≤ n ∧ y = .int .i64 (mxV V k) ∧ w.heap.size < wr.heap.size ∧ wr.cell? ⟨w.heap.size, 0, none⟩ = some (.int .i64 e) ∧ wr.cell? ⟨w.heap.size, 1, none⟩ = some (.int .i64 f) ∧ Ext w wr) (fun _ x _ => n - (intOf x).toNat)
  case atStart => exact ⟨0, rfl, by omega, rfl, by simp, by simp [go_sem], by simp [go_sem], Ext.new _ _⟩
  case round =>
    obtain ⟨k, rfl, hk, rfl, hs, g0, g1, hx⟩ := hrel
    by_cases hlt : k < n
    · have hlt2 : k < n := hlt
      have h1 : ((k : Nat) : Int) < (n : Int) := by omega
      have h0 : (0 : Int) ≤ (k : Int) := by omega
      have h2 : ((k : Int)).toNat = k := by omega
      have u1 : IntKind.i64.wrap ((k : Int) + 1) = (k : Int) + 1 := IntWalk.i64_in _ (by omega)
      have ga : wr.cell? ⟨bb, k, none⟩ = some (.int .i64 (V k)) := (row_ext h hx).cell hlt2
      have i2 := allR_at hA k hlt
      have LA := Lib.hid (fun w => l1Abs_nat (V k) (by omega) (by omega) w)
      have HE := Lib.hid (show mxV V (k + 1) = max (mxV V k) ((V k).natAbs : Int) from rfl)
      generalize ((V k).natAbs : Int) = a at *
      generalize V k = v at *
      generalize mxV V k = m at *
      clear i2
      go_wp2_with (first | (go_at_call 25; refine (LA.out _).mono ?_; rintro rv w1 ⟨rfl, rfl⟩) | (go_at_call 24; refine (l1Most_max _ _ _).mono ?_; rintro rv w1 ⟨rfl, rfl⟩))
      go_roundw
      case rel => exact ⟨k + 1, by simp, by omega, by rw [HE.out], by with_reducible assumption, by with_reducible assumption, by with_reducible assumption, by with_reducible assumption⟩
      case measure => simp [intOf]; omega
    · have h1 : ¬ ((k : Nat) : Int) < (n : Int) := by omega
      have hkn : k = n := by omega
      subst hkn
      have hm := mx_bd hA k (Nat.le_refl _)
      by_cases hz : mxV V k = 0
      · have HZ : RowKit.Hid (shP e V k = 0) := Lib.hid (if_pos hz)
        have hz1 : (mxV V k == 0) = true := by simpa using hz
        rw [hz]
        clear hz hz1
        go_wp2_with fail
        go_ret
        exact ⟨by rw [HZ.out]; rfl, (by repeat (first | exact Ext.refl _ | with_reducible assumption | apply Ext.alloc | apply Ext.drew | apply Ext.drewN | (refine Ext.setRow ?_ (by first | (simp; done) | (simp; omega) | omega) _) | (refine Ext.setCell ?_ (by first | (simp; done) | (simp; omega) | omega) _) | (refine Ext.trans ?_ (by with_reducible assumption))))⟩
      · have HZ : RowKit.Hid (shP e V k = plV (mxV V k) - 1 - (pw (e - 1) - 1)) := Lib.hid (if_neg hz)
        have hz1 : (mxV V k == 0) = false := by simpa using hz
        have p20 := pl20 (a := mxV V k) (by omega)
        have RB := Lib.hid (fun w => rdBits_any (mxV V k) (by omega) (by omega) w)
        have kw1 : IntKind.i64.wrap (plV (mxV V k) - 1) = plV (mxV V k) - 1 := IntWalk.i64_in _ (by omega)
        have kw2 : IntKind.i64.wrap (plV (mxV V k) - 1 - (pw (e - 1) - 1)) = plV (mxV V k) - 1 - (pw (e - 1) - 1) := IntWalk.i64_in _ (by omega)
        generalize plV (mxV V k) = q at *
        generalize mxV V k = m at *
        generalize pw (e - 1) = P at *
        go_wp2_with (first | (go_at_call 26; refine (RB.out _).mono ?_; rintro rv w1 ⟨rfl, rfl⟩) | (go_at_call 14; refine (BT.out _).mono ?_; rintro rv w1 ⟨rfl, hb⟩; have ns : w.heap.size < w1.heap.size := hb.lt (by first | with_reducible assumption | omega | (simp; done) | (simp; omega)); have n0 : w1.cell? ⟨w.heap.size, 0, none⟩ = some (.int .i64 e) := (hb.cells _ _ (by first | with_reducible assumption | omega | (simp; done) | (simp; omega))).trans (by first | with_reducible assumption | (simp; done) | (simp; with_reducible assumption) | (rw [cell_alloc_before _ _ _ _ (by omega)]; with_reducible assumption) | (simp [go_sem, *]; done)); have n1 : w1.cell? ⟨w.heap.size, 1, none⟩ = some (.int .i64 f) := (hb.cells _ _ (by first | with_reducible assumption | omega | (simp; done) | (simp; omega))).trans (by first | with_reducible assumption | (simp; done) | (simp; with_reducible assumption) | (rw [cell_alloc_before _ _ _ _ (by omega)]; with_reducible assumption) | (simp [go_sem, *]; done)); (first | (have nx := Ext.trans hx hb; clear hx) | (have nx := Ext.trans (hx.alloc _) hb; clear hx) | (have nx := Ext.trans hx.drew hb; clear hx) | have nx := hb); clear hb; try clear hs; try clear g0; try clear g1; have hx := nx; clear nx; have hs := ns; clear ns; have g0 := n0; clear n0; have g1 := n1; clear n1))
        try (go_region_held3 (fun w' => w'.cell? ⟨w.heap.size, 0, none⟩ = some (.int .i64 e) ∧ w'.cell? ⟨w.heap.size, 1, none⟩ = some (.int .i64 f) ∧ w.heap.size < w'.heap.size) ((refine ⟨?_, ?_, ?_⟩ <;> first | with_reducible assumption | ((rw [cell_setRow_far _ _ _ _ _ (by omega)]); with_reducible assumption) | ((rw [setRow_size]); with_reducible assumption) | ((repeat rw [World.cell?_setCell_far _ _ _ _ (by simp)]); with_reducible assumption) | (simp; done) | (simp [World.setCell]; first | done | omega) | (simp [go_sem, World.cell?_alloc_past, World.cell?_setCell_far, *]; done))) ((first | (go_at_call 26; refine (RB.out _).mono ?_; rintro rv w1 ⟨rfl, rfl⟩) | (go_at_call 14; refine (BT.out _).mono ?_; rintro rv w1 ⟨rfl, hb⟩; have ns : w.heap.size < w1.heap.size := hb.lt (by first | with_reducible assumption | omega | (simp; done) | (simp; omega)); have n0 : w1.cell? ⟨w.heap.size, 0, none⟩ = some (.int .i64 e) := (hb.cells _ _ (by first | with_reducible assumption | omega | (simp; done) | (simp; omega))).trans (by first | with_reducible assumption | (simp; done) | (simp; with_reducible assumption) | (rw [cell_alloc_before _ _ _ _ (by omega)]; with_reducible assumption) | (simp [go_sem, *]; done)); have n1 : w1.cell? ⟨w.heap.size, 1, none⟩ = some (.int .i64 f) := (hb.cells _ _ (by first | with_reducible assumption | omega | (simp; done) | (simp; omega))).trans (by first | with_reducible assumption | (simp; done) | (simp; with_reducible assumption) | (rw [cell_alloc_before _ _ _ _ (by omega)]; with_reducible assumption) | (simp [go_sem, *]; done)); (first | (have nx := Ext.trans hx hb; clear hx) | (have nx := Ext.trans (hx.alloc _) hb; clear hx) | (have nx := Ext.trans hx.drew hb; clear hx) | have nx := hb); clear hb; try clear hs; try clear g0; try clear g1; have hx := nx; clear nx; have hs := ns; clear ns; have g0 := n0; clear n0; have g1 := n1; clear n1))))
        all_goals (try go_wp2_with fail)
        all_goals go_ret
        all_goals exact ⟨by rw [HZ.out]; rfl, (by repeat (first | exact Ext.refl _ | with_reducible assumption | apply Ext.alloc | apply Ext.drew | apply Ext.drewN | (refine Ext.setRow ?_ (by first | (simp; done) | (simp; omega) | omega) _) | (refine Ext.setCell ?_ (by first | (simp; done) | (simp; omega) | omega) _) | (refine Ext.trans ?_ (by with_reducible assumption))))⟩

set_option maxHeartbeats 1600000 in
theorem iSharedPower_yes (e f : Int) (V : Nat → Int) (bb n : Nat) (hg : goodB e f = true) (hr : rawB V n = true) (w : World) (h : w.rowIs bb 3 n (fun i => .int .i64 (V i))) : Calls Tryd.prog 16 #[fmt e f, .slice (some ⟨bb, 0, none⟩) n n] w fun rv w' => rv = .returned (.tuple #[.int .i64 (shP e V n), .bool true]) ∧ Ext w w' := by
  obtain ⟨hn, hA⟩ := raw_iff.1 hr
  have hc1 := pw_pos (e - 1)
  have hc3 : pw (e - 1) ≤ 16 := pw_le 4 16 rfl (by have := good_iff.1 hg; omega)
  have GD := Lib.hid (fun w => isFormat_any e f w)
  have BR := Lib.hid (fun w h => isRaw_row V bb n w h)
  have BT := Lib.hid (fun w => topPower_any e f hg w)
  rw [hg] at GD
  rw [hr] at BR
  go_enter Tryd.func16, Tryd.ntmps16
  go_wp2_with (first | (go_at_call 27; refine (GD.out _).mono ?_; rintro rv w1 ⟨rfl, hb⟩; have ns : w.heap.size < w1.heap.size := hb.lt (by first | with_reducible assumption | omega | (simp; done) | (simp; omega)); have n0 : w1.cell? ⟨w.heap.size, 0, none⟩ = some (.int .i64 e) := (hb.cells _ _ (by first | with_reducible assumption | omega | (simp; done) | (simp; omega))).trans (by first | with_reducible assumption | (simp; done) | (simp; with_reducible assumption) | (rw [cell_alloc_before _ _ _ _ (by omega)]; with_reducible assumption) | (simp [go_sem, *]; done)); have n1 : w1.cell? ⟨w.heap.size, 1, none⟩ = some (.int .i64 f) := (hb.cells _ _ (by first | with_reducible assumption | omega | (simp; done) | (simp; omega))).trans (by first | with_reducible assumption | (simp; done) | (simp; with_reducible assumption) | (rw [cell_alloc_before _ _ _ _ (by omega)]; with_reducible assumption) | (simp [go_sem, *]; done)); (first | (have nx := Ext.trans hx hb; clear hx) | (have nx := Ext.trans (hx.alloc _) hb; clear hx) | (have nx := Ext.trans hx.drew hb; clear hx) | have nx := hb); clear hb; try clear hs; try clear g0; try clear g1; have hx := nx; clear nx; have hs := ns; clear ns; have g0 := n0; clear n0; have g1 := n1; clear n1) | (go_at_call 28; refine (BR.out _ (row_ext h (by repeat (first | exact Ext.refl _ | with_reducible assumption | apply Ext.alloc | apply Ext.drew | apply Ext.drewN | (refine Ext.setRow ?_ (by first | (simp; done) | (simp; omega) | omega) _) | (refine Ext.setCell ?_ (by first | (simp; done) | (simp; omega) | omega) _) | (refine Ext.trans ?_ (by with_reducible assumption)))))).mono ?_; rintro rv w1 ⟨rfl, rfl⟩))
  go_loopw [6, 19] (fun y x wr => ∃ k : Nat, x = .int .i64 (k : Int) ∧ k ≤ n ∧ y = .int .i64 (plM V k) ∧ w.heap.size < wr.heap.size ∧ wr.cell? ⟨w.heap.size, 0, none⟩ = some (.int .i64 e) ∧ wr.cell? ⟨w.heap.size, 1, none⟩ = some (.int .i64 f) ∧ Ext w wr) (fun _ x _ => n - (intOf x).toNat)
  case atStart => exact ⟨0, rfl, by omega, rfl, by with_reducible assumption, by with_reducible assumption, by with_reducible assumption, (by repeat (first | exact Ext.refl _ | with_reducible assumption | apply Ext.alloc | apply Ext.drew | apply Ext.drewN | (refine Ext.setRow ?_ (by first | (simp; done) | (simp; omega) | omega) _) | (refine Ext.setCell ?_ (by first | (simp; done) | (simp; omega) | omega) _) | (refine Ext.trans ?_ (by with_reducible assumption))))⟩
  case round =>
    clear ns n0 n1 nx
    obtain ⟨k, rfl, hk, rfl, hs, g0, g1, hx⟩ := hrel
    by_cases hlt : k < n
    · have hlt2 : k < n := hlt
      have h1 : ((k : Nat) : Int) < (n : Int) := by omega
      have h0 : (0 : Int) ≤ (k : Int) := by omega
      have h2 : ((k : Int)).toNat = k := by omega
      have u1 : IntKind.i64.wrap ((k : Int) + 1) = (k : Int) + 1 := IntWalk.i64_in _ (by omega)
      have ga : wr.cell? ⟨bb, k, none⟩ = some (.int .i64 (V k)) := (row_ext h hx).cell hlt2
      have i2 := allR_at hA k hlt
      have LA := Lib.hid (fun w => placesOf_any (V k) (by omega) (by omega) w)
      have HE := Lib.hid (show plM V (k + 1) = max (plM V k) (plV (V k)) from rfl)
      generalize plV (V k) = a at *
      generalize V k = v at *
      generalize plM V k = m at *
      clear i2
      go_wp2_with (go_at_call 29; refine (LA.out _).mono ?_; rintro rv w1 ⟨rfl, rfl⟩)
      go_roundw
      case rel => exact ⟨k + 1, by simp, by omega, by rw [HE.out], by with_reducible assumption, by with_reducible assumption, by with_reducible assumption, by with_reducible assumption⟩
      case measure => simp [intOf]; omega
    · have h1 : ¬ ((k : Nat) : Int) < (n : Int) := by omega
      have hkn : k = n := by omega
      subst hkn
      have hm := mx_bd hA k (Nat.le_refl _)
      have hp := plM_bd hA k (Nat.le_refl _)
      have hq := plM_eq hA k (Nat.le_refl _)
      have hz := pl_nz hm.1 hm.2
      rw [← hq] at hz
      by_cases h0 : plM V k = 0
      · have HZ : RowKit.Hid (shP e V k = 0) := Lib.hid (if_pos (hz.1 h0))
        rw [h0]
        clear h0 hz hq hp hm
        go_wp2_with fail
        go_ret2
        exact ⟨by rw [HZ.out]; rfl, (by repeat (first | exact Ext.refl _ | with_reducible assumption | apply Ext.alloc | apply Ext.drew | apply Ext.drewN | (refine Ext.setRow ?_ (by first | (simp; done) | (simp; omega) | omega) _) | (refine Ext.setCell ?_ (by first | (simp; done) | (simp; omega) | omega) _) | (refine Ext.trans ?_ (by with_reducible assumption))))⟩
      · have HZ : RowKit.Hid (shP e V k = plM V k - 1 - (pw (e - 1) - 1)) := Lib.hid (by rw [hq]; exact if_neg (fun q => h0 (hz.2 q)))
        have hz1 : (plM V k == 0) = false := by simpa using h0
        have kw1 : IntKind.i64.wrap (plM V k - 1) = plM V k - 1 := IntWalk.i64_in _ (by omega)
        have kw2 : IntKind.i64.wrap (plM V k - 1 - (pw (e - 1) - 1)) = plM V k - 1 - (pw (e - 1) - 1) := IntWalk.i64_in _ (by omega)
        clear hz hq hm
        generalize plM V k = m at *
        generalize pw (e - 1) = P at *
        go_wp2_with (go_at_call 18; refine (BT.out _).mono ?_; rintro rv w1 ⟨rfl, hb⟩; have ns : w.heap.size < w1.heap.size := hb.lt (by first | with_reducible assumption | omega | (simp; done) | (simp; omega)); have n0 : w1.cell? ⟨w.heap.size, 0, none⟩ = some (.int .i64 e) := (hb.cells _ _ (by first | with_reducible assumption | omega | (simp; done) | (simp; omega))).trans (by first | with_reducible assumption | (simp; done) | (simp; with_reducible assumption) | (rw [cell_alloc_before _ _ _ _ (by omega)]; with_reducible assumption) | (simp [go_sem, *]; done)); have n1 : w1.cell? ⟨w.heap.size, 1, none⟩ = some (.int .i64 f) := (hb.cells _ _ (by first | with_reducible assumption | omega | (simp; done) | (simp; omega))).trans (by first | with_reducible assumption | (simp; done) | (simp; with_reducible assumption) | (rw [cell_alloc_before _ _ _ _ (by omega)]; with_reducible assumption) | (simp [go_sem, *]; done)); (first | (have nx := Ext.trans hx hb; clear hx) | (have nx := Ext.trans (hx.alloc _) hb; clear hx) | (have nx := Ext.trans hx.drew hb; clear hx) | have nx := hb); clear hb; try clear hs; try clear g0; try clear g1; have hx := nx; clear nx; have hs := ns; clear ns; have g0 := n0; clear n0; have g1 := n1; clear n1)
        try (go_region_held3 (fun w' => w'.cell? ⟨w.heap.size, 0, none⟩ = some (.int .i64 e) ∧ w'.cell? ⟨w.heap.size, 1, none⟩ = some (.int .i64 f) ∧ w.heap.size < w'.heap.size) ((refine ⟨?_, ?_, ?_⟩ <;> first | with_reducible assumption | ((rw [cell_setRow_far _ _ _ _ _ (by omega)]); with_reducible assumption) | ((rw [setRow_size]); with_reducible assumption) | ((repeat rw [World.cell?_setCell_far _ _ _ _ (by simp)]); with_reducible assumption) | (simp; done) | (simp [World.setCell]; first | done | omega) | (simp [go_sem, World.cell?_alloc_past, World.cell?_setCell_far, *]; done))) ((first | (go_at_call 18; refine (BT.out _).mono ?_; rintro rv w1 ⟨rfl, hb⟩; have ns : w.heap.size < w1.heap.size := hb.lt (by first | with_reducible assumption | omega | (simp; done) | (simp; omega)); have n0 : w1.cell? ⟨w.heap.size, 0, none⟩ = some (.int .i64 e) := (hb.cells _ _ (by first | with_reducible assumption | omega | (simp; done) | (simp; omega))).trans (by first | with_reducible assumption | (simp; done) | (simp; with_reducible assumption) | (rw [cell_alloc_before _ _ _ _ (by omega)]; with_reducible assumption) | (simp [go_sem, *]; done)); have n1 : w1.cell? ⟨w.heap.size, 1, none⟩ = some (.int .i64 f) := (hb.cells _ _ (by first | with_reducible assumption | omega | (simp; done) | (simp; omega))).trans (by first | with_reducible assumption | (simp; done) | (simp; with_reducible assumption) | (rw [cell_alloc_before _ _ _ _ (by omega)]; with_reducible assumption) | (simp [go_sem, *]; done)); (first | (have nx := Ext.trans hx hb; clear hx) | (have nx := Ext.trans (hx.alloc _) hb; clear hx) | (have nx := Ext.trans hx.drew hb; clear hx) | have nx := hb); clear hb; try clear hs; try clear g0; try clear g1; have hx := nx; clear nx; have hs := ns; clear ns; have g0 := n0; clear n0; have g1 := n1; clear n1))))
        all_goals (try go_wp2_with fail)
        all_goals go_ret2
        all_goals exact ⟨by rw [HZ.out]; rfl, (by repeat (first | exact Ext.refl _ | with_reducible assumption | apply Ext.alloc | apply Ext.drew | apply Ext.drewN | (refine Ext.setRow ?_ (by first | (simp; done) | (simp; omega) | omega) _) | (refine Ext.setCell ?_ (by first | (simp; done) | (simp; omega) | omega) _) | (refine Ext.trans ?_ (by with_reducible assumption))))⟩

theorem iSharedPower_row (e f : Int) (V : Nat → Int) (bb n : Nat) (w : World) (h : w.rowIs bb 3 n (fun i => .int .i64 (V i))) : Calls Tryd.prog 16 #[fmt e f, .slice (some ⟨bb, 0, none⟩) n n] w fun rv w' => rv = .returned (.tuple #[.int .i64 (spV e f V n), .bool (spB e f V n)]) ∧ Ext w w' := by
  have GD := Lib.hid (fun w => isFormat_any e f w)
  have BR := Lib.hid (fun w h => isRaw_row V bb n w h)
  unfold spV spB
  cases hg : goodB e f
  · rw [hg] at GD
    go_enter Tryd.func16, Tryd.ntmps16
    go_wp2_with (go_at_call 27; refine (GD.out _).mono ?_; rintro rv w1 ⟨rfl, hb⟩; have ns : w.heap.size < w1.heap.size := hb.lt (by first | with_reducible assumption | omega | (simp; done) | (simp; omega)); have n0 : w1.cell? ⟨w.heap.size, 0, none⟩ = some (.int .i64 e) := (hb.cells _ _ (by first | with_reducible assumption | omega | (simp; done) | (simp; omega))).trans (by first | with_reducible assumption | (simp; done) | (simp; with_reducible assumption) | (rw [cell_alloc_before _ _ _ _ (by omega)]; with_reducible assumption) | (simp [go_sem, *]; done)); have n1 : w1.cell? ⟨w.heap.size, 1, none⟩ = some (.int .i64 f) := (hb.cells _ _ (by first | with_reducible assumption | omega | (simp; done) | (simp; omega))).trans (by first | with_reducible assumption | (simp; done) | (simp; with_reducible assumption) | (rw [cell_alloc_before _ _ _ _ (by omega)]; with_reducible assumption) | (simp [go_sem, *]; done)); (first | (have nx := Ext.trans hx hb; clear hx) | (have nx := Ext.trans (hx.alloc _) hb; clear hx) | (have nx := Ext.trans hx.drew hb; clear hx) | have nx := hb); clear hb; try clear hs; try clear g0; try clear g1; have hx := nx; clear nx; have hs := ns; clear ns; have g0 := n0; clear n0; have g1 := n1; clear n1)
    go_ret2
    exact ⟨rfl, (by repeat (first | exact Ext.refl _ | with_reducible assumption | apply Ext.alloc | apply Ext.drew | apply Ext.drewN | (refine Ext.setRow ?_ (by first | (simp; done) | (simp; omega) | omega) _) | (refine Ext.setCell ?_ (by first | (simp; done) | (simp; omega) | omega) _) | (refine Ext.trans ?_ (by with_reducible assumption))))⟩
  · cases hr : rawB V n
    · rw [hg] at GD
      rw [hr] at BR
      go_enter Tryd.func16, Tryd.ntmps16
      go_wp2_with (first | (go_at_call 27; refine (GD.out _).mono ?_; rintro rv w1 ⟨rfl, hb⟩; have ns : w.heap.size < w1.heap.size := hb.lt (by first | with_reducible assumption | omega | (simp; done) | (simp; omega)); have n0 : w1.cell? ⟨w.heap.size, 0, none⟩ = some (.int .i64 e) := (hb.cells _ _ (by first | with_reducible assumption | omega | (simp; done) | (simp; omega))).trans (by first | with_reducible assumption | (simp; done) | (simp; with_reducible assumption) | (rw [cell_alloc_before _ _ _ _ (by omega)]; with_reducible assumption) | (simp [go_sem, *]; done)); have n1 : w1.cell? ⟨w.heap.size, 1, none⟩ = some (.int .i64 f) := (hb.cells _ _ (by first | with_reducible assumption | omega | (simp; done) | (simp; omega))).trans (by first | with_reducible assumption | (simp; done) | (simp; with_reducible assumption) | (rw [cell_alloc_before _ _ _ _ (by omega)]; with_reducible assumption) | (simp [go_sem, *]; done)); (first | (have nx := Ext.trans hx hb; clear hx) | (have nx := Ext.trans (hx.alloc _) hb; clear hx) | (have nx := Ext.trans hx.drew hb; clear hx) | have nx := hb); clear hb; try clear hs; try clear g0; try clear g1; have hx := nx; clear nx; have hs := ns; clear ns; have g0 := n0; clear n0; have g1 := n1; clear n1) | (go_at_call 28; refine (BR.out _ (row_ext h (by repeat (first | exact Ext.refl _ | with_reducible assumption | apply Ext.alloc | apply Ext.drew | apply Ext.drewN | (refine Ext.setRow ?_ (by first | (simp; done) | (simp; omega) | omega) _) | (refine Ext.setCell ?_ (by first | (simp; done) | (simp; omega) | omega) _) | (refine Ext.trans ?_ (by with_reducible assumption)))))).mono ?_; rintro rv w1 ⟨rfl, rfl⟩))
      go_ret2
      exact ⟨rfl, (by repeat (first | exact Ext.refl _ | with_reducible assumption | apply Ext.alloc | apply Ext.drew | apply Ext.drewN | (refine Ext.setRow ?_ (by first | (simp; done) | (simp; omega) | omega) _) | (refine Ext.setCell ?_ (by first | (simp; done) | (simp; omega) | omega) _) | (refine Ext.trans ?_ (by with_reducible assumption))))⟩
    · exact iSharedPower_yes e f V bb n hg hr w h
end Go.Proofs.YtdagfocpbnamfaaDoor

