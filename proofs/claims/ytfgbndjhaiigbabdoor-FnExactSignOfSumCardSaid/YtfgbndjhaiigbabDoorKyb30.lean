/-
  Contracts of the functions that the laws reach, and the plain facts that they rest on, each under the conditions that its line names; part 30.
-/
import Derived.Test.YtfgbndjhaiigbabDoorKyb1
import Derived.Test.YtfgbndjhaiigbabDoorKyb2
import Derived.Test.YtfgbndjhaiigbabDoorKyb3
import Derived.Test.YtfgbndjhaiigbabDoorKyb4
import Derived.Test.YtfgbndjhaiigbabDoorKyb5
import Derived.Test.YtfgbndjhaiigbabDoorKyb6
import Derived.Test.YtfgbndjhaiigbabDoorRows
import Derived.WalkKit
import Derived.LoopTactic
import Derived.LoopN
import Derived.Deep.OwnRows
import Derived.Deep.LoopGhost
import Derived.Laws.Bits64b
import Derived.WalkSpells
import Derived.WalkLawsBesides
import Derived.StillTactics
import Derived.Laws.Pointers
import Derived.Deep.RegionHeld3
import Derived.Deep.QuietTactic
import Derived.BigQuiet
import Derived.Outline
import Derived.Lib.Hide
import Derived.RowKit3
import Derived.Carry
import Derived.IntWalk
namespace Go.Proofs.YtfgbndjhaiigbabDoor
open Go Go.RowKit
set_option linter.unusedSimpArgs false
set_option linter.unusedVariables false
set_option maxRecDepth 100000

theorem info_int : (Tryd.prog.info? 3).map (fun i => (i.zero, i.size, i.bytes)) = some (some (.int .i64 0), 1, 8) := by kernel_rfl

/-- The first k of n numbers are laid. -/
def laidV (V : Nat → Int) (k : Nat) : Nat → Value := fun j => if j < k then .int .i64 (V j) else .int .i64 0

/-- A slice that holds n numbers, or has none. -/
def HoldsL (w : World) (p : Option Addr) (n : Nat) (V : Nat → Int) : Prop := 0 < n → ∃ a, p = some a ∧ a.block < w.heap.size ∧ ∀ i, i < n → w.cell? (a.add i) = some (.int .i64 (V i))

theorem HoldsL.ext {w w' : World} {p : Option Addr} {n : Nat} {V : Nat → Int} (h : HoldsL w p n V) (hx : Ext w w') : HoldsL w' p n V := fun hn => by
  obtain ⟨a, rfl, ha, hc⟩ := h hn
  have := hx.size
  refine ⟨a, rfl, by omega, fun i hi => (Below.cell (p := a.add i) hx ?_).trans (hc i hi)⟩
  have e : (a.add i).block = a.block := (by unfold Addr.add; split <;> rfl)
  rw [e]; exact ha

theorem HoldsL.row {w : World} {b n : Nat} {V : Nat → Int} (h : w.rowIs b 3 n (fun i => .int .i64 (V i))) : HoldsL w (some ⟨b, 0, none⟩) n V := fun _ =>
  ⟨⟨b, 0, none⟩, rfl, h.lt, fun i hi => by have := h.cell hi; simp only [Addr.add]; split; · rename_i h0; subst h0; simpa using this
                                           · simpa using this⟩

theorem toIntS_any (p : Option Addr) (n cap : Nat) (V : Nat → Int) (hn : n ≤ 1048576) (w : World) (hold : HoldsL w p n V) :
    Calls Tryd.prog 18 #[.slice p n cap] w fun rv w' => ∃ b, rv = .returned (.slice (some ⟨b, 0, none⟩) n n) ∧ w.heap.size ≤ b ∧ w'.rowIs b 3 n (fun i => .int .i64 (V i)) ∧ Ext w w' := by
  have hmk := run_make_row' (P := Tryd.prog) 29 3 (.int .i64 0) 8 Tryd.underlying29 info_int rfl .i64 .i64 n (by omega) (by omega)
  go_enter Tryd.func18, Tryd.ntmps18
  go_wp2
  go_loopw [4] (fun x wr => ∃ k : Nat, x = .int .i64 (k : Int) ∧ k ≤ n ∧ wr.rowIs w.heap.size 3 n (laidV V k) ∧ Ext w wr) (fun x _ => n - (intOf x).toNat)
  case atStart =>
    exact ⟨0, rfl, by omega, (World.rowIs_made w (.int .i64 0) n 3).congr (fun i _ => by unfold laidV; rw [if_neg (by omega)]), (by repeat (first | exact Ext.refl _ | with_reducible assumption | apply Ext.alloc | apply Ext.drew | apply Ext.drewN | (refine Ext.setRow ?_ (by first | (simp; done) | (simp; omega) | omega) _) | (refine Ext.setCell ?_ (by first | (simp; done) | (simp; omega) | omega) _) | (refine Ext.trans ?_ (by with_reducible assumption))))⟩
  case round =>
    obtain ⟨k, rfl, hk, hr, hx⟩ := hrel
    by_cases hlt : k < n
    · obtain ⟨a, rfl, ha, hc⟩ := hold (by omega)
      have h1 : ((k : Nat) : Int) < (n : Int) := by omega
      have h0 : (0 : Int) ≤ (k : Int) := by omega
      have h2 : ((k : Int)).toNat = k := by omega
      have u1 : IntKind.i64.wrap ((k : Int) + 1) = (k : Int) + 1 := IntWalk.i64_in _ (by omega)
      have g1 : wr.cell? (a.add k) = some (.int .i64 (V k)) := (Below.cell (p := a.add k) hx (by have e : (a.add k).block = a.block := (by unfold Addr.add; split <;> rfl); rw [e]; exact ha)).trans (hc k hlt)
      have g2 : wr.cell? ⟨w.heap.size, k, none⟩ = some (.int .i64 0) := by
        have := hr.cell hlt
        unfold laidV at this
        rwa [if_neg (by omega)] at this
      have g3 : wr.frozen? ⟨w.heap.size, k, none⟩ = false := hr.frozen k
      go_wp2_with fail
      go_roundw
      case rel =>
        refine ⟨k + 1, by simp, by omega, (hr.set k _).congr (fun i hi => ?_), Ext.setCell hx (by simp) _⟩
        unfold laidV
        by_cases e1 : i = k
        · subst e1; rw [if_pos rfl, if_pos (by omega)]
        · rw [if_neg e1]
          by_cases e2 : i < k
          · rw [if_pos e2, if_pos (by omega)]
          · rw [if_neg e2, if_neg (by omega)]
      case measure => simp [intOf]; omega
    · have h1 : ¬ ((k : Nat) : Int) < (n : Int) := by omega
      go_wp2_with fail
      go_ret
      exact ⟨_, rfl, Nat.le_refl _, hr.congr (fun i hi => by unfold laidV; rw [if_pos (by omega)]), hx⟩

theorem eqIntS_same (a b n c1 c2 : Nat) (V : Nat → Int) (hn : n ≤ 1048576) (w : World) (ha : w.rowIs a 3 n (fun i => .int .i64 (V i))) (hb : w.rowIs b 3 n (fun i => .int .i64 (V i))) :
    Calls Tryd.prog 21 #[.slice (some ⟨a, 0, none⟩) n c1, .slice (some ⟨b, 0, none⟩) n c2] w fun rv w' => rv = .returned (.bool true) ∧ Ext w w' := by
  go_enter Tryd.func21, Tryd.ntmps21
  go_wp2
  go_loopw [5] (fun x wr => ∃ k : Nat, x = .int .i64 (k : Int) ∧ k ≤ n ∧ wr.rowIs a 3 n (fun i => .int .i64 (V i)) ∧ wr.rowIs b 3 n (fun i => .int .i64 (V i)) ∧ Ext w wr) (fun x _ => n - (intOf x).toNat)
  case atStart => exact ⟨0, rfl, by omega, ha, hb, Ext.refl _⟩
  case round =>
    obtain ⟨k, rfl, hk, hra, hrb, hx⟩ := hrel
    by_cases hlt : k < n
    · have h1 : ((k : Nat) : Int) < (n : Int) := by omega
      have h0 : (0 : Int) ≤ (k : Int) := by omega
      have h2 : ((k : Int)).toNat = k := by omega
      have u1 : IntKind.i64.wrap ((k : Int) + 1) = (k : Int) + 1 := IntWalk.i64_in _ (by omega)
      have g1 : wr.cell? ⟨a, k, none⟩ = some (.int .i64 (V k)) := hra.cell hlt
      have g2 : wr.cell? ⟨b, k, none⟩ = some (.int .i64 (V k)) := hrb.cell hlt
      go_wp2_with fail
      go_region
      go_wp2_with fail
      go_roundw
      case rel => exact ⟨k + 1, by simp, by omega, hra, hrb, (by repeat (first | exact Ext.refl _ | with_reducible assumption | apply Ext.alloc | apply Ext.drew | apply Ext.drewN | (refine Ext.setRow ?_ (by first | (simp; done) | (simp; omega) | omega) _) | (refine Ext.setCell ?_ (by first | (simp; done) | (simp; omega) | omega) _) | (refine Ext.trans ?_ (by with_reducible assumption))))⟩
      case measure => simp [intOf]; omega
    · have h1 : ¬ ((k : Nat) : Int) < (n : Int) := by omega
      go_wp2_with fail
      go_ret
      exact ⟨rfl, (by repeat (first | exact Ext.refl _ | with_reducible assumption | apply Ext.alloc | apply Ext.drew | apply Ext.drewN | (refine Ext.setRow ?_ (by first | (simp; done) | (simp; omega) | omega) _) | (refine Ext.setCell ?_ (by first | (simp; done) | (simp; omega) | omega) _) | (refine Ext.trans ?_ (by with_reducible assumption))))⟩
end Go.Proofs.YtfgbndjhaiigbabDoor

