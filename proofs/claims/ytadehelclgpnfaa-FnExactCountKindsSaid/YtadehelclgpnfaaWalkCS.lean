/-
  Contracts of the functions that compare, mark and read five cells, each under the conditions that its line names.
-/
import Derived.Test.YtadehelclgpnfaaRows
import Derived.Test.YtadehelclgpnfaaPlain
import Derived.Test.YtadehelclgpnfaaWalkA
import Derived.WalkKit
import Derived.WalkSpells
import Derived.WalkLawsBesides
import Derived.StillTactics
import Derived.Laws.Pointers
import Derived.Deep.RegionHeld3
import Derived.Deep.QuietTactic
import Derived.BigQuiet
import Derived.Outline
import Derived.Lib.Hide
import Derived.RowKit3
import Derived.Carry
import Derived.IntWalk
import Derived.LoopN
namespace Go.Proofs.Ytadehelclgpnfaa
open Go Go.RowKit
set_option linter.unusedSimpArgs false
set_option linter.unusedVariables false

/-- Of what was there only the row a has turned, and it holds cs. -/
structure Row (a : Nat) (cs : Array Value) (w w' : World) : Prop where
  row : w'.heap[a]? = some (.cells cs 3 (0, 0))
  os : w'.os = w.os
  tape : w'.tape = w.tape
  output : w'.output = w.output
  size : w'.heap.size = w.heap.size
  far : ∀ k, k ≠ a → w'.heap[k]? = w.heap[k]?

theorem Row.refl {a : Nat} {cs : Array Value} {w : World} (h : w.heap[a]? = some (.cells cs 3 (0, 0))) : Row a cs w w := ⟨h, rfl, rfl, rfl, rfl, fun _ _ => rfl⟩
theorem Row.setCell {a : Nat} {cs : Array Value} {w w' : World} (h : Row a cs w w') (i : Nat) (v : Value) : Row a (cs.setIfInBounds i v) w (w'.setCell ⟨a, i, none⟩ v) := by
  obtain ⟨h1, h2, h3, h4, h5, h6⟩ := h
  refine ⟨?_, h2, h3, h4, ?_, fun k hk => ?_⟩
  · rw [setCell_eq_setRow w' a i cs 3 (0, 0) v h1]
    exact setRow_near _ h1
  · simpa [World.setCell] using h5
  · rw [← h6 k hk]
    simp only [World.setCell, Array.getElem?_modify]
    rw [if_neg (by omega)]

set_option maxHeartbeats 1600000 in
theorem eqIntS_five (a b : Nat) (z0 z1 z2 z3 z4 : Int) (w : World) (ha0 : w.cell? ⟨a, 0, none⟩ = some (.int .i64 (z0))) (ha1 : w.cell? ⟨a, 1, none⟩ = some (.int .i64 (z1))) (ha2 : w.cell? ⟨a, 2, none⟩ = some (.int .i64 (z2))) (ha3 : w.cell? ⟨a, 3, none⟩ = some (.int .i64 (z3))) (ha4 : w.cell? ⟨a, 4, none⟩ = some (.int .i64 (z4))) (hb0 : w.cell? ⟨b, 0, none⟩ = some (.int .i64 (z0))) (hb1 : w.cell? ⟨b, 1, none⟩ = some (.int .i64 (z1))) (hb2 : w.cell? ⟨b, 2, none⟩ = some (.int .i64 (z2))) (hb3 : w.cell? ⟨b, 3, none⟩ = some (.int .i64 (z3))) (hb4 : w.cell? ⟨b, 4, none⟩ = some (.int .i64 (z4))) : Calls Try.prog 34 #[.slice (some ⟨a, 0, none⟩) 5 5, .slice (some ⟨b, 0, none⟩) 5 5] w fun rv w' => rv = .returned (.bool true) ∧ Ext w w' := by
  go_enter Try.func34, Try.ntmps34
  go_wp2
  refine wp_loop_rounds 6 ?_
  rw [rounds_succ]
  go_wp2_with fail
  go_quiet (fail)
  go_wp2_with fail
  rw [rounds_succ]
  go_wp2_with fail
  go_quiet (fail)
  go_wp2_with fail
  rw [rounds_succ]
  go_wp2_with fail
  go_quiet (fail)
  go_wp2_with fail
  rw [rounds_succ]
  go_wp2_with fail
  go_quiet (fail)
  go_wp2_with fail
  rw [rounds_succ]
  go_wp2_with fail
  go_quiet (fail)
  go_wp2_with fail
  rw [rounds_succ]
  go_wp2_with fail
  go_ret
  exact ⟨rfl, (by repeat (first | exact Ext.refl _ | with_reducible assumption | apply Ext.alloc | apply Ext.drew | apply Ext.drewN | (refine Ext.setRow ?_ (by simp) _) | (refine Ext.setCell ?_ (by simp) _) | (refine Ext.trans ?_ (by with_reducible assumption))))⟩

theorem eqIntS_nil (w : World) : Calls Try.prog 34 #[.slice none 0 0, .slice none 0 0] w fun rv w' => rv = .returned (.bool true) ∧ Ext w w' := by
  go_enter Try.func34, Try.ntmps34
  go_wp2
  refine wp_loop_rounds 1 ?_
  rw [rounds_succ]
  go_wp2_with fail
  go_ret
  exact ⟨rfl, (by repeat (first | exact Ext.refl _ | with_reducible assumption | apply Ext.alloc | apply Ext.drew | apply Ext.drewN | (refine Ext.setRow ?_ (by simp) _) | (refine Ext.setCell ?_ (by simp) _) | (refine Ext.trans ?_ (by with_reducible assumption))))⟩

theorem heldIntS_nil (w : World) : Calls Try.prog 36 #[.slice none 0 0, .int .i64 1] w fun rv w' => rv = .returned (.int .i64 1) ∧ Ext w w' := by
  go_enter Try.func36, Try.ntmps36
  go_wp2
  refine wp_loop_rounds 1 ?_
  rw [rounds_succ]
  go_wp2_with fail
  go_ret
  exact ⟨rfl, (by repeat (first | exact Ext.refl _ | with_reducible assumption | apply Ext.alloc | apply Ext.drew | apply Ext.drewN | (refine Ext.setRow ?_ (by simp) _) | (refine Ext.setCell ?_ (by simp) _) | (refine Ext.trans ?_ (by with_reducible assumption))))⟩

theorem markIntS_nil (w : World) : Calls Try.prog 35 #[.slice none 0 0, .int .i64 1] w fun rv w' => rv = .returned (.int .i64 1) ∧ Ext w w' := by
  go_enter Try.func35, Try.ntmps35
  go_wp2
  refine wp_loop_rounds 1 ?_
  rw [rounds_succ]
  go_wp2_with fail
  go_ret
  exact ⟨rfl, (by repeat (first | exact Ext.refl _ | with_reducible assumption | apply Ext.alloc | apply Ext.drew | apply Ext.drewN | (refine Ext.setRow ?_ (by simp) _) | (refine Ext.setCell ?_ (by simp) _) | (refine Ext.trans ?_ (by with_reducible assumption))))⟩

theorem heldIntS_five (a : Nat) (w : World) (ha0 : w.cell? ⟨a, 0, none⟩ = some (.int .i64 (1))) (ha1 : w.cell? ⟨a, 1, none⟩ = some (.int .i64 (2))) (ha2 : w.cell? ⟨a, 2, none⟩ = some (.int .i64 (3))) (ha3 : w.cell? ⟨a, 3, none⟩ = some (.int .i64 (4))) (ha4 : w.cell? ⟨a, 4, none⟩ = some (.int .i64 (5))) : Calls Try.prog 36 #[.slice (some ⟨a, 0, none⟩) 5 5, .int .i64 1] w fun rv w' => rv = .returned (.int .i64 6) ∧ Ext w w' := by
  go_enter Try.func36, Try.ntmps36
  go_wp2
  refine wp_loop_rounds 6 ?_
  rw [rounds_succ]
  go_wp2_with fail
  rw [rounds_succ]
  go_wp2_with fail
  rw [rounds_succ]
  go_wp2_with fail
  rw [rounds_succ]
  go_wp2_with fail
  rw [rounds_succ]
  go_wp2_with fail
  rw [rounds_succ]
  go_wp2_with fail
  go_ret
  exact ⟨rfl, (by repeat (first | exact Ext.refl _ | with_reducible assumption | apply Ext.alloc | apply Ext.drew | apply Ext.drewN | (refine Ext.setRow ?_ (by simp) _) | (refine Ext.setCell ?_ (by simp) _) | (refine Ext.trans ?_ (by with_reducible assumption))))⟩

theorem markIntS_five (a : Nat) (w : World) (z0 z1 z2 z3 z4 : Int) (hB : w.heap[a]? = some (.cells #[.int .i64 z0, .int .i64 z1, .int .i64 z2, .int .i64 z3, .int .i64 z4] 3 (0, 0))) (ha0 : w.cell? ⟨a, 0, none⟩ = some (.int .i64 (z0))) (ha1 : w.cell? ⟨a, 1, none⟩ = some (.int .i64 (z1))) (ha2 : w.cell? ⟨a, 2, none⟩ = some (.int .i64 (z2))) (ha3 : w.cell? ⟨a, 3, none⟩ = some (.int .i64 (z3))) (ha4 : w.cell? ⟨a, 4, none⟩ = some (.int .i64 (z4))) :
    Calls Try.prog 35 #[.slice (some ⟨a, 0, none⟩) 5 5, .int .i64 1] w fun rv w' => rv = .returned (.int .i64 6) ∧ Row a #[.int .i64 1, .int .i64 2, .int .i64 3, .int .i64 4, .int .i64 5] w w' := by
  have f0 : ∀ i, w.frozen? ⟨a, i, none⟩ = false := fun i => by simp [World.frozen?, hB]
  go_enter Try.func35, Try.ntmps35
  go_wp2
  refine wp_loop_rounds 6 ?_
  rw [rounds_succ]
  go_wp2_with fail
  rw [rounds_succ]
  go_wp2_with fail
  rw [rounds_succ]
  go_wp2_with fail
  rw [rounds_succ]
  go_wp2_with fail
  rw [rounds_succ]
  go_wp2_with fail
  rw [rounds_succ]
  go_wp2_with fail
  go_ret
  exact ⟨rfl, (((((Row.refl hB).setCell 0 _).setCell 1 _).setCell 2 _).setCell 3 _).setCell 4 _⟩

end Go.Proofs.Ytadehelclgpnfaa
