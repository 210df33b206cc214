/-
  Contracts of the functions that compare, mark and read five cells, by rows, each under the conditions that its line names.
-/
import Derived.Test.YtadehelclgpnfaaRows
import Derived.Test.YtadehelclgpnfaaPlain
import Derived.Test.YtadehelclgpnfaaWalkA
import Derived.Test.YtadehelclgpnfaaWalkC
import Derived.Test.YtadehelclgpnfaaWalkCK
import Derived.Test.YtadehelclgpnfaaWalkCS
import Derived.WalkKit
import Derived.WalkSpells
import Derived.WalkLawsBesides
import Derived.StillTactics
import Derived.Laws.Pointers
import Derived.Deep.RegionHeld3
import Derived.Deep.QuietTactic
import Derived.BigQuiet
import Derived.Outline
import Derived.Lib.Hide
import Derived.RowKit3
import Derived.Carry
import Derived.IntWalk
namespace Go.Proofs.Ytadehelclgpnfaa
open Go Go.RowKit
set_option linter.unusedSimpArgs false
set_option linter.unusedVariables false

theorem row_cells {w : World} {a : Nat} {v0 v1 v2 v3 v4 : Value} (h : w.heap[a]? = some (.cells #[v0, v1, v2, v3, v4] 3 (0, 0))) :
    w.cell? ⟨a, 0, none⟩ = some v0 ∧ w.cell? ⟨a, 1, none⟩ = some v1 ∧ w.cell? ⟨a, 2, none⟩ = some v2 ∧ w.cell? ⟨a, 3, none⟩ = some v3 ∧ w.cell? ⟨a, 4, none⟩ = some v4 := by
  unfold World.cell?
  rw [h]
  exact ⟨rfl, rfl, rfl, rfl, rfl⟩
theorem row_lt {w : World} {a : Nat} {o : Obj} (h : w.heap[a]? = some o) : a < w.heap.size := by
  rcases Nat.lt_or_ge a w.heap.size with h' | h'
  · exact h'
  · rw [Array.getElem?_eq_none h'] at h; cases h
theorem Ext.row {w a b : World} {r : Nat} {cs : Array Value} (h : Ext w a) (k : Row r cs a b) (hr : w.heap.size ≤ r) : Ext w b :=
  Below.trans h ⟨k.os, k.tape, k.output, Nat.le_of_eq k.size.symm, fun i hi => k.far i (by omega)⟩
theorem Row.cell {w w' : World} {r : Nat} {cs : Array Value} (k : Row r cs w w') (b o : Nat) (h : b ≠ r) : w'.cell? ⟨b, o, none⟩ = w.cell? ⟨b, o, none⟩ := by
  unfold World.cell?
  rw [k.far b h]

theorem eqIntS_rows (a b : Nat) (z0 z1 z2 z3 z4 : Int) (w : World) (ha : w.heap[a]? = some (.cells #[.int .i64 z0, .int .i64 z1, .int .i64 z2, .int .i64 z3, .int .i64 z4] 3 (0, 0))) (hb : w.heap[b]? = some (.cells #[.int .i64 z0, .int .i64 z1, .int .i64 z2, .int .i64 z3, .int .i64 z4] 3 (0, 0))) :
    Calls Try.prog 34 #[.slice (some ⟨a, 0, none⟩) 5 5, .slice (some ⟨b, 0, none⟩) 5 5] w fun rv w' => rv = .returned (.bool true) ∧ Ext w w' := by
  obtain ⟨a0, a1, a2, a3, a4⟩ := row_cells ha
  obtain ⟨b0, b1, b2, b3, b4⟩ := row_cells hb
  exact eqIntS_five a b z0 z1 z2 z3 z4 w a0 a1 a2 a3 a4 b0 b1 b2 b3 b4
theorem heldIntS_row (a : Nat) (w : World) (ha : w.heap[a]? = some (.cells #[.int .i64 1, .int .i64 2, .int .i64 3, .int .i64 4, .int .i64 5] 3 (0, 0))) : Calls Try.prog 36 #[.slice (some ⟨a, 0, none⟩) 5 5, .int .i64 1] w fun rv w' => rv = .returned (.int .i64 6) ∧ Ext w w' := by
  obtain ⟨a0, a1, a2, a3, a4⟩ := row_cells ha
  exact heldIntS_five a w a0 a1 a2 a3 a4
theorem markIntS_row (a : Nat) (z0 z1 z2 z3 z4 : Int) (w : World) (ha : w.heap[a]? = some (.cells #[.int .i64 z0, .int .i64 z1, .int .i64 z2, .int .i64 z3, .int .i64 z4] 3 (0, 0))) :
    Calls Try.prog 35 #[.slice (some ⟨a, 0, none⟩) 5 5, .int .i64 1] w fun rv w' => rv = .returned (.int .i64 6) ∧ Row a #[.int .i64 1, .int .i64 2, .int .i64 3, .int .i64 4, .int .i64 5] w w' := by
  obtain ⟨a0, a1, a2, a3, a4⟩ := row_cells ha
  exact markIntS_five a w z0 z1 z2 z3 z4 ha a0 a1 a2 a3 a4

end Go.Proofs.Ytadehelclgpnfaa
