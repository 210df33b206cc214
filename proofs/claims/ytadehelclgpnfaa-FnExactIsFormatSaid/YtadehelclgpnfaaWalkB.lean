/-
  Contracts of the exported functions of the program and of its model on formats, each under the conditions that its line names.
-/
import Derived.Test.YtadehelclgpnfaaRows
import Derived.Test.YtadehelclgpnfaaPlain
import Derived.Test.YtadehelclgpnfaaWalkA
import Derived.WalkKit
import Derived.WalkSpells
import Derived.WalkLawsBesides
import Derived.StillTactics
import Derived.Laws.Pointers
import Derived.Deep.RegionHeld3
import Derived.Deep.QuietTactic
import Derived.BigQuiet
import Derived.Outline
import Derived.Lib.Hide
import Derived.RowKit3
import Derived.Carry
import Derived.IntWalk
namespace Go.Proofs.Ytadehelclgpnfaa
open Go Go.RowKit
set_option linter.unusedSimpArgs false
set_option linter.unusedVariables false

theorem specIsFormat_any (e f : Int) (w : World) : Calls Try.prog 13 #[fmt e f] w fun r w' => r = .returned (.bool (goodB e f)) ∧ Ext w w' := by
  go_enter Try.func13, Try.ntmps13
  go_wp2_with (go_at_call 37; refine (fmGood_any e f _).mono ?_; rintro r w1 ⟨rfl, hb⟩; have hc := hb.cells; have hz := hb.frz; have hs : w.heap.size < w1.heap.size := hb.lt (by first | assumption | omega | (simp; done) | (simp; omega)); have g0 : w1.cell? ⟨w.heap.size, 0, none⟩ = some (.int .i64 e) := (hc _ _ (by first | assumption | omega | (simp; done) | (simp; omega))).trans (by first | assumption | (simp; done)); have g1 : w1.cell? ⟨w.heap.size, 1, none⟩ = some (.int .i64 f) := (hc _ _ (by first | assumption | omega | (simp; done) | (simp; omega))).trans (by first | assumption | (simp; done)); clear hc hz)
  go_ret
  exact ⟨rfl, (by repeat (first | exact Ext.refl _ | assumption | apply Ext.alloc | apply Ext.drew | (refine Ext.setCell ?_ (by simp) _) | (refine Ext.trans ?_ (by assumption))))⟩

end Go.Proofs.Ytadehelclgpnfaa
