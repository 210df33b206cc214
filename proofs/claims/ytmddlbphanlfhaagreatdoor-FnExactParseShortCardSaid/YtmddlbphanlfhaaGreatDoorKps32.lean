/-
  Contracts of the functions that the laws reach, and the plain facts that they rest on, each under the conditions that its line names; part 32.
-/
import Derived.Test.YtmddlbphanlfhaaGreatDoorKps1
import Derived.Test.YtmddlbphanlfhaaGreatDoorKps2
import Derived.Test.YtmddlbphanlfhaaGreatDoorKps3
import Derived.Test.YtmddlbphanlfhaaGreatDoorKps4
import Derived.Test.YtmddlbphanlfhaaGreatDoorKps5
import Derived.Test.YtmddlbphanlfhaaGreatDoorKps11
import Derived.Test.YtmddlbphanlfhaaGreatDoorKps12
import Derived.Test.YtmddlbphanlfhaaGreatDoorKps13
import Derived.Test.YtmddlbphanlfhaaGreatDoorKps14
import Derived.Test.YtmddlbphanlfhaaGreatDoorKps15
import Derived.Test.YtmddlbphanlfhaaGreatDoorKps16
import Derived.Test.YtmddlbphanlfhaaGreatDoorKps17
import Derived.Test.YtmddlbphanlfhaaGreatDoorKps18
import Derived.Test.YtmddlbphanlfhaaGreatDoorKps19
import Derived.Test.YtmddlbphanlfhaaGreatDoorKps20
import Derived.Test.YtmddlbphanlfhaaGreatDoorKps21
import Derived.Test.YtmddlbphanlfhaaGreatDoorKps22
import Derived.Test.YtmddlbphanlfhaaGreatDoorKps23
import Derived.Test.YtmddlbphanlfhaaGreatDoorKps24
import Derived.Test.YtmddlbphanlfhaaGreatDoorKps25
import Derived.Test.YtmddlbphanlfhaaGreatDoorKps26
import Derived.Test.YtmddlbphanlfhaaGreatDoorKps30
import Derived.Test.YtmddlbphanlfhaaGreatDoorRows
import Derived.WalkKit
import Derived.LoopTactic
import Derived.Laws.Bits64b
import Derived.WalkSpells
import Derived.WalkLawsBesides
import Derived.StillTactics
import Derived.Laws.Pointers
import Derived.Deep.RegionHeld3
import Derived.Deep.QuietTactic
import Derived.BigQuiet
import Derived.Outline
import Derived.Lib.Hide
import Derived.RowKit3
import Derived.Carry
import Derived.IntWalk
namespace Go.Proofs.YtmddlbphanlfhaaGreatDoor
open Go Go.RowKit
set_option linter.unusedSimpArgs false
set_option linter.unusedVariables false

theorem infRounded_any (e f m mode : Int) (hg : goodB e f = true) (hm : m = 0 ∨ m = 1) (w : World) : Calls Tryz.prog 51 #[.agg #[.int .i64 m], fmt e f, .int .i64 mode] w fun rv w' => rv = .returned (.int .i64 (m * pw (e + f) + (pw e - 1) * pw f)) ∧ Ext w w' := by
  obtain ⟨h1, h2, h3, h4⟩ := good_iff.1 hg
  obtain ⟨⟨a1, a2⟩, ⟨b1, b2⟩, ⟨c1, c2⟩, hmul⟩ := pw_facts h1 h2 h3 h4
  have Hmul := Lib.hid hmul; clear hmul
  have pc : ∀ w, Calls Tryz.prog 82 #[fmt e f, .agg #[.int .i64 m, .int .i64 (pw e - 1), .int .i64 0]] w fun rv w' => rv = .returned (.int .i64 (m * pw (e + f) + (pw e - 1) * pw f)) ∧ Ext w w' := by
    intro w
    have := patternOf_any e f m (pw e - 1) 0 hg (by omega) (by omega) (by omega) (by omega) (by omega) (by omega) w
    rwa [Int.add_zero] at this
  have PC := Lib.hid pc; clear pc
  go_enter Tryz.func51, Tryz.ntmps51
  go_wp2_with fail
  go_region_held3 (fun w' => w'.cell? ⟨w.heap.size, 0, none⟩ = some (.int .i64 m) ∧ w'.cell? ⟨w.heap.size + 1, 0, none⟩ = some (.int .i64 e) ∧ w'.cell? ⟨w.heap.size + 1, 1, none⟩ = some (.int .i64 f) ∧ w.heap.size + 1 < w'.heap.size) ((refine ⟨?_, ?_, ?_, ?_⟩ <;> first | with_reducible assumption | ((rw [cell_setRow_far _ _ _ _ _ (by omega)]); with_reducible assumption) | ((rw [setRow_size]); with_reducible assumption) | ((repeat rw [World.cell?_setCell_far _ _ _ _ (by simp)]); with_reducible assumption) | (simp; done) | (simp [World.setCell]; first | done | omega) | (simp [go_sem, World.cell?_alloc_past, World.cell?_setCell_far, *]; done))) ((first | (go_at_call 83; refine (exponentOnes_any e f hg _).mono ?_; rintro rv w1 ⟨rfl, hb⟩; have ns : w.heap.size + 1 < w1.heap.size := hb.ltK; have n0 : w1.cell? ⟨w.heap.size, 0, none⟩ = some (.int .i64 m) := hb.cellK; have n1 : w1.cell? ⟨w.heap.size + 1, 0, none⟩ = some (.int .i64 e) := hb.cellK; have n2 : w1.cell? ⟨w.heap.size + 1, 1, none⟩ = some (.int .i64 f) := hb.cellK; (first | (have nx := hx.trK hb; clear hx) | have nx := hb); clear hb; try clear hs; try clear g0; try clear g1; try clear g2; have hx := nx; clear nx; have hs := ns; clear ns; have g0 := n0; clear n0; have g1 := n1; clear n1; have g2 := n2; clear n2) | (go_at_call 82; refine (PC.out _).mono ?_; rintro rv w1 ⟨rfl, hb⟩; have ns : w.heap.size + 1 < w1.heap.size := hb.ltK; have n0 : w1.cell? ⟨w.heap.size, 0, none⟩ = some (.int .i64 m) := hb.cellK; have n1 : w1.cell? ⟨w.heap.size + 1, 0, none⟩ = some (.int .i64 e) := hb.cellK; have n2 : w1.cell? ⟨w.heap.size + 1, 1, none⟩ = some (.int .i64 f) := hb.cellK; (first | (have nx := hx.trK hb; clear hx) | have nx := hb); clear hb; try clear hs; try clear g0; try clear g1; try clear g2; have hx := nx; clear nx; have hs := ns; clear ns; have g0 := n0; clear n0; have g1 := n1; clear n1; have g2 := n2; clear n2)))
  go_wp2_with fail
  go_ret
  exact ⟨rfl, Ext.auK⟩
end Go.Proofs.YtmddlbphanlfhaaGreatDoor

