/-
  The contract of the function that takes a pattern apart into its fields, for patterns of formats.
-/
import Derived.Test.YtadehelclgpnfaaRows
import Derived.Test.YtadehelclgpnfaaPlain
import Derived.Test.YtadehelclgpnfaaWalkA
import Derived.WalkKit
import Derived.WalkSpells
import Derived.WalkLawsBesides
import Derived.StillTactics
import Derived.Laws.Pointers
import Derived.Deep.RegionHeld3
import Derived.Deep.QuietTactic
import Derived.BigQuiet
import Derived.Outline
import Derived.Lib.Hide
import Derived.RowKit3
import Derived.Carry
import Derived.IntWalk
namespace Go.Proofs.Ytadehelclgpnfaa
open Go Go.RowKit
set_option linter.unusedSimpArgs false
set_option linter.unusedVariables false

set_option maxHeartbeats 1600000 in
theorem fieldsOf_any (e f p : Int) (hg : goodB e f = true) (hp : 0 ≤ p) (hp2 : p ≤ 65535) (w : World) : Calls Try.prog 45 #[fmt e f, .int .i64 p] w fun rv w' => rv = .returned (.agg #[.int .i64 (p / pw (e + f)), .int .i64 (p % pw (e + f) / pw f), .int .i64 (p % pw f)]) ∧ Ext w w' := by
  obtain ⟨h1, h2, h3, h4⟩ := good_iff.1 hg
  obtain ⟨⟨a1, a2⟩, ⟨b1, b2⟩, ⟨c1, c2⟩, hmul⟩ := pw_facts h1 h2 h3 h4
  have Hmul := Lib.hid hmul; clear hmul
  have k1 := pw_of f
  have k2 : ¬ pw (e + f) = 0 := by omega
  have k3 : (pw (e + f) == 0) = false := by simpa using k2
  have k4 : IntKind.i64.wrap (p.tdiv (pw (e + f))) = p / pw (e + f) := IntWalk.i64_quo _ _ (by omega)
  have q0 := IntWalk.tdiv_le p (pw f) hp (by omega)
  have k5 : bits .and .i64 (p / pw f) (pw e - 1) = p % pw (e + f) / pw f := by rw [and_pw _ e q0.1 (by omega) (by omega), Hmul.out, field_eq p _ _ hp (by omega) (by omega)]
  have k6 : bits .and .i64 p (pw f - 1) = p % pw f := and_pw p f hp (by omega) (by omega)
  go_enter Try.func45, Try.ntmps45
  go_wp2_with fail
  go_region_held3 (fun w' => w'.cell? ⟨w.heap.size, 0, none⟩ = some (.int .i64 e) ∧ w'.cell? ⟨w.heap.size, 1, none⟩ = some (.int .i64 f) ∧ w.heap.size + 1 < w'.heap.size) ((refine ⟨?_, ?_, ?_⟩ <;> first | assumption | (simp; done) | (simp [go_sem, World.cell?_alloc_past, World.cell?_setCell_far, *]; done) | (simp; omega))) ((first | (go_at_call 53; refine (signBit_any e f hg _).mono ?_; rintro rv w1 ⟨rfl, hb⟩; have hc := hb.cells; have hz := hb.frz; have hs : w.heap.size + 1 < w1.heap.size := hb.lt (by first | assumption | omega | (simp; done) | (simp; omega)); have g0 : w1.cell? ⟨w.heap.size, 0, none⟩ = some (.int .i64 e) := (hc _ _ (by first | assumption | omega | (simp; done) | (simp; omega))).trans (by first | assumption | (simp; done)); have g1 : w1.cell? ⟨w.heap.size, 1, none⟩ = some (.int .i64 f) := (hc _ _ (by first | assumption | omega | (simp; done) | (simp; omega))).trans (by first | assumption | (simp; done)); have g2 : w1.cell? ⟨w.heap.size + 1, 0, none⟩ = some (.int .i64 0) := (hc _ _ (by first | assumption | omega | (simp; done) | (simp; omega))).trans (by first | assumption | (simp; done)); have g3 : w1.cell? ⟨w.heap.size + 1, 1, none⟩ = some (.int .i64 0) := (hc _ _ (by first | assumption | omega | (simp; done) | (simp; omega))).trans (by first | assumption | (simp; done)); have g4 : w1.cell? ⟨w.heap.size + 1, 2, none⟩ = some (.int .i64 0) := (hc _ _ (by first | assumption | omega | (simp; done) | (simp; omega))).trans (by first | assumption | (simp; done)); have z0 : w1.frozen? ⟨w.heap.size + 1, 0, none⟩ = false := (hz _ _ (by first | assumption | omega | (simp; done) | (simp; omega))).trans (by first | assumption | (simp [go_sem]; done)); have z1 : w1.frozen? ⟨w.heap.size + 1, 1, none⟩ = false := (hz _ _ (by first | assumption | omega | (simp; done) | (simp; omega))).trans (by first | assumption | (simp [go_sem]; done)); have z2 : w1.frozen? ⟨w.heap.size + 1, 2, none⟩ = false := (hz _ _ (by first | assumption | omega | (simp; done) | (simp; omega))).trans (by first | assumption | (simp [go_sem]; done)); clear hc hz) | (go_at_call 49; refine (exponentOnes_any e f hg _).mono ?_; rintro rv w1 ⟨rfl, hb⟩; have hc := hb.cells; have hz := hb.frz; have hs : w.heap.size + 1 < w1.heap.size := hb.lt (by first | assumption | omega | (simp; done) | (simp; omega)); have g0 : w1.cell? ⟨w.heap.size, 0, none⟩ = some (.int .i64 e) := (hc _ _ (by first | assumption | omega | (simp; done) | (simp; omega))).trans (by first | assumption | (simp; done)); have g1 : w1.cell? ⟨w.heap.size, 1, none⟩ = some (.int .i64 f) := (hc _ _ (by first | assumption | omega | (simp; done) | (simp; omega))).trans (by first | assumption | (simp; done)); have g2 : w1.cell? ⟨w.heap.size + 1, 0, none⟩ = some (.int .i64 0) := (hc _ _ (by first | assumption | omega | (simp; done) | (simp; omega))).trans (by first | assumption | (simp; done)); have g3 : w1.cell? ⟨w.heap.size + 1, 1, none⟩ = some (.int .i64 0) := (hc _ _ (by first | assumption | omega | (simp; done) | (simp; omega))).trans (by first | assumption | (simp; done)); have g4 : w1.cell? ⟨w.heap.size + 1, 2, none⟩ = some (.int .i64 0) := (hc _ _ (by first | assumption | omega | (simp; done) | (simp; omega))).trans (by first | assumption | (simp; done)); have z0 : w1.frozen? ⟨w.heap.size + 1, 0, none⟩ = false := (hz _ _ (by first | assumption | omega | (simp; done) | (simp; omega))).trans (by first | assumption | (simp [go_sem]; done)); have z1 : w1.frozen? ⟨w.heap.size + 1, 1, none⟩ = false := (hz _ _ (by first | assumption | omega | (simp; done) | (simp; omega))).trans (by first | assumption | (simp [go_sem]; done)); have z2 : w1.frozen? ⟨w.heap.size + 1, 2, none⟩ = false := (hz _ _ (by first | assumption | omega | (simp; done) | (simp; omega))).trans (by first | assumption | (simp [go_sem]; done)); clear hc hz) | (go_at_call 50; refine (fractionOnes_any e f hg _).mono ?_; rintro rv w1 ⟨rfl, hb⟩; have hc := hb.cells; have hz := hb.frz; have hs : w.heap.size + 1 < w1.heap.size := hb.lt (by first | assumption | omega | (simp; done) | (simp; omega)); have g0 : w1.cell? ⟨w.heap.size, 0, none⟩ = some (.int .i64 e) := (hc _ _ (by first | assumption | omega | (simp; done) | (simp; omega))).trans (by first | assumption | (simp; done)); have g1 : w1.cell? ⟨w.heap.size, 1, none⟩ = some (.int .i64 f) := (hc _ _ (by first | assumption | omega | (simp; done) | (simp; omega))).trans (by first | assumption | (simp; done)); have g2 : w1.cell? ⟨w.heap.size + 1, 0, none⟩ = some (.int .i64 0) := (hc _ _ (by first | assumption | omega | (simp; done) | (simp; omega))).trans (by first | assumption | (simp; done)); have g3 : w1.cell? ⟨w.heap.size + 1, 1, none⟩ = some (.int .i64 0) := (hc _ _ (by first | assumption | omega | (simp; done) | (simp; omega))).trans (by first | assumption | (simp; done)); have g4 : w1.cell? ⟨w.heap.size + 1, 2, none⟩ = some (.int .i64 0) := (hc _ _ (by first | assumption | omega | (simp; done) | (simp; omega))).trans (by first | assumption | (simp; done)); have z0 : w1.frozen? ⟨w.heap.size + 1, 0, none⟩ = false := (hz _ _ (by first | assumption | omega | (simp; done) | (simp; omega))).trans (by first | assumption | (simp [go_sem]; done)); have z1 : w1.frozen? ⟨w.heap.size + 1, 1, none⟩ = false := (hz _ _ (by first | assumption | omega | (simp; done) | (simp; omega))).trans (by first | assumption | (simp [go_sem]; done)); have z2 : w1.frozen? ⟨w.heap.size + 1, 2, none⟩ = false := (hz _ _ (by first | assumption | omega | (simp; done) | (simp; omega))).trans (by first | assumption | (simp [go_sem]; done)); clear hc hz)))
  go_wp2
  exact bodyPost_ret (v := .agg #[.int .i64 (p / pw (e + f)), .int .i64 (p % pw (e + f) / pw f), .int .i64 (p % pw f)]) (by simp [results, Try.results45, go_sem, *]) rfl ⟨rfl, (by repeat (first | exact Ext.refl _ | assumption | apply Ext.alloc | apply Ext.drew | apply Ext.drewN | (refine Ext.setCell ?_ (by simp) _) | (refine Ext.trans ?_ (by assumption))))⟩


end Go.Proofs.Ytadehelclgpnfaa
