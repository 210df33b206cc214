/-
  Contracts of the questions on patterns taken apart, each under the conditions that its line names.
-/
import Derived.Test.YtkppdcelhblgaaaRows
import Derived.Test.YtkppdcelhblgaaaPlain
import Derived.Test.YtkppdcelhblgaaaWalkA
import Derived.Test.YtkppdcelhblgaaaWalkF
import Derived.WalkKit
import Derived.WalkSpells
import Derived.WalkLawsBesides
import Derived.StillTactics
import Derived.Laws.Pointers
import Derived.Deep.RegionHeld3
import Derived.Deep.QuietTactic
import Derived.BigQuiet
import Derived.Outline
import Derived.Lib.Hide
import Derived.RowKit3
import Derived.Carry
import Derived.IntWalk
namespace Go.Proofs.Ytkppdcelhblgaaa
open Go Go.RowKit
set_option linter.unusedSimpArgs false
set_option linter.unusedVariables false

abbrev shp (s x r o : Int) : Value := .agg #[.int .i64 s, .int .i64 x, .int .i64 r, .int .i64 o]
abbrev fld (s x r : Int) : Value := .agg #[.int .i64 s, .int .i64 x, .int .i64 r]

theorem eqFields (a b c a' b' c' : Int) (w : World) : (Op.equalIn 10000 68 (.agg #[.int .i64 a, .int .i64 b, .int .i64 c]) (.agg #[.int .i64 a', .int .i64 b', .int .i64 c'])).run Try.prog w = .ok (a == a' && (b == b' && c == c')) w := by
  have u3 := Try.underlying3
  have a3 := Try.isAgg3
  have z3 := Try.sizeOf3
  rw [show (10000 : Nat) = 9999 + 1 from rfl, Op.equalIn]
  simp only [Sem.run_bind, run_underlying Try.underlying68, Result.andThen_ok]
  simp only [Std.Legacy.Range.forIn_eq_forIn_range', Std.Legacy.Range.size, Nat.sub_zero, Nat.add_sub_cancel, Nat.div_one, List.range'_succ, List.range'_zero, List.forIn_cons, List.forIn_nil]
  go_simp
  by_cases h1 : a = a' <;> by_cases h2 : b = b' <;> by_cases h3 : c = c' <;> simp [h1, h2, h3]

theorem buildShape (a b c d : Int) (w : World) : (Instr.build 80 #[(0, .agg #[.int .i64 a, .int .i64 b, .int .i64 c]), (1, .int .i64 d)]).run Try.prog w = .ok (.agg #[.int .i64 a, .int .i64 b, .int .i64 c, .int .i64 d]) w := run_build w _ _ _ (by kernel_rfl)

theorem shSize_any (s x r o : Int) (w : World) : Calls Try.prog 104 #[shp s x r o] w fun rv w' => rv = .returned (fld 0 x r) ∧ Ext w w' := by
  go_enter Try.func104, Try.ntmps104
  go_wp2
  refine bodyPost_ret (v := fld 0 x r) (by simp [results, Try.results104, go_sem, *]) rfl ⟨rfl, (by repeat (first | exact Ext.refl _ | with_reducible assumption | apply Ext.alloc | apply Ext.drew | apply Ext.drewN | (refine Ext.setRow ?_ (by first | (simp; done) | (simp; omega) | omega) _) | (refine Ext.setCell ?_ (by first | (simp; done) | (simp; omega) | omega) _) | (refine Ext.trans ?_ (by with_reducible assumption))))⟩

theorem shFinite_any (s x r o : Int) (w : World) : Calls Try.prog 94 #[shp s x r o] w fun rv w' => rv = .returned (.bool (decide (x < o))) ∧ Ext w w' := by
  go_enter Try.func94, Try.ntmps94
  go_wp2
  go_ret
  exact ⟨rfl, (by repeat (first | exact Ext.refl _ | with_reducible assumption | apply Ext.alloc | apply Ext.drew | apply Ext.drewN | (refine Ext.setRow ?_ (by first | (simp; done) | (simp; omega) | omega) _) | (refine Ext.setCell ?_ (by first | (simp; done) | (simp; omega) | omega) _) | (refine Ext.trans ?_ (by with_reducible assumption))))⟩

theorem shInfinite_any (s x r o : Int) (w : World) : Calls Try.prog 95 #[shp s x r o] w fun rv w' => rv = .returned (.bool (x == o && r == 0)) ∧ Ext w w' := by
  have q := eqFields 0 x r 0 o 0
  go_enter Try.func95, Try.ntmps95
  go_wp2_with fail
  go_region_held3 (fun w' => w'.cell? ⟨w.heap.size, 0, none⟩ = some (.int .i64 s) ∧ w'.cell? ⟨w.heap.size, 1, none⟩ = some (.int .i64 x) ∧ w'.cell? ⟨w.heap.size, 2, none⟩ = some (.int .i64 r) ∧ w'.cell? ⟨w.heap.size, 3, none⟩ = some (.int .i64 o) ∧ w.heap.size < w'.heap.size) ((refine ⟨?_, ?_, ?_, ?_, ?_⟩ <;> first | with_reducible assumption | ((rw [cell_setRow_far _ _ _ _ _ (by omega)]); with_reducible assumption) | ((rw [setRow_size]); with_reducible assumption) | ((repeat rw [World.cell?_setCell_far _ _ _ _ (by simp)]); with_reducible assumption) | (simp; done) | (simp [World.setCell]; first | done | omega) | (simp [go_sem, World.cell?_alloc_past, World.cell?_setCell_far, *]; done))) ((first | (go_at_call 104; refine (shSize_any s x r o _).mono ?_; rintro rv w1 ⟨rfl, hb⟩; have ns : w.heap.size < w1.heap.size := hb.lt (by first | with_reducible assumption | omega | (simp; done) | (simp; omega)); have n0 : w1.cell? ⟨w.heap.size, 0, none⟩ = some (.int .i64 s) := (hb.cells _ _ (by first | with_reducible assumption | omega | (simp; done) | (simp; omega))).trans (by first | with_reducible assumption | (simp; done) | (simp; with_reducible assumption) | (rw [cell_alloc_before _ _ _ _ (by omega)]; with_reducible assumption) | (simp [go_sem, *]; done)); have n1 : w1.cell? ⟨w.heap.size, 1, none⟩ = some (.int .i64 x) := (hb.cells _ _ (by first | with_reducible assumption | omega | (simp; done) | (simp; omega))).trans (by first | with_reducible assumption | (simp; done) | (simp; with_reducible assumption) | (rw [cell_alloc_before _ _ _ _ (by omega)]; with_reducible assumption) | (simp [go_sem, *]; done)); have n2 : w1.cell? ⟨w.heap.size, 2, none⟩ = some (.int .i64 r) := (hb.cells _ _ (by first | with_reducible assumption | omega | (simp; done) | (simp; omega))).trans (by first | with_reducible assumption | (simp; done) | (simp; with_reducible assumption) | (rw [cell_alloc_before _ _ _ _ (by omega)]; with_reducible assumption) | (simp [go_sem, *]; done)); have n3 : w1.cell? ⟨w.heap.size, 3, none⟩ = some (.int .i64 o) := (hb.cells _ _ (by first | with_reducible assumption | omega | (simp; done) | (simp; omega))).trans (by first | with_reducible assumption | (simp; done) | (simp; with_reducible assumption) | (rw [cell_alloc_before _ _ _ _ (by omega)]; with_reducible assumption) | (simp [go_sem, *]; done)); (first | (have nx := Ext.trans hx hb; clear hx) | (have nx := Ext.trans (hx.alloc _) hb; clear hx) | (have nx := Ext.trans hx.drew hb; clear hx) | have nx := hb); clear hb; try clear hs; try clear g0; try clear g1; try clear g2; try clear g3; have hx := nx; clear nx; have hs := ns; clear ns; have g0 := n0; clear n0; have g1 := n1; clear n1; have g2 := n2; clear n2; have g3 := n3; clear n3)))
  go_wp2
  go_ret
  exact ⟨ret_bool (by simp), (by repeat (first | exact Ext.refl _ | with_reducible assumption | apply Ext.alloc | apply Ext.drew | apply Ext.drewN | (refine Ext.setRow ?_ (by first | (simp; done) | (simp; omega) | omega) _) | (refine Ext.setCell ?_ (by first | (simp; done) | (simp; omega) | omega) _) | (refine Ext.trans ?_ (by with_reducible assumption))))⟩

end Go.Proofs.Ytkppdcelhblgaaa
