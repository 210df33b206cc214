/-
  The function IsDesk answers as its model at every argument; there are no conditions.
-/
import Derived.Test.YtcbkhlaiefiieadRows
import Derived.Test.YtcbkhlaiefiieadPlain
import Derived.Test.YtcbkhlaiefiieadWalkA
import Derived.Test.YtcbkhlaiefiieadWalkC
import Derived.Test.YtcbkhlaiefiieadWalkD
import Derived.Test.YtcbkhlaiefiieadWalkKD
import Derived.WalkKit
import Derived.ProofKit
import Derived.OpenShut
import Derived.Lib.SmallJoins
namespace Go.Proofs.Ytcbkhlaiefiiead.lIsDesk
open Go.ChangeShapes Go.WideShapes Go.ChangeAt Go.RowKit Go.Joins
set_option linter.unusedVariables false
set_option linter.unusedSimpArgs false

theorem walk (e f p m : Int) (w : World) : Calls Try.prog 4 #[dk e f p m] w fun rv w' => rv = .returned (.bool true) ∧ Ext w w' := by
  go_enter Try.func4, Try.ntmps4
  go_wp2_with (first | (go_at_call 9; refine (toDesk_any e f p m _).mono ?_; rintro rv w1 ⟨rfl, hb⟩; have ns : w.heap.size < w1.heap.size := hb.lt (by first | with_reducible assumption | omega | (simp; done) | (simp; omega)); have n0 : w1.cell? ⟨w.heap.size, 0, none⟩ = some (.int .i64 e) := (hb.cells _ _ (by first | with_reducible assumption | omega | (simp; done) | (simp; omega))).trans (by first | with_reducible assumption | (simp; done) | (simp; with_reducible assumption) | (rw [cell_alloc_before _ _ _ _ (by omega)]; with_reducible assumption) | (simp [go_sem, *]; done)); have n1 : w1.cell? ⟨w.heap.size, 1, none⟩ = some (.int .i64 f) := (hb.cells _ _ (by first | with_reducible assumption | omega | (simp; done) | (simp; omega))).trans (by first | with_reducible assumption | (simp; done) | (simp; with_reducible assumption) | (rw [cell_alloc_before _ _ _ _ (by omega)]; with_reducible assumption) | (simp [go_sem, *]; done)); have n2 : w1.cell? ⟨w.heap.size, 2, none⟩ = some (.int .i64 p) := (hb.cells _ _ (by first | with_reducible assumption | omega | (simp; done) | (simp; omega))).trans (by first | with_reducible assumption | (simp; done) | (simp; with_reducible assumption) | (rw [cell_alloc_before _ _ _ _ (by omega)]; with_reducible assumption) | (simp [go_sem, *]; done)); have n3 : w1.cell? ⟨w.heap.size, 3, none⟩ = some (.int .i64 m) := (hb.cells _ _ (by first | with_reducible assumption | omega | (simp; done) | (simp; omega))).trans (by first | with_reducible assumption | (simp; done) | (simp; with_reducible assumption) | (rw [cell_alloc_before _ _ _ _ (by omega)]; with_reducible assumption) | (simp [go_sem, *]; done)); (first | (have nx := Ext.trans hx hb; clear hx) | (have nx := Ext.trans (hx.alloc _) hb; clear hx) | (have nx := Ext.trans hx.drew hb; clear hx) | have nx := hb); clear hb; try clear hs; try clear g0; try clear g1; try clear g2; try clear g3; have hx := nx; clear nx; have hs := ns; clear ns; have g0 := n0; clear n0; have g1 := n1; clear n1; have g2 := n2; clear n2; have g3 := n3; clear n3) | (go_at_call 8; refine (sIsDesk_any e f p m _).mono ?_; rintro rv w1 ⟨rfl, hb⟩; have ns : w.heap.size < w1.heap.size := hb.lt (by first | with_reducible assumption | omega | (simp; done) | (simp; omega)); have n0 : w1.cell? ⟨w.heap.size, 0, none⟩ = some (.int .i64 e) := (hb.cells _ _ (by first | with_reducible assumption | omega | (simp; done) | (simp; omega))).trans (by first | with_reducible assumption | (simp; done) | (simp; with_reducible assumption) | (rw [cell_alloc_before _ _ _ _ (by omega)]; with_reducible assumption) | (simp [go_sem, *]; done)); have n1 : w1.cell? ⟨w.heap.size, 1, none⟩ = some (.int .i64 f) := (hb.cells _ _ (by first | with_reducible assumption | omega | (simp; done) | (simp; omega))).trans (by first | with_reducible assumption | (simp; done) | (simp; with_reducible assumption) | (rw [cell_alloc_before _ _ _ _ (by omega)]; with_reducible assumption) | (simp [go_sem, *]; done)); have n2 : w1.cell? ⟨w.heap.size, 2, none⟩ = some (.int .i64 p) := (hb.cells _ _ (by first | with_reducible assumption | omega | (simp; done) | (simp; omega))).trans (by first | with_reducible assumption | (simp; done) | (simp; with_reducible assumption) | (rw [cell_alloc_before _ _ _ _ (by omega)]; with_reducible assumption) | (simp [go_sem, *]; done)); have n3 : w1.cell? ⟨w.heap.size, 3, none⟩ = some (.int .i64 m) := (hb.cells _ _ (by first | with_reducible assumption | omega | (simp; done) | (simp; omega))).trans (by first | with_reducible assumption | (simp; done) | (simp; with_reducible assumption) | (rw [cell_alloc_before _ _ _ _ (by omega)]; with_reducible assumption) | (simp [go_sem, *]; done)); (first | (have nx := Ext.trans hx hb; clear hx) | (have nx := Ext.trans (hx.alloc _) hb; clear hx) | (have nx := Ext.trans hx.drew hb; clear hx) | have nx := hb); clear hb; try clear hs; try clear g0; try clear g1; try clear g2; try clear g3; have hx := nx; clear nx; have hs := ns; clear ns; have g0 := n0; clear n0; have g1 := n1; clear n1; have g2 := n2; clear n2; have g3 := n3; clear n3) | (go_at_call 10; refine (iIsDesk_any e f p m _).mono ?_; rintro rv w1 ⟨rfl, hb⟩; have ns : w.heap.size < w1.heap.size := hb.lt (by first | with_reducible assumption | omega | (simp; done) | (simp; omega)); have n0 : w1.cell? ⟨w.heap.size, 0, none⟩ = some (.int .i64 e) := (hb.cells _ _ (by first | with_reducible assumption | omega | (simp; done) | (simp; omega))).trans (by first | with_reducible assumption | (simp; done) | (simp; with_reducible assumption) | (rw [cell_alloc_before _ _ _ _ (by omega)]; with_reducible assumption) | (simp [go_sem, *]; done)); have n1 : w1.cell? ⟨w.heap.size, 1, none⟩ = some (.int .i64 f) := (hb.cells _ _ (by first | with_reducible assumption | omega | (simp; done) | (simp; omega))).trans (by first | with_reducible assumption | (simp; done) | (simp; with_reducible assumption) | (rw [cell_alloc_before _ _ _ _ (by omega)]; with_reducible assumption) | (simp [go_sem, *]; done)); have n2 : w1.cell? ⟨w.heap.size, 2, none⟩ = some (.int .i64 p) := (hb.cells _ _ (by first | with_reducible assumption | omega | (simp; done) | (simp; omega))).trans (by first | with_reducible assumption | (simp; done) | (simp; with_reducible assumption) | (rw [cell_alloc_before _ _ _ _ (by omega)]; with_reducible assumption) | (simp [go_sem, *]; done)); have n3 : w1.cell? ⟨w.heap.size, 3, none⟩ = some (.int .i64 m) := (hb.cells _ _ (by first | with_reducible assumption | omega | (simp; done) | (simp; omega))).trans (by first | with_reducible assumption | (simp; done) | (simp; with_reducible assumption) | (rw [cell_alloc_before _ _ _ _ (by omega)]; with_reducible assumption) | (simp [go_sem, *]; done)); (first | (have nx := Ext.trans hx hb; clear hx) | (have nx := Ext.trans (hx.alloc _) hb; clear hx) | (have nx := Ext.trans hx.drew hb; clear hx) | have nx := hb); clear hb; try clear hs; try clear g0; try clear g1; try clear g2; try clear g3; have hx := nx; clear nx; have hs := ns; clear ns; have g0 := n0; clear n0; have g1 := n1; clear n1; have g2 := n2; clear n2; have g3 := n3; clear n3))
  go_ret
  exact ⟨rfl, (by repeat (first | exact Ext.refl _ | with_reducible assumption | apply Ext.alloc | apply Ext.drew | apply Ext.drewN | (refine Ext.setRow ?_ (by first | (simp; done) | (simp; omega) | omega) _) | (refine Ext.setCell ?_ (by first | (simp; done) | (simp; omega) | omega) _) | (refine Ext.trans ?_ (by with_reducible assumption))))⟩

theorem own : ownKnob Try.prog.godebug = none := by kernel_rfl

set_option maxRecDepth 100000 in
theorem lifted (os : Os) (started : os.Started) (H : Type) (enc : TypeId × Value → H) :
    ReturnsInHanded {} Try.checked os 4 .any (Rows.fnExactIsDeskSpec.pre6 enc Try.prog Try.f4 Rows.fnExactIsDeskRow.domain false) (Rows.fnExactIsDeskSpec.post enc Try.prog Try.f4 false true false false) := by
  refine returnsInHanded_of_change (C := Try.checked) own started (by kernel_rfl) Try.func4
    (ChangeSpec.witness6 (enc := enc) (C := Try.checked) false ⟨#[], #[.agg #[.int .i64 0, .int .i64 0, .int .i64 0, .int .i64 0]], []⟩ 8 (by kernel_rfl) (by kernel_rfl) (by kernel_rfl) (by kernel_rfl)) ?_
  intro W base args ds gs before hval0 hW hcnd _
  have hval : ∀ (j : Nat) t v, Try.f4.params[j]? = some t → args[j]? = some v → Value.okWide Try.prog W .any base t v := hval0
  have hW' := hW
  obtain ⟨p, q, hA0, hV, rfl, hfz, hnd⟩ := hW
  have hA : DataW.TrodAll enc Try.prog W 0 (fun _ => true) true Try.f4.params.toList args.toList ds p := hA0
  rw [Try.params4] at hA hval
  obtain ⟨v0, vs0, d0, ds0, p0, q0, hargs, rfl, rfl, h0, r0⟩ := trodAll_cons hA
  obtain ⟨rfl, rfl, rfl⟩ := trodAll_nil r0
  obtain rfl : args = #[v0] := by cases args; simp_all
  obtain ⟨rfl, rfl⟩ := trodVars_none hV
  obtain ⟨e, f, p1, m, rfl, rfl, rfl, we, wf, wp, wm⟩ := open_desk (hval 0 31 v0 rfl rfl) h0
  clear hA0 hval0
  simp only [List.append_nil] at hW'
  refine (walk e f p1 m W).mono fun e W' ⟨he, hb⟩ => ?_
  subst he
  have hg : Below W.heap.size W W' := hb
  exact ⟨_, rfl, ⟨_, _, _, [], _, [], hW', (trodAll_cons_mk (shut_bool Try.underlying4 _) trodAll_mk0), (trodAll_cons_mk (shut_desk we wf wp wm) trodAll_mk0), rfl, hg.frame _, fun h => by cases h⟩⟩

/-- The given statement. -/
theorem proved : Rows.FnExactIsDeskSaid :=
  OpenClaim.holds_of_wide 4 Try.f4 rfl rfl rfl rfl rfl rfl rfl ⟨rfl, rfl, rfl, rfl, rfl⟩ rfl rfl rfl rfl rfl (by kernel_rfl) Try.func4 (by kernel_rfl)
    (of_decide_eq_true (by kernel_rfl)) (by unfold Func.isWrapper; first | (rw [if_pos (by decide +kernel)]; kernel_rfl) | (rw [if_neg (by decide +kernel)]; exact ⟨rfl, rfl⟩))
    (fun os started H enc _ => lifted os started H enc)
#print axioms proved
end Go.Proofs.Ytcbkhlaiefiiead.lIsDesk
