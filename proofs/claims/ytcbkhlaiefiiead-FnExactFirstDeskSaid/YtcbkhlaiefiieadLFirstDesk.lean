/-
  The function FirstDesk answers as its model; there are no conditions.
-/
import Derived.Test.YtcbkhlaiefiieadRows
import Derived.Test.YtcbkhlaiefiieadPlain
import Derived.Test.YtcbkhlaiefiieadWalkA
import Derived.Test.YtcbkhlaiefiieadWalkC
import Derived.Test.YtcbkhlaiefiieadWalkD
import Derived.Test.YtcbkhlaiefiieadWalkKD
import Derived.WalkKit
import Derived.ProofKit
import Derived.OpenShut
import Derived.Lib.SmallJoins
namespace Go.Proofs.Ytcbkhlaiefiiead.lFirstDesk
open Go.ChangeShapes Go.WideShapes Go.ChangeAt Go.RowKit Go.Joins
set_option linter.unusedVariables false
set_option linter.unusedSimpArgs false

theorem walk (w : World) : Calls Try.prog 3 #[] w fun rv w' => rv = .returned (.bool true) ∧ Ext w w' := by
  go_enter Try.func3, Try.ntmps3
  go_wp2_with (first | (go_at_call 5; refine (sFirstDesk_any _).mono ?_; rintro rv w1 ⟨rfl, hb⟩; have hx : Ext w w1 := hb) | (go_at_call 6; refine (iFirstDesk_any _).mono ?_; rintro rv w2 ⟨rfl, hb2⟩; have k0 : w2.cell? ⟨w1.heap.size, 0, none⟩ = some (.int .i64 4) := (hb2.cells _ _ (by simp)).trans (by simp [go_sem]); have k1 : w2.cell? ⟨w1.heap.size, 1, none⟩ = some (.int .i64 3) := (hb2.cells _ _ (by simp)).trans (by simp [go_sem]); have k2 : w2.cell? ⟨w1.heap.size, 2, none⟩ = some (.int .i64 56) := (hb2.cells _ _ (by simp)).trans (by simp [go_sem]); have k3 : w2.cell? ⟨w1.heap.size, 3, none⟩ = some (.int .i64 0) := (hb2.cells _ _ (by simp)).trans (by simp [go_sem]); have ksz : w1.heap.size < w2.heap.size := hb2.lt (by simp); have hy : Ext w w2 := Ext.trans (by repeat (first | with_reducible assumption | with_reducible apply Ext.alloc)) hb2) | (go_at_call 7; refine (eqDesk_same 4 3 56 0 _).mono ?_; rintro rv w3 ⟨rfl, hb3⟩))
  go_ret
  exact ⟨rfl, (by repeat (first | exact Ext.refl _ | with_reducible assumption | apply Ext.alloc | apply Ext.drew | apply Ext.drewN | (refine Ext.setRow ?_ (by first | (simp; done) | (simp; omega) | omega) _) | (refine Ext.setCell ?_ (by first | (simp; done) | (simp; omega) | omega) _) | (refine Ext.trans ?_ (by with_reducible assumption))))⟩

theorem own : ownKnob Try.prog.godebug = none := by kernel_rfl

set_option maxRecDepth 100000 in
theorem lifted (os : Os) (started : os.Started) (H : Type) (enc : TypeId × Value → H) :
    ReturnsInHanded {} Try.checked os 3 .any (Rows.fnExactFirstDeskSpec.pre6 enc Try.prog Try.f3 Rows.fnExactFirstDeskRow.domain false) (Rows.fnExactFirstDeskSpec.post enc Try.prog Try.f3 false true false false) := by
  refine returnsInHanded_of_change (C := Try.checked) own started (by kernel_rfl) Try.func3
    (ChangeSpec.witness6 (enc := enc) (C := Try.checked) false ⟨#[], #[], []⟩ 8 (by kernel_rfl) (by kernel_rfl) (by kernel_rfl) (by kernel_rfl)) ?_
  intro W base args ds gs before hval0 hW hcnd _
  have hval : ∀ (j : Nat) t v, Try.f3.params[j]? = some t → args[j]? = some v → Value.okWide Try.prog W .any base t v := hval0
  have hW' := hW
  obtain ⟨p, q, hA0, hV, rfl, hfz, hnd⟩ := hW
  have hA : DataW.TrodAll enc Try.prog W 0 (fun _ => true) true Try.f3.params.toList args.toList ds p := hA0
  rw [Try.params3] at hA hval
  obtain ⟨hn, rfl, rfl⟩ := trodAll_nil hA
  obtain rfl : args = #[] := by cases args; simpa using hn
  obtain ⟨rfl, rfl⟩ := trodVars_none hV
  clear hA0 hval0
  simp only [List.append_nil] at hW'
  refine (walk W).mono fun e W' ⟨he, hb⟩ => ?_
  subst he
  have hg : Below W.heap.size W W' := hb
  exact ⟨_, rfl, ⟨_, _, _, [], _, [], hW', (trodAll_cons_mk (shut_bool Try.underlying4 _) trodAll_mk0), trodAll_mk0, rfl, hg.frame _, fun h => by cases h⟩⟩

/-- The given statement. -/
theorem proved : Rows.FnExactFirstDeskSaid :=
  OpenClaim.holds_of_wide 3 Try.f3 rfl rfl rfl rfl rfl rfl rfl ⟨rfl, rfl, rfl, rfl, rfl⟩ rfl rfl rfl rfl rfl (by kernel_rfl) Try.func3 (by kernel_rfl)
    (of_decide_eq_true (by kernel_rfl)) (by unfold Func.isWrapper; first | (rw [if_pos (by decide +kernel)]; kernel_rfl) | (rw [if_neg (by decide +kernel)]; exact ⟨rfl, rfl⟩))
    (fun os started H enc _ => lifted os started H enc)
#print axioms proved
end Go.Proofs.Ytcbkhlaiefiiead.lFirstDesk
