/-
  The law FnPatternsOrderedOfAll holds at every argument; there are no conditions.
-/
import Derived.Test.YtmddlbphanlfhaaRows
import Derived.Test.YtmddlbphanlfhaaWFnPatternsOrderedOfAll
import Derived.Test.YtmddlbphanlfhaaKpo1
import Derived.Test.YtmddlbphanlfhaaKpo2
import Derived.Test.YtmddlbphanlfhaaKpo3
import Derived.Test.YtmddlbphanlfhaaKpo4
import Derived.Test.YtmddlbphanlfhaaKpo5
import Derived.Test.YtmddlbphanlfhaaKpo6
import Derived.Test.YtmddlbphanlfhaaKpo7
import Derived.Test.YtmddlbphanlfhaaKpo8
import Derived.Test.YtmddlbphanlfhaaKpo9
import Derived.Test.YtmddlbphanlfhaaKpo10
import Derived.Test.YtmddlbphanlfhaaKpo11
import Derived.Test.YtmddlbphanlfhaaSeatA
import Derived.Test.YtmddlbphanlfhaaSeatB
import Derived.Test.YtmddlbphanlfhaaSeatC
import Derived.WalkKit
import Derived.ProofKit
import Derived.OpenShut
import Derived.Lib.Hide
import Derived.Deep.RegionHeld3
import Derived.Deep.DeepCutAuto
import Derived.Deep.CutBlock
import Derived.Lib.SmallJoins
namespace Go.Proofs.Ytmddlbphanlfhaa.lPatternsOrderedOfAll
open Go.ChangeShapes Go.WideShapes Go.ChangeAt Go.RowKit Go.Joins
set_option linter.unusedVariables false
set_option linter.unusedSimpArgs false

theorem own : ownKnob Try.prog.godebug = none := by kernel_rfl

set_option maxRecDepth 100000 in
theorem lifted (os : Os) (started : os.Started) (H : Type) (enc : TypeId × Value → H) :
    ReturnsInHanded {} Try.checked os 3 .any (Rows.fnPatternsOrderedOfAllSpec.pre6 enc Try.prog Try.f3 Rows.fnPatternsOrderedOfAllRow.domain false) (Rows.fnPatternsOrderedOfAllSpec.post enc Try.prog Try.f3 false true false false) := by
  refine returnsInHanded_of_change (C := Try.checked) own started (by kernel_rfl) Try.func3
    (ChangeSpec.witness6 (enc := enc) (C := Try.checked) false ⟨#[], #[.agg #[.int .i64 0, .int .i64 0], .int .i64 0, .agg #[.int .i64 0, .int .i64 0], .int .i64 0, .int .i64 0, .agg #[.int .i64 0, .int .i64 0], .int .i64 0, .agg #[.int .i64 0, .int .i64 0], .int .i64 0], []⟩ 8 (by kernel_rfl) (by kernel_rfl) (by kernel_rfl) (by kernel_rfl)) ?_
  intro W base args ds gs before hval0 hW hcnd _
  have hval : ∀ (j : Nat) t v, Try.f3.params[j]? = some t → args[j]? = some v → Value.okWide Try.prog W .any base t v := hval0
  have hW' := hW
  obtain ⟨p, q, hA0, hV, rfl, hfz, hnd⟩ := hW
  have hA : DataW.TrodAll enc Try.prog W 0 (fun _ => true) true Try.f3.params.toList args.toList ds p := hA0
  rw [Try.params3] at hA hval
  obtain ⟨v0, vs0, d0, ds0, p0, q0, hargs, rfl, rfl, h0, r0⟩ := trodAll_cons hA
  obtain ⟨v1, vs1, d1, ds1, p1, q1, rfl, rfl, rfl, h1, r1⟩ := trodAll_cons r0
  obtain ⟨v2, vs2, d2, ds2, p2, q2, rfl, rfl, rfl, h2, r2⟩ := trodAll_cons r1
  obtain ⟨v3, vs3, d3, ds3, p3, q3, rfl, rfl, rfl, h3, r3⟩ := trodAll_cons r2
  obtain ⟨v4, vs4, d4, ds4, p4, q4, rfl, rfl, rfl, h4, r4⟩ := trodAll_cons r3
  obtain ⟨v5, vs5, d5, ds5, p5, q5, rfl, rfl, rfl, h5, r5⟩ := trodAll_cons r4
  obtain ⟨v6, vs6, d6, ds6, p6, q6, rfl, rfl, rfl, h6, r6⟩ := trodAll_cons r5
  obtain ⟨v7, vs7, d7, ds7, p7, q7, rfl, rfl, rfl, h7, r7⟩ := trodAll_cons r6
  obtain ⟨v8, vs8, d8, ds8, p8, q8, rfl, rfl, rfl, h8, r8⟩ := trodAll_cons r7
  obtain ⟨rfl, rfl, rfl⟩ := trodAll_nil r8
  obtain rfl : args = #[v0, v1, v2, v3, v4, v5, v6, v7, v8] := by cases args; simp_all
  obtain ⟨rfl, rfl⟩ := trodVars_none hV
  obtain ⟨c00, c01, y00, y01, m0, rfl, rfl, rfl, hy00, hy01⟩ := open_agg2 Try.underlying23 (by kernel_rfl) (by kernel_rfl) (hval 0 23 v0 rfl rfl) h0
  obtain ⟨a0, e00, rfl, wa0⟩ := DataW.trod_int Try.underlying3 hy00
  obtain ⟨b0, e01, rfl, wb0⟩ := DataW.trod_int Try.underlying3 hy01
  simp at e00 e01
  subst e00 e01
  obtain ⟨a1, rfl, rfl, rfl, wa1⟩ := open_int Try.underlying3 (hval 1 3 v1 rfl rfl) h1
  obtain ⟨c20, c21, y20, y21, m2, rfl, rfl, rfl, hy20, hy21⟩ := open_agg2 Try.underlying23 (by kernel_rfl) (by kernel_rfl) (hval 2 23 v2 rfl rfl) h2
  obtain ⟨a2, e20, rfl, wa2⟩ := DataW.trod_int Try.underlying3 hy20
  obtain ⟨b2, e21, rfl, wb2⟩ := DataW.trod_int Try.underlying3 hy21
  simp at e20 e21
  subst e20 e21
  obtain ⟨a3, rfl, rfl, rfl, wa3⟩ := open_int Try.underlying3 (hval 3 3 v3 rfl rfl) h3
  obtain ⟨a4, rfl, rfl, rfl, wa4⟩ := open_int Try.underlying3 (hval 4 3 v4 rfl rfl) h4
  obtain ⟨c50, c51, y50, y51, m5, rfl, rfl, rfl, hy50, hy51⟩ := open_agg2 Try.underlying23 (by kernel_rfl) (by kernel_rfl) (hval 5 23 v5 rfl rfl) h5
  obtain ⟨a5, e50, rfl, wa5⟩ := DataW.trod_int Try.underlying3 hy50
  obtain ⟨b5, e51, rfl, wb5⟩ := DataW.trod_int Try.underlying3 hy51
  simp at e50 e51
  subst e50 e51
  obtain ⟨a6, rfl, rfl, rfl, wa6⟩ := open_int Try.underlying3 (hval 6 3 v6 rfl rfl) h6
  obtain ⟨c70, c71, y70, y71, m7, rfl, rfl, rfl, hy70, hy71⟩ := open_agg2 Try.underlying23 (by kernel_rfl) (by kernel_rfl) (hval 7 23 v7 rfl rfl) h7
  obtain ⟨a7, e70, rfl, wa7⟩ := DataW.trod_int Try.underlying3 hy70
  obtain ⟨b7, e71, rfl, wb7⟩ := DataW.trod_int Try.underlying3 hy71
  simp at e70 e71
  subst e70 e71
  obtain ⟨a8, rfl, rfl, rfl, wa8⟩ := open_int Try.underlying3 (hval 8 3 v8 rfl rfl) h8
  clear hA0 hval0
  simp only [List.append_nil] at hW'
  have sr0 : ∀ (W' : World) (sp : Nat → Bool), DataW.Trod enc Try.prog W' 0 sp true 23 (.agg #[.int .i64 a0, .int .i64 b0]) (.agg [.lit (.int .i64 a0), .lit (.int .i64 b0)]) [] := fun W' sp =>
    shut_agg2 (y0 := (.lit (.int .i64 a0), [])) (y1 := (.lit (.int .i64 b0), [])) Try.underlying23 (by kernel_rfl) (by kernel_rfl) ⟨1, by simp [DataW.trod, Try.underlying3, wa0]⟩ ⟨1, by simp [DataW.trod, Try.underlying3, wb0]⟩
  have sr2 : ∀ (W' : World) (sp : Nat → Bool), DataW.Trod enc Try.prog W' 0 sp true 23 (.agg #[.int .i64 a2, .int .i64 b2]) (.agg [.lit (.int .i64 a2), .lit (.int .i64 b2)]) [] := fun W' sp =>
    shut_agg2 (y0 := (.lit (.int .i64 a2), [])) (y1 := (.lit (.int .i64 b2), [])) Try.underlying23 (by kernel_rfl) (by kernel_rfl) ⟨1, by simp [DataW.trod, Try.underlying3, wa2]⟩ ⟨1, by simp [DataW.trod, Try.underlying3, wb2]⟩
  have sr5 : ∀ (W' : World) (sp : Nat → Bool), DataW.Trod enc Try.prog W' 0 sp true 23 (.agg #[.int .i64 a5, .int .i64 b5]) (.agg [.lit (.int .i64 a5), .lit (.int .i64 b5)]) [] := fun W' sp =>
    shut_agg2 (y0 := (.lit (.int .i64 a5), [])) (y1 := (.lit (.int .i64 b5), [])) Try.underlying23 (by kernel_rfl) (by kernel_rfl) ⟨1, by simp [DataW.trod, Try.underlying3, wa5]⟩ ⟨1, by simp [DataW.trod, Try.underlying3, wb5]⟩
  have sr7 : ∀ (W' : World) (sp : Nat → Bool), DataW.Trod enc Try.prog W' 0 sp true 23 (.agg #[.int .i64 a7, .int .i64 b7]) (.agg [.lit (.int .i64 a7), .lit (.int .i64 b7)]) [] := fun W' sp =>
    shut_agg2 (y0 := (.lit (.int .i64 a7), [])) (y1 := (.lit (.int .i64 b7), [])) Try.underlying23 (by kernel_rfl) (by kernel_rfl) ⟨1, by simp [DataW.trod, Try.underlying3, wa7]⟩ ⟨1, by simp [DataW.trod, Try.underlying3, wb7]⟩
  refine (walk a0 b0 a1 a2 b2 a3 a4 a5 b5 a6 a7 b7 a8 wa8 W).mono fun e W' ⟨he, hb⟩ => ?_
  subst he
  have hg : Below W.heap.size W W' := hb
  exact ⟨_, rfl, ⟨_, _, _, [], _, [], hW', (trodAll_cons_mk (shut_bool Try.underlying4 _) trodAll_mk0), (trodAll_cons_mk (sr0 _ _) (trodAll_cons_mk (shut_int Try.underlying3 wa1) (trodAll_cons_mk (sr2 _ _) (trodAll_cons_mk (shut_int Try.underlying3 wa3) (trodAll_cons_mk (shut_int Try.underlying3 wa4) (trodAll_cons_mk (sr5 _ _) (trodAll_cons_mk (shut_int Try.underlying3 wa6) (trodAll_cons_mk (sr7 _ _) (trodAll_cons_mk (shut_int Try.underlying3 wa8) trodAll_mk0))))))))), rfl, hg.frame _, fun h => by cases h⟩⟩

theorem jIn : (Rows.fnPatternsOrderedOfAllRow.inPlace == Try.prog.inPlace 3) = true := by kernel_rfl
theorem jUnf : (Rows.fnPatternsOrderedOfAllRow.unfollowed == Try.prog.unfollowed 3) = true := by kernel_rfl
theorem jRec : (Rows.fnPatternsOrderedOfAllRow.recurses == Try.prog.recurses 3) = true := by kernel_rfl
theorem jVar : (Rows.fnPatternsOrderedOfAllRow.named == Try.prog.varsNamed 3) = true := by kernel_rfl
theorem jJoined : joinedFacts Try.prog 3 Try.f3 Rows.fnPatternsOrderedOfAllSpec Rows.fnPatternsOrderedOfAllRow = true := by rw [joinedFacts, seat_enter, seat_lifts, seat_make, jIn, jUnf, jRec, jVar]; kernel_rfl
theorem jInst : Try.f3.isInstance Try.prog Rows.fnPatternsOrderedOfAllRow.origin Rows.fnPatternsOrderedOfAllRow.targs := of_decide_eq_true (by kernel_rfl)
theorem jWrap : Try.f3.isWrapper Try.prog Rows.fnPatternsOrderedOfAllRow.wrapper Rows.fnPatternsOrderedOfAllRow.mainSum := by unfold Func.isWrapper; first | (rw [if_pos (by decide +kernel)]; kernel_rfl) | (rw [if_neg (by decide +kernel)]; exact ⟨rfl, rfl⟩)
theorem jNamed : Try.prog.funcNamed Rows.fnPatternsOrderedOfAllRow.func = some 3 := by kernel_rfl

/-- The given statement. -/
theorem proved : Rows.FnPatternsOrderedOfAllSaid :=
  OpenClaim.holds_of_wide 3 Try.f3 rfl rfl rfl rfl rfl rfl rfl ⟨rfl, rfl, rfl, rfl, rfl⟩ rfl rfl rfl rfl rfl jNamed Try.func3 jJoined
    jInst jWrap
    (fun os started H enc _ => lifted os started H enc)
#print axioms proved
end Go.Proofs.Ytmddlbphanlfhaa.lPatternsOrderedOfAll
