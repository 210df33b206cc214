/-
  The function CountKinds answers as its model at every format, and its answer owns its memory; there are no conditions.
-/
import Derived.Test.YtadehelclgpnfaaRows
import Derived.Test.YtadehelclgpnfaaPlain
import Derived.Test.YtadehelclgpnfaaWalkA
import Derived.Test.YtadehelclgpnfaaWalkC
import Derived.Test.YtadehelclgpnfaaWalkCK
import Derived.Test.YtadehelclgpnfaaWalkCS
import Derived.Test.YtadehelclgpnfaaWalkCR
import Derived.WalkKit
import Derived.ProofKit
import Derived.OpenShut
import Derived.Lib.SmallJoins
namespace Go.Proofs.Ytadehelclgpnfaa.lCountKinds
open Go.ChangeShapes Go.WideShapes Go.ChangeAt Go.RowKit Go.Joins
set_option linter.unusedVariables false
set_option linter.unusedSimpArgs false

theorem walk_no (e f : Int) (hg : goodB e f = false) (w : World) : Calls Try.prog 12 #[fmt e f] w fun rv w' => rv = .returned (.bool true) ∧ Ext w w' := by
  go_enter Try.func12, Try.ntmps12
  go_wp2_with (first | (go_at_call 14; refine (toFormat_any e f _).mono ?_; rintro rv w1 ⟨rfl, hb⟩; have ns : w.heap.size < w1.heap.size := hb.lt (by first | with_reducible assumption | omega | (simp; done) | (simp; omega)); have n0 : w1.cell? ⟨w.heap.size, 0, none⟩ = some (.int .i64 e) := (hb.cells _ _ (by first | with_reducible assumption | omega | (simp; done) | (simp; omega))).trans (by first | with_reducible assumption | (simp; done) | (simp; with_reducible assumption)); have n1 : w1.cell? ⟨w.heap.size, 1, none⟩ = some (.int .i64 f) := (hb.cells _ _ (by first | with_reducible assumption | omega | (simp; done) | (simp; omega))).trans (by first | with_reducible assumption | (simp; done) | (simp; with_reducible assumption)); (first | (have nx := Ext.trans hx hb; clear hx) | (have nx := Ext.trans (hx.alloc _) hb; clear hx) | (have nx := Ext.trans hx.drew hb; clear hx) | have nx := hb); clear hb; try clear hs; try clear g0; try clear g1; have hx := nx; clear nx; have hs := ns; clear ns; have g0 := n0; clear n0; have g1 := n1; clear n1) | (go_at_call 32; refine (sCountKinds_no e f hg _).mono ?_; rintro rv w1 ⟨rfl, hb⟩; have ns : w.heap.size < w1.heap.size := hb.lt (by first | with_reducible assumption | omega | (simp; done) | (simp; omega)); have n0 : w1.cell? ⟨w.heap.size, 0, none⟩ = some (.int .i64 e) := (hb.cells _ _ (by first | with_reducible assumption | omega | (simp; done) | (simp; omega))).trans (by first | with_reducible assumption | (simp; done) | (simp; with_reducible assumption)); have n1 : w1.cell? ⟨w.heap.size, 1, none⟩ = some (.int .i64 f) := (hb.cells _ _ (by first | with_reducible assumption | omega | (simp; done) | (simp; omega))).trans (by first | with_reducible assumption | (simp; done) | (simp; with_reducible assumption)); (first | (have nx := Ext.trans hx hb; clear hx) | (have nx := Ext.trans (hx.alloc _) hb; clear hx) | (have nx := Ext.trans hx.drew hb; clear hx) | have nx := hb); clear hb; try clear hs; try clear g0; try clear g1; have hx := nx; clear nx; have hs := ns; clear ns; have g0 := n0; clear n0; have g1 := n1; clear n1) | (go_at_call 33; refine (iCountKinds_no e f hg _).mono ?_; rintro rv w1 ⟨rfl, hb⟩; have ns : w.heap.size < w1.heap.size := hb.lt (by first | with_reducible assumption | omega | (simp; done) | (simp; omega)); have n0 : w1.cell? ⟨w.heap.size, 0, none⟩ = some (.int .i64 e) := (hb.cells _ _ (by first | with_reducible assumption | omega | (simp; done) | (simp; omega))).trans (by first | with_reducible assumption | (simp; done) | (simp; with_reducible assumption)); have n1 : w1.cell? ⟨w.heap.size, 1, none⟩ = some (.int .i64 f) := (hb.cells _ _ (by first | with_reducible assumption | omega | (simp; done) | (simp; omega))).trans (by first | with_reducible assumption | (simp; done) | (simp; with_reducible assumption)); (first | (have nx := Ext.trans hx hb; clear hx) | (have nx := Ext.trans (hx.alloc _) hb; clear hx) | (have nx := Ext.trans hx.drew hb; clear hx) | have nx := hb); clear hb; try clear hs; try clear g0; try clear g1; have hx := nx; clear nx; have hs := ns; clear ns; have g0 := n0; clear n0; have g1 := n1; clear n1) | (go_at_call 34; refine (eqIntS_nil _).mono ?_; rintro rv w1 ⟨rfl, hb⟩; have ns : w.heap.size < w1.heap.size := hb.lt (by first | with_reducible assumption | omega | (simp; done) | (simp; omega)); have n0 : w1.cell? ⟨w.heap.size, 0, none⟩ = some (.int .i64 e) := (hb.cells _ _ (by first | with_reducible assumption | omega | (simp; done) | (simp; omega))).trans (by first | with_reducible assumption | (simp; done) | (simp; with_reducible assumption)); have n1 : w1.cell? ⟨w.heap.size, 1, none⟩ = some (.int .i64 f) := (hb.cells _ _ (by first | with_reducible assumption | omega | (simp; done) | (simp; omega))).trans (by first | with_reducible assumption | (simp; done) | (simp; with_reducible assumption)); (first | (have nx := Ext.trans hx hb; clear hx) | (have nx := Ext.trans (hx.alloc _) hb; clear hx) | (have nx := Ext.trans hx.drew hb; clear hx) | have nx := hb); clear hb; try clear hs; try clear g0; try clear g1; have hx := nx; clear nx; have hs := ns; clear ns; have g0 := n0; clear n0; have g1 := n1; clear n1) | (go_at_call 35; refine (markIntS_nil _).mono ?_; rintro rv w1 ⟨rfl, hb⟩; have ns : w.heap.size < w1.heap.size := hb.lt (by first | with_reducible assumption | omega | (simp; done) | (simp; omega)); have n0 : w1.cell? ⟨w.heap.size, 0, none⟩ = some (.int .i64 e) := (hb.cells _ _ (by first | with_reducible assumption | omega | (simp; done) | (simp; omega))).trans (by first | with_reducible assumption | (simp; done) | (simp; with_reducible assumption)); have n1 : w1.cell? ⟨w.heap.size, 1, none⟩ = some (.int .i64 f) := (hb.cells _ _ (by first | with_reducible assumption | omega | (simp; done) | (simp; omega))).trans (by first | with_reducible assumption | (simp; done) | (simp; with_reducible assumption)); (first | (have nx := Ext.trans hx hb; clear hx) | (have nx := Ext.trans (hx.alloc _) hb; clear hx) | (have nx := Ext.trans hx.drew hb; clear hx) | have nx := hb); clear hb; try clear hs; try clear g0; try clear g1; have hx := nx; clear nx; have hs := ns; clear ns; have g0 := n0; clear n0; have g1 := n1; clear n1) | (go_at_call 36; refine (heldIntS_nil _).mono ?_; rintro rv w1 ⟨rfl, hb⟩; have ns : w.heap.size < w1.heap.size := hb.lt (by first | with_reducible assumption | omega | (simp; done) | (simp; omega)); have n0 : w1.cell? ⟨w.heap.size, 0, none⟩ = some (.int .i64 e) := (hb.cells _ _ (by first | with_reducible assumption | omega | (simp; done) | (simp; omega))).trans (by first | with_reducible assumption | (simp; done) | (simp; with_reducible assumption)); have n1 : w1.cell? ⟨w.heap.size, 1, none⟩ = some (.int .i64 f) := (hb.cells _ _ (by first | with_reducible assumption | omega | (simp; done) | (simp; omega))).trans (by first | with_reducible assumption | (simp; done) | (simp; with_reducible assumption)); (first | (have nx := Ext.trans hx hb; clear hx) | (have nx := Ext.trans (hx.alloc _) hb; clear hx) | (have nx := Ext.trans hx.drew hb; clear hx) | have nx := hb); clear hb; try clear hs; try clear g0; try clear g1; have hx := nx; clear nx; have hs := ns; clear ns; have g0 := n0; clear n0; have g1 := n1; clear n1))
  go_ret
  exact ⟨rfl, (by repeat (first | exact Ext.refl _ | with_reducible assumption | apply Ext.alloc | apply Ext.drew | apply Ext.drewN | (refine Ext.setRow ?_ (by simp) _) | (refine Ext.setCell ?_ (by simp) _) | (refine Ext.trans ?_ (by with_reducible assumption))))⟩

set_option maxHeartbeats 1600000 in
theorem walk_yes (e f : Int) (hg : goodB e f = true) (w : World) : Calls Try.prog 12 #[fmt e f] w fun rv w' => rv = .returned (.bool true) ∧ Ext w w' := by
  go_enter Try.func12, Try.ntmps12
  go_wp2_with fail
  go_at_call 14
  refine (toFormat_any e f _).mono ?_
  rintro rv w1 ⟨rfl, hb⟩
  have s1 : w.heap.size < w1.heap.size := hb.lt (by simp)
  have a1 : w1.cell? ⟨w.heap.size, 0, none⟩ = some (.int .i64 e) := (hb.cells _ _ (by simp)).trans (by simp)
  have b1 : w1.cell? ⟨w.heap.size, 1, none⟩ = some (.int .i64 f) := (hb.cells _ _ (by simp)).trans (by simp)
  have x1 : Ext w w1 := (Ext.new _ _).trans hb
  clear hb
  go_wp2_with fail
  go_at_call 32
  refine (sCountKinds_yes e f hg _).mono ?_
  rintro rv w2 ⟨bs, rfl, hbs, S2, hb⟩
  have s2 : w.heap.size < w2.heap.size := hb.lt s1
  have a2 : w2.cell? ⟨w.heap.size, 0, none⟩ = some (.int .i64 e) := (hb.cells _ _ s1).trans a1
  have b2 : w2.cell? ⟨w.heap.size, 1, none⟩ = some (.int .i64 f) := (hb.cells _ _ s1).trans b1
  have x2 : Ext w w2 := Ext.trans x1 hb
  have ls : w.heap.size < bs := by omega
  clear hb s1 a1 b1 x1 
  go_wp2_with fail
  go_at_call 14
  refine (toFormat_any e f _).mono ?_
  rintro rv w3 ⟨rfl, hb⟩
  have s3 : w.heap.size < w3.heap.size := hb.lt s2
  have a3 : w3.cell? ⟨w.heap.size, 0, none⟩ = some (.int .i64 e) := (hb.cells _ _ s2).trans a2
  have b3 : w3.cell? ⟨w.heap.size, 1, none⟩ = some (.int .i64 f) := (hb.cells _ _ s2).trans b2
  have x3 : Ext w w3 := Ext.trans x2 hb
  have S3 := (hb.heap _ (row_lt S2)).trans S2
  clear hb s2 a2 b2 x2 S2
  go_wp2_with fail
  go_at_call 33
  refine (iCountKinds_yes e f hg _).mono ?_
  rintro rv w4 ⟨bg, rfl, hbg, G4, hb⟩
  have s4 : w.heap.size < w4.heap.size := hb.lt s3
  have a4 : w4.cell? ⟨w.heap.size, 0, none⟩ = some (.int .i64 e) := (hb.cells _ _ s3).trans a3
  have b4 : w4.cell? ⟨w.heap.size, 1, none⟩ = some (.int .i64 f) := (hb.cells _ _ s3).trans b3
  have x4 : Ext w w4 := Ext.trans x3 hb
  have S4 := (hb.heap _ (row_lt S3)).trans S3
  have lg : bs < bg := Nat.lt_of_lt_of_le (row_lt S3) hbg
  clear hb s3 a3 b3 x3 S3
  go_wp2_with fail
  go_at_call 34
  refine (eqIntS_rows _ _ 2 (2 * (pw f - 1)) (2 * (pw e - 1 - 1) * pw f) 2 (2 * (pw f - 1)) _ G4 S4).mono ?_
  rintro rv w5 ⟨rfl, hb⟩
  have s5 : w.heap.size < w5.heap.size := hb.lt s4
  have a5 : w5.cell? ⟨w.heap.size, 0, none⟩ = some (.int .i64 e) := (hb.cells _ _ s4).trans a4
  have b5 : w5.cell? ⟨w.heap.size, 1, none⟩ = some (.int .i64 f) := (hb.cells _ _ s4).trans b4
  have x5 : Ext w w5 := Ext.trans x4 hb
  have S5 := (hb.heap _ (row_lt S4)).trans S4
  have G5 := (hb.heap _ (row_lt G4)).trans G4
  clear hb s4 a4 b4 x4 S4 G4
  go_wp2_with fail
  go_at_call 35
  refine (markIntS_row _ 2 (2 * (pw f - 1)) (2 * (pw e - 1 - 1) * pw f) 2 (2 * (pw f - 1)) _ G5).mono ?_
  rintro rv w6 ⟨rfl, hr⟩
  have s6 : w.heap.size < w6.heap.size := by rw [hr.size]; exact s5
  have a6 : w6.cell? ⟨w.heap.size, 0, none⟩ = some (.int .i64 e) := (hr.cell _ _ (by omega)).trans a5
  have b6 : w6.cell? ⟨w.heap.size, 1, none⟩ = some (.int .i64 f) := (hr.cell _ _ (by omega)).trans b5
  have x6 : Ext w w6 := Ext.row x5 hr (by omega)
  have S6 := (hr.far bs (by omega)).trans S5
  have G6 := hr.row
  clear hr s5 a5 b5 x5 S5 G5
  go_wp2_with fail
  go_at_call 36
  refine (heldIntS_row _ _ G6).mono ?_
  rintro rv w7 ⟨rfl, hb⟩
  have s7 : w.heap.size < w7.heap.size := hb.lt s6
  have a7 : w7.cell? ⟨w.heap.size, 0, none⟩ = some (.int .i64 e) := (hb.cells _ _ s6).trans a6
  have b7 : w7.cell? ⟨w.heap.size, 1, none⟩ = some (.int .i64 f) := (hb.cells _ _ s6).trans b6
  have x7 : Ext w w7 := Ext.trans x6 hb
  have S7 := (hb.heap _ (row_lt S6)).trans S6
  have G7 := (hb.heap _ (row_lt G6)).trans G6
  clear hb s6 a6 b6 x6 S6 G6
  go_wp2_with fail
  go_at_call 14
  refine (toFormat_any e f _).mono ?_
  rintro rv w8 ⟨rfl, hb⟩
  have s8 : w.heap.size < w8.heap.size := hb.lt s7
  have a8 : w8.cell? ⟨w.heap.size, 0, none⟩ = some (.int .i64 e) := (hb.cells _ _ s7).trans a7
  have b8 : w8.cell? ⟨w.heap.size, 1, none⟩ = some (.int .i64 f) := (hb.cells _ _ s7).trans b7
  have x8 : Ext w w8 := Ext.trans x7 hb
  have S8 := (hb.heap _ (row_lt S7)).trans S7
  have G8 := (hb.heap _ (row_lt G7)).trans G7
  clear hb s7 a7 b7 x7 S7 G7
  go_wp2_with fail
  go_at_call 33
  refine (iCountKinds_yes e f hg _).mono ?_
  rintro rv w9 ⟨bh, rfl, hbh, H9, hb⟩
  have s9 : w.heap.size < w9.heap.size := hb.lt s8
  have a9 : w9.cell? ⟨w.heap.size, 0, none⟩ = some (.int .i64 e) := (hb.cells _ _ s8).trans a8
  have b9 : w9.cell? ⟨w.heap.size, 1, none⟩ = some (.int .i64 f) := (hb.cells _ _ s8).trans b8
  have x9 : Ext w w9 := Ext.trans x8 hb
  have S9 := (hb.heap _ (row_lt S8)).trans S8
  have G9 := (hb.heap _ (row_lt G8)).trans G8
  clear hb s8 a8 b8 x8 S8 G8
  go_wp2_with fail
  go_at_call 34
  refine (eqIntS_rows _ _ 2 (2 * (pw f - 1)) (2 * (pw e - 1 - 1) * pw f) 2 (2 * (pw f - 1)) _ H9 S9).mono ?_
  rintro rv w10 ⟨rfl, hb⟩
  have s10 : w.heap.size < w10.heap.size := hb.lt s9
  have a10 : w10.cell? ⟨w.heap.size, 0, none⟩ = some (.int .i64 e) := (hb.cells _ _ s9).trans a9
  have b10 : w10.cell? ⟨w.heap.size, 1, none⟩ = some (.int .i64 f) := (hb.cells _ _ s9).trans b9
  have x10 : Ext w w10 := Ext.trans x9 hb
  have S10 := (hb.heap _ (row_lt S9)).trans S9
  have G10 := (hb.heap _ (row_lt G9)).trans G9
  have H10 := (hb.heap _ (row_lt H9)).trans H9
  clear hb s9 a9 b9 x9 S9 G9 H9
  go_wp2_with fail
  go_at_call 36
  refine (heldIntS_row _ _ G10).mono ?_
  rintro rv w11 ⟨rfl, hb⟩
  have s11 : w.heap.size < w11.heap.size := hb.lt s10
  have a11 : w11.cell? ⟨w.heap.size, 0, none⟩ = some (.int .i64 e) := (hb.cells _ _ s10).trans a10
  have b11 : w11.cell? ⟨w.heap.size, 1, none⟩ = some (.int .i64 f) := (hb.cells _ _ s10).trans b10
  have x11 : Ext w w11 := Ext.trans x10 hb
  have S11 := (hb.heap _ (row_lt S10)).trans S10
  have G11 := (hb.heap _ (row_lt G10)).trans G10
  clear hb s10 a10 b10 x10 S10 G10
  go_wp2_with fail
  go_ret
  exact ⟨rfl, x11⟩

theorem walk (e f : Int) (xe : (Lit.int .i64 e).wf = true) (xf : (Lit.int .i64 f).wf = true) (w : World) : Calls Try.prog 12 #[fmt e f] w fun rv w' => rv = .returned (.bool true) ∧ Ext w w' := by
  cases hg : goodB e f
  · exact walk_no e f hg w
  · exact walk_yes e f hg w

theorem own : ownKnob Try.prog.godebug = none := by kernel_rfl

set_option maxRecDepth 100000 in
theorem lifted (os : Os) (started : os.Started) (H : Type) (enc : TypeId × Value → H) :
    ReturnsInHanded {} Try.checked os 12 .any (Rows.fnExactCountKindsSpec.pre6 enc Try.prog Try.f12 Rows.fnExactCountKindsRow.domain false) (Rows.fnExactCountKindsSpec.post enc Try.prog Try.f12 false true false false) := by
  refine returnsInHanded_of_change (C := Try.checked) own started (by kernel_rfl) Try.func12
    (ChangeSpec.witness6 (enc := enc) (C := Try.checked) false ⟨#[], #[.agg #[.int .i64 0, .int .i64 0]], []⟩ 8 (by kernel_rfl) (by kernel_rfl) (by kernel_rfl) (by kernel_rfl)) ?_
  intro W base args ds gs before hval0 hW hcnd _
  have hval : ∀ (j : Nat) t v, Try.f12.params[j]? = some t → args[j]? = some v → Value.okWide Try.prog W .any base t v := hval0
  have hW' := hW
  obtain ⟨p, q, hA0, hV, rfl, hfz, hnd⟩ := hW
  have hA : DataW.TrodAll enc Try.prog W 0 (fun _ => true) true Try.f12.params.toList args.toList ds p := hA0
  rw [Try.params12] at hA hval
  obtain ⟨v0, vs0, d0, ds0, p0, q0, hargs, rfl, rfl, h0, r0⟩ := trodAll_cons hA
  obtain ⟨rfl, rfl, rfl⟩ := trodAll_nil r0
  obtain rfl : args = #[v0] := by cases args; simp_all
  obtain ⟨rfl, rfl⟩ := trodVars_none hV
  obtain ⟨c00, c01, y00, y01, m0, rfl, rfl, rfl, hy00, hy01⟩ := open_agg2 Try.underlying23 (by kernel_rfl) (by kernel_rfl) (hval 0 23 v0 rfl rfl) h0
  obtain ⟨a0, e00, rfl, wa0⟩ := DataW.trod_int Try.underlying3 hy00
  obtain ⟨b0, e01, rfl, wb0⟩ := DataW.trod_int Try.underlying3 hy01
  simp at e00 e01
  subst e00 e01
  clear hA0 hval0
  simp only [List.append_nil] at hW'
  have sr0 : ∀ (W' : World) (sp : Nat → Bool), DataW.Trod enc Try.prog W' 0 sp true 23 (.agg #[.int .i64 a0, .int .i64 b0]) (.agg [.lit (.int .i64 a0), .lit (.int .i64 b0)]) [] := fun W' sp =>
    shut_agg2 (y0 := (.lit (.int .i64 a0), [])) (y1 := (.lit (.int .i64 b0), [])) Try.underlying23 (by kernel_rfl) (by kernel_rfl) ⟨1, by simp [DataW.trod, Try.underlying3, wa0]⟩ ⟨1, by simp [DataW.trod, Try.underlying3, wb0]⟩
  refine (walk a0 b0 wa0 wb0 W).mono fun e W' ⟨he, hb⟩ => ?_
  subst he
  have hg : Below W.heap.size W W' := hb
  exact ⟨_, rfl, ⟨_, _, _, [], _, [], hW', (trodAll_cons_mk (shut_bool Try.underlying4 _) trodAll_mk0), (trodAll_cons_mk (sr0 _ _) trodAll_mk0), rfl, hg.frame _, fun h => by cases h⟩⟩

/-- The given statement. -/
theorem proved : Rows.FnExactCountKindsSaid :=
  OpenClaim.holds_of_wide 12 Try.f12 rfl rfl rfl rfl rfl rfl rfl ⟨rfl, rfl, rfl, rfl, rfl⟩ rfl rfl rfl rfl rfl (by kernel_rfl) Try.func12 (by kernel_rfl)
    (of_decide_eq_true (by kernel_rfl)) (by unfold Func.isWrapper; first | (rw [if_pos (by decide +kernel)]; kernel_rfl) | (rw [if_neg (by decide +kernel)]; exact ⟨rfl, rfl⟩))
    (fun os started H enc _ => lifted os started H enc)
#print axioms proved
end Go.Proofs.Ytadehelclgpnfaa.lCountKinds
