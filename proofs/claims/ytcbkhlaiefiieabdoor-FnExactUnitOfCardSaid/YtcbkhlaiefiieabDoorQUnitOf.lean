/-
  The function UnitOf answers as its model at every argument; there are no conditions beside the tables of the library as the row lists them.
-/
import Derived.Test.YtcbkhlaiefiieabDoorRows
import Derived.Test.YtcbkhlaiefiieabDoorKxb1
import Derived.Test.YtcbkhlaiefiieabDoorKxb2
import Derived.Test.YtcbkhlaiefiieabDoorKxb3
import Derived.Test.YtcbkhlaiefiieabDoorKxb4
import Derived.Test.YtcbkhlaiefiieabDoorKxb5
import Derived.Test.YtcbkhlaiefiieabDoorKxb6
import Derived.Test.YtcbkhlaiefiieabDoorKxb7
import Derived.Test.YtcbkhlaiefiieabDoorKxb8
import Derived.Test.YtcbkhlaiefiieabDoorKxb9
import Derived.Test.YtcbkhlaiefiieabDoorKxb10
import Derived.Test.YtcbkhlaiefiieabDoorKxb11
import Derived.Test.YtcbkhlaiefiieabDoorKxb12
import Derived.Test.YtcbkhlaiefiieabDoorKxb13
import Derived.Test.YtcbkhlaiefiieabDoorKxb14
import Derived.Test.YtcbkhlaiefiieabDoorKxb15
import Derived.Test.YtcbkhlaiefiieabDoorKxb16
import Derived.Test.YtcbkhlaiefiieabDoorKxb17
import Derived.Test.YtcbkhlaiefiieabDoorKxb18
import Derived.Test.YtcbkhlaiefiieabDoorKxb19
import Derived.Test.YtcbkhlaiefiieabDoorKxb20
import Derived.Test.YtcbkhlaiefiieabDoorKxb21
import Derived.Test.YtcbkhlaiefiieabDoorKxb22
import Derived.Test.YtcbkhlaiefiieabDoorKxb23
import Derived.Test.YtcbkhlaiefiieabDoorKxb24
import Derived.Test.YtcbkhlaiefiieabDoorKxb25
import Derived.Test.YtcbkhlaiefiieabDoorKxb26
import Derived.Test.YtcbkhlaiefiieabDoorKxb27
import Derived.Test.YtcbkhlaiefiieabDoorKxb28
import Derived.Test.YtcbkhlaiefiieabDoorKxb29
import Derived.Test.YtcbkhlaiefiieabDoorKxb30
import Derived.Test.YtcbkhlaiefiieabDoorKxb31
import Derived.WalkKit
import Derived.ProofKit
import Derived.OpenShut
import Derived.Lib.Hide
import Derived.Lib.SmallJoins
import Derived.LaidMore
import Derived.Stop.Joined
import Derived.SevenTiedAt
import Derived.Test.YtcbkhlaiefiieabDoorCards
import Derived.Test.YtcbkhlaiefiieabDoorTie
namespace Go.Proofs.YtcbkhlaiefiieabDoor.lUnitOf
open Go.ChangeShapes Go.WideShapes Go.ChangeAt Go.RowKit Go.Joins
set_option linter.unusedVariables false
set_option linter.unusedSimpArgs false

set_option maxHeartbeats 3200000 in
theorem walk (e f : Int) (xe : (Lit.int .i64 e).wf = true) (xf : (Lit.int .i64 f).wf = true) (w : World) (hT : TW w) : Calls Tryd.prog 5 #[fmt e f] w fun rv w' => rv = .returned (.bool true) ∧ Ext w w' := by
  cases hg : goodB e f
  · have tok1 : True := trivial
    go_enter Tryd.func5, Tryd.ntmps5
    go_wp2_with (first | (go_at_call 21; refine (toFormat_any e f _).mono ?_; rintro rv w1 ⟨rfl, hb⟩; have _t := tok1; clear _t; have ns : w.heap.size < w1.heap.size := hb.ltK; have n0 : w1.cell? ⟨w.heap.size, 0, none⟩ = some (.int .i64 e) := hb.cellK; have n1 : w1.cell? ⟨w.heap.size, 1, none⟩ = some (.int .i64 f) := hb.cellK; (first | (have nx := Ext.trans hx hb; clear hx) | (have nx := Ext.trans (hx.alloc _) hb; clear hx) | (have nx := Ext.trans hx.drew hb; clear hx) | have nx := hb); clear hb; try clear hs; try clear g0; try clear g1; have hx := nx; clear nx; have hs := ns; clear ns; have g0 := n0; clear n0; have g1 := n1; clear n1) | (go_at_call 23; refine (sUnitOf_no e f hg _).mono ?_; rintro rv ws ⟨rfl, hb⟩; clear tok1; have ns : w.heap.size < ws.heap.size := hb.ltK; have n0 : ws.cell? ⟨w.heap.size, 0, none⟩ = some (.int .i64 e) := hb.cellK; have n1 : ws.cell? ⟨w.heap.size, 1, none⟩ = some (.int .i64 f) := hb.cellK; (first | (have nx := Ext.trans hx hb; clear hx) | (have nx := Ext.trans (hx.alloc _) hb; clear hx) | (have nx := Ext.trans hx.drew hb; clear hx) | have nx := hb); clear hb; try clear hs; try clear g0; try clear g1; have hx := nx; clear nx; have hs := ns; clear ns; have g0 := n0; clear n0; have g1 := n1; clear n1) | (go_at_call 21; refine (toFormat_any e f _).mono ?_; rintro rv w1 ⟨rfl, hb⟩; have ns : ws.heap.size < w1.heap.size := hb.ltK; have n0 : w1.cell? ⟨w.heap.size, 0, none⟩ = some (.int .i64 e) := hb.cellK; have n1 : w1.cell? ⟨w.heap.size, 1, none⟩ = some (.int .i64 f) := hb.cellK; have n2 : w1.cell? ⟨ws.heap.size, 0, none⟩ = some (.int .i64 0) := hb.cellK; have n3 : w1.cell? ⟨ws.heap.size, 1, none⟩ = some (.int .i64 0) := hb.cellK; (first | (have nx := Ext.trans hx hb; clear hx) | (have nx := Ext.trans (hx.alloc _) hb; clear hx) | (have nx := Ext.trans hx.drew hb; clear hx) | have nx := hb); clear hb; try clear hs; try clear g0; try clear g1; try clear g2; try clear g3; have hx := nx; clear nx; have hs := ns; clear ns; have g0 := n0; clear n0; have g1 := n1; clear n1; have g2 := n2; clear n2; have g3 := n3; clear n3) | (go_at_call 24; refine (iUnitOf_no e f hg _).mono ?_; rintro rv wi ⟨rfl, hb⟩; have ns : ws.heap.size < wi.heap.size := hb.ltK; have n0 : wi.cell? ⟨ws.heap.size, 0, none⟩ = some (.int .i64 0) := hb.cellK; have n1 : wi.cell? ⟨ws.heap.size, 1, none⟩ = some (.int .i64 0) := hb.cellK; (first | (have nx := Ext.trans hx hb; clear hx) | (have nx := Ext.trans (hx.alloc _) hb; clear hx) | (have nx := Ext.trans hx.drew hb; clear hx) | have nx := hb); clear hb; try clear hs; try clear g0; try clear g1; have hx := nx; clear nx; have hs := ns; clear ns; have g0 := n0; clear n0; have g1 := n1; clear n1) | (go_at_call 19; refine (eqDyadic_same _ _ _).mono ?_; rintro rv w1 ⟨rfl, hb⟩; have ns : ws.heap.size < w1.heap.size := hb.ltK; (first | (have nx := Ext.trans hx hb; clear hx) | (have nx := Ext.trans (hx.alloc _) hb; clear hx) | (have nx := Ext.trans hx.drew hb; clear hx) | have nx := hb); clear hb; try clear hs; have hx := nx; clear nx; have hs := ns; clear ns))
    go_ret
    exact ⟨rfl, Ext.auK⟩
  · have tok1 : True := trivial
    go_enter Tryd.func5, Tryd.ntmps5
    go_wp2_with (first | (go_at_call 21; refine (toFormat_any e f _).mono ?_; rintro rv w1 ⟨rfl, hb⟩; have _t := tok1; clear _t; have ns : w.heap.size < w1.heap.size := hb.ltK; have n0 : w1.cell? ⟨w.heap.size, 0, none⟩ = some (.int .i64 e) := hb.cellK; have n1 : w1.cell? ⟨w.heap.size, 1, none⟩ = some (.int .i64 f) := hb.cellK; (first | (have nx := Ext.trans hx hb; clear hx) | (have nx := Ext.trans (hx.alloc _) hb; clear hx) | (have nx := Ext.trans hx.drew hb; clear hx) | have nx := hb); clear hb; try clear hs; try clear g0; try clear g1; have hx := nx; clear nx; have hs := ns; clear ns; have g0 := n0; clear n0; have g1 := n1; clear n1) | (go_at_call 23; refine (sUnitOf_yes e f hg _).mono ?_; rintro rv ws ⟨rfl, hb⟩; clear tok1; have ns : w.heap.size < ws.heap.size := hb.ltK; have n0 : ws.cell? ⟨w.heap.size, 0, none⟩ = some (.int .i64 e) := hb.cellK; have n1 : ws.cell? ⟨w.heap.size, 1, none⟩ = some (.int .i64 f) := hb.cellK; (first | (have nx := Ext.trans hx hb; clear hx) | (have nx := Ext.trans (hx.alloc _) hb; clear hx) | (have nx := Ext.trans hx.drew hb; clear hx) | have nx := hb); clear hb; try clear hs; try clear g0; try clear g1; have hx := nx; clear nx; have hs := ns; clear ns; have g0 := n0; clear n0; have g1 := n1; clear n1) | (go_at_call 21; refine (toFormat_any e f _).mono ?_; rintro rv w1 ⟨rfl, hb⟩; have ns : ws.heap.size < w1.heap.size := hb.ltK; have n0 : w1.cell? ⟨w.heap.size, 0, none⟩ = some (.int .i64 e) := hb.cellK; have n1 : w1.cell? ⟨w.heap.size, 1, none⟩ = some (.int .i64 f) := hb.cellK; have n2 : w1.cell? ⟨ws.heap.size, 0, none⟩ = some (.int .i64 (1 : Int)) := hb.cellK; have n3 : w1.cell? ⟨ws.heap.size, 1, none⟩ = some (.int .i64 (unV e f)) := hb.cellK; (first | (have nx := Ext.trans hx hb; clear hx) | (have nx := Ext.trans (hx.alloc _) hb; clear hx) | (have nx := Ext.trans hx.drew hb; clear hx) | have nx := hb); clear hb; try clear hs; try clear g0; try clear g1; try clear g2; try clear g3; have hx := nx; clear nx; have hs := ns; clear ns; have g0 := n0; clear n0; have g1 := n1; clear n1; have g2 := n2; clear n2; have g3 := n3; clear n3) | (go_at_call 24; refine (iUnitOf_yes e f hg _ (hT.ext Ext.auK)).mono ?_; rintro rv wi ⟨rfl, hb⟩; have ns : ws.heap.size < wi.heap.size := hb.ltK; have n0 : wi.cell? ⟨ws.heap.size, 0, none⟩ = some (.int .i64 (1 : Int)) := hb.cellK; have n1 : wi.cell? ⟨ws.heap.size, 1, none⟩ = some (.int .i64 (unV e f)) := hb.cellK; (first | (have nx := Ext.trans hx hb; clear hx) | (have nx := Ext.trans (hx.alloc _) hb; clear hx) | (have nx := Ext.trans hx.drew hb; clear hx) | have nx := hb); clear hb; try clear hs; try clear g0; try clear g1; have hx := nx; clear nx; have hs := ns; clear ns; have g0 := n0; clear n0; have g1 := n1; clear n1) | (go_at_call 19; refine (eqDyadic_same _ _ _).mono ?_; rintro rv w1 ⟨rfl, hb⟩; have ns : ws.heap.size < w1.heap.size := hb.ltK; (first | (have nx := Ext.trans hx hb; clear hx) | (have nx := Ext.trans (hx.alloc _) hb; clear hx) | (have nx := Ext.trans hx.drew hb; clear hx) | have nx := hb); clear hb; try clear hs; have hx := nx; clear nx; have hs := ns; clear ns))
    go_ret
    exact ⟨rfl, Ext.auK⟩

set_option maxRecDepth 100000 in
theorem lifted (os : Os) (started : os.Started) (H : Type) (enc : TypeId × Value → H) :
    ReturnsInHanded {} Tryd.checked os 5 .any (fun w args => (Rows.fnExactUnitOfSpec.pre enc Tryd.prog Tryd.f5 [] false w args ∧ laidMetH Tryd.prog laidU w) ∧ sizedMet enc Tryd.prog Tryd.f5 (OpenSpec.ofChange Rows.fnExactUnitOfSpec) false w args) (Rows.fnExactUnitOfSpec.post enc Tryd.prog Tryd.f5 false true false false) := by
  refine returnsInHanded_of_change_and (C := Tryd.checked) (X := fun w _ => laidMetH Tryd.prog laidU w) (fun _ _ _ hh h => h.of_heap hh) own started (by kernel_rfl) Tryd.func5
    (ChangeSpec.witness_shaped (enc := enc) (C := Tryd.checked) (os := os) (X := fun w _ => laidMetH Tryd.prog laidU w) false (World.doorLaid Tryd.prog 400 os) #[.agg #[.int .i64 0, .int .i64 0]] 8 rfl (World.shaped_of_RefB (by kernel_rfl) (by kernel_rfl)) (by kernel_rfl) (by kernel_rfl) (by kernel_rfl) (door_met os _)) ?_
  intro W base args ds gs before hval0 hW _ _ hL _
  have hval : ∀ (j : Nat) t v, Tryd.f5.params[j]? = some t → args[j]? = some v → Value.okWide Tryd.prog W .any base t v := hval0
  have hW' := hW
  obtain ⟨p, q, hA0, hV, rfl, hfz, hnd⟩ := hW
  have hA : DataW.TrodAll enc Tryd.prog W 0 (fun _ => true) true Tryd.f5.params.toList args.toList ds p := hA0
  rw [Tryd.params5] at hA hval
  obtain ⟨v0, vs0, d0, ds0, p0, q0, hargs, rfl, rfl, h0, r0⟩ := trodAll_cons hA
  obtain ⟨rfl, rfl, rfl⟩ := trodAll_nil r0
  obtain rfl : args = #[v0] := by cases args; simp_all
  obtain ⟨rfl, rfl⟩ := trodVars_none hV
  obtain ⟨c00, c01, y00, y01, m0, rfl, rfl, rfl, hy00, hy01⟩ := open_agg2 Tryd.underlying29 (by kernel_rfl) (by kernel_rfl) (hval 0 29 v0 rfl rfl) h0
  obtain ⟨a0, e00, rfl, wa0⟩ := DataW.trod_int Tryd.underlying3 hy00
  obtain ⟨b0, e01, rfl, wb0⟩ := DataW.trod_int Tryd.underlying3 hy01
  simp at e00 e01
  subst e00 e01
  clear hA0 hval0
  simp only [List.append_nil] at hW'
  have sr0 : ∀ (W' : World) (sp : Nat → Bool), DataW.Trod enc Tryd.prog W' 0 sp true 29 (.agg #[.int .i64 a0, .int .i64 b0]) (.agg [.lit (.int .i64 a0), .lit (.int .i64 b0)]) [] := fun W' sp =>
    shut_agg2 (y0 := (.lit (.int .i64 a0), [])) (y1 := (.lit (.int .i64 b0), [])) Tryd.underlying29 (by kernel_rfl) (by kernel_rfl) ⟨1, by simp [DataW.trod, Tryd.underlying3, wa0]⟩ ⟨1, by simp [DataW.trod, Tryd.underlying3, wb0]⟩
  refine (walk a0 b0 wa0 wb0 W (of_laid hL)).mono fun e W' ⟨he, hb⟩ => ?_
  subst he
  have hg : Below W.heap.size W W' := hb
  exact ⟨_, rfl, ⟨_, _, _, [], _, [], hW', (trodAll_cons_mk (shut_bool Tryd.underlying4 _) trodAll_mk0), (trodAll_cons_mk (sr0 _ _) trodAll_mk0), rfl, hg.frame _, fun h => by cases h⟩⟩

theorem row_holds : Rows.FnExactUnitOfSaid :=
  OpenClaim.holds_of_wide 5 Tryd.f5 rfl rfl rfl rfl rfl rfl rfl ⟨rfl, rfl, rfl, rfl, rfl⟩ rfl rfl rfl rfl rfl (by kernel_rfl) Tryd.func5 (by kernel_rfl)
    (of_decide_eq_true (by kernel_rfl)) (by unfold Func.isWrapper; first | (rw [if_pos (by decide +kernel)]; kernel_rfl) | (rw [if_neg (by decide +kernel)]; exact ⟨rfl, rfl⟩))
    (fun os started H enc _ => lifted os started H enc)
/-- The given statement: the card. -/
theorem proved : Rows.FnExactUnitOfCardSaid :=
  Claim7.holds_tied_plain_at .later [] [.data, .data] true (true, "77eb8531e552528d1a106b537ce7471ced4dd3ab79b2a0248d6d6400cb3a06ee") false
    row_holds (fun _ h => by cases h) (by kernel_rfl) (fun _ h => by cases h) fnExactUnitOf_row_tie rfl ⟨rfl, rfl⟩ (by kernel_rfl) rfl
    (fun f fn hf hfn => by
      obtain rfl : f = 5 := Option.some.inj ((show Tryd.prog.funcNamed "loop.example/g01178/laws.FnExactUnitOf" = some 5 by kernel_rfl).symm.trans hf) |>.symm
      obtain rfl : fn = Tryd.f5 := (Option.some.inj (Tryd.func5.symm.trans hfn)).symm
      exact ⟨by kernel_rfl, fun j t ht => by
        rw [Tryd.params5] at ht
        have hm : t ∈ [29] := by simpa using Array.mem_of_getElem? ht
        have hall : ([29].all fun u => !Tryd.prog.wantsStandIn u) = true := by kernel_rfl
        exact (show Tryd.prog.wantsStandIn t = false by simpa using List.all_eq_true.1 hall t hm)⟩)
    (by kernel_rfl)
#print axioms proved
end Go.Proofs.YtcbkhlaiefiieabDoor.lUnitOf
