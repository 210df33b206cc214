/-
  The function DyadicOf answers as its model at every two arguments; there are no conditions beside the tables of the library as the row lists them.
-/
import Derived.Test.YtcbkhlaiefiieabDoorRows
import Derived.Test.YtcbkhlaiefiieabDoorKxb1
import Derived.Test.YtcbkhlaiefiieabDoorKxb2
import Derived.Test.YtcbkhlaiefiieabDoorKxb3
import Derived.Test.YtcbkhlaiefiieabDoorKxb4
import Derived.Test.YtcbkhlaiefiieabDoorKxb5
import Derived.Test.YtcbkhlaiefiieabDoorKxb6
import Derived.Test.YtcbkhlaiefiieabDoorKxb7
import Derived.Test.YtcbkhlaiefiieabDoorKxb8
import Derived.Test.YtcbkhlaiefiieabDoorKxb9
import Derived.Test.YtcbkhlaiefiieabDoorKxb10
import Derived.Test.YtcbkhlaiefiieabDoorKxb11
import Derived.Test.YtcbkhlaiefiieabDoorKxb12
import Derived.Test.YtcbkhlaiefiieabDoorKxb13
import Derived.Test.YtcbkhlaiefiieabDoorKxb14
import Derived.Test.YtcbkhlaiefiieabDoorKxb15
import Derived.Test.YtcbkhlaiefiieabDoorKxb16
import Derived.Test.YtcbkhlaiefiieabDoorKxb17
import Derived.Test.YtcbkhlaiefiieabDoorKxb18
import Derived.Test.YtcbkhlaiefiieabDoorKxb19
import Derived.Test.YtcbkhlaiefiieabDoorKxb20
import Derived.Test.YtcbkhlaiefiieabDoorKxb21
import Derived.Test.YtcbkhlaiefiieabDoorKxb22
import Derived.Test.YtcbkhlaiefiieabDoorKxb23
import Derived.Test.YtcbkhlaiefiieabDoorKxb24
import Derived.Test.YtcbkhlaiefiieabDoorKxb25
import Derived.Test.YtcbkhlaiefiieabDoorKxb26
import Derived.Test.YtcbkhlaiefiieabDoorKxb27
import Derived.Test.YtcbkhlaiefiieabDoorKxb28
import Derived.Test.YtcbkhlaiefiieabDoorKxb29
import Derived.Test.YtcbkhlaiefiieabDoorKxb30
import Derived.Test.YtcbkhlaiefiieabDoorKxb31
import Derived.WalkKit
import Derived.ProofKit
import Derived.OpenShut
import Derived.Lib.Hide
import Derived.Lib.SmallJoins
import Derived.LaidMore
import Derived.Stop.Joined
import Derived.SevenTiedAt
import Derived.Test.YtcbkhlaiefiieabDoorCards
import Derived.Test.YtcbkhlaiefiieabDoorTie
namespace Go.Proofs.YtcbkhlaiefiieabDoor.lDyadicOf
open Go.ChangeShapes Go.WideShapes Go.ChangeAt Go.RowKit Go.Joins
set_option linter.unusedVariables false
set_option linter.unusedSimpArgs false

set_option maxHeartbeats 3200000 in
theorem walk (n d : Int) (xn : (Lit.int .i64 n).wf = true) (xd : (Lit.int .i64 d).wf = true) (w : World) (hT : TW w) : Calls Tryd.prog 3 #[.int .i64 n, .int .i64 d] w fun rv w' => rv = .returned (.bool true) ∧ Ext w w' := by
  cases hg : doB n d
  · have tok1 : True := trivial
    go_enter Tryd.func3, Tryd.ntmps3
    go_wp2_with (first | (go_at_call 17; refine (sDyadicOf_no n d hg _).mono ?_; rintro rv ws ⟨rfl, hb⟩; have hx := hb; clear hb) | (go_at_call 18; refine (iDyadicOf_no n d hg _).mono ?_; rintro rv wi ⟨rfl, hb⟩; have ns : ws.heap.size < wi.heap.size := hb.ltK; have n0 : wi.cell? ⟨ws.heap.size, 0, none⟩ = some (.int .i64 0) := hb.cellK; have n1 : wi.cell? ⟨ws.heap.size, 1, none⟩ = some (.int .i64 0) := hb.cellK; (first | (have nx := Ext.trans hx hb; clear hx) | (have nx := Ext.trans (hx.alloc _) hb; clear hx) | (have nx := Ext.trans hx.drew hb; clear hx) | have nx := hb); clear hb; try clear hs; try clear g0; try clear g1; have hx := nx; clear nx; have hs := ns; clear ns; have g0 := n0; clear n0; have g1 := n1; clear n1) | (go_at_call 19; refine (eqDyadic_same _ _ _).mono ?_; rintro rv w1 ⟨rfl, hb⟩; have ns : ws.heap.size < w1.heap.size := hb.ltK; (first | (have nx := Ext.trans hx hb; clear hx) | (have nx := Ext.trans (hx.alloc _) hb; clear hx) | (have nx := Ext.trans hx.drew hb; clear hx) | have nx := hb); clear hb; try clear hs; have hx := nx; clear nx; have hs := ns; clear ns))
    go_ret
    exact ⟨rfl, Ext.auK⟩
  · have tok1 : True := trivial
    have sc := fun w => sDyadicOf_yes n d hg w
    have ic := fun w (hT : TW w) => iDyadicOf_yes n d hg w hT
    revert sc ic
    generalize nfN n d = RN
    generalize nfE n d = RE
    generalize nfB n d = RB
    intro sc ic
    have SC := Lib.hid sc; have IC := Lib.hid ic; clear sc ic
    cases RB
    · go_enter Tryd.func3, Tryd.ntmps3
      go_wp2_with (first | (go_at_call 17; refine (SC.out _).mono ?_; rintro rv ws ⟨rfl, hb⟩; have hx := hb; clear hb) | (go_at_call 18; refine (IC.out _ (hT.ext Ext.auK)).mono ?_; rintro rv wi ⟨rfl, hb⟩; have ns : ws.heap.size < wi.heap.size := hb.ltK; have n0 : wi.cell? ⟨ws.heap.size, 0, none⟩ = some (.int .i64 RN) := hb.cellK; have n1 : wi.cell? ⟨ws.heap.size, 1, none⟩ = some (.int .i64 RE) := hb.cellK; (first | (have nx := Ext.trans hx hb; clear hx) | (have nx := Ext.trans (hx.alloc _) hb; clear hx) | (have nx := Ext.trans hx.drew hb; clear hx) | have nx := hb); clear hb; try clear hs; try clear g0; try clear g1; have hx := nx; clear nx; have hs := ns; clear ns; have g0 := n0; clear n0; have g1 := n1; clear n1) | (go_at_call 19; refine (eqDyadic_same _ _ _).mono ?_; rintro rv w1 ⟨rfl, hb⟩; have ns : ws.heap.size < w1.heap.size := hb.ltK; (first | (have nx := Ext.trans hx hb; clear hx) | (have nx := Ext.trans (hx.alloc _) hb; clear hx) | (have nx := Ext.trans hx.drew hb; clear hx) | have nx := hb); clear hb; try clear hs; have hx := nx; clear nx; have hs := ns; clear ns))
      go_ret
      exact ⟨rfl, Ext.auK⟩
    · go_enter Tryd.func3, Tryd.ntmps3
      go_wp2_with (first | (go_at_call 17; refine (SC.out _).mono ?_; rintro rv ws ⟨rfl, hb⟩; have hx := hb; clear hb) | (go_at_call 18; refine (IC.out _ (hT.ext Ext.auK)).mono ?_; rintro rv wi ⟨rfl, hb⟩; have ns : ws.heap.size < wi.heap.size := hb.ltK; have n0 : wi.cell? ⟨ws.heap.size, 0, none⟩ = some (.int .i64 RN) := hb.cellK; have n1 : wi.cell? ⟨ws.heap.size, 1, none⟩ = some (.int .i64 RE) := hb.cellK; (first | (have nx := Ext.trans hx hb; clear hx) | (have nx := Ext.trans (hx.alloc _) hb; clear hx) | (have nx := Ext.trans hx.drew hb; clear hx) | have nx := hb); clear hb; try clear hs; try clear g0; try clear g1; have hx := nx; clear nx; have hs := ns; clear ns; have g0 := n0; clear n0; have g1 := n1; clear n1) | (go_at_call 19; refine (eqDyadic_same _ _ _).mono ?_; rintro rv w1 ⟨rfl, hb⟩; have ns : ws.heap.size < w1.heap.size := hb.ltK; (first | (have nx := Ext.trans hx hb; clear hx) | (have nx := Ext.trans (hx.alloc _) hb; clear hx) | (have nx := Ext.trans hx.drew hb; clear hx) | have nx := hb); clear hb; try clear hs; have hx := nx; clear nx; have hs := ns; clear ns))
      go_ret
      exact ⟨rfl, Ext.auK⟩

set_option maxRecDepth 100000 in
theorem lifted (os : Os) (started : os.Started) (H : Type) (enc : TypeId × Value → H) :
    ReturnsInHanded {} Tryd.checked os 3 .any (fun w args => (Rows.fnExactDyadicOfSpec.pre enc Tryd.prog Tryd.f3 [] false w args ∧ laidMetH Tryd.prog laidU w) ∧ sizedMet enc Tryd.prog Tryd.f3 (OpenSpec.ofChange Rows.fnExactDyadicOfSpec) false w args) (Rows.fnExactDyadicOfSpec.post enc Tryd.prog Tryd.f3 false true false false) := by
  refine returnsInHanded_of_change_and (C := Tryd.checked) (X := fun w _ => laidMetH Tryd.prog laidU w) (fun _ _ _ hh h => h.of_heap hh) own started (by kernel_rfl) Tryd.func3
    (ChangeSpec.witness_shaped (enc := enc) (C := Tryd.checked) (os := os) (X := fun w _ => laidMetH Tryd.prog laidU w) false (World.doorLaid Tryd.prog 400 os) #[.int .i64 0, .int .i64 0] 8 rfl (World.shaped_of_RefB (by kernel_rfl) (by kernel_rfl)) (by kernel_rfl) (by kernel_rfl) (by kernel_rfl) (door_met os _)) ?_
  intro W base args ds gs before hval0 hW _ _ hL _
  have hval : ∀ (j : Nat) t v, Tryd.f3.params[j]? = some t → args[j]? = some v → Value.okWide Tryd.prog W .any base t v := hval0
  have hW' := hW
  obtain ⟨p, q, hA0, hV, rfl, hfz, hnd⟩ := hW
  have hA : DataW.TrodAll enc Tryd.prog W 0 (fun _ => true) true Tryd.f3.params.toList args.toList ds p := hA0
  rw [Tryd.params3] at hA hval
  obtain ⟨v0, vs0, d0, ds0, p0, q0, hargs, rfl, rfl, h0, r0⟩ := trodAll_cons hA
  obtain ⟨v1, vs1, d1, ds1, p1, q1, rfl, rfl, rfl, h1, r1⟩ := trodAll_cons r0
  obtain ⟨rfl, rfl, rfl⟩ := trodAll_nil r1
  obtain rfl : args = #[v0, v1] := by cases args; simp_all
  obtain ⟨rfl, rfl⟩ := trodVars_none hV
  obtain ⟨a0, rfl, rfl, rfl, wa0⟩ := open_int Tryd.underlying3 (hval 0 3 v0 rfl rfl) h0
  obtain ⟨a1, rfl, rfl, rfl, wa1⟩ := open_int Tryd.underlying3 (hval 1 3 v1 rfl rfl) h1
  clear hA0 hval0
  simp only [List.append_nil] at hW'
  refine (walk a0 a1 wa0 wa1 W (of_laid hL)).mono fun e W' ⟨he, hb⟩ => ?_
  subst he
  have hg : Below W.heap.size W W' := hb
  exact ⟨_, rfl, ⟨_, _, _, [], _, [], hW', (trodAll_cons_mk (shut_bool Tryd.underlying4 _) trodAll_mk0), (trodAll_cons_mk (shut_int Tryd.underlying3 wa0) (trodAll_cons_mk (shut_int Tryd.underlying3 wa1) trodAll_mk0)), rfl, hg.frame _, fun h => by cases h⟩⟩

theorem row_holds : Rows.FnExactDyadicOfSaid :=
  OpenClaim.holds_of_wide 3 Tryd.f3 rfl rfl rfl rfl rfl rfl rfl ⟨rfl, rfl, rfl, rfl, rfl⟩ rfl rfl rfl rfl rfl (by kernel_rfl) Tryd.func3 (by kernel_rfl)
    (of_decide_eq_true (by kernel_rfl)) (by unfold Func.isWrapper; first | (rw [if_pos (by decide +kernel)]; kernel_rfl) | (rw [if_neg (by decide +kernel)]; exact ⟨rfl, rfl⟩))
    (fun os started H enc _ => lifted os started H enc)
/-- The given statement: the card. -/
theorem proved : Rows.FnExactDyadicOfCardSaid :=
  Claim7.holds_tied_plain_at .later [] [.data, .data] true (true, "77eb8531e552528d1a106b537ce7471ced4dd3ab79b2a0248d6d6400cb3a06ee") false
    row_holds (fun _ h => by cases h) (by kernel_rfl) (fun _ h => by cases h) fnExactDyadicOf_row_tie rfl ⟨rfl, rfl⟩ (by kernel_rfl) rfl
    (fun f fn hf hfn => by
      obtain rfl : f = 3 := Option.some.inj ((show Tryd.prog.funcNamed "loop.example/g01178/laws.FnExactDyadicOf" = some 3 by kernel_rfl).symm.trans hf) |>.symm
      obtain rfl : fn = Tryd.f3 := (Option.some.inj (Tryd.func3.symm.trans hfn)).symm
      exact ⟨by kernel_rfl, fun j t ht => by
        rw [Tryd.params3] at ht
        have hm : t ∈ [3,3] := by simpa using Array.mem_of_getElem? ht
        have hall : ([3,3].all fun u => !Tryd.prog.wantsStandIn u) = true := by kernel_rfl
        exact (show Tryd.prog.wantsStandIn t = false by simpa using List.all_eq_true.1 hall t hm)⟩)
    (by kernel_rfl)
#print axioms proved
end Go.Proofs.YtcbkhlaiefiieabDoor.lDyadicOf
