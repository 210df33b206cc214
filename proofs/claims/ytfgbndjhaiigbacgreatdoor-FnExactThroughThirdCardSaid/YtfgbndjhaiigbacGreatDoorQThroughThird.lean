/-
  The function ThroughThird answers as its model at every argument; there are no conditions beside the tables of the library as the row lists them.
-/
import Derived.Test.YtfgbndjhaiigbacGreatDoorRows
import Derived.Test.YtfgbndjhaiigbacGreatDoorWThroughThird
import Derived.Test.YtfgbndjhaiigbacGreatDoorKsc1
import Derived.Test.YtfgbndjhaiigbacGreatDoorKsc2
import Derived.Test.YtfgbndjhaiigbacGreatDoorKsc3
import Derived.Test.YtfgbndjhaiigbacGreatDoorKsc4
import Derived.Test.YtfgbndjhaiigbacGreatDoorKsc5
import Derived.Test.YtfgbndjhaiigbacGreatDoorKsc6
import Derived.Test.YtfgbndjhaiigbacGreatDoorKsc7
import Derived.Test.YtfgbndjhaiigbacGreatDoorKsc8
import Derived.Test.YtfgbndjhaiigbacGreatDoorKsc9
import Derived.Test.YtfgbndjhaiigbacGreatDoorKsc10
import Derived.Test.YtfgbndjhaiigbacGreatDoorKsc11
import Derived.Test.YtfgbndjhaiigbacGreatDoorKsc12
import Derived.Test.YtfgbndjhaiigbacGreatDoorKsc13
import Derived.Test.YtfgbndjhaiigbacGreatDoorKsc14
import Derived.Test.YtfgbndjhaiigbacGreatDoorKsc15
import Derived.Test.YtfgbndjhaiigbacGreatDoorKsc16
import Derived.Test.YtfgbndjhaiigbacGreatDoorKsc17
import Derived.Test.YtfgbndjhaiigbacGreatDoorKsc18
import Derived.Test.YtfgbndjhaiigbacGreatDoorKsc19
import Derived.Test.YtfgbndjhaiigbacGreatDoorKsc20
import Derived.Test.YtfgbndjhaiigbacGreatDoorKsc21
import Derived.Test.YtfgbndjhaiigbacGreatDoorKsc22
import Derived.Test.YtfgbndjhaiigbacGreatDoorKsc23
import Derived.Test.YtfgbndjhaiigbacGreatDoorKsc24
import Derived.Test.YtfgbndjhaiigbacGreatDoorKsc25
import Derived.Test.YtfgbndjhaiigbacGreatDoorKsc26
import Derived.Test.YtfgbndjhaiigbacGreatDoorKsc27
import Derived.Test.YtfgbndjhaiigbacGreatDoorKsc28
import Derived.Test.YtfgbndjhaiigbacGreatDoorKsc29
import Derived.Test.YtfgbndjhaiigbacGreatDoorKsc30
import Derived.Test.YtfgbndjhaiigbacGreatDoorKsc31
import Derived.Test.YtfgbndjhaiigbacGreatDoorKsc32
import Derived.Test.YtfgbndjhaiigbacGreatDoorKsc33
import Derived.Test.YtfgbndjhaiigbacGreatDoorKsc34
import Derived.Test.YtfgbndjhaiigbacGreatDoorKsc35
import Derived.Test.YtfgbndjhaiigbacGreatDoorSeatA
import Derived.Test.YtfgbndjhaiigbacGreatDoorSeatB
import Derived.Test.YtfgbndjhaiigbacGreatDoorSeatC
import Derived.WalkKit
import Derived.ProofKit
import Derived.OpenShut
import Derived.Lib.Hide
import Derived.Deep.RegionHeld3
import Derived.Lib.SmallJoins
import Derived.LaidMore
import Derived.Stop.Joined
import Derived.SevenTiedAt
import Derived.Test.YtfgbndjhaiigbacGreatDoorCards
import Derived.Test.YtfgbndjhaiigbacGreatDoorTie
namespace Go.Proofs.YtfgbndjhaiigbacGreatDoor.lThroughThird
open Go.ChangeShapes Go.WideShapes Go.ChangeAt Go.RowKit Go.Joins
set_option linter.unusedVariables false
set_option linter.unusedSimpArgs false

set_option maxHeartbeats 3200000 in
set_option maxRecDepth 100000 in
theorem lifted (os : Os) (started : os.Started) (H : Type) (enc : TypeId × Value → H) :
    ReturnsInHanded {} Tryz.checked os 4 .any (fun w args => (Rows.fnExactThroughThirdSpec.pre enc Tryz.prog Tryz.f4 [] false w args ∧ laidMetH Tryz.prog laidU w) ∧ sizedMet enc Tryz.prog Tryz.f4 (OpenSpec.ofChange Rows.fnExactThroughThirdSpec) false w args) (Rows.fnExactThroughThirdSpec.post enc Tryz.prog Tryz.f4 false true false false) := by
  refine returnsInHanded_of_change_and (C := Tryz.checked) (X := fun w _ => laidMetH Tryz.prog laidU w) (fun _ _ _ hh h => h.of_heap hh) own started (by kernel_rfl) Tryz.func4
    (ChangeSpec.witness_shaped (enc := enc) (C := Tryz.checked) (os := os) (X := fun w _ => laidMetH Tryz.prog laidU w) false (World.doorLaid Tryz.prog 400 os) #[.agg #[.int .i64 0, .int .i64 0], .agg #[.int .i64 0, .int .i64 0], .agg #[.int .i64 0, .int .i64 0], .int .i64 0, .int .i64 0] 8 rfl (World.shaped_of_RefB (by kernel_rfl) (by kernel_rfl)) (by kernel_rfl) (by kernel_rfl) (by kernel_rfl) (door_met os _)) ?_
  intro W base args ds gs before hval0 hW _ _ hL _
  have hval : ∀ (j : Nat) t v, Tryz.f4.params[j]? = some t → args[j]? = some v → Value.okWide Tryz.prog W .any base t v := hval0
  have hW' := hW
  obtain ⟨p, q, hA0, hV, rfl, hfz, hnd⟩ := hW
  have hA : DataW.TrodAll enc Tryz.prog W 0 (fun _ => true) true Tryz.f4.params.toList args.toList ds p := hA0
  rw [Tryz.params4] at hA hval
  obtain ⟨v0, vs0, d0, ds0, p0, q0, hargs, rfl, rfl, h0, r0⟩ := trodAll_cons hA
  obtain ⟨v1, vs1, d1, ds1, p1, q1, rfl, rfl, rfl, h1, r1⟩ := trodAll_cons r0
  obtain ⟨v2, vs2, d2, ds2, p2, q2, rfl, rfl, rfl, h2, r2⟩ := trodAll_cons r1
  obtain ⟨v3, vs3, d3, ds3, p3, q3, rfl, rfl, rfl, h3, r3⟩ := trodAll_cons r2
  obtain ⟨v4, vs4, d4, ds4, p4, q4, rfl, rfl, rfl, h4, r4⟩ := trodAll_cons r3
  obtain ⟨rfl, rfl, rfl⟩ := trodAll_nil r4
  obtain rfl : args = #[v0, v1, v2, v3, v4] := by cases args; simp_all
  obtain ⟨rfl, rfl⟩ := trodVars_none hV
  obtain ⟨c00, c01, y00, y01, m0, rfl, rfl, rfl, hy00, hy01⟩ := open_agg2 Tryz.underlying23 (by kernel_rfl) (by kernel_rfl) (hval 0 23 v0 rfl rfl) h0
  obtain ⟨a0, e00, rfl, wa0⟩ := DataW.trod_int Tryz.underlying3 hy00
  obtain ⟨b0, e01, rfl, wb0⟩ := DataW.trod_int Tryz.underlying3 hy01
  simp at e00 e01
  subst e00 e01
  obtain ⟨c10, c11, y10, y11, m1, rfl, rfl, rfl, hy10, hy11⟩ := open_agg2 Tryz.underlying23 (by kernel_rfl) (by kernel_rfl) (hval 1 23 v1 rfl rfl) h1
  obtain ⟨a1, e10, rfl, wa1⟩ := DataW.trod_int Tryz.underlying3 hy10
  obtain ⟨b1, e11, rfl, wb1⟩ := DataW.trod_int Tryz.underlying3 hy11
  simp at e10 e11
  subst e10 e11
  obtain ⟨c20, c21, y20, y21, m2, rfl, rfl, rfl, hy20, hy21⟩ := open_agg2 Tryz.underlying23 (by kernel_rfl) (by kernel_rfl) (hval 2 23 v2 rfl rfl) h2
  obtain ⟨a2, e20, rfl, wa2⟩ := DataW.trod_int Tryz.underlying3 hy20
  obtain ⟨b2, e21, rfl, wb2⟩ := DataW.trod_int Tryz.underlying3 hy21
  simp at e20 e21
  subst e20 e21
  obtain ⟨a3, rfl, rfl, rfl, wa3⟩ := open_int Tryz.underlying3 (hval 3 3 v3 rfl rfl) h3
  obtain ⟨a4, rfl, rfl, rfl, wa4⟩ := open_int Tryz.underlying3 (hval 4 3 v4 rfl rfl) h4
  clear hA0 hval0
  simp only [List.append_nil] at hW'
  have sr0 : ∀ (W' : World) (sp : Nat → Bool), DataW.Trod enc Tryz.prog W' 0 sp true 23 (.agg #[.int .i64 a0, .int .i64 b0]) (.agg [.lit (.int .i64 a0), .lit (.int .i64 b0)]) [] := fun W' sp =>
    shut_agg2 (y0 := (.lit (.int .i64 a0), [])) (y1 := (.lit (.int .i64 b0), [])) Tryz.underlying23 (by kernel_rfl) (by kernel_rfl) ⟨1, by simp [DataW.trod, Tryz.underlying3, wa0]⟩ ⟨1, by simp [DataW.trod, Tryz.underlying3, wb0]⟩
  have sr1 : ∀ (W' : World) (sp : Nat → Bool), DataW.Trod enc Tryz.prog W' 0 sp true 23 (.agg #[.int .i64 a1, .int .i64 b1]) (.agg [.lit (.int .i64 a1), .lit (.int .i64 b1)]) [] := fun W' sp =>
    shut_agg2 (y0 := (.lit (.int .i64 a1), [])) (y1 := (.lit (.int .i64 b1), [])) Tryz.underlying23 (by kernel_rfl) (by kernel_rfl) ⟨1, by simp [DataW.trod, Tryz.underlying3, wa1]⟩ ⟨1, by simp [DataW.trod, Tryz.underlying3, wb1]⟩
  have sr2 : ∀ (W' : World) (sp : Nat → Bool), DataW.Trod enc Tryz.prog W' 0 sp true 23 (.agg #[.int .i64 a2, .int .i64 b2]) (.agg [.lit (.int .i64 a2), .lit (.int .i64 b2)]) [] := fun W' sp =>
    shut_agg2 (y0 := (.lit (.int .i64 a2), [])) (y1 := (.lit (.int .i64 b2), [])) Tryz.underlying23 (by kernel_rfl) (by kernel_rfl) ⟨1, by simp [DataW.trod, Tryz.underlying3, wa2]⟩ ⟨1, by simp [DataW.trod, Tryz.underlying3, wb2]⟩
  refine (walk a0 b0 a1 b1 a2 b2 a3 a4 wa0 wb0 wa1 wb1 wa2 wb2 wa3 wa4 W (of_laid hL)).mono fun e W' ⟨he, hb⟩ => ?_
  subst he
  have hg : Below W.heap.size W W' := hb
  exact ⟨_, rfl, ⟨_, _, _, [], _, [], hW', (trodAll_cons_mk (shut_bool Tryz.underlying4 _) trodAll_mk0), (trodAll_cons_mk (sr0 _ _) (trodAll_cons_mk (sr1 _ _) (trodAll_cons_mk (sr2 _ _) (trodAll_cons_mk (shut_int Tryz.underlying3 wa3) (trodAll_cons_mk (shut_int Tryz.underlying3 wa4) trodAll_mk0))))), rfl, hg.frame _, fun h => by cases h⟩⟩
theorem jIn : (Rows.fnExactThroughThirdRow.inPlace == Tryz.prog.inPlace 4) = true := by kernel_rfl
theorem jUnf : (Rows.fnExactThroughThirdRow.unfollowed == Tryz.prog.unfollowed 4) = true := by kernel_rfl
theorem jRec : (Rows.fnExactThroughThirdRow.recurses == Tryz.prog.recurses 4) = true := by kernel_rfl
theorem jVar : (Rows.fnExactThroughThirdRow.named == Tryz.prog.varsNamed 4) = true := by kernel_rfl
theorem jJoined : joinedFacts Tryz.prog 4 Tryz.f4 Rows.fnExactThroughThirdSpec Rows.fnExactThroughThirdRow = true := by rw [joinedFacts, seat_enter, seat_lifts, seat_make, jIn, jUnf, jRec, jVar]; kernel_rfl
theorem jInst : Tryz.f4.isInstance Tryz.prog Rows.fnExactThroughThirdRow.origin Rows.fnExactThroughThirdRow.targs := of_decide_eq_true (by kernel_rfl)
theorem jWrap : Tryz.f4.isWrapper Tryz.prog Rows.fnExactThroughThirdRow.wrapper Rows.fnExactThroughThirdRow.mainSum := by unfold Func.isWrapper; first | (rw [if_pos (by decide +kernel)]; kernel_rfl) | (rw [if_neg (by decide +kernel)]; exact ⟨rfl, rfl⟩)
theorem jNamed : Tryz.prog.funcNamed Rows.fnExactThroughThirdRow.func = some 4 := by kernel_rfl


theorem row_holds : Rows.FnExactThroughThirdSaid :=
  OpenClaim.holds_of_wide 4 Tryz.f4 rfl rfl rfl rfl rfl rfl rfl ⟨rfl, rfl, rfl, rfl, rfl⟩ rfl rfl rfl rfl rfl jNamed Tryz.func4 jJoined
    jInst jWrap
    (fun os started H enc _ => lifted os started H enc)
theorem jText : OpenClaim.wfByText (OpenSpec.ofChange Rows.fnExactThroughThirdSpec) Rows.fnExactThroughThirdRow = true := by kernel_rfl
theorem jMain : Tryz.prog.mainIs = some (true, "fdf07d7551ca4a3e0d72eb0b04800bea435416d1ba37bb685256891b6ded4f51".toList) := by kernel_rfl
theorem jLooks : true = Tryz.prog.looks [] := by kernel_rfl
theorem jGoes : false = Rows.fnExactThroughThirdRow.goesBy Tryz.prog := by kernel_rfl
theorem jStand : ([23,23,23,3,3].all fun u => !Tryz.prog.wantsStandIn u) = true := by kernel_rfl
theorem jFunc : Tryz.prog.funcNamed "loop.example/g01178/laws.FnExactThroughThird" = some 4 := by kernel_rfl

/-- The given statement: the card. -/
theorem proved : Rows.FnExactThroughThirdCardSaid :=
  Claim7.holds_tied_plain_at .later [] [.data, .data] true (true, "fdf07d7551ca4a3e0d72eb0b04800bea435416d1ba37bb685256891b6ded4f51") true
    row_holds (fun _ h => by cases h) jText (fun _ h => by cases h) fnExactThroughThird_row_tie rfl ⟨rfl, rfl⟩ jMain rfl
    (fun f fn hf hfn => by
      obtain rfl : f = 4 := Option.some.inj (jFunc.symm.trans hf) |>.symm
      obtain rfl : fn = Tryz.f4 := (Option.some.inj (Tryz.func4.symm.trans hfn)).symm
      exact ⟨jLooks, fun j t ht => by
        rw [Tryz.params4] at ht
        have hm : t ∈ [23,23,23,3,3] := by simpa using Array.mem_of_getElem? ht
        have hall : ([23,23,23,3,3].all fun u => !Tryz.prog.wantsStandIn u) = true := jStand
        exact (show Tryz.prog.wantsStandIn t = false by simpa using List.all_eq_true.1 hall t hm)⟩)
    jGoes
#print axioms proved
end Go.Proofs.YtfgbndjhaiigbacGreatDoor.lThroughThird
