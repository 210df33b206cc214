/-
  The function HalfText answers as its model at every argument; there are no conditions beside the tables of the library as the row lists them.
-/
import Derived.Test.YtfgbndjhaiigbabDoorRows
import Derived.Test.YtfgbndjhaiigbabDoorWHalfText
import Derived.Test.YtfgbndjhaiigbabDoorKxh1
import Derived.Test.YtfgbndjhaiigbabDoorKxh2
import Derived.Test.YtfgbndjhaiigbabDoorKxh3
import Derived.Test.YtfgbndjhaiigbabDoorKxh4
import Derived.Test.YtfgbndjhaiigbabDoorKxh5
import Derived.Test.YtfgbndjhaiigbabDoorKxh6
import Derived.Test.YtfgbndjhaiigbabDoorKxh7
import Derived.Test.YtfgbndjhaiigbabDoorKxh8
import Derived.Test.YtfgbndjhaiigbabDoorKxh9
import Derived.Test.YtfgbndjhaiigbabDoorKxh10
import Derived.Test.YtfgbndjhaiigbabDoorKxh11
import Derived.Test.YtfgbndjhaiigbabDoorKxh12
import Derived.Test.YtfgbndjhaiigbabDoorKxh13
import Derived.Test.YtfgbndjhaiigbabDoorKxh14
import Derived.Test.YtfgbndjhaiigbabDoorKxh15
import Derived.Test.YtfgbndjhaiigbabDoorKxh16
import Derived.Test.YtfgbndjhaiigbabDoorKxh17
import Derived.Test.YtfgbndjhaiigbabDoorKxh18
import Derived.Test.YtfgbndjhaiigbabDoorKxh19
import Derived.Test.YtfgbndjhaiigbabDoorKxh20
import Derived.Test.YtfgbndjhaiigbabDoorKxh21
import Derived.Test.YtfgbndjhaiigbabDoorKxh22
import Derived.Test.YtfgbndjhaiigbabDoorKxh23
import Derived.Test.YtfgbndjhaiigbabDoorKxh24
import Derived.Test.YtfgbndjhaiigbabDoorKxh25
import Derived.Test.YtfgbndjhaiigbabDoorKxh26
import Derived.Test.YtfgbndjhaiigbabDoorKxh27
import Derived.Test.YtfgbndjhaiigbabDoorKxh28
import Derived.Test.YtfgbndjhaiigbabDoorKxh29
import Derived.Test.YtfgbndjhaiigbabDoorKxh30
import Derived.Test.YtfgbndjhaiigbabDoorKxh31
import Derived.Test.YtfgbndjhaiigbabDoorSeatA
import Derived.Test.YtfgbndjhaiigbabDoorSeatB
import Derived.Test.YtfgbndjhaiigbabDoorSeatC
import Derived.WalkKit
import Derived.ProofKit
import Derived.OpenShut
import Derived.Lib.Hide
import Derived.Deep.RegionHeld3
import Derived.Lib.SmallJoins
import Derived.LaidMore
import Derived.Stop.Joined
import Derived.SevenTiedAt
import Derived.Test.YtfgbndjhaiigbabDoorCards
import Derived.Test.YtfgbndjhaiigbabDoorTie
namespace Go.Proofs.YtfgbndjhaiigbabDoor.lHalfText
open Go.ChangeShapes Go.WideShapes Go.ChangeAt Go.RowKit Go.Joins
set_option linter.unusedVariables false
set_option linter.unusedSimpArgs false

set_option maxHeartbeats 3200000 in
set_option maxRecDepth 100000 in
theorem lifted (os : Os) (started : os.Started) (H : Type) (enc : TypeId × Value → H) :
    ReturnsInHanded {} Tryd.checked os 13 .any (fun w args => (Rows.fnExactHalfTextSpec.pre enc Tryd.prog Tryd.f13 [] false w args ∧ laidMetH Tryd.prog laidT w) ∧ sizedMet enc Tryd.prog Tryd.f13 (OpenSpec.ofChange Rows.fnExactHalfTextSpec) false w args) (Rows.fnExactHalfTextSpec.post enc Tryd.prog Tryd.f13 false true false false) := by
  refine returnsInHanded_of_change_and (C := Tryd.checked) (X := fun w _ => laidMetH Tryd.prog laidT w) (fun _ _ _ hh h => h.of_heap hh) own started (by kernel_rfl) Tryd.func13
    (ChangeSpec.witness_shaped (enc := enc) (C := Tryd.checked) (os := os) (X := fun w _ => laidMetH Tryd.prog laidT w) false (World.doorLaid Tryd.prog 400 os) #[.agg #[.int .i64 0, .int .i64 0], .int .i64 0] 8 rfl (World.shaped_of_RefB (by kernel_rfl) (by kernel_rfl)) (by kernel_rfl) (by kernel_rfl) (by kernel_rfl) (door_metT os _)) ?_
  intro W base args ds gs before hval0 hW _ _ hL _
  have hval : ∀ (j : Nat) t v, Tryd.f13.params[j]? = some t → args[j]? = some v → Value.okWide Tryd.prog W .any base t v := hval0
  have hW' := hW
  obtain ⟨p, q, hA0, hV, rfl, hfz, hnd⟩ := hW
  have hA : DataW.TrodAll enc Tryd.prog W 0 (fun _ => true) true Tryd.f13.params.toList args.toList ds p := hA0
  rw [Tryd.params13] at hA hval
  obtain ⟨v0, vs0, d0, ds0, p0, q0, hargs, rfl, rfl, h0, r0⟩ := trodAll_cons hA
  obtain ⟨v1, vs1, d1, ds1, p1, q1, rfl, rfl, rfl, h1, r1⟩ := trodAll_cons r0
  obtain ⟨rfl, rfl, rfl⟩ := trodAll_nil r1
  obtain rfl : args = #[v0, v1] := by cases args; simp_all
  obtain ⟨rfl, rfl⟩ := trodVars_none hV
  obtain ⟨c00, c01, y00, y01, m0, rfl, rfl, rfl, hy00, hy01⟩ := open_agg2 Tryd.underlying23 (by kernel_rfl) (by kernel_rfl) (hval 0 23 v0 rfl rfl) h0
  obtain ⟨a0, e00, rfl, wa0⟩ := DataW.trod_int Tryd.underlying3 hy00
  obtain ⟨b0, e01, rfl, wb0⟩ := DataW.trod_int Tryd.underlying3 hy01
  simp at e00 e01
  subst e00 e01
  obtain ⟨a1, rfl, rfl, rfl, wa1⟩ := open_int Tryd.underlying3 (hval 1 3 v1 rfl rfl) h1
  clear hA0 hval0
  simp only [List.append_nil] at hW'
  have sr0 : ∀ (W' : World) (sp : Nat → Bool), DataW.Trod enc Tryd.prog W' 0 sp true 23 (.agg #[.int .i64 a0, .int .i64 b0]) (.agg [.lit (.int .i64 a0), .lit (.int .i64 b0)]) [] := fun W' sp =>
    shut_agg2 (y0 := (.lit (.int .i64 a0), [])) (y1 := (.lit (.int .i64 b0), [])) Tryd.underlying23 (by kernel_rfl) (by kernel_rfl) ⟨1, by simp [DataW.trod, Tryd.underlying3, wa0]⟩ ⟨1, by simp [DataW.trod, Tryd.underlying3, wb0]⟩
  refine (walk a0 b0 a1 wa0 wb0 wa1 W (⟨tw_laidT hL, of_laidT hL⟩)).mono fun e W' ⟨he, hb⟩ => ?_
  subst he
  have hg : Below W.heap.size W W' := hb
  exact ⟨_, rfl, ⟨_, _, _, [], _, [], hW', (trodAll_cons_mk (shut_bool Tryd.underlying4 _) trodAll_mk0), (trodAll_cons_mk (sr0 _ _) (trodAll_cons_mk (shut_int Tryd.underlying3 wa1) trodAll_mk0)), rfl, hg.frame _, fun h => by cases h⟩⟩
theorem jIn : (Rows.fnExactHalfTextRow.inPlace == Tryd.prog.inPlace 13) = true := by kernel_rfl
theorem jUnf : (Rows.fnExactHalfTextRow.unfollowed == Tryd.prog.unfollowed 13) = true := by kernel_rfl
theorem jRec : (Rows.fnExactHalfTextRow.recurses == Tryd.prog.recurses 13) = true := by kernel_rfl
theorem jVar : (Rows.fnExactHalfTextRow.named == Tryd.prog.varsNamed 13) = true := by kernel_rfl
theorem jJoined : joinedFacts Tryd.prog 13 Tryd.f13 Rows.fnExactHalfTextSpec Rows.fnExactHalfTextRow = true := by rw [joinedFacts, seat_enter, seat_lifts, seat_make, jIn, jUnf, jRec, jVar]; kernel_rfl
theorem jInst : Tryd.f13.isInstance Tryd.prog Rows.fnExactHalfTextRow.origin Rows.fnExactHalfTextRow.targs := of_decide_eq_true (by kernel_rfl)
theorem jWrap : Tryd.f13.isWrapper Tryd.prog Rows.fnExactHalfTextRow.wrapper Rows.fnExactHalfTextRow.mainSum := by unfold Func.isWrapper; first | (rw [if_pos (by decide +kernel)]; kernel_rfl) | (rw [if_neg (by decide +kernel)]; exact ⟨rfl, rfl⟩)
theorem jNamed : Tryd.prog.funcNamed Rows.fnExactHalfTextRow.func = some 13 := by kernel_rfl


theorem row_holds : Rows.FnExactHalfTextSaid :=
  OpenClaim.holds_of_wide 13 Tryd.f13 rfl rfl rfl rfl rfl rfl rfl ⟨rfl, rfl, rfl, rfl, rfl⟩ rfl rfl rfl rfl rfl jNamed Tryd.func13 jJoined
    jInst jWrap
    (fun os started H enc _ => lifted os started H enc)
theorem jText : OpenClaim.wfByText (OpenSpec.ofChange Rows.fnExactHalfTextSpec) Rows.fnExactHalfTextRow = true := by kernel_rfl
theorem jMain : Tryd.prog.mainIs = some (true, "aef92a8587f3df4e10c9708275132005f2cc86e9ec8278007632d45dce44bc34".toList) := by kernel_rfl
theorem jLooks : true = Tryd.prog.looks [] := by kernel_rfl
theorem jGoes : false = Rows.fnExactHalfTextRow.goesBy Tryd.prog := by kernel_rfl
theorem jStand : ([23,3].all fun u => !Tryd.prog.wantsStandIn u) = true := by kernel_rfl
theorem jFunc : Tryd.prog.funcNamed "loop.example/g01178/laws.FnExactHalfText" = some 13 := by kernel_rfl

/-- The given statement: the card. -/
theorem proved : Rows.FnExactHalfTextCardSaid :=
  Claim7.holds_tied_plain_at .later [] [.data, .data, .data] true (true, "aef92a8587f3df4e10c9708275132005f2cc86e9ec8278007632d45dce44bc34") true
    row_holds (fun _ h => by cases h) jText (fun _ h => by cases h) fnExactHalfText_row_tie rfl ⟨rfl, rfl⟩ jMain rfl
    (fun f fn hf hfn => by
      obtain rfl : f = 13 := Option.some.inj (jFunc.symm.trans hf) |>.symm
      obtain rfl : fn = Tryd.f13 := (Option.some.inj (Tryd.func13.symm.trans hfn)).symm
      exact ⟨jLooks, fun j t ht => by
        rw [Tryd.params13] at ht
        have hm : t ∈ [23,3] := by simpa using Array.mem_of_getElem? ht
        have hall : ([23,3].all fun u => !Tryd.prog.wantsStandIn u) = true := jStand
        exact (show Tryd.prog.wantsStandIn t = false by simpa using List.all_eq_true.1 hall t hm)⟩)
    jGoes
#print axioms proved
end Go.Proofs.YtfgbndjhaiigbabDoor.lHalfText
