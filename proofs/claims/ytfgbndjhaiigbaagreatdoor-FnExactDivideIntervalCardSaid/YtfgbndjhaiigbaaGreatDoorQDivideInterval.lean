/-
  The function DivideInterval answers as its model at every argument; there are no conditions beside the tables of the library as the row lists them.
-/
import Derived.Test.YtfgbndjhaiigbaaGreatDoorRows
import Derived.Test.YtfgbndjhaiigbaaGreatDoorWDivideInterval
import Derived.Test.YtfgbndjhaiigbaaGreatDoorKdj1
import Derived.Test.YtfgbndjhaiigbaaGreatDoorKdj2
import Derived.Test.YtfgbndjhaiigbaaGreatDoorKdj3
import Derived.Test.YtfgbndjhaiigbaaGreatDoorKdj4
import Derived.Test.YtfgbndjhaiigbaaGreatDoorKdj5
import Derived.Test.YtfgbndjhaiigbaaGreatDoorKdj6
import Derived.Test.YtfgbndjhaiigbaaGreatDoorKdj7
import Derived.Test.YtfgbndjhaiigbaaGreatDoorKdj8
import Derived.Test.YtfgbndjhaiigbaaGreatDoorKdj9
import Derived.Test.YtfgbndjhaiigbaaGreatDoorKdj10
import Derived.Test.YtfgbndjhaiigbaaGreatDoorKdj11
import Derived.Test.YtfgbndjhaiigbaaGreatDoorKdj12
import Derived.Test.YtfgbndjhaiigbaaGreatDoorKdj13
import Derived.Test.YtfgbndjhaiigbaaGreatDoorKdj14
import Derived.Test.YtfgbndjhaiigbaaGreatDoorKdj15
import Derived.Test.YtfgbndjhaiigbaaGreatDoorKdj16
import Derived.Test.YtfgbndjhaiigbaaGreatDoorKdj17
import Derived.Test.YtfgbndjhaiigbaaGreatDoorKdj18
import Derived.Test.YtfgbndjhaiigbaaGreatDoorKdj19
import Derived.Test.YtfgbndjhaiigbaaGreatDoorKdj20
import Derived.Test.YtfgbndjhaiigbaaGreatDoorKdj21
import Derived.Test.YtfgbndjhaiigbaaGreatDoorKdj22
import Derived.Test.YtfgbndjhaiigbaaGreatDoorKdj23
import Derived.Test.YtfgbndjhaiigbaaGreatDoorKdj24
import Derived.Test.YtfgbndjhaiigbaaGreatDoorKdj25
import Derived.Test.YtfgbndjhaiigbaaGreatDoorKdj26
import Derived.Test.YtfgbndjhaiigbaaGreatDoorKdj27
import Derived.Test.YtfgbndjhaiigbaaGreatDoorKdj28
import Derived.Test.YtfgbndjhaiigbaaGreatDoorKdj29
import Derived.Test.YtfgbndjhaiigbaaGreatDoorKdj30
import Derived.Test.YtfgbndjhaiigbaaGreatDoorKdj31
import Derived.Test.YtfgbndjhaiigbaaGreatDoorKdj32
import Derived.Test.YtfgbndjhaiigbaaGreatDoorKdj33
import Derived.Test.YtfgbndjhaiigbaaGreatDoorKdj34
import Derived.Test.YtfgbndjhaiigbaaGreatDoorKdj35
import Derived.Test.YtfgbndjhaiigbaaGreatDoorKdj36
import Derived.Test.YtfgbndjhaiigbaaGreatDoorKdj37
import Derived.Test.YtfgbndjhaiigbaaGreatDoorKdj38
import Derived.Test.YtfgbndjhaiigbaaGreatDoorKdj39
import Derived.Test.YtfgbndjhaiigbaaGreatDoorKdj40
import Derived.Test.YtfgbndjhaiigbaaGreatDoorKdj41
import Derived.Test.YtfgbndjhaiigbaaGreatDoorSeatA
import Derived.Test.YtfgbndjhaiigbaaGreatDoorSeatB
import Derived.Test.YtfgbndjhaiigbaaGreatDoorSeatC
import Derived.WalkKit
import Derived.ProofKit
import Derived.OpenShut
import Derived.Lib.Hide
import Derived.Deep.RegionHeld3
import Derived.Deep.DeepCutAuto
import Derived.Deep.CutBlock
import Derived.Lib.SmallJoins
import Derived.LaidMore
import Derived.Stop.Joined
import Derived.SevenTiedAt
import Derived.Test.YtfgbndjhaiigbaaGreatDoorCards
import Derived.Test.YtfgbndjhaiigbaaGreatDoorTie
namespace Go.Proofs.YtfgbndjhaiigbaaGreatDoor.lDivideInterval
open Go.ChangeShapes Go.WideShapes Go.ChangeAt Go.RowKit Go.Joins
set_option linter.unusedVariables false
set_option linter.unusedSimpArgs false

set_option maxHeartbeats 6400000 in
set_option maxRecDepth 100000 in
theorem lifted (os : Os) (started : os.Started) (H : Type) (enc : TypeId × Value → H) :
    ReturnsInHanded {} Tryz.checked os 4 .any (fun w args => (Rows.fnExactDivideIntervalSpec.pre enc Tryz.prog Tryz.f4 [] false w args ∧ laidMetH Tryz.prog laidU w) ∧ sizedMet enc Tryz.prog Tryz.f4 (OpenSpec.ofChange Rows.fnExactDivideIntervalSpec) false w args) (Rows.fnExactDivideIntervalSpec.post enc Tryz.prog Tryz.f4 false true false false) := by
  refine returnsInHanded_of_change_and (C := Tryz.checked) (X := fun w _ => laidMetH Tryz.prog laidU w) (fun _ _ _ hh h => h.of_heap hh) own started (by kernel_rfl) Tryz.func4
    (ChangeSpec.witness_shaped (enc := enc) (C := Tryz.checked) (os := os) (X := fun w _ => laidMetH Tryz.prog laidU w) false (World.doorLaid Tryz.prog 400 os) #[.agg #[.int .i64 0, .int .i64 0], .agg #[.int .i64 0, .int .i64 0], .agg #[.int .i64 0, .int .i64 0]] 8 rfl (World.shaped_of_RefB (by kernel_rfl) (by kernel_rfl)) (by kernel_rfl) (by kernel_rfl) (by kernel_rfl) (door_met os _)) ?_
  intro W base args ds gs before hval0 hW _ _ hL _
  have hval : ∀ (j : Nat) t v, Tryz.f4.params[j]? = some t → args[j]? = some v → Value.okWide Tryz.prog W .any base t v := hval0
  have hW' := hW
  obtain ⟨p, q, hA0, hV, rfl, hfz, hnd⟩ := hW
  have hA : DataW.TrodAll enc Tryz.prog W 0 (fun _ => true) true Tryz.f4.params.toList args.toList ds p := hA0
  rw [Tryz.params4] at hA hval
  obtain ⟨v0, vs0, d0, ds0, p0, q0, hargs, rfl, rfl, h0, r0⟩ := trodAll_cons hA
  obtain ⟨v1, vs1, d1, ds1, p1, q1, rfl, rfl, rfl, h1, r1⟩ := trodAll_cons r0
  obtain ⟨v2, vs2, d2, ds2, p2, q2, rfl, rfl, rfl, h2, r2⟩ := trodAll_cons r1
  obtain ⟨rfl, rfl, rfl⟩ := trodAll_nil r2
  obtain rfl : args = #[v0, v1, v2] := by cases args; simp_all
  obtain ⟨rfl, rfl⟩ := trodVars_none hV
  obtain ⟨c00, c01, y00, y01, m0, rfl, rfl, rfl, hy00, hy01⟩ := open_agg2 Tryz.underlying23 (by kernel_rfl) (by kernel_rfl) (hval 0 23 v0 rfl rfl) h0
  obtain ⟨a0, e00, rfl, wa0⟩ := DataW.trod_int Tryz.underlying3 hy00
  obtain ⟨b0, e01, rfl, wb0⟩ := DataW.trod_int Tryz.underlying3 hy01
  simp at e00 e01
  subst e00 e01
  obtain ⟨c10, c11, y10, y11, m1, rfl, rfl, rfl, hy10, hy11⟩ := open_agg2 Tryz.underlying25 (by kernel_rfl) (by kernel_rfl) (hval 1 25 v1 rfl rfl) h1
  obtain ⟨a1, e10, rfl, wa1⟩ := DataW.trod_int Tryz.underlying3 hy10
  obtain ⟨b1, e11, rfl, wb1⟩ := DataW.trod_int Tryz.underlying3 hy11
  simp at e10 e11
  subst e10 e11
  obtain ⟨c20, c21, y20, y21, m2, rfl, rfl, rfl, hy20, hy21⟩ := open_agg2 Tryz.underlying25 (by kernel_rfl) (by kernel_rfl) (hval 2 25 v2 rfl rfl) h2
  obtain ⟨a2, e20, rfl, wa2⟩ := DataW.trod_int Tryz.underlying3 hy20
  obtain ⟨b2, e21, rfl, wb2⟩ := DataW.trod_int Tryz.underlying3 hy21
  simp at e20 e21
  subst e20 e21
  clear hA0 hval0
  simp only [List.append_nil] at hW'
  have sr0 : ∀ (W' : World) (sp : Nat → Bool), DataW.Trod enc Tryz.prog W' 0 sp true 23 (.agg #[.int .i64 a0, .int .i64 b0]) (.agg [.lit (.int .i64 a0), .lit (.int .i64 b0)]) [] := fun W' sp =>
    shut_agg2 (y0 := (.lit (.int .i64 a0), [])) (y1 := (.lit (.int .i64 b0), [])) Tryz.underlying23 (by kernel_rfl) (by kernel_rfl) ⟨1, by simp [DataW.trod, Tryz.underlying3, wa0]⟩ ⟨1, by simp [DataW.trod, Tryz.underlying3, wb0]⟩
  have sr1 : ∀ (W' : World) (sp : Nat → Bool), DataW.Trod enc Tryz.prog W' 0 sp true 25 (.agg #[.int .i64 a1, .int .i64 b1]) (.agg [.lit (.int .i64 a1), .lit (.int .i64 b1)]) [] := fun W' sp =>
    shut_agg2 (y0 := (.lit (.int .i64 a1), [])) (y1 := (.lit (.int .i64 b1), [])) Tryz.underlying25 (by kernel_rfl) (by kernel_rfl) ⟨1, by simp [DataW.trod, Tryz.underlying3, wa1]⟩ ⟨1, by simp [DataW.trod, Tryz.underlying3, wb1]⟩
  have sr2 : ∀ (W' : World) (sp : Nat → Bool), DataW.Trod enc Tryz.prog W' 0 sp true 25 (.agg #[.int .i64 a2, .int .i64 b2]) (.agg [.lit (.int .i64 a2), .lit (.int .i64 b2)]) [] := fun W' sp =>
    shut_agg2 (y0 := (.lit (.int .i64 a2), [])) (y1 := (.lit (.int .i64 b2), [])) Tryz.underlying25 (by kernel_rfl) (by kernel_rfl) ⟨1, by simp [DataW.trod, Tryz.underlying3, wa2]⟩ ⟨1, by simp [DataW.trod, Tryz.underlying3, wb2]⟩
  refine (walk a0 b0 a1 b1 a2 b2 wa0 wb0 wa1 wb1 wa2 wb2 W (of_laid hL)).mono fun e W' ⟨he, hb⟩ => ?_
  subst he
  have hg : Below W.heap.size W W' := hb
  exact ⟨_, rfl, ⟨_, _, _, [], _, [], hW', (trodAll_cons_mk (shut_bool Tryz.underlying4 _) trodAll_mk0), (trodAll_cons_mk (sr0 _ _) (trodAll_cons_mk (sr1 _ _) (trodAll_cons_mk (sr2 _ _) trodAll_mk0))), rfl, hg.frame _, fun h => by cases h⟩⟩

theorem row_holds : Rows.FnExactDivideIntervalSaid :=
  OpenClaim.holds_of_wide 4 Tryz.f4 rfl rfl rfl rfl rfl rfl rfl ⟨rfl, rfl, rfl, rfl, rfl⟩ rfl rfl rfl rfl rfl (by kernel_rfl) Tryz.func4 (by show joinedFacts Tryz.prog _ _ _ _ = true; rw [joinedFacts, seat_enter, seat_lifts, seat_make]; kernel_rfl)
    (of_decide_eq_true (by kernel_rfl)) (by unfold Func.isWrapper; first | (rw [if_pos (by decide +kernel)]; kernel_rfl) | (rw [if_neg (by decide +kernel)]; exact ⟨rfl, rfl⟩))
    (fun os started H enc _ => lifted os started H enc)
/-- The given statement: the card. -/
theorem proved : Rows.FnExactDivideIntervalCardSaid :=
  Claim7.holds_tied_plain_at .later [] [.data, .data] true (true, "89f4fc5f2b6b3a38e79aff4b774866027c471f844f2c84470e56548127dcee06") true
    row_holds (fun _ h => by cases h) (by kernel_rfl) (fun _ h => by cases h) fnExactDivideInterval_row_tie rfl ⟨rfl, rfl⟩ (by kernel_rfl) rfl
    (fun f fn hf hfn => by
      obtain rfl : f = 4 := Option.some.inj ((show Tryz.prog.funcNamed "loop.example/g01178/laws.FnExactDivideInterval" = some 4 by kernel_rfl).symm.trans hf) |>.symm
      obtain rfl : fn = Tryz.f4 := (Option.some.inj (Tryz.func4.symm.trans hfn)).symm
      exact ⟨by kernel_rfl, fun j t ht => by
        rw [Tryz.params4] at ht
        have hm : t ∈ [23,25,25] := by simpa using Array.mem_of_getElem? ht
        have hall : ([23,25,25].all fun u => !Tryz.prog.wantsStandIn u) = true := by kernel_rfl
        exact (show Tryz.prog.wantsStandIn t = false by simpa using List.all_eq_true.1 hall t hm)⟩)
    (by kernel_rfl)
#print axioms proved
end Go.Proofs.YtfgbndjhaiigbaaGreatDoor.lDivideInterval
