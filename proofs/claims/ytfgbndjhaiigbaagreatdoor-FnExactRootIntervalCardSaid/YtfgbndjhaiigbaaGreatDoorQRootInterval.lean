/-
  The function RootInterval answers as its model at every argument; there are no conditions beside the tables of the library as the row lists them.
-/
import Derived.Test.YtfgbndjhaiigbaaGreatDoorRows
import Derived.Test.YtfgbndjhaiigbaaGreatDoorWRootInterval
import Derived.Test.YtfgbndjhaiigbaaGreatDoorKri1
import Derived.Test.YtfgbndjhaiigbaaGreatDoorKri2
import Derived.Test.YtfgbndjhaiigbaaGreatDoorKri3
import Derived.Test.YtfgbndjhaiigbaaGreatDoorKri4
import Derived.Test.YtfgbndjhaiigbaaGreatDoorKri5
import Derived.Test.YtfgbndjhaiigbaaGreatDoorKri6
import Derived.Test.YtfgbndjhaiigbaaGreatDoorKri7
import Derived.Test.YtfgbndjhaiigbaaGreatDoorKri8
import Derived.Test.YtfgbndjhaiigbaaGreatDoorKri9
import Derived.Test.YtfgbndjhaiigbaaGreatDoorKri10
import Derived.Test.YtfgbndjhaiigbaaGreatDoorKri11
import Derived.Test.YtfgbndjhaiigbaaGreatDoorKri12
import Derived.Test.YtfgbndjhaiigbaaGreatDoorKri13
import Derived.Test.YtfgbndjhaiigbaaGreatDoorKri14
import Derived.Test.YtfgbndjhaiigbaaGreatDoorKri15
import Derived.Test.YtfgbndjhaiigbaaGreatDoorKri16
import Derived.Test.YtfgbndjhaiigbaaGreatDoorKri17
import Derived.Test.YtfgbndjhaiigbaaGreatDoorKri18
import Derived.Test.YtfgbndjhaiigbaaGreatDoorKri19
import Derived.Test.YtfgbndjhaiigbaaGreatDoorKri20
import Derived.Test.YtfgbndjhaiigbaaGreatDoorKri21
import Derived.Test.YtfgbndjhaiigbaaGreatDoorKri22
import Derived.Test.YtfgbndjhaiigbaaGreatDoorKri23
import Derived.Test.YtfgbndjhaiigbaaGreatDoorKri24
import Derived.Test.YtfgbndjhaiigbaaGreatDoorKri25
import Derived.Test.YtfgbndjhaiigbaaGreatDoorKri26
import Derived.Test.YtfgbndjhaiigbaaGreatDoorKri27
import Derived.Test.YtfgbndjhaiigbaaGreatDoorKri28
import Derived.Test.YtfgbndjhaiigbaaGreatDoorKri29
import Derived.Test.YtfgbndjhaiigbaaGreatDoorKri30
import Derived.Test.YtfgbndjhaiigbaaGreatDoorKri31
import Derived.Test.YtfgbndjhaiigbaaGreatDoorKri32
import Derived.Test.YtfgbndjhaiigbaaGreatDoorKri33
import Derived.Test.YtfgbndjhaiigbaaGreatDoorKri34
import Derived.Test.YtfgbndjhaiigbaaGreatDoorKri35
import Derived.Test.YtfgbndjhaiigbaaGreatDoorKri36
import Derived.Test.YtfgbndjhaiigbaaGreatDoorKri37
import Derived.Test.YtfgbndjhaiigbaaGreatDoorSeatA
import Derived.Test.YtfgbndjhaiigbaaGreatDoorSeatB
import Derived.Test.YtfgbndjhaiigbaaGreatDoorSeatC
import Derived.WalkKit
import Derived.ProofKit
import Derived.OpenShut
import Derived.Lib.Hide
import Derived.Deep.RegionHeld3
import Derived.Deep.DeepCutAuto
import Derived.Deep.CutBlock
import Derived.Lib.SmallJoins
import Derived.LaidMore
import Derived.Stop.Joined
import Derived.SevenTiedAt
import Derived.Test.YtfgbndjhaiigbaaGreatDoorCards
import Derived.Test.YtfgbndjhaiigbaaGreatDoorTie
namespace Go.Proofs.YtfgbndjhaiigbaaGreatDoor.lRootInterval
open Go.ChangeShapes Go.WideShapes Go.ChangeAt Go.RowKit Go.Joins
set_option linter.unusedVariables false
set_option linter.unusedSimpArgs false

set_option maxHeartbeats 6400000 in
set_option maxRecDepth 100000 in
theorem lifted (os : Os) (started : os.Started) (H : Type) (enc : TypeId × Value → H) :
    ReturnsInHanded {} Tryz.checked os 5 .any (fun w args => (Rows.fnExactRootIntervalSpec.pre enc Tryz.prog Tryz.f5 [] false w args ∧ laidMetH Tryz.prog laidU w) ∧ sizedMet enc Tryz.prog Tryz.f5 (OpenSpec.ofChange Rows.fnExactRootIntervalSpec) false w args) (Rows.fnExactRootIntervalSpec.post enc Tryz.prog Tryz.f5 false true false false) := by
  refine returnsInHanded_of_change_and (C := Tryz.checked) (X := fun w _ => laidMetH Tryz.prog laidU w) (fun _ _ _ hh h => h.of_heap hh) own started (by kernel_rfl) Tryz.func5
    (ChangeSpec.witness_shaped (enc := enc) (C := Tryz.checked) (os := os) (X := fun w _ => laidMetH Tryz.prog laidU w) false (World.doorLaid Tryz.prog 400 os) #[.agg #[.int .i64 0, .int .i64 0], .agg #[.int .i64 0, .int .i64 0]] 8 rfl (World.shaped_of_RefB (by kernel_rfl) (by kernel_rfl)) (by kernel_rfl) (by kernel_rfl) (by kernel_rfl) (door_met os _)) ?_
  intro W base args ds gs before hval0 hW _ _ hL _
  have hval : ∀ (j : Nat) t v, Tryz.f5.params[j]? = some t → args[j]? = some v → Value.okWide Tryz.prog W .any base t v := hval0
  have hW' := hW
  obtain ⟨p, q, hA0, hV, rfl, hfz, hnd⟩ := hW
  have hA : DataW.TrodAll enc Tryz.prog W 0 (fun _ => true) true Tryz.f5.params.toList args.toList ds p := hA0
  rw [Tryz.params5] at hA hval
  obtain ⟨v0, vs0, d0, ds0, p0, q0, hargs, rfl, rfl, h0, r0⟩ := trodAll_cons hA
  obtain ⟨v1, vs1, d1, ds1, p1, q1, rfl, rfl, rfl, h1, r1⟩ := trodAll_cons r0
  obtain ⟨rfl, rfl, rfl⟩ := trodAll_nil r1
  obtain rfl : args = #[v0, v1] := by cases args; simp_all
  obtain ⟨rfl, rfl⟩ := trodVars_none hV
  obtain ⟨c00, c01, y00, y01, m0, rfl, rfl, rfl, hy00, hy01⟩ := open_agg2 Tryz.underlying23 (by kernel_rfl) (by kernel_rfl) (hval 0 23 v0 rfl rfl) h0
  obtain ⟨a0, e00, rfl, wa0⟩ := DataW.trod_int Tryz.underlying3 hy00
  obtain ⟨b0, e01, rfl, wb0⟩ := DataW.trod_int Tryz.underlying3 hy01
  simp at e00 e01
  subst e00 e01
  obtain ⟨c10, c11, y10, y11, m1, rfl, rfl, rfl, hy10, hy11⟩ := open_agg2 Tryz.underlying25 (by kernel_rfl) (by kernel_rfl) (hval 1 25 v1 rfl rfl) h1
  obtain ⟨a1, e10, rfl, wa1⟩ := DataW.trod_int Tryz.underlying3 hy10
  obtain ⟨b1, e11, rfl, wb1⟩ := DataW.trod_int Tryz.underlying3 hy11
  simp at e10 e11
  subst e10 e11
  clear hA0 hval0
  simp only [List.append_nil] at hW'
  have sr0 : ∀ (W' : World) (sp : Nat → Bool), DataW.Trod enc Tryz.prog W' 0 sp true 23 (.agg #[.int .i64 a0, .int .i64 b0]) (.agg [.lit (.int .i64 a0), .lit (.int .i64 b0)]) [] := fun W' sp =>
    shut_agg2 (y0 := (.lit (.int .i64 a0), [])) (y1 := (.lit (.int .i64 b0), [])) Tryz.underlying23 (by kernel_rfl) (by kernel_rfl) ⟨1, by simp [DataW.trod, Tryz.underlying3, wa0]⟩ ⟨1, by simp [DataW.trod, Tryz.underlying3, wb0]⟩
  have sr1 : ∀ (W' : World) (sp : Nat → Bool), DataW.Trod enc Tryz.prog W' 0 sp true 25 (.agg #[.int .i64 a1, .int .i64 b1]) (.agg [.lit (.int .i64 a1), .lit (.int .i64 b1)]) [] := fun W' sp =>
    shut_agg2 (y0 := (.lit (.int .i64 a1), [])) (y1 := (.lit (.int .i64 b1), [])) Tryz.underlying25 (by kernel_rfl) (by kernel_rfl) ⟨1, by simp [DataW.trod, Tryz.underlying3, wa1]⟩ ⟨1, by simp [DataW.trod, Tryz.underlying3, wb1]⟩
  refine (walk a0 b0 a1 b1 wa0 wb0 wa1 wb1 W (of_laid hL)).mono fun e W' ⟨he, hb⟩ => ?_
  subst he
  have hg : Below W.heap.size W W' := hb
  exact ⟨_, rfl, ⟨_, _, _, [], _, [], hW', (trodAll_cons_mk (shut_bool Tryz.underlying4 _) trodAll_mk0), (trodAll_cons_mk (sr0 _ _) (trodAll_cons_mk (sr1 _ _) trodAll_mk0)), rfl, hg.frame _, fun h => by cases h⟩⟩

theorem row_holds : Rows.FnExactRootIntervalSaid :=
  OpenClaim.holds_of_wide 5 Tryz.f5 rfl rfl rfl rfl rfl rfl rfl ⟨rfl, rfl, rfl, rfl, rfl⟩ rfl rfl rfl rfl rfl (by kernel_rfl) Tryz.func5 (by show joinedFacts Tryz.prog _ _ _ _ = true; rw [joinedFacts, seat_enter, seat_lifts, seat_make]; kernel_rfl)
    (of_decide_eq_true (by kernel_rfl)) (by unfold Func.isWrapper; first | (rw [if_pos (by decide +kernel)]; kernel_rfl) | (rw [if_neg (by decide +kernel)]; exact ⟨rfl, rfl⟩))
    (fun os started H enc _ => lifted os started H enc)
/-- The given statement: the card. -/
theorem proved : Rows.FnExactRootIntervalCardSaid :=
  Claim7.holds_tied_plain_at .later [] [.data, .data] true (true, "89f4fc5f2b6b3a38e79aff4b774866027c471f844f2c84470e56548127dcee06") true
    row_holds (fun _ h => by cases h) (by kernel_rfl) (fun _ h => by cases h) fnExactRootInterval_row_tie rfl ⟨rfl, rfl⟩ (by kernel_rfl) rfl
    (fun f fn hf hfn => by
      obtain rfl : f = 5 := Option.some.inj ((show Tryz.prog.funcNamed "loop.example/g01178/laws.FnExactRootInterval" = some 5 by kernel_rfl).symm.trans hf) |>.symm
      obtain rfl : fn = Tryz.f5 := (Option.some.inj (Tryz.func5.symm.trans hfn)).symm
      exact ⟨by kernel_rfl, fun j t ht => by
        rw [Tryz.params5] at ht
        have hm : t ∈ [23,25] := by simpa using Array.mem_of_getElem? ht
        have hall : ([23,25].all fun u => !Tryz.prog.wantsStandIn u) = true := by kernel_rfl
        exact (show Tryz.prog.wantsStandIn t = false by simpa using List.all_eq_true.1 hall t hm)⟩)
    (by kernel_rfl)
#print axioms proved
end Go.Proofs.YtfgbndjhaiigbaaGreatDoor.lRootInterval
