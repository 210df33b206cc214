/-
  The function WholeOf answers as its model at every argument; there are no conditions beside the tables of the library as the row lists them.
-/
import Derived.Test.YtfgbndjhaiigbaaGreatDoorRows
import Derived.Test.YtfgbndjhaiigbaaGreatDoorSeatA
import Derived.Test.YtfgbndjhaiigbaaGreatDoorSeatB
import Derived.Test.YtfgbndjhaiigbaaGreatDoorSeatC
import Derived.Test.YtfgbndjhaiigbaaGreatDoorWWholeOf
import Derived.Test.YtfgbndjhaiigbaaGreatDoorKrm1
import Derived.Test.YtfgbndjhaiigbaaGreatDoorKrm2
import Derived.Test.YtfgbndjhaiigbaaGreatDoorKrm3
import Derived.Test.YtfgbndjhaiigbaaGreatDoorKrm4
import Derived.Test.YtfgbndjhaiigbaaGreatDoorKrm5
import Derived.Test.YtfgbndjhaiigbaaGreatDoorKrm6
import Derived.Test.YtfgbndjhaiigbaaGreatDoorKrm7
import Derived.Test.YtfgbndjhaiigbaaGreatDoorKrm8
import Derived.Test.YtfgbndjhaiigbaaGreatDoorKrm9
import Derived.Test.YtfgbndjhaiigbaaGreatDoorKrm10
import Derived.Test.YtfgbndjhaiigbaaGreatDoorKrm11
import Derived.Test.YtfgbndjhaiigbaaGreatDoorKrm12
import Derived.Test.YtfgbndjhaiigbaaGreatDoorKrm13
import Derived.Test.YtfgbndjhaiigbaaGreatDoorKrm14
import Derived.Test.YtfgbndjhaiigbaaGreatDoorKrm15
import Derived.Test.YtfgbndjhaiigbaaGreatDoorKrm16
import Derived.Test.YtfgbndjhaiigbaaGreatDoorKrm17
import Derived.Test.YtfgbndjhaiigbaaGreatDoorKrm18
import Derived.Test.YtfgbndjhaiigbaaGreatDoorKrm19
import Derived.Test.YtfgbndjhaiigbaaGreatDoorKrm20
import Derived.Test.YtfgbndjhaiigbaaGreatDoorKrm21
import Derived.Test.YtfgbndjhaiigbaaGreatDoorKrm22
import Derived.Test.YtfgbndjhaiigbaaGreatDoorKrm23
import Derived.Test.YtfgbndjhaiigbaaGreatDoorKrm24
import Derived.Test.YtfgbndjhaiigbaaGreatDoorKrm25
import Derived.Test.YtfgbndjhaiigbaaGreatDoorKrm26
import Derived.Test.YtfgbndjhaiigbaaGreatDoorKrm27
import Derived.Test.YtfgbndjhaiigbaaGreatDoorKrm28
import Derived.Test.YtfgbndjhaiigbaaGreatDoorKrm29
import Derived.Test.YtfgbndjhaiigbaaGreatDoorKrm30
import Derived.Test.YtfgbndjhaiigbaaGreatDoorKrm31
import Derived.Test.YtfgbndjhaiigbaaGreatDoorKrm32
import Derived.Test.YtfgbndjhaiigbaaGreatDoorKrm33
import Derived.Test.YtfgbndjhaiigbaaGreatDoorKrm34
import Derived.WalkKit
import Derived.ProofKit
import Derived.OpenShut
import Derived.Lib.Hide
import Derived.Deep.RegionHeld3
import Derived.Lib.SmallJoins
import Derived.LaidMore
import Derived.Stop.Joined
import Derived.SevenTiedAt
import Derived.Test.YtfgbndjhaiigbaaGreatDoorCards
import Derived.Test.YtfgbndjhaiigbaaGreatDoorTie
namespace Go.Proofs.YtfgbndjhaiigbaaGreatDoor.lWholeOf
open Go.ChangeShapes Go.WideShapes Go.ChangeAt Go.RowKit Go.Joins
set_option linter.unusedVariables false
set_option linter.unusedSimpArgs false

set_option maxHeartbeats 3200000 in
set_option maxRecDepth 100000 in
theorem lifted (os : Os) (started : os.Started) (H : Type) (enc : TypeId × Value → H) :
    ReturnsInHanded {} Tryz.checked os 14 .any (fun w args => (Rows.fnExactWholeOfSpec.pre enc Tryz.prog Tryz.f14 [] false w args ∧ laidMetH Tryz.prog laidU w) ∧ sizedMet enc Tryz.prog Tryz.f14 (OpenSpec.ofChange Rows.fnExactWholeOfSpec) false w args) (Rows.fnExactWholeOfSpec.post enc Tryz.prog Tryz.f14 false true false false) := by
  refine returnsInHanded_of_change_and (C := Tryz.checked) (X := fun w _ => laidMetH Tryz.prog laidU w) (fun _ _ _ hh h => h.of_heap hh) own started (by kernel_rfl) Tryz.func14
    (ChangeSpec.witness_shaped (enc := enc) (C := Tryz.checked) (os := os) (X := fun w _ => laidMetH Tryz.prog laidU w) false (World.doorLaid Tryz.prog 400 os) #[.agg #[.int .i64 0, .int .i64 0], .int .i64 0, .int .i64 0] 8 rfl (World.shaped_of_RefB (by kernel_rfl) (by kernel_rfl)) (by kernel_rfl) (by kernel_rfl) (by kernel_rfl) (door_met os _)) ?_
  intro W base args ds gs before hval0 hW _ _ hL _
  have hval : ∀ (j : Nat) t v, Tryz.f14.params[j]? = some t → args[j]? = some v → Value.okWide Tryz.prog W .any base t v := hval0
  have hW' := hW
  obtain ⟨p, q, hA0, hV, rfl, hfz, hnd⟩ := hW
  have hA : DataW.TrodAll enc Tryz.prog W 0 (fun _ => true) true Tryz.f14.params.toList args.toList ds p := hA0
  rw [Tryz.params14] at hA hval
  obtain ⟨v0, vs0, d0, ds0, p0, q0, hargs, rfl, rfl, h0, r0⟩ := trodAll_cons hA
  obtain ⟨v1, vs1, d1, ds1, p1, q1, rfl, rfl, rfl, h1, r1⟩ := trodAll_cons r0
  obtain ⟨v2, vs2, d2, ds2, p2, q2, rfl, rfl, rfl, h2, r2⟩ := trodAll_cons r1
  obtain ⟨rfl, rfl, rfl⟩ := trodAll_nil r2
  obtain rfl : args = #[v0, v1, v2] := by cases args; simp_all
  obtain ⟨rfl, rfl⟩ := trodVars_none hV
  obtain ⟨c00, c01, y00, y01, m0, rfl, rfl, rfl, hy00, hy01⟩ := open_agg2 Tryz.underlying23 (by kernel_rfl) (by kernel_rfl) (hval 0 23 v0 rfl rfl) h0
  obtain ⟨a0, e00, rfl, wa0⟩ := DataW.trod_int Tryz.underlying3 hy00
  obtain ⟨b0, e01, rfl, wb0⟩ := DataW.trod_int Tryz.underlying3 hy01
  simp at e00 e01
  subst e00 e01
  obtain ⟨a1, rfl, rfl, rfl, wa1⟩ := open_int Tryz.underlying3 (hval 1 3 v1 rfl rfl) h1
  obtain ⟨a2, rfl, rfl, rfl, wa2⟩ := open_int Tryz.underlying3 (hval 2 3 v2 rfl rfl) h2
  clear hA0 hval0
  simp only [List.append_nil] at hW'
  have sr0 : ∀ (W' : World) (sp : Nat → Bool), DataW.Trod enc Tryz.prog W' 0 sp true 23 (.agg #[.int .i64 a0, .int .i64 b0]) (.agg [.lit (.int .i64 a0), .lit (.int .i64 b0)]) [] := fun W' sp =>
    shut_agg2 (y0 := (.lit (.int .i64 a0), [])) (y1 := (.lit (.int .i64 b0), [])) Tryz.underlying23 (by kernel_rfl) (by kernel_rfl) ⟨1, by simp [DataW.trod, Tryz.underlying3, wa0]⟩ ⟨1, by simp [DataW.trod, Tryz.underlying3, wb0]⟩
  refine (walk a0 b0 a1 a2 wa0 wb0 wa1 wa2 W (of_laid hL)).mono fun e W' ⟨he, hb⟩ => ?_
  subst he
  have hg : Below W.heap.size W W' := hb
  exact ⟨_, rfl, ⟨_, _, _, [], _, [], hW', (trodAll_cons_mk (shut_bool Tryz.underlying4 _) trodAll_mk0), (trodAll_cons_mk (sr0 _ _) (trodAll_cons_mk (shut_int Tryz.underlying3 wa1) (trodAll_cons_mk (shut_int Tryz.underlying3 wa2) trodAll_mk0))), rfl, hg.frame _, fun h => by cases h⟩⟩

theorem row_holds : Rows.FnExactWholeOfSaid :=
  OpenClaim.holds_of_wide 14 Tryz.f14 rfl rfl rfl rfl rfl rfl rfl ⟨rfl, rfl, rfl, rfl, rfl⟩ rfl rfl rfl rfl rfl (by kernel_rfl) Tryz.func14 (by show joinedFacts Tryz.prog _ _ _ _ = true; rw [joinedFacts, seat_enter, seat_lifts, seat_make]; kernel_rfl)
    (of_decide_eq_true (by kernel_rfl)) (by unfold Func.isWrapper; first | (rw [if_pos (by decide +kernel)]; kernel_rfl) | (rw [if_neg (by decide +kernel)]; exact ⟨rfl, rfl⟩))
    (fun os started H enc _ => lifted os started H enc)
/-- The given statement: the card. -/
theorem proved : Rows.FnExactWholeOfCardSaid :=
  Claim7.holds_tied_plain_at .later [] [.data, .data] true (true, "89f4fc5f2b6b3a38e79aff4b774866027c471f844f2c84470e56548127dcee06") true
    row_holds (fun _ h => by cases h) (by kernel_rfl) (fun _ h => by cases h) fnExactWholeOf_row_tie rfl ⟨rfl, rfl⟩ (by kernel_rfl) rfl
    (fun f fn hf hfn => by
      obtain rfl : f = 14 := Option.some.inj ((show Tryz.prog.funcNamed "loop.example/g01178/laws.FnExactWholeOf" = some 14 by kernel_rfl).symm.trans hf) |>.symm
      obtain rfl : fn = Tryz.f14 := (Option.some.inj (Tryz.func14.symm.trans hfn)).symm
      exact ⟨by kernel_rfl, fun j t ht => by
        rw [Tryz.params14] at ht
        have hm : t ∈ [23,3,3] := by simpa using Array.mem_of_getElem? ht
        have hall : ([23,3,3].all fun u => !Tryz.prog.wantsStandIn u) = true := by kernel_rfl
        exact (show Tryz.prog.wantsStandIn t = false by simpa using List.all_eq_true.1 hall t hm)⟩)
    (by kernel_rfl)
#print axioms proved
end Go.Proofs.YtfgbndjhaiigbaaGreatDoor.lWholeOf
