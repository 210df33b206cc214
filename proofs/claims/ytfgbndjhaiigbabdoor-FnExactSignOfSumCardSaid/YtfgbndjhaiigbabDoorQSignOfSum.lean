/-
  The function SignOfSum answers as its model at every argument; there are no conditions beside the tables of the library as the row lists them.
-/
import Derived.Test.YtfgbndjhaiigbabDoorRows
import Derived.Test.YtfgbndjhaiigbabDoorSeatA
import Derived.Test.YtfgbndjhaiigbabDoorSeatB
import Derived.Test.YtfgbndjhaiigbabDoorSeatC
import Derived.Test.YtfgbndjhaiigbabDoorWSignOfSum
import Derived.Test.YtfgbndjhaiigbabDoorKyb1
import Derived.Test.YtfgbndjhaiigbabDoorKyb2
import Derived.Test.YtfgbndjhaiigbabDoorKyb3
import Derived.Test.YtfgbndjhaiigbabDoorKyb4
import Derived.Test.YtfgbndjhaiigbabDoorKyb5
import Derived.Test.YtfgbndjhaiigbabDoorKyb6
import Derived.Test.YtfgbndjhaiigbabDoorKyb7
import Derived.Test.YtfgbndjhaiigbabDoorKyb8
import Derived.Test.YtfgbndjhaiigbabDoorKyb9
import Derived.Test.YtfgbndjhaiigbabDoorKyb10
import Derived.Test.YtfgbndjhaiigbabDoorKyb11
import Derived.Test.YtfgbndjhaiigbabDoorKyb12
import Derived.Test.YtfgbndjhaiigbabDoorKyb13
import Derived.Test.YtfgbndjhaiigbabDoorKyb14
import Derived.Test.YtfgbndjhaiigbabDoorKyb15
import Derived.Test.YtfgbndjhaiigbabDoorKyb16
import Derived.Test.YtfgbndjhaiigbabDoorKyb17
import Derived.Test.YtfgbndjhaiigbabDoorKyb18
import Derived.Test.YtfgbndjhaiigbabDoorKyb19
import Derived.Test.YtfgbndjhaiigbabDoorKyb20
import Derived.Test.YtfgbndjhaiigbabDoorKyb21
import Derived.Test.YtfgbndjhaiigbabDoorKyb22
import Derived.Test.YtfgbndjhaiigbabDoorKyb23
import Derived.Test.YtfgbndjhaiigbabDoorKyb24
import Derived.Test.YtfgbndjhaiigbabDoorKyb25
import Derived.Test.YtfgbndjhaiigbabDoorKyb26
import Derived.Test.YtfgbndjhaiigbabDoorKyb27
import Derived.Test.YtfgbndjhaiigbabDoorKyb28
import Derived.Test.YtfgbndjhaiigbabDoorKyb29
import Derived.Test.YtfgbndjhaiigbabDoorKyb30
import Derived.Test.YtfgbndjhaiigbabDoorKyb31
import Derived.WalkKit
import Derived.ProofKit
import Derived.OpenShut
import Derived.Lib.Hide
import Derived.ChangeSlices
import Derived.Carry
import Derived.Lib.SmallJoins
import Derived.LaidMore
import Derived.Stop.Joined
import Derived.SevenTiedAt
import Derived.Test.YtfgbndjhaiigbabDoorCards
import Derived.Test.YtfgbndjhaiigbabDoorTie
namespace Go.Proofs.YtfgbndjhaiigbabDoor.lSignOfSum
open Go.ChangeShapes Go.WideShapes Go.ChangeAt Go.RowKit Go.Joins
set_option linter.unusedVariables false
set_option linter.unusedSimpArgs false

set_option maxRecDepth 100000 in
theorem lifted (os : Os) (started : os.Started) (H : Type) (enc : TypeId × Value → H) :
    ReturnsInHanded {} Tryd.checked os 6 .any (fun w args => (Rows.fnExactSignOfSumSpec.pre enc Tryd.prog Tryd.f6 [] false w args ∧ laidMetH Tryd.prog laidU w) ∧ sizedMet enc Tryd.prog Tryd.f6 (OpenSpec.ofChange Rows.fnExactSignOfSumSpec) false w args) (Rows.fnExactSignOfSumSpec.post enc Tryd.prog Tryd.f6 false true false false) := by
  refine returnsInHanded_of_change_and (C := Tryd.checked) (X := fun w _ => laidMetH Tryd.prog laidU w) (fun _ _ _ hh h => h.of_heap hh) own started (by kernel_rfl) Tryd.func6
    (ChangeSpec.witness_shaped (enc := enc) (C := Tryd.checked) (os := os) (X := fun w _ => laidMetH Tryd.prog laidU w) false (World.doorLaid Tryd.prog 400 os) #[.agg #[.int .i64 0, .int .i64 0], .slice none 0 0] 8 rfl (World.shaped_of_RefB (by kernel_rfl) (by kernel_rfl)) (by kernel_rfl) (by kernel_rfl) (by kernel_rfl) (door_met os _)) ?_
  intro W base args ds gs before hval0 hW _ _ hL _
  have hval : ∀ (j : Nat) t v, Tryd.f6.params[j]? = some t → args[j]? = some v → Value.okWide Tryd.prog W .any base t v := hval0
  have hW' := hW
  obtain ⟨p, q, hA0, hV, rfl, hfz, hnd⟩ := hW
  have hA : DataW.TrodAll enc Tryd.prog W 0 (fun _ => true) true Tryd.f6.params.toList args.toList ds p := hA0
  rw [Tryd.params6] at hA hval
  obtain ⟨v0, vs0, d0, ds0, p0, q0, hargs, rfl, rfl, h0, r0⟩ := trodAll_cons hA
  obtain ⟨v1, vs1, d1, ds1, p1, q1, rfl, rfl, rfl, h1, r1⟩ := trodAll_cons r0
  obtain ⟨rfl, rfl, rfl⟩ := trodAll_nil r1
  obtain rfl : args = #[v0, v1] := by cases args; simp_all
  obtain ⟨rfl, rfl⟩ := trodVars_none hV
  obtain ⟨c00, c01, y00, y01, m0, rfl, rfl, rfl, hy00, hy01⟩ := open_agg2 Tryd.underlying23 (by kernel_rfl) (by kernel_rfl) (hval 0 23 v0 rfl rfl) h0
  obtain ⟨a0, e00, rfl, wa0⟩ := DataW.trod_int Tryd.underlying3 hy00
  obtain ⟨b0, e01, rfl, wb0⟩ := DataW.trod_int Tryd.underlying3 hy01
  simp at e00 e01
  subst e00 e01
  obtain ⟨a1, len1, cap1, rfl⟩ := okWide_slice Tryd.underlying29 (hval 1 29 v1 rfl rfl)
  have h1k := h1
  obtain ⟨fuel, hf⟩ := h1
  obtain ⟨V1, hold1⟩ : ∃ V, HoldsL W a1 len1 V := by
    rcases open_ints Tryd.underlying29 Tryd.underlying3 cellsInt hf with ⟨hcs, hx⟩ | ⟨a, len', cap', zs, hcs, _, hl, hm, hz, hx, hcell, hwz⟩
    · simp [Value.cells] at hcs
      obtain ⟨rfl, rfl, rfl⟩ := hcs
      exact ⟨fun _ => 0, fun h => absurd h (by omega)⟩
    · simp [Value.cells] at hcs
      obtain ⟨rfl, rfl, rfl⟩ := hcs
      simp only [if_true] at hz
      refine ⟨fun i => zs.getD i 0, fun h => ⟨a, rfl, ?_, fun i hi => hcell i (by omega)⟩⟩
      have e0 := cell_block (hcell 0 (by omega))
      have e : (a.add 0).block = a.block := (by unfold Addr.add; split <;> rfl)
      rwa [e] at e0
  clear hA0 hval0
  simp only [List.append_nil, List.nil_append] at hW'
  have hlt1 : ∀ x ∈ p1, x.block < W.heap.size := fun x hx => by simpa using hW'.lt x hx
  have sr0 : ∀ (W' : World) (sp : Nat → Bool), DataW.Trod enc Tryd.prog W' 0 sp true 23 (.agg #[.int .i64 a0, .int .i64 b0]) (.agg [.lit (.int .i64 a0), .lit (.int .i64 b0)]) [] := fun W' sp =>
    shut_agg2 (y0 := (.lit (.int .i64 a0), [])) (y1 := (.lit (.int .i64 b0), [])) Tryd.underlying23 (by kernel_rfl) (by kernel_rfl) ⟨1, by simp [DataW.trod, Tryd.underlying3, wa0]⟩ ⟨1, by simp [DataW.trod, Tryd.underlying3, wb0]⟩
  refine (walk a0 b0 a1 len1 cap1 V1 wa0 wb0 W (of_laid hL) hold1).mono fun e W' ⟨he, hb⟩ => ?_
  subst he
  have hg : Below W.heap.size W W' := hb
  exact ⟨_, rfl, ⟨_, _, _, [], _, [], hW', (trodAll_cons_mk (shut_bool Tryd.underlying4 _) trodAll_mk0), (trodAll_cons_mk (sr0 _ _) (trodAll_cons_mk (Below.trod laidOut (by kernel_rfl) (of_decide_eq_true (by kernel_rfl)) h1k hg hlt1) trodAll_mk0)), rfl, hg.frame _, fun h => by cases h⟩⟩

theorem row_holds : Rows.FnExactSignOfSumSaid :=
  OpenClaim.holds_of_wide 6 Tryd.f6 rfl rfl rfl rfl rfl rfl rfl ⟨rfl, rfl, rfl, rfl, rfl⟩ rfl rfl rfl rfl rfl (by kernel_rfl) Tryd.func6 (by show joinedFacts Tryd.prog _ _ _ _ = true; rw [joinedFacts, seat_enter, seat_lifts, seat_make]; kernel_rfl)
    (of_decide_eq_true (by kernel_rfl)) (by unfold Func.isWrapper; first | (rw [if_pos (by decide +kernel)]; kernel_rfl) | (rw [if_neg (by decide +kernel)]; exact ⟨rfl, rfl⟩))
    (fun os started H enc _ => lifted os started H enc)
/-- The given statement: the card. -/
theorem proved : Rows.FnExactSignOfSumCardSaid :=
  Claim7.holds_tied_plain_at .later [] [.data, .data] true (true, "aef92a8587f3df4e10c9708275132005f2cc86e9ec8278007632d45dce44bc34") true
    row_holds (fun _ h => by cases h) (by kernel_rfl) (fun _ h => by cases h) fnExactSignOfSum_row_tie rfl ⟨rfl, rfl⟩ (by kernel_rfl) rfl
    (fun f fn hf hfn => by
      obtain rfl : f = 6 := Option.some.inj ((show Tryd.prog.funcNamed "loop.example/g01178/laws.FnExactSignOfSum" = some 6 by kernel_rfl).symm.trans hf) |>.symm
      obtain rfl : fn = Tryd.f6 := (Option.some.inj (Tryd.func6.symm.trans hfn)).symm
      exact ⟨by kernel_rfl, fun j t ht => by
        rw [Tryd.params6] at ht
        have hm : t ∈ [23,29] := by simpa using Array.mem_of_getElem? ht
        have hall : ([23,29].all fun u => !Tryd.prog.wantsStandIn u) = true := by kernel_rfl
        exact (show Tryd.prog.wantsStandIn t = false by simpa using List.all_eq_true.1 hall t hm)⟩)
    (by kernel_rfl)
#print axioms proved
end Go.Proofs.YtfgbndjhaiigbabDoor.lSignOfSum
