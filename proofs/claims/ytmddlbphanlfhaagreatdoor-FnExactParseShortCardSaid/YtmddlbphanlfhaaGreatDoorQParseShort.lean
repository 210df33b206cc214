/-
  The function ParseShort answers as its model at every argument; there are no conditions beside the tables and errors of the library as the row lists them.
-/
import Derived.Test.YtmddlbphanlfhaaGreatDoorRows
import Derived.Test.YtmddlbphanlfhaaGreatDoorKps1
import Derived.Test.YtmddlbphanlfhaaGreatDoorKps2
import Derived.Test.YtmddlbphanlfhaaGreatDoorKps3
import Derived.Test.YtmddlbphanlfhaaGreatDoorKps4
import Derived.Test.YtmddlbphanlfhaaGreatDoorKps5
import Derived.Test.YtmddlbphanlfhaaGreatDoorKps6
import Derived.Test.YtmddlbphanlfhaaGreatDoorKps7
import Derived.Test.YtmddlbphanlfhaaGreatDoorKps8
import Derived.Test.YtmddlbphanlfhaaGreatDoorKps9
import Derived.Test.YtmddlbphanlfhaaGreatDoorKps10
import Derived.Test.YtmddlbphanlfhaaGreatDoorKps11
import Derived.Test.YtmddlbphanlfhaaGreatDoorKps12
import Derived.Test.YtmddlbphanlfhaaGreatDoorKps13
import Derived.Test.YtmddlbphanlfhaaGreatDoorKps14
import Derived.Test.YtmddlbphanlfhaaGreatDoorKps15
import Derived.Test.YtmddlbphanlfhaaGreatDoorKps16
import Derived.Test.YtmddlbphanlfhaaGreatDoorKps17
import Derived.Test.YtmddlbphanlfhaaGreatDoorKps18
import Derived.Test.YtmddlbphanlfhaaGreatDoorKps19
import Derived.Test.YtmddlbphanlfhaaGreatDoorKps20
import Derived.Test.YtmddlbphanlfhaaGreatDoorKps21
import Derived.Test.YtmddlbphanlfhaaGreatDoorKps22
import Derived.Test.YtmddlbphanlfhaaGreatDoorKps23
import Derived.Test.YtmddlbphanlfhaaGreatDoorKps24
import Derived.Test.YtmddlbphanlfhaaGreatDoorKps25
import Derived.Test.YtmddlbphanlfhaaGreatDoorKps26
import Derived.Test.YtmddlbphanlfhaaGreatDoorKps27
import Derived.Test.YtmddlbphanlfhaaGreatDoorKps28
import Derived.Test.YtmddlbphanlfhaaGreatDoorKps29
import Derived.Test.YtmddlbphanlfhaaGreatDoorKps30
import Derived.Test.YtmddlbphanlfhaaGreatDoorKps31
import Derived.Test.YtmddlbphanlfhaaGreatDoorKps32
import Derived.Test.YtmddlbphanlfhaaGreatDoorKps33
import Derived.Test.YtmddlbphanlfhaaGreatDoorKps34
import Derived.Test.YtmddlbphanlfhaaGreatDoorKps35
import Derived.Test.YtmddlbphanlfhaaGreatDoorSeatA
import Derived.Test.YtmddlbphanlfhaaGreatDoorSeatB
import Derived.Test.YtmddlbphanlfhaaGreatDoorSeatC
import Derived.WalkKit
import Derived.ProofKit
import Derived.OpenShut
import Derived.ChangeMaps5
import Derived.Lib.SmallJoins
import Derived.LaidMore
import Derived.Stop.Joined
import Derived.SevenTiedAt
import Derived.Test.YtmddlbphanlfhaaGreatDoorCards
import Derived.Test.YtmddlbphanlfhaaGreatDoorTie
namespace Go.Proofs.YtmddlbphanlfhaaGreatDoor.lParseShort
open Go.ChangeShapes Go.WideShapes Go.ChangeAt Go.RowKit Go.Joins
set_option linter.unusedVariables false
set_option linter.unusedSimpArgs false

set_option maxHeartbeats 1600000 in
theorem walk (e f : Int) (s : ByteArray) (xe : (Lit.int .i64 e).wf = true) (xf : (Lit.int .i64 f).wf = true) (w : World) (hT : TPE w) : Calls Tryz.prog 3 #[fmt e f, .string s] w fun rv w' => rv = .returned (.bool true) ∧ Ext w w' := by
  by_cases hs : s.size ≤ 1048576
  · have q20 : ¬ (1048576 : Int) < (s.size : Int) := by omega
    obtain ⟨q, b, H1, H2⟩ := both_ps e f s hs
    clear hs
    go_enter Tryz.func3, Tryz.ntmps3
    go_wp2_with (first | (go_at_call 6; refine (toFormat_any e f _).mono ?_; rintro rv w1 ⟨rfl, hb⟩; have ns : w.heap.size < w1.heap.size := hb.ltK; have n0 : w1.cell? ⟨w.heap.size, 0, none⟩ = some (.int .i64 e) := hb.cellK; have n1 : w1.cell? ⟨w.heap.size, 1, none⟩ = some (.int .i64 f) := hb.cellK; (first | (have nx := hx.trK hb; clear hx) | have nx := hb); clear hb; try clear hs; try clear g0; try clear g1; have hx := nx; clear nx; have hs := ns; clear ns; have g0 := n0; clear n0; have g1 := n1; clear n1) | (go_at_call 5; (with_reducible refine (H1.out _).mono ?_); rintro rv w1 ⟨rfl, hb⟩; have ns : w.heap.size < w1.heap.size := hb.ltK; have n0 : w1.cell? ⟨w.heap.size, 0, none⟩ = some (.int .i64 e) := hb.cellK; have n1 : w1.cell? ⟨w.heap.size, 1, none⟩ = some (.int .i64 f) := hb.cellK; (first | (have nx := hx.trK hb; clear hx) | have nx := hb); clear hb; try clear hs; try clear g0; try clear g1; have hx := nx; clear nx; have hs := ns; clear ns; have g0 := n0; clear n0; have g1 := n1; clear n1) | (go_at_call 7; (with_reducible refine (H2.out _ (hT.ext Ext.auK)).mono ?_); rintro rv w1 ⟨rfl, hb⟩; have ns : w.heap.size < w1.heap.size := hb.ltK; have n0 : w1.cell? ⟨w.heap.size, 0, none⟩ = some (.int .i64 e) := hb.cellK; have n1 : w1.cell? ⟨w.heap.size, 1, none⟩ = some (.int .i64 f) := hb.cellK; (first | (have nx := hx.trK hb; clear hx) | have nx := hb); clear hb; try clear hs; try clear g0; try clear g1; have hx := nx; clear nx; have hs := ns; clear ns; have g0 := n0; clear n0; have g1 := n1; clear n1))
    go_ret
    exact ⟨rfl, Ext.auK⟩
  · have q20 : (1048576 : Int) < (s.size : Int) := by omega
    go_enter Tryz.func3, Tryz.ntmps3
    go_wp2_with fail
    go_ret
    exact ⟨rfl, Ext.auK⟩

set_option maxRecDepth 100000 in
theorem lifted (os : Os) (started : os.Started) (H : Type) (enc : TypeId × Value → H) :
    ReturnsInHanded {} Tryz.checked os 3 .any (fun w args => (Rows.fnExactParseShortSpec.pre enc Tryz.prog Tryz.f3 [] false w args ∧ laidMetH Tryz.prog laidP w) ∧ sizedMet enc Tryz.prog Tryz.f3 (OpenSpec.ofChange Rows.fnExactParseShortSpec) false w args) (Rows.fnExactParseShortSpec.post enc Tryz.prog Tryz.f3 false true false false) := by
  refine returnsInHanded_of_change_and (C := Tryz.checked) (X := fun w _ => laidMetH Tryz.prog laidP w) (fun _ _ _ hh h => h.of_heap hh) own started (by kernel_rfl) Tryz.func3
    (ChangeSpec.witness_shaped (enc := enc) (C := Tryz.checked) (os := os) (X := fun w _ => laidMetH Tryz.prog laidP w) false (doorP os) #[.agg #[.int .i64 0, .int .i64 0], .string ⟨#[]⟩] 8 rfl (World.shaped_of_RefB (by kernel_rfl) (by kernel_rfl)) (by kernel_rfl) (by kernel_rfl) (by kernel_rfl) (door_metP os _)) ?_
  intro W base args ds gs before hval0 hW _ _ hL _
  have hval : ∀ (j : Nat) t v, Tryz.f3.params[j]? = some t → args[j]? = some v → Value.okWide Tryz.prog W .any base t v := hval0
  have hW' := hW
  obtain ⟨p, q, hA0, hV, rfl, hfz, hnd⟩ := hW
  have hA : DataW.TrodAll enc Tryz.prog W 0 (fun _ => true) true Tryz.f3.params.toList args.toList ds p := hA0
  rw [Tryz.params3] at hA hval
  obtain ⟨v0, vs0, d0, ds0, p0, q0, hargs, rfl, rfl, h0, r0⟩ := trodAll_cons hA
  obtain ⟨v1, vs1, d1, ds1, p1, q1, rfl, rfl, rfl, h1, r1⟩ := trodAll_cons r0
  obtain ⟨rfl, rfl, rfl⟩ := trodAll_nil r1
  obtain rfl : args = #[v0, v1] := by cases args; simp_all
  obtain ⟨rfl, rfl⟩ := trodVars_none hV
  obtain ⟨c00, c01, y00, y01, m0, rfl, rfl, rfl, hy00, hy01⟩ := open_agg2 Tryz.underlying23 (by kernel_rfl) (by kernel_rfl) (hval 0 23 v0 rfl rfl) h0
  obtain ⟨a0, e00, rfl, wa0⟩ := DataW.trod_int Tryz.underlying3 hy00
  obtain ⟨b0, e01, rfl, wb0⟩ := DataW.trod_int Tryz.underlying3 hy01
  simp at e00 e01
  subst e00 e01
  obtain ⟨a1, rfl, rfl, rfl, wa1⟩ := Go.ChangeMaps.open_string Tryz.underlying9 (hval 1 9 v1 rfl rfl) h1
  clear hA0 hval0
  simp only [List.append_nil] at hW'
  have sr0 : ∀ (W' : World) (sp : Nat → Bool), DataW.Trod enc Tryz.prog W' 0 sp true 23 (.agg #[.int .i64 a0, .int .i64 b0]) (.agg [.lit (.int .i64 a0), .lit (.int .i64 b0)]) [] := fun W' sp =>
    shut_agg2 (y0 := (.lit (.int .i64 a0), [])) (y1 := (.lit (.int .i64 b0), [])) Tryz.underlying23 (by kernel_rfl) (by kernel_rfl) ⟨1, by simp [DataW.trod, Tryz.underlying3, wa0]⟩ ⟨1, by simp [DataW.trod, Tryz.underlying3, wb0]⟩
  refine (walk a0 b0 a1 wa0 wb0 W (of_laidP hL)).mono fun e W' ⟨he, hb⟩ => ?_
  subst he
  have hg : Below W.heap.size W W' := hb
  exact ⟨_, rfl, ⟨_, _, _, [], _, [], hW', (trodAll_cons_mk (shut_bool Tryz.underlying4 _) trodAll_mk0), (trodAll_cons_mk (sr0 _ _) (trodAll_cons_mk (Go.ChangeMaps.shut_string Tryz.underlying9 wa1) trodAll_mk0)), rfl, hg.frame _, fun h => by cases h⟩⟩
theorem jIn : (Rows.fnExactParseShortRow.inPlace == Tryz.prog.inPlace 3) = true := by kernel_rfl
theorem jUnf : (Rows.fnExactParseShortRow.unfollowed == Tryz.prog.unfollowed 3) = true := by kernel_rfl
theorem jRec : (Rows.fnExactParseShortRow.recurses == Tryz.prog.recurses 3) = true := by kernel_rfl
theorem jVar : (Rows.fnExactParseShortRow.named == Tryz.prog.varsNamed 3) = true := by kernel_rfl
theorem jJoined : joinedFacts Tryz.prog 3 Tryz.f3 Rows.fnExactParseShortSpec Rows.fnExactParseShortRow = true := by rw [joinedFacts, seat_enter, seat_lifts, seat_make, jIn, jUnf, jRec, jVar]; kernel_rfl
theorem jInst : Tryz.f3.isInstance Tryz.prog Rows.fnExactParseShortRow.origin Rows.fnExactParseShortRow.targs := of_decide_eq_true (by kernel_rfl)
theorem jWrap : Tryz.f3.isWrapper Tryz.prog Rows.fnExactParseShortRow.wrapper Rows.fnExactParseShortRow.mainSum := by unfold Func.isWrapper; first | (rw [if_pos (by decide +kernel)]; kernel_rfl) | (rw [if_neg (by decide +kernel)]; exact ⟨rfl, rfl⟩)
theorem jNamed : Tryz.prog.funcNamed Rows.fnExactParseShortRow.func = some 3 := by kernel_rfl


theorem row_holds : Rows.FnExactParseShortSaid :=
  OpenClaim.holds_of_wide 3 Tryz.f3 rfl rfl rfl rfl rfl rfl rfl ⟨rfl, rfl, rfl, rfl, rfl⟩ rfl rfl rfl rfl rfl jNamed Tryz.func3 jJoined
    jInst jWrap
    (fun os started H enc _ => lifted os started H enc)
theorem jText : OpenClaim.wfByText (OpenSpec.ofChange Rows.fnExactParseShortSpec) Rows.fnExactParseShortRow = true := by kernel_rfl
theorem jMain : Tryz.prog.mainIs = some (true, "f25258e4c59975aed88b5fb66c93ed112f6e749dee6921ef518a9f30b052191e".toList) := by kernel_rfl
theorem jLooks : true = Tryz.prog.looks [] := by kernel_rfl
theorem jGoes : false = Rows.fnExactParseShortRow.goesBy Tryz.prog := by kernel_rfl
theorem jStand : ([23,9].all fun u => !Tryz.prog.wantsStandIn u) = true := by kernel_rfl
theorem jFunc : Tryz.prog.funcNamed "loop.example/g01178/laws.FnExactParseShort" = some 3 := by kernel_rfl

/-- The given statement: the card. -/
theorem proved : Rows.FnExactParseShortCardSaid :=
  Claim7.holds_tied_plain_at .later [] [.data, .data, .data, .data, .sentinel, .sentinel, .pinned] true (true, "f25258e4c59975aed88b5fb66c93ed112f6e749dee6921ef518a9f30b052191e") true
    row_holds (fun _ h => by cases h) jText (fun _ h => by cases h) fnExactParseShort_row_tie rfl ⟨rfl, rfl⟩ jMain rfl
    (fun f fn hf hfn => by
      obtain rfl : f = 3 := Option.some.inj (jFunc.symm.trans hf) |>.symm
      obtain rfl : fn = Tryz.f3 := (Option.some.inj (Tryz.func3.symm.trans hfn)).symm
      exact ⟨jLooks, fun j t ht => by
        rw [Tryz.params3] at ht
        have hm : t ∈ [23,9] := by simpa using Array.mem_of_getElem? ht
        have hall : ([23,9].all fun u => !Tryz.prog.wantsStandIn u) = true := jStand
        exact (show Tryz.prog.wantsStandIn t = false by simpa using List.all_eq_true.1 hall t hm)⟩)
    jGoes
#print axioms proved
end Go.Proofs.YtmddlbphanlfhaaGreatDoor.lParseShort
