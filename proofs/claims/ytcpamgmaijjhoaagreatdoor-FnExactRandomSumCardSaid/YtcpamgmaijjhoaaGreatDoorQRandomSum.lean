/-
  The function RandomSum answers as its model at every argument; there are no conditions beside the tables of the library as the row lists them.
-/
import Derived.Test.YtcpamgmaijjhoaaGreatDoorRows
import Derived.Test.YtcpamgmaijjhoaaGreatDoorKrs1
import Derived.Test.YtcpamgmaijjhoaaGreatDoorKrs2
import Derived.Test.YtcpamgmaijjhoaaGreatDoorKrs3
import Derived.Test.YtcpamgmaijjhoaaGreatDoorKrs4
import Derived.Test.YtcpamgmaijjhoaaGreatDoorKrs5
import Derived.Test.YtcpamgmaijjhoaaGreatDoorKrs6
import Derived.Test.YtcpamgmaijjhoaaGreatDoorKrs7
import Derived.Test.YtcpamgmaijjhoaaGreatDoorKrs8
import Derived.Test.YtcpamgmaijjhoaaGreatDoorKrs9
import Derived.Test.YtcpamgmaijjhoaaGreatDoorKrs10
import Derived.Test.YtcpamgmaijjhoaaGreatDoorKrs11
import Derived.Test.YtcpamgmaijjhoaaGreatDoorKrs12
import Derived.Test.YtcpamgmaijjhoaaGreatDoorKrs13
import Derived.Test.YtcpamgmaijjhoaaGreatDoorKrs14
import Derived.Test.YtcpamgmaijjhoaaGreatDoorKrs15
import Derived.Test.YtcpamgmaijjhoaaGreatDoorKrs16
import Derived.Test.YtcpamgmaijjhoaaGreatDoorKrs17
import Derived.Test.YtcpamgmaijjhoaaGreatDoorKrs18
import Derived.Test.YtcpamgmaijjhoaaGreatDoorKrs19
import Derived.Test.YtcpamgmaijjhoaaGreatDoorKrs20
import Derived.Test.YtcpamgmaijjhoaaGreatDoorKrs21
import Derived.Test.YtcpamgmaijjhoaaGreatDoorKrs22
import Derived.Test.YtcpamgmaijjhoaaGreatDoorKrs23
import Derived.Test.YtcpamgmaijjhoaaGreatDoorKrs24
import Derived.Test.YtcpamgmaijjhoaaGreatDoorKrs25
import Derived.Test.YtcpamgmaijjhoaaGreatDoorKrs26
import Derived.Test.YtcpamgmaijjhoaaGreatDoorKrs27
import Derived.Test.YtcpamgmaijjhoaaGreatDoorKrs28
import Derived.Test.YtcpamgmaijjhoaaGreatDoorKrs29
import Derived.Test.YtcpamgmaijjhoaaGreatDoorKrs30
import Derived.Test.YtcpamgmaijjhoaaGreatDoorKrs31
import Derived.Test.YtcpamgmaijjhoaaGreatDoorKrs32
import Derived.Test.YtcpamgmaijjhoaaGreatDoorKrs33
import Derived.WalkKit
import Derived.ProofKit
import Derived.OpenShut
import Derived.Lib.Hide
import Derived.ChangeSlices
import Derived.Carry
import Derived.Lib.SmallJoins
import Derived.LaidMore
import Derived.Stop.Joined
import Derived.SevenTiedAt
import Derived.Test.YtcpamgmaijjhoaaGreatDoorCards
import Derived.Test.YtcpamgmaijjhoaaGreatDoorTie
namespace Go.Proofs.YtcpamgmaijjhoaaGreatDoor.lRandomSum
open Go.ChangeShapes Go.WideShapes Go.ChangeAt Go.RowKit Go.Joins
set_option linter.unusedVariables false
set_option linter.unusedSimpArgs false

theorem cell_block {w : World} {p : Addr} {v : Value} (h : w.cell? p = some v) : p.block < w.heap.size := by
  by_cases hn : p.block < w.heap.size
  · exact hn
  · have e : w.heap[p.block]? = none := by simp; omega
    unfold World.cell? at h
    rw [e] at h
    simp at h

theorem laidOut : laidOutB Tryz.prog = true := by kernel_rfl
theorem cellsInt : Tryz.prog.cellsOf 3 = 1 := by kernel_rfl

theorem walk (e f a b c : Int) (p : Option Addr) (n cap : Nat) (V : Nat → Int) (xe : (Lit.int .i64 e).wf = true) (xf : (Lit.int .i64 f).wf = true) (xa : (Lit.int .i64 a).wf = true) (xb : (Lit.int .i64 b).wf = true) (xc : (Lit.int .i64 c).wf = true) (w : World) (hT : TW w) (hold : HoldsL w p n V) : Calls Tryz.prog 3 #[fmt e f, .int .i64 a, .int .i64 b, .int .i64 c, .slice p n cap] w fun rv w' => rv = .returned (.bool true) ∧ Ext w w' :=
  wRandomSum e f a b c p n cap V w hold hT

set_option maxRecDepth 100000 in
theorem lifted (os : Os) (started : os.Started) (H : Type) (enc : TypeId × Value → H) :
    ReturnsInHanded {} Tryz.checked os 3 .any (fun w args => (Rows.fnExactRandomSumSpec.pre enc Tryz.prog Tryz.f3 [] false w args ∧ laidMetH Tryz.prog laidU w) ∧ sizedMet enc Tryz.prog Tryz.f3 (OpenSpec.ofChange Rows.fnExactRandomSumSpec) false w args) (Rows.fnExactRandomSumSpec.post enc Tryz.prog Tryz.f3 false true false false) := by
  refine returnsInHanded_of_change_and (C := Tryz.checked) (X := fun w _ => laidMetH Tryz.prog laidU w) (fun _ _ _ hh h => h.of_heap hh) own started (by kernel_rfl) Tryz.func3
    (ChangeSpec.witness_shaped (enc := enc) (C := Tryz.checked) (os := os) (X := fun w _ => laidMetH Tryz.prog laidU w) false (World.doorLaid Tryz.prog 400 os) #[.agg #[.int .i64 0, .int .i64 0], .int .i64 0, .int .i64 0, .int .i64 0, .slice none 0 0] 8 rfl (World.shaped_of_RefB (by kernel_rfl) (by kernel_rfl)) (by kernel_rfl) (by kernel_rfl) (by kernel_rfl) (door_met os _)) ?_
  intro W base args ds gs before hval0 hW _ _ hL _
  have hval : ∀ (j : Nat) t v, Tryz.f3.params[j]? = some t → args[j]? = some v → Value.okWide Tryz.prog W .any base t v := hval0
  have hW' := hW
  obtain ⟨p, q, hA0, hV, rfl, hfz, hnd⟩ := hW
  have hA : DataW.TrodAll enc Tryz.prog W 0 (fun _ => true) true Tryz.f3.params.toList args.toList ds p := hA0
  rw [Tryz.params3] at hA hval
  obtain ⟨v0, vs0, d0, ds0, p0, q0, hargs, rfl, rfl, h0, r0⟩ := trodAll_cons hA
  obtain ⟨v1, vs1, d1, ds1, p1, q1, rfl, rfl, rfl, h1, r1⟩ := trodAll_cons r0
  obtain ⟨v2, vs2, d2, ds2, p2, q2, rfl, rfl, rfl, h2, r2⟩ := trodAll_cons r1
  obtain ⟨v3, vs3, d3, ds3, p3, q3, rfl, rfl, rfl, h3, r3⟩ := trodAll_cons r2
  obtain ⟨v4, vs4, d4, ds4, p4, q4, rfl, rfl, rfl, h4, r4⟩ := trodAll_cons r3
  obtain ⟨rfl, rfl, rfl⟩ := trodAll_nil r4
  obtain rfl : args = #[v0, v1, v2, v3, v4] := by cases args; simp_all
  obtain ⟨rfl, rfl⟩ := trodVars_none hV
  obtain ⟨c00, c01, y00, y01, m0, rfl, rfl, rfl, hy00, hy01⟩ := open_agg2 Tryz.underlying23 (by kernel_rfl) (by kernel_rfl) (hval 0 23 v0 rfl rfl) h0
  obtain ⟨a0, e00, rfl, wa0⟩ := DataW.trod_int Tryz.underlying3 hy00
  obtain ⟨b0, e01, rfl, wb0⟩ := DataW.trod_int Tryz.underlying3 hy01
  simp at e00 e01
  subst e00 e01
  obtain ⟨a1, rfl, rfl, rfl, wa1⟩ := open_int Tryz.underlying3 (hval 1 3 v1 rfl rfl) h1
  obtain ⟨a2, rfl, rfl, rfl, wa2⟩ := open_int Tryz.underlying3 (hval 2 3 v2 rfl rfl) h2
  obtain ⟨a3, rfl, rfl, rfl, wa3⟩ := open_int Tryz.underlying3 (hval 3 3 v3 rfl rfl) h3
  obtain ⟨a4, len4, cap4, rfl⟩ := okWide_slice Tryz.underlying24 (hval 4 24 v4 rfl rfl)
  have h4k := h4
  obtain ⟨fuel, hf⟩ := h4
  obtain ⟨V4, hold4⟩ : ∃ V, HoldsL W a4 len4 V := by
    rcases open_ints Tryz.underlying24 Tryz.underlying3 cellsInt hf with ⟨hcs, hx⟩ | ⟨a, len', cap', zs, hcs, _, hl, hm, hz, hx, hcell, hwz⟩
    · simp [Value.cells] at hcs
      obtain ⟨rfl, rfl, rfl⟩ := hcs
      exact ⟨fun _ => 0, fun h => absurd h (by omega)⟩
    · simp [Value.cells] at hcs
      obtain ⟨rfl, rfl, rfl⟩ := hcs
      simp only [if_true] at hz
      refine ⟨fun i => zs.getD i 0, fun h => ⟨a, rfl, ?_, fun i hi => hcell i (by omega)⟩⟩
      have e0 := cell_block (hcell 0 (by omega))
      have e : (a.add 0).block = a.block := (by unfold Addr.add; split <;> rfl)
      rwa [e] at e0
  clear hA0 hval0
  simp only [List.append_nil, List.nil_append] at hW'
  have hlt4 : ∀ x ∈ p4, x.block < W.heap.size := fun x hx => by simpa using hW'.lt x hx
  have sr0 : ∀ (W' : World) (sp : Nat → Bool), DataW.Trod enc Tryz.prog W' 0 sp true 23 (.agg #[.int .i64 a0, .int .i64 b0]) (.agg [.lit (.int .i64 a0), .lit (.int .i64 b0)]) [] := fun W' sp =>
    shut_agg2 (y0 := (.lit (.int .i64 a0), [])) (y1 := (.lit (.int .i64 b0), [])) Tryz.underlying23 (by kernel_rfl) (by kernel_rfl) ⟨1, by simp [DataW.trod, Tryz.underlying3, wa0]⟩ ⟨1, by simp [DataW.trod, Tryz.underlying3, wb0]⟩
  refine (walk a0 b0 a1 a2 a3 a4 len4 cap4 V4 wa0 wb0 wa1 wa2 wa3 W (of_laid hL) hold4).mono fun e W' ⟨he, hb⟩ => ?_
  subst he
  have hg : Below W.heap.size W W' := hb
  exact ⟨_, rfl, ⟨_, _, _, [], _, [], hW', (trodAll_cons_mk (shut_bool Tryz.underlying4 _) trodAll_mk0), (trodAll_cons_mk (sr0 _ _) (trodAll_cons_mk (shut_int Tryz.underlying3 wa1) (trodAll_cons_mk (shut_int Tryz.underlying3 wa2) (trodAll_cons_mk (shut_int Tryz.underlying3 wa3) (trodAll_cons_mk (Below.trod laidOut (by kernel_rfl) (of_decide_eq_true (by kernel_rfl)) h4k hg hlt4) trodAll_mk0))))), rfl, hg.frame _, fun h => by cases h⟩⟩

theorem row_holds : Rows.FnExactRandomSumSaid :=
  OpenClaim.holds_of_wide 3 Tryz.f3 rfl rfl rfl rfl rfl rfl rfl ⟨rfl, rfl, rfl, rfl, rfl⟩ rfl rfl rfl rfl rfl (by kernel_rfl) Tryz.func3 (by kernel_rfl)
    (of_decide_eq_true (by kernel_rfl)) (by unfold Func.isWrapper; first | (rw [if_pos (by decide +kernel)]; kernel_rfl) | (rw [if_neg (by decide +kernel)]; exact ⟨rfl, rfl⟩))
    (fun os started H enc _ => lifted os started H enc)
/-- The given statement: the card. -/
theorem proved : Rows.FnExactRandomSumCardSaid :=
  Claim7.holds_tied_plain_at .later [] [.data, .data] true (true, "108417a9415b96954ee4f325c42cccdfbdc302537faaafa3023689409deb87c5") true
    row_holds (fun _ h => by cases h) (by kernel_rfl) (fun _ h => by cases h) fnExactRandomSum_row_tie rfl ⟨rfl, rfl⟩ (by kernel_rfl) rfl
    (fun f fn hf hfn => by
      obtain rfl : f = 3 := Option.some.inj ((show Tryz.prog.funcNamed "loop.example/g01178/laws.FnExactRandomSum" = some 3 by kernel_rfl).symm.trans hf) |>.symm
      obtain rfl : fn = Tryz.f3 := (Option.some.inj (Tryz.func3.symm.trans hfn)).symm
      exact ⟨by kernel_rfl, fun j t ht => by
        rw [Tryz.params3] at ht
        have hm : t ∈ [23,3,3,3,24] := by simpa using Array.mem_of_getElem? ht
        have hall : ([23,3,3,3,24].all fun u => !Tryz.prog.wantsStandIn u) = true := by kernel_rfl
        exact (show Tryz.prog.wantsStandIn t = false by simpa using List.all_eq_true.1 hall t hm)⟩)
    (by kernel_rfl)
#print axioms proved
end Go.Proofs.YtcpamgmaijjhoaaGreatDoor.lRandomSum
