/-
  The function CutBlock answers as its model at every argument, and its answer owns its memory; there are no conditions.
-/
import Derived.Test.YtcpamgmaijjhoaaRows
import Derived.Test.YtcpamgmaijjhoaaKbm1
import Derived.Test.YtcpamgmaijjhoaaKbm2
import Derived.Test.YtcpamgmaijjhoaaKbm3
import Derived.Test.YtcpamgmaijjhoaaKbm4
import Derived.Test.YtcpamgmaijjhoaaKbm5
import Derived.Test.YtcpamgmaijjhoaaKbm6
import Derived.Test.YtcpamgmaijjhoaaKbm7
import Derived.Test.YtcpamgmaijjhoaaKbm8
import Derived.Test.YtcpamgmaijjhoaaKbm9
import Derived.WalkKit
import Derived.ProofKit
import Derived.OpenShut
import Derived.Lib.Hide
import Derived.ChangeSlices
import Derived.Carry
import Derived.Deep.RegionHeld3
import Derived.Lib.SmallJoins
namespace Go.Proofs.Ytcpamgmaijjhoaa.lCutBlock
open Go.ChangeShapes Go.WideShapes Go.ChangeAt Go.RowKit Go.Joins
set_option linter.unusedVariables false
set_option linter.unusedSimpArgs false

theorem cell_block {w : World} {p : Addr} {v : Value} (h : w.cell? p = some v) : p.block < w.heap.size := by
  by_cases hn : p.block < w.heap.size
  · exact hn
  · have e : w.heap[p.block]? = none := by simp; omega
    unfold World.cell? at h
    rw [e] at h
    simp at h

theorem laidOut : laidOutB Try.prog = true := by kernel_rfl
theorem cellsInt : Try.prog.cellsOf 3 = 1 := by kernel_rfl

theorem walk (e f P : Int) (p : Option Addr) (n cap : Nat) (V : Nat → Int) (a0 b0 : Int) (xe : (Lit.int .i64 e).wf = true) (xf : (Lit.int .i64 f).wf = true) (xP : (Lit.int .i64 P).wf = true) (xa0 : (Lit.int .i64 a0).wf = true) (xb0 : (Lit.int .i64 b0).wf = true) (w : World) (hold : HoldsL w p n V) (hmx : n ≤ maxLen) : Calls Try.prog 8 #[fmt e f, .agg #[.int .i64 P, .slice p n cap], .int .i64 a0, .int .i64 b0] w fun rv w' => rv = .returned (.bool true) ∧ Ext w w' :=
  wCutBlock e f P p n cap V a0 b0 w hold hmx

theorem own : ownKnob Try.prog.godebug = none := by kernel_rfl

set_option maxRecDepth 100000 in
theorem lifted (os : Os) (started : os.Started) (H : Type) (enc : TypeId × Value → H) :
    ReturnsInHanded {} Try.checked os 8 .any (Rows.fnExactCutBlockSpec.pre6 enc Try.prog Try.f8 Rows.fnExactCutBlockRow.domain false) (Rows.fnExactCutBlockSpec.post enc Try.prog Try.f8 false true false false) := by
  refine returnsInHanded_of_change (C := Try.checked) own started (by kernel_rfl) Try.func8
    (ChangeSpec.witness6 (enc := enc) (C := Try.checked) false ⟨#[], #[.agg #[.int .i64 0, .int .i64 0], .agg #[.int .i64 0, .slice none 0 0], .int .i64 0, .int .i64 0], []⟩ 8 (by kernel_rfl) (by kernel_rfl) (by kernel_rfl) (by kernel_rfl)) ?_
  intro W base args ds gs before hval0 hW hcnd _
  have hval : ∀ (j : Nat) t v, Try.f8.params[j]? = some t → args[j]? = some v → Value.okWide Try.prog W .any base t v := hval0
  have hW' := hW
  obtain ⟨p, q, hA0, hV, rfl, hfz, hnd⟩ := hW
  have hA : DataW.TrodAll enc Try.prog W 0 (fun _ => true) true Try.f8.params.toList args.toList ds p := hA0
  rw [Try.params8] at hA hval
  obtain ⟨v0, vs0, d0, ds0, p0, q0, hargs, rfl, rfl, h0, r0⟩ := trodAll_cons hA
  obtain ⟨v1, vs1, d1, ds1, p1, q1, rfl, rfl, rfl, h1, r1⟩ := trodAll_cons r0
  obtain ⟨v2, vs2, d2, ds2, p2, q2, rfl, rfl, rfl, h2, r2⟩ := trodAll_cons r1
  obtain ⟨v3, vs3, d3, ds3, p3, q3, rfl, rfl, rfl, h3, r3⟩ := trodAll_cons r2
  obtain ⟨rfl, rfl, rfl⟩ := trodAll_nil r3
  obtain rfl : args = #[v0, v1, v2, v3] := by cases args; simp_all
  obtain ⟨rfl, rfl⟩ := trodVars_none hV
  obtain ⟨c00, c01, y00, y01, m0, rfl, rfl, rfl, hy00, hy01⟩ := open_agg2 Try.underlying23 (by kernel_rfl) (by kernel_rfl) (hval 0 23 v0 rfl rfl) h0
  obtain ⟨a0, e00, rfl, wa0⟩ := DataW.trod_int Try.underlying3 hy00
  obtain ⟨b0, e01, rfl, wb0⟩ := DataW.trod_int Try.underlying3 hy01
  simp at e00 e01
  subst e00 e01
  have h1k := h1
  obtain ⟨c10, c11, y10, y11, m1, rfl, rfl, rfl, hy10, hy11⟩ := open_agg2 Try.underlying42 (by kernel_rfl) (by kernel_rfl) (hval 1 42 v1 rfl rfl) h1
  obtain ⟨a1, e10, rfl, wa1⟩ := DataW.trod_int Try.underlying3 hy10
  simp at e10
  subst e10
  obtain ⟨p1s, len1, cap1, V1, rfl, hold1, hmx1⟩ : ∃ (p : Option Addr) (len cap : Nat) (V : Nat → Int), c11 = .slice p len cap ∧ HoldsL W p len V ∧ len ≤ maxLen := by
    rcases open_ints Try.underlying40 Try.underlying3 cellsInt hy11 with ⟨hcs, hx⟩ | ⟨a, len', cap', zs, hcs, _, hl, hm, hz, hx, hcell, hwz⟩
    · simp at hcs
      subst hcs
      exact ⟨none, 0, 0, fun _ => 0, rfl, fun h => absurd h (by omega), Nat.zero_le _⟩
    · simp at hcs
      subst hcs
      simp only [if_true] at hz
      refine ⟨_, _, _, fun i => zs.getD i 0, rfl, fun h => ⟨a, rfl, ?_, fun i hi => hcell i (by omega)⟩, Nat.le_trans hl hm⟩
      have e0 := cell_block (hcell 0 (by omega))
      have e : (a.add 0).block = a.block := (by unfold Addr.add; split <;> rfl)
      rwa [e] at e0
  obtain ⟨a2, rfl, rfl, rfl, wa2⟩ := open_int Try.underlying3 (hval 2 3 v2 rfl rfl) h2
  obtain ⟨a3, rfl, rfl, rfl, wa3⟩ := open_int Try.underlying3 (hval 3 3 v3 rfl rfl) h3
  clear hA0 hval0
  simp only [List.append_nil, List.nil_append] at hW'
  have hlt1 : ∀ x ∈ y11.2, x.block < W.heap.size := fun x hx => hW'.lt x (by simp [hx])
  have sr0 : ∀ (W' : World) (sp : Nat → Bool), DataW.Trod enc Try.prog W' 0 sp true 23 (.agg #[.int .i64 a0, .int .i64 b0]) (.agg [.lit (.int .i64 a0), .lit (.int .i64 b0)]) [] := fun W' sp =>
    shut_agg2 (y0 := (.lit (.int .i64 a0), [])) (y1 := (.lit (.int .i64 b0), [])) Try.underlying23 (by kernel_rfl) (by kernel_rfl) ⟨1, by simp [DataW.trod, Try.underlying3, wa0]⟩ ⟨1, by simp [DataW.trod, Try.underlying3, wb0]⟩
  refine (walk a0 b0 a1 p1s len1 cap1 V1 a2 a3 wa0 wb0 wa1 wa2 wa3 W hold1 hmx1).mono fun e W' ⟨he, hb⟩ => ?_
  subst he
  have hg : Below W.heap.size W W' := hb
  exact ⟨_, rfl, ⟨_, _, _, [], _, [], hW', (trodAll_cons_mk (shut_bool Try.underlying4 _) trodAll_mk0), (trodAll_cons_mk (sr0 _ _) (trodAll_cons_mk (Below.trod laidOut (by kernel_rfl) (of_decide_eq_true (by kernel_rfl)) h1k hg (fun x hx => hlt1 x (by simpa using hx))) (trodAll_cons_mk (shut_int Try.underlying3 wa2) (trodAll_cons_mk (shut_int Try.underlying3 wa3) trodAll_mk0)))), rfl, hg.frame _, fun h => by cases h⟩⟩

/-- The given statement. -/
theorem proved : Rows.FnExactCutBlockSaid :=
  OpenClaim.holds_of_wide 8 Try.f8 rfl rfl rfl rfl rfl rfl rfl ⟨rfl, rfl, rfl, rfl, rfl⟩ rfl rfl rfl rfl rfl (by kernel_rfl) Try.func8 (by kernel_rfl)
    (of_decide_eq_true (by kernel_rfl)) (by unfold Func.isWrapper; first | (rw [if_pos (by decide +kernel)]; kernel_rfl) | (rw [if_neg (by decide +kernel)]; exact ⟨rfl, rfl⟩))
    (fun os started H enc _ => lifted os started H enc)
#print axioms proved
end Go.Proofs.Ytcpamgmaijjhoaa.lCutBlock
