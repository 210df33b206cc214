/-
  The function ParseDyadic answers as its model at every argument; there are no conditions beside the tables and errors of the library as the row lists them.
-/
import Derived.Test.YtadhllmhlnfkgabDoorRows
import Derived.Test.YtadhllmhlnfkgabDoorPlain
import Derived.Test.YtadhllmhlnfkgabDoorBelow
import Derived.Test.YtadhllmhlnfkgabDoorNear
import Derived.Test.YtadhllmhlnfkgabDoorDy
import Derived.Test.YtadhllmhlnfkgabDoorDyC
import Derived.Test.YtadhllmhlnfkgabDoorWalkA
import Derived.Test.YtadhllmhlnfkgabDoorWalkDA
import Derived.Test.YtadhllmhlnfkgabDoorWalkTX5
import Derived.Test.YtadhllmhlnfkgabDoorTxE
import Derived.Test.YtadhllmhlnfkgabDoorLaid
import Derived.Test.YtadhllmhlnfkgabDoorSeatA
import Derived.Test.YtadhllmhlnfkgabDoorSeatB
import Derived.Test.YtadhllmhlnfkgabDoorSeatC
import Derived.WalkKit
import Derived.ProofKit
import Derived.OpenShut
import Derived.ChangeMaps5
import Derived.Lib.SmallJoins
import Derived.LaidMore
import Derived.Stop.Joined
import Derived.SevenTiedAt
import Derived.Test.YtadhllmhlnfkgabDoorCards
import Derived.Test.YtadhllmhlnfkgabDoorTie
namespace Go.Proofs.YtadhllmhlnfkgabDoor.lParseDyadic
open Go.ChangeShapes Go.WideShapes Go.ChangeAt Go.RowKit Go.Joins
set_option linter.unusedVariables false
set_option linter.unusedSimpArgs false

set_option maxHeartbeats 3200000 in
theorem walk (s : ByteArray) (w : World) (hT : TXE w) : Calls Tryd.prog 5 #[.string s] w fun rv w' => rv = .returned (.bool true) ∧ Ext w w' := by
  by_cases hs : s.size ≤ 1048576
  · have q : ¬ (1048576 : Int) < (s.size : Int) := by omega
    by_cases hy : ∃ n d, TxD s n d
    · obtain ⟨n, d, hy⟩ := hy
      have H1 := Lib.hid (fun w => sParse_yes s n d hy w)
      have H2 := Lib.hid (fun w hT => iParse_yes s hs n d hy w hT)
      clear hy
      go_enter Tryd.func5, Tryd.ntmps5
      go_wp2_with (first | (go_at_call 15; (with_reducible refine (H1.out _).mono ?_); rintro rv w1 ⟨rfl, hb⟩; have hx : Ext w w1 := hb; clear hb) | (go_at_call 16; (with_reducible refine (H2.out _ (hT.ext (by repeat (first | exact Ext.refl _ | with_reducible assumption | apply Ext.alloc | apply Ext.drew | apply Ext.drewN | (refine Ext.setRow ?_ (by first | (simp; done) | (simp; omega) | omega) _) | (refine Ext.setCell ?_ (by first | (simp; done) | (simp; omega) | omega) _) | (refine Ext.trans ?_ (by with_reducible assumption)))))).mono ?_); rintro rv w2 ⟨rfl, hb⟩; have a0 : w2.cell? ⟨w1.heap.size, 0, none⟩ = some (.int .i64 n) := (hb.cells _ _ (by simp)).trans (by first | with_reducible assumption | (simp [go_sem]; done) | (simp [go_sem, *]; done)); have a1 : w2.cell? ⟨w1.heap.size, 1, none⟩ = some (.int .i64 d) := (hb.cells _ _ (by simp)).trans (by first | with_reducible assumption | (simp [go_sem]; done) | (simp [go_sem, *]; done)); have al : w1.heap.size < w2.heap.size := hb.lt (by simp); have hx2 : Ext w w2 := Ext.trans (by repeat (first | exact Ext.refl _ | with_reducible assumption | apply Ext.alloc | apply Ext.drew | apply Ext.drewN | (refine Ext.setRow ?_ (by first | (simp; done) | (simp; omega) | omega) _) | (refine Ext.setCell ?_ (by first | (simp; done) | (simp; omega) | omega) _) | (refine Ext.trans ?_ (by with_reducible assumption)))) hb; clear hb hx; have hx := hx2; clear hx2) | (go_at_call 17; (with_reducible refine (eqDyadic_same n d _).mono ?_); rintro rv w3 ⟨rfl, hb⟩; have hx3 : Ext w w3 := Ext.trans (by repeat (first | exact Ext.refl _ | with_reducible assumption | apply Ext.alloc | apply Ext.drew | apply Ext.drewN | (refine Ext.setRow ?_ (by first | (simp; done) | (simp; omega) | omega) _) | (refine Ext.setCell ?_ (by first | (simp; done) | (simp; omega) | omega) _) | (refine Ext.trans ?_ (by with_reducible assumption)))) hb; clear hb))
      go_ret
      exact ⟨rfl, (by repeat (first | exact Ext.refl _ | with_reducible assumption | apply Ext.alloc | apply Ext.drew | apply Ext.drewN | (refine Ext.setRow ?_ (by first | (simp; done) | (simp; omega) | omega) _) | (refine Ext.setCell ?_ (by first | (simp; done) | (simp; omega) | omega) _) | (refine Ext.trans ?_ (by with_reducible assumption))))⟩
    · have hno : ∀ n d, ¬ TxD s n d := fun n d h => hy ⟨n, d, h⟩
      have H1 := Lib.hid (fun w => sParse_no s hs hno w)
      have H2 := Lib.hid (fun w hT => iParse_no s hs hno w hT)
      clear hy hno
      go_enter Tryd.func5, Tryd.ntmps5
      go_wp2_with (first | (go_at_call 15; (with_reducible refine (H1.out _).mono ?_); rintro rv w1 ⟨rfl, hb⟩; have hx : Ext w w1 := hb; clear hb) | (go_at_call 16; (with_reducible refine (H2.out _ (hT.ext (by repeat (first | exact Ext.refl _ | with_reducible assumption | apply Ext.alloc | apply Ext.drew | apply Ext.drewN | (refine Ext.setRow ?_ (by first | (simp; done) | (simp; omega) | omega) _) | (refine Ext.setCell ?_ (by first | (simp; done) | (simp; omega) | omega) _) | (refine Ext.trans ?_ (by with_reducible assumption)))))).mono ?_); rintro rv w2 ⟨rfl, hb⟩; have a0 : w2.cell? ⟨w1.heap.size, 0, none⟩ = some (.int .i64 0) := (hb.cells _ _ (by simp)).trans (by first | with_reducible assumption | (simp [go_sem]; done) | (simp [go_sem, *]; done)); have a1 : w2.cell? ⟨w1.heap.size, 1, none⟩ = some (.int .i64 0) := (hb.cells _ _ (by simp)).trans (by first | with_reducible assumption | (simp [go_sem]; done) | (simp [go_sem, *]; done)); have al : w1.heap.size < w2.heap.size := hb.lt (by simp); have hx2 : Ext w w2 := Ext.trans (by repeat (first | exact Ext.refl _ | with_reducible assumption | apply Ext.alloc | apply Ext.drew | apply Ext.drewN | (refine Ext.setRow ?_ (by first | (simp; done) | (simp; omega) | omega) _) | (refine Ext.setCell ?_ (by first | (simp; done) | (simp; omega) | omega) _) | (refine Ext.trans ?_ (by with_reducible assumption)))) hb; clear hb hx; have hx := hx2; clear hx2) | (go_at_call 17; (with_reducible refine (eqDyadic_same 0 0 _).mono ?_); rintro rv w3 ⟨rfl, hb⟩; have hx3 : Ext w w3 := Ext.trans (by repeat (first | exact Ext.refl _ | with_reducible assumption | apply Ext.alloc | apply Ext.drew | apply Ext.drewN | (refine Ext.setRow ?_ (by first | (simp; done) | (simp; omega) | omega) _) | (refine Ext.setCell ?_ (by first | (simp; done) | (simp; omega) | omega) _) | (refine Ext.trans ?_ (by with_reducible assumption)))) hb; clear hb))
      go_ret
      exact ⟨rfl, (by repeat (first | exact Ext.refl _ | with_reducible assumption | apply Ext.alloc | apply Ext.drew | apply Ext.drewN | (refine Ext.setRow ?_ (by first | (simp; done) | (simp; omega) | omega) _) | (refine Ext.setCell ?_ (by first | (simp; done) | (simp; omega) | omega) _) | (refine Ext.trans ?_ (by with_reducible assumption))))⟩
  · have q : (1048576 : Int) < (s.size : Int) := by omega
    go_enter Tryd.func5, Tryd.ntmps5
    go_wp2
    go_ret
    exact ⟨rfl, (by repeat (first | exact Ext.refl _ | with_reducible assumption | apply Ext.alloc | apply Ext.drew | apply Ext.drewN | (refine Ext.setRow ?_ (by first | (simp; done) | (simp; omega) | omega) _) | (refine Ext.setCell ?_ (by first | (simp; done) | (simp; omega) | omega) _) | (refine Ext.trans ?_ (by with_reducible assumption))))⟩

set_option maxRecDepth 100000 in
theorem lifted (os : Os) (started : os.Started) (H : Type) (enc : TypeId × Value → H) :
    ReturnsInHanded {} Tryd.checked os 5 .any (fun w args => (Rows.fnExactParseDyadicSpec.pre enc Tryd.prog Tryd.f5 [] false w args ∧ laidMetH Tryd.prog laidE w) ∧ sizedMet enc Tryd.prog Tryd.f5 (OpenSpec.ofChange Rows.fnExactParseDyadicSpec) false w args) (Rows.fnExactParseDyadicSpec.post enc Tryd.prog Tryd.f5 false true false false) := by
  refine returnsInHanded_of_calls own started (by kernel_rfl)
    (ChangeSpec.witness_shaped (enc := enc) (C := Tryd.checked) (os := os) (X := fun w _ => laidMetH Tryd.prog laidE w) false (World.doorLaid Tryd.prog 400 os) #[.string ⟨#[]⟩] 8 rfl (World.shaped_of_RefB (by kernel_rfl) (by kernel_rfl)) (by kernel_rfl) (by kernel_rfl) (by kernel_rfl) (door_metE os _)) ?_
  intro w0 tape i _ hsh0 _ hok hpre _
  obtain ⟨_, _, _, fn', hfn', _, _, _, _, hval0⟩ := hok
  obtain rfl := Option.some.inj (hfn'.symm.trans Tryd.func5)
  obtain ⟨⟨⟨ds, gs, before, hW0, _⟩, hX0⟩, _⟩ := hpre
  have hW := DataW.Whole.of_heap (w' := w0.forCall tape i) (by rfl) hW0
  have hL : laidMetH Tryd.prog laidE (w0.forCall tape i) := hX0.of_heap (by rfl)
  have hsh : (w0.forCall tape i).ShapedOpen Tryd.prog := hsh0
  suffices key : Calls Tryd.prog 5 i.args (w0.forCall tape i) fun e W' => ∃ v, e = .returned v ∧ Rows.fnExactParseDyadicSpec.post enc Tryd.prog Tryd.f5 false true false false (w0.forCall tape i) i.args v W' from
    key.mono fun e W' ⟨v, he, hp⟩ => by
      subst he
      exact ChangeSpec.post_blind hp
  generalize w0.forCall tape i = W at *
  generalize i.args = args at *
  have hval : ∀ (j : Nat) t v, Tryd.f5.params[j]? = some t → args[j]? = some v → Value.okWide Tryd.prog W .any w0.heap.size t v := hval0
  have hW' := hW
  obtain ⟨p, q, hA0, hV, rfl, hfz, hnd⟩ := hW
  have hA : DataW.TrodAll enc Tryd.prog W 0 (fun _ => true) true Tryd.f5.params.toList args.toList ds p := hA0
  rw [Tryd.params5] at hA hval
  obtain ⟨v0, vs0, d0, ds0, p0, q0, hargs, rfl, rfl, h0, r0⟩ := trodAll_cons hA
  obtain ⟨rfl, rfl, rfl⟩ := trodAll_nil r0
  obtain rfl : args = #[v0] := by cases args; simp_all
  obtain ⟨rfl, rfl⟩ := trodVars_none hV
  obtain ⟨a0, rfl, rfl, rfl, wa0⟩ := Go.ChangeMaps.open_string Tryd.underlying9 (hval 0 9 v0 rfl rfl) h0
  clear hA0 hval0
  simp only [List.append_nil] at hW'
  refine (walk a0 W (of_laidE hL hsh)).mono fun e W' ⟨he, hb⟩ => ?_
  subst he
  have hg : Below W.heap.size W W' := hb
  exact ⟨_, rfl, ⟨_, _, _, [], _, [], hW', (trodAll_cons_mk (shut_bool Tryd.underlying4 _) trodAll_mk0), (trodAll_cons_mk (Go.ChangeMaps.shut_string Tryd.underlying9 wa0) trodAll_mk0), rfl, hg.frame _, fun h => by cases h⟩⟩

theorem row_holds : Rows.FnExactParseDyadicSaid :=
  OpenClaim.holds_of_wide 5 Tryd.f5 rfl rfl rfl rfl rfl rfl rfl ⟨rfl, rfl, rfl, rfl, rfl⟩ rfl rfl rfl rfl rfl (by kernel_rfl) Tryd.func5 (by show joinedFacts Tryd.prog _ _ _ _ = true; rw [joinedFacts, seat_enter, seat_lifts, seat_make]; kernel_rfl)
    (of_decide_eq_true (by kernel_rfl)) (by unfold Func.isWrapper; first | (rw [if_pos (by decide +kernel)]; kernel_rfl) | (rw [if_neg (by decide +kernel)]; exact ⟨rfl, rfl⟩))
    (fun os started H enc _ => lifted os started H enc)
/-- The given statement: the card. -/
theorem proved : Rows.FnExactParseDyadicCardSaid :=
  Claim7.holds_tied_plain_at .later [] [.data, .data, .data, .sentinel, .sentinel] true (true, "b8c9a3d4c08bdda4e8d05c65dd656136019916632220c6b5c9275d608992316a") true
    row_holds (fun _ h => by cases h) (by kernel_rfl) (fun _ h => by cases h) fnExactParseDyadic_row_tie rfl ⟨rfl, rfl⟩ (by kernel_rfl) rfl
    (fun f fn hf hfn => by
      obtain rfl : f = 5 := Option.some.inj ((show Tryd.prog.funcNamed "loop.example/g01178/laws.FnExactParseDyadic" = some 5 by kernel_rfl).symm.trans hf) |>.symm
      obtain rfl : fn = Tryd.f5 := (Option.some.inj (Tryd.func5.symm.trans hfn)).symm
      exact ⟨by kernel_rfl, fun j t ht => by
        rw [Tryd.params5] at ht
        have hm : t ∈ [9] := by simpa using Array.mem_of_getElem? ht
        have hall : ([9].all fun u => !Tryd.prog.wantsStandIn u) = true := by kernel_rfl
        exact (show Tryd.prog.wantsStandIn t = false by simpa using List.all_eq_true.1 hall t hm)⟩)
    (by kernel_rfl)
#print axioms proved
end Go.Proofs.YtadhllmhlnfkgabDoor.lParseDyadic
