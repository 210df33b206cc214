/-
  Contracts of the functions that the laws reach, and the plain facts that they rest on, each under the conditions that its line names; part 34.
-/
import Derived.Test.YtafkcgpfllloiaaGreatDoorKPL1
import Derived.Test.YtafkcgpfllloiaaGreatDoorKPL2
import Derived.Test.YtafkcgpfllloiaaGreatDoorKPL3
import Derived.Test.YtafkcgpfllloiaaGreatDoorKPL4
import Derived.Test.YtafkcgpfllloiaaGreatDoorKPL5
import Derived.Test.YtafkcgpfllloiaaGreatDoorKPL6
import Derived.Test.YtafkcgpfllloiaaGreatDoorKPL7
import Derived.Test.YtafkcgpfllloiaaGreatDoorKPL8
import Derived.Test.YtafkcgpfllloiaaGreatDoorKPL9
import Derived.Test.YtafkcgpfllloiaaGreatDoorKPL10
import Derived.Test.YtafkcgpfllloiaaGreatDoorKPL11
import Derived.Test.YtafkcgpfllloiaaGreatDoorKPL12
import Derived.Test.YtafkcgpfllloiaaGreatDoorKPL13
import Derived.Test.YtafkcgpfllloiaaGreatDoorKPL14
import Derived.Test.YtafkcgpfllloiaaGreatDoorKPL15
import Derived.Test.YtafkcgpfllloiaaGreatDoorKPL16
import Derived.Test.YtafkcgpfllloiaaGreatDoorKPL17
import Derived.Test.YtafkcgpfllloiaaGreatDoorKPL18
import Derived.Test.YtafkcgpfllloiaaGreatDoorKPL19
import Derived.Test.YtafkcgpfllloiaaGreatDoorKPL20
import Derived.Test.YtafkcgpfllloiaaGreatDoorKPL21
import Derived.Test.YtafkcgpfllloiaaGreatDoorKPL22
import Derived.Test.YtafkcgpfllloiaaGreatDoorKPL23
import Derived.Test.YtafkcgpfllloiaaGreatDoorKPL24
import Derived.Test.YtafkcgpfllloiaaGreatDoorKPL25
import Derived.Test.YtafkcgpfllloiaaGreatDoorKPL26
import Derived.Test.YtafkcgpfllloiaaGreatDoorKPL27
import Derived.Test.YtafkcgpfllloiaaGreatDoorKPL28
import Derived.Test.YtafkcgpfllloiaaGreatDoorKPL29
import Derived.Test.YtafkcgpfllloiaaGreatDoorKPL30
import Derived.Test.YtafkcgpfllloiaaGreatDoorKPL31
import Derived.Test.YtafkcgpfllloiaaGreatDoorKPL33
import Derived.Test.YtafkcgpfllloiaaGreatDoorRows
import Derived.WalkKit
import Derived.Handy
import Derived.LoopTactic
import Derived.LoopN
import Derived.Laws.OwnMore
import Derived.OwnWalk
import Derived.Deep.AppendLies
import Derived.Laws.Bits64b
import Derived.WalkSpells
import Derived.WalkLawsBesides
import Derived.StillTactics
import Derived.Laws.Pointers
import Derived.Deep.RegionHeld3
import Derived.Deep.QuietTactic
import Derived.BigQuiet
import Derived.Outline
import Derived.Lib.Hide
import Derived.RowKit3
import Derived.Carry
import Derived.IntWalk
import Derived.Laws.EntriesVeiled
namespace Go.Proofs.YtafkcgpfllloiaaGreatDoor
open Go Go.RowKit
set_option linter.unusedSimpArgs false
set_option linter.unusedVariables false
set_option maxRecDepth 100000

theorem iPlusOf_no (e f a b mode : Int) (hg : abB e f a b mode = false) (w : World) (hT : TW w) : Calls Tryz.prog 16 #[fmt e f, .int .i64 a, .int .i64 b, .int .i64 mode] w fun rv w' => rv = .returned (.tuple #[.int .i64 0, .bool false]) ∧ Ext w w' := by
  have hmf : ∀ (fn : Fn) (first cap : Array Value) (w : World), (Instr.makeFunc fn first cap).run Tryz.prog w = .ok (.func fn first cap) w := fun _ _ _ _ => rfl
  go_enter Tryz.func16, Tryz.ntmps16
  go_wp2_with (go_at_call 39; (with_reducible refine (ofTwo_bad e f a b mode _ hg _ (hT.ext (by repeat (first | exact Ext.refl _ | with_reducible assumption | apply Ext.alloc | apply Ext.drew | apply Ext.drewN | (refine Ext.setRow ?_ (by first | (simp; done) | (simp; omega) | omega) _) | (refine Ext.setCell ?_ (by first | (simp; done) | (simp; omega) | omega) _) | (refine Ext.trans ?_ (by with_reducible assumption)))))).mono ?_); rintro rv w1 ⟨rfl, hb⟩; have hx : Ext w w1 := Ext.trans (by repeat (first | exact Ext.refl _ | with_reducible assumption | apply Ext.alloc | apply Ext.drew | apply Ext.drewN | (refine Ext.setRow ?_ (by first | (simp; done) | (simp; omega) | omega) _) | (refine Ext.setCell ?_ (by first | (simp; done) | (simp; omega) | omega) _) | (refine Ext.trans ?_ (by with_reducible assumption)))) hb; clear hb)
  go_ret2
  exact ⟨rfl, hx⟩

theorem zs_01 {e f a b mode : Int} (ha : patB e f a = true) : (zsV e f a b mode) = 0 ∨ (zsV e f a b mode) = 1 := by
  have := sign_01 ha
  unfold zsV
  split
  · exact this
  · split <;> simp

theorem pl_neg {e f a b mode s : Int} (h : ((unitsV e f a) + (unitsV e f b)) < 0) (hq : RndD e f (-(4 * (unitsV e f a) + 4 * (unitsV e f b))) ((unV e f) - 2 - (unV e f)) mode ((1 : Int) == 1) s) : RndD e f ((((unitsV e f a) + (unitsV e f b))).natAbs : Int) 0 mode (decide (((unitsV e f a) + (unitsV e f b)) < 0)) s := by
  rw [decide_eq_true h]
  rw [show -(4 * (unitsV e f a) + 4 * (unitsV e f b)) = 4 * ((((unitsV e f a) + (unitsV e f b))).natAbs : Int) by omega, show (unV e f) - 2 - (unV e f) = -2 by omega] at hq
  exact rnd_four hq

theorem pl_pos {e f a b mode s : Int} (h : 0 < ((unitsV e f a) + (unitsV e f b))) (hq : RndD e f (4 * (unitsV e f a) + 4 * (unitsV e f b)) ((unV e f) - 2 - (unV e f)) mode ((0 : Int) == 1) s) : RndD e f ((((unitsV e f a) + (unitsV e f b))).natAbs : Int) 0 mode (decide (((unitsV e f a) + (unitsV e f b)) < 0)) s := by
  rw [decide_eq_false (show ¬ ((unitsV e f a) + (unitsV e f b)) < 0 by omega)]
  rw [show 4 * (unitsV e f a) + 4 * (unitsV e f b) = 4 * ((((unitsV e f a) + (unitsV e f b))).natAbs : Int) by omega, show (unV e f) - 2 - (unV e f) = -2 by omega] at hq
  exact rnd_four hq

theorem pls_zero {e f x mode s : Int} {neg : Bool} (hg : goodB e f = true) (hq : RndD e f 0 x mode neg s) : s = 0 :=
  rnd_one (good_iff.1 hg).2.2.1 (show (0 : Int) < pw 149 by have := pw_pos 149; omega) hq (rnd_null hg)

theorem iPlusOf_xx (e f a b mode : Int) (hg : abB e f a b mode = true) (ka : kindV e f a = 4) (fa : finB e f a = false) (na : numB e f a = false) (kb : kindV e f b = 4) (fb : finB e f b = false) (nb : numB e f b = false) (w : World) (hT : TW w) : Calls Tryz.prog 16 #[fmt e f, .int .i64 a, .int .i64 b, .int .i64 mode] w (ARboth (PlD e f a b mode) w) := by
  obtain ⟨hap, hbp, m0, m1⟩ := ab_iff.1 hg
  have hG := (pat_iff.1 hap).1
  have sga := sign_01 hap
  have sgb := sign_01 hbp
  have b1 := units_bd e f a hap
  have b2 := units_bd e f b hbp
  have u1 := un_bd hG
  have OC := Lib.hid (fun gF gM (w : World) (hT : TW w) q0 q1 q2 lF lM => ofTwoPlus_no e f a b mode gF gM hap hbp m0 m1 (fun w => by rw [op_no fa na, op_no fb nb]; exact plus_nn e f mode w) w hT q0 q1 q2 lF lM)
  have hmf : ∀ (fn : Fn) (first cap : Array Value) (w : World), (Instr.makeFunc fn first cap).run Tryz.prog w = .ok (.func fn first cap) w := fun _ _ _ _ => rfl
  clear b1 b2 u1
  go_enter Tryz.func16, Tryz.ntmps16
  go_wp2_with (go_at_call 39; (with_reducible refine (OC.out _ _ _ (hT.ext (by repeat (first | exact Ext.refl _ | with_reducible assumption | apply Ext.alloc | apply Ext.drew | apply Ext.drewN | (refine Ext.setRow ?_ (by first | (simp; done) | (simp; omega) | omega) _) | (refine Ext.setCell ?_ (by first | (simp; done) | (simp; omega) | omega) _) | (refine Ext.trans ?_ (by with_reducible assumption))))) (by first | with_reducible assumption | (simp; done) | (simp [go_sem]; done) | (simp [go_sem, *]; done)) (by first | with_reducible assumption | (simp; done) | (simp [go_sem]; done) | (simp [go_sem, *]; done)) (by first | with_reducible assumption | (simp; done) | (simp [go_sem]; done) | (simp [go_sem, *]; done)) (by simp; try omega) (by simp; try omega)).mono ?_); rintro rv w1 ⟨rfl, hb⟩; have hx : Ext w w1 := Ext.trans (by repeat (first | exact Ext.refl _ | with_reducible assumption | apply Ext.alloc | apply Ext.drew | apply Ext.drewN | (refine Ext.setRow ?_ (by first | (simp; done) | (simp; omega) | omega) _) | (refine Ext.setCell ?_ (by first | (simp; done) | (simp; omega) | omega) _) | (refine Ext.trans ?_ (by with_reducible assumption)))) hb; clear hb)
  go_ret2
  exact ⟨_, rfl, Or.inl ⟨by unfold pqP; omega, rfl⟩, hx⟩

theorem iPlusOf_xi (e f a b mode : Int) (hg : abB e f a b mode = true) (ka : kindV e f a = 4) (fa : finB e f a = false) (na : numB e f a = false) (kb : kindV e f b = 3) (fb : finB e f b = false) (nb : numB e f b = true) (w : World) (hT : TW w) : Calls Tryz.prog 16 #[fmt e f, .int .i64 a, .int .i64 b, .int .i64 mode] w (ARboth (PlD e f a b mode) w) := by
  obtain ⟨hap, hbp, m0, m1⟩ := ab_iff.1 hg
  have hG := (pat_iff.1 hap).1
  have sga := sign_01 hap
  have sgb := sign_01 hbp
  have b1 := units_bd e f a hap
  have b2 := units_bd e f b hbp
  have u1 := un_bd hG
  have OC := Lib.hid (fun gF gM (w : World) (hT : TW w) q0 q1 q2 lF lM => ofTwoPlus_no e f a b mode gF gM hap hbp m0 m1 (fun w => by rw [op_no fa na, op_inf fb nb]; exact plus_ni e f mode _ w) w hT q0 q1 q2 lF lM)
  have hmf : ∀ (fn : Fn) (first cap : Array Value) (w : World), (Instr.makeFunc fn first cap).run Tryz.prog w = .ok (.func fn first cap) w := fun _ _ _ _ => rfl
  clear b1 b2 u1
  go_enter Tryz.func16, Tryz.ntmps16
  go_wp2_with (go_at_call 39; (with_reducible refine (OC.out _ _ _ (hT.ext (by repeat (first | exact Ext.refl _ | with_reducible assumption | apply Ext.alloc | apply Ext.drew | apply Ext.drewN | (refine Ext.setRow ?_ (by first | (simp; done) | (simp; omega) | omega) _) | (refine Ext.setCell ?_ (by first | (simp; done) | (simp; omega) | omega) _) | (refine Ext.trans ?_ (by with_reducible assumption))))) (by first | with_reducible assumption | (simp; done) | (simp [go_sem]; done) | (simp [go_sem, *]; done)) (by first | with_reducible assumption | (simp; done) | (simp [go_sem]; done) | (simp [go_sem, *]; done)) (by first | with_reducible assumption | (simp; done) | (simp [go_sem]; done) | (simp [go_sem, *]; done)) (by simp; try omega) (by simp; try omega)).mono ?_); rintro rv w1 ⟨rfl, hb⟩; have hx : Ext w w1 := Ext.trans (by repeat (first | exact Ext.refl _ | with_reducible assumption | apply Ext.alloc | apply Ext.drew | apply Ext.drewN | (refine Ext.setRow ?_ (by first | (simp; done) | (simp; omega) | omega) _) | (refine Ext.setCell ?_ (by first | (simp; done) | (simp; omega) | omega) _) | (refine Ext.trans ?_ (by with_reducible assumption)))) hb; clear hb)
  go_ret2
  exact ⟨_, rfl, Or.inl ⟨by unfold pqP; omega, rfl⟩, hx⟩

theorem iPlusOf_xf (e f a b mode : Int) (hg : abB e f a b mode = true) (ka : kindV e f a = 4) (fa : finB e f a = false) (na : numB e f a = false) (kb : kindV e f b < 3) (fb : finB e f b = true) (w : World) (hT : TW w) : Calls Tryz.prog 16 #[fmt e f, .int .i64 a, .int .i64 b, .int .i64 mode] w (ARboth (PlD e f a b mode) w) := by
  obtain ⟨hap, hbp, m0, m1⟩ := ab_iff.1 hg
  have hG := (pat_iff.1 hap).1
  have sga := sign_01 hap
  have sgb := sign_01 hbp
  have b1 := units_bd e f a hap
  have b2 := units_bd e f b hbp
  have u1 := un_bd hG
  have OC := Lib.hid (fun gF gM (w : World) (hT : TW w) q0 q1 q2 lF lM => ofTwoPlus_no e f a b mode gF gM hap hbp m0 m1 (fun w => by rw [op_no fa na, op_fin fb]; exact plus_nf e f mode _ _ _ w) w hT q0 q1 q2 lF lM)
  have hmf : ∀ (fn : Fn) (first cap : Array Value) (w : World), (Instr.makeFunc fn first cap).run Tryz.prog w = .ok (.func fn first cap) w := fun _ _ _ _ => rfl
  clear b1 b2 u1
  go_enter Tryz.func16, Tryz.ntmps16
  go_wp2_with (go_at_call 39; (with_reducible refine (OC.out _ _ _ (hT.ext (by repeat (first | exact Ext.refl _ | with_reducible assumption | apply Ext.alloc | apply Ext.drew | apply Ext.drewN | (refine Ext.setRow ?_ (by first | (simp; done) | (simp; omega) | omega) _) | (refine Ext.setCell ?_ (by first | (simp; done) | (simp; omega) | omega) _) | (refine Ext.trans ?_ (by with_reducible assumption))))) (by first | with_reducible assumption | (simp; done) | (simp [go_sem]; done) | (simp [go_sem, *]; done)) (by first | with_reducible assumption | (simp; done) | (simp [go_sem]; done) | (simp [go_sem, *]; done)) (by first | with_reducible assumption | (simp; done) | (simp [go_sem]; done) | (simp [go_sem, *]; done)) (by simp; try omega) (by simp; try omega)).mono ?_); rintro rv w1 ⟨rfl, hb⟩; have hx : Ext w w1 := Ext.trans (by repeat (first | exact Ext.refl _ | with_reducible assumption | apply Ext.alloc | apply Ext.drew | apply Ext.drewN | (refine Ext.setRow ?_ (by first | (simp; done) | (simp; omega) | omega) _) | (refine Ext.setCell ?_ (by first | (simp; done) | (simp; omega) | omega) _) | (refine Ext.trans ?_ (by with_reducible assumption)))) hb; clear hb)
  go_ret2
  exact ⟨_, rfl, Or.inl ⟨by unfold pqP; omega, rfl⟩, hx⟩

theorem iPlusOf_ix (e f a b mode : Int) (hg : abB e f a b mode = true) (ka : kindV e f a = 3) (fa : finB e f a = false) (na : numB e f a = true) (kb : kindV e f b = 4) (fb : finB e f b = false) (nb : numB e f b = false) (w : World) (hT : TW w) : Calls Tryz.prog 16 #[fmt e f, .int .i64 a, .int .i64 b, .int .i64 mode] w (ARboth (PlD e f a b mode) w) := by
  obtain ⟨hap, hbp, m0, m1⟩ := ab_iff.1 hg
  have hG := (pat_iff.1 hap).1
  have sga := sign_01 hap
  have sgb := sign_01 hbp
  have b1 := units_bd e f a hap
  have b2 := units_bd e f b hbp
  have u1 := un_bd hG
  have OC := Lib.hid (fun gF gM (w : World) (hT : TW w) q0 q1 q2 lF lM => ofTwoPlus_no e f a b mode gF gM hap hbp m0 m1 (fun w => by rw [op_inf fa na, op_no fb nb]; exact plus_in e f mode _ w) w hT q0 q1 q2 lF lM)
  have hmf : ∀ (fn : Fn) (first cap : Array Value) (w : World), (Instr.makeFunc fn first cap).run Tryz.prog w = .ok (.func fn first cap) w := fun _ _ _ _ => rfl
  clear b1 b2 u1
  go_enter Tryz.func16, Tryz.ntmps16
  go_wp2_with (go_at_call 39; (with_reducible refine (OC.out _ _ _ (hT.ext (by repeat (first | exact Ext.refl _ | with_reducible assumption | apply Ext.alloc | apply Ext.drew | apply Ext.drewN | (refine Ext.setRow ?_ (by first | (simp; done) | (simp; omega) | omega) _) | (refine Ext.setCell ?_ (by first | (simp; done) | (simp; omega) | omega) _) | (refine Ext.trans ?_ (by with_reducible assumption))))) (by first | with_reducible assumption | (simp; done) | (simp [go_sem]; done) | (simp [go_sem, *]; done)) (by first | with_reducible assumption | (simp; done) | (simp [go_sem]; done) | (simp [go_sem, *]; done)) (by first | with_reducible assumption | (simp; done) | (simp [go_sem]; done) | (simp [go_sem, *]; done)) (by simp; try omega) (by simp; try omega)).mono ?_); rintro rv w1 ⟨rfl, hb⟩; have hx : Ext w w1 := Ext.trans (by repeat (first | exact Ext.refl _ | with_reducible assumption | apply Ext.alloc | apply Ext.drew | apply Ext.drewN | (refine Ext.setRow ?_ (by first | (simp; done) | (simp; omega) | omega) _) | (refine Ext.setCell ?_ (by first | (simp; done) | (simp; omega) | omega) _) | (refine Ext.trans ?_ (by with_reducible assumption)))) hb; clear hb)
  go_ret2
  exact ⟨_, rfl, Or.inl ⟨by unfold pqP; omega, rfl⟩, hx⟩

theorem iPlusOf_ii_t (e f a b mode : Int) (hg : abB e f a b mode = true) (ka : kindV e f a = 3) (fa : finB e f a = false) (na : numB e f a = true) (kb : kindV e f b = 3) (fb : finB e f b = false) (nb : numB e f b = true) (hs : (a / pw (e + f)) = (b / pw (e + f))) (w : World) (hT : TW w) : Calls Tryz.prog 16 #[fmt e f, .int .i64 a, .int .i64 b, .int .i64 mode] w (ARboth (PlD e f a b mode) w) := by
  obtain ⟨hap, hbp, m0, m1⟩ := ab_iff.1 hg
  have hG := (pat_iff.1 hap).1
  have sga := sign_01 hap
  have sgb := sign_01 hbp
  have b1 := units_bd e f a hap
  have b2 := units_bd e f b hbp
  have u1 := un_bd hG
  have OC := Lib.hid (fun gF gM (w : World) (hT : TW w) q0 q1 q2 lF lM => ofTwoPlus_inf e f a b mode (a / pw (e + f)) gF gM hap hbp m0 m1 sga (fun w => by rw [op_inf fa na, op_inf fb nb]; exact plus_ii_t e f mode _ _ hs w) w hT q0 q1 q2 lF lM)
  have hmf : ∀ (fn : Fn) (first cap : Array Value) (w : World), (Instr.makeFunc fn first cap).run Tryz.prog w = .ok (.func fn first cap) w := fun _ _ _ _ => rfl
  clear b1 b2 u1
  go_enter Tryz.func16, Tryz.ntmps16
  go_wp2_with (go_at_call 39; (with_reducible refine (OC.out _ _ _ (hT.ext (by repeat (first | exact Ext.refl _ | with_reducible assumption | apply Ext.alloc | apply Ext.drew | apply Ext.drewN | (refine Ext.setRow ?_ (by first | (simp; done) | (simp; omega) | omega) _) | (refine Ext.setCell ?_ (by first | (simp; done) | (simp; omega) | omega) _) | (refine Ext.trans ?_ (by with_reducible assumption))))) (by first | with_reducible assumption | (simp; done) | (simp [go_sem]; done) | (simp [go_sem, *]; done)) (by first | with_reducible assumption | (simp; done) | (simp [go_sem]; done) | (simp [go_sem, *]; done)) (by first | with_reducible assumption | (simp; done) | (simp [go_sem]; done) | (simp [go_sem, *]; done)) (by simp; try omega) (by simp; try omega)).mono ?_); rintro rv w1 ⟨rfl, hb⟩; have hx : Ext w w1 := Ext.trans (by repeat (first | exact Ext.refl _ | with_reducible assumption | apply Ext.alloc | apply Ext.drew | apply Ext.drewN | (refine Ext.setRow ?_ (by first | (simp; done) | (simp; omega) | omega) _) | (refine Ext.setCell ?_ (by first | (simp; done) | (simp; omega) | omega) _) | (refine Ext.trans ?_ (by with_reducible assumption)))) hb; clear hb)
  go_ret2
  exact ⟨_, rfl, Or.inr (Or.inl ⟨by unfold pqP; omega, ka, by first | exact inf_form hap ka | (rw [← hs]; exact inf_form hap ka)⟩), hx⟩

theorem iPlusOf_ii_f (e f a b mode : Int) (hg : abB e f a b mode = true) (ka : kindV e f a = 3) (fa : finB e f a = false) (na : numB e f a = true) (kb : kindV e f b = 3) (fb : finB e f b = false) (nb : numB e f b = true) (hs : ¬ (a / pw (e + f)) = (b / pw (e + f))) (w : World) (hT : TW w) : Calls Tryz.prog 16 #[fmt e f, .int .i64 a, .int .i64 b, .int .i64 mode] w (ARboth (PlD e f a b mode) w) := by
  obtain ⟨hap, hbp, m0, m1⟩ := ab_iff.1 hg
  have hG := (pat_iff.1 hap).1
  have sga := sign_01 hap
  have sgb := sign_01 hbp
  have b1 := units_bd e f a hap
  have b2 := units_bd e f b hbp
  have u1 := un_bd hG
  have OC := Lib.hid (fun gF gM (w : World) (hT : TW w) q0 q1 q2 lF lM => ofTwoPlus_no e f a b mode gF gM hap hbp m0 m1 (fun w => by rw [op_inf fa na, op_inf fb nb]; exact plus_ii_f e f mode _ _ hs w) w hT q0 q1 q2 lF lM)
  have hmf : ∀ (fn : Fn) (first cap : Array Value) (w : World), (Instr.makeFunc fn first cap).run Tryz.prog w = .ok (.func fn first cap) w := fun _ _ _ _ => rfl
  clear b1 b2 u1
  go_enter Tryz.func16, Tryz.ntmps16
  go_wp2_with (go_at_call 39; (with_reducible refine (OC.out _ _ _ (hT.ext (by repeat (first | exact Ext.refl _ | with_reducible assumption | apply Ext.alloc | apply Ext.drew | apply Ext.drewN | (refine Ext.setRow ?_ (by first | (simp; done) | (simp; omega) | omega) _) | (refine Ext.setCell ?_ (by first | (simp; done) | (simp; omega) | omega) _) | (refine Ext.trans ?_ (by with_reducible assumption))))) (by first | with_reducible assumption | (simp; done) | (simp [go_sem]; done) | (simp [go_sem, *]; done)) (by first | with_reducible assumption | (simp; done) | (simp [go_sem]; done) | (simp [go_sem, *]; done)) (by first | with_reducible assumption | (simp; done) | (simp [go_sem]; done) | (simp [go_sem, *]; done)) (by simp; try omega) (by simp; try omega)).mono ?_); rintro rv w1 ⟨rfl, hb⟩; have hx : Ext w w1 := Ext.trans (by repeat (first | exact Ext.refl _ | with_reducible assumption | apply Ext.alloc | apply Ext.drew | apply Ext.drewN | (refine Ext.setRow ?_ (by first | (simp; done) | (simp; omega) | omega) _) | (refine Ext.setCell ?_ (by first | (simp; done) | (simp; omega) | omega) _) | (refine Ext.trans ?_ (by with_reducible assumption)))) hb; clear hb)
  go_ret2
  exact ⟨_, rfl, Or.inl ⟨by unfold pqP; omega, rfl⟩, hx⟩

theorem iPlusOf_if (e f a b mode : Int) (hg : abB e f a b mode = true) (ka : kindV e f a = 3) (fa : finB e f a = false) (na : numB e f a = true) (kb : kindV e f b < 3) (fb : finB e f b = true) (w : World) (hT : TW w) : Calls Tryz.prog 16 #[fmt e f, .int .i64 a, .int .i64 b, .int .i64 mode] w (ARboth (PlD e f a b mode) w) := by
  obtain ⟨hap, hbp, m0, m1⟩ := ab_iff.1 hg
  have hG := (pat_iff.1 hap).1
  have sga := sign_01 hap
  have sgb := sign_01 hbp
  have b1 := units_bd e f a hap
  have b2 := units_bd e f b hbp
  have u1 := un_bd hG
  have OC := Lib.hid (fun gF gM (w : World) (hT : TW w) q0 q1 q2 lF lM => ofTwoPlus_inf e f a b mode (a / pw (e + f)) gF gM hap hbp m0 m1 sga (fun w => by rw [op_inf fa na, op_fin fb]; exact plus_if e f mode _ _ _ _ w) w hT q0 q1 q2 lF lM)
  have hmf : ∀ (fn : Fn) (first cap : Array Value) (w : World), (Instr.makeFunc fn first cap).run Tryz.prog w = .ok (.func fn first cap) w := fun _ _ _ _ => rfl
  clear b1 b2 u1
  go_enter Tryz.func16, Tryz.ntmps16
  go_wp2_with (go_at_call 39; (with_reducible refine (OC.out _ _ _ (hT.ext (by repeat (first | exact Ext.refl _ | with_reducible assumption | apply Ext.alloc | apply Ext.drew | apply Ext.drewN | (refine Ext.setRow ?_ (by first | (simp; done) | (simp; omega) | omega) _) | (refine Ext.setCell ?_ (by first | (simp; done) | (simp; omega) | omega) _) | (refine Ext.trans ?_ (by with_reducible assumption))))) (by first | with_reducible assumption | (simp; done) | (simp [go_sem]; done) | (simp [go_sem, *]; done)) (by first | with_reducible assumption | (simp; done) | (simp [go_sem]; done) | (simp [go_sem, *]; done)) (by first | with_reducible assumption | (simp; done) | (simp [go_sem]; done) | (simp [go_sem, *]; done)) (by simp; try omega) (by simp; try omega)).mono ?_); rintro rv w1 ⟨rfl, hb⟩; have hx : Ext w w1 := Ext.trans (by repeat (first | exact Ext.refl _ | with_reducible assumption | apply Ext.alloc | apply Ext.drew | apply Ext.drewN | (refine Ext.setRow ?_ (by first | (simp; done) | (simp; omega) | omega) _) | (refine Ext.setCell ?_ (by first | (simp; done) | (simp; omega) | omega) _) | (refine Ext.trans ?_ (by with_reducible assumption)))) hb; clear hb)
  go_ret2
  exact ⟨_, rfl, Or.inr (Or.inl ⟨by unfold pqP; omega, ka, by first | exact inf_form hap ka | (rw [← hs]; exact inf_form hap ka)⟩), hx⟩

theorem iPlusOf_fx (e f a b mode : Int) (hg : abB e f a b mode = true) (ka : kindV e f a < 3) (fa : finB e f a = true) (kb : kindV e f b = 4) (fb : finB e f b = false) (nb : numB e f b = false) (w : World) (hT : TW w) : Calls Tryz.prog 16 #[fmt e f, .int .i64 a, .int .i64 b, .int .i64 mode] w (ARboth (PlD e f a b mode) w) := by
  obtain ⟨hap, hbp, m0, m1⟩ := ab_iff.1 hg
  have hG := (pat_iff.1 hap).1
  have sga := sign_01 hap
  have sgb := sign_01 hbp
  have b1 := units_bd e f a hap
  have b2 := units_bd e f b hbp
  have u1 := un_bd hG
  have OC := Lib.hid (fun gF gM (w : World) (hT : TW w) q0 q1 q2 lF lM => ofTwoPlus_no e f a b mode gF gM hap hbp m0 m1 (fun w => by rw [op_fin fa, op_no fb nb]; exact plus_fn e f mode _ _ _ w) w hT q0 q1 q2 lF lM)
  have hmf : ∀ (fn : Fn) (first cap : Array Value) (w : World), (Instr.makeFunc fn first cap).run Tryz.prog w = .ok (.func fn first cap) w := fun _ _ _ _ => rfl
  clear b1 b2 u1
  go_enter Tryz.func16, Tryz.ntmps16
  go_wp2_with (go_at_call 39; (with_reducible refine (OC.out _ _ _ (hT.ext (by repeat (first | exact Ext.refl _ | with_reducible assumption | apply Ext.alloc | apply Ext.drew | apply Ext.drewN | (refine Ext.setRow ?_ (by first | (simp; done) | (simp; omega) | omega) _) | (refine Ext.setCell ?_ (by first | (simp; done) | (simp; omega) | omega) _) | (refine Ext.trans ?_ (by with_reducible assumption))))) (by first | with_reducible assumption | (simp; done) | (simp [go_sem]; done) | (simp [go_sem, *]; done)) (by first | with_reducible assumption | (simp; done) | (simp [go_sem]; done) | (simp [go_sem, *]; done)) (by first | with_reducible assumption | (simp; done) | (simp [go_sem]; done) | (simp [go_sem, *]; done)) (by simp; try omega) (by simp; try omega)).mono ?_); rintro rv w1 ⟨rfl, hb⟩; have hx : Ext w w1 := Ext.trans (by repeat (first | exact Ext.refl _ | with_reducible assumption | apply Ext.alloc | apply Ext.drew | apply Ext.drewN | (refine Ext.setRow ?_ (by first | (simp; done) | (simp; omega) | omega) _) | (refine Ext.setCell ?_ (by first | (simp; done) | (simp; omega) | omega) _) | (refine Ext.trans ?_ (by with_reducible assumption)))) hb; clear hb)
  go_ret2
  exact ⟨_, rfl, Or.inl ⟨by unfold pqP; omega, rfl⟩, hx⟩

theorem iPlusOf_fi (e f a b mode : Int) (hg : abB e f a b mode = true) (ka : kindV e f a < 3) (fa : finB e f a = true) (kb : kindV e f b = 3) (fb : finB e f b = false) (nb : numB e f b = true) (w : World) (hT : TW w) : Calls Tryz.prog 16 #[fmt e f, .int .i64 a, .int .i64 b, .int .i64 mode] w (ARboth (PlD e f a b mode) w) := by
  obtain ⟨hap, hbp, m0, m1⟩ := ab_iff.1 hg
  have hG := (pat_iff.1 hap).1
  have sga := sign_01 hap
  have sgb := sign_01 hbp
  have b1 := units_bd e f a hap
  have b2 := units_bd e f b hbp
  have u1 := un_bd hG
  have OC := Lib.hid (fun gF gM (w : World) (hT : TW w) q0 q1 q2 lF lM => ofTwoPlus_inf e f a b mode (b / pw (e + f)) gF gM hap hbp m0 m1 sgb (fun w => by rw [op_fin fa, op_inf fb nb]; exact plus_fi e f mode _ _ _ _ w) w hT q0 q1 q2 lF lM)
  have hmf : ∀ (fn : Fn) (first cap : Array Value) (w : World), (Instr.makeFunc fn first cap).run Tryz.prog w = .ok (.func fn first cap) w := fun _ _ _ _ => rfl
  clear b1 b2 u1
  go_enter Tryz.func16, Tryz.ntmps16
  go_wp2_with (go_at_call 39; (with_reducible refine (OC.out _ _ _ (hT.ext (by repeat (first | exact Ext.refl _ | with_reducible assumption | apply Ext.alloc | apply Ext.drew | apply Ext.drewN | (refine Ext.setRow ?_ (by first | (simp; done) | (simp; omega) | omega) _) | (refine Ext.setCell ?_ (by first | (simp; done) | (simp; omega) | omega) _) | (refine Ext.trans ?_ (by with_reducible assumption))))) (by first | with_reducible assumption | (simp; done) | (simp [go_sem]; done) | (simp [go_sem, *]; done)) (by first | with_reducible assumption | (simp; done) | (simp [go_sem]; done) | (simp [go_sem, *]; done)) (by first | with_reducible assumption | (simp; done) | (simp [go_sem]; done) | (simp [go_sem, *]; done)) (by simp; try omega) (by simp; try omega)).mono ?_); rintro rv w1 ⟨rfl, hb⟩; have hx : Ext w w1 := Ext.trans (by repeat (first | exact Ext.refl _ | with_reducible assumption | apply Ext.alloc | apply Ext.drew | apply Ext.drewN | (refine Ext.setRow ?_ (by first | (simp; done) | (simp; omega) | omega) _) | (refine Ext.setCell ?_ (by first | (simp; done) | (simp; omega) | omega) _) | (refine Ext.trans ?_ (by with_reducible assumption)))) hb; clear hb)
  go_ret2
  exact ⟨_, rfl, Or.inr (Or.inr (Or.inl ⟨by unfold pqP; omega, by omega, kb, inf_form hbp kb⟩)), hx⟩

theorem iPlusOf_ff_n (e f a b mode : Int) (hg : abB e f a b mode = true) (ka : kindV e f a < 3) (fa : finB e f a = true) (kb : kindV e f b < 3) (fb : finB e f b = true) (hs : ((unitsV e f a) + (unitsV e f b)) < 0) (w : World) (hT : TW w) : Calls Tryz.prog 16 #[fmt e f, .int .i64 a, .int .i64 b, .int .i64 mode] w (ARboth (PlD e f a b mode) w) := by
  obtain ⟨hap, hbp, m0, m1⟩ := ab_iff.1 hg
  have hG := (pat_iff.1 hap).1
  have sga := sign_01 hap
  have sgb := sign_01 hbp
  have b1 := units_bd e f a hap
  have b2 := units_bd e f b hbp
  have u1 := un_bd hG
  have OC := Lib.hid (fun gF gM (w : World) (hT : TW w) q0 q1 q2 lF lM => ofTwoPlus_fin e f a b mode 1 (-(4 * (unitsV e f a) + 4 * (unitsV e f b))) ((unV e f) - 2) gF gM hap hbp m0 m1 (Or.inr rfl) (by omega) (by omega) (by omega) (by omega) (fun w => plusF_n e f a b mode hap hbp fa fb hs w) w hT q0 q1 q2 lF lM)
  have hmf : ∀ (fn : Fn) (first cap : Array Value) (w : World), (Instr.makeFunc fn first cap).run Tryz.prog w = .ok (.func fn first cap) w := fun _ _ _ _ => rfl
  clear b1 b2 u1
  go_enter Tryz.func16, Tryz.ntmps16
  go_wp2_with (go_at_call 39; (with_reducible refine (OC.out _ _ _ (hT.ext (by repeat (first | exact Ext.refl _ | with_reducible assumption | apply Ext.alloc | apply Ext.drew | apply Ext.drewN | (refine Ext.setRow ?_ (by first | (simp; done) | (simp; omega) | omega) _) | (refine Ext.setCell ?_ (by first | (simp; done) | (simp; omega) | omega) _) | (refine Ext.trans ?_ (by with_reducible assumption))))) (by first | with_reducible assumption | (simp; done) | (simp [go_sem]; done) | (simp [go_sem, *]; done)) (by first | with_reducible assumption | (simp; done) | (simp [go_sem]; done) | (simp [go_sem, *]; done)) (by first | with_reducible assumption | (simp; done) | (simp [go_sem]; done) | (simp [go_sem, *]; done)) (by simp; try omega) (by simp; try omega)).mono ?_); rintro rv w1 ⟨s, rfl, hq, hb⟩; have hx : Ext w w1 := Ext.trans (by repeat (first | exact Ext.refl _ | with_reducible assumption | apply Ext.alloc | apply Ext.drew | apply Ext.drewN | (refine Ext.setRow ?_ (by first | (simp; done) | (simp; omega) | omega) _) | (refine Ext.setCell ?_ (by first | (simp; done) | (simp; omega) | omega) _) | (refine Ext.trans ?_ (by with_reducible assumption)))) hb; clear hb)
  go_ret2
  exact ⟨_, rfl, Or.inr (Or.inr (Or.inr (Or.inr ⟨ka, kb, by omega, s, by unfold sgP; rw [if_pos hs]; omega, pl_neg hs hq⟩))), hx⟩

theorem iPlusOf_ff_z (e f a b mode : Int) (hg : abB e f a b mode = true) (ka : kindV e f a < 3) (fa : finB e f a = true) (kb : kindV e f b < 3) (fb : finB e f b = true) (hs : ((unitsV e f a) + (unitsV e f b)) = 0) (w : World) (hT : TW w) : Calls Tryz.prog 16 #[fmt e f, .int .i64 a, .int .i64 b, .int .i64 mode] w (ARboth (PlD e f a b mode) w) := by
  obtain ⟨hap, hbp, m0, m1⟩ := ab_iff.1 hg
  have hG := (pat_iff.1 hap).1
  have sga := sign_01 hap
  have sgb := sign_01 hbp
  have b1 := units_bd e f a hap
  have b2 := units_bd e f b hbp
  have u1 := un_bd hG
  have OC := Lib.hid (fun gF gM (w : World) (hT : TW w) q0 q1 q2 lF lM => ofTwoPlus_fin e f a b mode (zsV e f a b mode) 0 0 gF gM hap hbp m0 m1 (zs_01 hap) (by omega) (by omega) (by omega) (by omega) (fun w => plusF_z e f a b mode hap hbp fa fb hs w) w hT q0 q1 q2 lF lM)
  have hmf : ∀ (fn : Fn) (first cap : Array Value) (w : World), (Instr.makeFunc fn first cap).run Tryz.prog w = .ok (.func fn first cap) w := fun _ _ _ _ => rfl
  clear b1 b2 u1
  go_enter Tryz.func16, Tryz.ntmps16
  go_wp2_with (go_at_call 39; (with_reducible refine (OC.out _ _ _ (hT.ext (by repeat (first | exact Ext.refl _ | with_reducible assumption | apply Ext.alloc | apply Ext.drew | apply Ext.drewN | (refine Ext.setRow ?_ (by first | (simp; done) | (simp; omega) | omega) _) | (refine Ext.setCell ?_ (by first | (simp; done) | (simp; omega) | omega) _) | (refine Ext.trans ?_ (by with_reducible assumption))))) (by first | with_reducible assumption | (simp; done) | (simp [go_sem]; done) | (simp [go_sem, *]; done)) (by first | with_reducible assumption | (simp; done) | (simp [go_sem]; done) | (simp [go_sem, *]; done)) (by first | with_reducible assumption | (simp; done) | (simp [go_sem]; done) | (simp [go_sem, *]; done)) (by simp; try omega) (by simp; try omega)).mono ?_); rintro rv w1 ⟨s, rfl, hq, hb⟩; have hx : Ext w w1 := Ext.trans (by repeat (first | exact Ext.refl _ | with_reducible assumption | apply Ext.alloc | apply Ext.drew | apply Ext.drewN | (refine Ext.setRow ?_ (by first | (simp; done) | (simp; omega) | omega) _) | (refine Ext.setCell ?_ (by first | (simp; done) | (simp; omega) | omega) _) | (refine Ext.trans ?_ (by with_reducible assumption)))) hb; clear hb)
  go_ret2
  exact ⟨_, rfl, Or.inr (Or.inr (Or.inr (Or.inl ⟨ka, kb, hs, by rw [pls_zero hG hq, Int.zero_add]⟩))), hx⟩

theorem iPlusOf_ff_p (e f a b mode : Int) (hg : abB e f a b mode = true) (ka : kindV e f a < 3) (fa : finB e f a = true) (kb : kindV e f b < 3) (fb : finB e f b = true) (hs : 0 < ((unitsV e f a) + (unitsV e f b))) (w : World) (hT : TW w) : Calls Tryz.prog 16 #[fmt e f, .int .i64 a, .int .i64 b, .int .i64 mode] w (ARboth (PlD e f a b mode) w) := by
  obtain ⟨hap, hbp, m0, m1⟩ := ab_iff.1 hg
  have hG := (pat_iff.1 hap).1
  have sga := sign_01 hap
  have sgb := sign_01 hbp
  have b1 := units_bd e f a hap
  have b2 := units_bd e f b hbp
  have u1 := un_bd hG
  have OC := Lib.hid (fun gF gM (w : World) (hT : TW w) q0 q1 q2 lF lM => ofTwoPlus_fin e f a b mode 0 (4 * (unitsV e f a) + 4 * (unitsV e f b)) ((unV e f) - 2) gF gM hap hbp m0 m1 (Or.inl rfl) (by omega) (by omega) (by omega) (by omega) (fun w => plusF_p e f a b mode hap hbp fa fb hs w) w hT q0 q1 q2 lF lM)
  have hmf : ∀ (fn : Fn) (first cap : Array Value) (w : World), (Instr.makeFunc fn first cap).run Tryz.prog w = .ok (.func fn first cap) w := fun _ _ _ _ => rfl
  clear b1 b2 u1
  go_enter Tryz.func16, Tryz.ntmps16
  go_wp2_with (go_at_call 39; (with_reducible refine (OC.out _ _ _ (hT.ext (by repeat (first | exact Ext.refl _ | with_reducible assumption | apply Ext.alloc | apply Ext.drew | apply Ext.drewN | (refine Ext.setRow ?_ (by first | (simp; done) | (simp; omega) | omega) _) | (refine Ext.setCell ?_ (by first | (simp; done) | (simp; omega) | omega) _) | (refine Ext.trans ?_ (by with_reducible assumption))))) (by first | with_reducible assumption | (simp; done) | (simp [go_sem]; done) | (simp [go_sem, *]; done)) (by first | with_reducible assumption | (simp; done) | (simp [go_sem]; done) | (simp [go_sem, *]; done)) (by first | with_reducible assumption | (simp; done) | (simp [go_sem]; done) | (simp [go_sem, *]; done)) (by simp; try omega) (by simp; try omega)).mono ?_); rintro rv w1 ⟨s, rfl, hq, hb⟩; have hx : Ext w w1 := Ext.trans (by repeat (first | exact Ext.refl _ | with_reducible assumption | apply Ext.alloc | apply Ext.drew | apply Ext.drewN | (refine Ext.setRow ?_ (by first | (simp; done) | (simp; omega) | omega) _) | (refine Ext.setCell ?_ (by first | (simp; done) | (simp; omega) | omega) _) | (refine Ext.trans ?_ (by with_reducible assumption)))) hb; clear hb)
  go_ret2
  exact ⟨_, rfl, Or.inr (Or.inr (Or.inr (Or.inr ⟨ka, kb, by omega, s, by unfold sgP; rw [if_neg (show ¬ ((unitsV e f a) + (unitsV e f b)) < 0 by omega)]; try omega, pl_pos hs hq⟩))), hx⟩

theorem iPlusOf_yes (e f a b mode : Int) (hg : abB e f a b mode = true) (w : World) (hT : TW w) : Calls Tryz.prog 16 #[fmt e f, .int .i64 a, .int .i64 b, .int .i64 mode] w (ARboth (PlD e f a b mode) w) := by
  obtain ⟨hap, hbp, _, _⟩ := ab_iff.1 hg
  have key : ∀ p, patB e f p = true → (kindV e f p = 4 ∧ finB e f p = false ∧ numB e f p = false) ∨ (kindV e f p = 3 ∧ finB e f p = false ∧ numB e f p = true) ∨ (kindV e f p < 3 ∧ finB e f p = true) := by
    intro p hp
    rcases kind_parts hp with h | h | ⟨h, h2, _⟩ | ⟨h, h2, _⟩
    · exact Or.inl h
    · exact Or.inr (Or.inl h)
    · exact Or.inr (Or.inr ⟨by omega, h2⟩)
    · exact Or.inr (Or.inr ⟨by omega, h2⟩)
  rcases key a hap with ⟨ka, fa, na⟩ | ⟨ka, fa, na⟩ | ⟨ka, fa⟩
  · rcases key b hbp with ⟨kb, fb, nb⟩ | ⟨kb, fb, nb⟩ | ⟨kb, fb⟩
    · exact iPlusOf_xx e f a b mode hg ka fa na kb fb nb w hT
    · exact iPlusOf_xi e f a b mode hg ka fa na kb fb nb w hT
    · exact iPlusOf_xf e f a b mode hg ka fa na kb fb w hT
  · rcases key b hbp with ⟨kb, fb, nb⟩ | ⟨kb, fb, nb⟩ | ⟨kb, fb⟩
    · exact iPlusOf_ix e f a b mode hg ka fa na kb fb nb w hT
    · by_cases h : (a / pw (e + f)) = (b / pw (e + f))
      · exact iPlusOf_ii_t e f a b mode hg ka fa na kb fb nb h w hT
      · exact iPlusOf_ii_f e f a b mode hg ka fa na kb fb nb h w hT
    · exact iPlusOf_if e f a b mode hg ka fa na kb fb w hT
  · rcases key b hbp with ⟨kb, fb, nb⟩ | ⟨kb, fb, nb⟩ | ⟨kb, fb⟩
    · exact iPlusOf_fx e f a b mode hg ka fa kb fb nb w hT
    · exact iPlusOf_fi e f a b mode hg ka fa kb fb nb w hT
    · rcases Int.lt_trichotomy ((unitsV e f a) + (unitsV e f b)) 0 with h | h | h
      · exact iPlusOf_ff_n e f a b mode hg ka fa kb fb h w hT
      · exact iPlusOf_ff_z e f a b mode hg ka fa kb fb h w hT
      · exact iPlusOf_ff_p e f a b mode hg ka fa kb fb h w hT
end Go.Proofs.YtafkcgpfllloiaaGreatDoor

namespace Go.Proofs.YtafkcgpfllloiaaGreatDoor
open Go Go.RowKit
set_option linter.unusedSimpArgs false
set_option linter.unusedVariables false
set_option maxRecDepth 100000

/-- What a difference is. -/
def LeD (e f a b mode r : Int) : Prop := PlD e f a (negV e f b) mode r

theorem le_one {e f a b mode r r2 : Int} (hg : goodB e f = true) (h : LeD e f a b mode r) (h2 : LeD e f a b mode r2) : r = r2 := pl_one hg h h2

theorem ab_neg {e f a b mode : Int} (hb : patB e f b = true) : abB e f a (negV e f b) mode = abB e f a b mode := by
  unfold abB
  rw [(neg_fact e f b hb).1, hb]

theorem sLessOf_no (e f a b mode : Int) (hg : abB e f a b mode = false) (w : World) : Calls Tryz.prog 17 #[fmt e f, .int .i64 a, .int .i64 b, .int .i64 mode] w fun rv w' => rv = .returned (.tuple #[.int .i64 0, .bool false]) ∧ Ext w w' := by
  go_enter Tryz.func17, Tryz.ntmps17
  go_wp2_with (go_at_call 37; refine (arAsked_any e f a b mode _).mono ?_; rintro rv w1 ⟨rfl, hb⟩; have ns : w.heap.size < w1.heap.size := hb.lt (by first | with_reducible assumption | omega | (simp; done) | (simp; omega)); have n0 : w1.cell? ⟨w.heap.size, 0, none⟩ = some (.int .i64 e) := (hb.cells _ _ (by first | with_reducible assumption | omega | (simp; done) | (simp; omega))).trans (by first | with_reducible assumption | (simp; done) | (simp; with_reducible assumption) | (rw [cell_alloc_before _ _ _ _ (by omega)]; with_reducible assumption) | (simp [go_sem, *]; done)); have n1 : w1.cell? ⟨w.heap.size, 1, none⟩ = some (.int .i64 f) := (hb.cells _ _ (by first | with_reducible assumption | omega | (simp; done) | (simp; omega))).trans (by first | with_reducible assumption | (simp; done) | (simp; with_reducible assumption) | (rw [cell_alloc_before _ _ _ _ (by omega)]; with_reducible assumption) | (simp [go_sem, *]; done)); (first | (have nx := Ext.trans hx hb; clear hx) | (have nx := Ext.trans (hx.alloc _) hb; clear hx) | (have nx := Ext.trans hx.drew hb; clear hx) | have nx := hb); clear hb; try clear hs; try clear g0; try clear g1; have hx := nx; clear nx; have hs := ns; clear ns; have g0 := n0; clear n0; have g1 := n1; clear n1)
  go_ret2
  exact ⟨rfl, (by repeat (first | exact Ext.refl _ | with_reducible assumption | apply Ext.alloc | apply Ext.drew | apply Ext.drewN | (refine Ext.setRow ?_ (by first | (simp; done) | (simp; omega) | omega) _) | (refine Ext.setCell ?_ (by first | (simp; done) | (simp; omega) | omega) _) | (refine Ext.trans ?_ (by with_reducible assumption))))⟩

theorem sLessOf_yes (e f a b mode : Int) (hg : abB e f a b mode = true) (w : World) : Calls Tryz.prog 17 #[fmt e f, .int .i64 a, .int .i64 b, .int .i64 mode] w (ARboth (LeD e f a b mode) w) := by
  obtain ⟨hap, hbp, m0, m1⟩ := ab_iff.1 hg
  go_enter Tryz.func17, Tryz.ntmps17
  go_wp2_with (first | (go_at_call 37; refine (arAsked_any e f a b mode _).mono ?_; rintro rv w1 ⟨rfl, hb⟩; have ns : w.heap.size < w1.heap.size := hb.lt (by first | with_reducible assumption | omega | (simp; done) | (simp; omega)); have n0 : w1.cell? ⟨w.heap.size, 0, none⟩ = some (.int .i64 e) := (hb.cells _ _ (by first | with_reducible assumption | omega | (simp; done) | (simp; omega))).trans (by first | with_reducible assumption | (simp; done) | (simp; with_reducible assumption) | (rw [cell_alloc_before _ _ _ _ (by omega)]; with_reducible assumption) | (simp [go_sem, *]; done)); have n1 : w1.cell? ⟨w.heap.size, 1, none⟩ = some (.int .i64 f) := (hb.cells _ _ (by first | with_reducible assumption | omega | (simp; done) | (simp; omega))).trans (by first | with_reducible assumption | (simp; done) | (simp; with_reducible assumption) | (rw [cell_alloc_before _ _ _ _ (by omega)]; with_reducible assumption) | (simp [go_sem, *]; done)); (first | (have nx := Ext.trans hx hb; clear hx) | (have nx := Ext.trans (hx.alloc _) hb; clear hx) | (have nx := Ext.trans hx.drew hb; clear hx) | have nx := hb); clear hb; try clear hs; try clear g0; try clear g1; have hx := nx; clear nx; have hs := ns; clear ns; have g0 := n0; clear n0; have g1 := n1; clear n1) | (go_at_call 42; refine (negateV_any e f b hbp _).mono ?_; rintro rv w1 ⟨rfl, hb⟩; have ns : w.heap.size < w1.heap.size := hb.lt (by first | with_reducible assumption | omega | (simp; done) | (simp; omega)); have n0 : w1.cell? ⟨w.heap.size, 0, none⟩ = some (.int .i64 e) := (hb.cells _ _ (by first | with_reducible assumption | omega | (simp; done) | (simp; omega))).trans (by first | with_reducible assumption | (simp; done) | (simp; with_reducible assumption) | (rw [cell_alloc_before _ _ _ _ (by omega)]; with_reducible assumption) | (simp [go_sem, *]; done)); have n1 : w1.cell? ⟨w.heap.size, 1, none⟩ = some (.int .i64 f) := (hb.cells _ _ (by first | with_reducible assumption | omega | (simp; done) | (simp; omega))).trans (by first | with_reducible assumption | (simp; done) | (simp; with_reducible assumption) | (rw [cell_alloc_before _ _ _ _ (by omega)]; with_reducible assumption) | (simp [go_sem, *]; done)); (first | (have nx := Ext.trans hx hb; clear hx) | (have nx := Ext.trans (hx.alloc _) hb; clear hx) | (have nx := Ext.trans hx.drew hb; clear hx) | have nx := hb); clear hb; try clear hs; try clear g0; try clear g1; have hx := nx; clear nx; have hs := ns; clear ns; have g0 := n0; clear n0; have g1 := n1; clear n1) | (go_at_call 38; refine (arPlus_any e f a (negV e f b) mode hap (neg_fact e f b hbp).1 m0 m1 _).mono ?_; rintro rv w1 ⟨r, rfl, hq, hb⟩; have HQ := Lib.hid hq; clear hq; have ns : w.heap.size < w1.heap.size := hb.lt (by first | with_reducible assumption | omega | (simp; done) | (simp; omega)); have n0 : w1.cell? ⟨w.heap.size, 0, none⟩ = some (.int .i64 e) := (hb.cells _ _ (by first | with_reducible assumption | omega | (simp; done) | (simp; omega))).trans (by first | with_reducible assumption | (simp; done) | (simp; with_reducible assumption) | (rw [cell_alloc_before _ _ _ _ (by omega)]; with_reducible assumption) | (simp [go_sem, *]; done)); have n1 : w1.cell? ⟨w.heap.size, 1, none⟩ = some (.int .i64 f) := (hb.cells _ _ (by first | with_reducible assumption | omega | (simp; done) | (simp; omega))).trans (by first | with_reducible assumption | (simp; done) | (simp; with_reducible assumption) | (rw [cell_alloc_before _ _ _ _ (by omega)]; with_reducible assumption) | (simp [go_sem, *]; done)); (first | (have nx := Ext.trans hx hb; clear hx) | (have nx := Ext.trans (hx.alloc _) hb; clear hx) | (have nx := Ext.trans hx.drew hb; clear hx) | have nx := hb); clear hb; try clear hs; try clear g0; try clear g1; have hx := nx; clear nx; have hs := ns; clear ns; have g0 := n0; clear n0; have g1 := n1; clear n1))
  try (go_region_held3 (fun w' => w'.cell? ⟨w.heap.size, 0, none⟩ = some (.int .i64 e) ∧ w'.cell? ⟨w.heap.size, 1, none⟩ = some (.int .i64 f) ∧ w.heap.size < w'.heap.size) ((refine ⟨?_, ?_, ?_⟩ <;> first | with_reducible assumption | ((rw [cell_setRow_far _ _ _ _ _ (by omega)]); with_reducible assumption) | ((rw [setRow_size]); with_reducible assumption) | ((repeat rw [World.cell?_setCell_far _ _ _ _ (by simp)]); with_reducible assumption) | (simp; done) | (simp [World.setCell]; first | done | omega) | (simp [go_sem, World.cell?_alloc_past, World.cell?_setCell_far, *]; done))) ((first | (go_at_call 37; refine (arAsked_any e f a b mode _).mono ?_; rintro rv w1 ⟨rfl, hb⟩; have ns : w.heap.size < w1.heap.size := hb.lt (by first | with_reducible assumption | omega | (simp; done) | (simp; omega)); have n0 : w1.cell? ⟨w.heap.size, 0, none⟩ = some (.int .i64 e) := (hb.cells _ _ (by first | with_reducible assumption | omega | (simp; done) | (simp; omega))).trans (by first | with_reducible assumption | (simp; done) | (simp; with_reducible assumption) | (rw [cell_alloc_before _ _ _ _ (by omega)]; with_reducible assumption) | (simp [go_sem, *]; done)); have n1 : w1.cell? ⟨w.heap.size, 1, none⟩ = some (.int .i64 f) := (hb.cells _ _ (by first | with_reducible assumption | omega | (simp; done) | (simp; omega))).trans (by first | with_reducible assumption | (simp; done) | (simp; with_reducible assumption) | (rw [cell_alloc_before _ _ _ _ (by omega)]; with_reducible assumption) | (simp [go_sem, *]; done)); (first | (have nx := Ext.trans hx hb; clear hx) | (have nx := Ext.trans (hx.alloc _) hb; clear hx) | (have nx := Ext.trans hx.drew hb; clear hx) | have nx := hb); clear hb; try clear hs; try clear g0; try clear g1; have hx := nx; clear nx; have hs := ns; clear ns; have g0 := n0; clear n0; have g1 := n1; clear n1) | (go_at_call 42; refine (negateV_any e f b hbp _).mono ?_; rintro rv w1 ⟨rfl, hb⟩; have ns : w.heap.size < w1.heap.size := hb.lt (by first | with_reducible assumption | omega | (simp; done) | (simp; omega)); have n0 : w1.cell? ⟨w.heap.size, 0, none⟩ = some (.int .i64 e) := (hb.cells _ _ (by first | with_reducible assumption | omega | (simp; done) | (simp; omega))).trans (by first | with_reducible assumption | (simp; done) | (simp; with_reducible assumption) | (rw [cell_alloc_before _ _ _ _ (by omega)]; with_reducible assumption) | (simp [go_sem, *]; done)); have n1 : w1.cell? ⟨w.heap.size, 1, none⟩ = some (.int .i64 f) := (hb.cells _ _ (by first | with_reducible assumption | omega | (simp; done) | (simp; omega))).trans (by first | with_reducible assumption | (simp; done) | (simp; with_reducible assumption) | (rw [cell_alloc_before _ _ _ _ (by omega)]; with_reducible assumption) | (simp [go_sem, *]; done)); (first | (have nx := Ext.trans hx hb; clear hx) | (have nx := Ext.trans (hx.alloc _) hb; clear hx) | (have nx := Ext.trans hx.drew hb; clear hx) | have nx := hb); clear hb; try clear hs; try clear g0; try clear g1; have hx := nx; clear nx; have hs := ns; clear ns; have g0 := n0; clear n0; have g1 := n1; clear n1) | (go_at_call 38; refine (arPlus_any e f a (negV e f b) mode hap (neg_fact e f b hbp).1 m0 m1 _).mono ?_; rintro rv w1 ⟨r, rfl, hq, hb⟩; have HQ := Lib.hid hq; clear hq; have ns : w.heap.size < w1.heap.size := hb.lt (by first | with_reducible assumption | omega | (simp; done) | (simp; omega)); have n0 : w1.cell? ⟨w.heap.size, 0, none⟩ = some (.int .i64 e) := (hb.cells _ _ (by first | with_reducible assumption | omega | (simp; done) | (simp; omega))).trans (by first | with_reducible assumption | (simp; done) | (simp; with_reducible assumption) | (rw [cell_alloc_before _ _ _ _ (by omega)]; with_reducible assumption) | (simp [go_sem, *]; done)); have n1 : w1.cell? ⟨w.heap.size, 1, none⟩ = some (.int .i64 f) := (hb.cells _ _ (by first | with_reducible assumption | omega | (simp; done) | (simp; omega))).trans (by first | with_reducible assumption | (simp; done) | (simp; with_reducible assumption) | (rw [cell_alloc_before _ _ _ _ (by omega)]; with_reducible assumption) | (simp [go_sem, *]; done)); (first | (have nx := Ext.trans hx hb; clear hx) | (have nx := Ext.trans (hx.alloc _) hb; clear hx) | (have nx := Ext.trans hx.drew hb; clear hx) | have nx := hb); clear hb; try clear hs; try clear g0; try clear g1; have hx := nx; clear nx; have hs := ns; clear ns; have g0 := n0; clear n0; have g1 := n1; clear n1))))
  try go_wp2_with (first | (go_at_call 37; refine (arAsked_any e f a b mode _).mono ?_; rintro rv w1 ⟨rfl, hb⟩; have ns : w.heap.size < w1.heap.size := hb.lt (by first | with_reducible assumption | omega | (simp; done) | (simp; omega)); have n0 : w1.cell? ⟨w.heap.size, 0, none⟩ = some (.int .i64 e) := (hb.cells _ _ (by first | with_reducible assumption | omega | (simp; done) | (simp; omega))).trans (by first | with_reducible assumption | (simp; done) | (simp; with_reducible assumption) | (rw [cell_alloc_before _ _ _ _ (by omega)]; with_reducible assumption) | (simp [go_sem, *]; done)); have n1 : w1.cell? ⟨w.heap.size, 1, none⟩ = some (.int .i64 f) := (hb.cells _ _ (by first | with_reducible assumption | omega | (simp; done) | (simp; omega))).trans (by first | with_reducible assumption | (simp; done) | (simp; with_reducible assumption) | (rw [cell_alloc_before _ _ _ _ (by omega)]; with_reducible assumption) | (simp [go_sem, *]; done)); (first | (have nx := Ext.trans hx hb; clear hx) | (have nx := Ext.trans (hx.alloc _) hb; clear hx) | (have nx := Ext.trans hx.drew hb; clear hx) | have nx := hb); clear hb; try clear hs; try clear g0; try clear g1; have hx := nx; clear nx; have hs := ns; clear ns; have g0 := n0; clear n0; have g1 := n1; clear n1) | (go_at_call 42; refine (negateV_any e f b hbp _).mono ?_; rintro rv w1 ⟨rfl, hb⟩; have ns : w.heap.size < w1.heap.size := hb.lt (by first | with_reducible assumption | omega | (simp; done) | (simp; omega)); have n0 : w1.cell? ⟨w.heap.size, 0, none⟩ = some (.int .i64 e) := (hb.cells _ _ (by first | with_reducible assumption | omega | (simp; done) | (simp; omega))).trans (by first | with_reducible assumption | (simp; done) | (simp; with_reducible assumption) | (rw [cell_alloc_before _ _ _ _ (by omega)]; with_reducible assumption) | (simp [go_sem, *]; done)); have n1 : w1.cell? ⟨w.heap.size, 1, none⟩ = some (.int .i64 f) := (hb.cells _ _ (by first | with_reducible assumption | omega | (simp; done) | (simp; omega))).trans (by first | with_reducible assumption | (simp; done) | (simp; with_reducible assumption) | (rw [cell_alloc_before _ _ _ _ (by omega)]; with_reducible assumption) | (simp [go_sem, *]; done)); (first | (have nx := Ext.trans hx hb; clear hx) | (have nx := Ext.trans (hx.alloc _) hb; clear hx) | (have nx := Ext.trans hx.drew hb; clear hx) | have nx := hb); clear hb; try clear hs; try clear g0; try clear g1; have hx := nx; clear nx; have hs := ns; clear ns; have g0 := n0; clear n0; have g1 := n1; clear n1) | (go_at_call 38; refine (arPlus_any e f a (negV e f b) mode hap (neg_fact e f b hbp).1 m0 m1 _).mono ?_; rintro rv w1 ⟨r, rfl, hq, hb⟩; have HQ := Lib.hid hq; clear hq; have ns : w.heap.size < w1.heap.size := hb.lt (by first | with_reducible assumption | omega | (simp; done) | (simp; omega)); have n0 : w1.cell? ⟨w.heap.size, 0, none⟩ = some (.int .i64 e) := (hb.cells _ _ (by first | with_reducible assumption | omega | (simp; done) | (simp; omega))).trans (by first | with_reducible assumption | (simp; done) | (simp; with_reducible assumption) | (rw [cell_alloc_before _ _ _ _ (by omega)]; with_reducible assumption) | (simp [go_sem, *]; done)); have n1 : w1.cell? ⟨w.heap.size, 1, none⟩ = some (.int .i64 f) := (hb.cells _ _ (by first | with_reducible assumption | omega | (simp; done) | (simp; omega))).trans (by first | with_reducible assumption | (simp; done) | (simp; with_reducible assumption) | (rw [cell_alloc_before _ _ _ _ (by omega)]; with_reducible assumption) | (simp [go_sem, *]; done)); (first | (have nx := Ext.trans hx hb; clear hx) | (have nx := Ext.trans (hx.alloc _) hb; clear hx) | (have nx := Ext.trans hx.drew hb; clear hx) | have nx := hb); clear hb; try clear hs; try clear g0; try clear g1; have hx := nx; clear nx; have hs := ns; clear ns; have g0 := n0; clear n0; have g1 := n1; clear n1))
  go_ret2
  exact ⟨r, rfl, HQ.out, (by repeat (first | exact Ext.refl _ | with_reducible assumption | apply Ext.alloc | apply Ext.drew | apply Ext.drewN | (refine Ext.setRow ?_ (by first | (simp; done) | (simp; omega) | omega) _) | (refine Ext.setCell ?_ (by first | (simp; done) | (simp; omega) | omega) _) | (refine Ext.trans ?_ (by with_reducible assumption))))⟩

theorem iLessOf_no (e f a b mode : Int) (hg : abB e f a b mode = false) (w : World) (hT : TW w) : Calls Tryz.prog 18 #[fmt e f, .int .i64 a, .int .i64 b, .int .i64 mode] w fun rv w' => rv = .returned (.tuple #[.int .i64 0, .bool false]) ∧ Ext w w' := by
  cases hbp : patB e f b
  · go_enter Tryz.func18, Tryz.ntmps18
    go_wp2_with (go_at_call 43; refine (iNegateOf_no e f b hbp _).mono ?_; rintro rv w1 ⟨rfl, hb⟩; have ns : w.heap.size < w1.heap.size := hb.lt (by first | with_reducible assumption | omega | (simp; done) | (simp; omega)); have n0 : w1.cell? ⟨w.heap.size, 0, none⟩ = some (.int .i64 e) := (hb.cells _ _ (by first | with_reducible assumption | omega | (simp; done) | (simp; omega))).trans (by first | with_reducible assumption | (simp; done) | (simp; with_reducible assumption) | (rw [cell_alloc_before _ _ _ _ (by omega)]; with_reducible assumption) | (simp [go_sem, *]; done)); have n1 : w1.cell? ⟨w.heap.size, 1, none⟩ = some (.int .i64 f) := (hb.cells _ _ (by first | with_reducible assumption | omega | (simp; done) | (simp; omega))).trans (by first | with_reducible assumption | (simp; done) | (simp; with_reducible assumption) | (rw [cell_alloc_before _ _ _ _ (by omega)]; with_reducible assumption) | (simp [go_sem, *]; done)); (first | (have nx := Ext.trans hx hb; clear hx) | (have nx := Ext.trans (hx.alloc _) hb; clear hx) | (have nx := Ext.trans hx.drew hb; clear hx) | have nx := hb); clear hb; try clear hs; try clear g0; try clear g1; have hx := nx; clear nx; have hs := ns; clear ns; have g0 := n0; clear n0; have g1 := n1; clear n1)
    go_ret2
    exact ⟨rfl, (by repeat (first | exact Ext.refl _ | with_reducible assumption | apply Ext.alloc | apply Ext.drew | apply Ext.drewN | (refine Ext.setRow ?_ (by first | (simp; done) | (simp; omega) | omega) _) | (refine Ext.setCell ?_ (by first | (simp; done) | (simp; omega) | omega) _) | (refine Ext.trans ?_ (by with_reducible assumption))))⟩
  · have hg2 : abB e f a (negV e f b) mode = false := by rw [ab_neg hbp]; exact hg
    go_enter Tryz.func18, Tryz.ntmps18
    go_wp2_with (first | (go_at_call 43; refine (iNegateV_any e f b hbp _).mono ?_; rintro rv w1 ⟨rfl, hb⟩; have ns : w.heap.size < w1.heap.size := hb.lt (by first | with_reducible assumption | omega | (simp; done) | (simp; omega)); have n0 : w1.cell? ⟨w.heap.size, 0, none⟩ = some (.int .i64 e) := (hb.cells _ _ (by first | with_reducible assumption | omega | (simp; done) | (simp; omega))).trans (by first | with_reducible assumption | (simp; done) | (simp; with_reducible assumption) | (rw [cell_alloc_before _ _ _ _ (by omega)]; with_reducible assumption) | (simp [go_sem, *]; done)); have n1 : w1.cell? ⟨w.heap.size, 1, none⟩ = some (.int .i64 f) := (hb.cells _ _ (by first | with_reducible assumption | omega | (simp; done) | (simp; omega))).trans (by first | with_reducible assumption | (simp; done) | (simp; with_reducible assumption) | (rw [cell_alloc_before _ _ _ _ (by omega)]; with_reducible assumption) | (simp [go_sem, *]; done)); (first | (have nx := Ext.trans hx hb; clear hx) | (have nx := Ext.trans (hx.alloc _) hb; clear hx) | (have nx := Ext.trans hx.drew hb; clear hx) | have nx := hb); clear hb; try clear hs; try clear g0; try clear g1; have hx := nx; clear nx; have hs := ns; clear ns; have g0 := n0; clear n0; have g1 := n1; clear n1) | (go_at_call 16; refine (iPlusOf_no e f a (negV e f b) mode hg2 _ (hT.ext (by repeat (first | exact Ext.refl _ | with_reducible assumption | apply Ext.alloc | apply Ext.drew | apply Ext.drewN | (refine Ext.setRow ?_ (by first | (simp; done) | (simp; omega) | omega) _) | (refine Ext.setCell ?_ (by first | (simp; done) | (simp; omega) | omega) _) | (refine Ext.trans ?_ (by with_reducible assumption)))))).mono ?_; rintro rv w1 ⟨rfl, hb⟩; have ns : w.heap.size < w1.heap.size := hb.lt (by first | with_reducible assumption | omega | (simp; done) | (simp; omega)); have n0 : w1.cell? ⟨w.heap.size, 0, none⟩ = some (.int .i64 e) := (hb.cells _ _ (by first | with_reducible assumption | omega | (simp; done) | (simp; omega))).trans (by first | with_reducible assumption | (simp; done) | (simp; with_reducible assumption) | (rw [cell_alloc_before _ _ _ _ (by omega)]; with_reducible assumption) | (simp [go_sem, *]; done)); have n1 : w1.cell? ⟨w.heap.size, 1, none⟩ = some (.int .i64 f) := (hb.cells _ _ (by first | with_reducible assumption | omega | (simp; done) | (simp; omega))).trans (by first | with_reducible assumption | (simp; done) | (simp; with_reducible assumption) | (rw [cell_alloc_before _ _ _ _ (by omega)]; with_reducible assumption) | (simp [go_sem, *]; done)); (first | (have nx := Ext.trans hx hb; clear hx) | (have nx := Ext.trans (hx.alloc _) hb; clear hx) | (have nx := Ext.trans hx.drew hb; clear hx) | have nx := hb); clear hb; try clear hs; try clear g0; try clear g1; have hx := nx; clear nx; have hs := ns; clear ns; have g0 := n0; clear n0; have g1 := n1; clear n1))
    go_ret2
    exact ⟨rfl, (by repeat (first | exact Ext.refl _ | with_reducible assumption | apply Ext.alloc | apply Ext.drew | apply Ext.drewN | (refine Ext.setRow ?_ (by first | (simp; done) | (simp; omega) | omega) _) | (refine Ext.setCell ?_ (by first | (simp; done) | (simp; omega) | omega) _) | (refine Ext.trans ?_ (by with_reducible assumption))))⟩

theorem iLessOf_yes (e f a b mode : Int) (hg : abB e f a b mode = true) (w : World) (hT : TW w) : Calls Tryz.prog 18 #[fmt e f, .int .i64 a, .int .i64 b, .int .i64 mode] w (ARboth (LeD e f a b mode) w) := by
  obtain ⟨hap, hbp, m0, m1⟩ := ab_iff.1 hg
  have hg2 : abB e f a (negV e f b) mode = true := by rw [ab_neg hbp]; exact hg
  go_enter Tryz.func18, Tryz.ntmps18
  go_wp2_with (first | (go_at_call 43; refine (iNegateV_any e f b hbp _).mono ?_; rintro rv w1 ⟨rfl, hb⟩; have ns : w.heap.size < w1.heap.size := hb.lt (by first | with_reducible assumption | omega | (simp; done) | (simp; omega)); have n0 : w1.cell? ⟨w.heap.size, 0, none⟩ = some (.int .i64 e) := (hb.cells _ _ (by first | with_reducible assumption | omega | (simp; done) | (simp; omega))).trans (by first | with_reducible assumption | (simp; done) | (simp; with_reducible assumption) | (rw [cell_alloc_before _ _ _ _ (by omega)]; with_reducible assumption) | (simp [go_sem, *]; done)); have n1 : w1.cell? ⟨w.heap.size, 1, none⟩ = some (.int .i64 f) := (hb.cells _ _ (by first | with_reducible assumption | omega | (simp; done) | (simp; omega))).trans (by first | with_reducible assumption | (simp; done) | (simp; with_reducible assumption) | (rw [cell_alloc_before _ _ _ _ (by omega)]; with_reducible assumption) | (simp [go_sem, *]; done)); (first | (have nx := Ext.trans hx hb; clear hx) | (have nx := Ext.trans (hx.alloc _) hb; clear hx) | (have nx := Ext.trans hx.drew hb; clear hx) | have nx := hb); clear hb; try clear hs; try clear g0; try clear g1; have hx := nx; clear nx; have hs := ns; clear ns; have g0 := n0; clear n0; have g1 := n1; clear n1) | (go_at_call 16; refine (iPlusOf_yes e f a (negV e f b) mode hg2 _ (hT.ext (by repeat (first | exact Ext.refl _ | with_reducible assumption | apply Ext.alloc | apply Ext.drew | apply Ext.drewN | (refine Ext.setRow ?_ (by first | (simp; done) | (simp; omega) | omega) _) | (refine Ext.setCell ?_ (by first | (simp; done) | (simp; omega) | omega) _) | (refine Ext.trans ?_ (by with_reducible assumption)))))).mono ?_; rintro rv w1 ⟨r, rfl, hq, hb⟩; have HQ := Lib.hid hq; clear hq; have ns : w.heap.size < w1.heap.size := hb.lt (by first | with_reducible assumption | omega | (simp; done) | (simp; omega)); have n0 : w1.cell? ⟨w.heap.size, 0, none⟩ = some (.int .i64 e) := (hb.cells _ _ (by first | with_reducible assumption | omega | (simp; done) | (simp; omega))).trans (by first | with_reducible assumption | (simp; done) | (simp; with_reducible assumption) | (rw [cell_alloc_before _ _ _ _ (by omega)]; with_reducible assumption) | (simp [go_sem, *]; done)); have n1 : w1.cell? ⟨w.heap.size, 1, none⟩ = some (.int .i64 f) := (hb.cells _ _ (by first | with_reducible assumption | omega | (simp; done) | (simp; omega))).trans (by first | with_reducible assumption | (simp; done) | (simp; with_reducible assumption) | (rw [cell_alloc_before _ _ _ _ (by omega)]; with_reducible assumption) | (simp [go_sem, *]; done)); (first | (have nx := Ext.trans hx hb; clear hx) | (have nx := Ext.trans (hx.alloc _) hb; clear hx) | (have nx := Ext.trans hx.drew hb; clear hx) | have nx := hb); clear hb; try clear hs; try clear g0; try clear g1; have hx := nx; clear nx; have hs := ns; clear ns; have g0 := n0; clear n0; have g1 := n1; clear n1))
  go_ret2
  exact ⟨r, rfl, HQ.out, (by repeat (first | exact Ext.refl _ | with_reducible assumption | apply Ext.alloc | apply Ext.drew | apply Ext.drewN | (refine Ext.setRow ?_ (by first | (simp; done) | (simp; omega) | omega) _) | (refine Ext.setCell ?_ (by first | (simp; done) | (simp; omega) | omega) _) | (refine Ext.trans ?_ (by with_reducible assumption))))⟩
end Go.Proofs.YtafkcgpfllloiaaGreatDoor

