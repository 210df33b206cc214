/-
  Contracts of the functions that the laws reach, and the plain facts that they rest on, each under the conditions that its line names; part 25.
-/
import Derived.Test.YtmddlbphanlfhaaGreatDoorKps1
import Derived.Test.YtmddlbphanlfhaaGreatDoorKps2
import Derived.Test.YtmddlbphanlfhaaGreatDoorKps3
import Derived.Test.YtmddlbphanlfhaaGreatDoorKps4
import Derived.Test.YtmddlbphanlfhaaGreatDoorKps5
import Derived.Test.YtmddlbphanlfhaaGreatDoorKps11
import Derived.Test.YtmddlbphanlfhaaGreatDoorKps12
import Derived.Test.YtmddlbphanlfhaaGreatDoorKps13
import Derived.Test.YtmddlbphanlfhaaGreatDoorKps14
import Derived.Test.YtmddlbphanlfhaaGreatDoorKps15
import Derived.Test.YtmddlbphanlfhaaGreatDoorKps18
import Derived.Test.YtmddlbphanlfhaaGreatDoorKps22
import Derived.Test.YtmddlbphanlfhaaGreatDoorRows
import Derived.WalkKit
import Derived.LoopTactic
import Derived.Laws.Bits64b
import Derived.WalkSpells
import Derived.WalkLawsBesides
import Derived.StillTactics
import Derived.Laws.Pointers
import Derived.Deep.RegionHeld3
import Derived.Deep.QuietTactic
import Derived.BigQuiet
import Derived.Outline
import Derived.Lib.Hide
import Derived.RowKit3
import Derived.Carry
import Derived.IntWalk
namespace Go.Proofs.YtmddlbphanlfhaaGreatDoor
open Go Go.RowKit
set_option linter.unusedSimpArgs false
set_option linter.unusedVariables false

theorem rounded_zero (p : Int) (x y : Nat) (mode : Int) (neg : Bool) (p0 : 0 ≤ p) (p1 : p ≤ 1152921504606846976) (hz : FloatKind.f32.format.order x 0 = some .eq)  (w : World) :
    Calls Tryz.prog 180 #[.agg #[.int .i64 p, .float .f32 x, .float .f32 y], .int .i64 mode, .bool neg] w fun rv w' => rv = .returned (.int .i64 (p)) ∧ Ext w w' := by
  go_enter Tryz.func180, Tryz.ntmps180
  go_wp2
  refine wp_scope_hops2 3 ?_
  intro C hC
  go_wp2_with fail
  go_step3
  (refine hop_goto _ _ (by rw [hC.out]; rfl) ?_)
  go_wp2_with fail
  rw [hop_ret]
  go_ret
  exact ⟨rfl, Ext.auK⟩

theorem rounded_cut (p : Int) (x y : Nat) (neg : Bool) (p0 : 0 ≤ p) (p1 : p ≤ 1152921504606846976) (hz : FloatKind.f32.format.order x 0 = some .gt)  (w : World) :
    Calls Tryz.prog 180 #[.agg #[.int .i64 p, .float .f32 x, .float .f32 y], .int .i64 2, .bool neg] w fun rv w' => rv = .returned (.int .i64 (p)) ∧ Ext w w' := by
  go_enter Tryz.func180, Tryz.ntmps180
  go_wp2
  refine wp_scope_hops2 3 ?_
  intro C hC
  go_wp2_with fail
  go_step3
  (refine hop_goto _ _ (by rw [hC.out]; rfl) ?_)
  go_wp2_with fail
  rw [hop_ret]
  go_ret
  exact ⟨rfl, Ext.auK⟩

theorem rounded_evenL (p : Int) (x y : Nat) (neg : Bool) (p0 : 0 ≤ p) (p1 : p ≤ 1152921504606846976) (hz : FloatKind.f32.format.order x 0 = some .gt) (x2 : Nat) (hm : floatBits .mul .f32 1073741824 x = some x2) (hc : ∀ w, Calls Tryz.prog 193 #[.float .f32 x2, .float .f32 y] w fun rv w' => rv = .returned (.int .i64 (-1)) ∧ w = w')  (w : World) :
    Calls Tryz.prog 180 #[.agg #[.int .i64 p, .float .f32 x, .float .f32 y], .int .i64 0, .bool neg] w fun rv w' => rv = .returned (.int .i64 (p)) ∧ Ext w w' := by
  have hm2 : ∀ w, (binOp .mul 189 (.float .f32 1073741824) (.float .f32 x)).run Tryz.prog w = .ok (.float .f32 x2) w := fun w => run_float_arith w .mul _ .f32 _ _ _ hm
  clear hm
  have HC := Lib.hid hc; clear hc
  go_enter Tryz.func180, Tryz.ntmps180
  go_wp2
  refine wp_scope_hops2 3 ?_
  intro C hC
  go_wp2_with (go_at_call 193; refine (HC.out _).mono ?_; rintro rv w1 ⟨rfl, rfl⟩)
  go_step3
  (refine hop_goto _ _ (by rw [hC.out]; rfl) ?_)
  go_wp2_with (go_at_call 193; refine (HC.out _).mono ?_; rintro rv w1 ⟨rfl, rfl⟩)
  go_step3
  (refine hop_goto _ _ (by rw [hC.out]; rfl) ?_)
  go_wp2_with (go_at_call 193; refine (HC.out _).mono ?_; rintro rv w1 ⟨rfl, rfl⟩)
  rw [hop_ret]
  go_ret
  exact ⟨rfl, Ext.auK⟩

theorem rounded_evenG (p : Int) (x y : Nat) (neg : Bool) (p0 : 0 ≤ p) (p1 : p ≤ 1152921504606846976) (hz : FloatKind.f32.format.order x 0 = some .gt) (x2 : Nat) (hm : floatBits .mul .f32 1073741824 x = some x2) (hc : ∀ w, Calls Tryz.prog 193 #[.float .f32 x2, .float .f32 y] w fun rv w' => rv = .returned (.int .i64 (1)) ∧ w = w')  (w : World) :
    Calls Tryz.prog 180 #[.agg #[.int .i64 p, .float .f32 x, .float .f32 y], .int .i64 0, .bool neg] w fun rv w' => rv = .returned (.int .i64 (p + 1)) ∧ Ext w w' := by
  have hm2 : ∀ w, (binOp .mul 189 (.float .f32 1073741824) (.float .f32 x)).run Tryz.prog w = .ok (.float .f32 x2) w := fun w => run_float_arith w .mul _ .f32 _ _ _ hm
  clear hm
  have HC := Lib.hid hc; clear hc
  go_enter Tryz.func180, Tryz.ntmps180
  go_wp2
  refine wp_scope_hops2 3 ?_
  intro C hC
  go_wp2_with (go_at_call 193; refine (HC.out _).mono ?_; rintro rv w1 ⟨rfl, rfl⟩)
  go_step3
  (refine hop_goto _ _ (by rw [hC.out]; rfl) ?_)
  go_wp2_with (go_at_call 193; refine (HC.out _).mono ?_; rintro rv w1 ⟨rfl, rfl⟩)
  go_step3
  (refine hop_goto _ _ (by rw [hC.out]; rfl) ?_)
  go_wp2_with (go_at_call 193; refine (HC.out _).mono ?_; rintro rv w1 ⟨rfl, rfl⟩)
  rw [hop_ret]
  go_ret
  exact ⟨rfl, Ext.auK⟩

theorem rounded_evenE (p : Int) (x y : Nat) (neg : Bool) (p0 : 0 ≤ p) (p1 : p ≤ 1152921504606846976) (hz : FloatKind.f32.format.order x 0 = some .gt) (x2 : Nat) (hm : floatBits .mul .f32 1073741824 x = some x2) (hc : ∀ w, Calls Tryz.prog 193 #[.float .f32 x2, .float .f32 y] w fun rv w' => rv = .returned (.int .i64 (0)) ∧ w = w') (hp : p % 2 = 0) (w : World) :
    Calls Tryz.prog 180 #[.agg #[.int .i64 p, .float .f32 x, .float .f32 y], .int .i64 0, .bool neg] w fun rv w' => rv = .returned (.int .i64 (p)) ∧ Ext w w' := by
  have hm2 : ∀ w, (binOp .mul 189 (.float .f32 1073741824) (.float .f32 x)).run Tryz.prog w = .ok (.float .f32 x2) w := fun w => run_float_arith w .mul _ .f32 _ _ _ hm
  clear hm
  have HC := Lib.hid hc; clear hc
  have pr : p.tmod 2 = 0 := by rw [Int.tmod_eq_emod_of_nonneg p0]; exact hp
  have pr2 : (p.tmod 2 == 0) = true := by rw [pr]; rfl
  have pr3 : (p.tmod 2 == 1) = false := by rw [pr]; rfl
  have pr4 : (p % 2 == 0) = true := by rw [hp]; rfl
  have pr5 : (p % 2 == 1) = false := by rw [hp]; rfl
  clear pr
  go_enter Tryz.func180, Tryz.ntmps180
  go_wp2
  refine wp_scope_hops2 3 ?_
  intro C hC
  go_wp2_with (go_at_call 193; refine (HC.out _).mono ?_; rintro rv w1 ⟨rfl, rfl⟩)
  go_step3
  (refine hop_goto _ _ (by rw [hC.out]; rfl) ?_)
  go_wp2_with (go_at_call 193; refine (HC.out _).mono ?_; rintro rv w1 ⟨rfl, rfl⟩)
  go_step3
  (refine hop_goto _ _ (by rw [hC.out]; rfl) ?_)
  go_wp2_with (go_at_call 193; refine (HC.out _).mono ?_; rintro rv w1 ⟨rfl, rfl⟩)
  rw [hop_ret]
  go_ret
  exact ⟨rfl, Ext.auK⟩

theorem rounded_evenO (p : Int) (x y : Nat) (neg : Bool) (p0 : 0 ≤ p) (p1 : p ≤ 1152921504606846976) (hz : FloatKind.f32.format.order x 0 = some .gt) (x2 : Nat) (hm : floatBits .mul .f32 1073741824 x = some x2) (hc : ∀ w, Calls Tryz.prog 193 #[.float .f32 x2, .float .f32 y] w fun rv w' => rv = .returned (.int .i64 (0)) ∧ w = w') (hp : p % 2 = 1) (w : World) :
    Calls Tryz.prog 180 #[.agg #[.int .i64 p, .float .f32 x, .float .f32 y], .int .i64 0, .bool neg] w fun rv w' => rv = .returned (.int .i64 (p + 1)) ∧ Ext w w' := by
  have hm2 : ∀ w, (binOp .mul 189 (.float .f32 1073741824) (.float .f32 x)).run Tryz.prog w = .ok (.float .f32 x2) w := fun w => run_float_arith w .mul _ .f32 _ _ _ hm
  clear hm
  have HC := Lib.hid hc; clear hc
  have pr : p.tmod 2 = 1 := by rw [Int.tmod_eq_emod_of_nonneg p0]; exact hp
  have pr2 : (p.tmod 2 == 0) = false := by rw [pr]; rfl
  have pr3 : (p.tmod 2 == 1) = true := by rw [pr]; rfl
  have pr4 : (p % 2 == 0) = false := by rw [hp]; rfl
  have pr5 : (p % 2 == 1) = true := by rw [hp]; rfl
  clear pr
  go_enter Tryz.func180, Tryz.ntmps180
  go_wp2
  refine wp_scope_hops2 3 ?_
  intro C hC
  go_wp2_with (go_at_call 193; refine (HC.out _).mono ?_; rintro rv w1 ⟨rfl, rfl⟩)
  go_step3
  (refine hop_goto _ _ (by rw [hC.out]; rfl) ?_)
  go_wp2_with (go_at_call 193; refine (HC.out _).mono ?_; rintro rv w1 ⟨rfl, rfl⟩)
  go_step3
  (refine hop_goto _ _ (by rw [hC.out]; rfl) ?_)
  go_wp2_with (go_at_call 193; refine (HC.out _).mono ?_; rintro rv w1 ⟨rfl, rfl⟩)
  rw [hop_ret]
  go_ret
  exact ⟨rfl, Ext.auK⟩

theorem rounded_awayL (p : Int) (x y : Nat) (neg : Bool) (p0 : 0 ≤ p) (p1 : p ≤ 1152921504606846976) (hz : FloatKind.f32.format.order x 0 = some .gt) (x2 : Nat) (hm : floatBits .mul .f32 1073741824 x = some x2) (hc : ∀ w, Calls Tryz.prog 193 #[.float .f32 x2, .float .f32 y] w fun rv w' => rv = .returned (.int .i64 (-1)) ∧ w = w')  (w : World) :
    Calls Tryz.prog 180 #[.agg #[.int .i64 p, .float .f32 x, .float .f32 y], .int .i64 1, .bool neg] w fun rv w' => rv = .returned (.int .i64 (p)) ∧ Ext w w' := by
  have hm2 : ∀ w, (binOp .mul 189 (.float .f32 1073741824) (.float .f32 x)).run Tryz.prog w = .ok (.float .f32 x2) w := fun w => run_float_arith w .mul _ .f32 _ _ _ hm
  clear hm
  have HC := Lib.hid hc; clear hc
  go_enter Tryz.func180, Tryz.ntmps180
  go_wp2
  refine wp_scope_hops2 3 ?_
  intro C hC
  go_wp2_with (go_at_call 193; refine (HC.out _).mono ?_; rintro rv w1 ⟨rfl, rfl⟩)
  go_step3
  (refine hop_goto _ _ (by rw [hC.out]; rfl) ?_)
  go_wp2_with (go_at_call 193; refine (HC.out _).mono ?_; rintro rv w1 ⟨rfl, rfl⟩)
  go_step3
  (refine hop_goto _ _ (by rw [hC.out]; rfl) ?_)
  go_wp2_with (go_at_call 193; refine (HC.out _).mono ?_; rintro rv w1 ⟨rfl, rfl⟩)
  rw [hop_ret]
  go_ret
  exact ⟨rfl, Ext.auK⟩

theorem rounded_awayG (p : Int) (x y : Nat) (neg : Bool) (p0 : 0 ≤ p) (p1 : p ≤ 1152921504606846976) (hz : FloatKind.f32.format.order x 0 = some .gt) (x2 : Nat) (hm : floatBits .mul .f32 1073741824 x = some x2) (hc : ∀ w, Calls Tryz.prog 193 #[.float .f32 x2, .float .f32 y] w fun rv w' => rv = .returned (.int .i64 (1)) ∧ w = w')  (w : World) :
    Calls Tryz.prog 180 #[.agg #[.int .i64 p, .float .f32 x, .float .f32 y], .int .i64 1, .bool neg] w fun rv w' => rv = .returned (.int .i64 (p + 1)) ∧ Ext w w' := by
  have hm2 : ∀ w, (binOp .mul 189 (.float .f32 1073741824) (.float .f32 x)).run Tryz.prog w = .ok (.float .f32 x2) w := fun w => run_float_arith w .mul _ .f32 _ _ _ hm
  clear hm
  have HC := Lib.hid hc; clear hc
  go_enter Tryz.func180, Tryz.ntmps180
  go_wp2
  refine wp_scope_hops2 3 ?_
  intro C hC
  go_wp2_with (go_at_call 193; refine (HC.out _).mono ?_; rintro rv w1 ⟨rfl, rfl⟩)
  go_step3
  (refine hop_goto _ _ (by rw [hC.out]; rfl) ?_)
  go_wp2_with (go_at_call 193; refine (HC.out _).mono ?_; rintro rv w1 ⟨rfl, rfl⟩)
  go_step3
  (refine hop_goto _ _ (by rw [hC.out]; rfl) ?_)
  go_wp2_with (go_at_call 193; refine (HC.out _).mono ?_; rintro rv w1 ⟨rfl, rfl⟩)
  rw [hop_ret]
  go_ret
  exact ⟨rfl, Ext.auK⟩

theorem rounded_awayM (p : Int) (x y : Nat) (neg : Bool) (p0 : 0 ≤ p) (p1 : p ≤ 1152921504606846976) (hz : FloatKind.f32.format.order x 0 = some .gt) (x2 : Nat) (hm : floatBits .mul .f32 1073741824 x = some x2) (hc : ∀ w, Calls Tryz.prog 193 #[.float .f32 x2, .float .f32 y] w fun rv w' => rv = .returned (.int .i64 (0)) ∧ w = w')  (w : World) :
    Calls Tryz.prog 180 #[.agg #[.int .i64 p, .float .f32 x, .float .f32 y], .int .i64 1, .bool neg] w fun rv w' => rv = .returned (.int .i64 (p + 1)) ∧ Ext w w' := by
  have hm2 : ∀ w, (binOp .mul 189 (.float .f32 1073741824) (.float .f32 x)).run Tryz.prog w = .ok (.float .f32 x2) w := fun w => run_float_arith w .mul _ .f32 _ _ _ hm
  clear hm
  have HC := Lib.hid hc; clear hc
  go_enter Tryz.func180, Tryz.ntmps180
  go_wp2
  refine wp_scope_hops2 3 ?_
  intro C hC
  go_wp2_with (go_at_call 193; refine (HC.out _).mono ?_; rintro rv w1 ⟨rfl, rfl⟩)
  go_step3
  (refine hop_goto _ _ (by rw [hC.out]; rfl) ?_)
  go_wp2_with (go_at_call 193; refine (HC.out _).mono ?_; rintro rv w1 ⟨rfl, rfl⟩)
  go_step3
  (refine hop_goto _ _ (by rw [hC.out]; rfl) ?_)
  go_wp2_with (go_at_call 193; refine (HC.out _).mono ?_; rintro rv w1 ⟨rfl, rfl⟩)
  rw [hop_ret]
  go_ret
  exact ⟨rfl, Ext.auK⟩

theorem rounded_upP (p : Int) (x y : Nat) (p0 : 0 ≤ p) (p1 : p ≤ 1152921504606846976) (hz : FloatKind.f32.format.order x 0 = some .gt)  (w : World) :
    Calls Tryz.prog 180 #[.agg #[.int .i64 p, .float .f32 x, .float .f32 y], .int .i64 3, .bool false] w fun rv w' => rv = .returned (.int .i64 (p + 1)) ∧ Ext w w' := by
  go_enter Tryz.func180, Tryz.ntmps180
  go_wp2
  refine wp_scope_hops2 3 ?_
  intro C hC
  go_wp2_with fail
  go_step3
  (refine hop_goto _ _ (by rw [hC.out]; rfl) ?_)
  go_wp2_with fail
  go_step3
  (refine hop_goto _ _ (by rw [hC.out]; rfl) ?_)
  go_wp2_with fail
  rw [hop_ret]
  go_ret
  exact ⟨rfl, Ext.auK⟩

theorem rounded_upN (p : Int) (x y : Nat) (p0 : 0 ≤ p) (p1 : p ≤ 1152921504606846976) (hz : FloatKind.f32.format.order x 0 = some .gt)  (w : World) :
    Calls Tryz.prog 180 #[.agg #[.int .i64 p, .float .f32 x, .float .f32 y], .int .i64 3, .bool true] w fun rv w' => rv = .returned (.int .i64 (p)) ∧ Ext w w' := by
  go_enter Tryz.func180, Tryz.ntmps180
  go_wp2
  refine wp_scope_hops2 3 ?_
  intro C hC
  go_wp2_with fail
  go_step3
  (refine hop_goto _ _ (by rw [hC.out]; rfl) ?_)
  go_wp2_with fail
  go_step3
  (refine hop_goto _ _ (by rw [hC.out]; rfl) ?_)
  go_wp2_with fail
  rw [hop_ret]
  go_ret
  exact ⟨rfl, Ext.auK⟩

theorem rounded_downP (p : Int) (x y : Nat) (p0 : 0 ≤ p) (p1 : p ≤ 1152921504606846976) (hz : FloatKind.f32.format.order x 0 = some .gt)  (w : World) :
    Calls Tryz.prog 180 #[.agg #[.int .i64 p, .float .f32 x, .float .f32 y], .int .i64 4, .bool false] w fun rv w' => rv = .returned (.int .i64 (p)) ∧ Ext w w' := by
  go_enter Tryz.func180, Tryz.ntmps180
  go_wp2
  refine wp_scope_hops2 3 ?_
  intro C hC
  go_wp2_with fail
  go_step3
  (refine hop_goto _ _ (by rw [hC.out]; rfl) ?_)
  go_wp2_with fail
  go_step3
  (refine hop_goto _ _ (by rw [hC.out]; rfl) ?_)
  go_wp2_with fail
  rw [hop_ret]
  go_ret
  exact ⟨rfl, Ext.auK⟩

theorem rounded_downN (p : Int) (x y : Nat) (p0 : 0 ≤ p) (p1 : p ≤ 1152921504606846976) (hz : FloatKind.f32.format.order x 0 = some .gt)  (w : World) :
    Calls Tryz.prog 180 #[.agg #[.int .i64 p, .float .f32 x, .float .f32 y], .int .i64 4, .bool true] w fun rv w' => rv = .returned (.int .i64 (p + 1)) ∧ Ext w w' := by
  go_enter Tryz.func180, Tryz.ntmps180
  go_wp2
  refine wp_scope_hops2 3 ?_
  intro C hC
  go_wp2_with fail
  go_step3
  (refine hop_goto _ _ (by rw [hC.out]; rfl) ?_)
  go_wp2_with fail
  go_step3
  (refine hop_goto _ _ (by rw [hC.out]; rfl) ?_)
  go_wp2_with fail
  rw [hop_ret]
  go_ret
  exact ⟨rfl, Ext.auK⟩

theorem rounded_oddO (p : Int) (x y : Nat) (neg : Bool) (p0 : 0 ≤ p) (p1 : p ≤ 1152921504606846976) (hz : FloatKind.f32.format.order x 0 = some .gt) (hp : p % 2 = 1) (w : World) :
    Calls Tryz.prog 180 #[.agg #[.int .i64 p, .float .f32 x, .float .f32 y], .int .i64 5, .bool neg] w fun rv w' => rv = .returned (.int .i64 (p)) ∧ Ext w w' := by
  have pr : p.tmod 2 = 1 := by rw [Int.tmod_eq_emod_of_nonneg p0]; exact hp
  have pr2 : (p.tmod 2 == 0) = false := by rw [pr]; rfl
  have pr3 : (p.tmod 2 == 1) = true := by rw [pr]; rfl
  have pr4 : (p % 2 == 0) = false := by rw [hp]; rfl
  have pr5 : (p % 2 == 1) = true := by rw [hp]; rfl
  clear pr
  go_enter Tryz.func180, Tryz.ntmps180
  go_wp2
  refine wp_scope_hops2 3 ?_
  intro C hC
  go_wp2_with fail
  go_step3
  (refine hop_goto _ _ (by rw [hC.out]; rfl) ?_)
  go_wp2_with fail
  go_step3
  (refine hop_goto _ _ (by rw [hC.out]; rfl) ?_)
  go_wp2_with fail
  rw [hop_ret]
  go_ret
  exact ⟨rfl, Ext.auK⟩

theorem rounded_oddE (p : Int) (x y : Nat) (neg : Bool) (p0 : 0 ≤ p) (p1 : p ≤ 1152921504606846976) (hz : FloatKind.f32.format.order x 0 = some .gt) (hp : p % 2 = 0) (w : World) :
    Calls Tryz.prog 180 #[.agg #[.int .i64 p, .float .f32 x, .float .f32 y], .int .i64 5, .bool neg] w fun rv w' => rv = .returned (.int .i64 (p + 1)) ∧ Ext w w' := by
  have pr : p.tmod 2 = 0 := by rw [Int.tmod_eq_emod_of_nonneg p0]; exact hp
  have pr2 : (p.tmod 2 == 0) = true := by rw [pr]; rfl
  have pr3 : (p.tmod 2 == 1) = false := by rw [pr]; rfl
  have pr4 : (p % 2 == 0) = true := by rw [hp]; rfl
  have pr5 : (p % 2 == 1) = false := by rw [hp]; rfl
  clear pr
  go_enter Tryz.func180, Tryz.ntmps180
  go_wp2
  refine wp_scope_hops2 3 ?_
  intro C hC
  go_wp2_with fail
  go_step3
  (refine hop_goto _ _ (by rw [hC.out]; rfl) ?_)
  go_wp2_with fail
  go_step3
  go_wp2
  rw [hop_ret]
  go_ret
  exact ⟨rfl, Ext.auK⟩
end Go.Proofs.YtmddlbphanlfhaaGreatDoor

