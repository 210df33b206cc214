/-
  Contracts of the functions that the laws reach, and the plain facts that they rest on, each under the conditions that its line names; part 30.
-/
import Derived.Test.YtcpamgmaijjhoaaGreatDoorKrs1
import Derived.Test.YtcpamgmaijjhoaaGreatDoorKrs2
import Derived.Test.YtcpamgmaijjhoaaGreatDoorKrs3
import Derived.Test.YtcpamgmaijjhoaaGreatDoorKrs4
import Derived.Test.YtcpamgmaijjhoaaGreatDoorKrs5
import Derived.Test.YtcpamgmaijjhoaaGreatDoorKrs6
import Derived.Test.YtcpamgmaijjhoaaGreatDoorKrs7
import Derived.Test.YtcpamgmaijjhoaaGreatDoorKrs8
import Derived.Test.YtcpamgmaijjhoaaGreatDoorKrs9
import Derived.Test.YtcpamgmaijjhoaaGreatDoorKrs10
import Derived.Test.YtcpamgmaijjhoaaGreatDoorKrs11
import Derived.Test.YtcpamgmaijjhoaaGreatDoorKrs12
import Derived.Test.YtcpamgmaijjhoaaGreatDoorKrs13
import Derived.Test.YtcpamgmaijjhoaaGreatDoorKrs14
import Derived.Test.YtcpamgmaijjhoaaGreatDoorKrs16
import Derived.Test.YtcpamgmaijjhoaaGreatDoorKrs17
import Derived.Test.YtcpamgmaijjhoaaGreatDoorKrs18
import Derived.Test.YtcpamgmaijjhoaaGreatDoorKrs19
import Derived.Test.YtcpamgmaijjhoaaGreatDoorKrs20
import Derived.Test.YtcpamgmaijjhoaaGreatDoorKrs21
import Derived.Test.YtcpamgmaijjhoaaGreatDoorKrs22
import Derived.Test.YtcpamgmaijjhoaaGreatDoorKrs23
import Derived.Test.YtcpamgmaijjhoaaGreatDoorKrs27
import Derived.Test.YtcpamgmaijjhoaaGreatDoorRows
import Derived.WalkKit
import Derived.LoopTactic
import Derived.Deep.OwnRows
import Derived.LoopN
import Derived.Deep.LoopGhost
import Derived.Laws.Bits64b
import Derived.WalkSpells
import Derived.WalkLawsBesides
import Derived.StillTactics
import Derived.Laws.Pointers
import Derived.Deep.RegionHeld3
import Derived.Deep.QuietTactic
import Derived.BigQuiet
import Derived.Outline
import Derived.Lib.Hide
import Derived.RowKit3
import Derived.Carry
import Derived.IntWalk
namespace Go.Proofs.YtcpamgmaijjhoaaGreatDoor
open Go Go.RowKit
set_option linter.unusedSimpArgs false
set_option linter.unusedVariables false
set_option maxRecDepth 100000

theorem ext_add {w w' : World} {a : Addr} (h : Ext w w') (ha : a.block < w.heap.size) (i : Nat) : w'.cell? (a.add i) = w.cell? (a.add i) :=
  Below.cell (p := a.add i) h (by have e : (a.add i).block = a.block := (by unfold Addr.add; split <;> rfl)
                                  rw [e]; exact ha)

/-- The sum of the first k values, in units. -/
def sumU (e f : Int) (V : Nat → Int) : Nat → Int
  | 0 => 0
  | k + 1 => sumU e f V k + unitsV e f (V k)

theorem sumU_size {e f : Int} {V : Nat → Int} {n : Nat} (hV : ∀ i, i < n → finB e f (V i) = true) (k : Nat) (hk : k ≤ n) : -(2199023255552 * (k : Int)) ≤ sumU e f V k ∧ sumU e f V k ≤ 2199023255552 * (k : Int) := by
  induction k with
  | zero => simp [sumU]
  | succ k ih =>
    obtain ⟨i1, i2⟩ := ih (by omega)
    have hf := hV k (by omega)
    obtain ⟨_, _, s3, s4, _, _⟩ := ns_small hf hf
    unfold sumU
    push_cast
    omega

theorem lst_iff {e f : Int} {V : Nat → Int} {n : Nat} : lstB e f V n = true ↔ goodB e f = true ∧ n ≤ 12 ∧ ∀ i, i < n → finB e f (V i) = true := by
  unfold lstB; rw [Bool.and_eq_true, Bool.and_eq_true, decide_eq_true_eq, allF_iff, and_assoc]

theorem conv_cw {e f p : Int} (h : finB e f p = true) : ∀ w, (convert 133 3 (.float .f32 (floatOfInt .f32 (unitsV e f p)))).run Tryz.prog w = .ok (.int .i64 (unitsV e f p)) w := by
  obtain ⟨hg, s0, s1, hu⟩ := fin_size h
  obtain ⟨okM, ltM⟩ := mgN_ok hg s0 s1
  have hb := mg_bd hg s0 s1
  have q := int_mg (decide (unitsV e f p < 0)) okM (by omega)
  have e1 : sv (decide (unitsV e f p < 0)) (mgV f (p % pw (e + f))).toNat = unitsV e f p := by unfold sv; split <;> rename_i h <;> simp at h <;> omega
  rw [e1, ← cw_mg hu, ← int_cw] at q
  exact fun w => run_convert_float_int w _ _ .f32 .i64 _ _ (by kernel_rfl) Tryz.underlying3 q

theorem row_ext {w w' : World} {b n : Nat} {t : TypeId} {g : Nat → Value} (h : w.rowIs b t n g) (hx : Ext w w') : w'.rowIs b t n g := h.of_block (hx.block _ h.lt)
end Go.Proofs.YtcpamgmaijjhoaaGreatDoor

