/-
  Contracts of the functions that the laws reach, and the plain facts that they rest on, each under the conditions that its line names; part 24.
-/
import Derived.Test.YtfgbndjhaiigbabDoorKxh1
import Derived.Test.YtfgbndjhaiigbabDoorKxh2
import Derived.Test.YtfgbndjhaiigbabDoorKxh3
import Derived.Test.YtfgbndjhaiigbabDoorKxh4
import Derived.Test.YtfgbndjhaiigbabDoorKxh5
import Derived.Test.YtfgbndjhaiigbabDoorRows
import Derived.WalkKit
import Derived.LoopTactic
import Derived.Laws.Bits64b
import Derived.WalkSpells
import Derived.WalkLawsBesides
import Derived.StillTactics
import Derived.Laws.Pointers
import Derived.Deep.RegionHeld3
import Derived.Deep.QuietTactic
import Derived.BigQuiet
import Derived.Outline
import Derived.Lib.Hide
import Derived.RowKit3
import Derived.Carry
import Derived.IntWalk
import Derived.Lib.ItoaNum
import Derived.Laws.BytesString
namespace Go.Proofs.YtfgbndjhaiigbabDoor
open Go Go.RowKit
set_option linter.unusedSimpArgs false
set_option linter.unusedVariables false
set_option maxRecDepth 100000

theorem dec_small {n : Nat} (h : n < 10) : Lib.decDigits n = [UInt8.ofNat (48 + n)] := by rw [Lib.decDigits, dif_pos h]

theorem dec_great {n : Nat} (h : ¬ n < 10) : Lib.decDigits n = Lib.decDigits (n / 10) ++ [UInt8.ofNat (48 + n % 10)] := by rw [Lib.decDigits, dif_neg h]

theorem dec_len : ∀ (k n : Nat), n < 10 ^ (k + 1) → (Lib.decDigits n).length ≤ k + 1
  | 0, n, h => by rw [dec_small (by simpa using h)]; simp
  | k + 1, n, h => by
    by_cases h1 : n < 10
    · rw [dec_small h1]; simp
    · rw [dec_great h1, List.length_append]
      have := dec_len k (n / 10) (by rw [Nat.pow_succ] at h; omega)
      simp only [List.length_cons, List.length_nil]
      omega

theorem dec_len19 {n : Nat} (h : n < 9223372036854775808) : (Lib.decDigits n).length ≤ 19 := dec_len 18 n (Nat.lt_of_lt_of_le h (by decide))

/-- A slice of one byte as a string. -/
theorem byte_str (V : Int) : ∀ (W : World) (g : Nat), W.cell? ⟨g, 0, none⟩ = some (.int .u8 V) → (convert 116 9 (.slice (some ⟨g, 0, none⟩) 1 1)).run Tryd.prog W = .ok (.string ⟨#[UInt8.ofNat V.toNat]⟩) W := by
  intro W g h
  rw [run_convert_bytes_string W _ _ 5 _ _ _ Tryd.underlying116 Tryd.underlying5 Tryd.underlying9]
  rw [run_bytesToString W ⟨g, 0, none⟩ 1 1 [V] (by simp [go_sem, loadCells, h])]
  rfl

theorem Ext.new1 {X b : World} {v : Value} {t : TypeId} (h : Ext (X.alloc (.cells #[v] t)) b) : b.cell? ⟨X.heap.size, 0, none⟩ = some v :=
  (h.cells _ _ (by simp)).trans (by simp [go_sem])

theorem Ext.new1d {X b : World} {v : Value} {t : TypeId} (h : Ext ((X.alloc (.cells #[v] t)).drew) b) : b.cell? ⟨X.heap.size, 0, none⟩ = some v :=
  (h.cells _ _ (by simp)).trans (by simp [go_sem])

theorem l1Num_any (n : Nat) (h : n < 9223372036854775808) (w : World) : Calls Tryd.prog 146 #[.int .i64 (n : Int)] w fun rv w' => rv = .returned (.string ⟨(Lib.decDigits n).toArray⟩) ∧ Ext w w' := by
  induction n using Nat.strongRecOn generalizing w with
  | ind n ih =>
    have k2 : ∀ V : Int, 48 ≤ V → V < 58 → IntKind.u8.wrap V = V := fun V a b => by rw [IntKind.wrap_u8]; omega
    by_cases h1 : n < 10
    · have e1 : ((n : Nat) : Int) < 10 := by omega
      have k1 : IntKind.i64.wrap (48 + (n : Int)) = 48 + (n : Int) := IntWalk.i64_in _ (by omega)
      have k3 := k2 (48 + (n : Int)) (by omega) (by omega)
      have cv := byte_str (48 + (n : Int))
      have ht : (48 + (n : Int)).toNat = 48 + n := by omega
      rw [ht] at cv
      rw [dec_small h1]
      clear ih k2
      go_enter Tryd.func146, Tryd.ntmps146
      go_wp2
      go_ret
      exact ⟨by first | rfl | (simp; done), Ext.auK⟩
    · have e1 : ¬ ((n : Nat) : Int) < 10 := by omega
      have q1 : ((n : Nat) : Int).tdiv 10 = ((n / 10 : Nat) : Int) := by rw [Int.tdiv_eq_ediv_of_nonneg (by omega)]; omega
      have q2 : ((n : Nat) : Int).tmod 10 = ((n % 10 : Nat) : Int) := by rw [Int.tmod_eq_emod_of_nonneg (by omega)]; omega
      have q3 : IntKind.i64.wrap ((n / 10 : Nat) : Int) = ((n / 10 : Nat) : Int) := IntWalk.i64_in _ (by omega)
      have q4 : IntKind.i64.wrap ((n % 10 : Nat) : Int) = ((n % 10 : Nat) : Int) := IntWalk.i64_in _ (by omega)
      have k1 : IntKind.i64.wrap (48 + ((n % 10 : Nat) : Int)) = 48 + ((n % 10 : Nat) : Int) := IntWalk.i64_in _ (by omega)
      have k3 := k2 (48 + ((n % 10 : Nat) : Int)) (by omega) (by omega)
      have cv := byte_str (48 + ((n % 10 : Nat) : Int))
      have ht : (48 + ((n % 10 : Nat) : Int)).toNat = 48 + n % 10 := by omega
      rw [ht] at cv
      rw [dec_great h1]
      have hlen := dec_len19 (n := n / 10) (by omega)
      have hcat : ¬ 9223372036854775807 < (Lib.decDigits (n / 10)).length + 1 := by omega
      have IH := Lib.hid (fun w => ih (n / 10) (by omega) (by omega) w)
      clear ih k2 ht h h1 hlen
      generalize ((n % 10 : Nat) : Int) = r at *
      generalize ((n / 10 : Nat) : Int) = d at *
      generalize Lib.decDigits (n / 10) = l at *
      generalize UInt8.ofNat (48 + n % 10) = u at *
      go_enter Tryd.func146, Tryd.ntmps146
      go_wp2_with fail
      first | (go_region_with (first | (go_at_call 146; refine (IH.out _).mono ?_; rintro rv w1 ⟨rfl, hb⟩; (first | (have m0 := Ext.new1 hb) | (have m0 := Ext.new1d hb) | skip); (try simp only [World.size_drew] at m0); have nx : Ext w w1 := Ext.trans Ext.auK hb; clear hb; have hx := nx; clear nx))) | fail
      all_goals go_wp2_with fail
      all_goals go_ret
      all_goals exact ⟨by first | rfl | (simp; done), Ext.auK⟩
end Go.Proofs.YtfgbndjhaiigbabDoor

