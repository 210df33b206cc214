/-
  Contracts of the functions that the laws reach, and the plain facts that they rest on, each under the conditions that its line names; part 10.
-/
import Derived.Test.YtmddlbphanlfhaaGreatDoorKps1
import Derived.Test.YtmddlbphanlfhaaGreatDoorKps2
import Derived.Test.YtmddlbphanlfhaaGreatDoorKps3
import Derived.Test.YtmddlbphanlfhaaGreatDoorKps4
import Derived.Test.YtmddlbphanlfhaaGreatDoorKps5
import Derived.Test.YtmddlbphanlfhaaGreatDoorKps6
import Derived.Test.YtmddlbphanlfhaaGreatDoorKps7
import Derived.Test.YtmddlbphanlfhaaGreatDoorKps8
import Derived.Test.YtmddlbphanlfhaaGreatDoorKps9
import Derived.Test.YtmddlbphanlfhaaGreatDoorRows
import Derived.WalkKit
import Derived.Lib.ItoaMem
import Derived.LoopTactic
import Derived.Laws.Bits64b
import Derived.WalkSpells
import Derived.WalkLawsBesides
import Derived.StillTactics
import Derived.Laws.Pointers
import Derived.Deep.RegionHeld3
import Derived.Deep.QuietTactic
import Derived.BigQuiet
import Derived.Outline
import Derived.Lib.Hide
import Derived.RowKit3
import Derived.Carry
import Derived.IntWalk
import Derived.Lib.ItoaNum
import Derived.Laws.BytesString
namespace Go.Proofs.YtmddlbphanlfhaaGreatDoor
open Go Go.RowKit
set_option linter.unusedSimpArgs false
set_option linter.unusedVariables false

theorem itoa_of (n : Int) (h : 0 ≤ n) : Lib.itoa n = Lib.decDigits n.toNat := by
  have := Lib.itoa_nonneg n.toNat
  rwa [Int.toNat_of_nonneg h] at this

theorem ten_pos (y : ByteArray) (h : 0 ≤ l1rV y) : y.data.toList = Lib.itoa (l1rV y) ∧ l1rV y ≤ 999999 := by
  obtain ⟨a, b⟩ := l1r_sound y h
  exact ⟨by rw [itoa_of _ h]; exact a, b⟩

theorem minus_list (y : ByteArray) (h0 : 0 < y.size) (h : (y[0]'h0).toNat = 45) : y.data.toList = 45 :: (y.extract 1 y.size).data.toList := by
  have hl : y.data.toList.length = y.size := by simp
  rw [extract_list, List.take_of_length_le (by omega)]
  have hb : y[0]'h0 = 45 := UInt8.toNat_inj.1 (by rw [h]; rfl)
  have e : y.data.toList[0]'(by omega) = 45 := hb
  cases q : y.data.toList with
  | nil => rw [q] at hl; simp at hl; omega
  | cons c l =>
    simp only [q] at e
    simp at e
    rw [e]
    rfl

theorem ten_neg (y : ByteArray) (h0 : 0 < y.size) (h : (y[0]'h0).toNat = 45) (hn : 0 < l1rV (y.extract 1 y.size)) : y.data.toList = Lib.itoa (-(l1rV (y.extract 1 y.size))) ∧ l1rV (y.extract 1 y.size) ≤ 999999 := by
  obtain ⟨a, b⟩ := l1r_sound (y.extract 1 y.size) (by omega)
  refine ⟨?_, b⟩
  rw [minus_list y h0 h, a]
  have := Lib.itoa_neg (l1rV (y.extract 1 y.size)).toNat (by omega)
  rw [Int.toNat_of_nonneg (by omega)] at this
  exact this.symm

/-- A text of a number: how the model reads it. -/
theorem ten_of (y : ByteArray) (t : Int) (t0 : -999999 ≤ t) (t1 : t ≤ 999999) (h : y.data.toList = Lib.itoa t) : ∃ h0 : 0 < y.size, (0 ≤ t → (y[0]'h0).toNat ≠ 45 ∧ l1rV y = t) ∧ (t < 0 → (y[0]'h0).toNat = 45 ∧ l1rV (y.extract 1 y.size) = -t) := by
  have hl : y.data.toList.length = y.size := by simp
  by_cases ht : 0 ≤ t
  · rw [itoa_of t ht] at h
    obtain ⟨i1, i2, i3, i4⟩ := dv_dec t.toNat
    have ne : 0 < y.data.toList.length := by
      rw [h]
      cases q : Lib.decDigits t.toNat with
      | nil => exact absurd q i2
      | cons _ _ => simp
    have h0 : 0 < y.size := by omega
    refine ⟨h0, fun _ => ⟨?_, ?_⟩, fun q => absurd q (by omega)⟩
    · have := i3 (y[0]'h0) (by
        rw [← h]
        have e : y[0]'h0 = y.data.toList[0]'(by omega) := rfl
        rw [e]; exact List.getElem_mem _)
      omega
    · rw [l1r_dec y t.toNat (by omega) h]; omega
  · have hi : Lib.itoa t = 45 :: Lib.decDigits (-t).toNat := by
      have := Lib.itoa_neg (-t).toNat (by omega)
      rwa [Int.toNat_of_nonneg (by omega), Int.neg_neg] at this
    rw [hi] at h
    have h0 : 0 < y.size := by rw [← hl, h]; simp
    have hb : (y[0]'h0).toNat = 45 := by
      have e : y[0]'h0 = y.data.toList[0]'(by omega) := rfl
      rw [e]
      simp only [h]
      rfl
    refine ⟨h0, fun q => absurd q ht, fun _ => ⟨hb, ?_⟩⟩
    have m := minus_list y h0 hb
    rw [h] at m
    have := l1r_dec (y.extract 1 y.size) (-t).toNat (by omega) (List.cons.inj m).2.symm
    rw [this]; omega
end Go.Proofs.YtmddlbphanlfhaaGreatDoor

namespace Go.Proofs.YtmddlbphanlfhaaGreatDoor
open Go Go.RowKit
set_option linter.unusedSimpArgs false
set_option linter.unusedVariables false

/-- A short text of digits and ten. -/
def ShT (s : List UInt8) (d t : Int) : Prop := 0 ≤ d ∧ d ≤ 999999 ∧ -14 ≤ t ∧ t ≤ 14 ∧ s = Lib.itoa d ++ [101] ++ Lib.itoa t

theorem itoa_no_e (n : Int) : (101 : UInt8) ∉ Lib.itoa n := fun h => by
  have := itoa_chars n 101 h
  revert this
  decide

theorem sh_spV (s : ByteArray) (d t : Int) (h : ShT s.data.toList d t) : spV s = [⟨(Lib.itoa d).toArray⟩, ⟨(Lib.itoa t).toArray⟩] :=
  spV_of s _ _ h.2.2.2.2 (itoa_no_e d) (itoa_no_e t)

theorem sh_parts (s x y : ByteArray) (h : spV s = [x, y]) (d t : Int) : ShT s.data.toList d t ↔ (0 ≤ d ∧ d ≤ 999999 ∧ -14 ≤ t ∧ t ≤ 14 ∧ x.data.toList = Lib.itoa d ∧ y.data.toList = Lib.itoa t) := by
  constructor
  · intro q
    have e := sh_spV s d t q
    rw [h] at e
    have e1 : x = ⟨(Lib.itoa d).toArray⟩ := (List.cons.inj e).1
    have e2 : y = ⟨(Lib.itoa t).toArray⟩ := (List.cons.inj (List.cons.inj e).2).1
    exact ⟨q.1, q.2.1, q.2.2.1, q.2.2.2.1, by rw [e1], by rw [e2]⟩
  · rintro ⟨a, b, c, f, g1, g2⟩
    exact ⟨a, b, c, f, by rw [(spV_two s x y h).1, g1, g2]⟩
end Go.Proofs.YtmddlbphanlfhaaGreatDoor

