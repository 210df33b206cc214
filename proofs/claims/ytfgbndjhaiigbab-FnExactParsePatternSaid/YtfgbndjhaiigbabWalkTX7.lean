/-
  Bits of a text are read, by the program.
-/
import Derived.Test.YtfgbndjhaiigbabRows
import Derived.Test.YtfgbndjhaiigbabPlain
import Derived.Test.YtfgbndjhaiigbabBelow
import Derived.Test.YtfgbndjhaiigbabNear
import Derived.Test.YtfgbndjhaiigbabDy
import Derived.Test.YtfgbndjhaiigbabDyC
import Derived.Test.YtfgbndjhaiigbabWalkA
import Derived.Test.YtfgbndjhaiigbabWalkDA
import Derived.Test.YtfgbndjhaiigbabWalkTX1
import Derived.Test.YtfgbndjhaiigbabTxt
import Derived.Test.YtfgbndjhaiigbabBit
import Derived.WalkKit
import Derived.LoopTactic
import Derived.Laws.Bits64b
import Derived.WalkSpells
import Derived.WalkLawsBesides
import Derived.StillTactics
import Derived.Laws.Pointers
import Derived.Deep.RegionHeld3
import Derived.Deep.QuietTactic
import Derived.BigQuiet
import Derived.Outline
import Derived.Lib.Hide
import Derived.RowKit3
import Derived.Carry
import Derived.IntWalk
import Derived.Lib.ItoaNum
import Derived.Laws.BytesString
namespace Go.Proofs.Ytfgbndjhaiigbab
open Go Go.RowKit
set_option linter.unusedSimpArgs false
set_option linter.unusedVariables false

set_option maxRecDepth 100000

theorem get_take (s : ByteArray) (k : Nat) (h : k < s.size) : s.data.toList.take (k + 1) = s.data.toList.take k ++ [s[k]'h] := by
  rw [List.take_add_one, List.getElem?_eq_getElem (by simpa using h)]
  rfl

set_option maxHeartbeats 3200000 in
theorem parseBits_yes (s : ByteArray) (hs : s.size ≤ 40) (hb : ∀ c ∈ s.data.toList, isB c) (w : World) : Calls Try.prog 10 #[.string s] w fun rv w' => rv = .returned (.tuple #[.int .i64 (bv s.data.toList), .bool true]) ∧ Ext w w' := by
  have HB := Lib.hid hb; clear hb
  go_enter Try.func10, Try.ntmps10
  go_wp2_with go_in
  go_loopw [4, 5, 8] (fun s4 _ s8 wr => ∃ k : Nat, s4 = .int .i64 (bv (s.data.toList.take k)) ∧ s8 = .int .i64 (k : Int) ∧ k ≤ s.size ∧ Ext w wr) (fun _ _ x _ => s.size - (intOf x).toNat)
  case atStart => exact ⟨0, by first | rfl | simp [bv], rfl, by omega, (by repeat (first | exact Ext.refl _ | with_reducible assumption | apply Ext.alloc | apply Ext.drew | apply Ext.drewN | (refine Ext.setRow ?_ (by first | (simp; done) | (simp; omega) | omega) _) | (refine Ext.setCell ?_ (by first | (simp; done) | (simp; omega) | omega) _) | (refine Ext.trans ?_ (by with_reducible assumption))))⟩
  case round =>
    obtain ⟨k, rfl, rfl, kn, hx⟩ := hrel
    by_cases hk : k < s.size
    · have q : (k : Int) < (s.size : Int) := by omega
      have hm := HB.out _ (List.getElem_mem (l := s.data.toList) (n := k) (by simpa using hk))
      have hm2 : isB (s[k]'hk) := hm
      obtain ⟨i1, i2⟩ := bv_bd s.data.toList HB.out k (by simpa using kn)
      have i3 : bv (s.data.toList.take k) < 1099511627776 := by
        have h2 : (2 : Int) ^ k = ((2 ^ k : Nat) : Int) := by simp
        rw [h2] at i2
        have h3 := Nat.pow_le_pow_right (n := 2) (by decide) (show k ≤ 40 by omega)
        have e40 : (2 : Nat) ^ 40 = 1099511627776 := by decide
        omega
      have ev : bv (s.data.toList.take (k + 1)) = 2 * bv (s.data.toList.take k) + (((s[k]'hk).toNat : Int) - 48) := by rw [get_take s k hk, bv_snoc]
      clear i2 hm
      generalize bv (s.data.toList.take k) = v at *
      have e3 : ((((s[k]'hk).toNat : Int) - 48) % 256) = ((s[k]'hk).toNat : Int) - 48 := by unfold isB at hm2; omega
      have e2 : bits .or .i64 (v * pw 1) (((s[k]'hk).toNat : Int) - 48) = v * pw 1 + (((s[k]'hk).toNat : Int) - 48) := or_pw v _ 1 (by omega) (by unfold isB at hm2; omega) (by rw [show pw 1 = 2 from by decide]; unfold isB at hm2; omega) (by rw [show pw 1 = 2 from by decide]; unfold isB at hm2; omega)
      have ev2 : bits .or .i64 (v * 2) ((((s[k]'hk).toNat : Int) - 48) % 256) = bv (s.data.toList.take (k + 1)) := by rw [show v * 2 = v * pw 1 from by rw [show pw 1 = 2 from by decide], e3, e2, ev, show pw 1 = 2 from by decide]; omega
      have EV := Lib.hid ev2
      clear ev e2 e3 ev2
      unfold isB at hm2
      rcases hm2 with hm2 | hm2
      · have c1 : (((s[k]'hk).toNat : Int) != 48) = false := by rw [hm2]; rfl
        have c2 : (((s[k]'hk).toNat : Int) != 49) = true := by rw [hm2]; rfl
        clear hm2
        go_wp2
        go_roundw
        all_goals first | (simp [intOf]; done) | (simp [intOf]; omega) | exact ⟨k + 1, by rw [EV.out], by simp, by omega, (by repeat (first | exact Ext.refl _ | with_reducible assumption | apply Ext.alloc | apply Ext.drew | apply Ext.drewN | (refine Ext.setRow ?_ (by first | (simp; done) | (simp; omega) | omega) _) | (refine Ext.setCell ?_ (by first | (simp; done) | (simp; omega) | omega) _) | (refine Ext.trans ?_ (by with_reducible assumption))))⟩
      · have c1 : (((s[k]'hk).toNat : Int) != 48) = true := by rw [hm2]; rfl
        have c2 : (((s[k]'hk).toNat : Int) != 49) = false := by rw [hm2]; rfl
        clear hm2
        go_wp2
        go_roundw
        all_goals first | (simp [intOf]; done) | (simp [intOf]; omega) | exact ⟨k + 1, by rw [EV.out], by simp, by omega, (by repeat (first | exact Ext.refl _ | with_reducible assumption | apply Ext.alloc | apply Ext.drew | apply Ext.drewN | (refine Ext.setRow ?_ (by first | (simp; done) | (simp; omega) | omega) _) | (refine Ext.setCell ?_ (by first | (simp; done) | (simp; omega) | omega) _) | (refine Ext.trans ?_ (by with_reducible assumption))))⟩
    · have q : ¬ (k : Int) < (s.size : Int) := by omega
      have kk : k = s.size := by omega
      have e0 : s.data.toList.take k = s.data.toList := List.take_of_length_le (by simp; omega)
      rw [e0]
      clear kk e0
      go_wp2
      go_ret2
      exact ⟨rfl, (by repeat (first | exact Ext.refl _ | with_reducible assumption | apply Ext.alloc | apply Ext.drew | apply Ext.drewN | (refine Ext.setRow ?_ (by first | (simp; done) | (simp; omega) | omega) _) | (refine Ext.setCell ?_ (by first | (simp; done) | (simp; omega) | omega) _) | (refine Ext.trans ?_ (by with_reducible assumption))))⟩

set_option maxHeartbeats 3200000 in
theorem parseBits_no (s : ByteArray) (hs : s.size ≤ 40) (hb : ¬ ∀ c ∈ s.data.toList, isB c) (w : World) : Calls Try.prog 10 #[.string s] w fun rv w' => rv = .returned (.tuple #[.int .i64 0, .bool false]) ∧ Ext w w' := by
  have HB := Lib.hid hb; clear hb
  go_enter Try.func10, Try.ntmps10
  go_wp2_with go_in
  go_loopw [4, 5, 8] (fun s4 _ s8 wr => ∃ k : Nat, s4 = .int .i64 (bv (s.data.toList.take k)) ∧ s8 = .int .i64 (k : Int) ∧ k ≤ s.size ∧ Hid (∀ c ∈ s.data.toList.take k, isB c) ∧ Ext w wr) (fun _ _ x _ => s.size - (intOf x).toNat)
  case atStart => exact ⟨0, by first | rfl | simp [bv], rfl, by omega, Lib.hid (by simp), (by repeat (first | exact Ext.refl _ | with_reducible assumption | apply Ext.alloc | apply Ext.drew | apply Ext.drewN | (refine Ext.setRow ?_ (by first | (simp; done) | (simp; omega) | omega) _) | (refine Ext.setCell ?_ (by first | (simp; done) | (simp; omega) | omega) _) | (refine Ext.trans ?_ (by with_reducible assumption))))⟩
  case round =>
    obtain ⟨k, rfl, rfl, kn, HP, hx⟩ := hrel
    by_cases hk : k < s.size
    · have q : (k : Int) < (s.size : Int) := by omega
      by_cases hm2 : isB (s[k]'hk)
      rotate_left
      · have c1 : (((s[k]'hk).toNat : Int) != 48) = true := by unfold isB at hm2; simp; omega
        have c2 : (((s[k]'hk).toNat : Int) != 49) = true := by unfold isB at hm2; simp; omega
        clear hm2
        go_wp2
        go_ret2
        exact ⟨rfl, (by repeat (first | exact Ext.refl _ | with_reducible assumption | apply Ext.alloc | apply Ext.drew | apply Ext.drewN | (refine Ext.setRow ?_ (by first | (simp; done) | (simp; omega) | omega) _) | (refine Ext.setCell ?_ (by first | (simp; done) | (simp; omega) | omega) _) | (refine Ext.trans ?_ (by with_reducible assumption))))⟩
      have HP2 : Hid (∀ c ∈ s.data.toList.take (k + 1), isB c) := Lib.hid (by rw [get_take s k hk]; intro c hc; rcases List.mem_append.1 hc with hc | hc; exact HP.out c hc; rw [List.mem_singleton.1 hc]; exact hm2)
      obtain ⟨i1, i2⟩ := bv_bd (s.data.toList.take k) HP.out k (by simp; omega)
      rw [List.take_take, Nat.min_self] at i1 i2
      have i3 : bv (s.data.toList.take k) < 1099511627776 := by
        have h2 : (2 : Int) ^ k = ((2 ^ k : Nat) : Int) := by simp
        rw [h2] at i2
        have h3 := Nat.pow_le_pow_right (n := 2) (by decide) (show k ≤ 40 by omega)
        have e40 : (2 : Nat) ^ 40 = 1099511627776 := by decide
        omega
      have ev : bv (s.data.toList.take (k + 1)) = 2 * bv (s.data.toList.take k) + (((s[k]'hk).toNat : Int) - 48) := by rw [get_take s k hk, bv_snoc]
      clear i2
      generalize bv (s.data.toList.take k) = v at *
      have e3 : ((((s[k]'hk).toNat : Int) - 48) % 256) = ((s[k]'hk).toNat : Int) - 48 := by unfold isB at hm2; omega
      have e2 : bits .or .i64 (v * pw 1) (((s[k]'hk).toNat : Int) - 48) = v * pw 1 + (((s[k]'hk).toNat : Int) - 48) := or_pw v _ 1 (by omega) (by unfold isB at hm2; omega) (by rw [show pw 1 = 2 from by decide]; unfold isB at hm2; omega) (by rw [show pw 1 = 2 from by decide]; unfold isB at hm2; omega)
      have ev2 : bits .or .i64 (v * 2) ((((s[k]'hk).toNat : Int) - 48) % 256) = bv (s.data.toList.take (k + 1)) := by rw [show v * 2 = v * pw 1 from by rw [show pw 1 = 2 from by decide], e3, e2, ev, show pw 1 = 2 from by decide]; omega
      have EV := Lib.hid ev2
      clear ev e2 e3 ev2
      unfold isB at hm2
      rcases hm2 with hm2 | hm2
      · have c1 : (((s[k]'hk).toNat : Int) != 48) = false := by rw [hm2]; rfl
        have c2 : (((s[k]'hk).toNat : Int) != 49) = true := by rw [hm2]; rfl
        clear hm2
        go_wp2
        go_roundw
        all_goals first | (simp [intOf]; done) | (simp [intOf]; omega) | exact ⟨k + 1, by rw [EV.out], by simp, by omega, HP2, (by repeat (first | exact Ext.refl _ | with_reducible assumption | apply Ext.alloc | apply Ext.drew | apply Ext.drewN | (refine Ext.setRow ?_ (by first | (simp; done) | (simp; omega) | omega) _) | (refine Ext.setCell ?_ (by first | (simp; done) | (simp; omega) | omega) _) | (refine Ext.trans ?_ (by with_reducible assumption))))⟩
      · have c1 : (((s[k]'hk).toNat : Int) != 48) = true := by rw [hm2]; rfl
        have c2 : (((s[k]'hk).toNat : Int) != 49) = false := by rw [hm2]; rfl
        clear hm2
        go_wp2
        go_roundw
        all_goals first | (simp [intOf]; done) | (simp [intOf]; omega) | exact ⟨k + 1, by rw [EV.out], by simp, by omega, HP2, (by repeat (first | exact Ext.refl _ | with_reducible assumption | apply Ext.alloc | apply Ext.drew | apply Ext.drewN | (refine Ext.setRow ?_ (by first | (simp; done) | (simp; omega) | omega) _) | (refine Ext.setCell ?_ (by first | (simp; done) | (simp; omega) | omega) _) | (refine Ext.trans ?_ (by with_reducible assumption))))⟩
    · have q : ¬ (k : Int) < (s.size : Int) := by omega
      exact absurd (fun c hc => HP.out c (by rw [List.take_of_length_le (by simp; omega)]; exact hc)) HB.out

end Go.Proofs.Ytfgbndjhaiigbab
