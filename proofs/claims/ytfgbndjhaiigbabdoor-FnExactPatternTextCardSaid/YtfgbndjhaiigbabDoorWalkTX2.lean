/-
  Texts of dyadic numbers, of the model.
-/
import Derived.Test.YtfgbndjhaiigbabDoorRows
import Derived.Test.YtfgbndjhaiigbabDoorPlain
import Derived.Test.YtfgbndjhaiigbabDoorBelow
import Derived.Test.YtfgbndjhaiigbabDoorNear
import Derived.Test.YtfgbndjhaiigbabDoorDy
import Derived.Test.YtfgbndjhaiigbabDoorDyC
import Derived.Test.YtfgbndjhaiigbabDoorWalkA
import Derived.Test.YtfgbndjhaiigbabDoorWalkDA
import Derived.Test.YtfgbndjhaiigbabDoorWalkTX1
import Derived.Test.YtfgbndjhaiigbabDoorTxt
import Derived.WalkKit
import Derived.LoopTactic
import Derived.Laws.Bits64b
import Derived.WalkSpells
import Derived.WalkLawsBesides
import Derived.StillTactics
import Derived.Laws.Pointers
import Derived.Deep.RegionHeld3
import Derived.Deep.QuietTactic
import Derived.BigQuiet
import Derived.Outline
import Derived.Lib.Hide
import Derived.RowKit3
import Derived.Carry
import Derived.IntWalk
import Derived.Lib.ItoaNum
import Derived.Laws.BytesString
namespace Go.Proofs.YtfgbndjhaiigbabDoor
open Go Go.RowKit
set_option linter.unusedSimpArgs false
set_option linter.unusedVariables false

set_option maxRecDepth 100000

theorem star3 (a b : List UInt8) : ((⟨a.toArray⟩ : ByteArray) ++ ⟨#[42, 50, 94]⟩ ++ ⟨b.toArray⟩) = ⟨(a ++ [42, 50, 94] ++ b).toArray⟩ := by
  apply ByteArray.ext
  simp [ByteArray.data_append]

/-- What a text's signs come to, the sign and the digits so far. -/
def evS (st : Int × Int) (c : UInt8) : Int × Int := if c.toNat = 45 then (st.1, -1) else (10 * st.1 + ((c.toNat : Int) - 48), st.2)
def evL (l : List UInt8) : Int × Int := l.foldl evS (0, 1)
def okC (c : UInt8) : Prop := c.toNat = 45 ∨ (48 ≤ c.toNat ∧ c.toNat ≤ 57)
theorem ev_dec (u : Nat) (g : Int) : (Lib.decDigits u).foldl evS (0, g) = ((u : Int), g) := by
  induction u using Nat.strongRecOn with
  | ind u ih =>
    by_cases h : u < 10
    · rw [decT_small h]
      simp only [List.foldl_cons, List.foldl_nil, evS, dig_nat h]
      rw [if_neg (by omega)]
      simp only [Prod.mk.injEq, and_true]
      omega
    · rw [decT_great h, List.foldl_append, ih (u / 10) (by omega)]
      simp only [List.foldl_cons, List.foldl_nil, evS, dig_nat (Nat.mod_lt u (show 0 < 10 by decide))]
      rw [if_neg (by omega)]
      simp only [Prod.mk.injEq, and_true]
      omega
theorem ev_itoa (m : Int) : (evL (Lib.itoa m)).2 * (evL (Lib.itoa m)).1 = m := by
  unfold evL Lib.itoa
  by_cases h : m < 0
  · rw [if_pos h, List.foldl_cons, show evS (0, 1) 45 = (0, -1) from rfl, ev_dec]
    simp only []
    omega
  · rw [if_neg h, ev_dec]
    simp only []
    omega

theorem byte_mem (s : ByteArray) (k : Nat) (h : k < s.size) : s[k]'h ∈ s.data.toList := by
  have h2 : k < s.data.toList.length := by simpa using h
  exact List.mem_of_getElem (h := h2) (by rfl)
theorem take_byte (s : ByteArray) (k : Nat) (h : k < s.size) : s.data.toList.take (k + 1) = s.data.toList.take k ++ [s[k]'h] := by
  have h2 : k < s.data.toList.length := by simpa using h
  rw [List.take_succ_eq_append_getElem h2]
  rfl
theorem itoa_small {m : Int} (hl : (Lib.itoa m).length ≤ 18) : -1000000000000000000 < m ∧ m < 1000000000000000000 := by
  have key : ∀ u : Nat, (Lib.decDigits u).length ≤ 18 → u < 1000000000000000000 := fun u h => by
    have h1 := Lib.lt_pow_nDigits u
    rw [Lib.decDigits_length] at h
    have h2 : 10 ^ Lib.nDigits u ≤ 10 ^ 18 := Nat.pow_le_pow_right (by decide) h
    have h3 : (10 : Nat) ^ 18 = 1000000000000000000 := by decide
    omega
  unfold Lib.itoa at hl
  by_cases h : m < 0
  · rw [if_pos h, List.length_cons] at hl
    have := key m.natAbs (by omega)
    omega
  · rw [if_neg h] at hl
    have := key m.toNat hl
    omega
/-- What rdWhole comes to behind so many signs: the digits and the sign. -/
def rwS (s : ByteArray) : Nat → Int × Int
  | 0 => (0, 1)
  | k + 1 => if h : k < s.size then (if ((s[k]'h).toNat : Int) = 45 then ((rwS s k).1, -1) else (wrap64 (wrap64 (10 * (rwS s k).1) + (((s[k]'h).toNat : Int) - 48) % 256), (rwS s k).2)) else rwS s k
def rwV (s : ByteArray) : Int := wrap64 ((rwS s (min 18 s.size)).2 * (rwS s (min 18 s.size)).1)
theorem rw_ev (s : ByteArray) (ho : ∀ c ∈ s.data.toList, okC c) : ∀ k, k ≤ s.size → k ≤ 18 → rwS s k = evL (s.data.toList.take k) ∧ 0 ≤ (rwS s k).1 ∧ (rwS s k).1 < 10 ^ k
  | 0, _, _ => ⟨rfl, by show (0 : Int) ≤ 0; decide, by show (0 : Int) < 10 ^ 0; decide⟩
  | k + 1, h1, h2 => by
    have hk : k < s.size := by omega
    obtain ⟨e1, e2, e3⟩ := rw_ev s ho k (by omega) (by omega)
    have tk := take_byte s k hk
    have oc := ho (s[k]'hk) (byte_mem s k hk)
    unfold rwS
    rw [dif_pos hk]
    by_cases hc : ((s[k]'hk).toNat : Int) = 45
    · rw [if_pos hc]
      refine ⟨?_, e2, ?_⟩
      · rw [tk, evL, List.foldl_append]
        show _ = evS (evL (s.data.toList.take k)) (s[k]'hk)
        rw [← e1, evS, if_pos (by omega)]
      · simp only []
        rw [Int.pow_succ]; omega
    · rw [if_neg hc]
      have p1 : (10 : Int) ^ k ≤ 10 ^ 17 := by
        have := Nat.pow_le_pow_right (n := 10) (by decide) (show k ≤ 17 by omega)
        exact_mod_cast this
      have h48 : 48 ≤ (s[k]'hk).toNat ∧ (s[k]'hk).toNat ≤ 57 := by
        rcases oc with h | h
        · exact absurd (by omega) hc
        · exact h
      have e4 : (((s[k]'hk).toNat : Int) - 48) % 256 = ((s[k]'hk).toNat : Int) - 48 := by omega
      have p17 : (10 : Int) ^ 17 = 100000000000000000 := by decide
      rw [e4, IntWalk.wrap64_in (10 * (rwS s k).1) (by omega), IntWalk.wrap64_in _ (by omega)]
      refine ⟨?_, by simp only []; omega, ?_⟩
      · rw [tk, evL, List.foldl_append]
        show _ = evS (evL (s.data.toList.take k)) (s[k]'hk)
        rw [← e1, evS, if_neg (by omega)]
      · simp only []
        rw [Int.pow_succ]; omega
theorem rw_itoa {s : ByteArray} {m : Int} (hm : s.data.toList = Lib.itoa m) (hl : (Lib.itoa m).length ≤ 18) : rwV s = m := by
  have hsz : s.data.toList.length = s.size := by simp
  rw [hm] at hsz
  have hk : min 18 s.size = s.size := by omega
  obtain ⟨e1, _, _⟩ := rw_ev s (fun c hc => by rw [hm] at hc; exact itoa_chars m c hc) s.size (Nat.le_refl _) (by omega)
  rw [List.take_of_length_le (by rw [hm]; omega), hm] at e1
  unfold rwV
  rw [hk, e1, ev_itoa]
  have := itoa_small hl
  exact IntWalk.wrap64_in m (by omega)

end Go.Proofs.YtfgbndjhaiigbabDoor
