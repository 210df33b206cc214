/-
  Texts of dyadic numbers, of the model.
-/
import Derived.Test.YtadhllmhlnfkgabDoorRows
import Derived.Test.YtadhllmhlnfkgabDoorPlain
import Derived.Test.YtadhllmhlnfkgabDoorBelow
import Derived.Test.YtadhllmhlnfkgabDoorNear
import Derived.Test.YtadhllmhlnfkgabDoorDy
import Derived.Test.YtadhllmhlnfkgabDoorDyC
import Derived.Test.YtadhllmhlnfkgabDoorWalkA
import Derived.Test.YtadhllmhlnfkgabDoorWalkDA
import Derived.Test.YtadhllmhlnfkgabDoorWalkTX1
import Derived.Test.YtadhllmhlnfkgabDoorTxt
import Derived.WalkKit
import Derived.LoopTactic
import Derived.Laws.Bits64b
import Derived.WalkSpells
import Derived.WalkLawsBesides
import Derived.StillTactics
import Derived.Laws.Pointers
import Derived.Deep.RegionHeld3
import Derived.Deep.QuietTactic
import Derived.BigQuiet
import Derived.Outline
import Derived.Lib.Hide
import Derived.RowKit3
import Derived.Carry
import Derived.IntWalk
import Derived.Lib.ItoaNum
import Derived.Laws.BytesString
namespace Go.Proofs.YtadhllmhlnfkgabDoor
open Go Go.RowKit
set_option linter.unusedSimpArgs false
set_option linter.unusedVariables false

set_option maxRecDepth 100000

theorem star3 (a b : List UInt8) : ((⟨a.toArray⟩ : ByteArray) ++ ⟨#[42, 50, 94]⟩ ++ ⟨b.toArray⟩) = ⟨(a ++ [42, 50, 94] ++ b).toArray⟩ := by
  apply ByteArray.ext
  simp [ByteArray.data_append]

theorem rdText_any (n d : Int) (h1 : -9223372036854775808 < n) (h2 : n < 9223372036854775808) (h3 : -9223372036854775808 < d) (h4 : d < 9223372036854775808) (w : World) : Calls Tryd.prog 52 #[two n d] w fun rv w' => rv = .returned (.string ⟨(Lib.itoa n ++ [42, 50, 94] ++ Lib.itoa d).toArray⟩) ∧ Ext w w' := by
  have LN_ := Lib.hid (fun w => rdInt_any n h1 h2 w)
  have LD := Lib.hid (fun w => rdInt_any d h3 h4 w)
  have l1 := itoa_len h1 h2
  have l2 := itoa_len h3 h4
  have c1 : ¬ 9223372036854775807 < (Lib.itoa n).length + 3 := by omega
  have c2 : ¬ 9223372036854775807 < (Lib.itoa n).length + 3 + (Lib.itoa d).length := by omega
  rw [← star3]
  clear h1 h2 h3 h4 l1 l2
  generalize Lib.itoa n = x at *
  generalize Lib.itoa d = y at *
  go_enter Tryd.func52, Tryd.ntmps52
  go_wp2_with fail
  first | (go_region_with (first | (go_at_call 94; (with_reducible refine (LN_.out _).mono ?_); rintro rv w1 ⟨rfl, hb⟩; have ns : w.heap.size < w1.heap.size := hb.lt (by first | with_reducible assumption | omega | (simp; done) | (simp; omega)); have n0 : w1.cell? ⟨w.heap.size, 0, none⟩ = some (.int .i64 n) := (hb.cells _ _ (by first | with_reducible assumption | omega | (simp; done) | (simp; omega))).trans (by first | with_reducible assumption | (simp; done) | (simp; with_reducible assumption) | (rw [cell_alloc_before _ _ _ _ (by omega)]; with_reducible assumption) | (simp [go_sem, *]; done)); have n1 : w1.cell? ⟨w.heap.size, 1, none⟩ = some (.int .i64 d) := (hb.cells _ _ (by first | with_reducible assumption | omega | (simp; done) | (simp; omega))).trans (by first | with_reducible assumption | (simp; done) | (simp; with_reducible assumption) | (rw [cell_alloc_before _ _ _ _ (by omega)]; with_reducible assumption) | (simp [go_sem, *]; done)); (first | (have nx := Ext.trans hx hb; clear hx) | (have nx := Ext.trans (hx.alloc _) hb; clear hx) | (have nx := Ext.trans hx.drew hb; clear hx) | have nx := hb); clear hb; try clear hs; try clear g0; try clear g1; have hx := nx; clear nx; have hs := ns; clear ns; have g0 := n0; clear n0; have g1 := n1; clear n1) | (go_at_call 94; (with_reducible refine (LD.out _).mono ?_); rintro rv w1 ⟨rfl, hb⟩; have ns : w.heap.size < w1.heap.size := hb.lt (by first | with_reducible assumption | omega | (simp; done) | (simp; omega)); have n0 : w1.cell? ⟨w.heap.size, 0, none⟩ = some (.int .i64 n) := (hb.cells _ _ (by first | with_reducible assumption | omega | (simp; done) | (simp; omega))).trans (by first | with_reducible assumption | (simp; done) | (simp; with_reducible assumption) | (rw [cell_alloc_before _ _ _ _ (by omega)]; with_reducible assumption) | (simp [go_sem, *]; done)); have n1 : w1.cell? ⟨w.heap.size, 1, none⟩ = some (.int .i64 d) := (hb.cells _ _ (by first | with_reducible assumption | omega | (simp; done) | (simp; omega))).trans (by first | with_reducible assumption | (simp; done) | (simp; with_reducible assumption) | (rw [cell_alloc_before _ _ _ _ (by omega)]; with_reducible assumption) | (simp [go_sem, *]; done)); (first | (have nx := Ext.trans hx hb; clear hx) | (have nx := Ext.trans (hx.alloc _) hb; clear hx) | (have nx := Ext.trans hx.drew hb; clear hx) | have nx := hb); clear hb; try clear hs; try clear g0; try clear g1; have hx := nx; clear nx; have hs := ns; clear ns; have g0 := n0; clear n0; have g1 := n1; clear n1))) | fail
  all_goals go_wp2_with fail
  all_goals go_ret
  all_goals exact ⟨rfl, (by repeat (first | exact Ext.refl _ | with_reducible assumption | apply Ext.alloc | apply Ext.drew | apply Ext.drewN | (refine Ext.setRow ?_ (by first | (simp; done) | (simp; omega) | omega) _) | (refine Ext.setCell ?_ (by first | (simp; done) | (simp; omega) | omega) _) | (refine Ext.trans ?_ (by with_reducible assumption))))⟩

/-- What a text's signs come to, the sign and the digits so far. -/
def evS (st : Int × Int) (c : UInt8) : Int × Int := if c.toNat = 45 then (st.1, -1) else (10 * st.1 + ((c.toNat : Int) - 48), st.2)
def evL (l : List UInt8) : Int × Int := l.foldl evS (0, 1)
def okC (c : UInt8) : Prop := c.toNat = 45 ∨ (48 ≤ c.toNat ∧ c.toNat ≤ 57)
theorem ev_dec (u : Nat) (g : Int) : (Lib.decDigits u).foldl evS (0, g) = ((u : Int), g) := by
  induction u using Nat.strongRecOn with
  | ind u ih =>
    by_cases h : u < 10
    · rw [decT_small h]
      simp only [List.foldl_cons, List.foldl_nil, evS, dig_nat h]
      rw [if_neg (by omega)]
      simp only [Prod.mk.injEq, and_true]
      omega
    · rw [decT_great h, List.foldl_append, ih (u / 10) (by omega)]
      simp only [List.foldl_cons, List.foldl_nil, evS, dig_nat (Nat.mod_lt u (show 0 < 10 by decide))]
      rw [if_neg (by omega)]
      simp only [Prod.mk.injEq, and_true]
      omega
theorem ev_itoa (m : Int) : (evL (Lib.itoa m)).2 * (evL (Lib.itoa m)).1 = m := by
  unfold evL Lib.itoa
  by_cases h : m < 0
  · rw [if_pos h, List.foldl_cons, show evS (0, 1) 45 = (0, -1) from rfl, ev_dec]
    simp only []
    omega
  · rw [if_neg h, ev_dec]
    simp only []
    omega

theorem byte_mem (s : ByteArray) (k : Nat) (h : k < s.size) : s[k]'h ∈ s.data.toList := by
  have h2 : k < s.data.toList.length := by simpa using h
  exact List.mem_of_getElem (h := h2) (by rfl)
theorem take_byte (s : ByteArray) (k : Nat) (h : k < s.size) : s.data.toList.take (k + 1) = s.data.toList.take k ++ [s[k]'h] := by
  have h2 : k < s.data.toList.length := by simpa using h
  rw [List.take_succ_eq_append_getElem h2]
  rfl
theorem itoa_small {m : Int} (hl : (Lib.itoa m).length ≤ 18) : -1000000000000000000 < m ∧ m < 1000000000000000000 := by
  have key : ∀ u : Nat, (Lib.decDigits u).length ≤ 18 → u < 1000000000000000000 := fun u h => by
    have h1 := Lib.lt_pow_nDigits u
    rw [Lib.decDigits_length] at h
    have h2 : 10 ^ Lib.nDigits u ≤ 10 ^ 18 := Nat.pow_le_pow_right (by decide) h
    have h3 : (10 : Nat) ^ 18 = 1000000000000000000 := by decide
    omega
  unfold Lib.itoa at hl
  by_cases h : m < 0
  · rw [if_pos h, List.length_cons] at hl
    have := key m.natAbs (by omega)
    omega
  · rw [if_neg h] at hl
    have := key m.toNat hl
    omega
/-- What rdWhole comes to behind so many signs: the digits and the sign. -/
def rwS (s : ByteArray) : Nat → Int × Int
  | 0 => (0, 1)
  | k + 1 => if h : k < s.size then (if ((s[k]'h).toNat : Int) = 45 then ((rwS s k).1, -1) else (wrap64 (wrap64 (10 * (rwS s k).1) + (((s[k]'h).toNat : Int) - 48) % 256), (rwS s k).2)) else rwS s k
def rwV (s : ByteArray) : Int := wrap64 ((rwS s (min 18 s.size)).2 * (rwS s (min 18 s.size)).1)
theorem rw_ev (s : ByteArray) (ho : ∀ c ∈ s.data.toList, okC c) : ∀ k, k ≤ s.size → k ≤ 18 → rwS s k = evL (s.data.toList.take k) ∧ 0 ≤ (rwS s k).1 ∧ (rwS s k).1 < 10 ^ k
  | 0, _, _ => ⟨rfl, by show (0 : Int) ≤ 0; decide, by show (0 : Int) < 10 ^ 0; decide⟩
  | k + 1, h1, h2 => by
    have hk : k < s.size := by omega
    obtain ⟨e1, e2, e3⟩ := rw_ev s ho k (by omega) (by omega)
    have tk := take_byte s k hk
    have oc := ho (s[k]'hk) (byte_mem s k hk)
    unfold rwS
    rw [dif_pos hk]
    by_cases hc : ((s[k]'hk).toNat : Int) = 45
    · rw [if_pos hc]
      refine ⟨?_, e2, ?_⟩
      · rw [tk, evL, List.foldl_append]
        show _ = evS (evL (s.data.toList.take k)) (s[k]'hk)
        rw [← e1, evS, if_pos (by omega)]
      · simp only []
        rw [Int.pow_succ]; omega
    · rw [if_neg hc]
      have p1 : (10 : Int) ^ k ≤ 10 ^ 17 := by
        have := Nat.pow_le_pow_right (n := 10) (by decide) (show k ≤ 17 by omega)
        exact_mod_cast this
      have h48 : 48 ≤ (s[k]'hk).toNat ∧ (s[k]'hk).toNat ≤ 57 := by
        rcases oc with h | h
        · exact absurd (by omega) hc
        · exact h
      have e4 : (((s[k]'hk).toNat : Int) - 48) % 256 = ((s[k]'hk).toNat : Int) - 48 := by omega
      have p17 : (10 : Int) ^ 17 = 100000000000000000 := by decide
      rw [e4, IntWalk.wrap64_in (10 * (rwS s k).1) (by omega), IntWalk.wrap64_in _ (by omega)]
      refine ⟨?_, by simp only []; omega, ?_⟩
      · rw [tk, evL, List.foldl_append]
        show _ = evS (evL (s.data.toList.take k)) (s[k]'hk)
        rw [← e1, evS, if_neg (by omega)]
      · simp only []
        rw [Int.pow_succ]; omega
theorem rw_itoa {s : ByteArray} {m : Int} (hm : s.data.toList = Lib.itoa m) (hl : (Lib.itoa m).length ≤ 18) : rwV s = m := by
  have hsz : s.data.toList.length = s.size := by simp
  rw [hm] at hsz
  have hk : min 18 s.size = s.size := by omega
  obtain ⟨e1, _, _⟩ := rw_ev s (fun c hc => by rw [hm] at hc; exact itoa_chars m c hc) s.size (Nat.le_refl _) (by omega)
  rw [List.take_of_length_le (by rw [hm]; omega), hm] at e1
  unfold rwV
  rw [hk, e1, ev_itoa]
  have := itoa_small hl
  exact IntWalk.wrap64_in m (by omega)

theorem rdWhole_any (s : ByteArray) (hs : s.size ≤ 1048576) (w : World) : Calls Tryd.prog 97 #[.string s] w fun rv w' => rv = .returned (.int .i64 (rwV s)) ∧ w = w' := by
  go_enter Tryd.func97, Tryd.ntmps97
  go_wp2
  go_loop [3, 4, 5] (fun s3 s4 s5 => ∃ (k : Nat), s3 = .int .i64 (rwS s k).1 ∧ s4 = .int .i64 (rwS s k).2 ∧ s5 = .int .i64 (k : Int) ∧ k ≤ 18 ∧ k ≤ s.size) (fun _ _ x => 18 - (intOf x).toNat)
  case atStart => exact ⟨0, rfl, rfl, rfl, by decide, by omega⟩
  case round =>
    obtain ⟨k, rfl, rfl, rfl, k18, ks⟩ := hrel
    have HV : (min 18 s.size = k) → rwV s = wrap64 ((rwS s k).2 * (rwS s k).1) := fun h => by unfold rwV; rw [h]
    by_cases hk : k < s.size
    · by_cases hk2 : k < 18
      · have q1 : ((k : Nat) : Int) < (s.size : Int) := by omega
        have q2 : ((k : Nat) : Int) < 18 := by omega
        have q3 : (0 : Int) ≤ (k : Int) := by omega
        by_cases hc : ((s[k]'hk).toNat : Int) = 45
        · have hcb : (((s[k]'hk).toNat : Int) == 45) = true := by simpa using hc
          have HF : rwS s (k + 1) = ((rwS s k).1, -1) := by rw [rwS, dif_pos hk, if_pos hc]
          have HF := Lib.hid HF
          clear hc HV
          generalize (rwS s k).1 = n at *
          generalize (rwS s k).2 = g at *
          go_wp2
          go_round
          case rel => exact ⟨k + 1, by rw [HF.out], by rw [HF.out], by simp, by omega, by omega⟩
          case measure => simp [intOf]; omega
        · have hcb : (((s[k]'hk).toNat : Int) == 45) = false := by simpa using hc
          have HF : rwS s (k + 1) = (wrap64 (wrap64 (10 * (rwS s k).1) + (((s[k]'hk).toNat : Int) - 48) % 256), (rwS s k).2) := by rw [rwS, dif_pos hk, if_neg hc]
          have HF := Lib.hid HF
          clear hc HV
          generalize (rwS s k).1 = n at *
          generalize (rwS s k).2 = g at *
          go_wp2
          go_round
          case rel => exact ⟨k + 1, by rw [HF.out], by rw [HF.out], by simp, by omega, by omega⟩
          case measure => simp [intOf]; omega
      · have q1 : ((k : Nat) : Int) < (s.size : Int) := by omega
        have q2 : ¬ ((k : Nat) : Int) < 18 := by omega
        have HV := Lib.hid (HV (by omega))
        generalize (rwS s k).1 = n at *
        generalize (rwS s k).2 = g at *
        go_wp2
        go_ret
        exact ⟨by rw [HV.out]; rfl, rfl⟩
    · have q1 : ¬ ((k : Nat) : Int) < (s.size : Int) := by omega
      have HV := Lib.hid (HV (by omega))
      generalize (rwS s k).1 = n at *
      generalize (rwS s k).2 = g at *
      go_wp2
      go_ret
      exact ⟨by rw [HV.out]; rfl, rfl⟩

end Go.Proofs.YtadhllmhlnfkgabDoor
