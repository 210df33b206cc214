/-
  Contracts of the functions that the laws reach, and the plain facts that they rest on, each under the conditions that its line names; part 8.
-/
import Derived.Test.YtmddlbphanlfhaaGreatDoorKps1
import Derived.Test.YtmddlbphanlfhaaGreatDoorKps2
import Derived.Test.YtmddlbphanlfhaaGreatDoorKps3
import Derived.Test.YtmddlbphanlfhaaGreatDoorKps4
import Derived.Test.YtmddlbphanlfhaaGreatDoorKps5
import Derived.Test.YtmddlbphanlfhaaGreatDoorKps6
import Derived.Test.YtmddlbphanlfhaaGreatDoorKps7
import Derived.Test.YtmddlbphanlfhaaGreatDoorRows
import Derived.WalkKit
import Derived.LoopTactic
import Derived.Laws.Bits64b
import Derived.WalkSpells
import Derived.WalkLawsBesides
import Derived.StillTactics
import Derived.Laws.Pointers
import Derived.Deep.RegionHeld3
import Derived.Deep.QuietTactic
import Derived.BigQuiet
import Derived.Outline
import Derived.Lib.Hide
import Derived.RowKit3
import Derived.Carry
import Derived.IntWalk
import Derived.Lib.ItoaNum
import Derived.Laws.BytesString
namespace Go.Proofs.YtmddlbphanlfhaaGreatDoor
open Go Go.RowKit
set_option linter.unusedSimpArgs false
set_option linter.unusedVariables false
set_option maxRecDepth 100000

theorem take_byte (s : ByteArray) (k : Nat) (h : k < s.size) : s.data.toList.take (k + 1) = s.data.toList.take k ++ [s[k]'h] := by
  have h2 : k < s.data.toList.length := by simpa using h
  rw [List.take_succ_eq_append_getElem h2]
  rfl
end Go.Proofs.YtmddlbphanlfhaaGreatDoor

namespace Go.Proofs.YtmddlbphanlfhaaGreatDoor
open Go Go.RowKit
set_option linter.unusedSimpArgs false
set_option linter.unusedVariables false
set_option maxRecDepth 100000

/-- What the first bytes come to. -/
def rdF (s : ByteArray) : Nat → Int
  | 0 => 0
  | k + 1 => if h : k < s.size then 10 * rdF s k + (((s[k]'h).toNat : Int) - 48) else rdF s k

/-- The first bytes are digits. -/
def dgA (s : ByteArray) (k : Nat) : Prop := ∀ i (h : i < s.size), i < k → 48 ≤ (s[i]'h).toNat ∧ (s[i]'h).toNat ≤ 57

theorem rdF_bd (s : ByteArray) : ∀ k, dgA s k → 0 ≤ rdF s k ∧ rdF s k < 10 ^ k
  | 0, _ => ⟨by show (0 : Int) ≤ 0; decide, by show (0 : Int) < 10 ^ 0; decide⟩
  | k + 1, hd => by
    obtain ⟨e1, e2⟩ := rdF_bd s k (fun i h hi => hd i h (by omega))
    unfold rdF
    rw [Int.pow_succ]
    by_cases h : k < s.size
    · rw [dif_pos h]
      have := hd k h (by omega)
      omega
    · rw [dif_neg h]; omega

open Classical in
/-- What l1Read answers. -/
noncomputable def l1rV (s : ByteArray) : Int := if 1 ≤ s.size ∧ s.size ≤ 6 ∧ ¬ (1 < s.size ∧ ∃ h : 0 < s.size, (s[0]'h).toNat = 48) ∧ dgA s s.size then rdF s s.size else -1

set_option maxHeartbeats 1600000 in
theorem l1Read_any (s : ByteArray) (hs : s.size ≤ 1048576) (w : World) : Calls Tryz.prog 19 #[.string s] w fun rv w' => rv = .returned (.int .i64 (l1rV s)) ∧ w = w' := by
  by_cases hz : 1 ≤ s.size ∧ s.size ≤ 6
  · have z1 : (1 : Int) ≤ (s.size : Int) := by omega
    have z2 : (s.size : Int) ≤ 6 := by omega
    have h0 : 0 < s.size := by omega
    have z3 : (0 : Int) < (s.size : Int) := by omega
    by_cases hc : 1 < s.size ∧ (s[0]'h0).toNat = 48
    · obtain ⟨c1, c2⟩ := hc
      have HV : l1rV s = -1 := by
        unfold l1rV
        rw [if_neg]
        rintro ⟨_, _, h, _⟩
        exact h ⟨c1, h0, c2⟩
      have HV := Lib.hid HV
      have q1 : (((s[0]'h0).toNat : Int) == 48) = true := by simp; omega
      have q2 : (1 : Int) < (s.size : Int) := by omega
      clear c2 hz
      go_enter Tryz.func19, Tryz.ntmps19
      go_wp2_with (go_at_call 36; refine (l1In_any _ _ _ _).mono ?_; rintro rv w1 ⟨rfl, rfl⟩)
      go_ret
      exact ⟨by rw [HV.out]; rfl, rfl⟩
    · have HN : RowKit.Hid (dgA s s.size → l1rV s = rdF s s.size) := Lib.hid (fun h => by
        unfold l1rV
        rw [if_pos]
        exact ⟨hz.1, hz.2, fun ⟨a, _, b⟩ => hc ⟨a, b⟩, h⟩)
      have HB : RowKit.Hid (¬ dgA s s.size → l1rV s = -1) := Lib.hid (fun h => by
        unfold l1rV
        rw [if_neg]
        exact fun ⟨_, _, _, g⟩ => h g)
      have hcc : ((((s[0]'h0).toNat : Int) == 48) = true ∧ ¬ (1 : Int) < (s.size : Int)) ∨ (((s[0]'h0).toNat : Int) == 48) = false := by
        by_cases g : (s[0]'h0).toNat = 48
        · exact .inl ⟨by simp; omega, by omega⟩
        · exact .inr (by simp; omega)
      clear hc
      rcases hcc with ⟨q1, q2⟩ | q1
      all_goals
        go_enter Tryz.func19, Tryz.ntmps19
        go_wp2_with (go_at_call 36; refine (l1In_any _ _ _ _).mono ?_; rintro rv w1 ⟨rfl, rfl⟩)
        go_loop [3, 4] (fun s3 s4 => ∃ (k : Nat), s3 = .int .i64 (rdF s k) ∧ s4 = .int .i64 (k : Int) ∧ k ≤ s.size ∧ RowKit.Hid (dgA s k)) (fun _ x => s.size - (intOf x).toNat)
        case atStart => exact ⟨0, rfl, rfl, by omega, Lib.hid (fun i h hi => absurd hi (by omega))⟩
        case round =>
          clear q1
          obtain ⟨k, rfl, rfl, ks, HD⟩ := hrel
          by_cases hk : k < s.size
          · have p1 : ((k : Nat) : Int) < (s.size : Int) := by omega
            have p2 : (0 : Int) ≤ (k : Int) := by omega
            by_cases hd : 48 ≤ (s[k]'hk).toNat ∧ (s[k]'hk).toNat ≤ 57
            · have HD2 : RowKit.Hid (dgA s (k + 1)) := Lib.hid (fun i h hi => by
                rcases (show i < k ∨ i = k by omega) with g | rfl
                · exact HD.out i h g
                · exact hd)
              obtain ⟨e1, e2⟩ := rdF_bd s k HD.out
              have e3 : (10 : Int) ^ k ≤ 10 ^ 6 := by
                have := Nat.pow_le_pow_right (n := 10) (by decide) (show k ≤ 6 by omega)
                exact_mod_cast this
              have e4 : (10 : Int) ^ 6 = 1000000 := by decide
              have HF : rdF s (k + 1) = 10 * rdF s k + (((s[k]'hk).toNat : Int) - 48) := by rw [rdF, dif_pos hk]
              have d1 : ¬ ((s[k]'hk).toNat : Int) < 48 := by omega
              have d2 : ¬ (57 : Int) < ((s[k]'hk).toNat : Int) := by omega
              have d3 : (((s[k]'hk).toNat : Int) - 48) % 256 = ((s[k]'hk).toNat : Int) - 48 := by omega
              have HF := Lib.hid HF
              have w1 : IntKind.i64.wrap (10 * rdF s k) = 10 * rdF s k := IntWalk.i64_in _ (by omega)
              have w2 : IntKind.i64.wrap (10 * rdF s k + (((s[k]'hk).toNat : Int) - 48)) = 10 * rdF s k + (((s[k]'hk).toNat : Int) - 48) := IntWalk.i64_in _ (by omega)
              have w3 : wrap64 (10 * rdF s k) = 10 * rdF s k := IntWalk.wrap64_in _ (by omega)
              have w4 : wrap64 (10 * rdF s k + (((s[k]'hk).toNat : Int) - 48)) = 10 * rdF s k + (((s[k]'hk).toNat : Int) - 48) := IntWalk.wrap64_in _ (by omega)
              clear hd e1 e2 e3 e4 HN HB
              generalize rdF s k = n at *
              go_wp2
              go_round
              case rel => exact ⟨k + 1, by rw [HF.out], by simp, by omega, HD2⟩
              case measure => simp [intOf]; omega
            · have HV := Lib.hid (HB.out (fun g => hd (g k hk hk)))
              have hdd : ((s[k]'hk).toNat : Int) < 48 ∨ (¬ ((s[k]'hk).toNat : Int) < 48 ∧ (57 : Int) < ((s[k]'hk).toNat : Int)) := by omega
              clear hd HN HB
              rcases hdd with d1 | ⟨d1, d2⟩
              all_goals
                go_wp2
                go_ret
                exact ⟨by rw [HV.out]; rfl, rfl⟩
          · have p1 : ¬ ((k : Nat) : Int) < (s.size : Int) := by omega
            obtain rfl : k = s.size := by omega
            have HV := Lib.hid (HN.out HD.out)
            clear HN HB
            generalize rdF s s.size = n at *
            go_wp2
            go_ret
            exact ⟨by rw [HV.out]; rfl, rfl⟩
  · have HV : l1rV s = -1 := by
      unfold l1rV
      rw [if_neg]
      exact fun ⟨a, b, _⟩ => hz ⟨a, b⟩
    have HV := Lib.hid HV
    have z1 : decide ((1 : Int) ≤ (s.size : Int) ∧ (s.size : Int) ≤ 6) = false := by simp; omega
    have z2 : ¬ ((1 : Int) ≤ (s.size : Int) ∧ (s.size : Int) ≤ 6) := by omega
    clear hz
    go_enter Tryz.func19, Tryz.ntmps19
    go_wp2_with (go_at_call 36; refine (l1In_any _ _ _ _).mono ?_; rintro rv w1 ⟨rfl, rfl⟩)
    go_ret
    exact ⟨by rw [HV.out]; rfl, rfl⟩
end Go.Proofs.YtmddlbphanlfhaaGreatDoor

namespace Go.Proofs.YtmddlbphanlfhaaGreatDoor
open Go Go.RowKit
set_option linter.unusedSimpArgs false
set_option linter.unusedVariables false

/-- What digits come to. -/
def dv (l : List UInt8) : Nat := l.foldl (fun n c => 10 * n + (c.toNat - 48)) 0

theorem dv_snoc (l : List UInt8) (c : UInt8) : dv (l ++ [c]) = 10 * dv l + (c.toNat - 48) := by unfold dv; rw [List.foldl_append]; rfl

theorem byte_back (c : UInt8) (h : 48 ≤ c.toNat) : UInt8.ofNat (48 + (c.toNat - 48)) = c := by
  rw [show 48 + (c.toNat - 48) = c.toNat by omega]
  exact UInt8.ofNat_toNat

/-- Digits with no superfluous zero in front. -/
def NumL (l : List UInt8) : Prop := l ≠ [] ∧ (∀ c, c ∈ l → 48 ≤ c.toNat ∧ c.toNat ≤ 57) ∧ (1 < l.length → ∀ c, l.head? = some c → c.toNat ≠ 48)

theorem dec_dv : ∀ (n : Nat) (l : List UInt8), l.length = n + 1 → NumL l → Lib.decDigits (dv l) = l ∧ (1 ≤ n → 1 ≤ dv l)
  | 0, l, hn, ⟨_, hd, _⟩ => by
    obtain ⟨c, rfl⟩ := List.length_eq_one_iff.1 hn
    have hc := hd c (by simp)
    have e : dv [c] = c.toNat - 48 := by show 10 * 0 + (c.toNat - 48) = _; omega
    refine ⟨?_, fun h => absurd h (by decide)⟩
    rw [e, decT_small (by omega), byte_back c hc.1]
  | n + 1, l, hn, ⟨hne, hd, hz⟩ => by
    obtain ⟨m, c, rfl⟩ : ∃ m c, l = m ++ [c] := ⟨l.dropLast, l.getLast hne, (List.dropLast_concat_getLast hne).symm⟩
    have hm : m.length = n + 1 := by simpa using hn
    have hc := hd c (by simp)
    have m0 : m ≠ [] := by intro h; rw [h] at hm; simp at hm
    have hh : ∀ x, m.head? = some x → x.toNat ≠ 48 := fun x hx => hz (by simp; omega) x (by rw [List.head?_append, hx]; rfl)
    obtain ⟨i1, i2⟩ := dec_dv n m hm ⟨m0, fun x hx => hd x (by simp [hx]), fun _ => hh⟩
    have h1 : 1 ≤ dv m := by
      by_cases h : 1 ≤ n
      · exact i2 h
      · obtain ⟨x, rfl⟩ := List.length_eq_one_iff.1 (show m.length = 1 by omega)
        have a := hh x rfl
        have b := hd x (by simp)
        have e : dv [x] = x.toNat - 48 := by show 10 * 0 + (x.toNat - 48) = _; omega
        omega
    rw [dv_snoc]
    refine ⟨?_, fun _ => by omega⟩
    rw [decT_great (by omega), show (10 * dv m + (c.toNat - 48)) / 10 = dv m by omega, show (10 * dv m + (c.toNat - 48)) % 10 = c.toNat - 48 by omega, i1, byte_back c hc.1]

theorem rdF_dv (s : ByteArray) : ∀ k, k ≤ s.size → dgA s k → rdF s k = (dv (s.data.toList.take k) : Int)
  | 0, _, _ => rfl
  | k + 1, h, hd => by
    have hk : k < s.size := by omega
    rw [rdF, dif_pos hk, rdF_dv s k (by omega) (fun i q hi => hd i q (by omega)), take_byte s k hk, dv_snoc]
    have := hd k hk (by omega)
    omega

theorem dgA_all (s : ByteArray) (hd : dgA s s.size) : ∀ c, c ∈ s.data.toList → 48 ≤ c.toNat ∧ c.toNat ≤ 57 := by
  intro c hc
  obtain ⟨i, hi, rfl⟩ := List.getElem_of_mem hc
  have h2 : i < s.size := by simpa using hi
  exact hd i h2 h2

/-- What is read is the text of what was read. -/
theorem l1r_sound (s : ByteArray) (h : 0 ≤ l1rV s) : s.data.toList = Lib.decDigits (l1rV s).toNat ∧ l1rV s ≤ 999999 := by
  unfold l1rV at h ⊢
  split at h
  · rename_i hc
    rw [if_pos hc]
    obtain ⟨a, b, c, d⟩ := hc
    have e := rdF_dv s s.size (Nat.le_refl _) d
    have hl : s.data.toList.length = s.size := by simp
    rw [List.take_of_length_le (by omega)] at e
    have bd := (rdF_bd s s.size d).2
    have p6 : (10 : Int) ^ s.size ≤ 10 ^ 6 := by
      have := Nat.pow_le_pow_right (n := 10) (by decide) b
      exact_mod_cast this
    have e6 : (10 : Int) ^ 6 = 1000000 := by decide
    have ne : s.data.toList ≠ [] := by intro q; rw [q] at hl; simp at hl; omega
    have hh : NumL s.data.toList := ⟨ne, dgA_all s d, fun h1 x hx => by
      intro q
      apply c
      refine ⟨by omega, by omega, ?_⟩
      rw [List.head?_eq_getElem?, List.getElem?_eq_getElem (by omega)] at hx
      have := Option.some.inj hx
      rw [← this] at q
      exact q⟩
    have := (dec_dv (s.size - 1) s.data.toList (by omega) hh).1
    rw [e, Int.toNat_natCast]
    exact ⟨this.symm, by rw [← e]; omega⟩
  · rename_i hc
    omega

theorem of_dig (d : Nat) (h : d < 10) : (UInt8.ofNat (48 + d)).toNat = 48 + d := by rw [UInt8.toNat_ofNat']; omega

theorem dv_dec (n : Nat) : dv (Lib.decDigits n) = n ∧ Lib.decDigits n ≠ [] ∧ (∀ c, c ∈ Lib.decDigits n → 48 ≤ c.toNat ∧ c.toNat ≤ 57) ∧ (1 ≤ n → ∀ c, (Lib.decDigits n).head? = some c → c.toNat ≠ 48) := by
  induction n using Nat.strongRecOn with
  | ind n ih =>
    by_cases h : n < 10
    · rw [decT_small h]
      have o := of_dig n h
      refine ⟨?_, by simp, fun c hc => ?_, fun h1 c hc => ?_⟩
      · show 10 * 0 + ((UInt8.ofNat (48 + n)).toNat - 48) = n
        omega
      · rw [List.mem_singleton.1 hc]; omega
      · rw [← Option.some.inj hc]; omega
    · obtain ⟨i1, i2, i3, i4⟩ := ih (n / 10) (by omega)
      have o := of_dig (n % 10) (by omega)
      rw [decT_great h]
      refine ⟨?_, by simp, fun c hc => ?_, fun _ c hc => ?_⟩
      · rw [dv_snoc, i1, o]; omega
      · rcases List.mem_append.1 hc with q | q
        · exact i3 c q
        · rw [List.mem_singleton.1 q]; omega
      · apply i4 (by omega) c
        obtain ⟨x, l, hx⟩ := List.exists_cons_of_ne_nil i2
        rw [hx] at hc ⊢
        exact hc

/-- The text of a short number is read as the number. -/
theorem l1r_dec (s : ByteArray) (n : Nat) (hn : n ≤ 999999) (hs : s.data.toList = Lib.decDigits n) : l1rV s = n := by
  obtain ⟨i1, i2, i3, i4⟩ := dv_dec n
  have hl : s.data.toList.length = s.size := by simp
  have l6 := dec_len 5 n (by omega)
  rw [← hs] at i1 i2 i3 i4 l6
  have ne : 0 < s.data.toList.length := by cases h : s.data.toList with
    | nil => exact absurd h i2
    | cons _ _ => simp
  have d : dgA s s.size := fun i h _ => i3 _ (by
    have : s[i]'h = s.data.toList[i]'(by omega) := rfl
    rw [this]; exact List.getElem_mem _)
  unfold l1rV
  rw [if_pos]
  · rw [rdF_dv s s.size (Nat.le_refl _) d, List.take_of_length_le (by omega), i1]
  · refine ⟨by omega, by omega, ?_, d⟩
    rintro ⟨h1, h0, hc⟩
    by_cases n1 : 1 ≤ n
    · refine i4 n1 (s[0]'h0) ?_ hc
      rw [List.head?_eq_getElem?, List.getElem?_eq_getElem (by omega)]
      rfl
    · have : n = 0 := by omega
      rw [this, decT_small (by decide)] at hs
      rw [hs] at hl
      simp at hl
      omega
end Go.Proofs.YtmddlbphanlfhaaGreatDoor

