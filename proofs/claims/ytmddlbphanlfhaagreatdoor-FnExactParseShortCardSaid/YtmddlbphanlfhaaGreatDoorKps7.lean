/-
  Contracts of the functions that the laws reach, and the plain facts that they rest on, each under the conditions that its line names; part 7.
-/
import Derived.Lib.ItoaNum
import Derived.Lib.AtoiAll
import Derived.Lib.IndexMore
namespace Go.Proofs.YtmddlbphanlfhaaGreatDoor
open Go Go.Lib
set_option linter.unusedSimpArgs false

theorem decT_small {n : Nat} (h : n < 10) : decDigits n = [UInt8.ofNat (48 + n)] := by rw [decDigits, dif_pos h]

theorem decT_great {n : Nat} (h : ¬ n < 10) : decDigits n = decDigits (n / 10) ++ [UInt8.ofNat (48 + n % 10)] := by rw [decDigits, dif_neg h]

theorem dig_nat {d : Nat} (h : d < 10) : (UInt8.ofNat (48 + d)).toNat = 48 + d := by
  rw [UInt8.toNat_ofNat']; omega

theorem dec_chars (n : Nat) : ∀ c ∈ decDigits n, 48 ≤ c.toNat ∧ c.toNat ≤ 57 := by
  induction n using Nat.strongRecOn with
  | ind n ih =>
    intro c hc
    by_cases h : n < 10
    · rw [decT_small h] at hc
      have : c = UInt8.ofNat (48 + n) := by simpa using hc
      rw [this, dig_nat h]; omega
    · rw [decT_great h, List.mem_append] at hc
      rcases hc with hc | hc
      · exact ih (n / 10) (by omega) c hc
      · have : c = UInt8.ofNat (48 + n % 10) := by simpa using hc
        rw [this, dig_nat (Nat.mod_lt _ (by decide))]; omega

theorem dec_ne (n : Nat) : decDigits n ≠ [] := by
  by_cases h : n < 10
  · rw [decT_small h]; simp
  · rw [decT_great h]; simp

theorem itoa_chars (n : Int) : ∀ c ∈ itoa n, c.toNat = 45 ∨ (48 ≤ c.toNat ∧ c.toNat ≤ 57) := by
  intro c hc
  unfold itoa at hc
  split at hc
  · rcases List.mem_cons.1 hc with rfl | hc
    · exact Or.inl rfl
    · exact Or.inr (dec_chars _ c hc)
  · exact Or.inr (dec_chars _ c hc)

theorem parse_append : ∀ (l : List UInt8) (acc u : Nat) (d : Nat), d < 10 → parseUint10 acc l = .ok u → u * 10 + d < 18446744073709551616 → parseUint10 acc (l ++ [UInt8.ofNat (48 + d)]) = .ok (u * 10 + d)
  | [], acc, u, d, hd, h, hu => by
    simp only [parseUint10, NumEnd.ok.injEq] at h
    subst h
    simp only [List.nil_append, parseUint10, dig_nat hd]
    rw [if_pos (by omega), if_neg (by omega), if_neg (by omega)]
    congr 1
    omega
  | c :: l, acc, u, d, hd, h, hu => by
    simp only [List.cons_append, parseUint10] at h ⊢
    split at h
    · rename_i h1
      rw [if_pos h1]
      split at h
      · cases h
      · rename_i h2
        rw [if_neg h2]
        split at h
        · cases h
        · rename_i h3
          rw [if_neg h3]
          exact parse_append l _ u d hd h hu
    · cases h

theorem dec_parse (n : Nat) (h : n < 18446744073709551616) : parseUint10 0 (decDigits n) = .ok n := by
  induction n using Nat.strongRecOn with
  | ind n ih =>
    by_cases h1 : n < 10
    · rw [decT_small h1]
      have := parse_append [] 0 0 n h1 rfl (by omega)
      simpa using this
    · rw [decT_great h1]
      have := parse_append _ 0 (n / 10) (n % 10) (Nat.mod_lt _ (by decide)) (ih (n / 10) (by omega) (by omega)) (by omega)
      rw [show n / 10 * 10 + n % 10 = n by omega] at this
      exact this

/-- A number's text is read back. -/
theorem atoi_itoa (n : Int) (h1 : -9223372036854775808 ≤ n) (h2 : n ≤ 9223372036854775807) : atoiAll (itoa n) = .ok n := by
  by_cases h : n < 0
  · unfold itoa
    rw [if_pos h]
    unfold atoiAll
    have e45 : UInt8.toNat 45 = 45 := rfl
    simp only [e45]
    simp only [or_true, if_true]
    unfold parseMag
    rw [if_neg (dec_ne _), dec_parse _ (by omega)]
    simp only [not_true_eq_false, false_and, if_false, true_and, if_true]
    rw [if_neg (by omega)]
    congr 1
    omega
  · unfold itoa
    rw [if_neg h]
    obtain ⟨c, l, hl⟩ : ∃ c l, decDigits n.toNat = c :: l := by
      cases hd : decDigits n.toNat with
      | nil => exact absurd hd (dec_ne _)
      | cons c l => exact ⟨c, l, rfl⟩
    have hc := dec_chars n.toNat c (by rw [hl]; simp)
    have hp := dec_parse n.toNat (by omega)
    rw [hl] at hp ⊢
    unfold atoiAll
    simp only []
    rw [if_neg (by omega)]
    unfold parseMag
    rw [if_neg (by simp), hp]
    simp only []
    rw [if_neg (by omega), if_neg (fun q => by omega), if_neg (by omega)]
    congr 1
    omega
end Go.Proofs.YtmddlbphanlfhaaGreatDoor

