/-
  Plain facts on decimal texts: what signs they have, that they are read back, and where a text is cut. No Go in sight.
-/
import Derived.Lib.ItoaNum
import Derived.Lib.AtoiAll
import Derived.Lib.IndexMore
namespace Go.Proofs.YtfgbndjhaiigbabDoor
open Go Go.Lib
set_option linter.unusedSimpArgs false

theorem decT_small {n : Nat} (h : n < 10) : decDigits n = [UInt8.ofNat (48 + n)] := by rw [decDigits, dif_pos h]
theorem decT_great {n : Nat} (h : ¬ n < 10) : decDigits n = decDigits (n / 10) ++ [UInt8.ofNat (48 + n % 10)] := by rw [decDigits, dif_neg h]
theorem dig_nat {d : Nat} (h : d < 10) : (UInt8.ofNat (48 + d)).toNat = 48 + d := by
  rw [UInt8.toNat_ofNat']; omega

theorem dec_chars (n : Nat) : ∀ c ∈ decDigits n, 48 ≤ c.toNat ∧ c.toNat ≤ 57 := by
  induction n using Nat.strongRecOn with
  | ind n ih =>
    intro c hc
    by_cases h : n < 10
    · rw [decT_small h] at hc
      have : c = UInt8.ofNat (48 + n) := by simpa using hc
      rw [this, dig_nat h]; omega
    · rw [decT_great h, List.mem_append] at hc
      rcases hc with hc | hc
      · exact ih (n / 10) (by omega) c hc
      · have : c = UInt8.ofNat (48 + n % 10) := by simpa using hc
        rw [this, dig_nat (Nat.mod_lt _ (by decide))]; omega

theorem dec_ne (n : Nat) : decDigits n ≠ [] := by
  by_cases h : n < 10
  · rw [decT_small h]; simp
  · rw [decT_great h]; simp

theorem itoa_chars (n : Int) : ∀ c ∈ itoa n, c.toNat = 45 ∨ (48 ≤ c.toNat ∧ c.toNat ≤ 57) := by
  intro c hc
  unfold itoa at hc
  split at hc
  · rcases List.mem_cons.1 hc with rfl | hc
    · exact Or.inl rfl
    · exact Or.inr (dec_chars _ c hc)
  · exact Or.inr (dec_chars _ c hc)

theorem parse_append : ∀ (l : List UInt8) (acc u : Nat) (d : Nat), d < 10 → parseUint10 acc l = .ok u → u * 10 + d < 18446744073709551616 → parseUint10 acc (l ++ [UInt8.ofNat (48 + d)]) = .ok (u * 10 + d)
  | [], acc, u, d, hd, h, hu => by
    simp only [parseUint10, NumEnd.ok.injEq] at h
    subst h
    simp only [List.nil_append, parseUint10, dig_nat hd]
    rw [if_pos (by omega), if_neg (by omega), if_neg (by omega)]
    congr 1
    omega
  | c :: l, acc, u, d, hd, h, hu => by
    simp only [List.cons_append, parseUint10] at h ⊢
    split at h
    · rename_i h1
      rw [if_pos h1]
      split at h
      · cases h
      · rename_i h2
        rw [if_neg h2]
        split at h
        · cases h
        · rename_i h3
          rw [if_neg h3]
          exact parse_append l _ u d hd h hu
    · cases h

theorem dec_parse (n : Nat) (h : n < 18446744073709551616) : parseUint10 0 (decDigits n) = .ok n := by
  induction n using Nat.strongRecOn with
  | ind n ih =>
    by_cases h1 : n < 10
    · rw [decT_small h1]
      have := parse_append [] 0 0 n h1 rfl (by omega)
      simpa using this
    · rw [decT_great h1]
      have := parse_append _ 0 (n / 10) (n % 10) (Nat.mod_lt _ (by decide)) (ih (n / 10) (by omega) (by omega)) (by omega)
      rw [show n / 10 * 10 + n % 10 = n by omega] at this
      exact this

/-- A number's text is read back. -/
theorem atoi_itoa (n : Int) (h1 : -9223372036854775808 ≤ n) (h2 : n ≤ 9223372036854775807) : atoiAll (itoa n) = .ok n := by
  by_cases h : n < 0
  · unfold itoa
    rw [if_pos h]
    unfold atoiAll
    have e45 : UInt8.toNat 45 = 45 := rfl
    simp only [e45]
    simp only [or_true, if_true]
    unfold parseMag
    rw [if_neg (dec_ne _), dec_parse _ (by omega)]
    simp only [not_true_eq_false, false_and, if_false, true_and, if_true]
    rw [if_neg (by omega)]
    congr 1
    omega
  · unfold itoa
    rw [if_neg h]
    obtain ⟨c, l, hl⟩ : ∃ c l, decDigits n.toNat = c :: l := by
      cases hd : decDigits n.toNat with
      | nil => exact absurd hd (dec_ne _)
      | cons c l => exact ⟨c, l, rfl⟩
    have hc := dec_chars n.toNat c (by rw [hl]; simp)
    have hp := dec_parse n.toNat (by omega)
    rw [hl] at hp ⊢
    unfold atoiAll
    simp only []
    rw [if_neg (by omega)]
    unfold parseMag
    rw [if_neg (by simp), hp]
    simp only []
    rw [if_neg (by omega), if_neg (fun q => by omega), if_neg (by omega)]
    congr 1
    omega
theorem itoa_inj {a b : Int} (ha : -9223372036854775808 ≤ a) (ha2 : a ≤ 9223372036854775807) (hb : -9223372036854775808 ≤ b) (hb2 : b ≤ 9223372036854775807) (h : itoa a = itoa b) : a = b := by
  have h1 := atoi_itoa a ha ha2
  rw [h, atoi_itoa b hb hb2] at h1
  injection h1 with h1
  exact h1.symm

/-- The first place of a text that begins with a sign which does not stand before. -/
theorem index_first {c : UInt8} {p : List UInt8} : ∀ (l t : List UInt8), (∀ x ∈ l, x ≠ c) → index (l ++ (c :: p) ++ t) (c :: p) = (l.length : Int)
  | [], t, _ => by
    simp only [List.nil_append, List.cons_append, index, List.length_nil]
    rw [if_pos]
    · rfl
    · simp [List.isPrefixOf_iff_prefix]
  | x :: l, t, h => by
    have hx : x ≠ c := h x (by simp)
    have ih := index_first (p := p) l t (fun y hy => h y (by simp [hy]))
    simp only [List.cons_append, index]
    rw [if_neg]
    · simp only [List.append_assoc, List.cons_append] at ih ⊢
      rw [ih]
      have : ((l.length : Int) == -1) = false := by simp
      rw [this]
      simp
    · simp [List.isPrefixOf, Ne.symm hx]
theorem cut_first {c : UInt8} {p l t : List UInt8} (h : ∀ x ∈ l, x ≠ c) : cut (l ++ (c :: p) ++ t) (c :: p) = (l, t, true) := by
  unfold cut
  rw [index_first l t h, if_pos (by omega)]
  simp only [Int.toNat_natCast]
  congr 1
  · simp
  · congr 1
    simp [List.drop_append]
end Go.Proofs.YtfgbndjhaiigbabDoor
