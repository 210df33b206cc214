/-
  Contracts of the functions that the laws reach, and the plain facts that they rest on, each under the conditions that its line names; part 23.
-/
import Derived.Test.YtfgbndjhaiigbabDoorKxh1
import Derived.Test.YtfgbndjhaiigbabDoorKxh22
namespace Go.Proofs.YtfgbndjhaiigbabDoor
open Go Go.Lib
set_option linter.unusedSimpArgs false

/-- Decimal digits, the least place first. -/
def revD (n : Nat) : List Nat := if _h : n = 0 then [] else n % 10 :: revD (n / 10)
termination_by n

theorem revD_zero : revD 0 = [] := by rw [revD]; simp

theorem revD_pos {n : Nat} (h : 0 < n) : revD n = n % 10 :: revD (n / 10) := by rw [revD, dif_neg (by omega)]

/-- Digits times five, with what is carried. -/
def mulC : List Nat → Nat → List Nat
  | [], c => revD c
  | d :: l, c => (c + d * 5) % 10 :: mulC l ((c + d * 5) / 10)

theorem mulC_rev (V : Nat) : ∀ c, mulC (revD V) c = revD (V * 5 + c) := by
  induction V using Nat.strongRecOn with
  | ind V ih =>
    intro c
    by_cases h : V = 0
    · subst h; rw [revD_zero, mulC, Nat.zero_mul, Nat.zero_add]
    · rw [revD_pos (by omega), mulC, ih (V / 10) (by omega), revD_pos (n := V * 5 + c) (by omega)]
      congr 1
      · omega
      · congr 1; omega

theorem revD_get (V : Nat) : ∀ i, i < (revD V).length → (revD V)[i]? = some (V / 10 ^ i % 10) := by
  induction V using Nat.strongRecOn with
  | ind V ih =>
    intro i hi
    by_cases h : V = 0
    · subst h; rw [revD_zero] at hi; simp at hi
    · rw [revD_pos (by omega)] at hi ⊢
      cases i with
      | zero => simp
      | succ i =>
        rw [List.getElem?_cons_succ, ih (V / 10) (by omega) i (by simpa using hi), Nat.div_div_eq_div_mul, Nat.pow_succ, Nat.mul_comm 10]

theorem revD_lt (V : Nat) : V < 10 ^ (revD V).length := by
  induction V using Nat.strongRecOn with
  | ind V ih =>
    by_cases h : V = 0
    · subst h; rw [revD_zero]; decide
    · rw [revD_pos (by omega), List.length_cons, Nat.pow_succ]
      have := ih (V / 10) (by omega)
      omega

theorem revD_div (V : Nat) : (revD (V / 10)).length = (revD V).length - 1 := by
  by_cases h : V = 0
  · subst h; rw [show 0 / 10 = 0 from rfl, revD_zero]; rfl
  · rw [revD_pos (n := V) (by omega), List.length_cons, Nat.add_sub_cancel]

theorem revD_divs (V : Nat) : ∀ k, (revD (V / 10 ^ k)).length = (revD V).length - k
  | 0 => by simp
  | k + 1 => by rw [Nat.pow_succ, ← Nat.div_div_eq_div_mul, revD_div, revD_divs V k]; omega

/-- So many digits, the greatest place first. -/
def dgT (V : Nat) : Nat → List UInt8
  | 0 => []
  | n + 1 => UInt8.ofNat (48 + V / 10 ^ n % 10) :: dgT V n

theorem dgT_snoc (V : Nat) : ∀ n, dgT V (n + 1) = dgT (V / 10) n ++ [UInt8.ofNat (48 + V % 10)]
  | 0 => by simp [dgT]
  | n + 1 => by
    rw [dgT, dgT_snoc V n, dgT, List.cons_append]
    congr 3
    rw [Nat.div_div_eq_div_mul, Nat.pow_succ, Nat.mul_comm 10]

theorem dec_dgT (V : Nat) : decDigits V = dgT V (max 1 (revD V).length) := by
  induction V using Nat.strongRecOn with
  | ind V ih =>
    by_cases h : V < 10
    · rw [decT_small h]
      have : (revD V).length ≤ 1 := by
        by_cases h0 : V = 0
        · subst h0; rw [revD_zero]; simp
        · rw [revD_pos (by omega), show V / 10 = 0 by omega, revD_zero]; simp
      rw [show max 1 (revD V).length = 0 + 1 by omega, dgT, dgT, Nat.pow_zero, Nat.div_one, Nat.mod_eq_of_lt h]
    · rw [decT_great h, ih (V / 10) (by omega)]
      have hl : 0 < (revD (V / 10)).length := by rw [revD_pos (by omega)]; simp
      have e1 := revD_div V
      rw [show max 1 (revD V).length = max 1 (revD (V / 10)).length + 1 by omega, dgT_snoc]

/-- What is written from a place on down: a point behind place k, if k is not 0. -/
def rsT (W k : Nat) : Nat → List UInt8
  | 0 => []
  | i + 1 => UInt8.ofNat (48 + W / 10 ^ i % 10) :: ((if i = k ∧ 0 < k then [46] else []) ++ rsT W k i)

theorem rsT_low (W k : Nat) : ∀ i, i ≤ k → rsT W k i = dgT W i
  | 0, _ => rfl
  | i + 1, h => by rw [rsT, dgT, if_neg (by omega), rsT_low W k i (by omega)]; rfl

theorem rsT_high (W k : Nat) : ∀ d, rsT W k (k + 1 + d) = dgT (W / 10 ^ k) (d + 1) ++ ((if 0 < k then [46] else []) ++ dgT W k)
  | 0 => by
    rw [Nat.add_zero, rsT, rsT_low W k k (Nat.le_refl _), dgT, dgT]
    by_cases h : 0 < k
    · rw [if_pos ⟨rfl, h⟩, if_pos h]; simp
    · rw [if_neg (fun q => h q.2), if_neg h]; simp
  | d + 1 => by
    rw [← Nat.add_assoc, rsT, if_neg (by omega), rsT_high W k d, dgT]
    rw [List.nil_append, List.cons_append]
    congr 4
    rw [Nat.div_div_eq_div_mul, ← Nat.pow_add]
    congr 2
    omega

/-- The whole text. -/
def exT (W k : Nat) : List UInt8 := decDigits (W / 10 ^ k) ++ ((if 0 < k then [46] else []) ++ dgT W k)

theorem rsT_all (W k : Nat) : rsT W k (max (revD W).length (k + 1)) = exT W k := by
  unfold exT
  rw [dec_dgT, revD_divs]
  obtain ⟨d, hd⟩ : ∃ d, max (revD W).length (k + 1) = k + 1 + d := ⟨max (revD W).length (k + 1) - (k + 1), by omega⟩
  rw [hd, rsT_high, show max 1 ((revD W).length - k) = d + 1 by omega]

/-- The digits behind the point, by what is left. -/
theorem frac_A (u K j : Nat) (h : j < K) : u * 5 ^ K / 10 ^ (K - 1 - j) = u * 10 ^ (j + 1) / 2 ^ K := by
  have e1 : u * 5 ^ K / 10 ^ (K - 1 - j) = u * 5 ^ K * 10 ^ (j + 1) / (10 ^ (K - 1 - j) * 10 ^ (j + 1)) := (Nat.mul_div_mul_right _ _ (Nat.pow_pos (by decide))).symm
  have e2 : 10 ^ (K - 1 - j) * 10 ^ (j + 1) = 2 ^ K * 5 ^ K := by
    rw [← Nat.pow_add, show K - 1 - j + (j + 1) = K by omega, ← Nat.mul_pow]
  rw [e1, e2, Nat.mul_assoc, Nat.mul_comm (5 ^ K), ← Nat.mul_assoc]
  exact Nat.mul_div_mul_right _ _ (Nat.pow_pos (by decide))

theorem frac_digit (u K j : Nat) (h : j < K) : (u * 10 ^ j % 2 ^ K) * 10 / 2 ^ K = u * 5 ^ K / 10 ^ (K - 1 - j) % 10 := by
  rw [frac_A u K j h, Nat.pow_succ, ← Nat.mul_assoc]
  generalize u * 10 ^ j = X
  have hp : 0 < 2 ^ K := Nat.pow_pos (by decide)
  generalize 2 ^ K = P at *
  have q1 := Nat.div_add_mod X P
  have e1 : X * 10 = P * (10 * (X / P)) + (X % P) * 10 := by
    have : P * (10 * (X / P)) = 10 * (P * (X / P)) := by rw [Nat.mul_left_comm]
    omega
  have e2 : X * 10 / P = 10 * (X / P) + (X % P) * 10 / P := by
    rw [e1, Nat.mul_add_div hp]
  have e3 : (X % P) * 10 / P < 10 := Nat.div_lt_of_lt_mul (by have := Nat.mod_lt X hp; omega)
  generalize (X % P) * 10 / P = g at *
  generalize X / P = y at *
  generalize X * 10 / P = z at *
  omega

theorem frac_next (u K j : Nat) : (u * 10 ^ j % 2 ^ K) * 10 % 2 ^ K = u * 10 ^ (j + 1) % 2 ^ K := by
  rw [Nat.pow_succ, ← Nat.mul_assoc, Nat.mul_mod (u * 10 ^ j) 10, Nat.mul_mod (u * 10 ^ j % 2 ^ K) 10, Nat.mod_mod]

theorem frac_left (u K j : Nat) (hu : u % 2 = 1) (h : j < K) : u * 10 ^ j % 2 ^ K ≠ 0 := by
  intro hz
  obtain ⟨q, hq⟩ := Nat.dvd_of_mod_eq_zero hz
  have e1 : 10 ^ j = 2 ^ j * 5 ^ j := by rw [← Nat.mul_pow]
  have e2 : 2 ^ K = 2 ^ j * (2 * 2 ^ (K - j - 1)) := by
    have : 2 * 2 ^ (K - j - 1) = 2 ^ (K - j) := by rw [Nat.mul_comm, ← Nat.pow_succ]; congr 1; omega
    rw [this, ← Nat.pow_add]; congr 1; omega
  rw [e1, e2, Nat.mul_left_comm, Nat.mul_assoc] at hq
  have h3 : u * 5 ^ j = 2 * (2 ^ (K - j - 1) * q) := by
    have := Nat.eq_of_mul_eq_mul_left (Nat.pow_pos (by decide)) hq
    rw [this, Nat.mul_assoc]
  have h5 : 5 ^ j % 2 = 1 := by rw [Nat.pow_mod]; simp
  have : (u * 5 ^ j) % 2 = 1 := by rw [Nat.mul_mod, hu, h5]
  omega

theorem frac_end (u K : Nat) : u * 10 ^ K % 2 ^ K = 0 := by
  have e1 : 10 ^ K = 2 ^ K * 5 ^ K := by rw [← Nat.mul_pow]
  rw [e1, Nat.mul_left_comm]
  exact Nat.mul_mod_right _ _

theorem frac_top (u K : Nat) : u * 5 ^ K / 10 ^ K = u / 2 ^ K := by
  have e1 : 10 ^ K = 2 ^ K * 5 ^ K := by rw [← Nat.mul_pow]
  rw [e1]
  exact Nat.mul_div_mul_right _ _ (Nat.pow_pos (by decide))
end Go.Proofs.YtfgbndjhaiigbabDoor

