/-
  Plain facts on the words of numbers that are at least 0: orders, sums, differences, products, conversions. No Go in sight.
-/
import Derived.Test.YtkppdcelhblgaaaFlt
namespace Go.Proofs.Ytkppdcelhblgaaa
open Ieee

/-- The number's word can be read back. -/
def Ok (f : Ieee.Format) (v : Nat) : Prop := Rep f.fractionBits v ∧ v < 2 ^ (f.fractionBits + (2 ^ f.exponentBits - 2)) ∧ 2 ≤ 2 ^ f.exponentBits - 1

theorem read_fw {f : Ieee.Format} {v : Nat} (h : Ok f v) : ∃ m k : Nat, f.read (fw f v) = .number false m (f.leastPlace + k) ∧ m * 2 ^ k = v := by
  obtain ⟨h1, h2⟩ := fw_val f v h.1 h.2.1 h.2.2
  obtain ⟨m, k, h3, h4⟩ := read_pos f _ h1
  exact ⟨m, k, h3, by rw [h4, h2]⟩

theorem place_min (L : Int) (k1 k2 : Nat) : min (L + (k1 : Int)) (L + (k2 : Int)) = L + ((min k1 k2 : Nat) : Int) := by omega

theorem up_part (m k q : Nat) (h : q ≤ k) : m <<< (k - q) * 2 ^ q = m * 2 ^ k := by
  rw [Nat.shiftLeft_eq, Nat.mul_assoc, ← Nat.pow_add, show k - q + q = k by omega]

theorem order_fw {f : Ieee.Format} {a b : Nat} (ha : Ok f a) (hb : Ok f b) : f.order (fw f a) (fw f b) = some (compare a b) := by
  obtain ⟨m, k, h1, h2⟩ := read_fw ha
  obtain ⟨n, l, h3, h4⟩ := read_fw hb
  unfold Ieee.Format.order
  rw [h1, h3]
  simp only [Datum.order, place_min, signed]
  have d1 : (f.leastPlace + (k : Int) - (f.leastPlace + ((min k l : Nat) : Int))).toNat = k - min k l := by omega
  have d2 : (f.leastPlace + (l : Int) - (f.leastPlace + ((min k l : Nat) : Int))).toNat = l - min k l := by omega
  rw [d1, d2]
  have e1 := up_part m k (min k l) (by omega)
  have e2 := up_part n l (min k l) (by omega)
  rw [h2] at e1
  rw [h4] at e2
  have hp := Nat.two_pow_pos (min k l)
  congr 1
  rw [← e1, ← e2]
  simp only [Bool.false_eq_true, if_false]
  generalize m <<< (k - min k l) = x
  generalize n <<< (l - min k l) = y
  generalize 2 ^ min k l = p at hp
  rcases Nat.lt_trichotomy x y with h | h | h
  · rw [Int.compare_eq_lt.2 (by omega), Nat.compare_eq_lt.2 (Nat.mul_lt_mul_of_pos_right h hp)]
  · subst h
    rw [Int.compare_eq_eq.2 rfl, Nat.compare_eq_eq.2 rfl]
  · rw [Int.compare_eq_gt.2 (by omega), Nat.compare_eq_gt.2 (Nat.mul_lt_mul_of_pos_right h hp)]

theorem add_fw {f : Ieee.Format} {a b : Nat} (ha : Ok f a) (hb : Ok f b) : f.add (fw f a) (fw f b) = some (fw f (a + b)) := by
  obtain ⟨m, k, h1, h2⟩ := read_fw ha
  obtain ⟨n, l, h3, h4⟩ := read_fw hb
  unfold Ieee.Format.add
  rw [h1, h3]
  simp only [Datum.sum, place_min, signed]
  have d1 : (f.leastPlace + (k : Int) - (f.leastPlace + ((min k l : Nat) : Int))).toNat = k - min k l := by omega
  have d2 : (f.leastPlace + (l : Int) - (f.leastPlace + ((min k l : Nat) : Int))).toNat = l - min k l := by omega
  rw [d1, d2]
  have e1 := up_part m k (min k l) (by omega)
  have e2 := up_part n l (min k l) (by omega)
  rw [h2] at e1
  rw [h4] at e2
  simp only [Bool.false_eq_true, if_false, Bool.and_self, Option.map_some, Option.some.injEq]
  generalize m <<< (k - min k l) = x at *
  generalize n <<< (l - min k l) = y at *
  have c : (if (x : Int) + (y : Int) = 0 then false else decide ((x : Int) + (y : Int) < 0)) = false := by
    split
    · rfl
    · exact decide_eq_false (by omega)
  rw [c, show ((x : Int) + (y : Int)).natAbs = x + y by omega]
  show f.nearest false (x + y) _ = _
  have := near_fw f (x + y) (min k l) 0 (a + b) (by rw [Nat.add_mul, e1, e2]; simp)
  rw [← this]
  congr 1
  simp

theorem sub_fw {f : Ieee.Format} {a b : Nat} (ha : Ok f a) (hb : Ok f b) (h : b ≤ a) : f.sub (fw f a) (fw f b) = some (fw f (a - b)) := by
  obtain ⟨m, k, h1, h2⟩ := read_fw ha
  obtain ⟨n, l, h3, h4⟩ := read_fw hb
  unfold Ieee.Format.sub
  rw [h1, h3]
  simp only [Datum.opposite, Datum.sum, place_min, signed]
  have d1 : (f.leastPlace + (k : Int) - (f.leastPlace + ((min k l : Nat) : Int))).toNat = k - min k l := by omega
  have d2 : (f.leastPlace + (l : Int) - (f.leastPlace + ((min k l : Nat) : Int))).toNat = l - min k l := by omega
  rw [d1, d2]
  have e1 := up_part m k (min k l) (by omega)
  have e2 := up_part n l (min k l) (by omega)
  rw [h2] at e1
  rw [h4] at e2
  have hp := Nat.two_pow_pos (min k l)
  simp only [Bool.false_eq_true, if_false, Bool.not_false, if_true, Bool.false_and, Option.map_some, Option.some.injEq]
  generalize m <<< (k - min k l) = x at *
  generalize n <<< (l - min k l) = y at *
  have hxy : y ≤ x := by
    apply Nat.le_of_mul_le_mul_right (c := 2 ^ min k l) _ hp
    rw [e1, e2]; exact h
  have c : (if (x : Int) + -(y : Int) = 0 then false else decide ((x : Int) + -(y : Int) < 0)) = false := by
    split
    · rfl
    · exact decide_eq_false (by omega)
  rw [c, show ((x : Int) + -(y : Int)).natAbs = x - y by omega]
  show f.nearest false (x - y) _ = _
  have := near_fw f (x - y) (min k l) 0 (a - b) (by rw [Nat.sub_mul, e1, e2]; simp)
  rw [← this]
  congr 1
  simp

theorem mul_fw {f : Ieee.Format} {a b v : Nat} (B : Nat) (hB : f.leastPlace = -(B : Int)) (ha : Ok f a) (hb : Ok f b) (h : a * b = v * 2 ^ B) : f.mul (fw f a) (fw f b) = some (fw f v) := by
  obtain ⟨m, k, h1, h2⟩ := read_fw ha
  obtain ⟨n, l, h3, h4⟩ := read_fw hb
  unfold Ieee.Format.mul
  rw [h1, h3]
  simp only [Datum.product, Option.map_some, Option.some.injEq]
  show f.nearest false (m * n) _ = _
  have := near_fw f (m * n) (k + l) B v (by rw [Nat.pow_add, ← h, ← h2, ← h4]; exact Nat.mul_mul_mul_comm m n _ _)
  rw [← this]
  congr 1
  rw [hB]
  omega

theorem int_fw {f : Ieee.Format} (n B : Nat) (hB : f.leastPlace = -(B : Int)) : f.write (.number (decide ((n : Int) < 0)) (n : Int).natAbs 0) = fw f (n * 2 ^ B) := by
  have h0 : decide ((n : Int) < 0) = false := decide_eq_false (by omega)
  rw [h0]
  show f.nearest false ((n : Int)).natAbs 0 = _
  have := near_fw f n B 0 (n * 2 ^ B) (by simp)
  rw [← this]
  congr 1
  rw [hB]
  omega

theorem to_fw {f g : Ieee.Format} {a v : Nat} (D : Nat) (hD : f.leastPlace = g.leastPlace - (D : Int)) (ha : Ok f a) (h : a = v * 2 ^ D) : ∃ m i, f.read (fw f a) = .number false m i ∧ g.write (.number false m i) = fw g v := by
  obtain ⟨m, k, h1, h2⟩ := read_fw ha
  refine ⟨m, _, h1, ?_⟩
  show g.nearest false m _ = _
  have := near_fw g m k D v (by rw [h2]; exact h)
  rw [← this]
  congr 1
  omega

theorem cut_zero (n d : Nat) : Toward.zero.cut false n d = n / 2 ^ d := by
  unfold Toward.cut
  simp only [Nat.shiftLeft_eq, Nat.one_mul, Bool.toNat_false, Nat.add_zero]
  by_cases h : d ≤ n.log2 + 2
  · rw [Nat.min_eq_left h]
  · rw [Nat.min_eq_right (by omega)]
    have hl : n < 2 ^ (n.log2 + 1) := Nat.lt_log2_self
    have a1 : n < 2 ^ (n.log2 + 2) := Nat.lt_of_lt_of_le hl (Nat.pow_le_pow_right (by decide) (by omega))
    have a2 : n < 2 ^ d := Nat.lt_of_lt_of_le hl (Nat.pow_le_pow_right (by decide) (by omega))
    rw [Nat.div_eq_of_lt a1, Nat.div_eq_of_lt a2]

theorem toInt_fw {f : Ieee.Format} {a : Nat} (B : Nat) (hB : f.leastPlace = -(B : Int)) (ha : Ok f a) : (f.read (fw f a)).toInt .zero = some ((a / 2 ^ B : Nat) : Int) := by
  obtain ⟨m, k, h1, h2⟩ := read_fw ha
  rw [h1]
  simp only [Datum.toInt, Datum.integral, signed, Bool.false_eq_true, if_false, Nat.shiftLeft_zero, Option.some.injEq]
  rw [cut_zero, Nat.shiftLeft_eq, hB, ← h2]
  congr 1
  by_cases h : B ≤ k
  · rw [show (-(B : Int) + (k : Int)).toNat = k - B by omega, show (-(-(B : Int) + (k : Int))).toNat = 0 by omega]
    rw [Nat.pow_zero, Nat.div_one]
    have e : m * 2 ^ k = m * 2 ^ (k - B) * 2 ^ B := by rw [Nat.mul_assoc, ← Nat.pow_add, show k - B + B = k by omega]
    rw [e, Nat.mul_div_cancel _ (Nat.two_pow_pos B)]
  · rw [show (-(B : Int) + (k : Int)).toNat = 0 by omega, show (-(-(B : Int) + (k : Int))).toNat = B - k by omega]
    rw [Nat.pow_zero, Nat.mul_one]
    have e : 2 ^ B = 2 ^ (B - k) * 2 ^ k := by rw [← Nat.pow_add, show B - k + k = B by omega]
    rw [e, Nat.mul_div_mul_right _ _ (Nat.two_pow_pos k)]
end Go.Proofs.Ytkppdcelhblgaaa
