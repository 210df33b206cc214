/-
  Contracts of the functions that the laws reach, and the plain facts that they rest on, each under the conditions that its line names; part 13.
-/
import Ieee.Arith
import Derived.Laws.FloatArith
namespace Go.Proofs.YtmddlbphanlfhaaGreatDoor
open Ieee

/-- The number that a rung stands for, in units of the least place. -/
def vR (F b : Nat) : Nat := if b < 2 ^ F then b else (2 ^ F + b % 2 ^ F) * 2 ^ (b / 2 ^ F - 1)

theorem read_pos (f : Ieee.Format) (b : Nat) (h : b < f.infRung) : ∃ m k : Nat, f.read b = .number false m (f.leastPlace + k) ∧ m * 2 ^ k = vR f.fractionBits b := by
  have hs : b < f.signWeight := Nat.lt_trans h f.infRung_lt
  have e1 : b / f.signWeight % 2 = 0 := by rw [Nat.div_eq_of_lt hs]
  have e2 : b % f.signWeight = b := Nat.mod_eq_of_lt hs
  unfold Ieee.Format.read
  simp only [e1, e2]
  unfold vR
  by_cases hb : b < f.binade
  · have hb2 : b < 2 ^ f.fractionBits := hb
    rw [if_pos hb, if_pos hb2]
    exact ⟨b, 0, by simp, by simp⟩
  · have hb2 : ¬ b < 2 ^ f.fractionBits := hb
    rw [if_neg hb, if_pos h, if_neg hb2]
    exact ⟨_, _, rfl, rfl⟩

theorem cut_double (n d : Nat) (hn : n ≠ 0) : Toward.even.cut false (2 * n) (d + 1) = Toward.even.cut false n d := by
  have hl : (2 * n).log2 = n.log2 + 1 := by rw [Nat.log2_two_mul hn]
  unfold Toward.cut
  have hg : 1 <<< min (d + 1) ((2 * n).log2 + 2) = 2 * (1 <<< min d (n.log2 + 2)) := by
    rw [hl, show min (d + 1) (n.log2 + 1 + 2) = min d (n.log2 + 2) + 1 by omega, Nat.shiftLeft_eq, Nat.shiftLeft_eq, Nat.pow_succ]
    omega
  simp only [hg]
  generalize 1 <<< min d (n.log2 + 2) = g
  have e1 : 2 * n / (2 * g) = n / g := Nat.mul_div_mul_left n g (by decide)
  have e2 : 2 * n % (2 * g) = 2 * (n % g) := Nat.mul_mod_mul_left 2 n g
  rw [e1, e2]
  congr 2
  have c1 : decide (2 * g < 2 * (2 * (n % g))) = decide (g < 2 * (n % g)) := by
    by_cases h : g < 2 * (n % g)
    · rw [decide_eq_true h, decide_eq_true (by omega)]
    · rw [decide_eq_false h, decide_eq_false (by omega)]
  have c2 : (2 * g == 2 * (2 * (n % g))) = (g == 2 * (n % g)) := by
    by_cases h : g = 2 * (n % g)
    · rw [beq_iff_eq.2 h, beq_iff_eq.2 (by omega)]
    · rw [beq_eq_false_iff_ne.2 h, beq_eq_false_iff_ne.2 (by omega)]
  rw [c1, c2]

theorem near_double (f : Ieee.Format) (m : Nat) (p : Int) (hm : m ≠ 0) : f.nearest false (2 * m) (p - 1) = f.nearest false m p := by
  unfold Ieee.Format.nearest
  rw [if_neg (by omega), if_neg hm]
  have hl : (2 * m).log2 = m.log2 + 1 := by rw [Nat.log2_two_mul hm]
  have e1 : max (p - 1 + ((2 * m).log2 : Int) - f.fractionBits) f.leastPlace = max (p + (m.log2 : Int) - f.fractionBits) f.leastPlace := by
    rw [hl]; congr 1; omega
  simp only [e1]
  generalize max (p + (m.log2 : Int) - f.fractionBits) f.leastPlace = last
  congr 3
  by_cases h : last < p
  · rw [show (last - (p - 1)).toNat = 0 by omega, show (last - p).toNat = 0 by omega, show (p - last).toNat = (p - 1 - last).toNat + 1 by omega]
    congr 1
  · rw [show (last - (p - 1)).toNat = (last - p).toNat + 1 by omega, show (p - 1 - last).toNat = 0 by omega, show (p - last).toNat = 0 by omega]
    simp only [Nat.shiftLeft_zero]
    exact cut_double m _ hm

theorem near_up (f : Ieee.Format) (m t : Nat) (p : Int) (hm : m ≠ 0) : f.nearest false (m * 2 ^ t) (p - t) = f.nearest false m p := by
  induction t with
  | zero => simp
  | succ t ih =>
    rw [Nat.pow_succ, ← Nat.mul_assoc, Nat.mul_comm _ 2, show p - ((t + 1 : Nat) : Int) = p - t - 1 by omega, near_double f _ _ (Nat.mul_ne_zero hm (by have := Nat.two_pow_pos t; omega))]
    exact ih

theorem near_zero (f : Ieee.Format) (p : Int) : f.nearest false 0 p = 0 := by unfold Ieee.Format.nearest Ieee.Format.word; simp

/-- The word of a number, told in units of the least place. -/
def fw (f : Ieee.Format) (v : Nat) : Nat := f.nearest false v f.leastPlace

theorem near_fw (f : Ieee.Format) (m a b v : Nat) (h : m * 2 ^ a = v * 2 ^ b) : f.nearest false m (f.leastPlace + a - b) = fw f v := by
  by_cases hm : m = 0
  · subst hm
    have hv : v = 0 := by
      rcases Nat.eq_zero_or_pos v with h0 | h0
      · exact h0
      · have := Nat.mul_pos h0 (Nat.two_pow_pos b); omega
    subst hv
    unfold fw
    rw [near_zero, near_zero]
  · have hv : v ≠ 0 := by
      intro h0
      subst h0
      have := Nat.mul_pos (Nat.pos_of_ne_zero hm) (Nat.two_pow_pos a)
      omega
    have e1 := near_up f m a (f.leastPlace + a - b) hm
    have e2 := near_up f v b f.leastPlace hv
    unfold fw
    rw [← e1, ← e2, h]
    congr 1
    omega

/-- A number with few places. -/
def Rep (F v : Nat) : Prop := ∃ c j, v = c * 2 ^ j ∧ c < 2 ^ (F + 1)

theorem vR_low (F b : Nat) (h : b < 2 ^ (F + 1)) : vR F b = b := by
  unfold vR
  by_cases hb : b < 2 ^ F
  · rw [if_pos hb]
  · rw [if_neg hb]
    have q : b / 2 ^ F = 1 := by
      rw [Nat.pow_succ] at h
      exact Nat.div_eq_of_lt_le (by omega) (by omega)
    rw [q]
    have := Nat.div_add_mod b (2 ^ F)
    rw [q] at this
    simp
    omega

theorem vR_high (F K k : Nat) (h0 : 2 ^ F ≤ k) (h1 : k < 2 ^ (F + 1)) : vR F (K * 2 ^ F + k) = k * 2 ^ K := by
  have hF := Nat.two_pow_pos F
  unfold vR
  rw [Nat.pow_succ] at h1
  have e : K * 2 ^ F + k = (k - 2 ^ F) + (K + 1) * 2 ^ F := by rw [Nat.add_mul]; omega
  rw [if_neg (by omega), e, Nat.add_mul_mod_self_right, Nat.add_mul_div_right _ _ hF, Nat.mod_eq_of_lt (show k - 2 ^ F < 2 ^ F by omega), Nat.div_eq_of_lt (show k - 2 ^ F < 2 ^ F by omega)]
  rw [show 2 ^ F + (k - 2 ^ F) = k by omega, show 0 + (K + 1) - 1 = K by omega]

theorem cut_none (n : Nat) : Toward.even.cut false n 0 = n := by
  unfold Toward.cut
  simp [Nat.mod_one]

/-- A number with few places is the one that its word stands for. -/
theorem fw_val (f : Ieee.Format) (v : Nat) (h : Rep f.fractionBits v) (hv : v < 2 ^ (f.fractionBits + (2 ^ f.exponentBits - 2))) (he : 2 ≤ 2 ^ f.exponentBits - 1) : fw f v < f.infRung ∧ vR f.fractionBits (fw f v) = v := by
  obtain ⟨c, j, rfl, hc⟩ := h
  have hinf : f.infRung = (2 ^ f.exponentBits - 1) * 2 ^ f.fractionBits := rfl
  have hF := Nat.two_pow_pos f.fractionBits
  by_cases h0 : c = 0
  · subst h0
    rw [Nat.zero_mul]
    have : fw f 0 = 0 := near_zero f _
    rw [this]
    refine ⟨?_, vR_low _ _ (Nat.two_pow_pos _)⟩
    rw [hinf]
    exact Nat.mul_pos (by omega) hF
  · have e0 : fw f (c * 2 ^ j) = f.nearest false c (f.leastPlace + j) := by
      have := near_fw f c j 0 (c * 2 ^ j) (by simp)
      rw [← this]
      congr 1
      simp
    have hL : c.log2 ≤ f.fractionBits := by
      have := (Nat.log2_lt h0).2 hc
      omega
    have hl1 : 2 ^ c.log2 ≤ c := Nat.log2_self_le h0
    have hl2 : c < 2 ^ (c.log2 + 1) := Nat.lt_log2_self
    have hKj : c.log2 + j < f.fractionBits + (2 ^ f.exponentBits - 2) := by
      have a1 : 2 ^ (c.log2 + j) ≤ c * 2 ^ j := by rw [Nat.pow_add]; exact Nat.mul_le_mul_right _ hl1
      exact (Nat.pow_lt_pow_iff_right (by decide : 1 < 2)).1 (Nat.lt_of_le_of_lt a1 hv)
    rw [e0]
    unfold Ieee.Format.nearest
    rw [if_neg h0]
    have hlast : max (f.leastPlace + j + (c.log2 : Int) - f.fractionBits) f.leastPlace = f.leastPlace + ((c.log2 + j - f.fractionBits : Nat) : Int) := by omega
    simp only [hlast]
    have d1 : (f.leastPlace + (j : Int) - (f.leastPlace + ((c.log2 + j - f.fractionBits : Nat) : Int))).toNat = j - (c.log2 + j - f.fractionBits) := by omega
    have d2 : (f.leastPlace + ((c.log2 + j - f.fractionBits : Nat) : Int) - (f.leastPlace + (j : Int))).toNat = 0 := by omega
    have d3 : (f.leastPlace + ((c.log2 + j - f.fractionBits : Nat) : Int) - f.leastPlace).toNat = c.log2 + j - f.fractionBits := by omega
    rw [d1, d2, d3, cut_none, Nat.shiftLeft_eq]
    have hbin : f.binade = 2 ^ f.fractionBits := rfl
    rw [hbin]
    by_cases hs : c.log2 + j ≤ f.fractionBits
    · have z : c.log2 + j - f.fractionBits = 0 := by omega
      rw [z, Nat.zero_mul, Nat.zero_add, Nat.sub_zero]
      have hk : c * 2 ^ j < 2 ^ (f.fractionBits + 1) := by
        have : c * 2 ^ j < 2 ^ (c.log2 + 1) * 2 ^ j := Nat.mul_lt_mul_of_pos_right hl2 (Nat.two_pow_pos j)
        rw [← Nat.pow_add] at this
        exact Nat.lt_of_lt_of_le this (Nat.pow_le_pow_right (by decide) (by omega))
      have hi : c * 2 ^ j < f.infRung := by
        rw [hinf]
        have : 2 * 2 ^ f.fractionBits ≤ (2 ^ f.exponentBits - 1) * 2 ^ f.fractionBits := Nat.mul_le_mul_right _ he
        rw [Nat.pow_succ] at hk
        omega
      unfold Ieee.Format.word
      rw [if_neg (by decide), Nat.min_eq_left (Nat.le_of_lt hi)]
      exact ⟨hi, vR_low _ _ hk⟩
    · have hk0 : 2 ^ f.fractionBits ≤ c * 2 ^ (j - (c.log2 + j - f.fractionBits)) := by
        have : 2 ^ c.log2 * 2 ^ (j - (c.log2 + j - f.fractionBits)) ≤ c * 2 ^ (j - (c.log2 + j - f.fractionBits)) := Nat.mul_le_mul_right _ hl1
        rw [← Nat.pow_add, show c.log2 + (j - (c.log2 + j - f.fractionBits)) = f.fractionBits by omega] at this
        exact this
      have hk1 : c * 2 ^ (j - (c.log2 + j - f.fractionBits)) < 2 ^ (f.fractionBits + 1) := by
        have : c * 2 ^ (j - (c.log2 + j - f.fractionBits)) < 2 ^ (c.log2 + 1) * 2 ^ (j - (c.log2 + j - f.fractionBits)) := Nat.mul_lt_mul_of_pos_right hl2 (Nat.two_pow_pos _)
        rw [← Nat.pow_add, show c.log2 + 1 + (j - (c.log2 + j - f.fractionBits)) = f.fractionBits + 1 by omega] at this
        exact this
      have hi : (c.log2 + j - f.fractionBits) * 2 ^ f.fractionBits + c * 2 ^ (j - (c.log2 + j - f.fractionBits)) < f.infRung := by
        rw [hinf]
        have : (c.log2 + j - f.fractionBits + 2) * 2 ^ f.fractionBits ≤ (2 ^ f.exponentBits - 1) * 2 ^ f.fractionBits := Nat.mul_le_mul_right _ (by omega)
        rw [Nat.add_mul] at this
        rw [Nat.pow_succ] at hk1
        omega
      unfold Ieee.Format.word
      rw [if_neg (by decide), Nat.min_eq_left (Nat.le_of_lt hi)]
      refine ⟨hi, ?_⟩
      rw [vR_high _ _ _ hk0 hk1, Nat.mul_assoc, ← Nat.pow_add, show j - (c.log2 + j - f.fractionBits) + (c.log2 + j - f.fractionBits) = j by omega]
end Go.Proofs.YtmddlbphanlfhaaGreatDoor

namespace Go.Proofs.YtmddlbphanlfhaaGreatDoor
open Ieee

/-- The number's word can be read back. -/
def Ok (f : Ieee.Format) (v : Nat) : Prop := Rep f.fractionBits v ∧ v < 2 ^ (f.fractionBits + (2 ^ f.exponentBits - 2)) ∧ 2 ≤ 2 ^ f.exponentBits - 1

theorem read_fw {f : Ieee.Format} {v : Nat} (h : Ok f v) : ∃ m k : Nat, f.read (fw f v) = .number false m (f.leastPlace + k) ∧ m * 2 ^ k = v := by
  obtain ⟨h1, h2⟩ := fw_val f v h.1 h.2.1 h.2.2
  obtain ⟨m, k, h3, h4⟩ := read_pos f _ h1
  exact ⟨m, k, h3, by rw [h4, h2]⟩

theorem place_min (L : Int) (k1 k2 : Nat) : min (L + (k1 : Int)) (L + (k2 : Int)) = L + ((min k1 k2 : Nat) : Int) := by omega

theorem up_part (m k q : Nat) (h : q ≤ k) : m <<< (k - q) * 2 ^ q = m * 2 ^ k := by
  rw [Nat.shiftLeft_eq, Nat.mul_assoc, ← Nat.pow_add, show k - q + q = k by omega]

theorem order_fw {f : Ieee.Format} {a b : Nat} (ha : Ok f a) (hb : Ok f b) : f.order (fw f a) (fw f b) = some (compare a b) := by
  obtain ⟨m, k, h1, h2⟩ := read_fw ha
  obtain ⟨n, l, h3, h4⟩ := read_fw hb
  unfold Ieee.Format.order
  rw [h1, h3]
  simp only [Datum.order, place_min, signed]
  have d1 : (f.leastPlace + (k : Int) - (f.leastPlace + ((min k l : Nat) : Int))).toNat = k - min k l := by omega
  have d2 : (f.leastPlace + (l : Int) - (f.leastPlace + ((min k l : Nat) : Int))).toNat = l - min k l := by omega
  rw [d1, d2]
  have e1 := up_part m k (min k l) (by omega)
  have e2 := up_part n l (min k l) (by omega)
  rw [h2] at e1
  rw [h4] at e2
  have hp := Nat.two_pow_pos (min k l)
  congr 1
  rw [← e1, ← e2]
  simp only [Bool.false_eq_true, if_false]
  generalize m <<< (k - min k l) = x
  generalize n <<< (l - min k l) = y
  generalize 2 ^ min k l = p at hp
  rcases Nat.lt_trichotomy x y with h | h | h
  · rw [Int.compare_eq_lt.2 (by omega), Nat.compare_eq_lt.2 (Nat.mul_lt_mul_of_pos_right h hp)]
  · subst h
    rw [Int.compare_eq_eq.2 rfl, Nat.compare_eq_eq.2 rfl]
  · rw [Int.compare_eq_gt.2 (by omega), Nat.compare_eq_gt.2 (Nat.mul_lt_mul_of_pos_right h hp)]

theorem sub_fw {f : Ieee.Format} {a b : Nat} (ha : Ok f a) (hb : Ok f b) (h : b ≤ a) : f.sub (fw f a) (fw f b) = some (fw f (a - b)) := by
  obtain ⟨m, k, h1, h2⟩ := read_fw ha
  obtain ⟨n, l, h3, h4⟩ := read_fw hb
  unfold Ieee.Format.sub
  rw [h1, h3]
  simp only [Datum.opposite, Datum.sum, place_min, signed]
  have d1 : (f.leastPlace + (k : Int) - (f.leastPlace + ((min k l : Nat) : Int))).toNat = k - min k l := by omega
  have d2 : (f.leastPlace + (l : Int) - (f.leastPlace + ((min k l : Nat) : Int))).toNat = l - min k l := by omega
  rw [d1, d2]
  have e1 := up_part m k (min k l) (by omega)
  have e2 := up_part n l (min k l) (by omega)
  rw [h2] at e1
  rw [h4] at e2
  have hp := Nat.two_pow_pos (min k l)
  simp only [Bool.false_eq_true, if_false, Bool.not_false, if_true, Bool.false_and, Option.map_some, Option.some.injEq]
  generalize m <<< (k - min k l) = x at *
  generalize n <<< (l - min k l) = y at *
  have hxy : y ≤ x := by
    apply Nat.le_of_mul_le_mul_right (c := 2 ^ min k l) _ hp
    rw [e1, e2]; exact h
  have c : (if (x : Int) + -(y : Int) = 0 then false else decide ((x : Int) + -(y : Int) < 0)) = false := by
    split
    · rfl
    · exact decide_eq_false (by omega)
  rw [c, show ((x : Int) + -(y : Int)).natAbs = x - y by omega]
  show f.nearest false (x - y) _ = _
  have := near_fw f (x - y) (min k l) 0 (a - b) (by rw [Nat.sub_mul, e1, e2]; simp)
  rw [← this]
  congr 1
  simp

theorem mul_fw {f : Ieee.Format} {a b v : Nat} (B : Nat) (hB : f.leastPlace = -(B : Int)) (ha : Ok f a) (hb : Ok f b) (h : a * b = v * 2 ^ B) : f.mul (fw f a) (fw f b) = some (fw f v) := by
  obtain ⟨m, k, h1, h2⟩ := read_fw ha
  obtain ⟨n, l, h3, h4⟩ := read_fw hb
  unfold Ieee.Format.mul
  rw [h1, h3]
  simp only [Datum.product, Option.map_some, Option.some.injEq]
  show f.nearest false (m * n) _ = _
  have := near_fw f (m * n) (k + l) B v (by rw [Nat.pow_add, ← h, ← h2, ← h4]; exact Nat.mul_mul_mul_comm m n _ _)
  rw [← this]
  congr 1
  rw [hB]
  omega

theorem int_fw {f : Ieee.Format} (n B : Nat) (hB : f.leastPlace = -(B : Int)) : f.write (.number (decide ((n : Int) < 0)) (n : Int).natAbs 0) = fw f (n * 2 ^ B) := by
  have h0 : decide ((n : Int) < 0) = false := decide_eq_false (by omega)
  rw [h0]
  show f.nearest false ((n : Int)).natAbs 0 = _
  have := near_fw f n B 0 (n * 2 ^ B) (by simp)
  rw [← this]
  congr 1
  rw [hB]
  omega

theorem to_fw {f g : Ieee.Format} {a v : Nat} (D : Nat) (hD : f.leastPlace = g.leastPlace - (D : Int)) (ha : Ok f a) (h : a = v * 2 ^ D) : ∃ m i, f.read (fw f a) = .number false m i ∧ g.write (.number false m i) = fw g v := by
  obtain ⟨m, k, h1, h2⟩ := read_fw ha
  refine ⟨m, _, h1, ?_⟩
  show g.nearest false m _ = _
  have := near_fw g m k D v (by rw [h2]; exact h)
  rw [← this]
  congr 1
  omega

theorem cut_zero (n d : Nat) : Toward.zero.cut false n d = n / 2 ^ d := by
  unfold Toward.cut
  simp only [Nat.shiftLeft_eq, Nat.one_mul, Bool.toNat_false, Nat.add_zero]
  by_cases h : d ≤ n.log2 + 2
  · rw [Nat.min_eq_left h]
  · rw [Nat.min_eq_right (by omega)]
    have hl : n < 2 ^ (n.log2 + 1) := Nat.lt_log2_self
    have a1 : n < 2 ^ (n.log2 + 2) := Nat.lt_of_lt_of_le hl (Nat.pow_le_pow_right (by decide) (by omega))
    have a2 : n < 2 ^ d := Nat.lt_of_lt_of_le hl (Nat.pow_le_pow_right (by decide) (by omega))
    rw [Nat.div_eq_of_lt a1, Nat.div_eq_of_lt a2]

theorem toInt_fw {f : Ieee.Format} {a : Nat} (B : Nat) (hB : f.leastPlace = -(B : Int)) (ha : Ok f a) : (f.read (fw f a)).toInt .zero = some ((a / 2 ^ B : Nat) : Int) := by
  obtain ⟨m, k, h1, h2⟩ := read_fw ha
  rw [h1]
  simp only [Datum.toInt, Datum.integral, signed, Bool.false_eq_true, if_false, Nat.shiftLeft_zero, Option.some.injEq]
  rw [cut_zero, Nat.shiftLeft_eq, hB, ← h2]
  congr 1
  by_cases h : B ≤ k
  · rw [show (-(B : Int) + (k : Int)).toNat = k - B by omega, show (-(-(B : Int) + (k : Int))).toNat = 0 by omega]
    rw [Nat.pow_zero, Nat.div_one]
    have e : m * 2 ^ k = m * 2 ^ (k - B) * 2 ^ B := by rw [Nat.mul_assoc, ← Nat.pow_add, show k - B + B = k by omega]
    rw [e, Nat.mul_div_cancel _ (Nat.two_pow_pos B)]
  · rw [show (-(B : Int) + (k : Int)).toNat = 0 by omega, show (-(-(B : Int) + (k : Int))).toNat = B - k by omega]
    rw [Nat.pow_zero, Nat.mul_one]
    have e : 2 ^ B = 2 ^ (B - k) * 2 ^ k := by rw [← Nat.pow_add, show B - k + k = B by omega]
    rw [e, Nat.mul_div_mul_right _ _ (Nat.two_pow_pos k)]
end Go.Proofs.YtmddlbphanlfhaaGreatDoor

namespace Go.Proofs.YtmddlbphanlfhaaGreatDoor
open Ieee

/-- A word told by its parts. -/
theorem vR_parts (F E M : Nat) (hE : 1 ≤ E) (hM : M < 2 ^ F) : vR F (E * 2 ^ F + M) = (2 ^ F + M) * 2 ^ (E - 1) := by
  have := vR_high F (E - 1) (2 ^ F + M) (by omega) (by rw [Nat.pow_succ]; omega)
  rw [← this]
  congr 1
  have : E * 2 ^ F = (E - 1) * 2 ^ F + 2 ^ F := by
    conv => lhs; rw [show E = E - 1 + 1 by omega]
    rw [Nat.add_mul, Nat.one_mul]
  omega

/-- Words stand for different numbers. -/
theorem vR_lt (F a b : Nat) (h : a < b) : vR F a < vR F b := by
  have hF := Nat.two_pow_pos F
  have step : ∀ x : Nat, vR F x < vR F (x + 1) := by
    intro x
    by_cases h1 : x + 1 < 2 ^ (F + 1)
    · rw [vR_low F x (by omega), vR_low F (x + 1) h1]; omega
    · rw [Nat.pow_succ] at h1
      have e0 := Nat.div_add_mod x (2 ^ F)
      have m0 := Nat.mod_lt x hF
      have q1 : 1 ≤ x / 2 ^ F := by
        apply (Nat.le_div_iff_mul_le hF).2
        omega
      have e1 : x = x / 2 ^ F * 2 ^ F + x % 2 ^ F := by rw [Nat.mul_comm]; omega
      have v1 : vR F x = (2 ^ F + x % 2 ^ F) * 2 ^ (x / 2 ^ F - 1) := by
        conv => lhs; rw [e1]
        exact vR_parts F _ _ q1 m0
      generalize x / 2 ^ F = q at *
      generalize x % 2 ^ F = r at *
      have hp := Nat.two_pow_pos (q - 1)
      by_cases hr : r + 1 < 2 ^ F
      · have v2 : vR F (x + 1) = (2 ^ F + (r + 1)) * 2 ^ (q - 1) := by
          have : x + 1 = q * 2 ^ F + (r + 1) := by omega
          rw [this]
          exact vR_parts F _ _ q1 hr
        rw [v1, v2]
        exact Nat.mul_lt_mul_of_pos_right (by omega) hp
      · have v2 : vR F (x + 1) = (2 ^ F + 0) * 2 ^ (q + 1 - 1) := by
          have : x + 1 = (q + 1) * 2 ^ F + 0 := by rw [Nat.add_mul]; omega
          rw [this]
          exact vR_parts F _ _ (by omega) hF
        rw [v1, v2]
        have e2 : 2 ^ (q + 1 - 1) = 2 * 2 ^ (q - 1) := by
          rw [show q + 1 - 1 = q - 1 + 1 by omega, Nat.pow_succ, Nat.mul_comm]
        rw [e2, Nat.add_zero, ← Nat.mul_assoc]
        exact Nat.mul_lt_mul_of_pos_right (by omega) hp
  obtain ⟨d, rfl⟩ : ∃ d, b = a + d + 1 := ⟨b - a - 1, by omega⟩
  induction d with
  | zero => exact step a
  | succ d ih => exact Nat.lt_trans (ih (by omega)) (step (a + d + 1))

/-- The word of what a word stands for. -/
theorem fw_of (f : Ieee.Format) (b v : Nat) (hv : Ok f v) (h : vR f.fractionBits b = v) : fw f v = b := by
  obtain ⟨_, h2⟩ := fw_val f v hv.1 hv.2.1 hv.2.2
  rcases Nat.lt_trichotomy (fw f v) b with g | g | g
  · have := vR_lt f.fractionBits _ _ g; omega
  · exact g
  · have := vR_lt f.fractionBits _ _ g; omega

/-- A small number times a power, below a power. -/
theorem few_lt {c j a b : Nat} (hc : c < 2 ^ a) (h : a + j ≤ b) : c * 2 ^ j < 2 ^ b := by
  have h1 : c * 2 ^ j < 2 ^ a * 2 ^ j := Nat.mul_lt_mul_of_pos_right hc (Nat.two_pow_pos j)
  rw [← Nat.pow_add] at h1
  exact Nat.lt_of_lt_of_le h1 (Nat.pow_le_pow_right (by decide) h)

theorem ok64 {c j : Nat} (hc : c < 2 ^ 53) (h : j ≤ 2045) : Ok Ieee.double (c * 2 ^ j) :=
  ⟨⟨c, j, rfl, hc⟩, few_lt hc (by show 53 + j ≤ 52 + (2 ^ 11 - 2); omega), by decide⟩

theorem ok32 {c j : Nat} (hc : c < 2 ^ 24) (h : j ≤ 253) : Ok Ieee.single (c * 2 ^ j) :=
  ⟨⟨c, j, rfl, hc⟩, few_lt hc (by show 24 + j ≤ 23 + (2 ^ 8 - 2); omega), by decide⟩

/-- The word of a number from 2^t to 2^(t+1), in double. -/
theorem word64 (c t : Nat) (h0 : 2 ^ t ≤ c) (h1 : c < 2 ^ (t + 1)) (ht : t ≤ 52) (j : Nat) (hj : j + t ≤ 2000) (hj2 : 52 ≤ j + t) :
    fw Ieee.double (c * 2 ^ j) = (j + t - 51) * 2 ^ 52 + (c * 2 ^ (52 - t) - 2 ^ 52) ∧ c * 2 ^ (52 - t) - 2 ^ 52 < 2 ^ 52 := by
  have a0 : 2 ^ 52 ≤ c * 2 ^ (52 - t) := by
    have : 2 ^ t * 2 ^ (52 - t) ≤ c * 2 ^ (52 - t) := Nat.mul_le_mul_right _ h0
    rwa [← Nat.pow_add, show t + (52 - t) = 52 by omega] at this
  have a1 : c * 2 ^ (52 - t) < 2 ^ 53 := few_lt h1 (by omega)
  have hM : c * 2 ^ (52 - t) - 2 ^ 52 < 2 ^ 52 := by omega
  refine ⟨?_, hM⟩
  refine fw_of Ieee.double _ _ (ok64 (Nat.lt_of_lt_of_le h1 (Nat.pow_le_pow_right (by decide) (by omega))) (by omega)) ?_
  rw [show Ieee.double.fractionBits = 52 from rfl, vR_parts 52 _ _ (by omega) hM, show 2 ^ 52 + (c * 2 ^ (52 - t) - 2 ^ 52) = c * 2 ^ (52 - t) by omega, Nat.mul_assoc, ← Nat.pow_add]
  congr 2
  omega

/-- Words of numbers that are at least 0 stand as their numbers do. -/
theorem order_pos {f : Ieee.Format} {x y : Nat} (hx : x < f.infRung) (hy : y < f.infRung) : f.order x y = some (compare x y) := by
  obtain ⟨m, k, h1, h2⟩ := read_pos f x hx
  obtain ⟨n, l, h3, h4⟩ := read_pos f y hy
  unfold Ieee.Format.order
  rw [h1, h3]
  simp only [Datum.order, place_min, signed]
  have d1 : (f.leastPlace + (k : Int) - (f.leastPlace + ((min k l : Nat) : Int))).toNat = k - min k l := by omega
  have d2 : (f.leastPlace + (l : Int) - (f.leastPlace + ((min k l : Nat) : Int))).toNat = l - min k l := by omega
  rw [d1, d2]
  have e1 := up_part m k (min k l) (by omega)
  have e2 := up_part n l (min k l) (by omega)
  rw [h2] at e1
  rw [h4] at e2
  have hp := Nat.two_pow_pos (min k l)
  congr 1
  simp only [Bool.false_eq_true, if_false]
  generalize m <<< (k - min k l) = a at *
  generalize n <<< (l - min k l) = b at *
  generalize 2 ^ min k l = p at *
  rcases Nat.lt_trichotomy x y with h | h | h
  · have := vR_lt f.fractionBits _ _ h
    rw [← e1, ← e2] at this
    have := Nat.lt_of_mul_lt_mul_right this
    rw [Int.compare_eq_lt.2 (by omega), Nat.compare_eq_lt.2 h]
  · subst h
    rw [← e2] at e1
    have := Nat.eq_of_mul_eq_mul_right hp e1
    rw [Int.compare_eq_eq.2 (by omega), Nat.compare_eq_eq.2 rfl]
  · have := vR_lt f.fractionBits _ _ h
    rw [← e1, ← e2] at this
    have := Nat.lt_of_mul_lt_mul_right this
    rw [Int.compare_eq_gt.2 (by omega), Nat.compare_eq_gt.2 h]
end Go.Proofs.YtmddlbphanlfhaaGreatDoor

