/-
  Plain facts on dyadic numbers: their order, their sums and products in lowest terms. No Go in sight.
-/
import Derived.Test.YtfgbndjhaiigbabDoorDy
namespace Go.Proofs.YtfgbndjhaiigbabDoor
open Go

/-- The sign. -/
def sgV (n : Int) : Int := if n < 0 then -1 else if 0 < n then 1 else 0

theorem sg_neg {n : Int} (h : n < 0) : sgV n = -1 := by unfold sgV; rw [if_pos h]
theorem sg_pos {n : Int} (h : 0 < n) : sgV n = 1 := by unfold sgV; rw [if_neg (by omega), if_pos h]
theorem sg_zero {n : Int} (h : n = 0) : sgV n = 0 := by subst h; rfl
theorem sg_mul {n m : Int} (h : 0 < m) : sgV (n * m) = sgV n := by
  rcases Int.lt_trichotomy n 0 with g | g | g
  · rw [sg_neg g, sg_neg (Int.mul_neg_of_neg_of_pos g h)]
  · subst g; simp
  · rw [sg_pos g, sg_pos (Int.mul_pos g h)]

/-- The value of a dyadic number, in units of 2^-100. -/
def valD (n e : Int) : Int := n * pw (e + 100)
/-- How two dyadic numbers stand. -/
def cmpD (na ea nb eb : Int) : Int := sgV (valD na ea - valD nb eb)
/-- A number that grows with the power of two at the top. -/
def topV (n e : Int) : Int := sgV n * (100 + e + plV n)

theorem top_bd {n e : Int} (h : dyB n e = true) : -200 - 51 ≤ topV n e ∧ topV n e ≤ 251 ∧ 0 ≤ plV n ∧ plV n ≤ 51 := by
  obtain ⟨⟨h1, h2, h3, h4⟩, _⟩ := dy_iff.1 h
  have p1 := pl_nn n
  have p2 : plV n ≤ 51 := pl_le n 51 (by decide) (by decide) (by rw [show pw 51 = 2251799813685248 from rfl]; omega)
  unfold topV
  rcases Int.lt_trichotomy n 0 with g | g | g
  · rw [sg_neg g]; omega
  · rw [sg_zero g]; omega
  · rw [sg_pos g]; omega

theorem val_lo {n e : Int} (h : dyB n e = true) (h0 : n ≠ 0) : pw (plV n - 1 + e + 100) ≤ (valD n e).natAbs ∧ ((valD n e).natAbs : Int) < pw (plV n + e + 100) := by
  obtain ⟨⟨h1, h2, h3, h4⟩, _⟩ := dy_iff.1 h
  obtain ⟨b1, b2, b3⟩ := pl_bd n h0 (by omega) (by omega)
  have hp := pw_pos (e + 100)
  have e1 : ((valD n e).natAbs : Int) = n.natAbs * pw (e + 100) := by
    unfold valD
    rw [Int.natAbs_mul, Int.natCast_mul]
    congr 1
  rw [e1, show plV n - 1 + e + 100 = (plV n - 1) + (e + 100) by omega, show plV n + e + 100 = plV n + (e + 100) by omega, pw_add (plV n - 1) (e + 100) (by omega) (by omega), pw_add (plV n) (e + 100) (by omega) (by omega)]
  exact ⟨Int.mul_le_mul_of_nonneg_right b2 (by omega), Int.mul_lt_mul_of_pos_right b3 (by omega)⟩

theorem val_sg {n e : Int} (_ : -100 ≤ e) : sgV (valD n e) = sgV n := sg_mul (by have := pw_pos (e + 100); omega)

/-- There are two dyadic numbers. -/
def dy2B (na ea nb eb : Int) : Bool := dyB na ea && dyB nb eb
theorem dy2_iff {na ea nb eb : Int} : dy2B na ea nb eb = true ↔ dyB na ea = true ∧ dyB nb eb = true := by unfold dy2B; simp
theorem plV_abs (n : Int) : plV (n.natAbs : Int) = plV n := by unfold plV; simp

/-- The top decides. -/
theorem cmp_top {na ea nb eb : Int} (ha : dyB na ea = true) (hb : dyB nb eb = true) (h : topV na ea ≠ topV nb eb) : cmpD na ea nb eb = sgV (topV na ea - topV nb eb) := by
  obtain ⟨⟨a1, a2, a3, a4⟩, _⟩ := dy_iff.1 ha
  obtain ⟨⟨b1, b2, b3, b4⟩, _⟩ := dy_iff.1 hb
  have pa := pw_pos (ea + 100)
  have pb := pw_pos (eb + 100)
  have ta := top_bd ha
  have tb := top_bd hb
  have sa := val_sg (n := na) a3
  have sb := val_sg (n := nb) b3
  have la := fun g => val_lo ha g
  have lb := fun g => val_lo hb g
  have qa := fun g => pl_bd na g (by omega) (by omega)
  have qb := fun g => pl_bd nb g (by omega) (by omega)
  unfold cmpD
  have va : ∀ {n e : Int}, -100 ≤ e → (n < 0 → valD n e < 0) ∧ (n = 0 → valD n e = 0) ∧ (0 < n → 0 < valD n e) := by
    intro n e he
    have := pw_pos (e + 100)
    exact ⟨fun g => Int.mul_neg_of_neg_of_pos g (by omega), fun g => by subst g; unfold valD; simp, fun g => Int.mul_pos g (by omega)⟩
  have wa := va (n := na) a3
  have wb := va (n := nb) b3
  have key : ∀ {x y : Int}, x < y → pw (x + 100) ≤ pw (y - 1 + 100) := fun h => pw_mono (by omega)
  unfold topV at *
  rcases Int.lt_trichotomy na 0 with ga | ga | ga <;> rcases Int.lt_trichotomy nb 0 with gb | gb | gb
  · rw [sg_neg ga, sg_neg gb] at *
    have l1 := la (by omega); have l2 := lb (by omega); have w1 := wa.1 ga; have w2 := wb.1 gb
    rcases Int.lt_or_gt_of_ne (show plV na + ea ≠ plV nb + eb by omega) with g | g
    · have := pw_mono (a := plV na + ea + 100) (b := plV nb - 1 + eb + 100) (by omega)
      rw [sg_pos (by omega), sg_pos (by omega)]
    · have := pw_mono (a := plV nb + eb + 100) (b := plV na - 1 + ea + 100) (by omega)
      rw [sg_neg (by omega), sg_neg (by omega)]
  · rw [sg_neg ga, sg_zero gb] at *
    have w1 := wa.1 ga; have w2 := wb.2.1 gb; have := qa (by omega)
    rw [sg_neg (by omega), sg_neg (by omega)]
  · rw [sg_neg ga, sg_pos gb] at *
    have w1 := wa.1 ga; have w2 := wb.2.2 gb; have := qa (by omega); have := qb (by omega)
    rw [sg_neg (by omega), sg_neg (by omega)]
  · rw [sg_zero ga, sg_neg gb] at *
    have w1 := wa.2.1 ga; have w2 := wb.1 gb; have := qb (by omega)
    rw [sg_pos (by omega), sg_pos (by omega)]
  · rw [sg_zero ga, sg_zero gb] at *
    omega
  · rw [sg_zero ga, sg_pos gb] at *
    have w1 := wa.2.1 ga; have w2 := wb.2.2 gb; have := qb (by omega)
    rw [sg_neg (by omega), sg_neg (by omega)]
  · rw [sg_pos ga, sg_neg gb] at *
    have w1 := wa.2.2 ga; have w2 := wb.1 gb; have := qa (by omega); have := qb (by omega)
    rw [sg_pos (by omega), sg_pos (by omega)]
  · rw [sg_pos ga, sg_zero gb] at *
    have w1 := wa.2.2 ga; have w2 := wb.2.1 gb; have := qa (by omega)
    rw [sg_pos (by omega), sg_pos (by omega)]
  · rw [sg_pos ga, sg_pos gb] at *
    have l1 := la (by omega); have l2 := lb (by omega); have w1 := wa.2.2 ga; have w2 := wb.2.2 gb
    rcases Int.lt_or_gt_of_ne (show plV na + ea ≠ plV nb + eb by omega) with g | g
    · have := pw_mono (a := plV na + ea + 100) (b := plV nb - 1 + eb + 100) (by omega)
      rw [sg_neg (by omega), sg_neg (by omega)]
    · have := pw_mono (a := plV nb + eb + 100) (b := plV na - 1 + ea + 100) (by omega)
      rw [sg_pos (by omega), sg_pos (by omega)]

/-- All places decide. -/
theorem cmp_low {na ea nb eb l : Int} (hl : -100 ≤ l) (h1 : l ≤ ea) (h2 : l ≤ eb) : cmpD na ea nb eb = sgV (na * pw (ea - l) - nb * pw (eb - l)) := by
  have hp := pw_pos (l + 100)
  have e1 : ∀ n e : Int, l ≤ e → valD n e = n * pw (e - l) * pw (l + 100) := by
    intro n e he
    unfold valD
    rw [Int.mul_assoc, ← pw_add (e - l) (l + 100) (by omega) (by omega)]
    congr 2
    omega
  unfold cmpD
  rw [e1 _ _ h1, e1 _ _ h2, ← Int.sub_mul]
  exact sg_mul (by omega)

theorem cmp_same {na ea : Int} : cmpD na ea na ea = 0 := by unfold cmpD; rw [Int.sub_self]; rfl

/-- With the same top, all places fit. -/
theorem low_fits {na ea nb eb : Int} (ha : dyB na ea = true) (hb : dyB nb eb = true) (h : topV na ea = topV nb eb) :
    -2251799813685248 ≤ na * pw (ea - min ea eb) ∧ na * pw (ea - min ea eb) ≤ 2251799813685248 ∧ ea - min ea eb ≤ 200 := by
  obtain ⟨⟨a1, a2, a3, a4⟩, _⟩ := dy_iff.1 ha
  obtain ⟨⟨b1, b2, b3, b4⟩, _⟩ := dy_iff.1 hb
  have ta := top_bd ha
  have tb := top_bd hb
  have qa := fun g => pl_bd na g (by omega) (by omega)
  have qb := fun g => pl_bd nb g (by omega) (by omega)
  have key : na ≠ 0 → plV na + ea = plV nb + eb → -2251799813685248 ≤ na * pw (ea - min ea eb) ∧ na * pw (ea - min ea eb) ≤ 2251799813685248 := by
    intro g0 ge
    obtain ⟨q1, q2, q3⟩ := qa g0
    have hp := pw_pos (ea - min ea eb)
    have e1 : ((na * pw (ea - min ea eb)).natAbs : Int) = na.natAbs * pw (ea - min ea eb) := by
      rw [Int.natAbs_mul, Int.natCast_mul]; congr 1
    have e2 : (na.natAbs : Int) * pw (ea - min ea eb) ≤ pw (plV na) * pw (ea - min ea eb) := Int.mul_le_mul_of_nonneg_right (by omega) (by omega)
    rw [← pw_add (plV na) (ea - min ea eb) (by omega) (by omega)] at e2
    have e3 := pw_le (a := plV na + (ea - min ea eb)) 51 2251799813685248 rfl (by omega)
    omega
  suffices hs : -2251799813685248 ≤ na * pw (ea - min ea eb) ∧ na * pw (ea - min ea eb) ≤ 2251799813685248 from ⟨hs.1, hs.2, by omega⟩
  by_cases g0 : na = 0
  · subst g0; simp
  · refine key g0 ?_
    unfold topV at h
    rcases Int.lt_trichotomy na 0 with ga | ga | ga <;> rcases Int.lt_trichotomy nb 0 with gb | gb | gb
    · rw [sg_neg ga, sg_neg gb] at h; omega
    · rw [sg_neg ga, sg_zero gb] at h; have := qa (by omega); omega
    · rw [sg_neg ga, sg_pos gb] at h; have := qa (by omega); have := qb (by omega); omega
    · omega
    · omega
    · omega
    · rw [sg_pos ga, sg_neg gb] at h; have := qa (by omega); have := qb (by omega); omega
    · rw [sg_pos ga, sg_zero gb] at h; have := qa (by omega); omega
    · rw [sg_pos ga, sg_pos gb] at h; omega
end Go.Proofs.YtfgbndjhaiigbabDoor
