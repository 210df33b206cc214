/-
  Plain facts on sums and products of dyadic numbers in lowest terms. No Go in sight.
-/
import Derived.Test.YtfgbndjhaiigbabDoorDyC
namespace Go.Proofs.YtfgbndjhaiigbabDoor
open Go

/-- S times 2^l is a dyadic number in lowest terms. -/
def nfB (S l : Int) : Bool := S == 0 || dyB (odV S) (l + tzV S)
def nfN (S l : Int) : Int := if nfB S l = true then odV S else 0
def nfE (S l : Int) : Int := if S = 0 then 0 else if nfB S l = true then l + tzV S else 0

theorem od_zero : odV 0 = 0 := by unfold odV; simp
theorem nf_zero {S l : Int} (h : S = 0) : nfB S l = true ∧ nfN S l = 0 ∧ nfE S l = 0 := by
  subst h
  have : nfB 0 l = true := by unfold nfB; simp
  unfold nfN nfE
  rw [if_pos this, od_zero]
  simp [this]
theorem nf_yes {S l : Int} (h0 : S ≠ 0) (h : dyB (odV S) (l + tzV S) = true) : nfB S l = true ∧ nfN S l = odV S ∧ nfE S l = l + tzV S := by
  have : nfB S l = true := by unfold nfB; simp [h]
  unfold nfN nfE
  rw [if_pos this, if_neg h0, if_pos this]
  exact ⟨this, rfl, rfl⟩
theorem nf_no {S l : Int} (h0 : S ≠ 0) (h : dyB (odV S) (l + tzV S) = false) : nfB S l = false ∧ nfN S l = 0 ∧ nfE S l = 0 := by
  have : nfB S l = false := by unfold nfB; simp [h, h0]
  unfold nfN nfE
  rw [this]
  simp

/-- A dyadic number is in lowest terms. -/
theorem nf_self {n e : Int} (h : dyB n e = true) : nfB n e = true ∧ nfN n e = n ∧ nfE n e = e := by
  obtain ⟨⟨h1, h2, h3, h4⟩, h5⟩ := dy_iff.1 h
  rcases h5 with h5 | ⟨h5, h6⟩
  · obtain ⟨t1, t2⟩ := tz_of n n 0 (by decide) h5 (by show n = n * 1; omega) (by omega) (by omega)
    have := nf_yes (S := n) (l := e) (by omega) (by rw [t1, t2, Int.add_zero]; exact h)
    rw [t1, t2, Int.add_zero] at this
    exact this
  · subst h5 h6
    exact nf_zero rfl

theorem nf_odd {S l : Int} (h : S % 2 = 1) (h1 : -9223372036854775808 < S) (h2 : S < 9223372036854775808) (hb : S < -1125899906842624 ∨ 1125899906842624 < S) : dyB (odV S) (l + tzV S) = false := by
  obtain ⟨t1, t2⟩ := tz_of S S 0 (by decide) h (by show S = S * 1; omega) h1 h2
  rw [t1, t2]
  unfold dyB
  simp
  omega

/-- The sum of two numbers that are not 0, at the lesser power. -/
def suL (ea eb : Int) : Int := min ea eb
def suS (na ea nb eb : Int) : Int := na * pw (ea - suL ea eb) + nb * pw (eb - suL ea eb)
/-- All places are few. -/
def rmB (k na ea nb eb : Int) : Bool := decide (plV na + (ea - suL ea eb) ≤ k ∧ plV nb + (eb - suL ea eb) ≤ k)
def suB (na ea nb eb : Int) : Bool := na == 0 || nb == 0 || (rmB 60 na ea nb eb && nfB (suS na ea nb eb) (suL ea eb))
def suN (na ea nb eb : Int) : Int := if na = 0 then nb else if nb = 0 then na else if rmB 60 na ea nb eb = true then nfN (suS na ea nb eb) (suL ea eb) else 0
def suE (na ea nb eb : Int) : Int := if na = 0 then eb else if nb = 0 then ea else if rmB 60 na ea nb eb = true then nfE (suS na ea nb eb) (suL ea eb) else 0

theorem mul_bd {n k j : Int} (hj : 0 ≤ j) (hk : plV n + j ≤ k) (_ : k ≤ 62) (h1 : -9223372036854775808 < n) (h2 : n < 9223372036854775808) : ((n * pw j).natAbs : Int) < pw k := by
  by_cases h0 : n = 0
  · subst h0; have := pw_pos k; simp; omega
  · obtain ⟨q1, q2, q3⟩ := pl_bd n h0 (by omega) (by omega)
    have hp := pw_pos j
    have e1 : ((n * pw j).natAbs : Int) = n.natAbs * pw j := by
      rw [Int.natAbs_mul, Int.natCast_mul]; congr 1
    have e2 : (n.natAbs : Int) * pw j < pw (plV n) * pw j := Int.mul_lt_mul_of_pos_right (by omega) (by omega)
    rw [← pw_add (plV n) j (by omega) hj] at e2
    have := pw_mono hk
    omega

theorem mul_lo {n j : Int} (hj : 0 ≤ j) (h0 : n ≠ 0) (h1 : -9223372036854775808 < n) (h2 : n < 9223372036854775808) : pw (plV n - 1 + j) ≤ ((n * pw j).natAbs : Int) := by
  obtain ⟨q1, q2, q3⟩ := pl_bd n h0 (by omega) (by omega)
  have hp := pw_pos j
  have e1 : ((n * pw j).natAbs : Int) = n.natAbs * pw j := by
    rw [Int.natAbs_mul, Int.natCast_mul]; congr 1
  rw [e1, pw_add (plV n - 1) j (by omega) hj]
  exact Int.mul_le_mul_of_nonneg_right q2 (by omega)

theorem mul_even {n j : Int} (hj : 1 ≤ j) : n * pw j % 2 = 0 := by
  have : pw j = pw (j - 1) * 2 := by
    have := pw_succ (j - 1) (by omega)
    rw [show j - 1 + 1 = j by omega] at this
    omega
  rw [this, ← Int.mul_assoc]
  exact Int.mul_emod_left _ _

theorem room_any {k na ea nb eb : Int} : rmB k na ea nb eb = true ↔ plV na + (ea - suL ea eb) ≤ k ∧ plV nb + (eb - suL ea eb) ≤ k := by unfold rmB; simp

/-- With a few places more than told, there is no sum either. -/
theorem su_far {na ea nb eb : Int} (ha : dyB na ea = true) (hb : dyB nb eb = true) (za : na ≠ 0) (zb : nb ≠ 0)
    (h1 : rmB 62 na ea nb eb = true) (h2 : rmB 60 na ea nb eb = false) : nfB (suS na ea nb eb) (suL ea eb) = false := by
  obtain ⟨⟨a1, a2, a3, a4⟩, a5⟩ := dy_iff.1 ha
  obtain ⟨⟨b1, b2, b3, b4⟩, b5⟩ := dy_iff.1 hb
  have pa := (top_bd ha).2.2
  have pb := (top_bd hb).2.2
  rw [room_any] at h1
  have h2' : ¬ (plV na + (ea - suL ea eb) ≤ 60 ∧ plV nb + (eb - suL ea eb) ≤ 60) := by
    intro h; rw [room_any.2 h] at h2; cases h2
  have key : ∀ {n m j : Int}, n ≠ 0 → 1 ≤ j → m % 2 = 1 → -1125899906842624 ≤ m → m ≤ 1125899906842624 → -1125899906842624 ≤ n → n ≤ 1125899906842624 → plV n + j ≤ 62 → 60 < plV n + j →
      (n * pw j + m) % 2 = 1 ∧ (-9223372036854775808 < n * pw j + m ∧ n * pw j + m < 9223372036854775808) ∧ (n * pw j + m < -1125899906842624 ∨ 1125899906842624 < n * pw j + m) := by
    intro n m j g0 gj g1 g2 g3 g4 g5 g6 g7
    have e1 := mul_even (n := n) gj
    have e2 := mul_bd (n := n) (j := j) (by omega) g6 (by decide) (by omega) (by omega)
    have e3 := mul_lo (n := n) (j := j) (by omega) g0 (by omega) (by omega)
    have e4 := pw_ge (a := plV n - 1 + j) 60 1152921504606846976 rfl (by omega)
    rw [show pw 62 = 4611686018427387904 from rfl] at e2
    omega
  have hS : (suS na ea nb eb) % 2 = 1 ∧ (-9223372036854775808 < suS na ea nb eb ∧ suS na ea nb eb < 9223372036854775808) ∧ (suS na ea nb eb < -1125899906842624 ∨ 1125899906842624 < suS na ea nb eb) := by
    unfold suS
    unfold suL at *
    by_cases h : ea ≤ eb
    · rw [show min ea eb = ea by omega] at *
      rw [show ea - ea = 0 by omega, show na * pw 0 = na from Int.mul_one _, Int.add_comm]
      exact key zb (by omega) (by omega) a1 a2 b1 b2 (by omega) (by omega)
    · rw [show min ea eb = eb by omega] at *
      rw [show eb - eb = 0 by omega, show nb * pw 0 = nb from Int.mul_one _]
      exact key za (by omega) (by omega) b1 b2 a1 a2 (by omega) (by omega)
  obtain ⟨s1, ⟨s2, s3⟩, s4⟩ := hS
  exact (nf_no (by omega) (nf_odd s1 s2 s3 s4)).1

theorem su_bd {k na ea nb eb : Int} (ha : dyB na ea = true) (hb : dyB nb eb = true) (hk : k ≤ 62) (h1 : rmB k na ea nb eb = true) :
    (-4611686018427387904 < na * pw (ea - suL ea eb) ∧ na * pw (ea - suL ea eb) < 4611686018427387904) ∧ (-4611686018427387904 < nb * pw (eb - suL ea eb) ∧ nb * pw (eb - suL ea eb) < 4611686018427387904) := by
  obtain ⟨⟨a1, a2, a3, a4⟩, a5⟩ := dy_iff.1 ha
  obtain ⟨⟨b1, b2, b3, b4⟩, b5⟩ := dy_iff.1 hb
  rw [room_any] at h1
  unfold suL at *
  have e1 := mul_bd (n := na) (j := ea - min ea eb) (k := 62) (by omega) (by omega) (by decide) (by omega) (by omega)
  have e2 := mul_bd (n := nb) (j := eb - min ea eb) (k := 62) (by omega) (by omega) (by decide) (by omega) (by omega)
  rw [show pw 62 = 4611686018427387904 from rfl] at e1 e2
  omega

/-- The product. -/
def prB (na ea nb eb : Int) : Bool := decide (plV na + plV nb ≤ 60) && nfB (na * nb) (ea + eb)
def prN (na ea nb eb : Int) : Int := if plV na + plV nb ≤ 60 then nfN (na * nb) (ea + eb) else 0
def prE (na ea nb eb : Int) : Int := if plV na + plV nb ≤ 60 then nfE (na * nb) (ea + eb) else 0

theorem pr_bd {na nb : Int} (a1 : -1125899906842624 ≤ na) (a2 : na ≤ 1125899906842624) (b1 : -1125899906842624 ≤ nb) (b2 : nb ≤ 1125899906842624) (h : plV na + plV nb ≤ 62) :
    -4611686018427387904 < na * nb ∧ na * nb < 4611686018427387904 := by
  by_cases h0 : na = 0
  · subst h0; simp
  · by_cases h1 : nb = 0
    · subst h1; simp
    · obtain ⟨q1, q2, q3⟩ := pl_bd na h0 (by omega) (by omega)
      obtain ⟨r1, r2, r3⟩ := pl_bd nb h1 (by omega) (by omega)
      have e1 : ((na * nb).natAbs : Int) = na.natAbs * nb.natAbs := by rw [Int.natAbs_mul, Int.natCast_mul]
      have e2 : (na.natAbs : Int) * nb.natAbs < pw (plV na) * pw (plV nb) := Int.mul_lt_mul q3 (by omega) (by omega) (by have := pw_pos (plV na); omega)
      rw [← pw_add _ _ (by omega) (by omega)] at e2
      have := pw_le (a := plV na + plV nb) 62 4611686018427387904 rfl h
      omega

theorem pr_far {na ea nb eb : Int} (ha : dyB na ea = true) (hb : dyB nb eb = true) (h1 : plV na + plV nb ≤ 62) (h2 : ¬ plV na + plV nb ≤ 60) : nfB (na * nb) (ea + eb) = false := by
  obtain ⟨⟨a1, a2, a3, a4⟩, a5⟩ := dy_iff.1 ha
  obtain ⟨⟨b1, b2, b3, b4⟩, b5⟩ := dy_iff.1 hb
  have pa := (top_bd ha).2.2
  have pb := (top_bd hb).2.2
  have bd := pr_bd a1 a2 b1 b2 h1
  have h0 : na ≠ 0 := by intro h; subst h; rw [pl_zero] at h2; omega
  have h3 : nb ≠ 0 := by intro h; subst h; rw [pl_zero] at h2; omega
  obtain ⟨q1, q2, q3⟩ := pl_bd na h0 (by omega) (by omega)
  obtain ⟨r1, r2, r3⟩ := pl_bd nb h3 (by omega) (by omega)
  have e1 : ((na * nb).natAbs : Int) = na.natAbs * nb.natAbs := by rw [Int.natAbs_mul, Int.natCast_mul]
  have e2 : pw (plV na - 1) * pw (plV nb - 1) ≤ (na.natAbs : Int) * nb.natAbs := Int.mul_le_mul q2 r2 (by have := pw_pos (plV nb - 1); omega) (by omega)
  rw [← pw_add (plV na - 1) (plV nb - 1) (by omega) (by omega)] at e2
  have e3 := pw_ge (a := plV na - 1 + (plV nb - 1)) 59 576460752303423488 rfl (by omega)
  have e4 : na * nb % 2 = 1 := by
    rw [Int.mul_emod, show na % 2 = 1 by omega, show nb % 2 = 1 by omega]; rfl
  exact (nf_no (by omega) (nf_odd e4 (by omega) (by omega) (by omega))).1
/-- The power of what is left of a number. -/
def shE (n d : Int) : Int := if n = 0 then 0 else d + tzV n

/-- The power of two that is the unit. -/
def unV (e f : Int) : Int := 1 - (pw (e - 1) - 1) - f
theorem un_bd {e f : Int} (hg : goodB e f = true) : -24 ≤ unV e f ∧ unV e f ≤ -1 ∧ 2 ≤ pw (e - 1) ∧ pw (e - 1) ≤ 16 := by
  obtain ⟨h1, h2, h3, h4⟩ := good_iff.1 hg
  have k2 : 2 ≤ pw (e - 1) := pw_ge 1 2 rfl (by omega)
  have k3 : pw (e - 1) ≤ 16 := pw_le 4 16 rfl (by omega)
  unfold unV
  omega

theorem nf_few {S l : Int} (h1 : -9007199254740992 ≤ S) (h2 : S ≤ 9007199254740992) (hs : -1125899906842624 ≤ odV S ∧ odV S ≤ 1125899906842624) (h3 : -100 ≤ l) (h4 : l ≤ 0) : nfB S l = true ∧ nfN S l = odV S ∧ nfE S l = shE S l := by
  by_cases h0 : S = 0
  · subst h0
    obtain ⟨e1, e2, e3⟩ := nf_zero (S := 0) (l := l) rfl
    rw [e1, e2, e3, od_zero]
    exact ⟨rfl, rfl, rfl⟩
  · obtain ⟨t0, t1, t2, t3⟩ := tz_spec S h0 (by omega) (by omega)
    obtain ⟨e1, e2, e3⟩ := nf_yes (S := S) (l := l) h0 (dy_iff.2 ⟨⟨hs.1, hs.2, by omega, by omega⟩, Or.inl t3⟩)
    rw [e1, e2, e3, show shE S l = l + tzV S from if_neg h0]
    exact ⟨rfl, rfl, rfl⟩

theorem od_bd (S b : Int) (hb : 0 ≤ b) (h1 : -b ≤ S) (h2 : S ≤ b) : -b ≤ odV S ∧ odV S ≤ b := by
  have hp := pw_pos (tzV S)
  unfold odV
  constructor
  · apply (Int.le_ediv_iff_mul_le (by omega)).2
    have := Int.mul_le_mul_of_nonneg_left (show 1 ≤ pw (tzV S) by omega) hb
    rw [Int.neg_mul]
    omega
  · apply Int.ediv_le_of_le_mul (by omega)
    have := Int.mul_le_mul_of_nonneg_left (show 1 ≤ pw (tzV S) by omega) hb
    omega

theorem nf_small {S l : Int} (h1 : -1125899906842624 ≤ S) (h2 : S ≤ 1125899906842624) (h3 : -100 ≤ l) (h4 : l ≤ 0) : nfB S l = true ∧ nfN S l = odV S ∧ nfE S l = shE S l :=
  nf_few (by omega) (by omega) (od_bd S 1125899906842624 (by decide) h1 h2) h3 h4

end Go.Proofs.YtfgbndjhaiigbabDoor
