/-
  Contracts of the functions that the laws reach, and the plain facts that they rest on, each under the conditions that its line names; part 12.
-/
import Derived.Test.YtfgbndjhaiigbaaGreatDoorKri1
import Derived.Test.YtfgbndjhaiigbaaGreatDoorKri3
import Derived.Test.YtfgbndjhaiigbaaGreatDoorKri10
import Derived.Test.YtfgbndjhaiigbaaGreatDoorKri11
namespace Go.Proofs.YtfgbndjhaiigbaaGreatDoor
open Go

theorem fbits_fw (F X R : Nat) (hf0 : 1 ≤ F) (hf : F ≤ 10) (hx0 : 1 ≤ X) (hx : X < 31) (hr : R < 2 ^ F) :
    Ok Ieee.single ((R + 2 ^ F) * 2 ^ (X - 1) * 2 ^ 149) ∧ fbitsN F X R = fw Ieee.single ((R + 2 ^ F) * 2 ^ (X - 1) * 2 ^ 149) := by
  have e0 : (R + 2 ^ F) * 2 ^ (X - 1) * 2 ^ 149 = (R + 2 ^ F) * 2 ^ (X - 1 + 149) := by rw [Nat.mul_assoc, ← Nat.pow_add]
  have hF : 2 ^ F ≤ 2 ^ 10 := Nat.pow_le_pow_right (by decide) hf
  have ok : Ok Ieee.single ((R + 2 ^ F) * 2 ^ (X - 1) * 2 ^ 149) := by
    rw [e0]
    exact ok32 (by omega) (by omega)
  refine ⟨ok, (fw_of Ieee.single _ _ ok ?_).symm⟩
  have s : 2 ^ F * 2 ^ (23 - F) = 2 ^ 23 := by rw [← Nat.pow_add]; congr 1; omega
  have hM : R * 2 ^ (23 - F) < 2 ^ 23 := by
    rw [← s]
    exact Nat.mul_lt_mul_of_pos_right hr (Nat.two_pow_pos _)
  have := vR_parts 23 (X - 1 + F + 127) (R * 2 ^ (23 - F)) (by omega) hM
  unfold fbitsN
  show vR 23 _ = _
  rw [this, ← s, ← Nat.add_mul, Nat.mul_assoc, ← Nat.pow_add, e0, Nat.add_comm (2 ^ F) R]
  congr 2
  omega

theorem int_single (n : Nat) (h : n < 1024) : Ok Ieee.single (n * 2 ^ 149) ∧ floatOfInt .f32 (n : Int) = fw Ieee.single (n * 2 ^ 149) :=
  ⟨ok32 (by omega) (by decide), int_fw (f := Ieee.single) n 149 (by decide)⟩

/-- The number of a pattern, in units of 2^-149. -/
def mgN (f p : Int) : Nat := (mgV f p).toNat * 2 ^ 149

theorem mgN_cast (f p : Int) (h : 0 ≤ mgV f p) : ((mgN f p : Nat) : Int) = mgV f p * pw 149 := by
  have p149 : pw 149 = ((2 ^ 149 : Nat) : Int) := (pw_cast 149).symm
  unfold mgN
  rw [Int.natCast_mul, Int.toNat_of_nonneg h, p149]

theorem mgN_low (f r : Int) (h0 : 0 ≤ r) (h1 : r < pw f) (h2 : r < 1024) : Ok Ieee.single (mgN f r) ∧ floatOfInt .f32 r = fw Ieee.single (mgN f r) := by
  have := int_single r.toNat (by omega)
  rw [Int.toNat_of_nonneg h0] at this
  unfold mgN
  rw [mg_small f r h0 h1]
  exact this

theorem mgN_high (f x r : Int) (h3 : 1 ≤ f) (h4 : f ≤ 10) (hx0 : 1 ≤ x) (hx1 : x < 31) (hr0 : 0 ≤ r) (hr1 : r < pw f) : Ok Ieee.single (mgN f (x * pw f + r)) ∧ fbitsN f.toNat x.toNat r.toNat = fw Ieee.single (mgN f (x * pw f + r)) := by
  obtain ⟨F, hF⟩ : ∃ F : Nat, f = (F : Int) := ⟨f.toNat, by omega⟩
  obtain ⟨X, hX⟩ : ∃ X : Nat, x = (X : Int) := ⟨x.toNat, by omega⟩
  obtain ⟨R, hR⟩ : ∃ R : Nat, r = (R : Int) := ⟨r.toNat, by omega⟩
  subst hF hX hR
  have hr2 : R < 2 ^ F := by
    have := pw_cast F
    omega
  have := fbits_fw F X R (by omega) (by omega) (by omega) (by omega) hr2
  have e := (mg_of (F : Int) (X : Int) (R : Int) h3 hx0 hr0 hr1).1
  have e2 : mgV (F : Int) ((X : Int) * pw (F : Int) + R) = (((R + 2 ^ F) * 2 ^ (X - 1) : Nat) : Int) := by
    rw [e, Int.natCast_mul, Int.natCast_add, pw_cast, pw_cast]
    congr 2
    omega
  unfold mgN
  rw [e2, Int.toNat_natCast]
  simpa using this
end Go.Proofs.YtfgbndjhaiigbaaGreatDoor

namespace Go.Proofs.YtfgbndjhaiigbaaGreatDoor
open Go

theorem two_word : fw Ieee.single (2 * 2 ^ 149) = 1073741824 := by
  have ok : Ok Ieee.single (2 * 2 ^ 149) := ok32 (by decide) (by decide)
  refine fw_of Ieee.single _ _ ok ?_
  have := vR_parts 23 128 0 (by decide) (by decide)
  show vR 23 _ = _
  rw [show (1073741824 : Nat) = 128 * 2 ^ 23 + 0 from rfl, this, Nat.add_zero, ← Nat.pow_add]

theorem ok_two {R : Nat} (h : Ok Ieee.single R) (hR : R < 2 ^ 192) : Ok Ieee.single (2 * R) := by
  obtain ⟨⟨c, j, e, hc⟩, _, h3⟩ := h
  have hB : Ieee.single.fractionBits + (2 ^ Ieee.single.exponentBits - 2) = 277 := by decide
  obtain ⟨q, hq⟩ : ∃ q : Nat, q = 277 := ⟨_, rfl⟩
  refine ⟨⟨c, j + 1, ?_, hc⟩, ?_, h3⟩
  · rw [e, Nat.pow_succ, Nat.mul_left_comm, Nat.mul_comm 2 (2 ^ j)]
  · rw [hB, ← hq]
    have : 2 ^ 193 ≤ 2 ^ q := Nat.pow_le_pow_right (by decide) (by omega)
    have e2 : (2 : Nat) ^ 193 = 2 * 2 ^ 192 := by rw [Nat.pow_succ, Nat.mul_comm]
    omega

theorem mul_two {R : Nat} (h : Ok Ieee.single R) : floatBits .mul .f32 1073741824 (fw Ieee.single R) = some (fw Ieee.single (2 * R)) := by
  have ok : Ok Ieee.single (2 * 2 ^ 149) := ok32 (by decide) (by decide)
  have := mul_fw (f := Ieee.single) (v := 2 * R) 149 (by decide) ok h (by rw [Nat.mul_assoc, Nat.mul_comm (2 ^ 149), ← Nat.mul_assoc])
  rw [two_word] at this
  exact this

theorem order_zero {R : Nat} (h : Ok Ieee.single R) : Ieee.single.order (fw Ieee.single R) 0 = some (if R = 0 then .eq else .gt) := by
  have o0 : Ok Ieee.single 0 := by
    have := ok32 (c := 0) (j := 0) (by decide) (by decide)
    rwa [Nat.zero_mul] at this
  have := order_fw h o0
  rw [show fw Ieee.single 0 = 0 from near_zero _ _] at this
  rw [this]
  by_cases hr : R = 0
  · subst hr; rfl
  · rw [if_neg hr, cmp_gt (by omega)]
end Go.Proofs.YtfgbndjhaiigbaaGreatDoor

namespace Go.Proofs.YtfgbndjhaiigbaaGreatDoor
open Ieee

theorem read_posS (f : Ieee.Format) (b : Nat) (h : b < f.infRung) : ∃ m k : Nat, f.read b = .number false m (f.leastPlace + k) ∧ m * 2 ^ k = vR f.fractionBits b ∧ m < 2 ^ (f.fractionBits + 1) := by
  have hs : b < f.signWeight := Nat.lt_trans h f.infRung_lt
  have e1 : b / f.signWeight % 2 = 0 := by rw [Nat.div_eq_of_lt hs]
  have e2 : b % f.signWeight = b := Nat.mod_eq_of_lt hs
  have hp := Nat.two_pow_pos f.fractionBits
  unfold Ieee.Format.read
  simp only [e1, e2]
  unfold vR
  by_cases hb : b < f.binade
  · have hb2 : b < 2 ^ f.fractionBits := hb
    rw [if_pos hb, if_pos hb2]
    exact ⟨b, 0, by simp, by simp, by rw [Nat.pow_succ]; omega⟩
  · have hb2 : ¬ b < 2 ^ f.fractionBits := hb
    rw [if_neg hb, if_pos h, if_neg hb2]
    refine ⟨_, _, rfl, rfl, ?_⟩
    have := Nat.mod_lt b hp
    have e3 : f.binade = 2 ^ f.fractionBits := rfl
    rw [Nat.pow_succ, e3]
    omega

/-- The whole part of a square root. -/
def SqR (n w : Nat) : Prop := w * w ≤ n ∧ n < (w + 1) * (w + 1)

theorem sq_lt {a b : Nat} (h : a * a < b * b) : a < b := by
  rcases Nat.lt_or_ge a b with g | g
  · exact g
  · have := Nat.mul_le_mul g g; omega

theorem rootFrom_is (n : Nat) : ∀ todo root : Nat, root * root ≤ n → n < (root + 2 ^ todo) * (root + 2 ^ todo) → SqR n (Datum.rootFrom n todo root)
  | 0, root, h1, h2 => by
    unfold Datum.rootFrom
    exact ⟨h1, by simpa using h2⟩
  | todo + 1, root, h1, h2 => by
    unfold Datum.rootFrom
    simp only [Nat.shiftLeft_eq, Nat.one_mul]
    split
    · rename_i h
      refine rootFrom_is n todo _ h ?_
      rw [Nat.add_assoc, show 2 ^ todo + 2 ^ todo = 2 ^ (todo + 1) by rw [Nat.pow_succ]; omega]
      exact h2
    · rename_i h
      exact rootFrom_is n todo _ h1 (by omega)

theorem sq_ex (n : Nat) : ∃ w, SqR n w := by
  refine ⟨_, rootFrom_is n n 0 (by omega) ?_⟩
  rw [Nat.zero_add]
  have h : n < 2 ^ n := Nat.lt_two_pow_self
  have := Nat.mul_le_mul_left (2 ^ n) (show 1 ≤ 2 ^ n by omega)
  omega

theorem root_log {n : Nat} (_ : n ≠ 0) : SqR n (Datum.rootFrom n (n.log2 / 2 + 1) 0) := by
  refine rootFrom_is n _ 0 (by omega) ?_
  rw [Nat.zero_add, ← Nat.pow_add]
  have : n < 2 ^ (n.log2 + 1) := Nat.lt_log2_self
  exact Nat.lt_of_lt_of_le this (Nat.pow_le_pow_right (by decide) (by omega))

/-- What is rounded lies between the same numbers of few places. -/
theorem double_bd {R A B : Nat} (hA : Rep 52 A) (hB : Rep 52 B) (h1 : A ≤ R) (h2 : R < B) (h0 : 2 ^ 52 ≤ R) (hR : R.log2 < 2000) :
    ∃ V, Ok Ieee.double V ∧ fw Ieee.double R = fw Ieee.double V ∧ A ≤ V ∧ V ≤ B := by
  have hn : R ≠ 0 := by omega
  have l0 : 2 ^ R.log2 ≤ R := Nat.log2_self_le hn
  have l1 : R < 2 ^ (R.log2 + 1) := Nat.lt_log2_self
  have hs : 52 ≤ R.log2 := (Nat.le_log2 hn).2 h0
  have hi : Ieee.double.infRung = 2047 * 2 ^ 52 := by decide
  have hb : Ieee.double.binade = 2 ^ 52 := rfl
  have hF : Ieee.double.fractionBits = 52 := rfl
  obtain ⟨d, hd⟩ : ∃ d, R.log2 = 52 + d := ⟨R.log2 - 52, by omega⟩
  obtain ⟨q, hq⟩ : ∃ q, q = Ieee.Toward.even.cut false R d := ⟨_, rfl⟩
  have c0 : 2 ^ 52 ≤ q := by rw [hq]; exact cut_ge _ _ _ (by rw [← Nat.pow_add, ← hd]; exact l0) (by omega)
  have c1 : q ≤ 2 ^ 53 := by rw [hq]; exact cut_le _ _ _ (by rw [← Nat.pow_add, show 53 + d = R.log2 + 1 by omega]; exact l1) (by omega)
  have e1 : fw Ieee.double R = d * 2 ^ 52 + q := by
    unfold fw Ieee.Format.nearest
    rw [if_neg hn]
    have hlast : max (Ieee.double.leastPlace + (R.log2 : Int) - Ieee.double.fractionBits) Ieee.double.leastPlace = Ieee.double.leastPlace + (d : Int) := by
      rw [hF]; omega
    simp only [hlast]
    rw [show (Ieee.double.leastPlace - (Ieee.double.leastPlace + (d : Int))).toNat = 0 by omega, show (Ieee.double.leastPlace + (d : Int) - Ieee.double.leastPlace).toNat = d by omega, Nat.shiftLeft_zero, hb, hi, ← hq]
    unfold Ieee.Format.word
    rw [if_neg (by decide)]
    apply Nat.min_eq_left
    have : (d + 2) * 2 ^ 52 ≤ 2047 * 2 ^ 52 := Nat.mul_le_mul_right _ (by omega)
    rw [Nat.add_mul] at this
    omega
  have e2 : vR 52 (d * 2 ^ 52 + q) = q * 2 ^ d := by
    by_cases hq2 : q = 2 ^ 53
    · have := vR_high 52 (d + 1) (2 ^ 52) (Nat.le_refl _) (by decide)
      have e3 : d * 2 ^ 52 + q = (d + 1) * 2 ^ 52 + 2 ^ 52 := by rw [hq2, Nat.add_mul, Nat.add_assoc]
      rw [e3, this, hq2, ← Nat.pow_add, ← Nat.pow_add, Nat.add_comm d 1, ← Nat.add_assoc]
    · exact vR_high 52 d q c0 (by omega)
  have ok : Ok Ieee.double (q * 2 ^ d) := by
    by_cases hq2 : q = 2 ^ 53
    · have := ok64 (c := 1) (j := 53 + d) (by decide) (by omega)
      rw [hq2, ← Nat.pow_add]
      rwa [Nat.one_mul] at this
    · exact ok64 (by omega) (by omega)
  refine ⟨q * 2 ^ d, ok, ?_, ?_, ?_⟩
  · rw [fw_of Ieee.double (d * 2 ^ 52 + q) _ ok e2]; exact e1
  · obtain ⟨c, j, rfl, hc⟩ := hA
    by_cases hj : d ≤ j
    · have : c * 2 ^ (j - d) ≤ q := by
        rw [hq]
        exact cut_ge _ _ _ (by rw [Nat.mul_assoc, ← Nat.pow_add, show j - d + d = j by omega]; exact h1) (by omega)
      have := Nat.mul_le_mul_right (2 ^ d) this
      rwa [Nat.mul_assoc, ← Nat.pow_add, show j - d + d = j by omega] at this
    · have a1 : c * 2 ^ j ≤ 2 ^ 53 * 2 ^ j := Nat.mul_le_mul_right _ (by have : 2 ^ (52 + 1) = 2 ^ 53 := rfl; omega)
      have a2 : 2 ^ 53 * 2 ^ j ≤ 2 ^ 52 * 2 ^ d := by
        rw [← Nat.pow_add, ← Nat.pow_add]
        exact Nat.pow_le_pow_right (by decide) (by omega)
      exact Nat.le_trans a1 (Nat.le_trans a2 (Nat.mul_le_mul_right _ c0))
  · obtain ⟨c, j, rfl, hc⟩ := hB
    by_cases hj : d ≤ j
    · have : q ≤ c * 2 ^ (j - d) := by
        rw [hq]
        exact cut_le _ _ _ (by rw [Nat.mul_assoc, ← Nat.pow_add, show j - d + d = j by omega]; exact h2) (by omega)
      have := Nat.mul_le_mul_right (2 ^ d) this
      rwa [Nat.mul_assoc (c), ← Nat.pow_add, show j - d + d = j by omega] at this
    · exfalso
      have a1 : c * 2 ^ j ≤ 2 ^ 53 * 2 ^ j := Nat.mul_le_mul_right _ (by have : 2 ^ (52 + 1) = 2 ^ 53 := rfl; omega)
      have a2 : 2 ^ 53 * 2 ^ j ≤ 2 ^ 52 * 2 ^ d := by
        rw [← Nat.pow_add, ← Nat.pow_add]
        exact Nat.pow_le_pow_right (by decide) (by omega)
      rw [← Nat.pow_add 2 52 d, ← hd] at a2
      omega

theorem log2_up {m : Nat} (k : Nat) (hm : m ≠ 0) : (m * 2 ^ k).log2 = m.log2 + k := by
  induction k with
  | zero => simp
  | succ k ih =>
    rw [Nat.pow_succ, ← Nat.mul_assoc, Nat.mul_comm _ 2, Nat.log2_two_mul (Nat.mul_ne_zero hm (by have := Nat.two_pow_pos k; omega)), ih]
    omega

theorem root_up {n g w r : Nat} (h : SqR n w) (hr : SqR (n * 2 ^ (2 * g)) r) : w * 2 ^ g ≤ r := by
  have e : 2 ^ (2 * g) = 2 ^ g * 2 ^ g := by rw [← Nat.pow_add]; congr 1; omega
  have a : (w * 2 ^ g) * (w * 2 ^ g) ≤ n * 2 ^ (2 * g) := by
    rw [e, Nat.mul_mul_mul_comm]
    exact Nat.mul_le_mul_right _ h.1
  have := sq_lt (Nat.lt_of_le_of_lt a hr.2)
  omega

theorem root_below {n g w r : Nat} (h : SqR n w) (hw : w < 1482911) (hg : 25 ≤ g) (hr : SqR (n * 2 ^ (2 * g)) r) : r < ((w + 1) * 33554432 - 1) * 2 ^ (g - 25) := by
  have e : 2 ^ (2 * g) = 2 ^ (g - 25) * 2 ^ (g - 25) * 1125899906842624 := by
    rw [show (1125899906842624 : Nat) = 2 ^ 50 from rfl, ← Nat.pow_add, ← Nat.pow_add]
    congr 1; omega
  refine sq_lt (Nat.lt_of_le_of_lt hr.1 ?_)
  rw [e, Nat.mul_mul_mul_comm, Nat.mul_comm (2 ^ (g - 25) * 2 ^ (g - 25)), ← Nat.mul_assoc]
  refine Nat.mul_lt_mul_of_pos_right ?_ (Nat.mul_pos (Nat.two_pow_pos _) (Nat.two_pow_pos _))
  have h2 := h.2
  obtain ⟨y, hy⟩ : ∃ y, (w + 1) * 33554432 = y + 1 := ⟨(w + 1) * 33554432 - 1, by omega⟩
  have e2 : (w + 1) * 33554432 - 1 = y := by omega
  rw [e2]
  have e3 : (y + 1) * (y + 1) = (w + 1) * (w + 1) * 1125899906842624 := by
    rw [← hy, Nat.mul_mul_mul_comm]
  have e4 : (y + 1) * (y + 1) = y * y + 2 * y + 1 := by rw [Nat.add_mul, Nat.mul_add]; omega
  have e5 : (n + 1) * 1125899906842624 ≤ (w + 1) * (w + 1) * 1125899906842624 := Nat.mul_le_mul_right _ h2
  omega

/-- The root of a float that is a whole number less than 2 ^ 41, cut to a whole number. -/
theorem sqrt_word {n w E : Nat} (hE : E = 1074) (h0 : 0 < n) (hn : n < 2199023255552) (hw : SqR n w) :
    ∃ r, Ieee.double.sqrt (fw Ieee.double (n * 2 ^ E)) = some r ∧ (Ieee.double.read r).toInt .zero = some (w : Int) := by
  have hL : Ieee.double.leastPlace = -(E : Int) := by rw [hE]; decide
  have w1 : w < 1482911 := by
    refine sq_lt (Nat.lt_of_le_of_lt hw.1 ?_)
    omega
  have ok : Ok Ieee.double (n * 2 ^ E) := ok64 (by omega) (by omega)
  obtain ⟨q1, q2⟩ := fw_val Ieee.double _ ok.1 ok.2.1 ok.2.2
  obtain ⟨m, k, r1, r2, r3⟩ := read_posS Ieee.double _ q1
  rw [q2] at r2
  have hF : Ieee.double.fractionBits = 52 := rfl
  rw [hF] at r3
  have hm : m ≠ 0 := by
    intro h
    rw [h, Nat.zero_mul] at r2
    have := Nat.mul_pos h0 (Nat.two_pow_pos E)
    omega
  have lm : m.log2 + k = n.log2 + E := by
    have a1 := log2_up k hm
    have a2 := log2_up E (show n ≠ 0 by omega)
    rw [← a1, ← a2, r2]
  have lm2 : m.log2 < 53 := (Nat.log2_lt hm).2 r3
  have ln2 : n.log2 < 41 := (Nat.log2_lt (by omega)).2 hn
  obtain ⟨par, hpar⟩ : ∃ par : Nat, (((-(E : Int) + (k : Int)) - ((2 * 54 - m.log2 : Nat) : Int)) % 2).toNat = par := ⟨_, rfl⟩
  obtain ⟨g, hg⟩ : ∃ g : Nat, ((2 * 54 - m.log2 + par : Nat) : Int) - (-(E : Int) + (k : Int)) = 2 * (g : Int) := by
    refine ⟨(((2 * 54 - m.log2 + par : Nat) : Int) - (-(E : Int) + (k : Int))).toNat / 2, ?_⟩
    omega
  have g1 : 33 ≤ g := by omega
  have g2 : g ≤ 55 := by omega
  obtain ⟨mo, hmo⟩ : ∃ mo : Nat, 2 * 54 - m.log2 + par = mo := ⟨_, rfl⟩
  have em : m * 2 ^ mo = n * 2 ^ (2 * g) := by
    have hmk : mo + E = 2 * g + k := by omega
    have a1 : m * 2 ^ mo * (2 ^ k * 2 ^ E) = n * 2 ^ (2 * g) * (2 ^ k * 2 ^ E) := by
      have b1 : m * 2 ^ mo * (2 ^ k * 2 ^ E) = (m * 2 ^ k) * 2 ^ (mo + E) := by
        rw [Nat.mul_mul_mul_comm, ← Nat.pow_add]
      have b2 : n * 2 ^ (2 * g) * (2 ^ k * 2 ^ E) = (n * 2 ^ E) * 2 ^ (2 * g + k) := by
        rw [Nat.mul_comm (2 ^ k), Nat.mul_mul_mul_comm, ← Nat.pow_add]
      rw [b1, b2, r2, hmk]
    exact Nat.eq_of_mul_eq_mul_right (Nat.mul_pos (Nat.two_pow_pos _) (Nat.two_pow_pos _)) a1
  have n0 : n * 2 ^ (2 * g) ≠ 0 := Nat.mul_ne_zero (by omega) (by have := Nat.two_pow_pos (2 * g); omega)
  have hr := root_log n0
  obtain ⟨r, hrd⟩ : ∃ r, Datum.rootFrom (n * 2 ^ (2 * g)) ((n * 2 ^ (2 * g)).log2 / 2 + 1) 0 = r := ⟨_, rfl⟩
  rw [hrd] at hr
  have lo := root_up hw hr
  have hi := root_below hw w1 (by omega) hr
  obtain ⟨de, hde, hd1⟩ : ∃ de : Nat, (r * r != n * 2 ^ (2 * g)).toNat = de ∧ de ≤ 1 := ⟨_, rfl, by cases (r * r != n * 2 ^ (2 * g)) <;> decide⟩
  have wpos : 1 ≤ w := by
    rcases Nat.eq_zero_or_pos w with h | h
    · have := hw.2; rw [h] at this; omega
    · exact h
  obtain ⟨V, ok2, fe, v1, v2⟩ := double_bd (R := (2 * r + de) * 2 ^ (E - g - 1)) (A := w * 2 ^ E) (B := ((w + 1) * 33554432 - 1) * 2 ^ (E - 25)) ⟨w, E, rfl, by omega⟩ ⟨_, _, rfl, by omega⟩ (by
      have : w * 2 ^ E = w * 2 ^ g * 2 * 2 ^ (E - g - 1) := by
        rw [Nat.mul_assoc, Nat.mul_assoc, Nat.mul_comm 2, ← Nat.pow_succ, ← Nat.pow_add]
        congr 2; omega
      rw [this]
      exact Nat.mul_le_mul_right _ (by omega)) (by
      have : ((w + 1) * 33554432 - 1) * 2 ^ (E - 25) = ((w + 1) * 33554432 - 1) * 2 ^ (g - 25) * 2 * 2 ^ (E - g - 1) := by
        rw [Nat.mul_assoc (((w + 1) * 33554432 - 1)), Nat.mul_assoc, ← Nat.pow_succ, ← Nat.pow_add]
        congr 2; omega
      rw [this]
      exact Nat.mul_lt_mul_of_pos_right (by omega) (Nat.two_pow_pos _)) (by
      have a1 : 2 ^ 52 ≤ 1 * 2 ^ (E - g - 1) := by rw [Nat.one_mul]; exact Nat.pow_le_pow_right (by decide) (by omega)
      have a2 : 1 * 2 ^ (E - g - 1) ≤ (2 * r + de) * 2 ^ (E - g - 1) := Nat.mul_le_mul_right _ (by have := Nat.mul_pos wpos (Nat.two_pow_pos g); omega)
      omega) (by
      have a0 : 2 * r + de ≠ 0 := by have := Nat.mul_pos wpos (Nat.two_pow_pos g); omega
      rw [log2_up _ a0]
      have : (2 * r + de).log2 < 200 := by
        rw [Nat.log2_lt a0]
        have b1 : 2 * r + de < ((w + 1) * 33554432 - 1) * 2 ^ (g - 25) * 2 := by omega
        have b2 : ((w + 1) * 33554432 - 1) * 2 ^ (g - 25) * 2 ≤ 2 ^ 50 * 2 ^ 30 * 2 := by
          refine Nat.mul_le_mul_right _ (Nat.mul_le_mul (by omega) (Nat.pow_le_pow_right (by decide) (by omega)))
        exact Nat.lt_of_lt_of_le (Nat.lt_of_lt_of_le b1 b2) (by decide)
      omega)
  refine ⟨fw Ieee.double V, ?_, ?_⟩
  · unfold Ieee.Format.sqrt
    rw [r1, hF, hL]
    simp only [Datum.root, if_neg hm, Bool.false_eq_true, if_false, Nat.shiftLeft_eq, hpar, hmo, em, hrd, hde, Option.map_some, Option.some.injEq]
    rw [← fe]
    unfold Ieee.Format.write
    have e9 := near_fw Ieee.double (2 * r + de) (E - g - 1) 0 ((2 * r + de) * 2 ^ (E - g - 1)) (by simp)
    rw [← e9, hL]
    simp only []
    congr 1
    omega
  · rw [toInt_fw E hL ok2]
    congr 2
    have a1 : V < (w + 1) * 2 ^ E := by
      refine Nat.lt_of_le_of_lt v2 ?_
      have : (w + 1) * 2 ^ E = (w + 1) * 33554432 * 2 ^ (E - 25) := by
        rw [Nat.mul_assoc, show (33554432 : Nat) = 2 ^ 25 from rfl, ← Nat.pow_add]
        congr 2; omega
      rw [this]
      exact Nat.mul_lt_mul_of_pos_right (by omega) (Nat.two_pow_pos _)
    exact Nat.div_eq_of_lt_le v1 a1
end Go.Proofs.YtfgbndjhaiigbaaGreatDoor

namespace Go.Proofs.YtfgbndjhaiigbaaGreatDoor
open Go

def SqI (n w : Int) : Prop := 0 ≤ w ∧ w * w ≤ n ∧ n < (w + 1) * (w + 1)

/-- Twice the root, and 1 more if there is more behind it. -/
def rqV (n w : Int) : Int := 2 * w + (if n = w * w then 0 else 1)

/-- Of four parts behind the root: none, less than half, more than half. -/
def rsV (n w o : Int) : Int := if n = w * w then 0 else if w < n - w * w ∧ o = 0 then 3 else 1

theorem im4 (a b c d : Int) : a * b * (c * d) = a * c * (b * d) := by rw [Int.mul_assoc, ← Int.mul_assoc b, Int.mul_comm b, Int.mul_assoc c, ← Int.mul_assoc a]

theorem sqi_lt {a b : Int} (hb : 0 ≤ b) (h : a * a < b * b) : a < b := by
  by_cases g : a < b
  · exact g
  · have := Int.mul_le_mul (show b ≤ a by omega) (show b ≤ a by omega) hb (by omega); omega

theorem sqi_one {n a b : Int} (ha : SqI n a) (hb : SqI n b) : a = b := by
  obtain ⟨a0, a1, a2⟩ := ha
  obtain ⟨b0, b1, b2⟩ := hb
  have h1 := sqi_lt (a := a) (b := b + 1) (by omega) (by omega)
  have h2 := sqi_lt (a := b) (b := a + 1) (by omega) (by omega)
  omega

theorem sqi_nat {n w : Nat} (h : SqR n w) : SqI (n : Int) (w : Int) := by
  refine ⟨by omega, ?_, ?_⟩
  · have := h.1; rw [← Int.natCast_mul]; omega
  · have := h.2; rw [show (w : Int) + 1 = ((w + 1 : Nat) : Int) by omega, ← Int.natCast_mul]; omega

theorem sqi_ex {n : Int} (h : 0 ≤ n) : ∃ w, SqI n w := by
  obtain ⟨w, hw⟩ := sq_ex n.toNat
  exact ⟨w, by have := sqi_nat hw; rwa [Int.toNat_of_nonneg h] at this⟩

theorem sqi_of {n w : Int} (h : SqI n w) : SqR n.toNat w.toNat := by
  obtain ⟨h0, h1, h2⟩ := h
  have hn : 0 ≤ n := by have := Int.mul_nonneg h0 h0; omega
  obtain ⟨W, hW⟩ : ∃ W : Nat, w = (W : Int) := ⟨w.toNat, by omega⟩
  obtain ⟨N, hN⟩ : ∃ N : Nat, n = (N : Int) := ⟨n.toNat, by omega⟩
  subst hW hN
  rw [Int.toNat_natCast, Int.toNat_natCast]
  refine ⟨?_, ?_⟩
  · rw [← Int.natCast_mul] at h1; omega
  · rw [show (W : Int) + 1 = ((W + 1 : Nat) : Int) by omega, ← Int.natCast_mul] at h2; omega

theorem sqi_big {n w b : Int} (_ : 0 ≤ b) (h : SqI n w) (hn : b * b ≤ n) : b ≤ w := by
  obtain ⟨h0, h1, h2⟩ := h
  have := sqi_lt (a := b) (b := w + 1) (by omega) (by omega)
  omega

/-- A root's place beside a whole number is told by the squares. -/
theorem sq_sg {n w Z : Int} (h : SqI n w) (hZ : 0 ≤ Z) : sgV (2 * (w - Z) + (if n = w * w then 0 else 1)) = sgV (n - Z * Z) := by
  obtain ⟨h0, h1, h2⟩ := h
  by_cases hl : w < Z
  · have a := Int.mul_le_mul (show w + 1 ≤ Z by omega) (show w + 1 ≤ Z by omega) (by omega) hZ
    rw [sg_neg (n := n - Z * Z) (by omega)]
    split <;> exact sg_neg (by omega)
  · by_cases he : w = Z
    · subst he
      by_cases hn : n = w * w
      · rw [if_pos hn, hn]; congr 1; omega
      · rw [if_neg hn, sg_pos (by omega), sg_pos (by omega)]
    · have a := Int.mul_le_mul (show Z + 1 ≤ w by omega) (show Z + 1 ≤ w by omega) (by omega) h0
      have b : (Z + 1) * (Z + 1) = Z * Z + 2 * Z + 1 := by rw [Int.add_mul, Int.mul_add]; omega
      rw [sg_pos (n := n - Z * Z) (by omega)]
      split <;> exact sg_pos (by omega)

theorem sq_four (a b : Int) : (2 * a * b) * (2 * a * b) = 4 * (a * a) * (b * b) := by
  rw [im4 (2 * a) b (2 * a) b, im4 2 a 2 a]; rfl

theorem root_code {n w k M t : Int} (h : SqI n w) (hn : 268435456 ≤ n) (hk : -149 ≤ k) (hM : 0 ≤ M) (hM2 : M < 4096) (ht : 0 ≤ t) :
    sgV (2 * (rqV n w * pw (k + 149)) - M * pw t * pw 149) = sgV (4 * n * (pw (k + 150) * pw (k + 150)) - (M * pw t * pw 149) * (M * pw t * pw 149)) := by
  have e0 : 2 * (rqV n w * pw (k + 149)) = rqV n w * pw (k + 150) := by
    have := pw_succ (k + 149) (by omega)
    rw [show k + 149 + 1 = k + 150 by omega] at this
    rw [this, ← Int.mul_assoc, ← Int.mul_assoc, Int.mul_comm 2]
  rw [e0]
  have hP := pw_pos (k + 150)
  have hw := sqi_big (b := 16384) (by omega) h (by omega)
  obtain ⟨P, hPd⟩ : ∃ P, pw (k + 150) = P := ⟨_, rfl⟩
  by_cases g : k + 2 ≤ t
  · have e1 : M * pw t * pw 149 = 2 * (M * pw (t - k - 2)) * pw (k + 150) := by
      have : pw t * pw 149 = pw (t - k - 2) * (2 * pw (k + 150)) := by
        rw [← pw_succ (k + 150) (by omega), ← pw_add _ _ ht (by omega), ← pw_add _ _ (by omega) (by omega)]
        congr 1
        omega
      rw [Int.mul_assoc, this, ← Int.mul_assoc, ← Int.mul_assoc, Int.mul_comm _ 2]
    have hZ : 0 ≤ M * pw (t - k - 2) := Int.mul_nonneg hM (by have := pw_pos (t - k - 2); omega)
    obtain ⟨Z, hZd⟩ : ∃ Z, M * pw (t - k - 2) = Z := ⟨_, rfl⟩
    rw [e1, hPd, hZd]
    rw [hPd] at hP
    rw [hZd] at hZ
    rw [sq_four, ← Int.sub_mul, sg_mul (by omega)]
    have e2 : 4 * n * (P * P) - 4 * (Z * Z) * (P * P) = (n - Z * Z) * (4 * (P * P)) := by
      rw [← Int.sub_mul, ← Int.mul_sub, Int.mul_comm 4, Int.mul_assoc]
    rw [e2, sg_mul (by have := Int.mul_pos (show 0 < P by omega) (show 0 < P by omega); omega), ← sq_sg h hZ]
    unfold rqV
    congr 1
    split <;> omega
  · have e1 : M * pw t * pw 149 ≤ 4095 * pw (k + 150) := by
      rw [Int.mul_assoc, ← pw_add _ _ ht (by omega)]
      have a := pw_mono (a := t + 149) (b := k + 150) (by omega)
      have b := pw_pos (t + 149)
      exact Int.mul_le_mul (by omega) a (by omega) (by omega)
    have e2 : 0 ≤ M * pw t * pw 149 := Int.mul_nonneg (Int.mul_nonneg hM (by have := pw_pos t; omega)) (by have := pw_pos 149; omega)
    obtain ⟨Y, hY⟩ : ∃ Y, M * pw t * pw 149 = Y := ⟨_, rfl⟩
    rw [hPd, hY]
    rw [hPd] at hP e1
    rw [hY] at e1 e2
    have r1 : 32768 ≤ rqV n w := by unfold rqV; split <;> omega
    have a1 : 32768 * P ≤ rqV n w * P := Int.mul_le_mul_of_nonneg_right r1 (by omega)
    have a2 : Y * Y ≤ (4095 * P) * (4095 * P) := Int.mul_le_mul e1 e1 e2 (by omega)
    have a3 : (4095 * P) * (4095 * P) = 16769025 * (P * P) := by rw [im4]; rfl
    have a4 := Int.mul_pos (show 0 < P by omega) (show 0 < P by omega)
    have a5 : 1073741824 * (P * P) ≤ 4 * n * (P * P) := Int.mul_le_mul_of_nonneg_right (by omega) (by omega)
    rw [sg_pos (by omega), sg_pos (by omega)]

theorem root_whole {n w T : Int} (h : SqI n w) (hT : 0 ≤ T) : sgV (2 * (w * 4 + rsV n w 0) - T * 4) = sgV (4 * n - T * T) := by
  have h' := h
  obtain ⟨h0, h1, h2⟩ := h
  have q2 : (w + 1) * (w + 1) = w * w + 2 * w + 1 := by rw [Int.add_mul, Int.mul_add]; omega
  have q1 : (2 * w + 1) * (2 * w + 1) = 4 * (w * w) + 4 * w + 1 := by
    rw [Int.add_mul, Int.mul_add, im4]; omega
  have q0 : (2 * w) * (2 * w) = 4 * (w * w) := by rw [im4]; rfl
  have q3 : (2 * w + 2) * (2 * w + 2) = 4 * (w * w) + 8 * w + 4 := by
    rw [Int.add_mul, Int.mul_add, im4]; omega
  unfold rsV
  by_cases e : n = w * w
  · rw [if_pos e]
    by_cases c1 : T < 2 * w
    · have a := Int.mul_le_mul (show T + 1 ≤ 2 * w by omega) (show T + 1 ≤ 2 * w by omega) (by omega) (by omega)
      have b : (T + 1) * (T + 1) = T * T + 2 * T + 1 := by rw [Int.add_mul, Int.mul_add]; omega
      rw [sg_pos (by omega), sg_pos (by omega)]
    · by_cases c2 : T = 2 * w
      · subst c2; congr 1; omega
      · have a := Int.mul_le_mul (show 2 * w + 1 ≤ T by omega) (show 2 * w + 1 ≤ T by omega) (by omega) hT
        rw [sg_neg (by omega), sg_neg (by omega)]
  · rw [if_neg e]
    by_cases c : w < n - w * w ∧ (0 : Int) = 0
    · rw [if_pos c]
      by_cases c1 : T ≤ 2 * w + 1
      · have a := Int.mul_le_mul c1 c1 hT (by omega)
        rw [sg_pos (by omega), sg_pos (by omega)]
      · have a := Int.mul_le_mul (show 2 * w + 2 ≤ T by omega) (show 2 * w + 2 ≤ T by omega) (by omega) hT
        rw [sg_neg (by omega), sg_neg (by omega)]
    · rw [if_neg c]
      by_cases c1 : T ≤ 2 * w
      · have a := Int.mul_le_mul c1 c1 hT (by omega)
        rw [sg_pos (by omega), sg_pos (by omega)]
      · have a := Int.mul_le_mul (show 2 * w + 1 ≤ T by omega) (show 2 * w + 1 ≤ T by omega) (by omega) hT
        rw [sg_neg (by omega), sg_neg (by omega)]

theorem root_far {n w o M t : Int} (h : SqI n w) (ho : 0 < o) (hn : 16777216 ≤ n) (hM : 0 ≤ M) (hM2 : M < 4096) (_ : 0 ≤ t) :
    sgV (2 * (w * pw o * 4 + rsV n w o) - M * pw t * 4) = sgV (4 * n * (pw o * pw o) - (M * pw t) * (M * pw t)) := by
  have hP := pw_pos o
  have hw := sqi_big (b := 4096) (by omega) h (by omega)
  have r0 : rsV n w o = if n = w * w then 0 else 1 := by
    unfold rsV
    split
    · rfl
    · rw [if_neg (by omega)]
  by_cases g : o + 1 ≤ t
  · have e1 : M * pw t = 2 * (M * pw (t - o - 1)) * pw o := by
      have : pw t = pw (t - o - 1) * (2 * pw o) := by
        rw [← pw_succ o (by omega), ← pw_add _ _ (by omega) (by omega)]
        congr 1
        omega
      rw [this, ← Int.mul_assoc, ← Int.mul_assoc, Int.mul_comm _ 2]
    have hZ : 0 ≤ M * pw (t - o - 1) := Int.mul_nonneg hM (by have := pw_pos (t - o - 1); omega)
    rw [e1]
    obtain ⟨P, hPd⟩ : ∃ P, pw o = P := ⟨_, rfl⟩
    obtain ⟨Z, hZd⟩ : ∃ Z, M * pw (t - o - 1) = Z := ⟨_, rfl⟩
    rw [hPd, hZd]
    rw [hPd] at hP
    rw [hZd] at hZ
    rw [sq_four]
    have e2 : 4 * n * (P * P) - 4 * (Z * Z) * (P * P) = (n - Z * Z) * (4 * (P * P)) := by
      rw [← Int.sub_mul, ← Int.mul_sub, Int.mul_comm 4, Int.mul_assoc]
    rw [e2, sg_mul (by have := Int.mul_pos (show 0 < P by omega) (show 0 < P by omega); omega), ← sq_sg h hZ]
    have e3 : 2 * (w * P * 4 + rsV n w o) - 2 * Z * P * 4 = 8 * ((w - Z) * P) + 2 * rsV n w o := by
      rw [Int.sub_mul, Int.mul_assoc 2 Z P]; omega
    rw [e3, r0]
    by_cases c : w < Z
    · have a : (w - Z) * P ≤ -1 * P := Int.mul_le_mul_of_nonneg_right (by omega) (by omega)
      split <;> rw [sg_neg (by omega), sg_neg (by omega)]
    · by_cases c2 : w = Z
      · subst c2
        rw [Int.sub_self, Int.zero_mul]
        split
        · rfl
        · rw [sg_pos (by omega), sg_pos (by omega)]
      · have a : 1 * P ≤ (w - Z) * P := Int.mul_le_mul_of_nonneg_right (by omega) (by omega)
        split <;> rw [sg_pos (by omega), sg_pos (by omega)]
  · have e1 : M * pw t ≤ 4095 * pw o := by
      have a := pw_mono (a := t) (b := o) (by omega)
      have b := pw_pos t
      exact Int.mul_le_mul (by omega) a (by omega) (by omega)
    have e2 : 0 ≤ M * pw t := Int.mul_nonneg hM (by have := pw_pos t; omega)
    obtain ⟨P, hPd⟩ : ∃ P, pw o = P := ⟨_, rfl⟩
    obtain ⟨Y, hY⟩ : ∃ Y, M * pw t = Y := ⟨_, rfl⟩
    rw [hPd, hY]
    rw [hPd] at hP e1
    rw [hY] at e1 e2
    have a1 : 4096 * P ≤ w * P := Int.mul_le_mul_of_nonneg_right hw (by omega)
    have a2 : Y * Y ≤ (4095 * P) * (4095 * P) := Int.mul_le_mul e1 e1 e2 (by omega)
    have a3 : (4095 * P) * (4095 * P) = 16769025 * (P * P) := by rw [im4]; rfl
    have a4 := Int.mul_pos (show 0 < P by omega) (show 0 < P by omega)
    have a5 : 67108864 * (P * P) ≤ 4 * n * (P * P) := Int.mul_le_mul_of_nonneg_right (by omega) (by omega)
    have a6 : 0 ≤ rsV n w o := by rw [r0]; split <;> omega
    rw [sg_pos (by omega), sg_pos (by omega)]

/-- A root is rounded as the size that tells it. -/
theorem rnd_root {e f n w m v o k mode s : Int} {neg : Bool} (hg : goodB e f = true) (h : SqI n w) (hn : 268435456 ≤ n) (hk : -149 ≤ k) (hm : SqI m v) (ho : o = 0 ∨ (0 < o ∧ 16777216 ≤ m))
    (hj : n * (pw (k + 150) * pw (k + 150)) = m * (pw o * pw o) * (pw 149 * pw 149)) (hr : IsRnd f (grV e f) ((v * pw o) * 4 + rsV m v o) 4 mode neg s) : RndD e f (rqV n w) k mode neg s := by
  refine rnd_move (fun T hT => ?_) hr
  obtain ⟨M, t, rfl, hM, hM2, ht, _⟩ := pt_few hg hT
  have hT0 : 0 ≤ M * pw t := Int.mul_nonneg hM (by have := pw_pos t; omega)
  have e1 : sgV (2 * (v * pw o * 4 + rsV m v o) - M * pw t * 4) = sgV (4 * m * (pw o * pw o) - (M * pw t) * (M * pw t)) := by
    rcases ho with rfl | ⟨ho, hm2⟩
    · rw [show pw 0 = 1 from rfl, Int.mul_one, Int.mul_one, Int.mul_one]
      exact root_whole hm hT0
    · exact root_far hm ho hm2 hM hM2 ht
  rw [e1, root_code h hn hk hM hM2 ht]
  have e2 : 4 * n * (pw (k + 150) * pw (k + 150)) - M * pw t * pw 149 * (M * pw t * pw 149) = (4 * m * (pw o * pw o) - (M * pw t) * (M * pw t)) * (pw 149 * pw 149) := by
    rw [Int.sub_mul, Int.mul_assoc 4 n, hj, Int.mul_assoc 4 m, Int.mul_assoc 4, im4 (M * pw t) (pw 149) (M * pw t) (pw 149)]
  rw [e2, sg_mul (by have := pw_pos 149; exact Int.mul_pos (by omega) (by omega))]
end Go.Proofs.YtfgbndjhaiigbaaGreatDoor

