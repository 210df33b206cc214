/-
  Contracts of the functions that the laws reach, and the plain facts that they rest on, each under the conditions that its line names; part 11.
-/
import Derived.Test.YtmddlbphanlfhaaKpo1
import Derived.Test.YtmddlbphanlfhaaKpo2
import Derived.Test.YtmddlbphanlfhaaKpo3
import Derived.Test.YtmddlbphanlfhaaKpo5
import Derived.Test.YtmddlbphanlfhaaKpo6
import Derived.Test.YtmddlbphanlfhaaKpo8
import Derived.Test.YtmddlbphanlfhaaKpo10
import Derived.Test.YtmddlbphanlfhaaRows
import Derived.WalkKit
import Derived.WalkSpells
import Derived.WalkLawsBesides
import Derived.StillTactics
import Derived.Laws.Pointers
import Derived.Deep.RegionHeld3
import Derived.Deep.QuietTactic
import Derived.BigQuiet
import Derived.Outline
import Derived.Lib.Hide
import Derived.RowKit3
import Derived.Carry
import Derived.IntWalk
namespace Go.Proofs.Ytmddlbphanlfhaa
open Go Go.RowKit
set_option linter.unusedSimpArgs false
set_option linter.unusedVariables false
set_option maxRecDepth 100000

theorem ord_mag {e f p : Int} (hp : patB e f p = true) : magV e f p = mgV f (p % pw (e + f)) := by
  obtain ⟨hg, p0, p1⟩ := pat_iff.1 hp
  obtain ⟨h1, h2, h3, h4⟩ := good_iff.1 hg
  have hd : pw (e + f) = pw e * pw f := pw_add e f (by omega) (by omega)
  have hm : p % pw (e + f) % pw f = p % pw f := by
    rw [hd]
    exact Int.emod_emod_of_dvd p ⟨pw e, Int.mul_comm _ _⟩
  unfold magV mgV
  rw [hm]

/-- A pattern taken apart: its sign and its size. -/
def Sm (e f p s m : Int) : Prop := p = s * pw (e + f) + m ∧ (s = 0 ∨ s = 1) ∧ 0 ≤ m ∧ m < pw (e + f)

theorem sm_ex {e f p : Int} (hp : patB e f p = true) : ∃ s m, Sm e f p s m := by
  rcases (pat_parts hp).2 with ⟨a, b, c, d⟩ | ⟨a, b, c, d⟩
  · exact ⟨0, p, by omega, .inl rfl, a, b⟩
  · exact ⟨1, p - pw (e + f), by omega, .inr rfl, by omega, by omega⟩

theorem sm_val {e f p s m : Int} (hg : goodB e f = true) (h : Sm e f p s m) : patB e f p = true ∧ p / pw (e + f) = s ∧ p % pw (e + f) = m := by
  obtain ⟨rfl, hs, h0, h1⟩ := h
  exact sum_of e f s m hg (by omega) (by omega) h0 h1

theorem ord_num {e f p s m : Int} (hg : goodB e f = true) (h : Sm e f p s m) : numB e f p = true ↔ m ≤ inV e f := by
  obtain ⟨a, b, c⟩ := sm_val hg h
  rw [num_mag, c]
  exact ⟨fun h => h.2, fun h => ⟨a, h⟩⟩

theorem sm_neg {e f p s m : Int} (hg : goodB e f = true) (h : Sm e f p s m) : Sm e f (negV e f p) (1 - s) m := by
  obtain ⟨a, b, c⟩ := sm_val hg h
  obtain ⟨_, h1, h2, h3⟩ := h
  refine ⟨?_, by omega, h2, h3⟩
  unfold negV
  rw [b, c]

theorem sm_uniq {e f p q s m : Int} (h : Sm e f p s m) (h' : Sm e f q s m) : p = q := h.1.trans h'.1.symm

theorem sm_up {e f p s m : Int} (hg : goodB e f = true) (h : Sm e f p s m) : upB e f p = true ↔ m ≤ inV e f ∧ ¬ (s = 0 ∧ m = inV e f) := by
  have hn := ord_num hg h
  obtain ⟨i0, i1, i2⟩ := in_bd hg
  obtain ⟨a, b, c, d⟩ := h
  unfold upB
  rw [Bool.and_eq_true, hn]
  refine and_congr_right fun hm => ?_
  have e1 : (pw e - 1) * pw f = inV e f := rfl
  rw [e1]
  simp only [Bool.not_eq_true', beq_eq_false_iff_ne, ne_eq]
  rcases b with rfl | rfl
  · rw [a]; constructor
    · rintro h ⟨_, h2⟩; apply h; omega
    · intro h h2; apply h; exact ⟨rfl, by omega⟩
  · rw [a]; constructor
    · rintro h ⟨h2, _⟩; omega
    · intro h h2; omega

/-- The next one upwards, by signs and sizes. -/
theorem sm_next {e f p s m : Int} (hg : goodB e f = true) (h : Sm e f p s m) (hm : m ≤ inV e f) (hu : ¬ (s = 0 ∧ m = inV e f)) :
    (s = 0 ∧ Sm e f (upV e f p) 0 (m + 1)) ∨ (s = 1 ∧ m = 0 ∧ Sm e f (upV e f p) 0 1) ∨ (s = 1 ∧ 1 ≤ m ∧ Sm e f (upV e f p) 1 (m - 1)) := by
  obtain ⟨_, b, c⟩ := sm_val hg h
  obtain ⟨i0, i1, i2⟩ := in_bd hg
  obtain ⟨a, d, g0, g1⟩ := h
  unfold upV
  rw [b, c]
  rcases d with rfl | rfl
  · left
    refine ⟨rfl, ?_, .inl rfl, by omega, by omega⟩
    by_cases hz : m = 0
    · subst hz; rw [if_pos (by rfl)]; omega
    · rw [if_neg (by simpa using hz), if_pos (by rfl)]; omega
  · right
    by_cases hz : m = 0
    · left
      refine ⟨rfl, hz, ?_, .inl rfl, by omega, by omega⟩
      subst hz; rw [if_pos (by rfl)]; omega
    · right
      refine ⟨rfl, by omega, ?_, .inr rfl, by omega, by omega⟩
      rw [if_neg (by simpa using hz), if_neg (by decide)]; omega

theorem sm_key {e f p s m : Int} (hg : goodB e f = true) (h : Sm e f p s m) : keyV e f p = (if s = 0 then m else -1 - m) ∧ vkV e f p = (if m = 0 then 0 else if s = 0 then m else -1 - m) := by
  obtain ⟨_, b, c⟩ := sm_val hg h
  obtain ⟨a, d, g0, g1⟩ := h
  have k : keyV e f p = (if s = 0 then m else -1 - m) := by
    unfold keyV
    rw [b, c]
    rcases d with rfl | rfl
    · rw [if_pos (by rfl), if_pos rfl]; omega
    · rw [if_neg (by decide), if_neg (by decide)]
  refine ⟨k, ?_⟩
  unfold vkV
  rw [c, k]
  by_cases hz : m = 0
  · rw [if_pos (by simpa using hz), if_pos hz]
  · rw [if_neg (by simpa using hz), if_neg hz]

theorem sm_kind {e f p s m : Int} (hg : goodB e f = true) (h : Sm e f p s m) : kindV e f p = 0 ↔ m = 0 := by
  obtain ⟨a, b, c⟩ := sm_val hg h
  have := kind_zer a
  rw [c] at this
  rw [Bool.eq_iff_iff, beq_iff_eq, beq_iff_eq] at this
  exact this

theorem ord_lt {x y : Int} (h : x < y) : cmpV x y = -1 := by unfold cmpV; rw [if_pos h]

/-- What is told of the next one upwards. -/
def UpTold (e f p : Int) : Prop := numB e f p = true ∧ patB e f p = true ∧ patB e f (upV e f p) = true ∧ cmpB e f p (upV e f p) = true ∧ cmpV (vkV e f p) (vkV e f (upV e f p)) = -1 ∧ numB e f (upV e f p) = true ∧
    keyV e f p < keyV e f (upV e f p) ∧ keyV e f (upV e f p) - keyV e f p ≤ 2 ∧ downB e f (upV e f p) = true ∧ patB e f (downV e f (upV e f p)) = true ∧ (kindV e f p ≠ 0 → downV e f (upV e f p) = p) ∧ (kindV e f p = 0 → kindV e f (downV e f (upV e f p)) = 0)

theorem up_told {e f p : Int} (hu : upB e f p = true) : UpTold e f p := by
  have hn : numB e f p = true := by unfold upB at hu; rw [Bool.and_eq_true] at hu; exact hu.1
  have hp := (num_mag.1 hn).1
  have hg := (pat_iff.1 hp).1
  obtain ⟨i0, i1, i2⟩ := in_bd hg
  obtain ⟨s, m, h⟩ := sm_ex hp
  obtain ⟨hm, hni⟩ := (sm_up hg h).1 hu
  have key : ∀ s' m', Sm e f (upV e f p) s' m' → m' ≤ inV e f → ¬ (s' = 1 ∧ m' = inV e f) → vkV e f p < vkV e f (upV e f p) → keyV e f p < keyV e f (upV e f p) → keyV e f (upV e f p) - keyV e f p ≤ 2 → (∀ t n, Sm e f (downV e f (upV e f p)) t n → (m ≠ 0 → t = s ∧ n = m) ∧ (m = 0 → n = 0)) → UpTold e f p := by
    intro s' m' h' hm' hi hv hk1 hk2 hd
    have hn' := (ord_num hg h').2 hm'
    have h2 := sm_neg hg h'
    have hs' := h'.2.1
    have hup : upB e f (negV e f (upV e f p)) = true := (sm_up hg h2).2 ⟨hm', by omega⟩
    have hpd : patB e f (downV e f (upV e f p)) = true := by
      unfold downV
      rcases sm_next hg h2 hm' (by omega) with ⟨_, q⟩ | ⟨_, _, q⟩ | ⟨_, _, q⟩
      · exact (sm_val hg (sm_neg hg q)).1
      · exact (sm_val hg (sm_neg hg q)).1
      · exact (sm_val hg (sm_neg hg q)).1
    obtain ⟨t, n, hq⟩ := sm_ex hpd
    obtain ⟨d1, d2⟩ := hd t n hq
    refine ⟨hn, hp, (sm_val hg h').1, by unfold cmpB; rw [hn, hn']; rfl, ord_lt hv, hn', hk1, hk2, by unfold downB; rw [(sm_val hg h').1, hup]; rfl, hpd, fun hk => ?_, fun hk => ?_⟩
    · have hm0 : m ≠ 0 := fun q => hk ((sm_kind hg h).2 q)
      obtain ⟨rfl, rfl⟩ := d1 hm0
      exact sm_uniq hq h
    · exact (sm_kind hg hq).2 (d2 ((sm_kind hg h).1 hk))
  have one : ∀ {p t n t' n'}, Sm e f p t n → Sm e f p t' n' → t = t' ∧ n = n' := by
    intro p t n t' n' a b
    have := sm_val hg a
    have := sm_val hg b
    omega
  have k1 := sm_key hg h
  have m0 := h.2.2.1
  rcases sm_next hg h hm hni with ⟨rfl, q⟩ | ⟨rfl, rfl, q⟩ | ⟨rfl, hm1, q⟩
  · have k2 := sm_key hg q
    refine key 0 (m + 1) q (by omega) (by omega) ?_ ?_ ?_ ?_
    · rw [k1.2, k2.2]; split <;> simp <;> omega
    · rw [k1.1, k2.1]; simp; omega
    · rw [k1.1, k2.1]; simp; omega
    · intro t n ht
      have q2 := sm_neg hg q
      unfold downV at ht
      rcases sm_next hg q2 (by omega) (by omega) with ⟨c, _⟩ | ⟨_, c, _⟩ | ⟨_, _, r⟩
      · omega
      · omega
      · have := one ht (sm_neg hg r)
        omega
  · have k2 := sm_key hg q
    refine key 0 1 q (by omega) (by omega) ?_ ?_ ?_ ?_
    · rw [k1.2, k2.2]; simp
    · rw [k1.1, k2.1]; simp
    · rw [k1.1, k2.1]; simp
    · intro t n ht
      have q2 := sm_neg hg q
      unfold downV at ht
      rcases sm_next hg q2 (by omega) (by omega) with ⟨c, _⟩ | ⟨_, c, _⟩ | ⟨_, _, r⟩
      · omega
      · omega
      · have := one ht (sm_neg hg r)
        omega
  · have k2 := sm_key hg q
    refine key 1 (m - 1) q (by omega) (by omega) ?_ ?_ ?_ ?_
    · rw [k1.2, k2.2, if_neg (by omega), if_neg (by decide)]; (repeat' split) <;> omega
    · rw [k1.1, k2.1]; simp; omega
    · rw [k1.1, k2.1]; simp; omega
    · intro t n ht
      have q2 := sm_neg hg q
      unfold downV at ht
      rcases sm_next hg q2 (by omega) (by omega) with ⟨_, r⟩ | ⟨c, _, _⟩ | ⟨c, _, _⟩
      · have := one ht (sm_neg hg r)
        omega
      · omega
      · omega

/-- What is told of the next one downwards. -/
theorem down_told {e f p : Int} (hu : downB e f p = true) : numB e f p = true ∧ patB e f p = true ∧ upB e f (negV e f p) = true ∧ patB e f (upV e f (negV e f p)) = true := by
  unfold downB at hu
  rw [Bool.and_eq_true] at hu
  have hg := (pat_iff.1 hu.1).1
  obtain ⟨s, m, h⟩ := sm_ex hu.1
  have h2 := sm_neg hg h
  obtain ⟨hm, hni⟩ := (sm_up hg h2).1 hu.2
  refine ⟨(ord_num hg h).2 hm, hu.1, hu.2, (up_told hu.2).2.2.1⟩

theorem cmp_turn (x y : Int) : cmpV y x = -cmpV x y := by
  unfold cmpV
  split <;> split <;> first | rfl | omega | (split <;> first | rfl | omega)

theorem cmpB_turn {e f a b : Int} (h : cmpB e f a b = true) : cmpB e f b a = true := by unfold cmpB at h ⊢; rw [Bool.and_comm]; exact h

theorem sm_units {e f p s m : Int} (hg : goodB e f = true) (h : Sm e f p s m) : unitsV e f p = if s = 1 then -mgV f m else mgV f m := by
  obtain ⟨a, b, c⟩ := sm_val hg h
  unfold unitsV
  rw [ord_mag a, b, c]
  simp only [beq_iff_eq]

theorem mg_str {f p q : Int} (hf : 1 ≤ f) (hp : 0 ≤ p) (h : p < q) : mgV f p < mgV f q := by
  have h1 := mg_step f p hf hp
  have h2 := mg_mono f (p + 1) q hf (by omega) (by omega)
  have := pw_pos (max 0 (p / pw f - 1))
  omega

theorem mg_null (f : Int) : mgV f 0 = 0 := by
  unfold mgV
  rw [if_neg (by simp)]; simp

theorem cmp_units {e f a b : Int} (ha : patB e f a = true) (hb : patB e f b = true) : decide (unitsV e f a < unitsV e f b) = decide (cmpV (vkV e f a) (vkV e f b) < 0) ∧ (unitsV e f a == unitsV e f b) = (cmpV (vkV e f a) (vkV e f b) == 0) := by
  have hg := (pat_iff.1 ha).1
  have hf := (good_iff.1 hg).2.2.1
  obtain ⟨s, m, h⟩ := sm_ex ha
  obtain ⟨t, n, h'⟩ := sm_ex hb
  rw [sm_units hg h, sm_units hg h', (sm_key hg h).2, (sm_key hg h').2]
  have z := mg_null f
  have m0 := h.2.2.1
  have n0 := h'.2.2.1
  have pm : 0 < m → 0 < mgV f m := fun q => by have := mg_str hf (Int.le_refl 0) q; omega
  have pn : 0 < n → 0 < mgV f n := fun q => by have := mg_str hf (Int.le_refl 0) q; omega
  have l1 : m < n → mgV f m < mgV f n := fun q => mg_str hf m0 q
  have l2 : n < m → mgV f n < mgV f m := fun q => mg_str hf n0 q
  have l3 : m = n → mgV f m = mgV f n := fun q => by rw [q]
  have l4 : m = 0 → mgV f m = 0 := fun q => by rw [q]; exact z
  have l5 : n = 0 → mgV f n = 0 := fun q => by rw [q]; exact z
  generalize mgV f m = x at *
  generalize mgV f n = y at *
  have key : ∀ u v a b : Int, (u < v ↔ a < b) → (u = v ↔ a = b) → decide (u < v) = decide (cmpV a b < 0) ∧ (u == v) = (cmpV a b == 0) := by
    intro u v a b h1 h2
    have c1 : u < v ↔ cmpV a b < 0 := by unfold cmpV; rw [h1]; (repeat' split) <;> omega
    have c2 : u = v ↔ cmpV a b = 0 := by unfold cmpV; rw [h2]; (repeat' split) <;> omega
    refine ⟨decide_eq_decide.2 c1, ?_⟩
    rw [Bool.eq_iff_iff, beq_iff_eq, beq_iff_eq, c2]
  apply key
  · rcases h.2.1 with rfl | rfl <;> rcases h'.2.1 with rfl | rfl <;> simp <;> (repeat' split) <;> omega
  · rcases h.2.1 with rfl | rfl <;> rcases h'.2.1 with rfl | rfl <;> simp <;> (repeat' split) <;> omega

/-- What is told of the greatest pattern below a number. -/
theorem below_told {e f u r : Int} (hg : goodB e f = true) (h : IsBelow f ((pw e - 1) * pw f - 1) u r) :
    finB e f r = true ∧ unitsV e f r = mgV f r ∧ mgV f r ≤ u ∧ upB e f r = true ∧ upV e f r = r + 1 ∧ ((finB e f (r + 1) = true ∧ unitsV e f (r + 1) = mgV f (r + 1) ∧ u < mgV f (r + 1)) ∨ (finB e f (r + 1) = false ∧ r = (pw e - 1) * pw f - 1)) := by
  have e1 : (pw e - 1) * pw f = inV e f := rfl
  rw [e1] at h ⊢
  obtain ⟨i0, i1, i2⟩ := in_bd hg
  obtain ⟨r0, r1, r2, r3⟩ := h
  have hf := (good_iff.1 hg).2.2.1
  have h0 : Sm e f r 0 r := ⟨by omega, .inl rfl, r0, by omega⟩
  have h1 : Sm e f (r + 1) 0 (r + 1) := ⟨by omega, .inl rfl, by omega, by omega⟩
  have v0 := sm_val hg h0
  have v1 := sm_val hg h1
  refine ⟨fin_mag2.2 ⟨v0.1, by omega⟩, by rw [sm_units hg h0, if_neg (by decide)], r2, (sm_up hg h0).2 ⟨by omega, by omega⟩, ?_, ?_⟩
  · rcases sm_next hg h0 (by omega) (by omega) with ⟨_, q⟩ | ⟨c, _⟩ | ⟨c, _⟩
    · exact sm_uniq q h1
    · omega
    · omega
  · by_cases hl : r + 1 < inV e f
    · left
      exact ⟨fin_mag2.2 ⟨v1.1, by omega⟩, by rw [sm_units hg h1, if_neg (by decide)], by omega⟩
    · right
      refine ⟨?_, by omega⟩
      cases hx : finB e f (r + 1)
      · rfl
      · have := (fin_mag2.1 hx).2
        omega

/-- The kinds at the ends. -/
theorem ends_kind {e f : Int} (hg : goodB e f = true) : (patB e f ((pw e - 1) * pw f - 1) = true ∧ kindV e f ((pw e - 1) * pw f - 1) = 2) ∧ (patB e f ((pw e - 1) * pw f) = true ∧ kindV e f ((pw e - 1) * pw f) = 3) ∧ (patB e f (pw f) = true ∧ kindV e f (pw f) = 2) ∧ (patB e f (pw f - 1) = true ∧ kindV e f (pw f - 1) = 1) := by
  obtain ⟨i0, i1, i2⟩ := in_bd hg
  obtain ⟨h1, h2, h3, h4⟩ := good_iff.1 hg
  obtain ⟨⟨a1, a2⟩, ⟨b1, b2⟩, ⟨c1, c2⟩, hmul⟩ := pw_facts h1 h2 h3 h4
  have e1 : (pw e - 1) * pw f = inV e f := rfl
  have e2 : inV e f = pw e * pw f - pw f := by rw [← e1, Int.sub_mul, Int.one_mul]
  have hP : pw (e + f) = pw f * pw e := by rw [hmul, Int.mul_comm]
  have hfP : pw f < inV e f := by
    rw [← e1]
    have : 3 * pw f ≤ (pw e - 1) * pw f := Int.mul_le_mul_of_nonneg_right (by omega) (by omega)
    omega
  have key : ∀ x r, 0 ≤ r → r < pw f → 0 ≤ x → x < pw e → patB e f (x * pw f + r) = true ∧ (x * pw f + r) % pw (e + f) / pw f = x ∧ (x * pw f + r) % pw f = r := by
    intro x r r0 r1 x0 x1
    have q0 : 0 ≤ x * pw f := Int.mul_nonneg x0 (by omega)
    have q1 : x * pw f ≤ (pw e - 1) * pw f := Int.mul_le_mul_of_nonneg_right (by omega) (by omega)
    rw [e1] at q1
    have q2 : x * pw f + r < pw (e + f) := by rw [hmul]; omega
    refine ⟨pat_iff.2 ⟨hg, by omega, by omega⟩, ?_, ?_⟩
    · rw [Int.emod_eq_of_lt (by omega) q2, Int.add_comm, Int.add_mul_ediv_right _ _ (by omega), Int.ediv_eq_zero_of_lt r0 r1]; omega
    · rw [Int.add_comm, Int.add_mul_emod_self_right]; exact Int.emod_eq_of_lt r0 r1
  have e3 : (pw e - 1) * pw f - 1 = (pw e - 2) * pw f + (pw f - 1) := by rw [Int.sub_mul, Int.sub_mul]; omega
  have k1 := key (pw e - 2) (pw f - 1) (by omega) (by omega) (by omega) (by omega)
  have k2 := key (pw e - 1) 0 (by omega) (by omega) (by omega) (by omega)
  have k3 := key 1 0 (by omega) (by omega) (by omega) (by omega)
  have k4 := key 0 (pw f - 1) (by omega) (by omega) (by omega) (by omega)
  rw [← e3] at k1
  rw [Int.add_zero] at k2
  rw [Int.add_zero, Int.one_mul] at k3
  rw [Int.zero_mul, Int.zero_add] at k4
  refine ⟨⟨k1.1, ?_⟩, ⟨k2.1, ?_⟩, ⟨k3.1, ?_⟩, ⟨k4.1, ?_⟩⟩
  · unfold kindV
    rw [k1.2.1, k1.2.2, if_neg (by rw [beq_iff_eq]; omega), if_pos (by omega)]
  · unfold kindV
    rw [k2.2.1, k2.2.2, if_pos (by simp), if_pos (by simp)]
  · unfold kindV
    rw [k3.2.1, k3.2.2, if_neg (by rw [beq_iff_eq]; omega), if_pos (by omega)]
  · unfold kindV
    rw [k4.2.1, k4.2.2, if_neg (by rw [beq_iff_eq]; omega), if_neg (by omega), if_pos (by omega)]

theorem aKind_any (e f p : Int) (hg : patB e f p = true) (w : World) : Calls Try.prog 14 #[fmt e f, .int .i64 p] w fun rv w' => rv = .returned (.int .i64 (kindV e f p)) ∧ Ext w w' := by
  go_enter Try.func14, Try.ntmps14
  go_wp2_with (go_at_call 48; refine (iKindOf_yes e f p hg _).mono ?_; rintro rv w1 ⟨rfl, hb⟩; have ns : w.heap.size < w1.heap.size := hb.ltK; have n0 : w1.cell? ⟨w.heap.size, 0, none⟩ = some (.int .i64 e) := hb.cellK; have n1 : w1.cell? ⟨w.heap.size, 1, none⟩ = some (.int .i64 f) := hb.cellK; (first | (have nx := hx.trK hb; clear hx) | have nx := hb); clear hb; try clear hs; try clear g0; try clear g1; have hx := nx; clear nx; have hs := ns; clear ns; have g0 := n0; clear n0; have g1 := n1; clear n1)
  go_ret
  exact ⟨rfl, Ext.auK⟩

theorem up_both (e f p : Int) : ∃ (x : Int) (U : Bool), U = upB e f p ∧ (U = true → x = upV e f p) ∧ RowKit.Hid (∀ w : World, Calls Try.prog 7 #[fmt e f, .int .i64 p] w fun rv w' => rv = .returned (.tuple #[.int .i64 x, .bool U]) ∧ Ext w w') ∧ RowKit.Hid (∀ w : World, Calls Try.prog 8 #[fmt e f, .int .i64 p] w fun rv w' => rv = .returned (.tuple #[.int .i64 x, .bool U]) ∧ Ext w w') := by
  cases hg : upB e f p
  · exact ⟨0, false, rfl, fun h => (by cases h), Lib.hid (fun w => iNextUp_no e f p hg w), Lib.hid (fun w => sNextUp_no e f p hg w)⟩
  · exact ⟨upV e f p, true, rfl, fun _ => rfl, Lib.hid (fun w => iNextUp_yes e f p hg w), Lib.hid (fun w => sNextUp_yes e f p hg w)⟩

theorem down_both (e f p : Int) : ∃ (x : Int) (U : Bool), U = downB e f p ∧ (U = true → x = downV e f p) ∧ RowKit.Hid (∀ w : World, Calls Try.prog 9 #[fmt e f, .int .i64 p] w fun rv w' => rv = .returned (.tuple #[.int .i64 x, .bool U]) ∧ Ext w w') ∧ RowKit.Hid (∀ w : World, Calls Try.prog 10 #[fmt e f, .int .i64 p] w fun rv w' => rv = .returned (.tuple #[.int .i64 x, .bool U]) ∧ Ext w w') := by
  cases hg : downB e f p
  · exact ⟨0, false, rfl, fun h => (by cases h), Lib.hid (fun w => iNextDown_no e f p hg w), Lib.hid (fun w => sNextDown_no e f p hg w)⟩
  · exact ⟨downV e f p, true, rfl, fun _ => rfl, Lib.hid (fun w => iNextDown_yes e f p hg w), Lib.hid (fun w => sNextDown_yes e f p hg w)⟩

theorem key_both (e f p : Int) : ∃ (x : Int) (U : Bool), U = numB e f p ∧ (U = true → x = keyV e f p) ∧ RowKit.Hid (∀ w : World, Calls Try.prog 11 #[fmt e f, .int .i64 p] w fun rv w' => rv = .returned (.tuple #[.int .i64 x, .bool U]) ∧ Ext w w') ∧ RowKit.Hid (∀ w : World, Calls Try.prog 12 #[fmt e f, .int .i64 p] w fun rv w' => rv = .returned (.tuple #[.int .i64 x, .bool U]) ∧ Ext w w') := by
  cases hg : numB e f p
  · exact ⟨0, false, rfl, fun h => (by cases h), Lib.hid (fun w => iOrderKey_no e f p hg w), Lib.hid (fun w => sOrderKey_no e f p hg w)⟩
  · exact ⟨keyV e f p, true, rfl, fun _ => rfl, Lib.hid (fun w => iOrderKey_yes e f p hg w), Lib.hid (fun w => sOrderKey_yes e f p hg w)⟩

theorem cmp_both (e f a b : Int) : ∃ (x : Int) (U : Bool), U = cmpB e f a b ∧ (U = true → x = cmpV (vkV e f a) (vkV e f b)) ∧ RowKit.Hid (∀ w : World, Calls Try.prog 13 #[fmt e f, .int .i64 a, .int .i64 b] w fun rv w' => rv = .returned (.tuple #[.int .i64 x, .bool U]) ∧ Ext w w') ∧ RowKit.Hid (∀ w : World, Calls Try.prog 16 #[fmt e f, .int .i64 a, .int .i64 b] w fun rv w' => rv = .returned (.tuple #[.int .i64 x, .bool U]) ∧ Ext w w') := by
  cases hg : cmpB e f a b
  · exact ⟨0, false, rfl, fun h => (by cases h), Lib.hid (fun w => iCompareOf_no e f a b hg w), Lib.hid (fun w => sCompareOf_no e f a b hg w)⟩
  · exact ⟨cmpV (vkV e f a) (vkV e f b), true, rfl, fun _ => rfl, Lib.hid (fun w => iCompareOf_yes e f a b hg w), Lib.hid (fun w => sCompareOf_yes e f a b hg w)⟩

theorem gr_both (e f : Int) : ∃ (x : Int) (U : Bool), U = goodB e f ∧ (U = true → x = (pw e - 1) * pw f - 1) ∧ RowKit.Hid (∀ w : World, Calls Try.prog 20 #[fmt e f] w fun rv w' => rv = .returned (.tuple #[.int .i64 x, .bool U]) ∧ Ext w w') ∧ RowKit.Hid (∀ w : World, Calls Try.prog 21 #[fmt e f] w fun rv w' => rv = .returned (.tuple #[.int .i64 x, .bool U]) ∧ Ext w w') := by
  cases hg : goodB e f
  · exact ⟨0, false, rfl, fun h => (by cases h), Lib.hid (fun w => iGreatestOf_no e f hg w), Lib.hid (fun w => sGreatestOf_no e f hg w)⟩
  · exact ⟨(pw e - 1) * pw f - 1, true, rfl, fun _ => rfl, Lib.hid (fun w => iGreatestOf_yes e f hg w), Lib.hid (fun w => sGreatestOf_yes e f hg w)⟩

theorem ln_both (e f : Int) : ∃ (x : Int) (U : Bool), U = goodB e f ∧ (U = true → x = pw f) ∧ RowKit.Hid (∀ w : World, Calls Try.prog 22 #[fmt e f] w fun rv w' => rv = .returned (.tuple #[.int .i64 x, .bool U]) ∧ Ext w w') ∧ RowKit.Hid (∀ w : World, Calls Try.prog 23 #[fmt e f] w fun rv w' => rv = .returned (.tuple #[.int .i64 x, .bool U]) ∧ Ext w w') := by
  cases hg : goodB e f
  · exact ⟨0, false, rfl, fun h => (by cases h), Lib.hid (fun w => iLeastNormal_no e f hg w), Lib.hid (fun w => sLeastNormal_no e f hg w)⟩
  · exact ⟨pw f, true, rfl, fun _ => rfl, Lib.hid (fun w => iLeastNormal_yes e f hg w), Lib.hid (fun w => sLeastNormal_yes e f hg w)⟩

theorem nb_both (e f u : Int) : ∃ (x : Int) (U : Bool), (U = true → goodB e f = true ∧ IsBelow f ((pw e - 1) * pw f - 1) u x) ∧ RowKit.Hid (∀ w : World, Calls Try.prog 18 #[fmt e f, .int .i64 u] w fun rv w' => rv = .returned (.tuple #[.int .i64 x, .bool U]) ∧ Ext w w') ∧ RowKit.Hid (∀ w : World, Calls Try.prog 19 #[fmt e f, .int .i64 u] w fun rv w' => rv = .returned (.tuple #[.int .i64 x, .bool U]) ∧ Ext w w') := by
  cases hg : nbB e f u
  · exact ⟨0, false, fun h => (by cases h), Lib.hid (fun w => iNearestBelow_no e f u hg w), Lib.hid (fun w => sNearestBelow_no e f u hg w)⟩
  · have g0 := (nb_iff.1 hg).1
    have h3 := (good_iff.1 g0).2.2.1
    obtain ⟨_, _, _, ⟨r, _, hd, _⟩, _⟩ := sNearestBelow_yes e f u hg (default : World) []
    refine ⟨r, true, fun _ => ⟨g0, hd⟩, Lib.hid (fun w => (iNearestBelow_yes e f u hg w).mono ?_), Lib.hid (fun w => (sNearestBelow_yes e f u hg w).mono ?_)⟩
    all_goals
      rintro rv w' ⟨q, rfl, hq, hx⟩
      obtain rfl := below_one f _ _ q r h3 hq hd
      exact ⟨rfl, hx⟩

theorem pu_both (e f u : Int) (hw0 : -9223372036854775808 ≤ u) (hw1 : u ≤ 9223372036854775807) : ∃ (x : Int) (U : Bool), RowKit.Hid (∀ w : World, Calls Try.prog 24 #[fmt e f, .int .i64 u] w fun rv w' => rv = .returned (.tuple #[.int .i64 x, .bool U]) ∧ Ext w w') ∧ RowKit.Hid (∀ w : World, Calls Try.prog 25 #[fmt e f, .int .i64 u] w fun rv w' => rv = .returned (.tuple #[.int .i64 x, .bool U]) ∧ Ext w w') := by
  cases hg : puB e f u
  · exact ⟨0, false, Lib.hid (fun w => iPu_no e f u hg hw0 hw1 w), Lib.hid (fun w => sPu_no e f u hg w)⟩
  · have h3 := (good_iff.1 (pu_iff.1 hg).1).2.2.1
    obtain ⟨_, _, _, ⟨r, _, hd, _⟩, _⟩ := sPu_yes e f u hg (default : World) []
    refine ⟨puV e f u r, (mgV f r == max u (-u)), Lib.hid (fun w => (iPu_yes e f u hg w).mono ?_), Lib.hid (fun w => (sPu_yes e f u hg w).mono ?_)⟩
    all_goals
      rintro rv w' ⟨q, rfl, hq, hx⟩
      obtain rfl := below_one f _ _ q r h3 hq hd
      exact ⟨rfl, hx⟩
end Go.Proofs.Ytmddlbphanlfhaa

