/-
  Plain facts on texts of bits: what they come to, and the form of a pattern's text. No Go in sight.
-/
import Derived.Test.YtfgbndjhaiigbabDoorPlain
namespace Go.Proofs.YtfgbndjhaiigbabDoor
open Go
set_option linter.unusedSimpArgs false

/-- The last k bits of x, the greatest first. -/
def btT (x : Int) : Nat → List UInt8
  | 0 => []
  | k + 1 => UInt8.ofNat (48 + (x / pw (k : Nat) % 2).toNat) :: btT x k
theorem btT_length (x : Int) : ∀ k, (btT x k).length = k
  | 0 => rfl
  | k + 1 => by rw [btT, List.length_cons, btT_length x k]

/-- What a list of bits comes to. -/
def bvS (a : Int) (c : UInt8) : Int := 2 * a + ((c.toNat : Int) - 48)
def bv (l : List UInt8) : Int := l.foldl bvS 0
def isB (c : UInt8) : Prop := c.toNat = 48 ∨ c.toNat = 49
theorem bv_snoc (l : List UInt8) (c : UInt8) : bv (l ++ [c]) = 2 * bv l + ((c.toNat : Int) - 48) := by unfold bv; rw [List.foldl_append]; rfl
theorem bv_bd (l : List UInt8) (h : ∀ c ∈ l, isB c) : ∀ k, k ≤ l.length → 0 ≤ bv (l.take k) ∧ bv (l.take k) < 2 ^ k := by
  intro k
  induction k with
  | zero => intro _; simp [bv]
  | succ k ih =>
    intro hk
    obtain ⟨i1, i2⟩ := ih (by omega)
    have hc := h l[k] (List.getElem_mem _)
    unfold isB at hc
    rw [List.take_add_one, List.getElem?_eq_getElem (by omega)]
    simp only [Option.toList_some]
    rw [bv_snoc, Int.pow_succ]
    omega
theorem bv_all (l : List UInt8) (h : ∀ c ∈ l, isB c) : 0 ≤ bv l ∧ bv l < 2 ^ l.length := by
  have := bv_bd l h l.length (Nat.le_refl _)
  rwa [List.take_length] at this

theorem bv_from (l : List UInt8) : ∀ a : Int, l.foldl bvS a = a * 2 ^ l.length + bv l := by
  induction l with
  | nil => intro a; simp [bv]
  | cons c l ih =>
    intro a
    have h1 := ih (bvS a c)
    have h2 := ih (bvS 0 c)
    show l.foldl bvS (bvS a c) = _
    rw [h1]
    have e2 : bv (c :: l) = l.foldl bvS (bvS 0 c) := rfl
    rw [e2, h2, List.length_cons, Int.pow_succ]
    simp only [bvS]
    generalize (2 : Int) ^ l.length = P
    rw [Int.add_mul, Int.add_mul]
    have : a * (P * 2) = 2 * a * P := by rw [Int.mul_comm P 2, ← Int.mul_assoc, Int.mul_comm a 2]
    rw [this]
    omega
theorem bv_append (a b : List UInt8) : bv (a ++ b) = bv a * 2 ^ b.length + bv b := by
  have : bv (a ++ b) = b.foldl bvS (bv a) := by unfold bv; rw [List.foldl_append]
  rw [this, bv_from]
theorem bv_cons (c : UInt8) (l : List UInt8) : bv (c :: l) = ((c.toNat : Int) - 48) * 2 ^ l.length + bv l := by
  have := bv_append [c] l
  rw [List.singleton_append] at this
  rw [this]
  congr 2
  simp [bv, bvS]

theorem bit_nat {d : Int} (h0 : 0 ≤ d) (h1 : d < 2) : (UInt8.ofNat (48 + d.toNat)).toNat = 48 + d.toNat := by
  rw [UInt8.toNat_ofNat']; omega
theorem btT_bits (x : Int) : ∀ k, ∀ c ∈ btT x k, isB c
  | 0, c, h => by simp [btT] at h
  | k + 1, c, h => by
    rw [btT, List.mem_cons] at h
    have d0 : 0 ≤ x / pw (k : Nat) % 2 := Int.emod_nonneg _ (by omega)
    have d1 : x / pw (k : Nat) % 2 < 2 := Int.emod_lt_of_pos _ (by omega)
    rcases h with h | h
    · unfold isB
      rw [h, bit_nat d0 d1]; omega
    · exact btT_bits x k c h
theorem pw_two (k : Nat) : pw (k : Nat) = (2 : Int) ^ k := by simp [pw]
theorem bv_btT (x : Int) : ∀ k, bv (btT x k) = x % 2 ^ k
  | 0 => by simp [btT, bv]
  | k + 1 => by
    have d0 : 0 ≤ x / pw (k : Nat) % 2 := Int.emod_nonneg _ (by omega)
    have d1 : x / pw (k : Nat) % 2 < 2 := Int.emod_lt_of_pos _ (by omega)
    rw [btT, bv_cons, btT_length, bit_nat d0 d1, bv_btT x k, pw_two]
    rw [pw_two] at d0 d1
    have e : (((48 + (x / 2 ^ k % 2).toNat : Nat)) : Int) - 48 = x / 2 ^ k % 2 := by omega
    rw [e, Int.pow_succ]
    have p0 : (0 : Int) < 2 ^ k := Int.pow_pos (by decide)
    generalize (2 : Int) ^ k = P at *
    have q1 := Int.mul_ediv_add_emod x P
    have q2 := Int.mul_ediv_add_emod (x / P) 2
    have q3 := Int.mul_ediv_add_emod x (P * 2)
    have q4 : x / (P * 2) = x / P / 2 := (Int.ediv_ediv_of_nonneg (Int.le_of_lt p0)).symm
    rw [q4] at q3
    have q5 : P * (x / P) = P * (2 * (x / P / 2) + x / P % 2) := by rw [q2]
    rw [Int.mul_add, ← Int.mul_assoc] at q5
    rw [Int.mul_comm (x / P % 2) P]
    omega

theorem bv_place (h x : Int) (P : Int) (hp : 0 < P) (h0 : 0 ≤ x) (h1 : x < P) : (h * P + x) / P = h := by
  rw [Int.add_comm, Int.add_mul_ediv_right _ _ (by omega), Int.ediv_eq_zero_of_lt h0 h1]; omega
theorem btT_bv (l : List UInt8) (hl : ∀ c ∈ l, isB c) : ∀ h : Int, btT (h * 2 ^ l.length + bv l) l.length = l := by
  induction l with
  | nil => intro h; rfl
  | cons c l ih =>
    intro h
    have hc := hl c (List.mem_cons_self ..)
    have hl2 : ∀ c ∈ l, isB c := fun c h => hl c (List.mem_cons_of_mem _ h)
    obtain ⟨b0, b1⟩ := bv_all l hl2
    have e : h * 2 ^ (c :: l).length + bv (c :: l) = (2 * h + ((c.toNat : Int) - 48)) * 2 ^ l.length + bv l := by
      rw [bv_cons, List.length_cons, Int.pow_succ, Int.add_mul]
      generalize (2 : Int) ^ l.length = P
      have : h * (P * 2) = 2 * h * P := by rw [Int.mul_comm P 2, ← Int.mul_assoc, Int.mul_comm h 2]
      omega
    rw [e, List.length_cons, btT, ih hl2, pw_two, bv_place _ _ _ (Int.pow_pos (by decide)) b0 b1]
    congr 1
    unfold isB at hc
    have : (2 * h + ((c.toNat : Int) - 48)) % 2 = (c.toNat : Int) - 48 := by omega
    rw [this]
    have e3 : 48 + ((c.toNat : Int) - 48).toNat = c.toNat := by omega
    rw [e3]
    exact UInt8.ofNat_toNat

/-- The text of a pattern. -/
def fmTx (e f p : Int) : List UInt8 := btT (p / pw (e + f)) 1 ++ [46] ++ btT (p % pw (e + f) / pw f) e.toNat ++ [46] ++ btT (p % pw f) f.toNat
/-- A text is that of a pattern. -/
def PtTx (e f : Int) (l : List UInt8) (p : Int) : Prop := 0 ≤ p ∧ p < 2 * pw (e + f) ∧ fmTx e f p = l

theorem pt_bits (E G : Nat) (p : Int) (p0 : 0 ≤ p) (p1 : p < 2 * pw ((E : Int) + G)) :
    bv (btT (p / pw ((E : Int) + G)) 1 ++ btT (p % pw ((E : Int) + G) / pw (G : Int)) E ++ btT (p % pw (G : Int)) G) = p := by
  rw [bv_append, bv_append, btT_length, btT_length, bv_btT, bv_btT, bv_btT]
  have e1 : pw ((E : Int) + G) = 2 ^ E * 2 ^ G := by rw [pw_add _ _ (by omega) (by omega), pw_two, pw_two]
  have e2 := pw_two G
  rw [e1] at p1 ⊢
  rw [e2]
  have a0 : (0 : Int) < 2 ^ E := Int.pow_pos (by decide)
  have b0 : (0 : Int) < 2 ^ G := Int.pow_pos (by decide)
  generalize (2 : Int) ^ E = A at *
  generalize (2 : Int) ^ G = B at *
  have ab : 0 < A * B := Int.mul_pos a0 b0
  have h1 : p / (A * B) < 2 := Int.ediv_lt_of_lt_mul ab p1
  have h0 : 0 ≤ p / (A * B) := Int.ediv_nonneg p0 (by omega)
  have r0 : 0 ≤ p % (A * B) := Int.emod_nonneg _ (by omega)
  have r1 : p % (A * B) < A * B := Int.emod_lt_of_pos _ ab
  have s0 : 0 ≤ p % (A * B) / B := Int.ediv_nonneg r0 (by omega)
  have s1 : p % (A * B) / B < A := Int.ediv_lt_of_lt_mul b0 r1
  rw [show (2 : Int) ^ 1 = 2 from rfl, Int.emod_eq_of_lt h0 h1, Int.emod_eq_of_lt s0 s1, Int.emod_emod]
  have q1 := Int.mul_ediv_add_emod p (A * B)
  have q2 := Int.mul_ediv_add_emod (p % (A * B)) B
  have q3 : p % (A * B) % B = p % B := Int.emod_emod_of_dvd _ ⟨A, Int.mul_comm A B⟩
  rw [q3] at q2
  rw [Int.add_mul, Int.mul_assoc, Int.mul_comm (p / (A * B)), Int.mul_comm (p % (A * B) / B)]
  omega

theorem pt_of (E G : Nat) (c : UInt8) (b d : List UInt8) (hb : b.length = E) (hd : d.length = G) (hc : isB c) (h1 : ∀ x ∈ b, isB x) (h2 : ∀ x ∈ d, isB x) :
    PtTx (E : Int) (G : Int) ([c] ++ [46] ++ b ++ [46] ++ d) (bv ([c] ++ b ++ d)) := by
  have e1 : pw ((E : Int) + G) = 2 ^ E * 2 ^ G := by rw [pw_add _ _ (by omega) (by omega), pw_two, pw_two]
  obtain ⟨b0, b1⟩ := bv_all b h1
  obtain ⟨d0, d1⟩ := bv_all d h2
  obtain ⟨c0, c1⟩ := bv_all [c] (fun x hx => by rw [List.mem_singleton.1 hx]; exact hc)
  have B1 := btT_bv b h1 0
  have D1 := btT_bv d h2 0
  have C1 := btT_bv [c] (fun x hx => by rw [List.mem_singleton.1 hx]; exact hc) 0
  rw [hb] at b1 B1
  rw [hd] at d1 D1
  rw [List.length_singleton] at c1 C1
  simp only [Int.zero_mul, Int.zero_add] at B1 D1 C1
  have P : bv ([c] ++ b ++ d) = (bv [c] * 2 ^ E + bv b) * 2 ^ G + bv d := by rw [bv_append, bv_append, hb, hd]
  unfold PtTx fmTx
  rw [P, e1, pw_two G, Int.toNat_natCast, Int.toNat_natCast]
  have a0 : (0 : Int) < 2 ^ E := Int.pow_pos (by decide)
  have g0 : (0 : Int) < 2 ^ G := Int.pow_pos (by decide)
  generalize (2 : Int) ^ E = A at *
  generalize (2 : Int) ^ G = B at *
  generalize bv [c] = x at *
  generalize bv b = y at *
  generalize bv d = z at *
  have ab : 0 < A * B := Int.mul_pos a0 g0
  have yz : y * B + z < A * B := by
    have : y * B ≤ (A - 1) * B := Int.mul_le_mul_of_nonneg_right (by omega) (by omega)
    rw [Int.sub_mul] at this; omega
  have yz0 : 0 ≤ y * B + z := by have := Int.mul_nonneg b0 (Int.le_of_lt g0); omega
  have ex : (x * A + y) * B + z = x * (A * B) + (y * B + z) := by rw [Int.add_mul, Int.mul_assoc]; omega
  have q1 : ((x * A + y) * B + z) / (A * B) = x := by rw [ex]; exact bv_place _ _ _ ab yz0 yz
  have q2 : ((x * A + y) * B + z) % (A * B) = y * B + z := by
    rw [ex, Int.add_comm, Int.add_mul_emod_self_right, Int.emod_eq_of_lt yz0 yz]
  have q3 : ((x * A + y) * B + z) % B = z := by
    rw [Int.add_comm, Int.add_mul_emod_self_right, Int.emod_eq_of_lt d0 d1]
  have q4 : (y * B + z) / B = y := bv_place _ _ _ g0 d0 d1
  have x1 : x ≤ 1 := by have : (2 : Int) ^ 1 = 2 := rfl; omega
  have xm : x * (A * B) ≤ 1 * (A * B) := Int.mul_le_mul_of_nonneg_right x1 (by omega)
  have x2 : 0 ≤ x * (A * B) := Int.mul_nonneg c0 (Int.le_of_lt ab)
  refine ⟨by omega, by omega, ?_⟩
  rw [q1, q2, q3, q4, C1, B1, D1]

/-- What the bits of any text come to, all other signs left out. -/
def mvS (a : Int) (c : UInt8) : Int := if c.toNat = 48 ∨ c.toNat = 49 then 2 * a + ((c.toNat : Int) - 48) else a
def mv (l : List UInt8) : Int := l.foldl mvS 0
theorem mv_snoc (l : List UInt8) (c : UInt8) : mv (l ++ [c]) = mvS (mv l) c := by unfold mv; rw [List.foldl_append]; rfl
theorem mv_take (l : List UInt8) : ∀ k, k ≤ l.length → 0 ≤ mv (l.take k) ∧ mv (l.take k) < 2 ^ k := by
  intro k
  induction k with
  | zero => intro _; simp [mv]
  | succ k ih =>
    intro hk
    obtain ⟨i1, i2⟩ := ih (by omega)
    rw [List.take_add_one, List.getElem?_eq_getElem (by omega)]
    simp only [Option.toList_some]
    rw [mv_snoc, mvS, Int.pow_succ]
    split <;> omega
theorem mv_bits (l : List UInt8) (h : ∀ c ∈ l, isB c) : ∀ a, l.foldl mvS a = l.foldl bvS a := by
  induction l with
  | nil => intro a; rfl
  | cons c l ih =>
    intro a
    have hc := h c (List.mem_cons_self ..)
    show l.foldl mvS (mvS a c) = l.foldl bvS (bvS a c)
    rw [ih (fun c h2 => h c (List.mem_cons_of_mem _ h2))]
    unfold mvS isB at *
    rw [if_pos hc]; rfl
theorem mv_tx (E G : Nat) (p : Int) (p0 : 0 ≤ p) (p1 : p < 2 * pw ((E : Int) + G)) : mv (fmTx (E : Int) (G : Int) p) = p := by
  have h := pt_bits E G p p0 p1
  have e1 := btT_bits (p / pw ((E : Int) + G)) 1
  have e2 := btT_bits (p % pw ((E : Int) + G) / pw (G : Int)) E
  have e3 := btT_bits (p % pw (G : Int)) G
  unfold mv fmTx
  rw [Int.toNat_natCast, Int.toNat_natCast]
  unfold bv at h
  simp only [List.foldl_append, List.foldl_cons, List.foldl_nil] at h ⊢
  have d : ∀ a, mvS a 46 = a := fun a => if_neg (by decide)
  rw [mv_bits _ e1, d, mv_bits _ e2, d, mv_bits _ e3]
  exact h
theorem fmTx_length (E G : Nat) (p : Int) : (fmTx (E : Int) (G : Int) p).length = 3 + E + G := by
  unfold fmTx
  rw [Int.toNat_natCast, Int.toNat_natCast]
  simp only [List.length_append, btT_length, List.length_cons, List.length_nil]
  omega

theorem pt_split (l : List UInt8) (E G : Nat) (hl : l.length = 3 + E + G) (h1 : l[1]? = some 46) (h2 : l[2 + E]? = some 46) :
    l = l.take 1 ++ [46] ++ (l.drop 2).take E ++ [46] ++ l.drop (3 + E) := by
  have a1 : l.drop 1 = 46 :: l.drop 2 := by
    rw [List.drop_eq_getElem_cons (by omega)]
    rw [List.getElem?_eq_getElem (by omega)] at h1
    rw [Option.some.inj h1]
  have a2 : l.drop (2 + E) = 46 :: l.drop (3 + E) := by
    rw [List.drop_eq_getElem_cons (by omega)]
    rw [List.getElem?_eq_getElem (by omega)] at h2
    rw [Option.some.inj h2, show 2 + E + 1 = 3 + E by omega]
  have a3 : l.drop 2 = (l.drop 2).take E ++ l.drop (2 + E) := by
    have := (List.take_append_drop E (l.drop 2)).symm
    rwa [List.drop_drop] at this
  have a4 : l = l.take 1 ++ l.drop 1 := (List.take_append_drop 1 l).symm
  rw [a2] at a3
  rw [a1, a3] at a4
  refine a4.trans ?_
  simp
theorem pt_one (l : List UInt8) (h : 1 ≤ l.length) : ∃ c, l.take 1 = [c] := by
  cases l with
  | nil => simp at h
  | cons c l => exact ⟨c, by simp⟩

theorem pt_form (x : UInt8) (b c : List UInt8) (E : Nat) (hb : b.length = E) : ([x] ++ [46] ++ b ++ [46] ++ c)[1]? = some 46 ∧ ([x] ++ [46] ++ b ++ [46] ++ c)[2 + E]? = some 46 ∧ ([x] ++ [46] ++ b ++ [46] ++ c).take 1 = [x] ∧ (([x] ++ [46] ++ b ++ [46] ++ c).drop 2).take E = b ∧ ([x] ++ [46] ++ b ++ [46] ++ c).drop (3 + E) = c := by
  subst hb
  have e : [x] ++ [46] ++ b ++ [46] ++ c = x :: 46 :: (b ++ 46 :: c) := by simp
  rw [e]
  refine ⟨rfl, ?_, rfl, ?_, ?_⟩
  · rw [show 2 + b.length = b.length + 1 + 1 by omega, List.getElem?_cons_succ, List.getElem?_cons_succ, List.getElem?_append_right (Nat.le_refl _), Nat.sub_self]
    rfl
  · show (b ++ 46 :: c).take b.length = b
    exact List.take_left' rfl
  · rw [show 3 + b.length = (b.length + 1) + 1 + 1 by omega]
    show (b ++ 46 :: c).drop (b.length + 1) = c
    rw [List.drop_append, List.drop_of_length_le (by omega), show b.length + 1 - b.length = 1 by omega]
    rfl

end Go.Proofs.YtfgbndjhaiigbabDoor
