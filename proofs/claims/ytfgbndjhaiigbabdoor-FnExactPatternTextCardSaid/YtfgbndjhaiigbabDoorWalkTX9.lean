/-
  A number's bits as a text, by the program.
-/
import Derived.Test.YtfgbndjhaiigbabDoorRows
import Derived.Test.YtfgbndjhaiigbabDoorPlain
import Derived.Test.YtfgbndjhaiigbabDoorBelow
import Derived.Test.YtfgbndjhaiigbabDoorNear
import Derived.Test.YtfgbndjhaiigbabDoorDy
import Derived.Test.YtfgbndjhaiigbabDoorDyC
import Derived.Test.YtfgbndjhaiigbabDoorWalkA
import Derived.Test.YtfgbndjhaiigbabDoorWalkDA
import Derived.Test.YtfgbndjhaiigbabDoorWalkTX1
import Derived.Test.YtfgbndjhaiigbabDoorTxt
import Derived.Test.YtfgbndjhaiigbabDoorBit
import Derived.Test.YtfgbndjhaiigbabDoorWalkTX6
import Derived.Test.YtfgbndjhaiigbabDoorWalkC
import Derived.Test.YtfgbndjhaiigbabDoorWalkD
import Derived.Test.YtfgbndjhaiigbabDoorWalkE
import Derived.Test.YtfgbndjhaiigbabDoorWalkF
import Derived.Test.YtfgbndjhaiigbabDoorWalkTZ
import Derived.Test.YtfgbndjhaiigbabDoorWalkTX4
import Derived.Test.YtfgbndjhaiigbabDoorLen
import Derived.WalkKit
import Derived.LoopTactic
import Derived.Laws.Bits64b
import Derived.WalkSpells
import Derived.WalkLawsBesides
import Derived.StillTactics
import Derived.Laws.Pointers
import Derived.Deep.RegionHeld3
import Derived.Deep.QuietTactic
import Derived.BigQuiet
import Derived.Outline
import Derived.Lib.Hide
import Derived.RowKit3
import Derived.Carry
import Derived.IntWalk
import Derived.Lib.ItoaNum
import Derived.Laws.BytesString
namespace Go.Proofs.YtfgbndjhaiigbabDoor
open Go Go.RowKit
set_option linter.unusedSimpArgs false
set_option linter.unusedVariables false

set_option maxRecDepth 100000

/-- A slice of bytes as a string. -/
theorem foldl_push (l : List UInt8) : ∀ b : ByteArray, (l.map (fun c => (c.toNat : Int))).foldl (fun r n => r.push (UInt8.ofNat n.toNat)) b = ⟨(b.data.toList ++ l).toArray⟩ := by
  induction l with
  | nil => intro b; simp
  | cons c l ih =>
    intro b
    simp only [List.map_cons, List.foldl_cons]
    rw [ih]
    congr 1
    simp [ByteArray.push]
theorem bytes_str (W : World) (g n cap : Nat) (l : List UInt8) (h : ∀ j c, l[j]? = some c → W.cell? ⟨g, n + j, none⟩ = some (.int .u8 (c.toNat : Int))) :
    (convert 116 9 (.slice (some ⟨g, n, none⟩) l.length cap)).run Tryd.prog W = .ok (.string ⟨l.toArray⟩) W := by
  rw [run_convert_bytes_string W _ _ 5 _ _ _ Tryd.underlying116 Tryd.underlying5 Tryd.underlying9]
  rw [run_bytesToString W ⟨g, n, none⟩ l.length cap (l.map (fun c => (c.toNat : Int)))]
  · rw [foldl_push]; rfl
  · have := run_loadCells_list (P := Tryd.prog) W ⟨g, n, none⟩ (l.map (fun c => Value.int .u8 (c.toNat : Int))) (fun j v hv => by
      rw [List.getElem?_map] at hv
      obtain ⟨c, hc, rfl⟩ := Option.map_eq_some_iff.1 hv
      have := h j c hc
      have ea : (⟨g, n, none⟩ : Addr).add j = ⟨g, n + j, none⟩ := by
        unfold Addr.add
        split
        · rename_i h0; subst h0; rfl
        · rfl
      rw [ea]
      exact this)
    rw [List.length_map] at this
    rw [this, List.map_map]
    rfl

theorem tz_two (w : World) (hT : TW w) : Calls Tryd.prog 140 #[.int .u64 2] w fun e w' => e = .returned (.int .i64 1) ∧ w = w' := by
  have := tz_nat 2 (by decide) (by decide) w hT
  exact this

theorem pow2_two (w : World) : Calls Tryd.prog 184 #[.int .i64 2] w fun e w' => e = .returned (.bool true) ∧ w = w' := by
  go_enter Tryd.func184, Tryd.ntmps184
  go_wp2
  go_ret
  exact ⟨by first | rfl | (simp; done) | decide, rfl⟩

theorem btT_step (x : Int) (x0 : 0 ≤ x) (k : Nat) : btT x (k + 1) = UInt8.ofNat (48 + (x / 2 ^ k % 2).toNat) :: btT x k := by rw [btT, pw_two]
theorem get_zero {c v : UInt8} {l : List UInt8} {j : Nat} (h : (v :: l)[j]? = some c) : (j = 0 ∧ c = v) ∨ ∃ i, j = i + 1 ∧ l[i]? = some c := by
  cases j with
  | zero => left; exact ⟨rfl, (Option.some.inj h).symm⟩
  | succ i => right; exact ⟨i, rfl, h⟩
theorem set_row {w : World} {b n : Nat} {k : Nat} {x : Int} {u : Value} (x0 : 0 ≤ x) (h : ∀ j c, (btT x k)[j]? = some c → w.cell? ⟨b, n + 1 + j, none⟩ = some (.int .u8 (c.toNat : Int))) (hu : w.cell? ⟨b, n, none⟩ = some u) :
    ∀ j c, (btT x (k + 1))[j]? = some c → (w.setCell ⟨b, n, none⟩ (.int .u8 (48 + x / 2 ^ k % 2))).cell? ⟨b, n + j, none⟩ = some (.int .u8 (c.toNat : Int)) := by
  intro j c hc
  rw [btT_step x x0] at hc
  rcases get_zero hc with ⟨rfl, rfl⟩ | ⟨i, rfl, hi⟩
  · rw [Nat.add_zero, World.cell?_setCell_same _ _ _ hu]
    have d0 : 0 ≤ x / 2 ^ k % 2 := Int.emod_nonneg _ (by omega)
    have d1 : x / 2 ^ k % 2 < 2 := Int.emod_lt_of_pos _ (by omega)
    rw [bit_nat d0 d1]
    congr 2
    omega
  · rw [World.cell?_setCell_other _ _ _ _ (by intro e; injection e with _ e2 _; omega)]
    rw [show n + (i + 1) = n + 1 + i by omega]
    exact h i c hi
theorem set_any {w : World} {b n : Nat} {v u : Value} (hu : w.cell? ⟨b, n, none⟩ = some u) (h : ∀ j, j < 65 → ∃ o, w.cell? ⟨b, j, none⟩ = some o) : ∀ j, j < 65 → ∃ o, (w.setCell ⟨b, n, none⟩ v).cell? ⟨b, j, none⟩ = some o := by
  intro j hj
  by_cases e : j = n
  · subst e; exact ⟨v, World.cell?_setCell_same _ _ _ hu⟩
  · obtain ⟨o, ho⟩ := h j hj
    exact ⟨o, by rw [World.cell?_setCell_other _ _ _ _ (by intro q; injection q with _ e2 _; omega)]; exact ho⟩

/-- How many bits a number has, at least one. -/
def NbP (x : Int) (n : Nat) : Prop := 1 ≤ n ∧ n ≤ 41 ∧ x < 2 ^ n ∧ (n = 1 ∨ 2 ^ (n - 1) ≤ x)
theorem two_pow_le {a b : Nat} (h : a ≤ b) : (2 : Int) ^ a ≤ 2 ^ b := by
  have := Nat.pow_le_pow_right (n := 2) (by decide) h
  exact_mod_cast this
theorem nb_le {x : Int} {n k : Nat} (h : NbP x n) (k1 : 1 ≤ k) (hx : x < 2 ^ k) : n ≤ k := by
  obtain ⟨a, _, b, c⟩ := h
  rcases c with c | c
  · omega
  · apply Nat.le_of_not_lt
    intro g
    have := two_pow_le (show k ≤ n - 1 by omega)
    omega
/-- Zeros ahead of a number's bits. -/
theorem btT_pad {x : Int} (x0 : 0 ≤ x) (n : Nat) (hx : x < 2 ^ n) : ∀ d, btT x (n + d) = Lib.repeatL [48] d ++ btT x n
  | 0 => rfl
  | d + 1 => by
    have h : x / 2 ^ (n + d) = 0 := Int.ediv_eq_zero_of_lt x0 (by have := two_pow_le (show n ≤ n + d by omega); omega)
    rw [← Nat.add_assoc, btT_step x x0, btT_pad x0 n hx d, h]
    rfl
theorem two_half {x : Int} {k : Nat} (h : 2 ≤ x / 2 ^ k) : 2 ^ (k + 1) ≤ x := by
  have p : (0 : Int) < 2 ^ k := Int.pow_pos (by decide)
  rw [Int.pow_succ, Int.mul_comm]
  exact (Int.le_ediv_iff_mul_le p).1 h
theorem two_less {x : Int} {k : Nat} (h : x / 2 ^ k < 2) : x < 2 ^ (k + 1) := by
  have p : (0 : Int) < 2 ^ k := Int.pow_pos (by decide)
  rw [Int.pow_succ, Int.mul_comm]
  exact (Int.ediv_lt_iff_lt_mul p).1 h
theorem drop_bit (x : Int) (k : Nat) : x / 2 ^ k / 2 = x / 2 ^ (k + 1) := by rw [Int.ediv_ediv_of_nonneg (Int.le_of_lt (Int.pow_pos (by decide))), Int.pow_succ]

set_option maxHeartbeats 3200000 in
theorem formatBits_two (x : Int) (x0 : 0 ≤ x) (x1 : x < 1099511627776) (w : World) (hT : TW w) : Calls Tryd.prog 169 #[.slice none 0 0, .int .u64 x, .int .i64 2, .bool false, .bool false] w fun rv w' => ∃ n : Nat, NbP x n ∧ rv = .returned (.tuple #[.slice none 0 0, .string ⟨(btT x n).toArray⟩]) ∧ Ext w w' := by
  have IX : ∀ b : Int, 0 ≤ b → b < 2 → ∀ w, (Instr.index 9 (.string ⟨#[48, 49, 50, 51, 52, 53, 54, 55, 56, 57, 97, 98, 99, 100, 101, 102, 103, 104, 105, 106, 107, 108, 109, 110, 111, 112, 113, 114, 115, 116, 117, 118, 119, 120, 121, 122]⟩) (.int .u64 b)).run Tryd.prog w = .ok (.int .u8 (48 + b)) w := fun b b0 b1 w => by
    rcases (show b = 0 ∨ b = 1 by omega) with rfl | rfl <;> rfl
  go_enter Tryd.func169, Tryd.ntmps169
  go_wp2_with (first | (go_at_call 184; refine (pow2_two _).mono ?_; rintro rv w1 ⟨rfl, rfl⟩) | (go_at_call 140; refine (tz_two _ (hT.ext (by repeat (first | exact Ext.refl _ | with_reducible assumption | apply Ext.alloc | apply Ext.drew | apply Ext.drewN | (refine Ext.setRow ?_ (by first | (simp; done) | (simp; omega) | omega) _) | (refine Ext.setCell ?_ (by first | (simp; done) | (simp; omega) | omega) _) | (refine Ext.trans ?_ (by with_reducible assumption)))))).mono ?_; rintro rv w1 ⟨rfl, rfl⟩))
  go_loopw [1, 13] (fun s1 s13 wr => ∃ k n : Nat, k + n = 65 ∧ k ≤ 40 ∧ s1 = .int .u64 (x / 2 ^ k) ∧ s13 = .int .i64 (n : Int) ∧ (k = 0 ∨ 2 ≤ x / 2 ^ (k - 1)) ∧ (∀ j c, (btT x k)[j]? = some c → wr.cell? ⟨w.heap.size, n + j, none⟩ = some (.int .u8 (c.toNat : Int))) ∧ (∀ j, j < 65 → ∃ o, wr.cell? ⟨w.heap.size, j, none⟩ = some o) ∧ (∀ j, wr.frozen? ⟨w.heap.size, j, none⟩ = false) ∧ w.heap.size < wr.heap.size ∧ Ext w wr) (fun x _ _ => (intOf x).toNat)
  case atStart =>
    refine ⟨0, 65, rfl, by omega, by simp, rfl, .inl rfl, (by intro j c h; simp [btT] at h), ?_, ?_, by first | (simp; done) | (simp; omega), (by repeat (first | exact Ext.refl _ | with_reducible assumption | apply Ext.alloc | apply Ext.drew | apply Ext.drewN | (refine Ext.setRow ?_ (by first | (simp; done) | (simp; omega) | omega) _) | (refine Ext.setCell ?_ (by first | (simp; done) | (simp; omega) | omega) _) | (refine Ext.trans ?_ (by with_reducible assumption))))⟩
    · intro j hj
      have hzc : Tryd.zeroCells179.size = 65 := by kernel_rfl
      exact ⟨Tryd.zeroCells179[j]'(by omega), by simp [go_sem]⟩
    · intro j
      simp [go_sem]
  case round =>
    obtain ⟨k, n, kn, k40, rfl, rfl, hk2, hc, ho, hz, hs, hx⟩ := hrel
    have x2 : 0 ≤ x / 2 ^ k := Int.ediv_nonneg x0 (Int.le_of_lt (Int.pow_pos (by decide)))
    obtain ⟨m, rfl⟩ : ∃ m, n = m + 1 := ⟨n - 1, by omega⟩
    obtain ⟨u, hu⟩ := ho m (by omega)
    have hzm := hz m
    have S1 := Lib.hid (set_row x0 hc hu)
    have S2 := Lib.hid (fun v => set_any (v := v) hu ho)
    have kw : IntKind.i64.wrap (((m + 1 : Nat) : Int) - 1) = (m : Int) := by rw [show ((m + 1 : Nat) : Int) - 1 = (m : Int) by omega]; exact IntWalk.i64_in _ (by omega)
    have e1 : ((m + 1 : Nat) : Int) - 1 = (m : Int) := by omega
    have dr := drop_bit x k
    have d0 : 0 ≤ x / 2 ^ k % 2 := Int.emod_nonneg _ (by omega)
    have d1 : x / 2 ^ k % 2 < 2 := Int.emod_lt_of_pos _ (by omega)
    have HZ := Lib.hid hz
    have X1 : x / 2 ^ k ≤ x := Int.ediv_le_self _ x0
    have kb : bits .and .u64 (x / 2 ^ k) 1 = x / 2 ^ k % 2 := by
      have := bits_mask .u64 64 (by decide) (fun x h0 h1 => by rw [IntKind.wrap_u64]; omega) 1 (by decide) (x / 2 ^ k) x2 (by omega)
      exact this
    have hal : Tryd.prog.arrayLen 179 = 65 := by kernel_rfl
    have q65 : (m : Int) ≤ 65 := by omega
    have q66 : ¬ (65 : Nat) = m := by omega
    clear hc ho hz
    generalize hX : x / 2 ^ k = X at *
    generalize hD : X % 2 = D at *
    by_cases h2 : X < 2
    · have q : ¬ 2 ≤ X := by omega
      have eD : D = X := by omega
      rw [eD] at S1
      have cv := bytes_str (wr.setCell ⟨w.heap.size, m, none⟩ (.int .u8 (48 + X))) w.heap.size m (65 - m) (btT x (k + 1)) S1.out
      rw [btT_length, show k + 1 = 65 - m by omega] at cv
      have nb : NbP x (65 - m) := ⟨by omega, by omega, by rw [show 65 - m = k + 1 by omega]; exact two_less (by rw [hX]; exact h2), by
        by_cases k0 : k = 0
        · left; omega
        · right
          rw [show 65 - m - 1 = k - 1 + 1 by omega]
          exact two_half (hk2.resolve_left k0)⟩
      have NB := Lib.hid nb
      clear nb
      obtain ⟨l, hl⟩ : ∃ l, btT x (65 - m) = l := ⟨_, rfl⟩
      rw [hl] at cv
      have HL := Lib.hid hl
      clear hl
      go_wp2
      go_ret2
      exact ⟨65 - m, NB.out, by rw [HL.out]; rfl, (by repeat (first | exact Ext.refl _ | with_reducible assumption | apply Ext.alloc | apply Ext.drew | apply Ext.drewN | (refine Ext.setRow ?_ (by first | (simp; done) | (simp; omega) | omega) _) | (refine Ext.setCell ?_ (by first | (simp; done) | (simp; omega) | omega) _) | (refine Ext.trans ?_ (by with_reducible assumption))))⟩
    · have q : 2 ≤ X := by omega
      have h3 := two_half (x := x) (k := k) (by rw [hX]; exact q)
      have k39 : k + 1 ≤ 40 := by
        apply Nat.le_of_not_lt
        intro g
        have := two_pow_le (show 40 ≤ k + 1 by omega)
        have e40 : (2 : Int) ^ 40 = 1099511627776 := by decide
        omega
      clear h3
      go_wp2
      go_roundw
      all_goals first | (simp [intOf]; done) | (simp [intOf]; omega) | skip
      all_goals exact ⟨k + 1, m, by omega, by omega, rfl, rfl, .inr (by rw [Nat.add_sub_cancel, hX]; exact q), S1.out, S2.out _, fun j => by rw [World.frozen?_setCell]; exact HZ.out j, by simp [World.setCell]; omega, (by repeat (first | exact Ext.refl _ | with_reducible assumption | apply Ext.alloc | apply Ext.drew | apply Ext.drewN | (refine Ext.setRow ?_ (by first | (simp; done) | (simp; omega) | omega) _) | (refine Ext.setCell ?_ (by first | (simp; done) | (simp; omega) | omega) _) | (refine Ext.trans ?_ (by with_reducible assumption))))⟩

set_option maxHeartbeats 1600000 in
theorem fmtInt_in (x : Int) (x0 : 0 ≤ x) (x1 : x < 1099511627776) (w : World) (hT : TW w) : Calls Tryd.prog 149 #[.int .i64 x, .int .i64 2] w fun rv w' => ∃ n : Nat, NbP x n ∧ rv = .returned (.string ⟨(btT x n).toArray⟩) ∧ Ext w w' := by
  have kw : IntKind.u64.wrap x = x := by rw [IntKind.wrap_u64]; omega
  have q : ¬ x < 0 := by omega
  go_enter Tryd.func149, Tryd.ntmps149
  go_wp2_with (go_at_call 169; refine (formatBits_two x x0 x1 _ (hT.ext (by repeat (first | exact Ext.refl _ | with_reducible assumption | apply Ext.alloc | apply Ext.drew | apply Ext.drewN | (refine Ext.setRow ?_ (by first | (simp; done) | (simp; omega) | omega) _) | (refine Ext.setCell ?_ (by first | (simp; done) | (simp; omega) | omega) _) | (refine Ext.trans ?_ (by with_reducible assumption)))))).mono ?_; rintro rv w1 ⟨n, hn, rfl, hb⟩; have HN := Lib.hid hn; clear hn)
  go_ret
  exact ⟨n, HN.out, rfl, (by repeat (first | exact Ext.refl _ | with_reducible assumption | apply Ext.alloc | apply Ext.drew | apply Ext.drewN | (refine Ext.setRow ?_ (by first | (simp; done) | (simp; omega) | omega) _) | (refine Ext.setCell ?_ (by first | (simp; done) | (simp; omega) | omega) _) | (refine Ext.trans ?_ (by with_reducible assumption))))⟩

theorem fmtInt_two (x : Int) (x0 : 0 ≤ x) (x1 : x < 1099511627776) (w : World) (hT : TW w) : Calls Tryd.prog 129 #[.int .i64 x, .int .i64 2] w fun rv w' => ∃ n : Nat, NbP x n ∧ rv = .returned (.string ⟨(btT x n).toArray⟩) ∧ Ext w w' := by
  go_enter Tryd.func129, Tryd.ntmps129
  go_wp2_with (go_at_call 149; refine (fmtInt_in x x0 x1 _ (hT.ext (by repeat (first | exact Ext.refl _ | with_reducible assumption | apply Ext.alloc | apply Ext.drew | apply Ext.drewN | (refine Ext.setRow ?_ (by first | (simp; done) | (simp; omega) | omega) _) | (refine Ext.setCell ?_ (by first | (simp; done) | (simp; omega) | omega) _) | (refine Ext.trans ?_ (by with_reducible assumption)))))).mono ?_; rintro rv w1 ⟨n, hn, rfl, hb⟩; have HN := Lib.hid hn; clear hn)
  go_ret
  exact ⟨n, HN.out, rfl, (by repeat (first | exact Ext.refl _ | with_reducible assumption | apply Ext.alloc | apply Ext.drew | apply Ext.drewN | (refine Ext.setRow ?_ (by first | (simp; done) | (simp; omega) | omega) _) | (refine Ext.setCell ?_ (by first | (simp; done) | (simp; omega) | omega) _) | (refine Ext.trans ?_ (by with_reducible assumption))))⟩

theorem repeat_any (s : ByteArray) (c : Nat) (hc : c ≤ 1000) (hs : s.size ≤ 1000) (w : World) : Calls Tryd.prog 130 #[.string s, .int .i64 (c : Int)] w fun rv w' => rv = .returned (.string ⟨(Lib.repeatL s.data.toList c).toArray⟩) ∧ Ext w w' :=
  (Tryd.strings_Repeat s c w (by omega) (by have := Nat.mul_le_mul hs hc; omega)).mono fun _ _ ⟨he, hw⟩ => ⟨he, hw⟩

set_option maxHeartbeats 1600000 in
theorem bitText_any (x : Int) (K : Nat) (x0 : 0 ≤ x) (k0 : 1 ≤ K) (k1 : K ≤ 20) (hx : x < 2 ^ K) (w : World) (hT : TW w) : Calls Tryd.prog 87 #[.int .i64 x, .int .i64 (K : Int)] w fun rv w' => rv = .returned (.string ⟨(btT x K).toArray⟩) ∧ Ext w w' := by
  have x1 : x < 1099511627776 := by
    have := two_pow_le (show K ≤ 40 by omega)
    have e40 : (2 : Int) ^ 40 = 1099511627776 := by decide
    omega
  go_enter Tryd.func87, Tryd.ntmps87
  go_wp2_with (go_at_call 129; refine (fmtInt_two x x0 x1 _ (hT.ext (by repeat (first | exact Ext.refl _ | with_reducible assumption | apply Ext.alloc | apply Ext.drew | apply Ext.drewN | (refine Ext.setRow ?_ (by first | (simp; done) | (simp; omega) | omega) _) | (refine Ext.setCell ?_ (by first | (simp; done) | (simp; omega) | omega) _) | (refine Ext.trans ?_ (by with_reducible assumption)))))).mono ?_; rintro rv w1 ⟨n, hn, rfl, hb⟩; have HN := Lib.hid hn; clear hn)
  have nk := nb_le HN.out k0 hx
  obtain ⟨d, rfl⟩ : ∃ d, K = n + d := ⟨K - n, by omega⟩
  have ln := btT_length x n
  have pad := btT_pad x0 n HN.out.2.2.1 d
  have RC := Lib.hid (fun w => repeat_any ⟨#[48]⟩ d (by omega) (by decide) w)
  have lr : (Lib.repeatL [48] d).length = d := by rw [Lib.repeatL_length]; simp
  have n41 := HN.out.2.1
  obtain ⟨l, hl⟩ : ∃ l, btT x n = l := ⟨_, rfl⟩
  rw [hl] at pad ln ⊢
  have HP := Lib.hid pad
  clear pad hx x1 nk hl
  have kd : IntKind.i64.wrap (((n + d : Nat) : Int) - (l.length : Int)) = (d : Int) := by rw [ln, show ((n + d : Nat) : Int) - (n : Int) = (d : Int) by omega]; exact IntWalk.i64_in _ (by omega)
  have kd2 : wrap64 (((n + d : Nat) : Int) - (l.length : Int)) = (d : Int) := by rw [ln, show ((n + d : Nat) : Int) - (n : Int) = (d : Int) by omega]; exact IntWalk.wrap64_in _ (by omega)
  have e1 : ((⟨#[48]⟩ : ByteArray).data.toList) = [48] := rfl
  rw [e1] at RC
  obtain ⟨r, hr⟩ : ∃ r, Lib.repeatL [48] d = r := ⟨_, rfl⟩
  rw [hr] at RC lr
  have HP2 : RowKit.Hid (btT x (n + d) = r ++ l) := Lib.hid (by rw [HP.out, hr])
  have c1 : ¬ 9223372036854775807 < r.length + l.length := by omega
  rw [kd2]
  clear e1 hr
  go_wp2_with (go_at_call 130; refine (RC.out _).mono ?_; rintro rv w2 ⟨rfl, hb2⟩)
  go_ret
  exact ⟨by rw [HP2.out, ← add_str]; rfl, (by repeat (first | exact Ext.refl _ | with_reducible assumption | apply Ext.alloc | apply Ext.drew | apply Ext.drewN | (refine Ext.setRow ?_ (by first | (simp; done) | (simp; omega) | omega) _) | (refine Ext.setCell ?_ (by first | (simp; done) | (simp; omega) | omega) _) | (refine Ext.trans ?_ (by with_reducible assumption))))⟩

theorem join3 (bk c : Nat) (x y z : List UInt8) (w : World) (h0 : w.cell? ⟨bk, 0, none⟩ = some (.string ⟨x.toArray⟩)) (h1 : w.cell? ⟨bk, 1, none⟩ = some (.string ⟨y.toArray⟩)) (h2 : w.cell? ⟨bk, 2, none⟩ = some (.string ⟨z.toArray⟩)) (hbk : bk < w.heap.size) (hc : 3 ≤ c) (hl : x.length + y.length + z.length ≤ 1000) :
    Calls Tryd.prog 86 #[.slice (some ⟨bk, 0, none⟩) 3 c, .string ⟨#[46]⟩] w fun rv w' => rv = .returned (.string ⟨(x ++ [46] ++ y ++ [46] ++ z).toArray⟩) ∧ Ext w w' := by
  have e1 : Lib.join ([(⟨x.toArray⟩ : ByteArray), ⟨y.toArray⟩, ⟨z.toArray⟩].map (·.data.toList)) (⟨#[46]⟩ : ByteArray).data.toList = x ++ [46] ++ y ++ [46] ++ z := by
    show Lib.join [x, y, z] [46] = _
    rw [Lib.join_cons]
    simp [Lib.joinTail]
  have J := Tryd.strings_Join bk 0 c [⟨x.toArray⟩, ⟨y.toArray⟩, ⟨z.toArray⟩] ⟨#[46]⟩ w (fun j v hv => by
    rcases (show j = 0 ∨ j = 1 ∨ j = 2 ∨ 3 ≤ j by omega) with rfl | rfl | rfl | hj
    · rw [← Option.some.inj hv]; exact h0
    · rw [← Option.some.inj hv]; exact h1
    · rw [← Option.some.inj hv]; exact h2
    · rw [List.getElem?_eq_none (by simpa using hj)] at hv; cases hv) hbk (by simp) (by simpa using hc) (by rw [e1]; simp; omega)
  rw [e1] at J
  exact J.mono fun _ _ ⟨he, hw⟩ => ⟨he, hw⟩

theorem iPatternText_no (e f p : Int) (hg : patB e f p = false) (w : World) : Calls Tryd.prog 35 #[fmt e f, .int .i64 p] w fun rv w' => rv = .returned (.tuple #[.string ⟨#[]⟩, .bool false]) ∧ Ext w w' := by
  have IP := fun w => isPattern_any e f p w
  rw [hg] at IP
  have IP := Lib.hid IP
  clear hg
  go_enter Tryd.func35, Tryd.ntmps35
  go_wp2_with (go_at_call 84; refine (IP.out _).mono ?_; rintro rv w1 ⟨rfl, hb⟩; have ns : w.heap.size < w1.heap.size := hb.lt (by first | with_reducible assumption | omega | (simp; done) | (simp; omega)); have n0 : w1.cell? ⟨w.heap.size, 0, none⟩ = some (.int .i64 e) := (hb.cells _ _ (by first | with_reducible assumption | omega | (simp; done) | (simp; omega))).trans (by first | with_reducible assumption | (simp; done) | (simp; with_reducible assumption) | (rw [cell_alloc_before _ _ _ _ (by omega)]; with_reducible assumption) | (simp [go_sem, *]; done)); have n1 : w1.cell? ⟨w.heap.size, 1, none⟩ = some (.int .i64 f) := (hb.cells _ _ (by first | with_reducible assumption | omega | (simp; done) | (simp; omega))).trans (by first | with_reducible assumption | (simp; done) | (simp; with_reducible assumption) | (rw [cell_alloc_before _ _ _ _ (by omega)]; with_reducible assumption) | (simp [go_sem, *]; done)); (first | (have nx := Ext.trans hx hb; clear hx) | (have nx := Ext.trans (hx.alloc _) hb; clear hx) | (have nx := Ext.trans hx.drew hb; clear hx) | have nx := hb); clear hb; try clear hs; try clear g0; try clear g1; have hx := nx; clear nx; have hs := ns; clear ns; have g0 := n0; clear n0; have g1 := n1; clear n1)
  go_ret2
  exact ⟨rfl, (by repeat (first | exact Ext.refl _ | with_reducible assumption | apply Ext.alloc | apply Ext.drew | apply Ext.drewN | (refine Ext.setRow ?_ (by first | (simp; done) | (simp; omega) | omega) _) | (refine Ext.setCell ?_ (by first | (simp; done) | (simp; omega) | omega) _) | (refine Ext.trans ?_ (by with_reducible assumption))))⟩

theorem sPatternText_no (e f p : Int) (hg : patB e f p = false) (w : World) : Calls Tryd.prog 34 #[fmt e f, .int .i64 p] w fun rv w' => rv = .returned (.tuple #[.string ⟨#[]⟩, .bool false]) ∧ Ext w w' := by
  have IP := fun w => fmIs_any e f p w
  rw [hg] at IP
  have IP := Lib.hid IP
  clear hg
  go_enter Tryd.func34, Tryd.ntmps34
  go_wp2_with (go_at_call 82; refine (IP.out _).mono ?_; rintro rv w1 ⟨rfl, hb⟩; have ns : w.heap.size < w1.heap.size := hb.lt (by first | with_reducible assumption | omega | (simp; done) | (simp; omega)); have n0 : w1.cell? ⟨w.heap.size, 0, none⟩ = some (.int .i64 e) := (hb.cells _ _ (by first | with_reducible assumption | omega | (simp; done) | (simp; omega))).trans (by first | with_reducible assumption | (simp; done) | (simp; with_reducible assumption) | (rw [cell_alloc_before _ _ _ _ (by omega)]; with_reducible assumption) | (simp [go_sem, *]; done)); have n1 : w1.cell? ⟨w.heap.size, 1, none⟩ = some (.int .i64 f) := (hb.cells _ _ (by first | with_reducible assumption | omega | (simp; done) | (simp; omega))).trans (by first | with_reducible assumption | (simp; done) | (simp; with_reducible assumption) | (rw [cell_alloc_before _ _ _ _ (by omega)]; with_reducible assumption) | (simp [go_sem, *]; done)); (first | (have nx := Ext.trans hx hb; clear hx) | (have nx := Ext.trans (hx.alloc _) hb; clear hx) | (have nx := Ext.trans hx.drew hb; clear hx) | have nx := hb); clear hb; try clear hs; try clear g0; try clear g1; have hx := nx; clear nx; have hs := ns; clear ns; have g0 := n0; clear n0; have g1 := n1; clear n1)
  go_ret2
  exact ⟨rfl, (by repeat (first | exact Ext.refl _ | with_reducible assumption | apply Ext.alloc | apply Ext.drew | apply Ext.drewN | (refine Ext.setRow ?_ (by first | (simp; done) | (simp; omega) | omega) _) | (refine Ext.setCell ?_ (by first | (simp; done) | (simp; omega) | omega) _) | (refine Ext.trans ?_ (by with_reducible assumption))))⟩

theorem sPatternText_yes (e f p : Int) (hg : patB e f p = true) (w : World) : Calls Tryd.prog 34 #[fmt e f, .int .i64 p] w fun rv w' => rv = .returned (.tuple #[.string ⟨(fmTx e f p).toArray⟩, .bool true]) ∧ Ext w w' := by
  have IP := fun w => fmIs_any e f p w
  rw [hg] at IP
  have IP := Lib.hid IP
  obtain ⟨h0, h1, h2⟩ := pat_iff.1 hg
  have FX := Lib.hid (fun w => fmText_any e f p h0 h1 h2 w)
  clear hg h0 h1 h2
  generalize fmTx e f p = tx at *
  go_enter Tryd.func34, Tryd.ntmps34
  go_wp2_with (first | (go_at_call 82; refine (IP.out _).mono ?_; rintro rv w1 ⟨rfl, hb⟩; have ns : w.heap.size < w1.heap.size := hb.lt (by first | with_reducible assumption | omega | (simp; done) | (simp; omega)); have n0 : w1.cell? ⟨w.heap.size, 0, none⟩ = some (.int .i64 e) := (hb.cells _ _ (by first | with_reducible assumption | omega | (simp; done) | (simp; omega))).trans (by first | with_reducible assumption | (simp; done) | (simp; with_reducible assumption) | (rw [cell_alloc_before _ _ _ _ (by omega)]; with_reducible assumption) | (simp [go_sem, *]; done)); have n1 : w1.cell? ⟨w.heap.size, 1, none⟩ = some (.int .i64 f) := (hb.cells _ _ (by first | with_reducible assumption | omega | (simp; done) | (simp; omega))).trans (by first | with_reducible assumption | (simp; done) | (simp; with_reducible assumption) | (rw [cell_alloc_before _ _ _ _ (by omega)]; with_reducible assumption) | (simp [go_sem, *]; done)); (first | (have nx := Ext.trans hx hb; clear hx) | (have nx := Ext.trans (hx.alloc _) hb; clear hx) | (have nx := Ext.trans hx.drew hb; clear hx) | have nx := hb); clear hb; try clear hs; try clear g0; try clear g1; have hx := nx; clear nx; have hs := ns; clear ns; have g0 := n0; clear n0; have g1 := n1; clear n1) | (go_at_call 83; refine (FX.out _).mono ?_; rintro rv w1 ⟨rfl, hb⟩; have ns : w.heap.size < w1.heap.size := hb.lt (by first | with_reducible assumption | omega | (simp; done) | (simp; omega)); have n0 : w1.cell? ⟨w.heap.size, 0, none⟩ = some (.int .i64 e) := (hb.cells _ _ (by first | with_reducible assumption | omega | (simp; done) | (simp; omega))).trans (by first | with_reducible assumption | (simp; done) | (simp; with_reducible assumption) | (rw [cell_alloc_before _ _ _ _ (by omega)]; with_reducible assumption) | (simp [go_sem, *]; done)); have n1 : w1.cell? ⟨w.heap.size, 1, none⟩ = some (.int .i64 f) := (hb.cells _ _ (by first | with_reducible assumption | omega | (simp; done) | (simp; omega))).trans (by first | with_reducible assumption | (simp; done) | (simp; with_reducible assumption) | (rw [cell_alloc_before _ _ _ _ (by omega)]; with_reducible assumption) | (simp [go_sem, *]; done)); (first | (have nx := Ext.trans hx hb; clear hx) | (have nx := Ext.trans (hx.alloc _) hb; clear hx) | (have nx := Ext.trans hx.drew hb; clear hx) | have nx := hb); clear hb; try clear hs; try clear g0; try clear g1; have hx := nx; clear nx; have hs := ns; clear ns; have g0 := n0; clear n0; have g1 := n1; clear n1))
  go_ret2
  exact ⟨rfl, (by repeat (first | exact Ext.refl _ | with_reducible assumption | apply Ext.alloc | apply Ext.drew | apply Ext.drewN | (refine Ext.setRow ?_ (by first | (simp; done) | (simp; omega) | omega) _) | (refine Ext.setCell ?_ (by first | (simp; done) | (simp; omega) | omega) _) | (refine Ext.trans ?_ (by with_reducible assumption))))⟩

set_option maxHeartbeats 3200000 in
theorem iPatternText_yes (e f p : Int) (hg : patB e f p = true) (w : World) (hT : TW w) : Calls Tryd.prog 35 #[fmt e f, .int .i64 p] w fun rv w' => rv = .returned (.tuple #[.string ⟨(fmTx e f p).toArray⟩, .bool true]) ∧ Ext w w' := by
  have IP := fun w => isPattern_any e f p w
  rw [hg] at IP
  have IP := Lib.hid IP
  obtain ⟨g0, p0, p1⟩ := pat_iff.1 hg
  obtain ⟨h1, h2, h3, h4⟩ := good_iff.1 g0
  obtain ⟨E, rfl⟩ : ∃ E : Nat, e = (E : Int) := ⟨e.toNat, by omega⟩
  obtain ⟨G, rfl⟩ : ∃ G : Nat, f = (G : Int) := ⟨f.toNat, by omega⟩
  have pe := pw_le (a := (E : Int) + G) 15 32768 rfl (by omega)
  have e1 : pw ((E : Int) + G) = 2 ^ E * 2 ^ G := by rw [pw_add _ _ (by omega) (by omega), pw_two, pw_two]
  have FO := fun w => fieldsOf_any (E : Int) (G : Int) p g0 p0 (by omega) w
  have pp := pw_pos ((E : Int) + G)
  have a0 : 0 ≤ p / pw ((E : Int) + G) := Int.ediv_nonneg p0 (by omega)
  have a1 : p / pw ((E : Int) + G) < 2 ^ 1 := Int.ediv_lt_of_lt_mul (by omega) p1
  have r0 : 0 ≤ p % pw ((E : Int) + G) := Int.emod_nonneg _ (by omega)
  have r1 : p % pw ((E : Int) + G) < pw ((E : Int) + G) := Int.emod_lt_of_pos _ (by omega)
  have pg := pw_pos (G : Int)
  have b0 : 0 ≤ p % pw ((E : Int) + G) / pw (G : Int) := Int.ediv_nonneg r0 (by omega)
  have b1 : p % pw ((E : Int) + G) / pw (G : Int) < 2 ^ E := Int.ediv_lt_of_lt_mul (by omega) (by rw [pw_two G, ← e1]; exact r1)
  have c0 : 0 ≤ p % pw (G : Int) := Int.emod_nonneg _ (by omega)
  have c1 : p % pw (G : Int) < 2 ^ G := by rw [← pw_two G]; exact Int.emod_lt_of_pos _ (by omega)
  have hfx : fmTx (E : Int) (G : Int) p = btT (p / pw ((E : Int) + G)) 1 ++ [46] ++ btT (p % pw ((E : Int) + G) / pw (G : Int)) E ++ [46] ++ btT (p % pw (G : Int)) G := by unfold fmTx; rw [Int.toNat_natCast, Int.toNat_natCast]
  rw [hfx]
  clear hfx e1 pe pp pg r0 r1 p0 p1 hg g0
  generalize p / pw ((E : Int) + G) = a at *
  generalize p % pw ((E : Int) + G) / pw (G : Int) = b at *
  generalize p % pw (G : Int) = c at *
  have B1 : ∀ w, TW w → Calls Tryd.prog 87 #[.int .i64 a, .int .i64 1] w fun rv w' => rv = .returned (.string ⟨(btT a 1).toArray⟩) ∧ Ext w w' := fun w hT => bitText_any a 1 a0 (by omega) (by omega) a1 w hT
  have B2 := fun w hT => bitText_any b E b0 (by omega) (by omega) b1 w hT
  have B3 := fun w hT => bitText_any c G c0 (by omega) (by omega) c1 w hT
  have l1 := btT_length a 1
  have l2 := btT_length b E
  have l3 := btT_length c G
  generalize btT a 1 = x at *
  generalize btT b E = y at *
  generalize btT c G = z at *
  have hl : x.length + y.length + z.length ≤ 1000 := by omega
  have JC := Lib.hid (fun bk c w h0 h1 h2 h3 h4 => join3 bk c x y z w h0 h1 h2 h3 h4 hl)
  have B1 := Lib.hid B1
  have B2 := Lib.hid B2
  have B3 := Lib.hid B3
  have FO := Lib.hid FO
  clear a0 a1 b0 b1 c0 c1 l1 l2 l3 hl
  go_enter Tryd.func35, Tryd.ntmps35
  go_wp2_with (first | (go_at_call 84; refine (IP.out _).mono ?_; rintro rv w1 ⟨rfl, hb⟩; have ns : w.heap.size < w1.heap.size := hb.lt (by first | with_reducible assumption | omega | (simp; done) | (simp; omega)); have n0 : w1.cell? ⟨w.heap.size, 0, none⟩ = some (.int .i64 (E : Int)) := (hb.cells _ _ (by first | with_reducible assumption | omega | (simp; done) | (simp; omega))).trans (by first | with_reducible assumption | (simp; done) | (simp; with_reducible assumption) | (rw [cell_alloc_before _ _ _ _ (by omega)]; with_reducible assumption) | (simp [go_sem, *]; done)); have n1 : w1.cell? ⟨w.heap.size, 1, none⟩ = some (.int .i64 (G : Int)) := (hb.cells _ _ (by first | with_reducible assumption | omega | (simp; done) | (simp; omega))).trans (by first | with_reducible assumption | (simp; done) | (simp; with_reducible assumption) | (rw [cell_alloc_before _ _ _ _ (by omega)]; with_reducible assumption) | (simp [go_sem, *]; done)); (first | (have nx := Ext.trans hx hb; clear hx) | (have nx := Ext.trans (hx.alloc _) hb; clear hx) | (have nx := Ext.trans hx.drew hb; clear hx) | have nx := hb); clear hb; try clear hs; try clear g0; try clear g1; have hx := nx; clear nx; have hs := ns; clear ns; have g0 := n0; clear n0; have g1 := n1; clear n1) | (go_at_call 85; refine (FO.out _).mono ?_; rintro rv w1 ⟨rfl, hb⟩; have ns : w.heap.size < w1.heap.size := hb.lt (by first | with_reducible assumption | omega | (simp; done) | (simp; omega)); have n0 : w1.cell? ⟨w.heap.size, 0, none⟩ = some (.int .i64 (E : Int)) := (hb.cells _ _ (by first | with_reducible assumption | omega | (simp; done) | (simp; omega))).trans (by first | with_reducible assumption | (simp; done) | (simp; with_reducible assumption) | (rw [cell_alloc_before _ _ _ _ (by omega)]; with_reducible assumption) | (simp [go_sem, *]; done)); have n1 : w1.cell? ⟨w.heap.size, 1, none⟩ = some (.int .i64 (G : Int)) := (hb.cells _ _ (by first | with_reducible assumption | omega | (simp; done) | (simp; omega))).trans (by first | with_reducible assumption | (simp; done) | (simp; with_reducible assumption) | (rw [cell_alloc_before _ _ _ _ (by omega)]; with_reducible assumption) | (simp [go_sem, *]; done)); (first | (have nx := Ext.trans hx hb; clear hx) | (have nx := Ext.trans (hx.alloc _) hb; clear hx) | (have nx := Ext.trans hx.drew hb; clear hx) | have nx := hb); clear hb; try clear hs; try clear g0; try clear g1; have hx := nx; clear nx; have hs := ns; clear ns; have g0 := n0; clear n0; have g1 := n1; clear n1))
  go_region_held3 (fun w' => w'.cell? ⟨w.heap.size, 0, none⟩ = some (.int .i64 (E : Int)) ∧ w'.cell? ⟨w.heap.size, 1, none⟩ = some (.int .i64 (G : Int)) ∧ w'.cell? ⟨w1.heap.size, 0, none⟩ = some (.int .i64 a) ∧ w'.cell? ⟨w1.heap.size, 1, none⟩ = some (.int .i64 b) ∧ w'.cell? ⟨w1.heap.size, 2, none⟩ = some (.int .i64 c) ∧ w1.heap.size < w'.heap.size) ((refine ⟨?_, ?_, ?_, ?_, ?_, ?_⟩ <;> first | with_reducible assumption | ((repeat first | rw [cell_set_far _ _ _ _ _ _ (by omega)] | rw [cell_alloc_before _ _ _ _ (by omega)] | rw [cell_alloc_drew _ _ _ _ (by omega)] | rw [cell_drew]); with_reducible assumption) | ((rw [cell_setRow_far _ _ _ _ _ (by omega)]); with_reducible assumption) | ((rw [setRow_size]); with_reducible assumption) | (simp; done) | (simp [World.setCell]; first | done | omega) | (simp [go_sem, World.cell?_alloc_past, World.cell?_setCell_far, *]; done))) ((first | (go_at_call 87; (with_reducible refine (B1.out _ (hT.ext (by repeat (first | exact Ext.refl _ | with_reducible assumption | apply Ext.alloc | apply Ext.drew | apply Ext.drewN | (refine Ext.setRow ?_ (by first | (simp; done) | (simp; omega) | omega) _) | (refine Ext.setCell ?_ (by first | (simp; done) | (simp; omega) | omega) _) | (refine Ext.trans ?_ (by with_reducible assumption)))))).mono ?_); rintro rv w2 ⟨rfl, hb⟩; have ns : w1.heap.size < w2.heap.size := hb.lt (by first | with_reducible assumption | omega | (simp; done) | (simp; omega)); have n0 : w2.cell? ⟨w.heap.size, 0, none⟩ = some (.int .i64 (E : Int)) := (hb.cells _ _ (by first | with_reducible assumption | omega | (simp; done) | (simp; omega))).trans (by first | with_reducible assumption | (simp; done) | (simp; with_reducible assumption) | (rw [cell_alloc_before _ _ _ _ (by omega)]; with_reducible assumption) | (simp [go_sem, *]; done)); have n1 : w2.cell? ⟨w.heap.size, 1, none⟩ = some (.int .i64 (G : Int)) := (hb.cells _ _ (by first | with_reducible assumption | omega | (simp; done) | (simp; omega))).trans (by first | with_reducible assumption | (simp; done) | (simp; with_reducible assumption) | (rw [cell_alloc_before _ _ _ _ (by omega)]; with_reducible assumption) | (simp [go_sem, *]; done)); have n2 : w2.cell? ⟨w1.heap.size, 0, none⟩ = some (.int .i64 a) := (hb.cells _ _ (by first | with_reducible assumption | omega | (simp; done) | (simp; omega))).trans (by first | with_reducible assumption | (simp; done) | (simp; with_reducible assumption) | (rw [cell_alloc_before _ _ _ _ (by omega)]; with_reducible assumption) | (simp [go_sem, *]; done)); have n3 : w2.cell? ⟨w1.heap.size, 1, none⟩ = some (.int .i64 b) := (hb.cells _ _ (by first | with_reducible assumption | omega | (simp; done) | (simp; omega))).trans (by first | with_reducible assumption | (simp; done) | (simp; with_reducible assumption) | (rw [cell_alloc_before _ _ _ _ (by omega)]; with_reducible assumption) | (simp [go_sem, *]; done)); have n4 : w2.cell? ⟨w1.heap.size, 2, none⟩ = some (.int .i64 c) := (hb.cells _ _ (by first | with_reducible assumption | omega | (simp; done) | (simp; omega))).trans (by first | with_reducible assumption | (simp; done) | (simp; with_reducible assumption) | (rw [cell_alloc_before _ _ _ _ (by omega)]; with_reducible assumption) | (simp [go_sem, *]; done)); (first | (have nx := Ext.trans hx hb; clear hx) | (have nx := Ext.trans (hx.alloc _) hb; clear hx) | (have nx := Ext.trans hx.drew hb; clear hx) | have nx := hb); clear hb; try clear hs; try clear g0; try clear g1; try clear g2; try clear g3; try clear g4; have hx := nx; clear nx; have hs := ns; clear ns; have g0 := n0; clear n0; have g1 := n1; clear n1; have g2 := n2; clear n2; have g3 := n3; clear n3; have g4 := n4; clear n4) | (go_at_call 87; (with_reducible refine (B2.out _ (hT.ext (by repeat (first | exact Ext.refl _ | with_reducible assumption | apply Ext.alloc | apply Ext.drew | apply Ext.drewN | (refine Ext.setRow ?_ (by first | (simp; done) | (simp; omega) | omega) _) | (refine Ext.setCell ?_ (by first | (simp; done) | (simp; omega) | omega) _) | (refine Ext.trans ?_ (by with_reducible assumption)))))).mono ?_); rintro rv w2 ⟨rfl, hb⟩; have ns : w1.heap.size < w2.heap.size := hb.lt (by first | with_reducible assumption | omega | (simp; done) | (simp; omega)); have n0 : w2.cell? ⟨w.heap.size, 0, none⟩ = some (.int .i64 (E : Int)) := (hb.cells _ _ (by first | with_reducible assumption | omega | (simp; done) | (simp; omega))).trans (by first | with_reducible assumption | (simp; done) | (simp; with_reducible assumption) | (rw [cell_alloc_before _ _ _ _ (by omega)]; with_reducible assumption) | (simp [go_sem, *]; done)); have n1 : w2.cell? ⟨w.heap.size, 1, none⟩ = some (.int .i64 (G : Int)) := (hb.cells _ _ (by first | with_reducible assumption | omega | (simp; done) | (simp; omega))).trans (by first | with_reducible assumption | (simp; done) | (simp; with_reducible assumption) | (rw [cell_alloc_before _ _ _ _ (by omega)]; with_reducible assumption) | (simp [go_sem, *]; done)); have n2 : w2.cell? ⟨w1.heap.size, 0, none⟩ = some (.int .i64 a) := (hb.cells _ _ (by first | with_reducible assumption | omega | (simp; done) | (simp; omega))).trans (by first | with_reducible assumption | (simp; done) | (simp; with_reducible assumption) | (rw [cell_alloc_before _ _ _ _ (by omega)]; with_reducible assumption) | (simp [go_sem, *]; done)); have n3 : w2.cell? ⟨w1.heap.size, 1, none⟩ = some (.int .i64 b) := (hb.cells _ _ (by first | with_reducible assumption | omega | (simp; done) | (simp; omega))).trans (by first | with_reducible assumption | (simp; done) | (simp; with_reducible assumption) | (rw [cell_alloc_before _ _ _ _ (by omega)]; with_reducible assumption) | (simp [go_sem, *]; done)); have n4 : w2.cell? ⟨w1.heap.size, 2, none⟩ = some (.int .i64 c) := (hb.cells _ _ (by first | with_reducible assumption | omega | (simp; done) | (simp; omega))).trans (by first | with_reducible assumption | (simp; done) | (simp; with_reducible assumption) | (rw [cell_alloc_before _ _ _ _ (by omega)]; with_reducible assumption) | (simp [go_sem, *]; done)); (first | (have nx := Ext.trans hx hb; clear hx) | (have nx := Ext.trans (hx.alloc _) hb; clear hx) | (have nx := Ext.trans hx.drew hb; clear hx) | have nx := hb); clear hb; try clear hs; try clear g0; try clear g1; try clear g2; try clear g3; try clear g4; have hx := nx; clear nx; have hs := ns; clear ns; have g0 := n0; clear n0; have g1 := n1; clear n1; have g2 := n2; clear n2; have g3 := n3; clear n3; have g4 := n4; clear n4) | (go_at_call 87; (with_reducible refine (B3.out _ (hT.ext (by repeat (first | exact Ext.refl _ | with_reducible assumption | apply Ext.alloc | apply Ext.drew | apply Ext.drewN | (refine Ext.setRow ?_ (by first | (simp; done) | (simp; omega) | omega) _) | (refine Ext.setCell ?_ (by first | (simp; done) | (simp; omega) | omega) _) | (refine Ext.trans ?_ (by with_reducible assumption)))))).mono ?_); rintro rv w2 ⟨rfl, hb⟩; have ns : w1.heap.size < w2.heap.size := hb.lt (by first | with_reducible assumption | omega | (simp; done) | (simp; omega)); have n0 : w2.cell? ⟨w.heap.size, 0, none⟩ = some (.int .i64 (E : Int)) := (hb.cells _ _ (by first | with_reducible assumption | omega | (simp; done) | (simp; omega))).trans (by first | with_reducible assumption | (simp; done) | (simp; with_reducible assumption) | (rw [cell_alloc_before _ _ _ _ (by omega)]; with_reducible assumption) | (simp [go_sem, *]; done)); have n1 : w2.cell? ⟨w.heap.size, 1, none⟩ = some (.int .i64 (G : Int)) := (hb.cells _ _ (by first | with_reducible assumption | omega | (simp; done) | (simp; omega))).trans (by first | with_reducible assumption | (simp; done) | (simp; with_reducible assumption) | (rw [cell_alloc_before _ _ _ _ (by omega)]; with_reducible assumption) | (simp [go_sem, *]; done)); have n2 : w2.cell? ⟨w1.heap.size, 0, none⟩ = some (.int .i64 a) := (hb.cells _ _ (by first | with_reducible assumption | omega | (simp; done) | (simp; omega))).trans (by first | with_reducible assumption | (simp; done) | (simp; with_reducible assumption) | (rw [cell_alloc_before _ _ _ _ (by omega)]; with_reducible assumption) | (simp [go_sem, *]; done)); have n3 : w2.cell? ⟨w1.heap.size, 1, none⟩ = some (.int .i64 b) := (hb.cells _ _ (by first | with_reducible assumption | omega | (simp; done) | (simp; omega))).trans (by first | with_reducible assumption | (simp; done) | (simp; with_reducible assumption) | (rw [cell_alloc_before _ _ _ _ (by omega)]; with_reducible assumption) | (simp [go_sem, *]; done)); have n4 : w2.cell? ⟨w1.heap.size, 2, none⟩ = some (.int .i64 c) := (hb.cells _ _ (by first | with_reducible assumption | omega | (simp; done) | (simp; omega))).trans (by first | with_reducible assumption | (simp; done) | (simp; with_reducible assumption) | (rw [cell_alloc_before _ _ _ _ (by omega)]; with_reducible assumption) | (simp [go_sem, *]; done)); (first | (have nx := Ext.trans hx hb; clear hx) | (have nx := Ext.trans (hx.alloc _) hb; clear hx) | (have nx := Ext.trans hx.drew hb; clear hx) | have nx := hb); clear hb; try clear hs; try clear g0; try clear g1; try clear g2; try clear g3; try clear g4; have hx := nx; clear nx; have hs := ns; clear ns; have g0 := n0; clear n0; have g1 := n1; clear n1; have g2 := n2; clear n2; have g3 := n3; clear n3; have g4 := n4; clear n4) | (go_at_call 86; refine (JC.out _ _ _ (by first | with_reducible assumption | (simp [go_sem]; done) | (simp [go_sem, *]; done)) (by first | with_reducible assumption | (simp [go_sem]; done) | (simp [go_sem, *]; done)) (by first | with_reducible assumption | (simp [go_sem]; done) | (simp [go_sem, *]; done)) (by first | (simp; done) | (simp; omega)) (by first | omega | decide | (simp; done))).mono ?_; rintro rv w5 ⟨rfl, hb⟩; have ns : w1.heap.size < w5.heap.size := hb.lt (by first | with_reducible assumption | omega | (simp; done) | (simp; omega)); have n0 : w5.cell? ⟨w.heap.size, 0, none⟩ = some (.int .i64 (E : Int)) := (hb.cells _ _ (by first | with_reducible assumption | omega | (simp; done) | (simp; omega))).trans (by first | with_reducible assumption | (simp; done) | (simp; with_reducible assumption) | (rw [cell_alloc_before _ _ _ _ (by omega)]; with_reducible assumption) | (simp [go_sem, *]; done)); have n1 : w5.cell? ⟨w.heap.size, 1, none⟩ = some (.int .i64 (G : Int)) := (hb.cells _ _ (by first | with_reducible assumption | omega | (simp; done) | (simp; omega))).trans (by first | with_reducible assumption | (simp; done) | (simp; with_reducible assumption) | (rw [cell_alloc_before _ _ _ _ (by omega)]; with_reducible assumption) | (simp [go_sem, *]; done)); have n2 : w5.cell? ⟨w1.heap.size, 0, none⟩ = some (.int .i64 a) := (hb.cells _ _ (by first | with_reducible assumption | omega | (simp; done) | (simp; omega))).trans (by first | with_reducible assumption | (simp; done) | (simp; with_reducible assumption) | (rw [cell_alloc_before _ _ _ _ (by omega)]; with_reducible assumption) | (simp [go_sem, *]; done)); have n3 : w5.cell? ⟨w1.heap.size, 1, none⟩ = some (.int .i64 b) := (hb.cells _ _ (by first | with_reducible assumption | omega | (simp; done) | (simp; omega))).trans (by first | with_reducible assumption | (simp; done) | (simp; with_reducible assumption) | (rw [cell_alloc_before _ _ _ _ (by omega)]; with_reducible assumption) | (simp [go_sem, *]; done)); have n4 : w5.cell? ⟨w1.heap.size, 2, none⟩ = some (.int .i64 c) := (hb.cells _ _ (by first | with_reducible assumption | omega | (simp; done) | (simp; omega))).trans (by first | with_reducible assumption | (simp; done) | (simp; with_reducible assumption) | (rw [cell_alloc_before _ _ _ _ (by omega)]; with_reducible assumption) | (simp [go_sem, *]; done)); (first | (have nx := Ext.trans hx hb; clear hx) | (have nx := Ext.trans (hx.alloc _) hb; clear hx) | (have nx := Ext.trans hx.drew hb; clear hx) | have nx := hb); clear hb; try clear hs; try clear g0; try clear g1; try clear g2; try clear g3; try clear g4; have hx := nx; clear nx; have hs := ns; clear ns; have g0 := n0; clear n0; have g1 := n1; clear n1; have g2 := n2; clear n2; have g3 := n3; clear n3; have g4 := n4; clear n4)))
  all_goals (try go_wp2_with fail)
  all_goals exact bodyPost_ret (v := .tuple #[.string ⟨(x ++ [46] ++ y ++ [46] ++ z).toArray⟩, .bool true]) (by simp [results, Tryd.results35, go_sem, *]) rfl ⟨rfl, (by repeat (first | exact Ext.refl _ | with_reducible assumption | apply Ext.alloc | apply Ext.drew | apply Ext.drewN | (refine Ext.setRow ?_ (by first | (simp; done) | (simp; omega) | omega) _) | (refine Ext.setCell ?_ (by first | (simp; done) | (simp; omega) | omega) _) | (refine Ext.trans ?_ (by with_reducible assumption))))⟩

end Go.Proofs.YtfgbndjhaiigbabDoor
