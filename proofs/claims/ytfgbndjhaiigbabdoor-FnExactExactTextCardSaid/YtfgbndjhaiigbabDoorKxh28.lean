/-
  Contracts of the functions that the laws reach, and the plain facts that they rest on, each under the conditions that its line names; part 28.
-/
import Derived.Test.YtfgbndjhaiigbabDoorKxh1
import Derived.Test.YtfgbndjhaiigbabDoorKxh2
import Derived.Test.YtfgbndjhaiigbabDoorKxh3
import Derived.Test.YtfgbndjhaiigbabDoorKxh4
import Derived.Test.YtfgbndjhaiigbabDoorKxh5
import Derived.Test.YtfgbndjhaiigbabDoorKxh6
import Derived.Test.YtfgbndjhaiigbabDoorKxh22
import Derived.Test.YtfgbndjhaiigbabDoorKxh23
import Derived.Test.YtfgbndjhaiigbabDoorKxh24
import Derived.Test.YtfgbndjhaiigbabDoorKxh25
import Derived.Test.YtfgbndjhaiigbabDoorKxh26
import Derived.Test.YtfgbndjhaiigbabDoorKxh27
import Derived.Test.YtfgbndjhaiigbabDoorRows
import Derived.WalkKit
import Derived.Lib.ItoaMem
import Derived.LoopN
import Derived.Laws.OwnMore
import Derived.OwnWalk
import Derived.Deep.AppendLies
import Derived.Deep.LoopGhost
import Derived.LoopTactic
import Derived.Laws.Bits64b
import Derived.WalkSpells
import Derived.WalkLawsBesides
import Derived.StillTactics
import Derived.Laws.Pointers
import Derived.Deep.RegionHeld3
import Derived.Deep.QuietTactic
import Derived.BigQuiet
import Derived.Outline
import Derived.Lib.Hide
import Derived.RowKit3
import Derived.Carry
import Derived.IntWalk
import Derived.Lib.ItoaNum
import Derived.Laws.BytesString
namespace Go.Proofs.YtfgbndjhaiigbabDoor
open Go Go.RowKit
set_option linter.unusedSimpArgs false
set_option linter.unusedVariables false
set_option maxRecDepth 100000

/-- So many digits behind the point, by what is left. -/
def frD (u K : Nat) : Nat → List UInt8
  | 0 => []
  | j + 1 => frD u K j ++ [UInt8.ofNat (48 + (u * 10 ^ j % 2 ^ K) * 10 / 2 ^ K)]

def fT (u K J : Nat) : List UInt8 := Lib.decDigits (u / 2 ^ K) ++ ((if 0 < J then [46] else []) ++ frD u K J)

theorem frD_dgT (u K : Nat) : ∀ j, j ≤ K → frD u K j = dgT (u * 5 ^ K / 10 ^ (K - j)) j
  | 0, _ => rfl
  | j + 1, h => by
    rw [frD, frD_dgT u K j (by omega), dgT_snoc, frac_digit u K j (by omega), show K - (j + 1) = K - 1 - j by omega]
    congr 2
    rw [Nat.div_div_eq_div_mul, ← Nat.pow_succ, show (K - 1 - j).succ = K - j by omega]

theorem fT_exT (u K : Nat) : fT u K K = exT (u * 5 ^ K) K := by
  unfold fT exT
  rw [frac_top, frD_dgT u K K (Nat.le_refl _), Nat.sub_self, Nat.pow_zero, Nat.div_one]

theorem frD_len (u K : Nat) : ∀ j, (frD u K j).length = j
  | 0 => rfl
  | j + 1 => by rw [frD, List.length_append, frD_len u K j]; rfl

theorem join_flat (xs : List (List UInt8)) : Lib.join xs [] = xs.flatten := by
  cases xs with
  | nil => rfl
  | cons x r => rw [Lib.join_cons, Lib.joinTail]; simp

/-- A list of texts as a row. -/
def rwB (P : List ByteArray) : List Value := P.map (fun x : ByteArray => Value.string x)

theorem rwB_snoc (P : List ByteArray) (d : ByteArray) : rwB (P ++ [d]) = rwB P ++ [.string d] := by unfold rwB; simp

def catS (P : List ByteArray) : List UInt8 := (P.map (fun x => x.data.toList)).flatten

theorem catS_snoc (P : List ByteArray) (l : List UInt8) : catS (P ++ [⟨l.toArray⟩]) = catS P ++ l := by unfold catS; simp

theorem join_n (g c : Nat) (P : List ByteArray) (w : World) (h0 : ∀ j x, P[j]? = some x → w.cell? ⟨g, j, none⟩ = some (.string x)) (hg : g < w.heap.size) (hc : P.length ≤ c) (hp : P.length ≤ 1000) (hl : (catS P).length ≤ 1000) :
    Calls Tryd.prog 86 #[.slice (some ⟨g, 0, none⟩) P.length c, .string ⟨#[]⟩] w fun rv w' => rv = .returned (.string ⟨(catS P).toArray⟩) ∧ Ext w w' := by
  have e1 : Lib.join (P.map (fun x => x.data.toList)) (⟨#[]⟩ : ByteArray).data.toList = catS P := join_flat _
  have J := Tryd.strings_Join g 0 c P ⟨#[]⟩ w (fun j x hx => by rw [Nat.zero_add]; exact h0 j x hx) hg (by omega) hc (by rw [e1]; omega)
  rw [e1] at J
  exact J.mono fun _ _ ⟨he, hw⟩ => ⟨he, hw⟩

theorem signed_n (m : Int) (hm : m = 0 ∨ m = 1) (g c : Nat) (P : List ByteArray) (w : World) (h0 : ∀ j x, P[j]? = some x → w.cell? ⟨g, j, none⟩ = some (.string x)) (hg : g < w.heap.size) (hc : P.length ≤ c) (hp : P.length ≤ 1000) (hl : (catS P).length ≤ 1000) :
    Calls Tryd.prog 134 #[.int .i64 m, .slice (some ⟨g, 0, none⟩) P.length c] w fun rv w' => rv = .returned (.string ⟨(sgT m ++ catS P).toArray⟩) ∧ Ext w w' := by
  have R1 := Lib.hid (fun w => rep_sign m hm w)
  have J1 := Lib.hid (fun w h0 hg => join_n g c P w h0 hg hc hp hl)
  have H0 := Lib.hid h0
  have c1 : ¬ 9223372036854775807 < (sgT m).length + (catS P).length := by have := sgT_length m; omega
  rw [← str_two]
  clear hm hl hp hc h0
  generalize sgT m = s at *
  generalize catS P = X at *
  go_enter Tryd.func134, Tryd.ntmps134
  go_wp2_with (first | (go_at_call 130; refine (R1.out _).mono ?_; rintro rv w1 ⟨rfl, hb⟩) | (go_at_call 86; refine (J1.out _ (fun j x hj => (hb.cells _ _ hg).trans (H0.out j x hj)) (hb.lt hg)).mono ?_; rintro rv w2 ⟨rfl, hb2⟩))
  go_ret
  exact ⟨rfl, Ext.auK⟩

theorem tog_any (m1 n1 x1 m2 n2 x2 d1 d2 : Int) (h1 : x1 - min x1 x2 = d1) (h2 : x2 - min x1 x2 = d2) (v0 : 0 ≤ d1) (v1 : d1 ≤ 62) (v2 : 0 ≤ d2) (v3 : d2 ≤ 62) (k1 : IntKind.i64.wrap (n1 * pw d1) = n1 * pw d1) (k2 : IntKind.i64.wrap (n2 * pw d2) = n2 * pw d2) (w : World) : Calls Tryd.prog 114 #[.agg #[.int .i64 m1, .int .i64 n1, .int .i64 x1], .agg #[.int .i64 m2, .int .i64 n2, .int .i64 x2]] w fun rv w' => rv = .returned (.tuple #[.int .i64 (n1 * pw d1), .int .i64 (n2 * pw d2), .int .i64 (min x1 x2)]) ∧ Ext w w' := by
  have w1 : IntKind.i64.wrap d1 = d1 := IntWalk.i64_in _ (by omega)
  have w2 : IntKind.i64.wrap d2 = d2 := IntWalk.i64_in _ (by omega)
  have z1 : min d1.toNat 64 = d1.toNat := by omega
  have z2 : min d2.toNat 64 = d2.toNat := by omega
  have y1 : ¬ d1 < 0 := by omega
  have y2 : ¬ d2 < 0 := by omega
  have e1 := pw_of d1
  have e2 := pw_of d2
  go_enter Tryd.func114, Tryd.ntmps114
  go_wp2
  go_region_held3 (fun w' => w'.cell? ⟨w.heap.size, 0, none⟩ = some (.int .i64 m1) ∧ w'.cell? ⟨w.heap.size, 1, none⟩ = some (.int .i64 n1) ∧ w'.cell? ⟨w.heap.size, 2, none⟩ = some (.int .i64 x1) ∧ w'.cell? ⟨w.heap.size + 1, 0, none⟩ = some (.int .i64 m2) ∧ w'.cell? ⟨w.heap.size + 1, 1, none⟩ = some (.int .i64 n2) ∧ w'.cell? ⟨w.heap.size + 1, 2, none⟩ = some (.int .i64 x2) ∧ w.heap.size + 1 < w'.heap.size) ((refine ⟨?_, ?_, ?_, ?_, ?_, ?_, ?_⟩ <;> first | with_reducible assumption | ((repeat first | rw [cell_set_far _ _ _ _ _ _ (by omega)] | rw [cell_alloc_before _ _ _ _ (by omega)] | rw [cell_alloc_drew _ _ _ _ (by omega)] | rw [cell_drew]); with_reducible assumption) | ((rw [cell_setRow_far _ _ _ _ _ (by omega)]); with_reducible assumption) | ((rw [setRow_size]); with_reducible assumption) | (simp; done) | (simp [World.setCell]; first | done | omega) | (simp [go_sem, World.cell?_alloc_past, World.cell?_setCell_far, *]; done))) (fail)
  go_wp2
  go_ret3
  exact ⟨rfl, Ext.auK⟩

set_option maxHeartbeats 1600000 in
theorem fText_any (m : Int) (hm : m = 0 ∨ m = 1) (n : Nat) (x : Int) (u K J d : Nat) (hu : u = n * 2 ^ d) (hx0 : x = (d : Int) - K) (h0 : d = 0 ∨ K = 0) (k25 : K ≤ 25) (j25 : J ≤ 25) (d45 : d ≤ 45) (u1 : u < 1125899906842624)
    (nz : ∀ j, j < J → u * 10 ^ j % 2 ^ K ≠ 0) (hz : u * 10 ^ J % 2 ^ K = 0) (w : World) (hT : TXW w) : Calls Tryd.prog 89 #[.agg #[.int .i64 m, .int .i64 (n : Int), .int .i64 x]] w fun rv w' => rv = .returned (.string ⟨(sgT m ++ fT u K J).toArray⟩) ∧ Ext w w' := by
  obtain ⟨i, hi, hz, hsz, hby⟩ : ∃ i, Tryd.prog.info? 9 = some i ∧ i.zero = some (Value.string ⟨#[]⟩) ∧ i.size = 1 ∧ i.bytes = 16 := by
    cases h : Tryd.prog.info? 9 with
    | none => exact absurd h (by have : (Tryd.prog.info? 9).isSome = true := by kernel_rfl
                                 intro h2; rw [h2] at this; cases this)
    | some i =>
      refine ⟨i, rfl, ?_, ?_, ?_⟩
      · have : (Tryd.prog.info? 9).map (·.zero) = some (some (Value.string ⟨#[]⟩)) := by kernel_rfl
        rw [h] at this; exact Option.some.inj this
      · have : (Tryd.prog.info? 9).map (·.size) = some 1 := by kernel_rfl
        rw [h] at this; exact Option.some.inj this
      · have : (Tryd.prog.info? 9).map (·.bytes) = some 16 := by kernel_rfl
        rw [h] at this; exact Option.some.inj this
  have HI := Lib.hid hi; have HZ := Lib.hid hz; have HSZ := Lib.hid hsz; have HBY := Lib.hid hby; clear hi hz hsz hby
  obtain ⟨D, hD⟩ : ∃ D, D = 2 ^ K := ⟨_, rfl⟩
  have D0 : 0 < D := by rw [hD]; exact Nat.pow_pos (by decide)
  have D1 : D ≤ 33554432 := by
    rw [hD]
    exact Nat.le_trans (Nat.pow_le_pow_right (by decide) k25) (by decide)
  have pd : (n : Int) * pw (d : Int) = (u : Int) := by rw [hu, ← pw_nat, Int.toNat_natCast]; simp
  have pk : (1 : Int) * pw (K : Int) = (D : Int) := by rw [hD, ← pw_nat, Int.toNat_natCast]; simp
  have TG := Lib.hid (fun w => tog_any m n x 0 1 0 d K (by omega) (by omega) (by omega) (by omega) (by omega) (by omega) (by rw [pd]; exact IntWalk.i64_in _ (by omega)) (by rw [pk]; exact IntWalk.i64_in _ (by omega)) w)
  rw [pd, pk] at TG
  have NZ : RowKit.Hid (∀ j, j < J → u * 10 ^ j % D ≠ 0) := Lib.hid (by rw [hD]; exact nz)
  have HZR : RowKit.Hid (u * 10 ^ J % D = 0) := Lib.hid (by rw [hD]; exact hz)
  obtain ⟨R, hR⟩ : ∃ R : ByteArray, R = ⟨(sgT m ++ (Lib.decDigits (u / D) ++ ((if 0 < J then [46] else []) ++ frD u K J))).toArray⟩ := ⟨_, rfl⟩
  have hR2 : R = ⟨(sgT m ++ fT u K J).toArray⟩ := by rw [hR]; unfold fT; rw [hD]
  rw [← hR2]
  have HR := Lib.hid hR
  clear hR hR2
  have BLD : ∀ w, (Instr.build 74 #[(1, .int .i64 1)]).run Tryd.prog w = .ok (.agg #[.int .i64 0, .int .i64 1, .int .i64 0]) w := fun w => run_build w _ _ _ (by kernel_rfl)
  have dn : ¬ (D : Int) = 0 := by omega
  have dn2 : ((D : Int) == 0) = false := by simpa using dn
  have dn3 : ¬ D = 0 := by omega
  have t1 : (u : Int).tdiv (D : Int) = ((u / D : Nat) : Int) := rfl
  have t2 : (u : Int).tmod (D : Int) = ((u % D : Nat) : Int) := rfl
  have e1 : u / D ≤ u := Nat.div_le_self _ _
  have e0 : (0 : Int) ≤ ((u / D : Nat) : Int) := Int.natCast_nonneg _
  have e2 : u % D < D := Nat.mod_lt _ D0
  have k1 : IntKind.i64.wrap ((u / D : Nat) : Int) = ((u / D : Nat) : Int) := IntWalk.i64_in _ (by omega)
  have k2 : IntKind.i64.wrap ((u % D : Nat) : Int) = ((u % D : Nat) : Int) := IntWalk.i64_in _ (by omega)
  have IT0 := Lib.hid (fun w hT => itoa_any ((u / D : Nat) : Int) (by omega) (by omega) w hT)
  rw [Lib.itoa_nonneg] at IT0
  have len1 : (Lib.decDigits (u / D)).length ≤ 100 := Nat.le_trans (dec_len19 (n := u / D) (by omega)) (by decide)
  obtain ⟨pre, hpre⟩ : ∃ pre, pre = Lib.decDigits (u / D) ++ (if 0 < J then [46] else []) := ⟨_, rfl⟩
  have len0 : pre.length ≤ 101 := by
    rw [hpre, List.length_append]
    have : (if 0 < J then [46] else ([] : List UInt8)).length ≤ 1 := by split <;> simp
    omega
  have HR' : RowKit.Hid (R = ⟨(sgT m ++ (pre ++ frD u K J)).toArray⟩) := Lib.hid (by rw [HR.out, hpre, List.append_assoc])
  clear HR
  have HR := HR'
  clear HR'
  have HP := Lib.hid hpre
  clear hpre len1
  obtain ⟨y0, hy0⟩ : ∃ y : ByteArray, y = ⟨(Lib.decDigits (u / D)).toArray⟩ := ⟨_, rfl⟩
  rw [← hy0] at IT0
  have HC1 : RowKit.Hid (catS [y0] = Lib.decDigits (u / D)) := Lib.hid (by rw [hy0]; unfold catS; simp)
  have HD := Lib.hid hD
  clear hy0 pd pk nz hz hu hx0 hD
  by_cases hJ : 0 < J
  · have h3 := NZ.out 0 hJ
    rw [Nat.pow_zero, Nat.mul_one] at h3
    have q0 : (0 : Int) < ((u % D : Nat) : Int) := by omega
    have HC0 : RowKit.Hid (catS ([y0] ++ [⟨([46] : List UInt8).toArray⟩]) = pre ++ frD u K 0) := Lib.hid (by rw [catS_snoc, HC1.out, HP.out, if_pos hJ, frD, List.append_nil])
    clear h3 HC1
    generalize hUD : u % D = U at *
    have HU := Lib.hid hUD
    clear hUD
    go_enter Tryd.func89, Tryd.ntmps89
    go_wp2_with (first | (go_at_call 114; refine (TG.out _).mono ?_; rintro rv w1 ⟨rfl, hb⟩; have ns : w.heap.size < w1.heap.size := hb.ltK; have n0 : w1.cell? ⟨w.heap.size, 0, none⟩ = some (.int .i64 m) := hb.cellK; have n1 : w1.cell? ⟨w.heap.size, 1, none⟩ = some (.int .i64 (n : Int)) := hb.cellK; have n2 : w1.cell? ⟨w.heap.size, 2, none⟩ = some (.int .i64 x) := hb.cellK; (first | (have nx := hx.trK hb; clear hx) | have nx := hb); clear hb; try clear hs; try clear g0; try clear g1; try clear g2; have hx := nx; clear nx; have hs := ns; clear ns; have g0 := n0; clear n0; have g1 := n1; clear n1; have g2 := n2; clear n2) | (go_at_call 133; refine (IT0.out _ (hT.ext Ext.auK)).mono ?_; rintro rv w2 ⟨rfl, hb⟩; have OWN0 := World.ownsRow_lit (base := w2.heap.size) (e := 9) (size := 1) w2 #[.string y0] 1 (Nat.le_refl _) (by decide) rfl; have OWN : RowKit.Hid ((w2.alloc (.cells #[.string y0] 9)).ownsRow w2.heap.size 9 1 (.slice (some ⟨w2.heap.size, 0, none⟩) 1 1) 1 (rwB [y0])) := OWN0; clear OWN0; have hT2 : TXW w2 := hT.ext Ext.auK; have ns : w.heap.size < w2.heap.size := hb.ltK; have n0 : w2.cell? ⟨w.heap.size, 0, none⟩ = some (.int .i64 m) := hb.cellK; have n1 : w2.cell? ⟨w.heap.size, 1, none⟩ = some (.int .i64 (n : Int)) := hb.cellK; have n2 : w2.cell? ⟨w.heap.size, 2, none⟩ = some (.int .i64 x) := hb.cellK; (first | (have nx := hx.trK hb; clear hx) | have nx := hb); clear hb; try clear hs; try clear g0; try clear g1; try clear g2; have hx := nx; clear nx; have hs := ns; clear ns; have g0 := n0; clear n0; have g1 := n1; clear n1; have g2 := n2; clear n2) | (at_builtin; go_loud ((refine wpList_append_own _ rfl (.tmp 25) (.tmp 26) 94 rfl (w2.heap.size) 9 i _ 1 16 Tryd.underlying94 HI.out HZ.out HSZ.out HBY.out rfl (by decide) _ (1) (rwB [y0]) rfl (own_extP OWN.out (Ext.new _ _)) _ 1 1 [.string ⟨#[46]⟩] rfl rfl (fun j u hj => by cases j with | zero => (simp at hj; subst hj; simp [go_sem, Addr.add]) | succ j => simp at hj) (by simp [Value.oneCell']) (by first | (simp [maxLen]; done) | (simp [maxLen]; omega)) (by omega) (by first | (simp; done) | (simp; omega)) ?_); intro v9 w9 OWN8 hgr _; have hx9 : Ext w2 w9 := ext_grownP Ext.auK hgr (fun k hk => by have := (World.ownsRow.lt OWN.out k hk).1; omega); have OWN7 : RowKit.Hid (w9.ownsRow (w2.heap.size) 9 1 v9 (1 + 1) (rwB [y0] ++ [.string ⟨#[46]⟩])) := OWN8; clear OWN OWN8 hgr; have OWN := OWN7; clear OWN7)))
    go_loopw [6, 7] (fun s6 s7 wi => ∃ (j L q : Nat) (P : List ByteArray), s7 = .int .i64 (L : Int) ∧ j ≤ J ∧ RowKit.Hid (L = u * 10 ^ j % D) ∧ L < D ∧ RowKit.Hid (q = j + 2) ∧ RowKit.Hid (P.length = q) ∧ RowKit.Hid (catS P = pre ++ frD u K j) ∧ RowKit.Hid (wi.ownsRow w2.heap.size 9 1 s6 q (rwB P)) ∧ Ext w2 wi) (fun s _ _ => J + 3 - sLen s)
    case atStart => exact ⟨0, U, 2, [y0] ++ [⟨([46] : List UInt8).toArray⟩], rfl, by omega, Lib.hid (by rw [Nat.pow_zero, Nat.mul_one]; exact HU.out.symm), e2, Lib.hid (by omega), Lib.hid rfl, HC0, by rw [rwB_snoc]; exact OWN, Ext.auK⟩
    case round =>
      clear OWN HC0
      obtain ⟨j, L, q, P, rfl, jJ, HL, LD, HQ, HPL, HC, OWN, hy⟩ := hrel
      have hq := HQ.out
      have hpl := HPL.out
      have qb1 : 0 < q := by omega
      have qb2 : q ≤ 100 := by omega
      have qb3 : q = j + 2 := hq
      have hsz := hy.size
      by_cases hj : j < J
      · obtain ⟨g, cap, rfl, _, hgl⟩ := OWN.out.form qb1
        have qb4 : q ≤ J + 2 := by omega
        clear hq hpl qb3
        have h1 := NZ.out j hj
        have h2 := HL.out
        have L0 : 0 < L := by omega
        have d0 : (0 : Int) ≤ ((L * 10 / D : Nat) : Int) := Int.natCast_nonneg _
        have q1 : (0 : Int) < (L : Int) := by omega
        have k1 : IntKind.i64.wrap ((L : Int) * 10) = (L : Int) * 10 := IntWalk.i64_in _ (by omega)
        have t1 : ((L : Int) * 10).tdiv (D : Int) = ((L * 10 / D : Nat) : Int) := rfl
        have t2 : ((L : Int) * 10).tmod (D : Int) = ((L * 10 % D : Nat) : Int) := rfl
        have d1 : L * 10 / D < 10 := Nat.div_lt_of_lt_mul (by omega)
        have d2 : L * 10 % D < D := Nat.mod_lt _ D0
        have HL2 : RowKit.Hid (L * 10 % D = u * 10 ^ (j + 1) % D) := Lib.hid (by rw [h2, HD.out]; exact frac_next u K j)
        have IT := Lib.hid (fun w hT => itoa_any ((L * 10 / D : Nat) : Int) (by omega) (by omega) w hT)
        rw [Lib.itoa_nonneg, decT_small d1] at IT
        have HC2 : RowKit.Hid (catS (P ++ [⟨[UInt8.ofNat (48 + L * 10 / D)].toArray⟩]) = pre ++ frD u K (j + 1)) := Lib.hid (by rw [catS_snoc, HC.out, frD, ← HD.out, ← h2]; simp)
        generalize L * 10 / D = d at *
        generalize L * 10 % D = r at *
        obtain ⟨y, hyy⟩ : ∃ y : ByteArray, y = ⟨[UInt8.ofNat (48 + d)].toArray⟩ := ⟨_, rfl⟩
        rw [← hyy] at HC2 IT
        have k2 : IntKind.i64.wrap (d : Int) = (d : Int) := IntWalk.i64_in _ (by omega)
        have k3 : IntKind.i64.wrap (r : Int) = (r : Int) := IntWalk.i64_in _ (by omega)
        clear h1 h2 hyy HL HC
        go_wp2_with (first | (go_at_call 133; refine (IT.out _ (hT2.ext hy)).mono ?_; rintro rv w3 ⟨rfl, hb3⟩; have OWN3 := Lib.hid (own_extP OWN.out hb3); clear OWN; have OWN := OWN3; clear OWN3; have hsz3 := hb3.size) | (at_builtin; go_loud ((refine wpList_append_own _ rfl (.tmp 35) (.tmp 40) 94 rfl (w2.heap.size) 9 i _ 1 16 Tryd.underlying94 HI.out HZ.out HSZ.out HBY.out rfl (by decide) _ (q) (rwB P) rfl (own_extP OWN.out (Ext.new _ _)) _ 1 1 [.string y] rfl rfl (fun j u hj => by cases j with | zero => (simp at hj; subst hj; simp [go_sem, Addr.add]) | succ j => simp at hj) (by simp [Value.oneCell']) (by first | (simp [maxLen]; done) | (simp [maxLen]; omega)) (by omega) (by first | (simp; done) | (simp; omega)) ?_); intro v9 w9 OWN8 hgr _; have hx9 : Ext w2 w9 := ext_grownP Ext.auK hgr (fun k hk => by have := (World.ownsRow.lt OWN.out k hk).1; omega); have OWN7 : RowKit.Hid (w9.ownsRow (w2.heap.size) 9 1 v9 (q + 1) (rwB P ++ [.string y])) := OWN8; clear OWN OWN8 hgr; have OWN := OWN7; clear OWN7)))
        obtain ⟨g9, cap9, rfl, _, _⟩ := OWN.out.form (by omega)
        go_roundw
        all_goals first | (simp [sLen]; done) | (simp [sLen]; omega) | exact ⟨j + 1, r, q + 1, P ++ [y], rfl, by omega, HL2, d2, Lib.hid (by rw [HQ.out, Nat.add_right_comm]), Lib.hid (by rw [List.length_append, HPL.out]; rfl), HC2, by rw [rwB_snoc]; exact OWN, hx9⟩
      · obtain rfl : J = j := by omega
        have h2 := HL.out
        rw [HZR.out] at h2
        obtain rfl : L = 0 := h2
        obtain ⟨g, cap, rfl, _, hgl⟩ := OWN.out.form qb1
        have hcap : P.length ≤ cap := by
          rcases OWN.out.2 with ⟨h', _⟩ | ⟨g', cap', cur, h', _, _, hn, _⟩
          · simp at h'
          · simp at h'; omega
        have GC : wr.cell? ⟨w.heap.size, 0, none⟩ = some (.int .i64 m) := (hy.cells _ _ (by assumption)).trans (by assumption)
        have HCC := HC.out
        have CL : RowKit.Hid (∀ i x, P[i]? = some x → wr.cell? ⟨g, i, none⟩ = some (.string x)) := Lib.hid (fun i x hi => by
          have hlt : i < P.length := (List.getElem?_eq_some_iff.1 hi).1
          rw [OWN.out.cellAt i (by omega)]
          unfold rwB
          rw [List.getElem?_map, hi]
          rfl)
        have lenC : (catS P).length ≤ 1000 := by
          rw [HCC, List.length_append, frD_len]
          have := len0
          omega
        have SN := Lib.hid (signed_n m hm g cap P wr CL.out hgl hcap (by omega) lenC)
        rw [hpl, HCC, ← HR.out] at SN
        clear HC HL HCC OWN CL lenC hq hpl qb3
        go_wp2_with (go_at_call 134; refine SN.out.mono ?_; rintro rv w4 ⟨rfl, hb4⟩)
        go_ret
        exact ⟨rfl, Ext.auK⟩
  · obtain rfl : J = 0 := by omega
    have h3 := HZR.out
    rw [Nat.pow_zero, Nat.mul_one] at h3
    have HC0 : RowKit.Hid (catS [y0] = pre ++ frD u K 0) := Lib.hid (by rw [HC1.out, HP.out, if_neg (by omega), frD, List.append_nil, List.append_nil])
    clear HC1
    have q0 : ¬ (0 : Int) < ((u % D : Nat) : Int) := by omega
    clear h3
    generalize hUD : u % D = U at *
    have HU := Lib.hid hUD
    clear hUD
    go_enter Tryd.func89, Tryd.ntmps89
    go_wp2_with (first | (go_at_call 114; refine (TG.out _).mono ?_; rintro rv w1 ⟨rfl, hb⟩; have ns : w.heap.size < w1.heap.size := hb.ltK; have n0 : w1.cell? ⟨w.heap.size, 0, none⟩ = some (.int .i64 m) := hb.cellK; have n1 : w1.cell? ⟨w.heap.size, 1, none⟩ = some (.int .i64 (n : Int)) := hb.cellK; have n2 : w1.cell? ⟨w.heap.size, 2, none⟩ = some (.int .i64 x) := hb.cellK; (first | (have nx := hx.trK hb; clear hx) | have nx := hb); clear hb; try clear hs; try clear g0; try clear g1; try clear g2; have hx := nx; clear nx; have hs := ns; clear ns; have g0 := n0; clear n0; have g1 := n1; clear n1; have g2 := n2; clear n2) | (go_at_call 133; refine (IT0.out _ (hT.ext Ext.auK)).mono ?_; rintro rv w2 ⟨rfl, hb⟩; have OWN0 := World.ownsRow_lit (base := w2.heap.size) (e := 9) (size := 1) w2 #[.string y0] 1 (Nat.le_refl _) (by decide) rfl; have OWN : RowKit.Hid ((w2.alloc (.cells #[.string y0] 9)).ownsRow w2.heap.size 9 1 (.slice (some ⟨w2.heap.size, 0, none⟩) 1 1) 1 (rwB [y0])) := OWN0; clear OWN0; have hT2 : TXW w2 := hT.ext Ext.auK; have ns : w.heap.size < w2.heap.size := hb.ltK; have n0 : w2.cell? ⟨w.heap.size, 0, none⟩ = some (.int .i64 m) := hb.cellK; have n1 : w2.cell? ⟨w.heap.size, 1, none⟩ = some (.int .i64 (n : Int)) := hb.cellK; have n2 : w2.cell? ⟨w.heap.size, 2, none⟩ = some (.int .i64 x) := hb.cellK; (first | (have nx := hx.trK hb; clear hx) | have nx := hb); clear hb; try clear hs; try clear g0; try clear g1; try clear g2; have hx := nx; clear nx; have hs := ns; clear ns; have g0 := n0; clear n0; have g1 := n1; clear n1; have g2 := n2; clear n2))
    go_loopw [6, 7] (fun s6 s7 wi => ∃ (j L q : Nat) (P : List ByteArray), s7 = .int .i64 (L : Int) ∧ j ≤ 0 ∧ RowKit.Hid (L = u * 10 ^ j % D) ∧ L < D ∧ RowKit.Hid (q = j + 1) ∧ RowKit.Hid (P.length = q) ∧ RowKit.Hid (catS P = pre ++ frD u K j) ∧ RowKit.Hid (wi.ownsRow w2.heap.size 9 1 s6 q (rwB P)) ∧ Ext w2 wi) (fun s _ _ => 0 + 3 - sLen s)
    case atStart => exact ⟨0, U, 1, [y0], rfl, by omega, Lib.hid (by rw [Nat.pow_zero, Nat.mul_one]; exact HU.out.symm), e2, Lib.hid (by omega), Lib.hid rfl, HC0, OWN, Ext.auK⟩
    case round =>
      clear OWN HC0
      obtain ⟨j, L, q, P, rfl, jJ, HL, LD, HQ, HPL, HC, OWN, hy⟩ := hrel
      have hq := HQ.out
      have hpl := HPL.out
      have qb1 : 0 < q := by omega
      have qb2 : q ≤ 100 := by omega
      have qb3 : q = j + 1 := hq
      have hsz := hy.size
      by_cases hj : j < 0
      · exact absurd hj (by omega)
      · obtain rfl : j = 0 := by omega
        have h2 := HL.out
        rw [HZR.out] at h2
        obtain rfl : L = 0 := h2
        obtain ⟨g, cap, rfl, _, hgl⟩ := OWN.out.form qb1
        have hcap : P.length ≤ cap := by
          rcases OWN.out.2 with ⟨h', _⟩ | ⟨g', cap', cur, h', _, _, hn, _⟩
          · simp at h'
          · simp at h'; omega
        have GC : wr.cell? ⟨w.heap.size, 0, none⟩ = some (.int .i64 m) := (hy.cells _ _ (by assumption)).trans (by assumption)
        have HCC := HC.out
        have CL : RowKit.Hid (∀ i x, P[i]? = some x → wr.cell? ⟨g, i, none⟩ = some (.string x)) := Lib.hid (fun i x hi => by
          have hlt : i < P.length := (List.getElem?_eq_some_iff.1 hi).1
          rw [OWN.out.cellAt i (by omega)]
          unfold rwB
          rw [List.getElem?_map, hi]
          rfl)
        have lenC : (catS P).length ≤ 1000 := by
          rw [HCC, List.length_append, frD_len]
          have := len0
          omega
        have SN := Lib.hid (signed_n m hm g cap P wr CL.out hgl hcap (by omega) lenC)
        rw [hpl, HCC, ← HR.out] at SN
        clear HC HL HCC OWN CL lenC hq hpl qb3
        go_wp2_with (go_at_call 134; refine SN.out.mono ?_; rintro rv w4 ⟨rfl, hb4⟩)
        go_ret
        exact ⟨rfl, Ext.auK⟩
end Go.Proofs.YtfgbndjhaiigbabDoor

