/-
  Contracts of the functions that the laws reach, and the plain facts that they rest on, each under the conditions that its line names; part 23.
-/
import Derived.Test.YtjebechmedhidaaKsx1
import Derived.Test.YtjebechmedhidaaKsx2
import Derived.Test.YtjebechmedhidaaKsx3
import Derived.Test.YtjebechmedhidaaKsx4
import Derived.Test.YtjebechmedhidaaKsx5
import Derived.Test.YtjebechmedhidaaKsx6
import Derived.Test.YtjebechmedhidaaKsx7
import Derived.Test.YtjebechmedhidaaKsx8
import Derived.Test.YtjebechmedhidaaKsx9
import Derived.Test.YtjebechmedhidaaKsx10
import Derived.Test.YtjebechmedhidaaKsx11
import Derived.Test.YtjebechmedhidaaKsx12
import Derived.Test.YtjebechmedhidaaKsx13
import Derived.Test.YtjebechmedhidaaKsx14
import Derived.Test.YtjebechmedhidaaKsx15
import Derived.Test.YtjebechmedhidaaKsx16
import Derived.Test.YtjebechmedhidaaKsx17
import Derived.Test.YtjebechmedhidaaKsx18
import Derived.Test.YtjebechmedhidaaKsx19
import Derived.Test.YtjebechmedhidaaKsx20
import Derived.Test.YtjebechmedhidaaKsx21
import Derived.Test.YtjebechmedhidaaKsx22
import Derived.Test.YtjebechmedhidaaRows
import Derived.WalkKit
import Derived.LoopTactic
import Derived.LoopN
import Derived.Deep.LoopGhost
import Derived.Laws.Bits64b
import Derived.WalkSpells
import Derived.WalkLawsBesides
import Derived.StillTactics
import Derived.Laws.Pointers
import Derived.Deep.RegionHeld3
import Derived.Deep.QuietTactic
import Derived.BigQuiet
import Derived.Outline
import Derived.Lib.Hide
import Derived.RowKit3
import Derived.Carry
import Derived.IntWalk
import Derived.Deep.OwnRows
import Derived.Laws.OwnMore
import Derived.OwnWalk
import Derived.Deep.AppendLies
import Derived.Lib.BitFns
import Derived.Lib.TrailingZeros
namespace Go.Proofs.Ytjebechmedhidaa
open Go Go.RowKit
set_option linter.unusedSimpArgs false
set_option linter.unusedVariables false
set_option maxRecDepth 100000

theorem zero_ns {e f : Int} (hg : goodB e f = true) : nsV e f 0 = 0 ∧ nsB e f 0 = true ∧ nsU e f 0 = 0 := by
  have hz : nsP e f 0 = 0 := (nsP_zero hg).2 rfl
  refine ⟨?_, ?_, ?_⟩
  · unfold nsV exV; rw [if_pos hz]
  · unfold nsB; rw [hz]; exact decide_eq_true (by have := (gr_bd2 hg).1; omega)
  · unfold nsU; rw [hz, mg_zero]; simp
end Go.Proofs.Ytjebechmedhidaa

namespace Go.Proofs.Ytjebechmedhidaa
open Go Go.RowKit
set_option linter.unusedSimpArgs false
set_option linter.unusedVariables false
set_option maxRecDepth 100000

/-- A single that is infinite or no number. -/
def BadW (x : Nat) : Prop := 2139095040 ≤ x % 2147483648 ∧ x < 4294967296

theorem bad_read {x : Nat} (h : BadW x) : (∃ s, Ieee.single.read x = .infinity s ∧ x = Ieee.single.word s Ieee.single.infRung) ∨ ∃ s t, Ieee.single.read x = .nan s t := by
  obtain ⟨h1, h2⟩ := h
  have e1 : Ieee.single.signWeight = 2147483648 := by decide
  have e2 : Ieee.single.infRung = 2139095040 := by decide
  have e3 : Ieee.single.binade = 8388608 := by decide
  unfold Ieee.Format.read
  simp only [e1, e2, e3]
  rw [if_neg (by omega), if_neg (by omega)]
  by_cases hq : x % 2147483648 = 2139095040
  · rw [if_pos hq]
    refine Or.inl ⟨_, rfl, ?_⟩
    unfold Ieee.Format.word
    rw [e1]
    by_cases hs : x / 2147483648 % 2 = 1
    · rw [if_pos (by simpa using hs)]; omega
    · rw [if_neg (by simpa using hs)]; omega
  · rw [if_neg hq]
    exact Or.inr ⟨_, _, rfl⟩

theorem bad_inf (t : Bool) : BadW (Ieee.single.word t Ieee.single.infRung) := by cases t <;> (unfold BadW; decide)

theorem sum_bad {a b : Ieee.Datum} (h : ((∃ s, a = .infinity s) ∨ ∃ s t, a = .nan s t) ∨ ((∃ s, b = .infinity s) ∨ ∃ s t, b = .nan s t)) : a.sum b = none ∨ ∃ s, a.sum b = some (.infinity s) := by
  rcases h with (⟨s, rfl⟩ | ⟨s, t, rfl⟩) | (⟨s, rfl⟩ | ⟨s, t, rfl⟩)
  · cases b with
    | number s2 m e => exact Or.inr ⟨s, rfl⟩
    | infinity s2 =>
      by_cases q : s = s2
      · exact Or.inr ⟨s, by show (if s = s2 then some (Ieee.Datum.infinity s) else none) = _; rw [if_pos q]⟩
      · exact Or.inl (by show (if s = s2 then some (Ieee.Datum.infinity s) else none) = _; rw [if_neg q])
    | nan s2 t => exact Or.inl rfl
  · exact Or.inl (by cases b <;> rfl)
  · cases a with
    | number s2 m e => exact Or.inr ⟨s, rfl⟩
    | infinity s2 =>
      by_cases q : s2 = s
      · exact Or.inr ⟨s2, by show (if s2 = s then some (Ieee.Datum.infinity s2) else none) = _; rw [if_pos q]⟩
      · exact Or.inl (by show (if s2 = s then some (Ieee.Datum.infinity s2) else none) = _; rw [if_neg q])
    | nan s2 t => exact Or.inl rfl
  · exact Or.inl (by cases a <;> rfl)

theorem opp_bad {b : Ieee.Datum} (h : (∃ s, b = .infinity s) ∨ ∃ s t, b = .nan s t) : (∃ s, b.opposite = .infinity s) ∨ ∃ s t, b.opposite = .nan s t := by
  rcases h with ⟨s, rfl⟩ | ⟨s, t, rfl⟩
  · exact Or.inl ⟨!s, rfl⟩
  · exact Or.inr ⟨!s, t, rfl⟩

theorem bad_read2 {x : Nat} (h : BadW x) : (∃ s, Ieee.single.read x = .infinity s) ∨ ∃ s t, Ieee.single.read x = .nan s t := by
  rcases bad_read h with ⟨s, q, _⟩ | q
  · exact Or.inl ⟨s, q⟩
  · exact Or.inr q

/-- What a sum or a difference of singles is, whatever they are, and how often the tape is asked. -/
def fRes (op : BinOp) (w : World) (x y : Nat) : Nat := match floatBits op .f32 x y with
  | some r => r
  | none => (Question.nanBits .f32 x y).cut (w.tape w.drawn (.nanBits .f32 x y))

def fDr (op : BinOp) (x y : Nat) : Nat := match floatBits op .f32 x y with
  | some _ => 0
  | none => 1

theorem run_fl {P : Program} (op : BinOp) (hop : op = .add ∨ op = .sub) (x y : Nat) (t : TypeId) (w : World) : (binOp op t (.float .f32 x) (.float .f32 y)).run P w = .ok (.float .f32 (fRes op w x y)) (w.drewN (fDr op x y)) := by
  unfold fRes fDr
  cases h : floatBits op .f32 x y with
  | some r => exact run_float_arith w op t .f32 x y r h
  | none =>
    rcases hop with rfl | rfl
    · have h2 : FloatKind.f32.format.add x y = none := h
      simp [binOp, Op.floatArith, h2, Question.forced]; rfl
    · have h2 : FloatKind.f32.format.sub x y = none := h
      simp [binOp, Op.floatArith, h2, Question.forced]; rfl

theorem bad_num (a b : Nat) (h1 : a < 2) (h2 : b < 8388607) : BadW (a * 2147483648 + 2139095040 + 1 + b) ∧ (a * 2147483648 + 2139095040 + 1 + b) % 2147483648 ≠ 2139095040 := by
  unfold BadW
  omega

theorem cut_bad (q x y : Nat) : BadW ((Question.nanBits .f32 x y).cut q) := by
  show BadW (q % 2 * 2 ^ 31 + 0x7f800000 + 1 + q / 2 % (2 ^ 23 - 1))
  exact (bad_num (q % 2) (q / 2 % (2 ^ 23 - 1)) (Nat.mod_lt _ (by decide)) (Nat.mod_lt _ (by decide))).1

theorem res_bad {op : BinOp} (hop : op = .add ∨ op = .sub) {w : World} {x y : Nat} (h : BadW x ∨ BadW y) : BadW (fRes op w x y) := by
  unfold fRes
  cases hf : floatBits op .f32 x y with
  | none => exact cut_bad _ _ _
  | some r =>
    show BadW r
    have key : ∀ a b : Ieee.Datum, (((∃ s, a = .infinity s) ∨ ∃ s t, a = .nan s t) ∨ ((∃ s, b = .infinity s) ∨ ∃ s t, b = .nan s t)) → (a.sum b).map Ieee.single.write = some r → BadW r := by
      intro a b q e
      rcases sum_bad q with q | ⟨s, q⟩
      · rw [q] at e; cases e
      · rw [q] at e
        have : Ieee.single.word s Ieee.single.infRung = r := Option.some.inj e
        rw [← this]
        exact bad_inf s
    rcases hop with rfl | rfl
    · refine key (Ieee.single.read x) (Ieee.single.read y) ?_ hf
      rcases h with h | h
      · exact Or.inl (bad_read2 h)
      · exact Or.inr (bad_read2 h)
    · refine key (Ieee.single.read x) (Ieee.single.read y).opposite ?_ hf
      rcases h with h | h
      · exact Or.inl (bad_read2 h)
      · exact Or.inr (opp_bad (bad_read2 h))

/-- A double that is no number. -/
def NaN64 (y : Nat) : Prop := ∃ s t, FloatKind.f64.decode y = .nan s t

theorem nan_of {n : Nat} (h : 9218868437227405312 < n % 9223372036854775808) : NaN64 n := by
  have e1 : Ieee.double.signWeight = 9223372036854775808 := by decide
  have e2 : Ieee.double.infRung = 9218868437227405312 := by decide
  have e3 : Ieee.double.binade = 4503599627370496 := by decide
  unfold NaN64
  show ∃ s t, Ieee.double.read n = .nan s t
  unfold Ieee.Format.read
  simp only [e1, e2, e3]
  rw [if_neg (by omega), if_neg (by omega), if_neg (by omega)]
  exact ⟨_, _, rfl⟩

theorem nan_num (a b : Nat) (h1 : a < 2) (h2 : b < 4503599627370495) : 9218868437227405312 < (a * 9223372036854775808 + 9218868437227405312 + 1 + b) % 9223372036854775808 := by omega

theorem nan_cut (q : Nat) : NaN64 (q % 2 * 2 ^ 63 + 0x7ff0000000000000 + 1 + q / 2 % (2 ^ 52 - 1)) :=
  nan_of (nan_num (q % 2) (q / 2 % (2 ^ 52 - 1)) (Nat.mod_lt _ (by decide)) (Nat.mod_lt _ (by decide)))

theorem nan_order {y z : Nat} (h : NaN64 y) : FloatKind.f64.format.order y z = none := by
  obtain ⟨s, t, h⟩ := h
  show (Ieee.double.read y).order _ = none
  have : Ieee.double.read y = .nan s t := h
  rw [this]
  rfl

/-- The double that comes of a single that is no number. -/
def nanD (w : World) (x : Nat) : Nat := (Question.nanConv .f64 x).cut (w.tape w.drawn (.nanConv .f64 x))

theorem nanD_nan (w : World) (x : Nat) : NaN64 (nanD w x) := nan_cut _

theorem run_widen (x : Nat) (h : ∃ s t, Ieee.single.read x = .nan s t) (w : World) : (convert 69 80 (.float .f32 x)).run Try.prog w = .ok (.float .f64 (nanD w x)) w.drew := by
  obtain ⟨s, t, h⟩ := h
  have h2 : FloatKind.f32.decode x = .nan s t := h
  have hu := Try.underlying69
  have hd := Try.underlying80
  simp [convert, run_underlying hu, run_underlying hd, Conv.floatToFloat, h2, Question.forced]; rfl

theorem isNaN_nan (y : Nat) (h : NaN64 y) (w : World) : Calls Try.prog 105 #[.float .f64 y] w fun rv w' => rv = .returned (.bool true) ∧ w = w' := by
  have o : FloatKind.f64.format.order y y = none := nan_order h
  go_enter Try.func105, Try.ntmps105
  go_wp2
  go_ret
  exact ⟨rfl, rfl⟩

theorem nearest_bad (e f : Int) (x : Nat) (hg : goodB e f = true) (h : BadW x) (w : World) : Calls Try.prog 70 #[fmt e f, .float .f32 x] w fun rv w' => rv = .returned (.float .f32 x) ∧ Ext w w' := by
  rcases bad_read h with ⟨s, _, hx⟩ | hn
  · rw [hx]
    exact nearest_ii e f s hg w
  · have CV := run_widen x hn
    have NA := Lib.hid (fun w0 w => isNaN_nan (nanD w0 x) (nanD_nan w0 x) w)
    go_enter Try.func70, Try.ntmps70
    go_wp2_with (go_at_call 105; refine (NA.out _ _).mono ?_; rintro rv w1 ⟨rfl, rfl⟩)
    go_ret
    exact ⟨rfl, Ext.auK⟩

/-- The size of a single that is no number. -/
def maxN (w : World) (x y : Nat) : Nat := (Question.nanMinMax .f32 true x y).cut (w.tape w.drawn (.nanMinMax .f32 true x y))

theorem maxN_nan (w : World) (x y : Nat) : ∃ s t, Ieee.single.read (maxN w x y) = .nan s t := by
  have hb : BadW (maxN w x y) ∧ (maxN w x y) % 2147483648 ≠ 2139095040 := by
    exact bad_num (w.tape w.drawn (.nanMinMax .f32 true x y) % 2) (w.tape w.drawn (.nanMinMax .f32 true x y) / 2 % (2 ^ 23 - 1)) (Nat.mod_lt _ (by decide)) (Nat.mod_lt _ (by decide))
  rcases bad_read hb.1 with ⟨s, _, hx⟩ | hn
  · exfalso
    apply hb.2
    rw [hx]
    cases s <;> decide
  · exact hn

theorem run_maxN {P : Program} (x y : Nat) (h : ∃ s t, Ieee.single.read x = .nan s t) (ts : Array TypeId) (t : TypeId) (w : World) : (Builtin.max_ ts t #[.float .f32 x, .float .f32 y]).run P w = .ok (.float .f32 (maxN w x y)) w.drew := by
  obtain ⟨s, u, h⟩ := h
  have o : FloatKind.f32.format.order x y = none := by
    show (Ieee.single.read x).order _ = none
    rw [h]; rfl
  have e : Builtin.max_ ts t #[.float .f32 x, .float .f32 y] = Builtin.max2 (.float .f32 x) (.float .f32 y) := by simp [Builtin.max_]
  rw [e]
  unfold Builtin.max2
  simp [o, Question.forced]; rfl

theorem sizeOf_nan (x : Nat) (h : ∃ s t, Ieee.single.read x = .nan s t) (w : World) : Calls Try.prog 119 #[.float .f32 x] w fun rv w' => ∃ z, rv = .returned (.float .f32 z) ∧ (∃ s t, Ieee.single.read z = .nan s t) ∧ Ext w w' := by
  have k1 : ∀ w, (Op.unary .neg (.float .f32 x)).run Try.prog w = .ok (.float .f32 (Op.negFloat .f32 x)) w := fun w => rfl
  have k2 := run_maxN (P := Try.prog) x (Op.negFloat .f32 x) h
  generalize Op.negFloat .f32 x = y at *
  go_enter Try.func119, Try.ntmps119
  go_wp2
  go_ret
  exact ⟨_, rfl, maxN_nan _ _ _, Ext.auK⟩

theorem archTrunc_nan (y : Nat) (h : NaN64 y) (w : World) : ∃ z n, (callFunc 157 #[.float .f64 y]).run Try.prog w = .ok (.value (.float .f64 z)) (w.drewN n) := by
  obtain ⟨s, t, h⟩ := h
  have e := run_callFunc_extern (e := Extern.MathFloor.toIntegral "math.archTrunc" .zero) Try.func157 (by kernel_rfl) (by kernel_rfl) (by kernel_rfl) (by kernel_rfl) #[.float .f64 y] w
  have key : ∃ z n, (Extern.MathFloor.toIntegral "math.archTrunc" .zero #[.float .f64 y]).run Try.prog w = .ok (.float .f64 z) (w.drewN n) := by
    have e2 : Extern.MathFloor.toIntegral "math.archTrunc" .zero #[.float .f64 y] = (if FloatKind.f64.format.quiet t = t then pure (.float .f64 y) else do
        let kept ← choose (.extern "math.Floor,Ceil,Trunc,RoundToEven.signallingNaN kept" 2)
        pure (.float .f64 (if kept == 1 then y else FloatKind.f64.encode (.nan s (FloatKind.f64.format.quiet t))))) := by
      unfold Extern.MathFloor.toIntegral
      generalize FloatKind.f64.decode = D at *
      generalize FloatKind.f64.encode = E at *
      conv => lhs; whnf
      rw [h]
    rw [e2]
    by_cases q : FloatKind.f64.format.quiet t = t
    · rw [if_pos q]
      exact ⟨y, 0, rfl⟩
    · rw [if_neg q]
      exact ⟨_, 1, by simp [Question.forced]; exact ⟨rfl, rfl⟩⟩
  obtain ⟨z, n, k⟩ := key
  exact ⟨z, n, e.trans (by rw [k]; rfl)⟩

theorem trunc_nan (y : Nat) (h : NaN64 y) (w : World) : Calls Try.prog 125 #[.float .f64 y] w fun rv w' => ∃ z, rv = .returned (.float .f64 z) ∧ Ext w w' := by
  obtain ⟨Z, N, q⟩ : ∃ (Z N : World → Nat), ∀ w, (callFunc 157 #[.float .f64 y]).run Try.prog w = .ok (.value (.float .f64 (Z w))) (w.drewN (N w)) :=
    ⟨fun w => (archTrunc_nan y h w).choose, fun w => (archTrunc_nan y h w).choose_spec.choose, fun w => (archTrunc_nan y h w).choose_spec.choose_spec⟩
  go_enter Try.func125, Try.ntmps125
  go_wp2
  go_ret
  exact ⟨_, rfl, Ext.auK⟩

theorem pv_bad (e f : Int) (x : Nat) (h : BadW x) (w : World) : Calls Try.prog 74 #[fmt e f, .float .f32 x] w fun rv w' => rv = .returned (.tuple #[.int .i64 0, .bool false]) ∧ Ext w w' := by
  rcases bad_read h with ⟨s, _, hx⟩ | hn
  · rw [hx]
    exact pv_inf e f s w
  · have SN := Lib.hid (fun w => sizeOf_nan x hn w)
    have TRN := Lib.hid (fun y hy w => trunc_nan y hy w)
    have ON : ∀ (w : World) (z y : Nat), FloatKind.f64.format.order (nanD w z) y = none := fun w z y => nan_order (nanD_nan w z)
    go_enter Try.func74, Try.ntmps74
    go_wp2_with (first | (go_at_call 119; refine (SN.out _).mono ?_; rintro rv w1 ⟨z, rfl, hz, hb⟩; have CV := run_widen z hz; clear hz; have ns : w.heap.size < w1.heap.size := hb.ltK; have n0 : w1.cell? ⟨w.heap.size, 0, none⟩ = some (.int .i64 e) := hb.cellK; have n1 : w1.cell? ⟨w.heap.size, 1, none⟩ = some (.int .i64 f) := hb.cellK; (first | (have nx := Ext.trans hx hb; clear hx) | (have nx := Ext.trans (hx.alloc _) hb; clear hx) | (have nx := Ext.trans hx.drew hb; clear hx) | have nx := hb); clear hb; try clear hs; try clear g0; try clear g1; have hx := nx; clear nx; have hs := ns; clear ns; have g0 := n0; clear n0; have g1 := n1; clear n1) | (go_at_call 125; refine (TRN.out _ (nanD_nan _ _) _).mono ?_; rintro rv w1 ⟨z2, rfl, hb⟩; have ns : w.heap.size < w1.heap.size := hb.ltK; have n0 : w1.cell? ⟨w.heap.size, 0, none⟩ = some (.int .i64 e) := hb.cellK; have n1 : w1.cell? ⟨w.heap.size, 1, none⟩ = some (.int .i64 f) := hb.cellK; (first | (have nx := Ext.trans hx hb; clear hx) | (have nx := Ext.trans (hx.alloc _) hb; clear hx) | (have nx := Ext.trans hx.drew hb; clear hx) | have nx := hb); clear hb; try clear hs; try clear g0; try clear g1; have hx := nx; clear nx; have hs := ns; clear ns; have g0 := n0; clear n0; have g1 := n1; clear n1))
    go_ret2
    exact ⟨rfl, Ext.auK⟩
end Go.Proofs.Ytjebechmedhidaa

namespace Go.Proofs.Ytjebechmedhidaa
open Go Go.RowKit
set_option linter.unusedSimpArgs false
set_option linter.unusedVariables false
set_option maxRecDepth 100000

/-- A single that is a value of the format, or bad. -/
def VBP (e f : Int) (x : Nat) : Prop := (∃ a, finB e f a = true ∧ x = cw (unitsV e f a)) ∨ BadW x

theorem zero_fin {e f : Int} (hg : goodB e f = true) : finB e f 0 = true ∧ unitsV e f 0 = 0 := by
  obtain ⟨z1, z2, z3⟩ := zero_ns hg
  have q1 := (ns_pat (u := 0) hg).2
  have q2 := ns_units hg z2
  rw [z1, z2] at q1
  rw [z1, z3] at q2
  exact ⟨q1, q2⟩

theorem vb_zero {e f : Int} (hg : goodB e f = true) : VBP e f 0 := by
  obtain ⟨z1, z2⟩ := zero_fin hg
  exact Or.inl ⟨0, z1, by rw [z2, zero_cw]⟩

theorem vb_nr {e f u : Int} (hg : goodB e f = true) : VBP e f (nrW e f (decide (u < 0)) (nsP e f u)) ∧ (nsB e f u = false → BadW (nrW e f (decide (u < 0)) (nsP e f u))) := by
  cases hB : nsB e f u
  · rw [nr_inf hB]
    exact ⟨Or.inr (bad_inf _), fun _ => bad_inf _⟩
  · refine ⟨Or.inl ⟨nsV e f u, fin_ns hg hB, ?_⟩, fun h => by cases h⟩
    rw [nr_cw hg hB, ns_units hg hB]

theorem good_word {e f a : Int} (ha : finB e f a = true) : ¬ BadW (cw (unitsV e f a)) := by
  intro h
  obtain ⟨m, k, h1, _⟩ := read_sw (decide (unitsV e f a < 0)) (ok_units ha)
  have h2 : Ieee.single.read (cw (unitsV e f a)) = .number (decide (unitsV e f a < 0)) m (Ieee.single.leastPlace + k) := h1
  rcases bad_read2 h with ⟨s, q⟩ | ⟨s, t, q⟩ <;> (rw [h2] at q; cases q)

theorem step_vb (e f : Int) (x y : Nat) (hg : goodB e f = true) (hx : VBP e f x) (hy : VBP e f y) (w0 w : World) :
    Calls Try.prog 70 #[fmt e f, .float .f32 (fRes .add w0 x y)] w fun rv w' => ∃ z, rv = .returned (.float .f32 z) ∧ (VBP e f z ∧ ((BadW x ∨ BadW y) → BadW z)) ∧ Ext w w' := by
  have bad : (BadW x ∨ BadW y) → Calls Try.prog 70 #[fmt e f, .float .f32 (fRes .add w0 x y)] w fun rv w' => ∃ z, rv = .returned (.float .f32 z) ∧ (VBP e f z ∧ ((BadW x ∨ BadW y) → BadW z)) ∧ Ext w w' := by
    intro h
    have hb := res_bad (op := .add) (Or.inl rfl) (w := w0) h
    refine (nearest_bad e f _ hg hb w).mono ?_
    rintro rv w' ⟨rfl, hx2⟩
    exact ⟨_, rfl, ⟨Or.inr hb, fun _ => hb⟩, hx2⟩
  rcases hx with ⟨a, ha, rfl⟩ | hx
  · rcases hy with ⟨b, hb2, rfl⟩ | hy
    · have e1 : fRes .add w0 (cw (unitsV e f a)) (cw (unitsV e f b)) = cw (unitsV e f a + unitsV e f b) := by
        unfold fRes
        rw [add_cw (ok_units ha) (ok_units hb2)]
      rw [e1]
      refine (nearest_sum e f a b ha hb2 w).mono ?_
      rintro rv w' ⟨rfl, hx2⟩
      refine ⟨_, rfl, ⟨(vb_nr hg).1, ?_⟩, hx2⟩
      rintro (h | h)
      · exact absurd h (good_word ha)
      · exact absurd h (good_word hb2)
    · exact bad (Or.inr hy)
  · exact bad (Or.inl hx)
end Go.Proofs.Ytjebechmedhidaa

namespace Go.Proofs.Ytjebechmedhidaa
open Go Go.RowKit
set_option linter.unusedSimpArgs false
set_option linter.unusedVariables false
set_option maxRecDepth 100000

/-- The first k patterns. -/
def patL (Q : Nat → Int) (k : Nat) : List Value := (List.range k).map (fun j => .int .i64 (Q j))

theorem patL_succ (Q : Nat → Int) (k : Nat) : patL Q (k + 1) = patL Q k ++ [.int .i64 (Q k)] := by unfold patL; rw [List.range_succ]; simp

set_option maxHeartbeats 3200000 in
theorem patternsOfAll_own (e f : Int) (X : Nat → Nat) (Q : Nat → Int) (n cap : Nat) (p : Option Addr) (hn : n ≤ 1000) (PX : ∀ i, i < n → ∀ w, Calls Try.prog 74 #[fmt e f, .float .f32 (X i)] w fun rv w' => rv = .returned (.tuple #[.int .i64 (Q i), .bool true]) ∧ Ext w w') (w : World) (hp : 0 < n → ∃ gl, p = some ⟨gl, 0, none⟩ ∧ gl < w.heap.size ∧ ∀ i, i < n → w.cell? ⟨gl, i, none⟩ = some (.float .f32 (X i))) :
    Calls Try.prog 59 #[fmt e f, .slice p n cap] w fun rv w' => ∃ v, rv = .returned (.tuple #[v, .bool true]) ∧ w'.ownsRow (w.heap.size + 1) 3 1 v n (patL Q n) ∧ Ext w w' := by
  have HPX := Lib.hid PX; clear PX
  obtain ⟨i, hi, hz, hsz, hby⟩ : ∃ i, Try.prog.info? 3 = some i ∧ i.zero = some (Value.int .i64 0) ∧ i.size = 1 ∧ i.bytes = 8 := by
    cases h : Try.prog.info? 3 with
    | none => exact absurd h (by have : (Try.prog.info? 3).isSome = true := by kernel_rfl
                                 intro h2; rw [h2] at this; cases this)
    | some i =>
      refine ⟨i, rfl, ?_, ?_, ?_⟩
      · have : (Try.prog.info? 3).map (·.zero) = some (some (Value.int .i64 0)) := by kernel_rfl
        rw [h] at this; exact Option.some.inj this
      · have : (Try.prog.info? 3).map (·.size) = some 1 := by kernel_rfl
        rw [h] at this; exact Option.some.inj this
      · have : (Try.prog.info? 3).map (·.bytes) = some 8 := by kernel_rfl
        rw [h] at this; exact Option.some.inj this
  have HI := Lib.hid hi; have HZ := Lib.hid hz; have HSZ := Lib.hid hsz; have HBY := Lib.hid hby; clear hi hz hsz hby
  go_enter Try.func59, Try.ntmps59
  go_wp2_with fail
  have own0 := (World.ownsRow_lit (base := w.heap.size + 1) (e := 3) (size := 1) (w.alloc (.cells #[.int .i64 e, .int .i64 f] 26)) #[] 0 (by simp) (by decide) rfl)
  rw [World.size_alloc] at own0
  have OWN := Lib.hid own0; clear own0
  have k0 : ((w.alloc (.cells #[.int .i64 e, .int .i64 f] 26)).alloc (.cells #[] 3)).cell? ⟨w.heap.size, 0, none⟩ = some (.int .i64 e) := (cell_alloc_before _ _ _ 0 (by simp)).trans (by simp)
  have k1 : ((w.alloc (.cells #[.int .i64 e, .int .i64 f] 26)).alloc (.cells #[] 3)).cell? ⟨w.heap.size, 1, none⟩ = some (.int .i64 f) := (cell_alloc_before _ _ _ 1 (by simp)).trans (by simp [go_sem])
  have hx1 : Ext w ((w.alloc (.cells #[.int .i64 e, .int .i64 f] 26)).alloc (.cells #[] 3)) := (Ext.new _ _).alloc _
  have hz1 : w.heap.size + 1 < ((w.alloc (.cells #[.int .i64 e, .int .i64 f] 26)).alloc (.cells #[] 3)).heap.size := by simp
  go_loopw [6, 14] (fun v x wr => ∃ k : Nat, x = .int .i64 (k : Int) ∧ k ≤ n ∧ wr.ownsRow (w.heap.size + 1) 3 1 v k (patL Q k) ∧ wr.cell? ⟨w.heap.size, 0, none⟩ = some (.int .i64 e) ∧ wr.cell? ⟨w.heap.size, 1, none⟩ = some (.int .i64 f) ∧ Ext w wr ∧ w.heap.size + 1 < wr.heap.size) (fun _ x _ => n - (intOf x).toNat)
  case atStart => exact ⟨0, rfl, by omega, OWN.out, k0, k1, hx1, hz1⟩
  case round =>
    clear OWN k0 k1 hx1 hz1
    obtain ⟨k, rfl, hk, OWN0, g0, g1, hx, hs⟩ := hrel
    have OWN := Lib.hid OWN0; clear OWN0
    by_cases hlt : k < n
    · obtain ⟨gl, rfl, hgl, hcl⟩ := hp (by omega)
      have hlt2 : k < n := hlt
      have h1 : ((k : Nat) : Int) < (n : Int) := by omega
      have h0 : (0 : Int) ≤ (k : Int) := by omega
      have h2 : ((k : Int)).toNat = k := by omega
      have u1 : IntKind.i64.wrap ((k : Int) + 1) = (k : Int) + 1 := IntWalk.i64_in _ (by omega)
      have ga : wr.cell? ⟨gl, k, none⟩ = some (.float .f32 (X k)) := (hx.cells _ _ hgl).trans (hcl k hlt2)
      have PK := Lib.hid (fun w => HPX.out k hlt w)
      generalize X k = xk at *
      generalize hQ : Q k = qk at *
      have HQ := Lib.hid hQ; clear hQ
      go_wp2_with (first | (go_at_call 74; refine (PK.out _).mono ?_; rintro rv w1 ⟨rfl, hb⟩; (first | (have OWN9 := Lib.hid (own_ext OWN.out hb); clear OWN; have OWN := OWN9; clear OWN9) | (have OWN9 := Lib.hid (own_ext (own_ext OWN.out (Ext.new _ _)) hb); clear OWN; have OWN := OWN9; clear OWN9)); have ns : w.heap.size + 1 < w1.heap.size := hb.ltK; have n0 : w1.cell? ⟨w.heap.size, 0, none⟩ = some (.int .i64 e) := hb.cellK; have n1 : w1.cell? ⟨w.heap.size, 1, none⟩ = some (.int .i64 f) := hb.cellK; (first | (have nx := Ext.trans hx hb; clear hx) | (have nx := Ext.trans (hx.alloc _) hb; clear hx) | (have nx := Ext.trans hx.drew hb; clear hx) | have nx := hb); clear hb; try clear hs; try clear g0; try clear g1; have hx := nx; clear nx; have hs := ns; clear ns; have g0 := n0; clear n0; have g1 := n1; clear n1) | (at_builtin; (refine wpList_append_own _ rfl (.tmp 26) (.tmp 28) 29 rfl (w.heap.size + 1) 3 i _ 1 8 Try.underlying29 HI.out HZ.out HSZ.out HBY.out rfl (by decide) _ k (patL Q k) rfl (own_ext OWN.out (Ext.new _ _)) _ 1 1 [.int .i64 qk] rfl rfl (fun j u hj => by cases j with | zero => (simp at hj; subst hj; simp [go_sem, Addr.add]) | succ j => simp at hj) (by simp [Value.oneCell']) (by simp [maxLen]; omega) (by omega) (by simp; omega) ?_); intro v9 w9 OWN8 hgr _; have hne : ∀ k, k < w.heap.size + 1 → some k ≠ Value.ownBlock u6 := fun k hk h => (by have := (World.ownsRow.lt OWN.out _ h.symm).1; omega); have c0 : w9.cell? ⟨w.heap.size, 0, none⟩ = some (.int .i64 e) := hgr.cell ((cell_alloc_before _ _ (w.heap.size) 0 (by omega)).trans (by with_reducible assumption)) (hne (w.heap.size) (by omega)); have c1 : w9.cell? ⟨w.heap.size, 1, none⟩ = some (.int .i64 f) := hgr.cell ((cell_alloc_before _ _ (w.heap.size) 1 (by omega)).trans (by with_reducible assumption)) (hne (w.heap.size) (by omega)); have sz : w1.heap.size + 1 ≤ w9.heap.size := (by have h := hgr.size; rwa [World.size_alloc] at h); have hs9 : w.heap.size + 1 < w9.heap.size := (by omega); have hx9 : Ext w w9 := ext_grown Ext.auK hgr (fun k hk => by have := (World.ownsRow.lt OWN.out k hk).1; omega); have OWN7 : RowKit.Hid (w9.ownsRow (w.heap.size + 1) 3 1 v9 (k + 1) (patL Q k ++ [.int .i64 qk])) := OWN8; clear OWN OWN8 hne hgr; have OWN := OWN7; clear OWN7))
      go_roundw
      case rel => exact ⟨k + 1, by simp, by omega, by rw [patL_succ, HQ.out]; exact OWN.out, c0, c1, hx9, hs9⟩
      case measure => simp [intOf]; omega
    · have h1 : ¬ ((k : Nat) : Int) < (n : Int) := by omega
      have hkn : k = n := by omega
      go_wp2_with fail
      go_ret2
      subst hkn
      exact ⟨u6, rfl, OWN.out, hx⟩

set_option maxHeartbeats 3200000 in
theorem patternsOfAll_stop (e f : Int) (X : Nat → Nat) (Q : Nat → Int) (n cap m : Nat) (p : Option Addr) (hn : n ≤ 1000) (hm : m < n) (PX : ∀ i, i < m → ∀ w, Calls Try.prog 74 #[fmt e f, .float .f32 (X i)] w fun rv w' => rv = .returned (.tuple #[.int .i64 (Q i), .bool true]) ∧ Ext w w') (PN : ∀ w, Calls Try.prog 74 #[fmt e f, .float .f32 (X m)] w fun rv w' => rv = .returned (.tuple #[.int .i64 0, .bool false]) ∧ Ext w w') (w : World) (hp : 0 < n → ∃ gl, p = some ⟨gl, 0, none⟩ ∧ gl < w.heap.size ∧ ∀ i, i < n → w.cell? ⟨gl, i, none⟩ = some (.float .f32 (X i))) :
    Calls Try.prog 59 #[fmt e f, .slice p n cap] w fun rv w' => rv = .returned (.tuple #[.slice none 0 0, .bool false]) ∧ Ext w w' := by
  have HPX := Lib.hid PX; clear PX
  have HPN := Lib.hid PN; clear PN
  obtain ⟨i, hi, hz, hsz, hby⟩ : ∃ i, Try.prog.info? 3 = some i ∧ i.zero = some (Value.int .i64 0) ∧ i.size = 1 ∧ i.bytes = 8 := by
    cases h : Try.prog.info? 3 with
    | none => exact absurd h (by have : (Try.prog.info? 3).isSome = true := by kernel_rfl
                                 intro h2; rw [h2] at this; cases this)
    | some i =>
      refine ⟨i, rfl, ?_, ?_, ?_⟩
      · have : (Try.prog.info? 3).map (·.zero) = some (some (Value.int .i64 0)) := by kernel_rfl
        rw [h] at this; exact Option.some.inj this
      · have : (Try.prog.info? 3).map (·.size) = some 1 := by kernel_rfl
        rw [h] at this; exact Option.some.inj this
      · have : (Try.prog.info? 3).map (·.bytes) = some 8 := by kernel_rfl
        rw [h] at this; exact Option.some.inj this
  have HI := Lib.hid hi; have HZ := Lib.hid hz; have HSZ := Lib.hid hsz; have HBY := Lib.hid hby; clear hi hz hsz hby
  go_enter Try.func59, Try.ntmps59
  go_wp2_with fail
  have own0 := (World.ownsRow_lit (base := w.heap.size + 1) (e := 3) (size := 1) (w.alloc (.cells #[.int .i64 e, .int .i64 f] 26)) #[] 0 (by simp) (by decide) rfl)
  rw [World.size_alloc] at own0
  have OWN := Lib.hid own0; clear own0
  have k0 : ((w.alloc (.cells #[.int .i64 e, .int .i64 f] 26)).alloc (.cells #[] 3)).cell? ⟨w.heap.size, 0, none⟩ = some (.int .i64 e) := (cell_alloc_before _ _ _ 0 (by simp)).trans (by simp)
  have k1 : ((w.alloc (.cells #[.int .i64 e, .int .i64 f] 26)).alloc (.cells #[] 3)).cell? ⟨w.heap.size, 1, none⟩ = some (.int .i64 f) := (cell_alloc_before _ _ _ 1 (by simp)).trans (by simp [go_sem])
  have hx1 : Ext w ((w.alloc (.cells #[.int .i64 e, .int .i64 f] 26)).alloc (.cells #[] 3)) := (Ext.new _ _).alloc _
  have hz1 : w.heap.size + 1 < ((w.alloc (.cells #[.int .i64 e, .int .i64 f] 26)).alloc (.cells #[] 3)).heap.size := by simp
  go_loopw [6, 14] (fun v x wr => ∃ k : Nat, x = .int .i64 (k : Int) ∧ k ≤ m ∧ wr.ownsRow (w.heap.size + 1) 3 1 v k (patL Q k) ∧ wr.cell? ⟨w.heap.size, 0, none⟩ = some (.int .i64 e) ∧ wr.cell? ⟨w.heap.size, 1, none⟩ = some (.int .i64 f) ∧ Ext w wr ∧ w.heap.size + 1 < wr.heap.size) (fun _ x _ => n - (intOf x).toNat)
  case atStart => exact ⟨0, rfl, by omega, OWN.out, k0, k1, hx1, hz1⟩
  case round =>
    clear OWN k0 k1 hx1 hz1
    obtain ⟨k, rfl, hk, OWN0, g0, g1, hx, hs⟩ := hrel
    have OWN := Lib.hid OWN0; clear OWN0
    have hlt2 : k < n := by omega
    obtain ⟨gl, rfl, hgl, hcl⟩ := hp (by omega)
    have h1 : ((k : Nat) : Int) < (n : Int) := by omega
    have h0 : (0 : Int) ≤ (k : Int) := by omega
    have h2 : ((k : Int)).toNat = k := by omega
    have u1 : IntKind.i64.wrap ((k : Int) + 1) = (k : Int) + 1 := IntWalk.i64_in _ (by omega)
    have ga : wr.cell? ⟨gl, k, none⟩ = some (.float .f32 (X k)) := (hx.cells _ _ hgl).trans (hcl k hlt2)
    by_cases hlt : k < m
    · have PK := Lib.hid (fun w => HPX.out k hlt w)
      generalize X k = xk at *
      generalize hQ : Q k = qk at *
      have HQ := Lib.hid hQ; clear hQ
      go_wp2_with (first | (go_at_call 74; refine (PK.out _).mono ?_; rintro rv w1 ⟨rfl, hb⟩; (first | (have OWN9 := Lib.hid (own_ext OWN.out hb); clear OWN; have OWN := OWN9; clear OWN9) | (have OWN9 := Lib.hid (own_ext (own_ext OWN.out (Ext.new _ _)) hb); clear OWN; have OWN := OWN9; clear OWN9)); have ns : w.heap.size + 1 < w1.heap.size := hb.ltK; have n0 : w1.cell? ⟨w.heap.size, 0, none⟩ = some (.int .i64 e) := hb.cellK; have n1 : w1.cell? ⟨w.heap.size, 1, none⟩ = some (.int .i64 f) := hb.cellK; (first | (have nx := Ext.trans hx hb; clear hx) | (have nx := Ext.trans (hx.alloc _) hb; clear hx) | (have nx := Ext.trans hx.drew hb; clear hx) | have nx := hb); clear hb; try clear hs; try clear g0; try clear g1; have hx := nx; clear nx; have hs := ns; clear ns; have g0 := n0; clear n0; have g1 := n1; clear n1) | (at_builtin; (refine wpList_append_own _ rfl (.tmp 26) (.tmp 28) 29 rfl (w.heap.size + 1) 3 i _ 1 8 Try.underlying29 HI.out HZ.out HSZ.out HBY.out rfl (by decide) _ k (patL Q k) rfl (own_ext OWN.out (Ext.new _ _)) _ 1 1 [.int .i64 qk] rfl rfl (fun j u hj => by cases j with | zero => (simp at hj; subst hj; simp [go_sem, Addr.add]) | succ j => simp at hj) (by simp [Value.oneCell']) (by simp [maxLen]; omega) (by omega) (by simp; omega) ?_); intro v9 w9 OWN8 hgr _; have hne : ∀ k, k < w.heap.size + 1 → some k ≠ Value.ownBlock u6 := fun k hk h => (by have := (World.ownsRow.lt OWN.out _ h.symm).1; omega); have c0 : w9.cell? ⟨w.heap.size, 0, none⟩ = some (.int .i64 e) := hgr.cell ((cell_alloc_before _ _ (w.heap.size) 0 (by omega)).trans (by with_reducible assumption)) (hne (w.heap.size) (by omega)); have c1 : w9.cell? ⟨w.heap.size, 1, none⟩ = some (.int .i64 f) := hgr.cell ((cell_alloc_before _ _ (w.heap.size) 1 (by omega)).trans (by with_reducible assumption)) (hne (w.heap.size) (by omega)); have sz : w1.heap.size + 1 ≤ w9.heap.size := (by have h := hgr.size; rwa [World.size_alloc] at h); have hs9 : w.heap.size + 1 < w9.heap.size := (by omega); have hx9 : Ext w w9 := ext_grown Ext.auK hgr (fun k hk => by have := (World.ownsRow.lt OWN.out k hk).1; omega); have OWN7 : RowKit.Hid (w9.ownsRow (w.heap.size + 1) 3 1 v9 (k + 1) (patL Q k ++ [.int .i64 qk])) := OWN8; clear OWN OWN8 hne hgr; have OWN := OWN7; clear OWN7))
      go_roundw
      case rel => exact ⟨k + 1, by simp, by omega, by rw [patL_succ, HQ.out]; exact OWN.out, c0, c1, hx9, hs9⟩
      case measure => simp [intOf]; omega
    · have hkm : k = m := by omega
      subst hkm
      have PK := HPN
      generalize X k = xk at *
      go_wp2_with (go_at_call 74; refine (PK.out _).mono ?_; rintro rv w1 ⟨rfl, hb⟩; have ns : w.heap.size + 1 < w1.heap.size := hb.ltK; have n0 : w1.cell? ⟨w.heap.size, 0, none⟩ = some (.int .i64 e) := hb.cellK; have n1 : w1.cell? ⟨w.heap.size, 1, none⟩ = some (.int .i64 f) := hb.cellK; (first | (have nx := Ext.trans hx hb; clear hx) | (have nx := Ext.trans (hx.alloc _) hb; clear hx) | (have nx := Ext.trans hx.drew hb; clear hx) | have nx := hb); clear hb; try clear hs; try clear g0; try clear g1; have hx := nx; clear nx; have hs := ns; clear ns; have g0 := n0; clear n0; have g1 := n1; clear n1)
      go_ret2
      exact ⟨rfl, Ext.auK⟩
end Go.Proofs.Ytjebechmedhidaa

namespace Go.Proofs.Ytjebechmedhidaa
open Go Go.RowKit
set_option linter.unusedSimpArgs false
set_option linter.unusedVariables false
set_option maxRecDepth 100000

noncomputable def sx0 (e f a b : Int) : Int := nsV e f ((unitsV e f a) + (unitsV e f b))

noncomputable def sb0 (e f a b : Int) : Bool := nsB e f ((unitsV e f a) + (unitsV e f b))

noncomputable def sw0 (e f a b : Int) : Nat := (nrW e f (decide (((unitsV e f a) + (unitsV e f b)) < 0)) (nsP e f ((unitsV e f a) + (unitsV e f b))))

noncomputable def sx1 (e f a b : Int) : Int := nsV e f (unitsV e f (sx0 e f a b) - (unitsV e f a))

noncomputable def sb1 (e f a b : Int) : Bool := nsB e f (unitsV e f (sx0 e f a b) - (unitsV e f a))

noncomputable def sw1 (e f a b : Int) : Nat := (nrW e f (decide ((unitsV e f (sx0 e f a b) - (unitsV e f a)) < 0)) (nsP e f (unitsV e f (sx0 e f a b) - (unitsV e f a))))

noncomputable def sx2 (e f a b : Int) : Int := nsV e f (unitsV e f (sx0 e f a b) - unitsV e f (sx1 e f a b))

noncomputable def sb2 (e f a b : Int) : Bool := nsB e f (unitsV e f (sx0 e f a b) - unitsV e f (sx1 e f a b))

noncomputable def sw2 (e f a b : Int) : Nat := (nrW e f (decide ((unitsV e f (sx0 e f a b) - unitsV e f (sx1 e f a b)) < 0)) (nsP e f (unitsV e f (sx0 e f a b) - unitsV e f (sx1 e f a b))))

noncomputable def sx3 (e f a b : Int) : Int := nsV e f ((unitsV e f a) - unitsV e f (sx2 e f a b))

noncomputable def sb3 (e f a b : Int) : Bool := nsB e f ((unitsV e f a) - unitsV e f (sx2 e f a b))

noncomputable def sw3 (e f a b : Int) : Nat := (nrW e f (decide (((unitsV e f a) - unitsV e f (sx2 e f a b)) < 0)) (nsP e f ((unitsV e f a) - unitsV e f (sx2 e f a b))))

noncomputable def sx4 (e f a b : Int) : Int := nsV e f ((unitsV e f b) - unitsV e f (sx1 e f a b))

noncomputable def sb4 (e f a b : Int) : Bool := nsB e f ((unitsV e f b) - unitsV e f (sx1 e f a b))

noncomputable def sw4 (e f a b : Int) : Nat := (nrW e f (decide (((unitsV e f b) - unitsV e f (sx1 e f a b)) < 0)) (nsP e f ((unitsV e f b) - unitsV e f (sx1 e f a b))))

noncomputable def sx5 (e f a b : Int) : Int := nsV e f (unitsV e f (sx3 e f a b) + unitsV e f (sx4 e f a b))

noncomputable def sb5 (e f a b : Int) : Bool := nsB e f (unitsV e f (sx3 e f a b) + unitsV e f (sx4 e f a b))

noncomputable def sw5 (e f a b : Int) : Nat := (nrW e f (decide ((unitsV e f (sx3 e f a b) + unitsV e f (sx4 e f a b)) < 0)) (nsP e f (unitsV e f (sx3 e f a b) + unitsV e f (sx4 e f a b))))

/-- The six steps, whether they fit, and their singles. -/
noncomputable def sixP (e f a b : Int) : Nat → Int
  | 0 => sx0 e f a b
  | 1 => sx1 e f a b
  | 2 => sx2 e f a b
  | 3 => sx3 e f a b
  | 4 => sx4 e f a b
  | _ => sx5 e f a b

noncomputable def sixB (e f a b : Int) : Nat → Bool
  | 0 => sb0 e f a b
  | 1 => sb1 e f a b
  | 2 => sb2 e f a b
  | 3 => sb3 e f a b
  | 4 => sb4 e f a b
  | _ => sb5 e f a b

noncomputable def sixW (e f a b : Int) : Nat → Nat
  | 0 => sw0 e f a b
  | 1 => sw1 e f a b
  | 2 => sw2 e f a b
  | 3 => sw3 e f a b
  | 4 => sw4 e f a b
  | _ => sw5 e f a b

def pick6 (s t u v w z : Nat) : Nat → Nat
  | 0 => s
  | 1 => t
  | 2 => u
  | 3 => v
  | 4 => w
  | _ => z

theorem six_pv (e f a b : Int) (hg : goodB e f = true) (i : Nat) (h : sixB e f a b i = true) (w : World) : Calls Try.prog 74 #[fmt e f, .float .f32 (sixW e f a b i)] w fun rv w' => rv = .returned (.tuple #[.int .i64 (sixP e f a b i), .bool true]) ∧ Ext w w' := by
  have key : ∀ u, nsB e f u = true → ∀ w, Calls Try.prog 74 #[fmt e f, .float .f32 (nrW e f (decide (u < 0)) (nsP e f u))] w fun rv w' => rv = .returned (.tuple #[.int .i64 (nsV e f u), .bool true]) ∧ Ext w w' := fun u hu w => by
    have := pv_ns e f u hg w
    rw [show nsR e f u = nsV e f u from if_pos hu, hu] at this
    exact this
  match i, h with
  | 0, h => exact key _ h w
  | 1, h => exact key _ h w
  | 2, h => exact key _ h w
  | 3, h => exact key _ h w
  | 4, h => exact key _ h w
  | (n + 5), h => exact key _ h w

theorem six_bad (e f a b : Int) (i : Nat) (h : sixB e f a b i = false) : BadW (sixW e f a b i) := by
  have key : ∀ u, nsB e f u = false → BadW (nrW e f (decide (u < 0)) (nsP e f u)) := fun u hu => by rw [nr_inf hu]; exact bad_inf _
  match i, h with
  | 0, h => exact key _ h
  | 1, h => exact key _ h
  | 2, h => exact key _ h
  | 3, h => exact key _ h
  | 4, h => exact key _ h
  | (n + 5), h => exact key _ h

/-- A value with its sign, or that with the other one, or a bad single. -/
def VBY (e f : Int) (y : Nat) : Prop := VBP e f y ∨ ∃ b, finB e f b = true ∧ y = ncw (unitsV e f b)

theorem bad_neg {x : Nat} (h : BadW x) : BadW (Op.negFloat .f32 x) := by
  obtain ⟨h1, h2⟩ := h
  show BadW (x ^^^ 2147483648)
  have e1 : (x ^^^ 2147483648) % 2147483648 = x % 2147483648 := by
    have := Nat.xor_mod_two_pow (a := x) (b := 2147483648) (n := 31)
    rw [show (2 : Nat) ^ 31 = 2147483648 from rfl, Nat.mod_self, Nat.xor_zero] at this
    exact this
  have e2 : x ^^^ 2147483648 < 4294967296 := by
    have := Nat.xor_lt_two_pow (x := x) (y := 2147483648) (n := 32) h2 (by decide)
    exact this
  exact ⟨by rw [e1]; exact h1, e2⟩

theorem vby_neg {e f : Int} {x : Nat} (h : VBP e f x) : VBY e f (Op.negFloat .f32 x) ∧ (BadW x → BadW (Op.negFloat .f32 x)) := by
  rcases h with ⟨a, ha, rfl⟩ | h
  · exact ⟨Or.inr ⟨a, ha, neg_cw (ok_units ha)⟩, fun q => absurd q (good_word ha)⟩
  · exact ⟨Or.inl (Or.inr (bad_neg h)), fun _ => bad_neg h⟩

theorem good_nword {e f a : Int} (ha : finB e f a = true) : ¬ BadW (ncw (unitsV e f a)) := by
  intro h
  obtain ⟨m, k, h1, _⟩ := read_sw (!decide (unitsV e f a < 0)) (ok_units ha)
  have h2 : Ieee.single.read (ncw (unitsV e f a)) = .number (!decide (unitsV e f a < 0)) m (Ieee.single.leastPlace + k) := h1
  rcases bad_read2 h with ⟨s, q⟩ | ⟨s, t, q⟩ <;> (rw [h2] at q; cases q)

theorem step_vy (e f : Int) (x y : Nat) (hg : goodB e f = true) (hx : VBP e f x) (hy : VBY e f y) (w0 w : World) :
    Calls Try.prog 70 #[fmt e f, .float .f32 (fRes .add w0 x y)] w fun rv w' => ∃ z, rv = .returned (.float .f32 z) ∧ (VBP e f z ∧ ((BadW x ∨ BadW y) → BadW z)) ∧ Ext w w' := by
  rcases hy with hy | ⟨b, hb2, rfl⟩
  · exact step_vb e f x y hg hx hy w0 w
  · rcases hx with ⟨a, ha, rfl⟩ | hx
    · have e1 : fRes .add w0 (cw (unitsV e f a)) (ncw (unitsV e f b)) = cw (unitsV e f a - unitsV e f b) := by
        unfold fRes
        rw [add_ncw (ok_units ha) (ok_units hb2)]
      rw [e1]
      refine (nearest_dif e f a b ha hb2 w).mono ?_
      rintro rv w' ⟨rfl, hx2⟩
      refine ⟨_, rfl, ⟨(vb_nr hg).1, ?_⟩, hx2⟩
      rintro (h | h)
      · exact absurd h (good_word ha)
      · exact absurd h (good_nword hb2)
    · have hb := res_bad (op := .add) (Or.inl rfl) (w := w0) (y := ncw (unitsV e f b)) (Or.inl hx)
      refine (nearest_bad e f _ hg hb w).mono ?_
      rintro rv w' ⟨rfl, hx2⟩
      exact ⟨_, rfl, ⟨Or.inr hb, fun _ => hb⟩, hx2⟩

set_option maxHeartbeats 1600000 in
theorem near2_vy (e f : Int) (x0 x1 : Nat) (gl cap : Nat) (hg : goodB e f = true) (h0 : VBP e f x0) (h1 : VBY e f x1) (w : World) (c0 : w.cell? ⟨gl, 0, none⟩ = some (.float .f32 x0)) (c1 : w.cell? ⟨gl, 1, none⟩ = some (.float .f32 x1)) (hgl : gl < w.heap.size) :
    Calls Try.prog 58 #[fmt e f, .slice (some ⟨gl, 0, none⟩) 2 cap] w fun rv w' => ∃ z, rv = .returned (.float .f32 z) ∧ VBP e f z ∧ ((BadW x0 ∨ BadW x1) → BadW z) ∧ Ext w w' := by
  have A0 : ∀ (a b : Nat) (t : TypeId) (w : World), (binOp .add t (.float .f32 a) (.float .f32 b)).run Try.prog w = .ok (.float .f32 (fRes .add w a b)) (w.drewN (fDr .add a b)) := fun a b t w => run_fl .add (Or.inl rfl) a b t w
  have N0 := Lib.hid (fun w0 w => step_vb e f 0 x0 hg (vb_zero hg) h0 w0 w)
  have N1 := Lib.hid (fun z hz w0 w => step_vy e f z x1 hg hz h1 w0 w)
  clear h0 h1
  go_enter Try.func58, Try.ntmps58
  go_wp2_with fail
  refine wp_loop_rounds 3 ?_
  rw [rounds_succ]
  go_wp2_with (go_at_call 70; refine (N0.out _ _).mono ?_; rintro rv w1 ⟨z1, rfl, hz, hb⟩; have HZ := Lib.hid hz; clear hz; have ns : max w.heap.size gl < w1.heap.size := hb.ltK; have n0 : w1.cell? ⟨w.heap.size, 0, none⟩ = some (.int .i64 e) := hb.cellK; have n1 : w1.cell? ⟨w.heap.size, 1, none⟩ = some (.int .i64 f) := hb.cellK; have n2 : w1.cell? ⟨gl, 0, none⟩ = some (.float .f32 x0) := hb.cellK; have n3 : w1.cell? ⟨gl, 1, none⟩ = some (.float .f32 x1) := hb.cellK; (first | (have nx := Ext.trans hx hb; clear hx) | (have nx := Ext.trans (hx.alloc _) hb; clear hx) | (have nx := Ext.trans hx.drew hb; clear hx) | have nx := hb); clear hb; try clear hs; try clear g0; try clear g1; try clear g2; try clear g3; have hx := nx; clear nx; have hs := ns; clear ns; have g0 := n0; clear n0; have g1 := n1; clear n1; have g2 := n2; clear n2; have g3 := n3; clear n3)
  rw [rounds_succ]
  go_wp2_with (go_at_call 70; refine (N1.out _ HZ.out.1 _ _).mono ?_; rintro rv w2 ⟨z2, rfl, hz, hb⟩; have HZ2 := Lib.hid hz; clear hz; have ns : w.heap.size < w2.heap.size := hb.ltK; have n0 : w2.cell? ⟨w.heap.size, 0, none⟩ = some (.int .i64 e) := hb.cellK; have n1 : w2.cell? ⟨w.heap.size, 1, none⟩ = some (.int .i64 f) := hb.cellK; (first | (have nx := Ext.trans hx hb; clear hx) | (have nx := Ext.trans (hx.alloc _) hb; clear hx) | (have nx := Ext.trans hx.drew hb; clear hx) | have nx := hb); clear hb; try clear hs; try clear g0; try clear g1; have hx := nx; clear nx; have hs := ns; clear ns; have g0 := n0; clear n0; have g1 := n1; clear n1)
  rw [rounds_succ]
  go_wp2_with fail
  go_ret
  exact ⟨z2, rfl, HZ2.out.1, fun q => HZ2.out.2 (q.elim (fun h => Or.inl (HZ.out.2 (Or.inr h))) Or.inr), Ext.auK⟩

/-- near of a value less another one. -/
theorem near_sub (e f a b : Int) (ha : finB e f a = true) (hb2 : finB e f b = true) (gl cap : Nat) (w : World) (c0 : w.cell? ⟨gl, 0, none⟩ = some (.float .f32 (cw (unitsV e f a)))) (c1 : w.cell? ⟨gl, 1, none⟩ = some (.float .f32 (ncw (unitsV e f b)))) (hgl : gl < w.heap.size) :
    Calls Try.prog 58 #[fmt e f, .slice (some ⟨gl, 0, none⟩) 2 cap] w fun rv w' => rv = .returned (.float .f32 (nrW e f (decide (unitsV e f a - unitsV e f b < 0)) (nsP e f (unitsV e f a - unitsV e f b)))) ∧ Ext w w' :=
  near2G e f _ _ _ _ _ _ gl cap (add_zero_cw (ok_units ha)) (fun w => nearest_val e f a ha w) (add_ncw (ok_units ha) (ok_units hb2)) (fun w => nearest_dif e f a b ha hb2 w) w c0 c1 hgl
end Go.Proofs.Ytjebechmedhidaa

namespace Go.Proofs.Ytjebechmedhidaa
open Go Go.RowKit
set_option linter.unusedSimpArgs false
set_option linter.unusedVariables false
set_option maxRecDepth 100000

theorem vb_of {e f a : Int} (ha : finB e f a = true) : VBP e f (cw (unitsV e f a)) := Or.inl ⟨a, ha, rfl⟩

theorem own_base {w : World} {B B2 size n : Nat} {e : TypeId} {v : Value} {xs : List Value} (h : w.ownsRow B e size v n xs) (hb : B2 ≤ B) : w.ownsRow B2 e size v n xs :=
  ⟨h.1, h.2.imp id (fun ⟨g, cap, cur, a, b, c⟩ => ⟨g, cap, cur, a, Nat.le_trans hb b, c⟩)⟩

theorem sw_val (e f a b : Int) (hg : (finB e f a && finB e f b) = true) : ((sb0 e f a b = true → finB e f (sx0 e f a b) = true ∧ sw0 e f a b = cw (unitsV e f (sx0 e f a b))) ∧ (sb1 e f a b = true → finB e f (sx1 e f a b) = true ∧ sw1 e f a b = cw (unitsV e f (sx1 e f a b))) ∧ (sb2 e f a b = true → finB e f (sx2 e f a b) = true ∧ sw2 e f a b = cw (unitsV e f (sx2 e f a b))) ∧ (sb3 e f a b = true → finB e f (sx3 e f a b) = true ∧ sw3 e f a b = cw (unitsV e f (sx3 e f a b))) ∧ (sb4 e f a b = true → finB e f (sx4 e f a b) = true ∧ sw4 e f a b = cw (unitsV e f (sx4 e f a b))) ∧ (sb5 e f a b = true → finB e f (sx5 e f a b) = true ∧ sw5 e f a b = cw (unitsV e f (sx5 e f a b)))) := by
  obtain ⟨ha, hb2⟩ : finB e f a = true ∧ finB e f b = true := by simpa using hg
  obtain ⟨hgg, _⟩ := fin_size ha
  have key : ∀ u, nsB e f u = true → finB e f (nsV e f u) = true ∧ nrW e f (decide (u < 0)) (nsP e f u) = cw (unitsV e f (nsV e f u)) := fun u hu => ⟨fin_ns hgg hu, by rw [nr_cw hgg hu, ns_units hgg hu]⟩
  exact ⟨fun h => key _ h, fun h => key _ h, fun h => key _ h, fun h => key _ h, fun h => key _ h, fun h => key _ h⟩

def SP1 (e f a b : Int) (s : Nat) : Prop := VBP e f s ∧ s = sw0 e f a b

def SP2 (e f a b : Int) (t : Nat) : Prop := VBP e f t ∧ (sb0 e f a b = true → t = sw1 e f a b)

def SP3 (e f a b : Int) (u : Nat) : Prop := VBP e f u ∧ (sb0 e f a b = true → sb1 e f a b = true → u = sw2 e f a b)

def SP4 (e f a b : Int) (v : Nat) : Prop := VBP e f v ∧ (sb0 e f a b = true → sb1 e f a b = true → sb2 e f a b = true → v = sw3 e f a b)

def SP5 (e f a b : Int) (w : Nat) : Prop := VBP e f w ∧ (sb0 e f a b = true → sb1 e f a b = true → w = sw4 e f a b)

def SP6 (e f a b : Int) (z : Nat) : Prop := VBP e f z ∧ (sb0 e f a b = true → sb1 e f a b = true → sb2 e f a b = true → sb3 e f a b = true → sb4 e f a b = true → z = sw5 e f a b)

theorem six_1 (e f a b : Int) (hg : (finB e f a && finB e f b) = true) (gl cap : Nat) (w : World) (c0 : w.cell? ⟨gl, 0, none⟩ = some (.float .f32 (cw (unitsV e f a)))) (c1 : w.cell? ⟨gl, 1, none⟩ = some (.float .f32 (cw (unitsV e f b)))) (hgl : gl < w.heap.size) :
    Calls Try.prog 58 #[fmt e f, .slice (some ⟨gl, 0, none⟩) 2 cap] w fun rv w' => ∃ z, rv = .returned (.float .f32 z) ∧ SP1 e f a b z ∧ Ext w w' := by
  obtain ⟨ha, hb2⟩ : finB e f a = true ∧ finB e f b = true := by simpa using hg
  obtain ⟨hgg, _⟩ := fin_size ha
  refine (near_two e f a b ha hb2 gl cap w c0 c1 hgl).mono ?_
  rintro rv w' ⟨rfl, hx⟩
  exact ⟨_, rfl, ⟨(vb_nr hgg).1, rfl⟩, hx⟩

theorem six_2 (e f a b : Int) (hg : (finB e f a && finB e f b) = true) (s : Nat) (h1 : SP1 e f a b s) (gl cap : Nat) (w : World) (c0 : w.cell? ⟨gl, 0, none⟩ = some (.float .f32 s)) (c1 : w.cell? ⟨gl, 1, none⟩ = some (.float .f32 (Op.negFloat .f32 (cw (unitsV e f a))))) (hgl : gl < w.heap.size) :
    Calls Try.prog 58 #[fmt e f, .slice (some ⟨gl, 0, none⟩) 2 cap] w fun rv w' => ∃ z, rv = .returned (.float .f32 z) ∧ SP2 e f a b z ∧ Ext w w' := by
  obtain ⟨ha, hb2⟩ : finB e f a = true ∧ finB e f b = true := by simpa using hg
  obtain ⟨hgg, _⟩ := fin_size ha
  obtain ⟨q0, q1, q2, q3, q4, q5⟩ := sw_val e f a b hg
  by_cases hh : sb0 e f a b = true
  · rw [h1.2, (q0 hh).2] at c0
    rw [neg_cw (ok_units ha)] at c1
    refine (near_sub e f _ a (q0 hh).1 ha gl cap w c0 c1 hgl).mono ?_
    rintro rv w' ⟨rfl, hx⟩
    refine ⟨_, rfl, ⟨(vb_nr hgg).1, ?_⟩, hx⟩
    intros
    rfl
  · refine (near2_vy e f _ _ gl cap hgg h1.1 (vby_neg (vb_of ha)).1 w c0 c1 hgl).mono ?_
    rintro rv w' ⟨z, rfl, hz, _, hx⟩
    refine ⟨z, rfl, ⟨hz, ?_⟩, hx⟩
    intro k0
    exact absurd k0 hh

theorem six_3 (e f a b : Int) (hg : (finB e f a && finB e f b) = true) (s t : Nat) (h1 : SP1 e f a b s) (h2 : SP2 e f a b t) (gl cap : Nat) (w : World) (c0 : w.cell? ⟨gl, 0, none⟩ = some (.float .f32 s)) (c1 : w.cell? ⟨gl, 1, none⟩ = some (.float .f32 (Op.negFloat .f32 t))) (hgl : gl < w.heap.size) :
    Calls Try.prog 58 #[fmt e f, .slice (some ⟨gl, 0, none⟩) 2 cap] w fun rv w' => ∃ z, rv = .returned (.float .f32 z) ∧ SP3 e f a b z ∧ Ext w w' := by
  obtain ⟨ha, hb2⟩ : finB e f a = true ∧ finB e f b = true := by simpa using hg
  obtain ⟨hgg, _⟩ := fin_size ha
  obtain ⟨q0, q1, q2, q3, q4, q5⟩ := sw_val e f a b hg
  by_cases hh : sb0 e f a b = true ∧ sb1 e f a b = true
  · obtain ⟨b0, b1⟩ := hh
    rw [h1.2, (q0 b0).2] at c0
    rw [h2.2 b0, (q1 b1).2, neg_cw (ok_units (q1 b1).1)] at c1
    refine (near_sub e f _ _ (q0 b0).1 (q1 b1).1 gl cap w c0 c1 hgl).mono ?_
    rintro rv w' ⟨rfl, hx⟩
    refine ⟨_, rfl, ⟨(vb_nr hgg).1, ?_⟩, hx⟩
    intros
    rfl
  · refine (near2_vy e f _ _ gl cap hgg h1.1 (vby_neg h2.1).1 w c0 c1 hgl).mono ?_
    rintro rv w' ⟨z, rfl, hz, _, hx⟩
    refine ⟨z, rfl, ⟨hz, ?_⟩, hx⟩
    intro k0 k1
    exact absurd ⟨k0, k1⟩ hh

theorem six_4 (e f a b : Int) (hg : (finB e f a && finB e f b) = true) (u : Nat) (h3 : SP3 e f a b u) (gl cap : Nat) (w : World) (c0 : w.cell? ⟨gl, 0, none⟩ = some (.float .f32 (cw (unitsV e f a)))) (c1 : w.cell? ⟨gl, 1, none⟩ = some (.float .f32 (Op.negFloat .f32 u))) (hgl : gl < w.heap.size) :
    Calls Try.prog 58 #[fmt e f, .slice (some ⟨gl, 0, none⟩) 2 cap] w fun rv w' => ∃ z, rv = .returned (.float .f32 z) ∧ SP4 e f a b z ∧ Ext w w' := by
  obtain ⟨ha, hb2⟩ : finB e f a = true ∧ finB e f b = true := by simpa using hg
  obtain ⟨hgg, _⟩ := fin_size ha
  obtain ⟨q0, q1, q2, q3, q4, q5⟩ := sw_val e f a b hg
  by_cases hh : sb0 e f a b = true ∧ sb1 e f a b = true ∧ sb2 e f a b = true
  · obtain ⟨b0, b1, b2⟩ := hh
    rw [h3.2 b0 b1, (q2 b2).2, neg_cw (ok_units (q2 b2).1)] at c1
    refine (near_sub e f a _ ha (q2 b2).1 gl cap w c0 c1 hgl).mono ?_
    rintro rv w' ⟨rfl, hx⟩
    refine ⟨_, rfl, ⟨(vb_nr hgg).1, ?_⟩, hx⟩
    intros
    rfl
  · refine (near2_vy e f _ _ gl cap hgg (vb_of ha) (vby_neg h3.1).1 w c0 c1 hgl).mono ?_
    rintro rv w' ⟨z, rfl, hz, _, hx⟩
    refine ⟨z, rfl, ⟨hz, ?_⟩, hx⟩
    intro k0 k1 k2
    exact absurd ⟨k0, k1, k2⟩ hh

theorem six_5 (e f a b : Int) (hg : (finB e f a && finB e f b) = true) (t : Nat) (h2 : SP2 e f a b t) (gl cap : Nat) (w : World) (c0 : w.cell? ⟨gl, 0, none⟩ = some (.float .f32 (cw (unitsV e f b)))) (c1 : w.cell? ⟨gl, 1, none⟩ = some (.float .f32 (Op.negFloat .f32 t))) (hgl : gl < w.heap.size) :
    Calls Try.prog 58 #[fmt e f, .slice (some ⟨gl, 0, none⟩) 2 cap] w fun rv w' => ∃ z, rv = .returned (.float .f32 z) ∧ SP5 e f a b z ∧ Ext w w' := by
  obtain ⟨ha, hb2⟩ : finB e f a = true ∧ finB e f b = true := by simpa using hg
  obtain ⟨hgg, _⟩ := fin_size ha
  obtain ⟨q0, q1, q2, q3, q4, q5⟩ := sw_val e f a b hg
  by_cases hh : sb0 e f a b = true ∧ sb1 e f a b = true
  · obtain ⟨b0, b1⟩ := hh
    rw [h2.2 b0, (q1 b1).2, neg_cw (ok_units (q1 b1).1)] at c1
    refine (near_sub e f b _ hb2 (q1 b1).1 gl cap w c0 c1 hgl).mono ?_
    rintro rv w' ⟨rfl, hx⟩
    refine ⟨_, rfl, ⟨(vb_nr hgg).1, ?_⟩, hx⟩
    intros
    rfl
  · refine (near2_vy e f _ _ gl cap hgg (vb_of hb2) (vby_neg h2.1).1 w c0 c1 hgl).mono ?_
    rintro rv w' ⟨z, rfl, hz, _, hx⟩
    refine ⟨z, rfl, ⟨hz, ?_⟩, hx⟩
    intro k0 k1
    exact absurd ⟨k0, k1⟩ hh

theorem six_6 (e f a b : Int) (hg : (finB e f a && finB e f b) = true) (v w1 : Nat) (h4 : SP4 e f a b v) (h5 : SP5 e f a b w1) (gl cap : Nat) (w : World) (c0 : w.cell? ⟨gl, 0, none⟩ = some (.float .f32 v)) (c1 : w.cell? ⟨gl, 1, none⟩ = some (.float .f32 w1)) (hgl : gl < w.heap.size) :
    Calls Try.prog 58 #[fmt e f, .slice (some ⟨gl, 0, none⟩) 2 cap] w fun rv w' => ∃ z, rv = .returned (.float .f32 z) ∧ SP6 e f a b z ∧ Ext w w' := by
  obtain ⟨ha, hb2⟩ : finB e f a = true ∧ finB e f b = true := by simpa using hg
  obtain ⟨hgg, _⟩ := fin_size ha
  obtain ⟨q0, q1, q2, q3, q4, q5⟩ := sw_val e f a b hg
  by_cases hh : sb0 e f a b = true ∧ sb1 e f a b = true ∧ sb2 e f a b = true ∧ sb3 e f a b = true ∧ sb4 e f a b = true
  · obtain ⟨b0, b1, b2, b3, b4⟩ := hh
    rw [h4.2 b0 b1 b2, (q3 b3).2] at c0
    rw [h5.2 b0 b1, (q4 b4).2] at c1
    refine (near_two e f _ _ (q3 b3).1 (q4 b4).1 gl cap w c0 c1 hgl).mono ?_
    rintro rv w' ⟨rfl, hx⟩
    refine ⟨_, rfl, ⟨(vb_nr hgg).1, ?_⟩, hx⟩
    intros
    rfl
  · refine (near2_vy e f _ _ gl cap hgg h4.1 (Or.inl h5.1) w c0 c1 hgl).mono ?_
    rintro rv w' ⟨z, rfl, hz, _, hx⟩
    refine ⟨z, rfl, ⟨hz, ?_⟩, hx⟩
    intro k0 k1 k2 k3 k4
    exact absurd ⟨k0, k1, k2, k3, k4⟩ hh

/-- All six fit. -/
noncomputable def sixK (e f a b : Int) : Bool := sb0 e f a b && (sb1 e f a b && (sb2 e f a b && (sb3 e f a b && (sb4 e f a b && sb5 e f a b))))

theorem sixK_iff {e f a b : Int} : sixK e f a b = true ↔ ∀ i, i < 6 → sixB e f a b i = true := by
  unfold sixK
  simp only [Bool.and_eq_true]
  constructor
  · rintro ⟨h0, h1, h2, h3, h4, h5⟩ i hi
    match i, hi with
    | 0, _ => exact h0
    | 1, _ => exact h1
    | 2, _ => exact h2
    | 3, _ => exact h3
    | 4, _ => exact h4
    | 5, _ => exact h5
  · intro h
    exact ⟨h 0 (by decide), h 1 (by decide), h 2 (by decide), h 3 (by decide), h 4 (by decide), h 5 (by decide)⟩

theorem six_first {e f a b : Int} (h : sixK e f a b = false) : ∃ m, m < 6 ∧ (∀ i, i < m → sixB e f a b i = true) ∧ sixB e f a b m = false := by
  have key : ∀ n, (∀ i, i < n → sixB e f a b i = true) ∨ ∃ m, m < n ∧ (∀ i, i < m → sixB e f a b i = true) ∧ sixB e f a b m = false := by
    intro n
    induction n with
    | zero => exact Or.inl (fun i hi => absurd hi (by omega))
    | succ n ih =>
      rcases ih with ih | ⟨m, h1, h2, h3⟩
      · by_cases hn : sixB e f a b n = true
        · exact Or.inl (fun i hi => by
            by_cases q : i < n
            · exact ih i q
            · have : i = n := by omega
              subst this; exact hn)
        · exact Or.inr ⟨n, by omega, ih, by simpa using hn⟩
      · exact Or.inr ⟨m, by omega, h2, h3⟩
  rcases key 6 with q | q
  · rw [← sixK_iff] at q; rw [q] at h; cases h
  · exact q

theorem six_word (e f a b : Int) (s t u v y z : Nat) (h1 : SP1 e f a b s) (h2 : SP2 e f a b t) (h3 : SP3 e f a b u) (h4 : SP4 e f a b v) (h5 : SP5 e f a b y) (h6 : SP6 e f a b z) (m : Nat) (hm : ∀ i, i < m → sixB e f a b i = true) (i : Nat) (hi : i ≤ m) (hi6 : i < 6) : pick6 s t u v y z i = sixW e f a b i := by
  match i, hi, hi6 with
  | 0, _, _ => exact h1.2
  | 1, _, _ => exact h2.2 (hm 0 (by omega))
  | 2, _, _ => exact h3.2 (hm 0 (by omega)) (hm 1 (by omega))
  | 3, _, _ => exact h4.2 (hm 0 (by omega)) (hm 1 (by omega)) (hm 2 (by omega))
  | 4, _, _ => exact h5.2 (hm 0 (by omega)) (hm 1 (by omega))
  | 5, _, _ => exact h6.2 (hm 0 (by omega)) (hm 1 (by omega)) (hm 2 (by omega)) (hm 3 (by omega)) (hm 4 (by omega))

/-- What SixSteps hands back. -/
def SixOut (e f a b : Int) (w : World) (rv : Ending) (w' : World) : Prop :=
  ∃ v, rv = .returned (.tuple #[v, .bool (sixK e f a b)]) ∧ (if sixK e f a b = true then w'.ownsRow w.heap.size 3 1 v 6 (patL (sixP e f a b) 6) else v = .slice none 0 0) ∧ Ext w w'

theorem six_base {K : Bool} {w : World} {B B2 : Nat} {v : Value} {xs : List Value} (h : if K = true then w.ownsRow B 3 1 v 6 xs else v = .slice none 0 0) (hb : B2 ≤ B) : if K = true then w.ownsRow B2 3 1 v 6 xs else v = .slice none 0 0 := by
  cases K
  · exact h
  · exact own_base h hb

theorem six_all (e f a b : Int) (hg : (finB e f a && finB e f b) = true) (s t u v y z : Nat) (h1 : SP1 e f a b s) (h2 : SP2 e f a b t) (h3 : SP3 e f a b u) (h4 : SP4 e f a b v) (h5 : SP5 e f a b y) (h6 : SP6 e f a b z) (gl cap : Nat) (w : World) (c0 : w.cell? ⟨gl, 0, none⟩ = some (.float .f32 s)) (c1 : w.cell? ⟨gl, 1, none⟩ = some (.float .f32 t)) (c2 : w.cell? ⟨gl, 2, none⟩ = some (.float .f32 u)) (c3 : w.cell? ⟨gl, 3, none⟩ = some (.float .f32 v)) (c4 : w.cell? ⟨gl, 4, none⟩ = some (.float .f32 y)) (c5 : w.cell? ⟨gl, 5, none⟩ = some (.float .f32 z)) (hgl : gl < w.heap.size) :
    Calls Try.prog 59 #[fmt e f, .slice (some ⟨gl, 0, none⟩) 6 cap] w (SixOut e f a b w) := by
  obtain ⟨ha, hb2⟩ : finB e f a = true ∧ finB e f b = true := by simpa using hg
  obtain ⟨hgg, _⟩ := fin_size ha
  have hp : 0 < 6 → ∃ g, (some ⟨gl, 0, none⟩ : Option Addr) = some ⟨g, 0, none⟩ ∧ g < w.heap.size ∧ ∀ i, i < 6 → w.cell? ⟨g, i, none⟩ = some (.float .f32 (pick6 s t u v y z i)) := fun _ =>
    ⟨gl, rfl, hgl, fun i hi => by
      match i, hi with
      | 0, _ => exact c0
      | 1, _ => exact c1
      | 2, _ => exact c2
      | 3, _ => exact c3
      | 4, _ => exact c4
      | 5, _ => exact c5⟩
  cases hK : sixK e f a b
  · obtain ⟨m, hm, hB, hN⟩ := six_first hK
    refine (patternsOfAll_stop e f (pick6 s t u v y z) (sixP e f a b) 6 cap m _ (by decide) hm ?_ ?_ w hp).mono ?_
    · intro i hi w
      rw [six_word e f a b s t u v y z h1 h2 h3 h4 h5 h6 m hB i (by omega) (by omega)]
      exact six_pv e f a b hgg i (hB i hi) w
    · intro w
      rw [six_word e f a b s t u v y z h1 h2 h3 h4 h5 h6 m hB m (by omega) hm]
      exact pv_bad e f _ (six_bad e f a b m hN) w
    · rintro rv w' ⟨rfl, hx⟩
      exact ⟨_, by rw [hK], by rw [hK]; exact rfl, hx⟩
  · have hB := sixK_iff.1 hK
    refine (patternsOfAll_own e f (pick6 s t u v y z) (sixP e f a b) 6 cap _ (by decide) ?_ w hp).mono ?_
    · intro i hi w
      rw [six_word e f a b s t u v y z h1 h2 h3 h4 h5 h6 6 hB i (by omega) hi]
      exact six_pv e f a b hgg i (hB i hi) w
    · rintro rv w' ⟨vv, rfl, ho, hx⟩
      exact ⟨_, by rw [hK], by rw [if_pos hK]; exact own_base ho (by omega), hx⟩

set_option maxHeartbeats 6400000 in
theorem iSixSteps_yes (e f a b : Int) (hg : (finB e f a && finB e f b) = true) (w : World) : Calls Try.prog 18 #[fmt e f, .int .i64 a, .int .i64 b] w (SixOut e f a b w) := by
  obtain ⟨ha, hb2⟩ : finB e f a = true ∧ finB e f b = true := by simpa using hg
  obtain ⟨hgg, _⟩ := fin_size ha
  have hap := (fin_pat ha).1
  have hbp := (fin_pat hb2).1
  obtain ⟨sm1, sm2, sm3, sm4, sm5, sm6⟩ := ns_small ha hb2
  clear sm1 sm2 sm3 sm4 sm5 sm6
  have N1 := Lib.hid (fun gl cap w c0 c1 hgl => six_1 e f a b hg gl cap w c0 c1 hgl)
  have N2 := Lib.hid (fun s h1 gl cap w c0 c1 hgl => six_2 e f a b hg s h1 gl cap w c0 c1 hgl)
  have N3 := Lib.hid (fun s t h1 h2 gl cap w c0 c1 hgl => six_3 e f a b hg s t h1 h2 gl cap w c0 c1 hgl)
  have N4 := Lib.hid (fun u h3 gl cap w c0 c1 hgl => six_4 e f a b hg u h3 gl cap w c0 c1 hgl)
  have N5 := Lib.hid (fun t h2 gl cap w c0 c1 hgl => six_5 e f a b hg t h2 gl cap w c0 c1 hgl)
  have N6 := Lib.hid (fun v y h4 h5 gl cap w c0 c1 hgl => six_6 e f a b hg v y h4 h5 gl cap w c0 c1 hgl)
  have N7 := Lib.hid (fun s t u v y z h1 h2 h3 h4 h5 h6 gl cap w c0 c1 c2 c3 c4 c5 hgl => six_all e f a b hg s t u v y z h1 h2 h3 h4 h5 h6 gl cap w c0 c1 c2 c3 c4 c5 hgl)
  have kneg : ∀ (x : Nat) (w : World), (Op.unary .neg (.float .f32 x)).run Try.prog w = .ok (.float .f32 (Op.negFloat .f32 x)) w := fun x w => rfl
  go_enter Try.func18, Try.ntmps18
  go_wp2_with (go_at_call 57; (with_reducible refine (valuesOf2 e f a b (w.heap.size + 1) ha hb2 _ (by first | with_reducible assumption | (simp; done) | (simp [go_sem]; done) | (simp [go_sem, *]; done)) (by first | with_reducible assumption | (simp; done) | (simp [go_sem]; done) | (simp [go_sem, *]; done)) (by simp; try omega)).mono ?_); rintro rv w1 ⟨gl, cap, rfl, q1, q2, c0, c1, hb⟩; rw [int_cw] at c0 c1; have c0 := c0; have c1 := c1; have ns : w.heap.size < w1.heap.size := hb.lt (by first | (simp; done) | (simp; omega)); have g0 : w1.cell? ⟨w.heap.size, 0, none⟩ = some (.int .i64 e) := (hb.cells _ _ (by first | (simp; done) | (simp; omega))).trans (by first | (simp; done) | (simp [go_sem, *]; done)); have g1 : w1.cell? ⟨w.heap.size, 1, none⟩ = some (.int .i64 f) := (hb.cells _ _ (by first | (simp; done) | (simp; omega))).trans (by first | (simp; done) | (simp [go_sem, *]; done)); have hx : Ext w w1 := Ext.trans Ext.auK hb; clear hb)
  have hs : max w.heap.size gl < w1.heap.size := by omega
  generalize hcA : cw (unitsV e f a) = cA at *
  generalize hcB : cw (unitsV e f b) = cB at *
  clear hcA hcB
  all_goals (try (go_region_held3 (fun w' => w'.cell? ⟨w.heap.size, 0, none⟩ = some (.int .i64 e) ∧ w'.cell? ⟨w.heap.size, 1, none⟩ = some (.int .i64 f) ∧ w'.cell? ⟨gl, 0, none⟩ = some (.float .f32 cA) ∧ w'.cell? ⟨gl, 1, none⟩ = some (.float .f32 cB) ∧ max w.heap.size gl < w'.heap.size) ((refine ⟨?_, ?_, ?_, ?_, ?_⟩ <;> first | with_reducible assumption | ((repeat first | rw [cell_set_far _ _ _ _ _ _ (by omega)] | rw [cell_alloc_before _ _ _ _ (by omega)] | rw [cell_alloc_drew _ _ _ _ (by omega)] | rw [cell_drew]); with_reducible assumption) | ((rw [cell_setRow_far _ _ _ _ _ (by omega)]); with_reducible assumption) | ((rw [setRow_size]); with_reducible assumption) | (simp; done) | (simp [World.setCell]; first | done | omega) | (simp [go_sem, World.cell?_alloc_past, World.cell?_setCell_far, *]; done))) ((first | (go_at_call 58; refine (N1.out _ _ _ ?c0q2 ?c1q2 ?c2q2).mono ?kq2; (case c0q2 => first | with_reducible assumption | (simp; done) | (simp [go_sem]; done) | (simp [go_sem, *]; done)); (case c1q2 => first | with_reducible assumption | (simp; done) | (simp [go_sem]; done) | (simp [go_sem, *]; done)); (case c2q2 => (first | (simp; done) | (simp; omega)));  rintro rv w2 ⟨s, rfl, hq, hb⟩; have H1 := Lib.hid hq; clear hq; have ns : max w.heap.size gl < w2.heap.size := hb.ltK; have n0 : w2.cell? ⟨w.heap.size, 0, none⟩ = some (.int .i64 e) := hb.cellK; have n1 : w2.cell? ⟨w.heap.size, 1, none⟩ = some (.int .i64 f) := hb.cellK; have n2 : w2.cell? ⟨gl, 0, none⟩ = some (.float .f32 cA) := hb.cellK; have n3 : w2.cell? ⟨gl, 1, none⟩ = some (.float .f32 cB) := hb.cellK; (first | (have nx := Ext.trans hx hb; clear hx) | (have nx := Ext.trans (hx.alloc _) hb; clear hx) | (have nx := Ext.trans hx.drew hb; clear hx) | have nx := hb); clear hb; try clear hs; try clear g0; try clear g1; try clear g2; try clear g3; have hx := nx; clear nx; have hs := ns; clear ns; have g0 := n0; clear n0; have g1 := n1; clear n1; have g2 := n2; clear n2; have g3 := n3; clear n3) | fail))))
  all_goals (try go_wp2_with (first | (go_at_call 58; refine (N1.out _ _ _ ?c0q2 ?c1q2 ?c2q2).mono ?kq2; (case c0q2 => first | with_reducible assumption | (simp; done) | (simp [go_sem]; done) | (simp [go_sem, *]; done)); (case c1q2 => first | with_reducible assumption | (simp; done) | (simp [go_sem]; done) | (simp [go_sem, *]; done)); (case c2q2 => (first | (simp; done) | (simp; omega)));  rintro rv w2 ⟨s, rfl, hq, hb⟩; have H1 := Lib.hid hq; clear hq; have ns : max w.heap.size gl < w2.heap.size := hb.ltK; have n0 : w2.cell? ⟨w.heap.size, 0, none⟩ = some (.int .i64 e) := hb.cellK; have n1 : w2.cell? ⟨w.heap.size, 1, none⟩ = some (.int .i64 f) := hb.cellK; have n2 : w2.cell? ⟨gl, 0, none⟩ = some (.float .f32 cA) := hb.cellK; have n3 : w2.cell? ⟨gl, 1, none⟩ = some (.float .f32 cB) := hb.cellK; (first | (have nx := Ext.trans hx hb; clear hx) | (have nx := Ext.trans (hx.alloc _) hb; clear hx) | (have nx := Ext.trans hx.drew hb; clear hx) | have nx := hb); clear hb; try clear hs; try clear g0; try clear g1; try clear g2; try clear g3; have hx := nx; clear nx; have hs := ns; clear ns; have g0 := n0; clear n0; have g1 := n1; clear n1; have g2 := n2; clear n2; have g3 := n3; clear n3) | (go_at_call 58; refine (N2.out s H1.out _ _ _ ?c0q3 ?c1q3 ?c2q3).mono ?kq3; (case c0q3 => first | with_reducible assumption | (simp; done) | (simp [go_sem]; done) | (simp [go_sem, *]; done)); (case c1q3 => first | with_reducible assumption | (simp; done) | (simp [go_sem]; done) | (simp [go_sem, *]; done)); (case c2q3 => (first | (simp; done) | (simp; omega)));  rintro rv w3 ⟨t, rfl, hq, hb⟩; have H2 := Lib.hid hq; clear hq; have ns : max w.heap.size gl < w3.heap.size := hb.ltK; have n0 : w3.cell? ⟨w.heap.size, 0, none⟩ = some (.int .i64 e) := hb.cellK; have n1 : w3.cell? ⟨w.heap.size, 1, none⟩ = some (.int .i64 f) := hb.cellK; have n2 : w3.cell? ⟨gl, 0, none⟩ = some (.float .f32 cA) := hb.cellK; have n3 : w3.cell? ⟨gl, 1, none⟩ = some (.float .f32 cB) := hb.cellK; (first | (have nx := Ext.trans hx hb; clear hx) | (have nx := Ext.trans (hx.alloc _) hb; clear hx) | (have nx := Ext.trans hx.drew hb; clear hx) | have nx := hb); clear hb; try clear hs; try clear g0; try clear g1; try clear g2; try clear g3; have hx := nx; clear nx; have hs := ns; clear ns; have g0 := n0; clear n0; have g1 := n1; clear n1; have g2 := n2; clear n2; have g3 := n3; clear n3) | (go_at_call 58; refine (N3.out s t H1.out H2.out _ _ _ ?c0q4 ?c1q4 ?c2q4).mono ?kq4; (case c0q4 => first | with_reducible assumption | (simp; done) | (simp [go_sem]; done) | (simp [go_sem, *]; done)); (case c1q4 => first | with_reducible assumption | (simp; done) | (simp [go_sem]; done) | (simp [go_sem, *]; done)); (case c2q4 => (first | (simp; done) | (simp; omega)));  rintro rv w4 ⟨u, rfl, hq, hb⟩; have H3 := Lib.hid hq; clear hq; have ns : max w.heap.size gl < w4.heap.size := hb.ltK; have n0 : w4.cell? ⟨w.heap.size, 0, none⟩ = some (.int .i64 e) := hb.cellK; have n1 : w4.cell? ⟨w.heap.size, 1, none⟩ = some (.int .i64 f) := hb.cellK; have n2 : w4.cell? ⟨gl, 0, none⟩ = some (.float .f32 cA) := hb.cellK; have n3 : w4.cell? ⟨gl, 1, none⟩ = some (.float .f32 cB) := hb.cellK; (first | (have nx := Ext.trans hx hb; clear hx) | (have nx := Ext.trans (hx.alloc _) hb; clear hx) | (have nx := Ext.trans hx.drew hb; clear hx) | have nx := hb); clear hb; try clear hs; try clear g0; try clear g1; try clear g2; try clear g3; have hx := nx; clear nx; have hs := ns; clear ns; have g0 := n0; clear n0; have g1 := n1; clear n1; have g2 := n2; clear n2; have g3 := n3; clear n3) | (go_at_call 58; refine (N4.out u H3.out _ _ _ ?c0q5 ?c1q5 ?c2q5).mono ?kq5; (case c0q5 => first | with_reducible assumption | (simp; done) | (simp [go_sem]; done) | (simp [go_sem, *]; done)); (case c1q5 => first | with_reducible assumption | (simp; done) | (simp [go_sem]; done) | (simp [go_sem, *]; done)); (case c2q5 => (first | (simp; done) | (simp; omega)));  rintro rv w5 ⟨v, rfl, hq, hb⟩; have H4 := Lib.hid hq; clear hq; have ns : max w.heap.size gl < w5.heap.size := hb.ltK; have n0 : w5.cell? ⟨w.heap.size, 0, none⟩ = some (.int .i64 e) := hb.cellK; have n1 : w5.cell? ⟨w.heap.size, 1, none⟩ = some (.int .i64 f) := hb.cellK; have n2 : w5.cell? ⟨gl, 0, none⟩ = some (.float .f32 cA) := hb.cellK; have n3 : w5.cell? ⟨gl, 1, none⟩ = some (.float .f32 cB) := hb.cellK; (first | (have nx := Ext.trans hx hb; clear hx) | (have nx := Ext.trans (hx.alloc _) hb; clear hx) | (have nx := Ext.trans hx.drew hb; clear hx) | have nx := hb); clear hb; try clear hs; try clear g0; try clear g1; try clear g2; try clear g3; have hx := nx; clear nx; have hs := ns; clear ns; have g0 := n0; clear n0; have g1 := n1; clear n1; have g2 := n2; clear n2; have g3 := n3; clear n3) | (go_at_call 58; refine (N5.out t H2.out _ _ _ ?c0q6 ?c1q6 ?c2q6).mono ?kq6; (case c0q6 => first | with_reducible assumption | (simp; done) | (simp [go_sem]; done) | (simp [go_sem, *]; done)); (case c1q6 => first | with_reducible assumption | (simp; done) | (simp [go_sem]; done) | (simp [go_sem, *]; done)); (case c2q6 => (first | (simp; done) | (simp; omega)));  rintro rv w6 ⟨y, rfl, hq, hb⟩; have H5 := Lib.hid hq; clear hq; have ns : max w.heap.size gl < w6.heap.size := hb.ltK; have n0 : w6.cell? ⟨w.heap.size, 0, none⟩ = some (.int .i64 e) := hb.cellK; have n1 : w6.cell? ⟨w.heap.size, 1, none⟩ = some (.int .i64 f) := hb.cellK; have n2 : w6.cell? ⟨gl, 0, none⟩ = some (.float .f32 cA) := hb.cellK; have n3 : w6.cell? ⟨gl, 1, none⟩ = some (.float .f32 cB) := hb.cellK; (first | (have nx := Ext.trans hx hb; clear hx) | (have nx := Ext.trans (hx.alloc _) hb; clear hx) | (have nx := Ext.trans hx.drew hb; clear hx) | have nx := hb); clear hb; try clear hs; try clear g0; try clear g1; try clear g2; try clear g3; have hx := nx; clear nx; have hs := ns; clear ns; have g0 := n0; clear n0; have g1 := n1; clear n1; have g2 := n2; clear n2; have g3 := n3; clear n3) | (go_at_call 58; refine (N6.out v y H4.out H5.out _ _ _ ?c0q7 ?c1q7 ?c2q7).mono ?kq7; (case c0q7 => first | with_reducible assumption | (simp; done) | (simp [go_sem]; done) | (simp [go_sem, *]; done)); (case c1q7 => first | with_reducible assumption | (simp; done) | (simp [go_sem]; done) | (simp [go_sem, *]; done)); (case c2q7 => (first | (simp; done) | (simp; omega)));  rintro rv w7 ⟨z, rfl, hq, hb⟩; have H6 := Lib.hid hq; clear hq; have ns : max w.heap.size gl < w7.heap.size := hb.ltK; have n0 : w7.cell? ⟨w.heap.size, 0, none⟩ = some (.int .i64 e) := hb.cellK; have n1 : w7.cell? ⟨w.heap.size, 1, none⟩ = some (.int .i64 f) := hb.cellK; have n2 : w7.cell? ⟨gl, 0, none⟩ = some (.float .f32 cA) := hb.cellK; have n3 : w7.cell? ⟨gl, 1, none⟩ = some (.float .f32 cB) := hb.cellK; (first | (have nx := Ext.trans hx hb; clear hx) | (have nx := Ext.trans (hx.alloc _) hb; clear hx) | (have nx := Ext.trans hx.drew hb; clear hx) | have nx := hb); clear hb; try clear hs; try clear g0; try clear g1; try clear g2; try clear g3; have hx := nx; clear nx; have hs := ns; clear ns; have g0 := n0; clear n0; have g1 := n1; clear n1; have g2 := n2; clear n2; have g3 := n3; clear n3) | (go_at_call 59; refine (N7.out s t u v y z H1.out H2.out H3.out H4.out H5.out H6.out _ _ _ ?d0 ?d1 ?d2 ?d3 ?d4 ?d5 ?d6).mono ?dk; (case d0 => first | with_reducible assumption | (simp; done) | (simp [go_sem]; done) | (simp [go_sem, *]; done)); (case d1 => first | with_reducible assumption | (simp; done) | (simp [go_sem]; done) | (simp [go_sem, *]; done)); (case d2 => first | with_reducible assumption | (simp; done) | (simp [go_sem]; done) | (simp [go_sem, *]; done)); (case d3 => first | with_reducible assumption | (simp; done) | (simp [go_sem]; done) | (simp [go_sem, *]; done)); (case d4 => first | with_reducible assumption | (simp; done) | (simp [go_sem]; done) | (simp [go_sem, *]; done)); (case d5 => first | with_reducible assumption | (simp; done) | (simp [go_sem]; done) | (simp [go_sem, *]; done)); (case d6 => (first | (simp; done) | (simp; omega)));  rintro rv w9 ⟨vv, rfl, hq, hb⟩; have HO := Lib.hid hq; clear hq; have ns : w.heap.size < w9.heap.size := hb.ltK; have n0 : w9.cell? ⟨w.heap.size, 0, none⟩ = some (.int .i64 e) := hb.cellK; have n1 : w9.cell? ⟨w.heap.size, 1, none⟩ = some (.int .i64 f) := hb.cellK; (first | (have nx := Ext.trans hx hb; clear hx) | (have nx := Ext.trans (hx.alloc _) hb; clear hx) | (have nx := Ext.trans hx.drew hb; clear hx) | have nx := hb); clear hb; try clear hs; try clear g0; try clear g1; have hx := nx; clear nx; have hs := ns; clear ns; have g0 := n0; clear n0; have g1 := n1; clear n1) | fail))
  all_goals (try (go_region_held3 (fun w' => w'.cell? ⟨w.heap.size, 0, none⟩ = some (.int .i64 e) ∧ w'.cell? ⟨w.heap.size, 1, none⟩ = some (.int .i64 f) ∧ w'.cell? ⟨gl, 0, none⟩ = some (.float .f32 cA) ∧ w'.cell? ⟨gl, 1, none⟩ = some (.float .f32 cB) ∧ max w.heap.size gl < w'.heap.size) ((refine ⟨?_, ?_, ?_, ?_, ?_⟩ <;> first | with_reducible assumption | ((repeat first | rw [cell_set_far _ _ _ _ _ _ (by omega)] | rw [cell_alloc_before _ _ _ _ (by omega)] | rw [cell_alloc_drew _ _ _ _ (by omega)] | rw [cell_drew]); with_reducible assumption) | ((rw [cell_setRow_far _ _ _ _ _ (by omega)]); with_reducible assumption) | ((rw [setRow_size]); with_reducible assumption) | (simp; done) | (simp [World.setCell]; first | done | omega) | (simp [go_sem, World.cell?_alloc_past, World.cell?_setCell_far, *]; done))) ((first | (go_at_call 58; refine (N2.out s H1.out _ _ _ ?c0q3 ?c1q3 ?c2q3).mono ?kq3; (case c0q3 => first | with_reducible assumption | (simp; done) | (simp [go_sem]; done) | (simp [go_sem, *]; done)); (case c1q3 => first | with_reducible assumption | (simp; done) | (simp [go_sem]; done) | (simp [go_sem, *]; done)); (case c2q3 => (first | (simp; done) | (simp; omega)));  rintro rv w3 ⟨t, rfl, hq, hb⟩; have H2 := Lib.hid hq; clear hq; have ns : max w.heap.size gl < w3.heap.size := hb.ltK; have n0 : w3.cell? ⟨w.heap.size, 0, none⟩ = some (.int .i64 e) := hb.cellK; have n1 : w3.cell? ⟨w.heap.size, 1, none⟩ = some (.int .i64 f) := hb.cellK; have n2 : w3.cell? ⟨gl, 0, none⟩ = some (.float .f32 cA) := hb.cellK; have n3 : w3.cell? ⟨gl, 1, none⟩ = some (.float .f32 cB) := hb.cellK; (first | (have nx := Ext.trans hx hb; clear hx) | (have nx := Ext.trans (hx.alloc _) hb; clear hx) | (have nx := Ext.trans hx.drew hb; clear hx) | have nx := hb); clear hb; try clear hs; try clear g0; try clear g1; try clear g2; try clear g3; have hx := nx; clear nx; have hs := ns; clear ns; have g0 := n0; clear n0; have g1 := n1; clear n1; have g2 := n2; clear n2; have g3 := n3; clear n3) | fail))))
  all_goals (try go_wp2_with (first | (go_at_call 58; refine (N1.out _ _ _ ?c0q2 ?c1q2 ?c2q2).mono ?kq2; (case c0q2 => first | with_reducible assumption | (simp; done) | (simp [go_sem]; done) | (simp [go_sem, *]; done)); (case c1q2 => first | with_reducible assumption | (simp; done) | (simp [go_sem]; done) | (simp [go_sem, *]; done)); (case c2q2 => (first | (simp; done) | (simp; omega)));  rintro rv w2 ⟨s, rfl, hq, hb⟩; have H1 := Lib.hid hq; clear hq; have ns : max w.heap.size gl < w2.heap.size := hb.ltK; have n0 : w2.cell? ⟨w.heap.size, 0, none⟩ = some (.int .i64 e) := hb.cellK; have n1 : w2.cell? ⟨w.heap.size, 1, none⟩ = some (.int .i64 f) := hb.cellK; have n2 : w2.cell? ⟨gl, 0, none⟩ = some (.float .f32 cA) := hb.cellK; have n3 : w2.cell? ⟨gl, 1, none⟩ = some (.float .f32 cB) := hb.cellK; (first | (have nx := Ext.trans hx hb; clear hx) | (have nx := Ext.trans (hx.alloc _) hb; clear hx) | (have nx := Ext.trans hx.drew hb; clear hx) | have nx := hb); clear hb; try clear hs; try clear g0; try clear g1; try clear g2; try clear g3; have hx := nx; clear nx; have hs := ns; clear ns; have g0 := n0; clear n0; have g1 := n1; clear n1; have g2 := n2; clear n2; have g3 := n3; clear n3) | (go_at_call 58; refine (N2.out s H1.out _ _ _ ?c0q3 ?c1q3 ?c2q3).mono ?kq3; (case c0q3 => first | with_reducible assumption | (simp; done) | (simp [go_sem]; done) | (simp [go_sem, *]; done)); (case c1q3 => first | with_reducible assumption | (simp; done) | (simp [go_sem]; done) | (simp [go_sem, *]; done)); (case c2q3 => (first | (simp; done) | (simp; omega)));  rintro rv w3 ⟨t, rfl, hq, hb⟩; have H2 := Lib.hid hq; clear hq; have ns : max w.heap.size gl < w3.heap.size := hb.ltK; have n0 : w3.cell? ⟨w.heap.size, 0, none⟩ = some (.int .i64 e) := hb.cellK; have n1 : w3.cell? ⟨w.heap.size, 1, none⟩ = some (.int .i64 f) := hb.cellK; have n2 : w3.cell? ⟨gl, 0, none⟩ = some (.float .f32 cA) := hb.cellK; have n3 : w3.cell? ⟨gl, 1, none⟩ = some (.float .f32 cB) := hb.cellK; (first | (have nx := Ext.trans hx hb; clear hx) | (have nx := Ext.trans (hx.alloc _) hb; clear hx) | (have nx := Ext.trans hx.drew hb; clear hx) | have nx := hb); clear hb; try clear hs; try clear g0; try clear g1; try clear g2; try clear g3; have hx := nx; clear nx; have hs := ns; clear ns; have g0 := n0; clear n0; have g1 := n1; clear n1; have g2 := n2; clear n2; have g3 := n3; clear n3) | (go_at_call 58; refine (N3.out s t H1.out H2.out _ _ _ ?c0q4 ?c1q4 ?c2q4).mono ?kq4; (case c0q4 => first | with_reducible assumption | (simp; done) | (simp [go_sem]; done) | (simp [go_sem, *]; done)); (case c1q4 => first | with_reducible assumption | (simp; done) | (simp [go_sem]; done) | (simp [go_sem, *]; done)); (case c2q4 => (first | (simp; done) | (simp; omega)));  rintro rv w4 ⟨u, rfl, hq, hb⟩; have H3 := Lib.hid hq; clear hq; have ns : max w.heap.size gl < w4.heap.size := hb.ltK; have n0 : w4.cell? ⟨w.heap.size, 0, none⟩ = some (.int .i64 e) := hb.cellK; have n1 : w4.cell? ⟨w.heap.size, 1, none⟩ = some (.int .i64 f) := hb.cellK; have n2 : w4.cell? ⟨gl, 0, none⟩ = some (.float .f32 cA) := hb.cellK; have n3 : w4.cell? ⟨gl, 1, none⟩ = some (.float .f32 cB) := hb.cellK; (first | (have nx := Ext.trans hx hb; clear hx) | (have nx := Ext.trans (hx.alloc _) hb; clear hx) | (have nx := Ext.trans hx.drew hb; clear hx) | have nx := hb); clear hb; try clear hs; try clear g0; try clear g1; try clear g2; try clear g3; have hx := nx; clear nx; have hs := ns; clear ns; have g0 := n0; clear n0; have g1 := n1; clear n1; have g2 := n2; clear n2; have g3 := n3; clear n3) | (go_at_call 58; refine (N4.out u H3.out _ _ _ ?c0q5 ?c1q5 ?c2q5).mono ?kq5; (case c0q5 => first | with_reducible assumption | (simp; done) | (simp [go_sem]; done) | (simp [go_sem, *]; done)); (case c1q5 => first | with_reducible assumption | (simp; done) | (simp [go_sem]; done) | (simp [go_sem, *]; done)); (case c2q5 => (first | (simp; done) | (simp; omega)));  rintro rv w5 ⟨v, rfl, hq, hb⟩; have H4 := Lib.hid hq; clear hq; have ns : max w.heap.size gl < w5.heap.size := hb.ltK; have n0 : w5.cell? ⟨w.heap.size, 0, none⟩ = some (.int .i64 e) := hb.cellK; have n1 : w5.cell? ⟨w.heap.size, 1, none⟩ = some (.int .i64 f) := hb.cellK; have n2 : w5.cell? ⟨gl, 0, none⟩ = some (.float .f32 cA) := hb.cellK; have n3 : w5.cell? ⟨gl, 1, none⟩ = some (.float .f32 cB) := hb.cellK; (first | (have nx := Ext.trans hx hb; clear hx) | (have nx := Ext.trans (hx.alloc _) hb; clear hx) | (have nx := Ext.trans hx.drew hb; clear hx) | have nx := hb); clear hb; try clear hs; try clear g0; try clear g1; try clear g2; try clear g3; have hx := nx; clear nx; have hs := ns; clear ns; have g0 := n0; clear n0; have g1 := n1; clear n1; have g2 := n2; clear n2; have g3 := n3; clear n3) | (go_at_call 58; refine (N5.out t H2.out _ _ _ ?c0q6 ?c1q6 ?c2q6).mono ?kq6; (case c0q6 => first | with_reducible assumption | (simp; done) | (simp [go_sem]; done) | (simp [go_sem, *]; done)); (case c1q6 => first | with_reducible assumption | (simp; done) | (simp [go_sem]; done) | (simp [go_sem, *]; done)); (case c2q6 => (first | (simp; done) | (simp; omega)));  rintro rv w6 ⟨y, rfl, hq, hb⟩; have H5 := Lib.hid hq; clear hq; have ns : max w.heap.size gl < w6.heap.size := hb.ltK; have n0 : w6.cell? ⟨w.heap.size, 0, none⟩ = some (.int .i64 e) := hb.cellK; have n1 : w6.cell? ⟨w.heap.size, 1, none⟩ = some (.int .i64 f) := hb.cellK; have n2 : w6.cell? ⟨gl, 0, none⟩ = some (.float .f32 cA) := hb.cellK; have n3 : w6.cell? ⟨gl, 1, none⟩ = some (.float .f32 cB) := hb.cellK; (first | (have nx := Ext.trans hx hb; clear hx) | (have nx := Ext.trans (hx.alloc _) hb; clear hx) | (have nx := Ext.trans hx.drew hb; clear hx) | have nx := hb); clear hb; try clear hs; try clear g0; try clear g1; try clear g2; try clear g3; have hx := nx; clear nx; have hs := ns; clear ns; have g0 := n0; clear n0; have g1 := n1; clear n1; have g2 := n2; clear n2; have g3 := n3; clear n3) | (go_at_call 58; refine (N6.out v y H4.out H5.out _ _ _ ?c0q7 ?c1q7 ?c2q7).mono ?kq7; (case c0q7 => first | with_reducible assumption | (simp; done) | (simp [go_sem]; done) | (simp [go_sem, *]; done)); (case c1q7 => first | with_reducible assumption | (simp; done) | (simp [go_sem]; done) | (simp [go_sem, *]; done)); (case c2q7 => (first | (simp; done) | (simp; omega)));  rintro rv w7 ⟨z, rfl, hq, hb⟩; have H6 := Lib.hid hq; clear hq; have ns : max w.heap.size gl < w7.heap.size := hb.ltK; have n0 : w7.cell? ⟨w.heap.size, 0, none⟩ = some (.int .i64 e) := hb.cellK; have n1 : w7.cell? ⟨w.heap.size, 1, none⟩ = some (.int .i64 f) := hb.cellK; have n2 : w7.cell? ⟨gl, 0, none⟩ = some (.float .f32 cA) := hb.cellK; have n3 : w7.cell? ⟨gl, 1, none⟩ = some (.float .f32 cB) := hb.cellK; (first | (have nx := Ext.trans hx hb; clear hx) | (have nx := Ext.trans (hx.alloc _) hb; clear hx) | (have nx := Ext.trans hx.drew hb; clear hx) | have nx := hb); clear hb; try clear hs; try clear g0; try clear g1; try clear g2; try clear g3; have hx := nx; clear nx; have hs := ns; clear ns; have g0 := n0; clear n0; have g1 := n1; clear n1; have g2 := n2; clear n2; have g3 := n3; clear n3) | (go_at_call 59; refine (N7.out s t u v y z H1.out H2.out H3.out H4.out H5.out H6.out _ _ _ ?d0 ?d1 ?d2 ?d3 ?d4 ?d5 ?d6).mono ?dk; (case d0 => first | with_reducible assumption | (simp; done) | (simp [go_sem]; done) | (simp [go_sem, *]; done)); (case d1 => first | with_reducible assumption | (simp; done) | (simp [go_sem]; done) | (simp [go_sem, *]; done)); (case d2 => first | with_reducible assumption | (simp; done) | (simp [go_sem]; done) | (simp [go_sem, *]; done)); (case d3 => first | with_reducible assumption | (simp; done) | (simp [go_sem]; done) | (simp [go_sem, *]; done)); (case d4 => first | with_reducible assumption | (simp; done) | (simp [go_sem]; done) | (simp [go_sem, *]; done)); (case d5 => first | with_reducible assumption | (simp; done) | (simp [go_sem]; done) | (simp [go_sem, *]; done)); (case d6 => (first | (simp; done) | (simp; omega)));  rintro rv w9 ⟨vv, rfl, hq, hb⟩; have HO := Lib.hid hq; clear hq; have ns : w.heap.size < w9.heap.size := hb.ltK; have n0 : w9.cell? ⟨w.heap.size, 0, none⟩ = some (.int .i64 e) := hb.cellK; have n1 : w9.cell? ⟨w.heap.size, 1, none⟩ = some (.int .i64 f) := hb.cellK; (first | (have nx := Ext.trans hx hb; clear hx) | (have nx := Ext.trans (hx.alloc _) hb; clear hx) | (have nx := Ext.trans hx.drew hb; clear hx) | have nx := hb); clear hb; try clear hs; try clear g0; try clear g1; have hx := nx; clear nx; have hs := ns; clear ns; have g0 := n0; clear n0; have g1 := n1; clear n1) | fail))
  all_goals (try (go_region_held3 (fun w' => w'.cell? ⟨w.heap.size, 0, none⟩ = some (.int .i64 e) ∧ w'.cell? ⟨w.heap.size, 1, none⟩ = some (.int .i64 f) ∧ w'.cell? ⟨gl, 0, none⟩ = some (.float .f32 cA) ∧ w'.cell? ⟨gl, 1, none⟩ = some (.float .f32 cB) ∧ max w.heap.size gl < w'.heap.size) ((refine ⟨?_, ?_, ?_, ?_, ?_⟩ <;> first | with_reducible assumption | ((repeat first | rw [cell_set_far _ _ _ _ _ _ (by omega)] | rw [cell_alloc_before _ _ _ _ (by omega)] | rw [cell_alloc_drew _ _ _ _ (by omega)] | rw [cell_drew]); with_reducible assumption) | ((rw [cell_setRow_far _ _ _ _ _ (by omega)]); with_reducible assumption) | ((rw [setRow_size]); with_reducible assumption) | (simp; done) | (simp [World.setCell]; first | done | omega) | (simp [go_sem, World.cell?_alloc_past, World.cell?_setCell_far, *]; done))) ((first | (go_at_call 58; refine (N4.out u H3.out _ _ _ ?c0q5 ?c1q5 ?c2q5).mono ?kq5; (case c0q5 => first | with_reducible assumption | (simp; done) | (simp [go_sem]; done) | (simp [go_sem, *]; done)); (case c1q5 => first | with_reducible assumption | (simp; done) | (simp [go_sem]; done) | (simp [go_sem, *]; done)); (case c2q5 => (first | (simp; done) | (simp; omega)));  rintro rv w5 ⟨v, rfl, hq, hb⟩; have H4 := Lib.hid hq; clear hq; have ns : max w.heap.size gl < w5.heap.size := hb.ltK; have n0 : w5.cell? ⟨w.heap.size, 0, none⟩ = some (.int .i64 e) := hb.cellK; have n1 : w5.cell? ⟨w.heap.size, 1, none⟩ = some (.int .i64 f) := hb.cellK; have n2 : w5.cell? ⟨gl, 0, none⟩ = some (.float .f32 cA) := hb.cellK; have n3 : w5.cell? ⟨gl, 1, none⟩ = some (.float .f32 cB) := hb.cellK; (first | (have nx := Ext.trans hx hb; clear hx) | (have nx := Ext.trans (hx.alloc _) hb; clear hx) | (have nx := Ext.trans hx.drew hb; clear hx) | have nx := hb); clear hb; try clear hs; try clear g0; try clear g1; try clear g2; try clear g3; have hx := nx; clear nx; have hs := ns; clear ns; have g0 := n0; clear n0; have g1 := n1; clear n1; have g2 := n2; clear n2; have g3 := n3; clear n3) | fail))))
  all_goals (try go_wp2_with (first | (go_at_call 58; refine (N1.out _ _ _ ?c0q2 ?c1q2 ?c2q2).mono ?kq2; (case c0q2 => first | with_reducible assumption | (simp; done) | (simp [go_sem]; done) | (simp [go_sem, *]; done)); (case c1q2 => first | with_reducible assumption | (simp; done) | (simp [go_sem]; done) | (simp [go_sem, *]; done)); (case c2q2 => (first | (simp; done) | (simp; omega)));  rintro rv w2 ⟨s, rfl, hq, hb⟩; have H1 := Lib.hid hq; clear hq; have ns : max w.heap.size gl < w2.heap.size := hb.ltK; have n0 : w2.cell? ⟨w.heap.size, 0, none⟩ = some (.int .i64 e) := hb.cellK; have n1 : w2.cell? ⟨w.heap.size, 1, none⟩ = some (.int .i64 f) := hb.cellK; have n2 : w2.cell? ⟨gl, 0, none⟩ = some (.float .f32 cA) := hb.cellK; have n3 : w2.cell? ⟨gl, 1, none⟩ = some (.float .f32 cB) := hb.cellK; (first | (have nx := Ext.trans hx hb; clear hx) | (have nx := Ext.trans (hx.alloc _) hb; clear hx) | (have nx := Ext.trans hx.drew hb; clear hx) | have nx := hb); clear hb; try clear hs; try clear g0; try clear g1; try clear g2; try clear g3; have hx := nx; clear nx; have hs := ns; clear ns; have g0 := n0; clear n0; have g1 := n1; clear n1; have g2 := n2; clear n2; have g3 := n3; clear n3) | (go_at_call 58; refine (N2.out s H1.out _ _ _ ?c0q3 ?c1q3 ?c2q3).mono ?kq3; (case c0q3 => first | with_reducible assumption | (simp; done) | (simp [go_sem]; done) | (simp [go_sem, *]; done)); (case c1q3 => first | with_reducible assumption | (simp; done) | (simp [go_sem]; done) | (simp [go_sem, *]; done)); (case c2q3 => (first | (simp; done) | (simp; omega)));  rintro rv w3 ⟨t, rfl, hq, hb⟩; have H2 := Lib.hid hq; clear hq; have ns : max w.heap.size gl < w3.heap.size := hb.ltK; have n0 : w3.cell? ⟨w.heap.size, 0, none⟩ = some (.int .i64 e) := hb.cellK; have n1 : w3.cell? ⟨w.heap.size, 1, none⟩ = some (.int .i64 f) := hb.cellK; have n2 : w3.cell? ⟨gl, 0, none⟩ = some (.float .f32 cA) := hb.cellK; have n3 : w3.cell? ⟨gl, 1, none⟩ = some (.float .f32 cB) := hb.cellK; (first | (have nx := Ext.trans hx hb; clear hx) | (have nx := Ext.trans (hx.alloc _) hb; clear hx) | (have nx := Ext.trans hx.drew hb; clear hx) | have nx := hb); clear hb; try clear hs; try clear g0; try clear g1; try clear g2; try clear g3; have hx := nx; clear nx; have hs := ns; clear ns; have g0 := n0; clear n0; have g1 := n1; clear n1; have g2 := n2; clear n2; have g3 := n3; clear n3) | (go_at_call 58; refine (N3.out s t H1.out H2.out _ _ _ ?c0q4 ?c1q4 ?c2q4).mono ?kq4; (case c0q4 => first | with_reducible assumption | (simp; done) | (simp [go_sem]; done) | (simp [go_sem, *]; done)); (case c1q4 => first | with_reducible assumption | (simp; done) | (simp [go_sem]; done) | (simp [go_sem, *]; done)); (case c2q4 => (first | (simp; done) | (simp; omega)));  rintro rv w4 ⟨u, rfl, hq, hb⟩; have H3 := Lib.hid hq; clear hq; have ns : max w.heap.size gl < w4.heap.size := hb.ltK; have n0 : w4.cell? ⟨w.heap.size, 0, none⟩ = some (.int .i64 e) := hb.cellK; have n1 : w4.cell? ⟨w.heap.size, 1, none⟩ = some (.int .i64 f) := hb.cellK; have n2 : w4.cell? ⟨gl, 0, none⟩ = some (.float .f32 cA) := hb.cellK; have n3 : w4.cell? ⟨gl, 1, none⟩ = some (.float .f32 cB) := hb.cellK; (first | (have nx := Ext.trans hx hb; clear hx) | (have nx := Ext.trans (hx.alloc _) hb; clear hx) | (have nx := Ext.trans hx.drew hb; clear hx) | have nx := hb); clear hb; try clear hs; try clear g0; try clear g1; try clear g2; try clear g3; have hx := nx; clear nx; have hs := ns; clear ns; have g0 := n0; clear n0; have g1 := n1; clear n1; have g2 := n2; clear n2; have g3 := n3; clear n3) | (go_at_call 58; refine (N4.out u H3.out _ _ _ ?c0q5 ?c1q5 ?c2q5).mono ?kq5; (case c0q5 => first | with_reducible assumption | (simp; done) | (simp [go_sem]; done) | (simp [go_sem, *]; done)); (case c1q5 => first | with_reducible assumption | (simp; done) | (simp [go_sem]; done) | (simp [go_sem, *]; done)); (case c2q5 => (first | (simp; done) | (simp; omega)));  rintro rv w5 ⟨v, rfl, hq, hb⟩; have H4 := Lib.hid hq; clear hq; have ns : max w.heap.size gl < w5.heap.size := hb.ltK; have n0 : w5.cell? ⟨w.heap.size, 0, none⟩ = some (.int .i64 e) := hb.cellK; have n1 : w5.cell? ⟨w.heap.size, 1, none⟩ = some (.int .i64 f) := hb.cellK; have n2 : w5.cell? ⟨gl, 0, none⟩ = some (.float .f32 cA) := hb.cellK; have n3 : w5.cell? ⟨gl, 1, none⟩ = some (.float .f32 cB) := hb.cellK; (first | (have nx := Ext.trans hx hb; clear hx) | (have nx := Ext.trans (hx.alloc _) hb; clear hx) | (have nx := Ext.trans hx.drew hb; clear hx) | have nx := hb); clear hb; try clear hs; try clear g0; try clear g1; try clear g2; try clear g3; have hx := nx; clear nx; have hs := ns; clear ns; have g0 := n0; clear n0; have g1 := n1; clear n1; have g2 := n2; clear n2; have g3 := n3; clear n3) | (go_at_call 58; refine (N5.out t H2.out _ _ _ ?c0q6 ?c1q6 ?c2q6).mono ?kq6; (case c0q6 => first | with_reducible assumption | (simp; done) | (simp [go_sem]; done) | (simp [go_sem, *]; done)); (case c1q6 => first | with_reducible assumption | (simp; done) | (simp [go_sem]; done) | (simp [go_sem, *]; done)); (case c2q6 => (first | (simp; done) | (simp; omega)));  rintro rv w6 ⟨y, rfl, hq, hb⟩; have H5 := Lib.hid hq; clear hq; have ns : max w.heap.size gl < w6.heap.size := hb.ltK; have n0 : w6.cell? ⟨w.heap.size, 0, none⟩ = some (.int .i64 e) := hb.cellK; have n1 : w6.cell? ⟨w.heap.size, 1, none⟩ = some (.int .i64 f) := hb.cellK; have n2 : w6.cell? ⟨gl, 0, none⟩ = some (.float .f32 cA) := hb.cellK; have n3 : w6.cell? ⟨gl, 1, none⟩ = some (.float .f32 cB) := hb.cellK; (first | (have nx := Ext.trans hx hb; clear hx) | (have nx := Ext.trans (hx.alloc _) hb; clear hx) | (have nx := Ext.trans hx.drew hb; clear hx) | have nx := hb); clear hb; try clear hs; try clear g0; try clear g1; try clear g2; try clear g3; have hx := nx; clear nx; have hs := ns; clear ns; have g0 := n0; clear n0; have g1 := n1; clear n1; have g2 := n2; clear n2; have g3 := n3; clear n3) | (go_at_call 58; refine (N6.out v y H4.out H5.out _ _ _ ?c0q7 ?c1q7 ?c2q7).mono ?kq7; (case c0q7 => first | with_reducible assumption | (simp; done) | (simp [go_sem]; done) | (simp [go_sem, *]; done)); (case c1q7 => first | with_reducible assumption | (simp; done) | (simp [go_sem]; done) | (simp [go_sem, *]; done)); (case c2q7 => (first | (simp; done) | (simp; omega)));  rintro rv w7 ⟨z, rfl, hq, hb⟩; have H6 := Lib.hid hq; clear hq; have ns : max w.heap.size gl < w7.heap.size := hb.ltK; have n0 : w7.cell? ⟨w.heap.size, 0, none⟩ = some (.int .i64 e) := hb.cellK; have n1 : w7.cell? ⟨w.heap.size, 1, none⟩ = some (.int .i64 f) := hb.cellK; have n2 : w7.cell? ⟨gl, 0, none⟩ = some (.float .f32 cA) := hb.cellK; have n3 : w7.cell? ⟨gl, 1, none⟩ = some (.float .f32 cB) := hb.cellK; (first | (have nx := Ext.trans hx hb; clear hx) | (have nx := Ext.trans (hx.alloc _) hb; clear hx) | (have nx := Ext.trans hx.drew hb; clear hx) | have nx := hb); clear hb; try clear hs; try clear g0; try clear g1; try clear g2; try clear g3; have hx := nx; clear nx; have hs := ns; clear ns; have g0 := n0; clear n0; have g1 := n1; clear n1; have g2 := n2; clear n2; have g3 := n3; clear n3) | (go_at_call 59; refine (N7.out s t u v y z H1.out H2.out H3.out H4.out H5.out H6.out _ _ _ ?d0 ?d1 ?d2 ?d3 ?d4 ?d5 ?d6).mono ?dk; (case d0 => first | with_reducible assumption | (simp; done) | (simp [go_sem]; done) | (simp [go_sem, *]; done)); (case d1 => first | with_reducible assumption | (simp; done) | (simp [go_sem]; done) | (simp [go_sem, *]; done)); (case d2 => first | with_reducible assumption | (simp; done) | (simp [go_sem]; done) | (simp [go_sem, *]; done)); (case d3 => first | with_reducible assumption | (simp; done) | (simp [go_sem]; done) | (simp [go_sem, *]; done)); (case d4 => first | with_reducible assumption | (simp; done) | (simp [go_sem]; done) | (simp [go_sem, *]; done)); (case d5 => first | with_reducible assumption | (simp; done) | (simp [go_sem]; done) | (simp [go_sem, *]; done)); (case d6 => (first | (simp; done) | (simp; omega)));  rintro rv w9 ⟨vv, rfl, hq, hb⟩; have HO := Lib.hid hq; clear hq; have ns : w.heap.size < w9.heap.size := hb.ltK; have n0 : w9.cell? ⟨w.heap.size, 0, none⟩ = some (.int .i64 e) := hb.cellK; have n1 : w9.cell? ⟨w.heap.size, 1, none⟩ = some (.int .i64 f) := hb.cellK; (first | (have nx := Ext.trans hx hb; clear hx) | (have nx := Ext.trans (hx.alloc _) hb; clear hx) | (have nx := Ext.trans hx.drew hb; clear hx) | have nx := hb); clear hb; try clear hs; try clear g0; try clear g1; have hx := nx; clear nx; have hs := ns; clear ns; have g0 := n0; clear n0; have g1 := n1; clear n1) | fail))
  all_goals (try (go_region_held3 (fun w' => w'.cell? ⟨w.heap.size, 0, none⟩ = some (.int .i64 e) ∧ w'.cell? ⟨w.heap.size, 1, none⟩ = some (.int .i64 f) ∧ w'.cell? ⟨gl, 0, none⟩ = some (.float .f32 cA) ∧ w'.cell? ⟨gl, 1, none⟩ = some (.float .f32 cB) ∧ max w.heap.size gl < w'.heap.size) ((refine ⟨?_, ?_, ?_, ?_, ?_⟩ <;> first | with_reducible assumption | ((repeat first | rw [cell_set_far _ _ _ _ _ _ (by omega)] | rw [cell_alloc_before _ _ _ _ (by omega)] | rw [cell_alloc_drew _ _ _ _ (by omega)] | rw [cell_drew]); with_reducible assumption) | ((rw [cell_setRow_far _ _ _ _ _ (by omega)]); with_reducible assumption) | ((rw [setRow_size]); with_reducible assumption) | (simp; done) | (simp [World.setCell]; first | done | omega) | (simp [go_sem, World.cell?_alloc_past, World.cell?_setCell_far, *]; done))) ((first | (go_at_call 58; refine (N5.out t H2.out _ _ _ ?c0q6 ?c1q6 ?c2q6).mono ?kq6; (case c0q6 => first | with_reducible assumption | (simp; done) | (simp [go_sem]; done) | (simp [go_sem, *]; done)); (case c1q6 => first | with_reducible assumption | (simp; done) | (simp [go_sem]; done) | (simp [go_sem, *]; done)); (case c2q6 => (first | (simp; done) | (simp; omega)));  rintro rv w6 ⟨y, rfl, hq, hb⟩; have H5 := Lib.hid hq; clear hq; have ns : max w.heap.size gl < w6.heap.size := hb.ltK; have n0 : w6.cell? ⟨w.heap.size, 0, none⟩ = some (.int .i64 e) := hb.cellK; have n1 : w6.cell? ⟨w.heap.size, 1, none⟩ = some (.int .i64 f) := hb.cellK; have n2 : w6.cell? ⟨gl, 0, none⟩ = some (.float .f32 cA) := hb.cellK; have n3 : w6.cell? ⟨gl, 1, none⟩ = some (.float .f32 cB) := hb.cellK; (first | (have nx := Ext.trans hx hb; clear hx) | (have nx := Ext.trans (hx.alloc _) hb; clear hx) | (have nx := Ext.trans hx.drew hb; clear hx) | have nx := hb); clear hb; try clear hs; try clear g0; try clear g1; try clear g2; try clear g3; have hx := nx; clear nx; have hs := ns; clear ns; have g0 := n0; clear n0; have g1 := n1; clear n1; have g2 := n2; clear n2; have g3 := n3; clear n3) | fail))))
  all_goals (try go_wp2_with (first | (go_at_call 58; refine (N1.out _ _ _ ?c0q2 ?c1q2 ?c2q2).mono ?kq2; (case c0q2 => first | with_reducible assumption | (simp; done) | (simp [go_sem]; done) | (simp [go_sem, *]; done)); (case c1q2 => first | with_reducible assumption | (simp; done) | (simp [go_sem]; done) | (simp [go_sem, *]; done)); (case c2q2 => (first | (simp; done) | (simp; omega)));  rintro rv w2 ⟨s, rfl, hq, hb⟩; have H1 := Lib.hid hq; clear hq; have ns : max w.heap.size gl < w2.heap.size := hb.ltK; have n0 : w2.cell? ⟨w.heap.size, 0, none⟩ = some (.int .i64 e) := hb.cellK; have n1 : w2.cell? ⟨w.heap.size, 1, none⟩ = some (.int .i64 f) := hb.cellK; have n2 : w2.cell? ⟨gl, 0, none⟩ = some (.float .f32 cA) := hb.cellK; have n3 : w2.cell? ⟨gl, 1, none⟩ = some (.float .f32 cB) := hb.cellK; (first | (have nx := Ext.trans hx hb; clear hx) | (have nx := Ext.trans (hx.alloc _) hb; clear hx) | (have nx := Ext.trans hx.drew hb; clear hx) | have nx := hb); clear hb; try clear hs; try clear g0; try clear g1; try clear g2; try clear g3; have hx := nx; clear nx; have hs := ns; clear ns; have g0 := n0; clear n0; have g1 := n1; clear n1; have g2 := n2; clear n2; have g3 := n3; clear n3) | (go_at_call 58; refine (N2.out s H1.out _ _ _ ?c0q3 ?c1q3 ?c2q3).mono ?kq3; (case c0q3 => first | with_reducible assumption | (simp; done) | (simp [go_sem]; done) | (simp [go_sem, *]; done)); (case c1q3 => first | with_reducible assumption | (simp; done) | (simp [go_sem]; done) | (simp [go_sem, *]; done)); (case c2q3 => (first | (simp; done) | (simp; omega)));  rintro rv w3 ⟨t, rfl, hq, hb⟩; have H2 := Lib.hid hq; clear hq; have ns : max w.heap.size gl < w3.heap.size := hb.ltK; have n0 : w3.cell? ⟨w.heap.size, 0, none⟩ = some (.int .i64 e) := hb.cellK; have n1 : w3.cell? ⟨w.heap.size, 1, none⟩ = some (.int .i64 f) := hb.cellK; have n2 : w3.cell? ⟨gl, 0, none⟩ = some (.float .f32 cA) := hb.cellK; have n3 : w3.cell? ⟨gl, 1, none⟩ = some (.float .f32 cB) := hb.cellK; (first | (have nx := Ext.trans hx hb; clear hx) | (have nx := Ext.trans (hx.alloc _) hb; clear hx) | (have nx := Ext.trans hx.drew hb; clear hx) | have nx := hb); clear hb; try clear hs; try clear g0; try clear g1; try clear g2; try clear g3; have hx := nx; clear nx; have hs := ns; clear ns; have g0 := n0; clear n0; have g1 := n1; clear n1; have g2 := n2; clear n2; have g3 := n3; clear n3) | (go_at_call 58; refine (N3.out s t H1.out H2.out _ _ _ ?c0q4 ?c1q4 ?c2q4).mono ?kq4; (case c0q4 => first | with_reducible assumption | (simp; done) | (simp [go_sem]; done) | (simp [go_sem, *]; done)); (case c1q4 => first | with_reducible assumption | (simp; done) | (simp [go_sem]; done) | (simp [go_sem, *]; done)); (case c2q4 => (first | (simp; done) | (simp; omega)));  rintro rv w4 ⟨u, rfl, hq, hb⟩; have H3 := Lib.hid hq; clear hq; have ns : max w.heap.size gl < w4.heap.size := hb.ltK; have n0 : w4.cell? ⟨w.heap.size, 0, none⟩ = some (.int .i64 e) := hb.cellK; have n1 : w4.cell? ⟨w.heap.size, 1, none⟩ = some (.int .i64 f) := hb.cellK; have n2 : w4.cell? ⟨gl, 0, none⟩ = some (.float .f32 cA) := hb.cellK; have n3 : w4.cell? ⟨gl, 1, none⟩ = some (.float .f32 cB) := hb.cellK; (first | (have nx := Ext.trans hx hb; clear hx) | (have nx := Ext.trans (hx.alloc _) hb; clear hx) | (have nx := Ext.trans hx.drew hb; clear hx) | have nx := hb); clear hb; try clear hs; try clear g0; try clear g1; try clear g2; try clear g3; have hx := nx; clear nx; have hs := ns; clear ns; have g0 := n0; clear n0; have g1 := n1; clear n1; have g2 := n2; clear n2; have g3 := n3; clear n3) | (go_at_call 58; refine (N4.out u H3.out _ _ _ ?c0q5 ?c1q5 ?c2q5).mono ?kq5; (case c0q5 => first | with_reducible assumption | (simp; done) | (simp [go_sem]; done) | (simp [go_sem, *]; done)); (case c1q5 => first | with_reducible assumption | (simp; done) | (simp [go_sem]; done) | (simp [go_sem, *]; done)); (case c2q5 => (first | (simp; done) | (simp; omega)));  rintro rv w5 ⟨v, rfl, hq, hb⟩; have H4 := Lib.hid hq; clear hq; have ns : max w.heap.size gl < w5.heap.size := hb.ltK; have n0 : w5.cell? ⟨w.heap.size, 0, none⟩ = some (.int .i64 e) := hb.cellK; have n1 : w5.cell? ⟨w.heap.size, 1, none⟩ = some (.int .i64 f) := hb.cellK; have n2 : w5.cell? ⟨gl, 0, none⟩ = some (.float .f32 cA) := hb.cellK; have n3 : w5.cell? ⟨gl, 1, none⟩ = some (.float .f32 cB) := hb.cellK; (first | (have nx := Ext.trans hx hb; clear hx) | (have nx := Ext.trans (hx.alloc _) hb; clear hx) | (have nx := Ext.trans hx.drew hb; clear hx) | have nx := hb); clear hb; try clear hs; try clear g0; try clear g1; try clear g2; try clear g3; have hx := nx; clear nx; have hs := ns; clear ns; have g0 := n0; clear n0; have g1 := n1; clear n1; have g2 := n2; clear n2; have g3 := n3; clear n3) | (go_at_call 58; refine (N5.out t H2.out _ _ _ ?c0q6 ?c1q6 ?c2q6).mono ?kq6; (case c0q6 => first | with_reducible assumption | (simp; done) | (simp [go_sem]; done) | (simp [go_sem, *]; done)); (case c1q6 => first | with_reducible assumption | (simp; done) | (simp [go_sem]; done) | (simp [go_sem, *]; done)); (case c2q6 => (first | (simp; done) | (simp; omega)));  rintro rv w6 ⟨y, rfl, hq, hb⟩; have H5 := Lib.hid hq; clear hq; have ns : max w.heap.size gl < w6.heap.size := hb.ltK; have n0 : w6.cell? ⟨w.heap.size, 0, none⟩ = some (.int .i64 e) := hb.cellK; have n1 : w6.cell? ⟨w.heap.size, 1, none⟩ = some (.int .i64 f) := hb.cellK; have n2 : w6.cell? ⟨gl, 0, none⟩ = some (.float .f32 cA) := hb.cellK; have n3 : w6.cell? ⟨gl, 1, none⟩ = some (.float .f32 cB) := hb.cellK; (first | (have nx := Ext.trans hx hb; clear hx) | (have nx := Ext.trans (hx.alloc _) hb; clear hx) | (have nx := Ext.trans hx.drew hb; clear hx) | have nx := hb); clear hb; try clear hs; try clear g0; try clear g1; try clear g2; try clear g3; have hx := nx; clear nx; have hs := ns; clear ns; have g0 := n0; clear n0; have g1 := n1; clear n1; have g2 := n2; clear n2; have g3 := n3; clear n3) | (go_at_call 58; refine (N6.out v y H4.out H5.out _ _ _ ?c0q7 ?c1q7 ?c2q7).mono ?kq7; (case c0q7 => first | with_reducible assumption | (simp; done) | (simp [go_sem]; done) | (simp [go_sem, *]; done)); (case c1q7 => first | with_reducible assumption | (simp; done) | (simp [go_sem]; done) | (simp [go_sem, *]; done)); (case c2q7 => (first | (simp; done) | (simp; omega)));  rintro rv w7 ⟨z, rfl, hq, hb⟩; have H6 := Lib.hid hq; clear hq; have ns : max w.heap.size gl < w7.heap.size := hb.ltK; have n0 : w7.cell? ⟨w.heap.size, 0, none⟩ = some (.int .i64 e) := hb.cellK; have n1 : w7.cell? ⟨w.heap.size, 1, none⟩ = some (.int .i64 f) := hb.cellK; have n2 : w7.cell? ⟨gl, 0, none⟩ = some (.float .f32 cA) := hb.cellK; have n3 : w7.cell? ⟨gl, 1, none⟩ = some (.float .f32 cB) := hb.cellK; (first | (have nx := Ext.trans hx hb; clear hx) | (have nx := Ext.trans (hx.alloc _) hb; clear hx) | (have nx := Ext.trans hx.drew hb; clear hx) | have nx := hb); clear hb; try clear hs; try clear g0; try clear g1; try clear g2; try clear g3; have hx := nx; clear nx; have hs := ns; clear ns; have g0 := n0; clear n0; have g1 := n1; clear n1; have g2 := n2; clear n2; have g3 := n3; clear n3) | (go_at_call 59; refine (N7.out s t u v y z H1.out H2.out H3.out H4.out H5.out H6.out _ _ _ ?d0 ?d1 ?d2 ?d3 ?d4 ?d5 ?d6).mono ?dk; (case d0 => first | with_reducible assumption | (simp; done) | (simp [go_sem]; done) | (simp [go_sem, *]; done)); (case d1 => first | with_reducible assumption | (simp; done) | (simp [go_sem]; done) | (simp [go_sem, *]; done)); (case d2 => first | with_reducible assumption | (simp; done) | (simp [go_sem]; done) | (simp [go_sem, *]; done)); (case d3 => first | with_reducible assumption | (simp; done) | (simp [go_sem]; done) | (simp [go_sem, *]; done)); (case d4 => first | with_reducible assumption | (simp; done) | (simp [go_sem]; done) | (simp [go_sem, *]; done)); (case d5 => first | with_reducible assumption | (simp; done) | (simp [go_sem]; done) | (simp [go_sem, *]; done)); (case d6 => (first | (simp; done) | (simp; omega)));  rintro rv w9 ⟨vv, rfl, hq, hb⟩; have HO := Lib.hid hq; clear hq; have ns : w.heap.size < w9.heap.size := hb.ltK; have n0 : w9.cell? ⟨w.heap.size, 0, none⟩ = some (.int .i64 e) := hb.cellK; have n1 : w9.cell? ⟨w.heap.size, 1, none⟩ = some (.int .i64 f) := hb.cellK; (first | (have nx := Ext.trans hx hb; clear hx) | (have nx := Ext.trans (hx.alloc _) hb; clear hx) | (have nx := Ext.trans hx.drew hb; clear hx) | have nx := hb); clear hb; try clear hs; try clear g0; try clear g1; have hx := nx; clear nx; have hs := ns; clear ns; have g0 := n0; clear n0; have g1 := n1; clear n1) | fail))
  all_goals (try (go_region_held3 (fun w' => w'.cell? ⟨w.heap.size, 0, none⟩ = some (.int .i64 e) ∧ w'.cell? ⟨w.heap.size, 1, none⟩ = some (.int .i64 f) ∧ w.heap.size < w'.heap.size) ((refine ⟨?_, ?_, ?_⟩ <;> first | with_reducible assumption | ((repeat first | rw [cell_set_far _ _ _ _ _ _ (by omega)] | rw [cell_alloc_before _ _ _ _ (by omega)] | rw [cell_alloc_drew _ _ _ _ (by omega)] | rw [cell_drew]); with_reducible assumption) | ((rw [cell_setRow_far _ _ _ _ _ (by omega)]); with_reducible assumption) | ((rw [setRow_size]); with_reducible assumption) | (simp; done) | (simp [World.setCell]; first | done | omega) | (simp [go_sem, World.cell?_alloc_past, World.cell?_setCell_far, *]; done))) ((first | (go_at_call 59; refine (N7.out s t u v y z H1.out H2.out H3.out H4.out H5.out H6.out _ _ _ ?d0 ?d1 ?d2 ?d3 ?d4 ?d5 ?d6).mono ?dk; (case d0 => first | with_reducible assumption | (simp; done) | (simp [go_sem]; done) | (simp [go_sem, *]; done)); (case d1 => first | with_reducible assumption | (simp; done) | (simp [go_sem]; done) | (simp [go_sem, *]; done)); (case d2 => first | with_reducible assumption | (simp; done) | (simp [go_sem]; done) | (simp [go_sem, *]; done)); (case d3 => first | with_reducible assumption | (simp; done) | (simp [go_sem]; done) | (simp [go_sem, *]; done)); (case d4 => first | with_reducible assumption | (simp; done) | (simp [go_sem]; done) | (simp [go_sem, *]; done)); (case d5 => first | with_reducible assumption | (simp; done) | (simp [go_sem]; done) | (simp [go_sem, *]; done)); (case d6 => (first | (simp; done) | (simp; omega)));  rintro rv w9 ⟨vv, rfl, hq, hb⟩; have HO := Lib.hid hq; clear hq; have ns : w.heap.size < w9.heap.size := hb.ltK; have n0 : w9.cell? ⟨w.heap.size, 0, none⟩ = some (.int .i64 e) := hb.cellK; have n1 : w9.cell? ⟨w.heap.size, 1, none⟩ = some (.int .i64 f) := hb.cellK; (first | (have nx := Ext.trans hx hb; clear hx) | (have nx := Ext.trans (hx.alloc _) hb; clear hx) | (have nx := Ext.trans hx.drew hb; clear hx) | have nx := hb); clear hb; try clear hs; try clear g0; try clear g1; have hx := nx; clear nx; have hs := ns; clear ns; have g0 := n0; clear n0; have g1 := n1; clear n1) | fail))))
  all_goals (try go_wp2_with fail)
  all_goals go_ret2
  all_goals exact ⟨vv, rfl, six_base HO.out (by first | omega | (simp; omega)), Ext.auK⟩

theorem iSixSteps_no (e f a b : Int) (hg : (finB e f a && finB e f b) = false) (w : World) : Calls Try.prog 18 #[fmt e f, .int .i64 a, .int .i64 b] w fun rv w' => rv = .returned (.tuple #[.slice none 0 0, .bool false]) ∧ Ext w w' := by
  go_enter Try.func18, Try.ntmps18
  go_wp2_with (go_at_call 57; (with_reducible refine (valuesOf2_no e f a b (w.heap.size + 1) hg _ (by first | with_reducible assumption | (simp; done) | (simp [go_sem]; done) | (simp [go_sem, *]; done)) (by first | with_reducible assumption | (simp; done) | (simp [go_sem]; done) | (simp [go_sem, *]; done)) (by simp; try omega)).mono ?_); rintro rv w1 ⟨rfl, hb⟩; have hx : Ext w w1 := Ext.trans Ext.auK hb; clear hb)
  go_ret2
  exact ⟨rfl, Ext.auK⟩

theorem sSixSteps_no (e f a b : Int) (hg : (finB e f a && finB e f b) = false) (w : World) : Calls Try.prog 17 #[fmt e f, .int .i64 a, .int .i64 b] w fun rv w' => rv = .returned (.tuple #[.slice none 0 0, .bool false]) ∧ Ext w w' := by
  go_enter Try.func17, Try.ntmps17
  go_wp2_with (go_at_call 54; refine (exBoth_any e f a b _).mono ?_; rintro rv w1 ⟨rfl, hb⟩; have ns : w.heap.size < w1.heap.size := hb.ltK; have n0 : w1.cell? ⟨w.heap.size, 0, none⟩ = some (.int .i64 e) := hb.cellK; have n1 : w1.cell? ⟨w.heap.size, 1, none⟩ = some (.int .i64 f) := hb.cellK; (first | (have nx := Ext.trans hx hb; clear hx) | (have nx := Ext.trans (hx.alloc _) hb; clear hx) | (have nx := Ext.trans hx.drew hb; clear hx) | have nx := hb); clear hb; try clear hs; try clear g0; try clear g1; have hx := nx; clear nx; have hs := ns; clear ns; have g0 := n0; clear n0; have g1 := n1; clear n1)
  go_ret2
  exact ⟨rfl, Ext.auK⟩

set_option maxHeartbeats 3200000 in
theorem sSix_0 (e f a b : Int) (hg : (finB e f a && finB e f b) = true)  (h0 : sb0 e f a b = false) (w : World) : Calls Try.prog 17 #[fmt e f, .int .i64 a, .int .i64 b] w fun rv w' => rv = .returned (.tuple #[.slice none 0 0, .bool false]) ∧ Ext w w' := by
  obtain ⟨ha, hb2⟩ : finB e f a = true ∧ finB e f b = true := by simpa using hg
  obtain ⟨hgg, _⟩ := fin_size ha
  obtain ⟨q0, q1, q2, q3, q4, q5⟩ := sw_val e f a b hg
  have E0 : RowKit.Hid (∀ w, Calls Try.prog 55 #[fmt e f, .int .i64 a, .int .i64 b] w fun rv w' => rv = .returned (.tuple #[.int .i64 (sx0 e f a b), .bool (sb0 e f a b)]) ∧ Ext w w') := Lib.hid (fun w => exSum_any e f a b hg w)
  rw [h0] at E0
  clear q0 q1 q2 q3 q4 q5
  generalize sx0 e f a b = p0 at *
  go_enter Try.func17, Try.ntmps17
  go_wp2_with (first | (go_at_call 54; refine (exBoth_any e f a b _).mono ?_; rintro rv w1 ⟨rfl, hb⟩; have ns : w.heap.size < w1.heap.size := hb.ltK; have n0 : w1.cell? ⟨w.heap.size, 0, none⟩ = some (.int .i64 e) := hb.cellK; have n1 : w1.cell? ⟨w.heap.size, 1, none⟩ = some (.int .i64 f) := hb.cellK; (first | (have nx := Ext.trans hx hb; clear hx) | (have nx := Ext.trans (hx.alloc _) hb; clear hx) | (have nx := Ext.trans hx.drew hb; clear hx) | have nx := hb); clear hb; try clear hs; try clear g0; try clear g1; have hx := nx; clear nx; have hs := ns; clear ns; have g0 := n0; clear n0; have g1 := n1; clear n1) | (go_at_call 55; (with_reducible refine (E0.out _).mono ?_); rintro rv w1 ⟨rfl, hb⟩; have ns : w.heap.size < w1.heap.size := hb.ltK; have n0 : w1.cell? ⟨w.heap.size, 0, none⟩ = some (.int .i64 e) := hb.cellK; have n1 : w1.cell? ⟨w.heap.size, 1, none⟩ = some (.int .i64 f) := hb.cellK; (first | (have nx := Ext.trans hx hb; clear hx) | (have nx := Ext.trans (hx.alloc _) hb; clear hx) | (have nx := Ext.trans hx.drew hb; clear hx) | have nx := hb); clear hb; try clear hs; try clear g0; try clear g1; have hx := nx; clear nx; have hs := ns; clear ns; have g0 := n0; clear n0; have g1 := n1; clear n1))
  go_ret2
  exact ⟨rfl, Ext.auK⟩

set_option maxHeartbeats 3200000 in
theorem sSix_1 (e f a b : Int) (hg : (finB e f a && finB e f b) = true) (h0 : sb0 e f a b = true) (h1 : sb1 e f a b = false) (w : World) : Calls Try.prog 17 #[fmt e f, .int .i64 a, .int .i64 b] w fun rv w' => rv = .returned (.tuple #[.slice none 0 0, .bool false]) ∧ Ext w w' := by
  obtain ⟨ha, hb2⟩ : finB e f a = true ∧ finB e f b = true := by simpa using hg
  obtain ⟨hgg, _⟩ := fin_size ha
  obtain ⟨q0, q1, q2, q3, q4, q5⟩ := sw_val e f a b hg
  have E0 : RowKit.Hid (∀ w, Calls Try.prog 55 #[fmt e f, .int .i64 a, .int .i64 b] w fun rv w' => rv = .returned (.tuple #[.int .i64 (sx0 e f a b), .bool (sb0 e f a b)]) ∧ Ext w w') := Lib.hid (fun w => exSum_any e f a b hg w)
  rw [h0] at E0
  have E1 : RowKit.Hid (∀ w, Calls Try.prog 56 #[fmt e f, .int .i64 (sx0 e f a b), .int .i64 a] w fun rv w' => rv = .returned (.tuple #[.int .i64 (sx1 e f a b), .bool (sb1 e f a b)]) ∧ Ext w w') := Lib.hid (fun w => exLess_any e f (sx0 e f a b) a (q0 h0).1 ha w)
  rw [h1] at E1
  clear q0 q1 q2 q3 q4 q5
  generalize sx0 e f a b = p0 at *
  generalize sx1 e f a b = p1 at *
  go_enter Try.func17, Try.ntmps17
  go_wp2_with (first | (go_at_call 54; refine (exBoth_any e f a b _).mono ?_; rintro rv w1 ⟨rfl, hb⟩; have ns : w.heap.size < w1.heap.size := hb.ltK; have n0 : w1.cell? ⟨w.heap.size, 0, none⟩ = some (.int .i64 e) := hb.cellK; have n1 : w1.cell? ⟨w.heap.size, 1, none⟩ = some (.int .i64 f) := hb.cellK; (first | (have nx := Ext.trans hx hb; clear hx) | (have nx := Ext.trans (hx.alloc _) hb; clear hx) | (have nx := Ext.trans hx.drew hb; clear hx) | have nx := hb); clear hb; try clear hs; try clear g0; try clear g1; have hx := nx; clear nx; have hs := ns; clear ns; have g0 := n0; clear n0; have g1 := n1; clear n1) | (go_at_call 55; (with_reducible refine (E0.out _).mono ?_); rintro rv w1 ⟨rfl, hb⟩; have ns : w.heap.size < w1.heap.size := hb.ltK; have n0 : w1.cell? ⟨w.heap.size, 0, none⟩ = some (.int .i64 e) := hb.cellK; have n1 : w1.cell? ⟨w.heap.size, 1, none⟩ = some (.int .i64 f) := hb.cellK; (first | (have nx := Ext.trans hx hb; clear hx) | (have nx := Ext.trans (hx.alloc _) hb; clear hx) | (have nx := Ext.trans hx.drew hb; clear hx) | have nx := hb); clear hb; try clear hs; try clear g0; try clear g1; have hx := nx; clear nx; have hs := ns; clear ns; have g0 := n0; clear n0; have g1 := n1; clear n1) | (go_at_call 56; (with_reducible refine (E1.out _).mono ?_); rintro rv w1 ⟨rfl, hb⟩; have ns : w.heap.size < w1.heap.size := hb.ltK; have n0 : w1.cell? ⟨w.heap.size, 0, none⟩ = some (.int .i64 e) := hb.cellK; have n1 : w1.cell? ⟨w.heap.size, 1, none⟩ = some (.int .i64 f) := hb.cellK; (first | (have nx := Ext.trans hx hb; clear hx) | (have nx := Ext.trans (hx.alloc _) hb; clear hx) | (have nx := Ext.trans hx.drew hb; clear hx) | have nx := hb); clear hb; try clear hs; try clear g0; try clear g1; have hx := nx; clear nx; have hs := ns; clear ns; have g0 := n0; clear n0; have g1 := n1; clear n1))
  go_ret2
  exact ⟨rfl, Ext.auK⟩

set_option maxHeartbeats 3200000 in
theorem sSix_2 (e f a b : Int) (hg : (finB e f a && finB e f b) = true) (h0 : sb0 e f a b = true) (h1 : sb1 e f a b = true) (h2 : sb2 e f a b = false) (w : World) : Calls Try.prog 17 #[fmt e f, .int .i64 a, .int .i64 b] w fun rv w' => rv = .returned (.tuple #[.slice none 0 0, .bool false]) ∧ Ext w w' := by
  obtain ⟨ha, hb2⟩ : finB e f a = true ∧ finB e f b = true := by simpa using hg
  obtain ⟨hgg, _⟩ := fin_size ha
  obtain ⟨q0, q1, q2, q3, q4, q5⟩ := sw_val e f a b hg
  have E0 : RowKit.Hid (∀ w, Calls Try.prog 55 #[fmt e f, .int .i64 a, .int .i64 b] w fun rv w' => rv = .returned (.tuple #[.int .i64 (sx0 e f a b), .bool (sb0 e f a b)]) ∧ Ext w w') := Lib.hid (fun w => exSum_any e f a b hg w)
  rw [h0] at E0
  have E1 : RowKit.Hid (∀ w, Calls Try.prog 56 #[fmt e f, .int .i64 (sx0 e f a b), .int .i64 a] w fun rv w' => rv = .returned (.tuple #[.int .i64 (sx1 e f a b), .bool (sb1 e f a b)]) ∧ Ext w w') := Lib.hid (fun w => exLess_any e f (sx0 e f a b) a (q0 h0).1 ha w)
  rw [h1] at E1
  have E2 : RowKit.Hid (∀ w, Calls Try.prog 56 #[fmt e f, .int .i64 (sx0 e f a b), .int .i64 (sx1 e f a b)] w fun rv w' => rv = .returned (.tuple #[.int .i64 (sx2 e f a b), .bool (sb2 e f a b)]) ∧ Ext w w') := Lib.hid (fun w => exLess_any e f (sx0 e f a b) (sx1 e f a b) (q0 h0).1 (q1 h1).1 w)
  rw [h2] at E2
  clear q0 q1 q2 q3 q4 q5
  generalize sx0 e f a b = p0 at *
  generalize sx1 e f a b = p1 at *
  generalize sx2 e f a b = p2 at *
  go_enter Try.func17, Try.ntmps17
  go_wp2_with (first | (go_at_call 54; refine (exBoth_any e f a b _).mono ?_; rintro rv w1 ⟨rfl, hb⟩; have ns : w.heap.size < w1.heap.size := hb.ltK; have n0 : w1.cell? ⟨w.heap.size, 0, none⟩ = some (.int .i64 e) := hb.cellK; have n1 : w1.cell? ⟨w.heap.size, 1, none⟩ = some (.int .i64 f) := hb.cellK; (first | (have nx := Ext.trans hx hb; clear hx) | (have nx := Ext.trans (hx.alloc _) hb; clear hx) | (have nx := Ext.trans hx.drew hb; clear hx) | have nx := hb); clear hb; try clear hs; try clear g0; try clear g1; have hx := nx; clear nx; have hs := ns; clear ns; have g0 := n0; clear n0; have g1 := n1; clear n1) | (go_at_call 55; (with_reducible refine (E0.out _).mono ?_); rintro rv w1 ⟨rfl, hb⟩; have ns : w.heap.size < w1.heap.size := hb.ltK; have n0 : w1.cell? ⟨w.heap.size, 0, none⟩ = some (.int .i64 e) := hb.cellK; have n1 : w1.cell? ⟨w.heap.size, 1, none⟩ = some (.int .i64 f) := hb.cellK; (first | (have nx := Ext.trans hx hb; clear hx) | (have nx := Ext.trans (hx.alloc _) hb; clear hx) | (have nx := Ext.trans hx.drew hb; clear hx) | have nx := hb); clear hb; try clear hs; try clear g0; try clear g1; have hx := nx; clear nx; have hs := ns; clear ns; have g0 := n0; clear n0; have g1 := n1; clear n1) | (go_at_call 56; (with_reducible refine (E1.out _).mono ?_); rintro rv w1 ⟨rfl, hb⟩; have ns : w.heap.size < w1.heap.size := hb.ltK; have n0 : w1.cell? ⟨w.heap.size, 0, none⟩ = some (.int .i64 e) := hb.cellK; have n1 : w1.cell? ⟨w.heap.size, 1, none⟩ = some (.int .i64 f) := hb.cellK; (first | (have nx := Ext.trans hx hb; clear hx) | (have nx := Ext.trans (hx.alloc _) hb; clear hx) | (have nx := Ext.trans hx.drew hb; clear hx) | have nx := hb); clear hb; try clear hs; try clear g0; try clear g1; have hx := nx; clear nx; have hs := ns; clear ns; have g0 := n0; clear n0; have g1 := n1; clear n1) | (go_at_call 56; (with_reducible refine (E2.out _).mono ?_); rintro rv w1 ⟨rfl, hb⟩; have ns : w.heap.size < w1.heap.size := hb.ltK; have n0 : w1.cell? ⟨w.heap.size, 0, none⟩ = some (.int .i64 e) := hb.cellK; have n1 : w1.cell? ⟨w.heap.size, 1, none⟩ = some (.int .i64 f) := hb.cellK; (first | (have nx := Ext.trans hx hb; clear hx) | (have nx := Ext.trans (hx.alloc _) hb; clear hx) | (have nx := Ext.trans hx.drew hb; clear hx) | have nx := hb); clear hb; try clear hs; try clear g0; try clear g1; have hx := nx; clear nx; have hs := ns; clear ns; have g0 := n0; clear n0; have g1 := n1; clear n1))
  go_ret2
  exact ⟨rfl, Ext.auK⟩

set_option maxHeartbeats 3200000 in
theorem sSix_3 (e f a b : Int) (hg : (finB e f a && finB e f b) = true) (h0 : sb0 e f a b = true) (h1 : sb1 e f a b = true) (h2 : sb2 e f a b = true) (h3 : sb3 e f a b = false) (w : World) : Calls Try.prog 17 #[fmt e f, .int .i64 a, .int .i64 b] w fun rv w' => rv = .returned (.tuple #[.slice none 0 0, .bool false]) ∧ Ext w w' := by
  obtain ⟨ha, hb2⟩ : finB e f a = true ∧ finB e f b = true := by simpa using hg
  obtain ⟨hgg, _⟩ := fin_size ha
  obtain ⟨q0, q1, q2, q3, q4, q5⟩ := sw_val e f a b hg
  have E0 : RowKit.Hid (∀ w, Calls Try.prog 55 #[fmt e f, .int .i64 a, .int .i64 b] w fun rv w' => rv = .returned (.tuple #[.int .i64 (sx0 e f a b), .bool (sb0 e f a b)]) ∧ Ext w w') := Lib.hid (fun w => exSum_any e f a b hg w)
  rw [h0] at E0
  have E1 : RowKit.Hid (∀ w, Calls Try.prog 56 #[fmt e f, .int .i64 (sx0 e f a b), .int .i64 a] w fun rv w' => rv = .returned (.tuple #[.int .i64 (sx1 e f a b), .bool (sb1 e f a b)]) ∧ Ext w w') := Lib.hid (fun w => exLess_any e f (sx0 e f a b) a (q0 h0).1 ha w)
  rw [h1] at E1
  have E2 : RowKit.Hid (∀ w, Calls Try.prog 56 #[fmt e f, .int .i64 (sx0 e f a b), .int .i64 (sx1 e f a b)] w fun rv w' => rv = .returned (.tuple #[.int .i64 (sx2 e f a b), .bool (sb2 e f a b)]) ∧ Ext w w') := Lib.hid (fun w => exLess_any e f (sx0 e f a b) (sx1 e f a b) (q0 h0).1 (q1 h1).1 w)
  rw [h2] at E2
  have E3 : RowKit.Hid (∀ w, Calls Try.prog 56 #[fmt e f, .int .i64 a, .int .i64 (sx2 e f a b)] w fun rv w' => rv = .returned (.tuple #[.int .i64 (sx3 e f a b), .bool (sb3 e f a b)]) ∧ Ext w w') := Lib.hid (fun w => exLess_any e f a (sx2 e f a b) ha (q2 h2).1 w)
  rw [h3] at E3
  clear q0 q1 q2 q3 q4 q5
  generalize sx0 e f a b = p0 at *
  generalize sx1 e f a b = p1 at *
  generalize sx2 e f a b = p2 at *
  generalize sx3 e f a b = p3 at *
  go_enter Try.func17, Try.ntmps17
  go_wp2_with (first | (go_at_call 54; refine (exBoth_any e f a b _).mono ?_; rintro rv w1 ⟨rfl, hb⟩; have ns : w.heap.size < w1.heap.size := hb.ltK; have n0 : w1.cell? ⟨w.heap.size, 0, none⟩ = some (.int .i64 e) := hb.cellK; have n1 : w1.cell? ⟨w.heap.size, 1, none⟩ = some (.int .i64 f) := hb.cellK; (first | (have nx := Ext.trans hx hb; clear hx) | (have nx := Ext.trans (hx.alloc _) hb; clear hx) | (have nx := Ext.trans hx.drew hb; clear hx) | have nx := hb); clear hb; try clear hs; try clear g0; try clear g1; have hx := nx; clear nx; have hs := ns; clear ns; have g0 := n0; clear n0; have g1 := n1; clear n1) | (go_at_call 55; (with_reducible refine (E0.out _).mono ?_); rintro rv w1 ⟨rfl, hb⟩; have ns : w.heap.size < w1.heap.size := hb.ltK; have n0 : w1.cell? ⟨w.heap.size, 0, none⟩ = some (.int .i64 e) := hb.cellK; have n1 : w1.cell? ⟨w.heap.size, 1, none⟩ = some (.int .i64 f) := hb.cellK; (first | (have nx := Ext.trans hx hb; clear hx) | (have nx := Ext.trans (hx.alloc _) hb; clear hx) | (have nx := Ext.trans hx.drew hb; clear hx) | have nx := hb); clear hb; try clear hs; try clear g0; try clear g1; have hx := nx; clear nx; have hs := ns; clear ns; have g0 := n0; clear n0; have g1 := n1; clear n1) | (go_at_call 56; (with_reducible refine (E1.out _).mono ?_); rintro rv w1 ⟨rfl, hb⟩; have ns : w.heap.size < w1.heap.size := hb.ltK; have n0 : w1.cell? ⟨w.heap.size, 0, none⟩ = some (.int .i64 e) := hb.cellK; have n1 : w1.cell? ⟨w.heap.size, 1, none⟩ = some (.int .i64 f) := hb.cellK; (first | (have nx := Ext.trans hx hb; clear hx) | (have nx := Ext.trans (hx.alloc _) hb; clear hx) | (have nx := Ext.trans hx.drew hb; clear hx) | have nx := hb); clear hb; try clear hs; try clear g0; try clear g1; have hx := nx; clear nx; have hs := ns; clear ns; have g0 := n0; clear n0; have g1 := n1; clear n1) | (go_at_call 56; (with_reducible refine (E2.out _).mono ?_); rintro rv w1 ⟨rfl, hb⟩; have ns : w.heap.size < w1.heap.size := hb.ltK; have n0 : w1.cell? ⟨w.heap.size, 0, none⟩ = some (.int .i64 e) := hb.cellK; have n1 : w1.cell? ⟨w.heap.size, 1, none⟩ = some (.int .i64 f) := hb.cellK; (first | (have nx := Ext.trans hx hb; clear hx) | (have nx := Ext.trans (hx.alloc _) hb; clear hx) | (have nx := Ext.trans hx.drew hb; clear hx) | have nx := hb); clear hb; try clear hs; try clear g0; try clear g1; have hx := nx; clear nx; have hs := ns; clear ns; have g0 := n0; clear n0; have g1 := n1; clear n1) | (go_at_call 56; (with_reducible refine (E3.out _).mono ?_); rintro rv w1 ⟨rfl, hb⟩; have ns : w.heap.size < w1.heap.size := hb.ltK; have n0 : w1.cell? ⟨w.heap.size, 0, none⟩ = some (.int .i64 e) := hb.cellK; have n1 : w1.cell? ⟨w.heap.size, 1, none⟩ = some (.int .i64 f) := hb.cellK; (first | (have nx := Ext.trans hx hb; clear hx) | (have nx := Ext.trans (hx.alloc _) hb; clear hx) | (have nx := Ext.trans hx.drew hb; clear hx) | have nx := hb); clear hb; try clear hs; try clear g0; try clear g1; have hx := nx; clear nx; have hs := ns; clear ns; have g0 := n0; clear n0; have g1 := n1; clear n1))
  go_ret2
  exact ⟨rfl, Ext.auK⟩

set_option maxHeartbeats 3200000 in
theorem sSix_4 (e f a b : Int) (hg : (finB e f a && finB e f b) = true) (h0 : sb0 e f a b = true) (h1 : sb1 e f a b = true) (h2 : sb2 e f a b = true) (h3 : sb3 e f a b = true) (h4 : sb4 e f a b = false) (w : World) : Calls Try.prog 17 #[fmt e f, .int .i64 a, .int .i64 b] w fun rv w' => rv = .returned (.tuple #[.slice none 0 0, .bool false]) ∧ Ext w w' := by
  obtain ⟨ha, hb2⟩ : finB e f a = true ∧ finB e f b = true := by simpa using hg
  obtain ⟨hgg, _⟩ := fin_size ha
  obtain ⟨q0, q1, q2, q3, q4, q5⟩ := sw_val e f a b hg
  have E0 : RowKit.Hid (∀ w, Calls Try.prog 55 #[fmt e f, .int .i64 a, .int .i64 b] w fun rv w' => rv = .returned (.tuple #[.int .i64 (sx0 e f a b), .bool (sb0 e f a b)]) ∧ Ext w w') := Lib.hid (fun w => exSum_any e f a b hg w)
  rw [h0] at E0
  have E1 : RowKit.Hid (∀ w, Calls Try.prog 56 #[fmt e f, .int .i64 (sx0 e f a b), .int .i64 a] w fun rv w' => rv = .returned (.tuple #[.int .i64 (sx1 e f a b), .bool (sb1 e f a b)]) ∧ Ext w w') := Lib.hid (fun w => exLess_any e f (sx0 e f a b) a (q0 h0).1 ha w)
  rw [h1] at E1
  have E2 : RowKit.Hid (∀ w, Calls Try.prog 56 #[fmt e f, .int .i64 (sx0 e f a b), .int .i64 (sx1 e f a b)] w fun rv w' => rv = .returned (.tuple #[.int .i64 (sx2 e f a b), .bool (sb2 e f a b)]) ∧ Ext w w') := Lib.hid (fun w => exLess_any e f (sx0 e f a b) (sx1 e f a b) (q0 h0).1 (q1 h1).1 w)
  rw [h2] at E2
  have E3 : RowKit.Hid (∀ w, Calls Try.prog 56 #[fmt e f, .int .i64 a, .int .i64 (sx2 e f a b)] w fun rv w' => rv = .returned (.tuple #[.int .i64 (sx3 e f a b), .bool (sb3 e f a b)]) ∧ Ext w w') := Lib.hid (fun w => exLess_any e f a (sx2 e f a b) ha (q2 h2).1 w)
  rw [h3] at E3
  have E4 : RowKit.Hid (∀ w, Calls Try.prog 56 #[fmt e f, .int .i64 b, .int .i64 (sx1 e f a b)] w fun rv w' => rv = .returned (.tuple #[.int .i64 (sx4 e f a b), .bool (sb4 e f a b)]) ∧ Ext w w') := Lib.hid (fun w => exLess_any e f b (sx1 e f a b) hb2 (q1 h1).1 w)
  rw [h4] at E4
  clear q0 q1 q2 q3 q4 q5
  generalize sx0 e f a b = p0 at *
  generalize sx1 e f a b = p1 at *
  generalize sx2 e f a b = p2 at *
  generalize sx3 e f a b = p3 at *
  generalize sx4 e f a b = p4 at *
  go_enter Try.func17, Try.ntmps17
  go_wp2_with (first | (go_at_call 54; refine (exBoth_any e f a b _).mono ?_; rintro rv w1 ⟨rfl, hb⟩; have ns : w.heap.size < w1.heap.size := hb.ltK; have n0 : w1.cell? ⟨w.heap.size, 0, none⟩ = some (.int .i64 e) := hb.cellK; have n1 : w1.cell? ⟨w.heap.size, 1, none⟩ = some (.int .i64 f) := hb.cellK; (first | (have nx := Ext.trans hx hb; clear hx) | (have nx := Ext.trans (hx.alloc _) hb; clear hx) | (have nx := Ext.trans hx.drew hb; clear hx) | have nx := hb); clear hb; try clear hs; try clear g0; try clear g1; have hx := nx; clear nx; have hs := ns; clear ns; have g0 := n0; clear n0; have g1 := n1; clear n1) | (go_at_call 55; (with_reducible refine (E0.out _).mono ?_); rintro rv w1 ⟨rfl, hb⟩; have ns : w.heap.size < w1.heap.size := hb.ltK; have n0 : w1.cell? ⟨w.heap.size, 0, none⟩ = some (.int .i64 e) := hb.cellK; have n1 : w1.cell? ⟨w.heap.size, 1, none⟩ = some (.int .i64 f) := hb.cellK; (first | (have nx := Ext.trans hx hb; clear hx) | (have nx := Ext.trans (hx.alloc _) hb; clear hx) | (have nx := Ext.trans hx.drew hb; clear hx) | have nx := hb); clear hb; try clear hs; try clear g0; try clear g1; have hx := nx; clear nx; have hs := ns; clear ns; have g0 := n0; clear n0; have g1 := n1; clear n1) | (go_at_call 56; (with_reducible refine (E1.out _).mono ?_); rintro rv w1 ⟨rfl, hb⟩; have ns : w.heap.size < w1.heap.size := hb.ltK; have n0 : w1.cell? ⟨w.heap.size, 0, none⟩ = some (.int .i64 e) := hb.cellK; have n1 : w1.cell? ⟨w.heap.size, 1, none⟩ = some (.int .i64 f) := hb.cellK; (first | (have nx := Ext.trans hx hb; clear hx) | (have nx := Ext.trans (hx.alloc _) hb; clear hx) | (have nx := Ext.trans hx.drew hb; clear hx) | have nx := hb); clear hb; try clear hs; try clear g0; try clear g1; have hx := nx; clear nx; have hs := ns; clear ns; have g0 := n0; clear n0; have g1 := n1; clear n1) | (go_at_call 56; (with_reducible refine (E2.out _).mono ?_); rintro rv w1 ⟨rfl, hb⟩; have ns : w.heap.size < w1.heap.size := hb.ltK; have n0 : w1.cell? ⟨w.heap.size, 0, none⟩ = some (.int .i64 e) := hb.cellK; have n1 : w1.cell? ⟨w.heap.size, 1, none⟩ = some (.int .i64 f) := hb.cellK; (first | (have nx := Ext.trans hx hb; clear hx) | (have nx := Ext.trans (hx.alloc _) hb; clear hx) | (have nx := Ext.trans hx.drew hb; clear hx) | have nx := hb); clear hb; try clear hs; try clear g0; try clear g1; have hx := nx; clear nx; have hs := ns; clear ns; have g0 := n0; clear n0; have g1 := n1; clear n1) | (go_at_call 56; (with_reducible refine (E3.out _).mono ?_); rintro rv w1 ⟨rfl, hb⟩; have ns : w.heap.size < w1.heap.size := hb.ltK; have n0 : w1.cell? ⟨w.heap.size, 0, none⟩ = some (.int .i64 e) := hb.cellK; have n1 : w1.cell? ⟨w.heap.size, 1, none⟩ = some (.int .i64 f) := hb.cellK; (first | (have nx := Ext.trans hx hb; clear hx) | (have nx := Ext.trans (hx.alloc _) hb; clear hx) | (have nx := Ext.trans hx.drew hb; clear hx) | have nx := hb); clear hb; try clear hs; try clear g0; try clear g1; have hx := nx; clear nx; have hs := ns; clear ns; have g0 := n0; clear n0; have g1 := n1; clear n1) | (go_at_call 56; (with_reducible refine (E4.out _).mono ?_); rintro rv w1 ⟨rfl, hb⟩; have ns : w.heap.size < w1.heap.size := hb.ltK; have n0 : w1.cell? ⟨w.heap.size, 0, none⟩ = some (.int .i64 e) := hb.cellK; have n1 : w1.cell? ⟨w.heap.size, 1, none⟩ = some (.int .i64 f) := hb.cellK; (first | (have nx := Ext.trans hx hb; clear hx) | (have nx := Ext.trans (hx.alloc _) hb; clear hx) | (have nx := Ext.trans hx.drew hb; clear hx) | have nx := hb); clear hb; try clear hs; try clear g0; try clear g1; have hx := nx; clear nx; have hs := ns; clear ns; have g0 := n0; clear n0; have g1 := n1; clear n1))
  go_ret2
  exact ⟨rfl, Ext.auK⟩

set_option maxHeartbeats 3200000 in
theorem sSix_5 (e f a b : Int) (hg : (finB e f a && finB e f b) = true) (h0 : sb0 e f a b = true) (h1 : sb1 e f a b = true) (h2 : sb2 e f a b = true) (h3 : sb3 e f a b = true) (h4 : sb4 e f a b = true) (h5 : sb5 e f a b = false) (w : World) : Calls Try.prog 17 #[fmt e f, .int .i64 a, .int .i64 b] w fun rv w' => rv = .returned (.tuple #[.slice none 0 0, .bool false]) ∧ Ext w w' := by
  obtain ⟨ha, hb2⟩ : finB e f a = true ∧ finB e f b = true := by simpa using hg
  obtain ⟨hgg, _⟩ := fin_size ha
  obtain ⟨q0, q1, q2, q3, q4, q5⟩ := sw_val e f a b hg
  have E0 : RowKit.Hid (∀ w, Calls Try.prog 55 #[fmt e f, .int .i64 a, .int .i64 b] w fun rv w' => rv = .returned (.tuple #[.int .i64 (sx0 e f a b), .bool (sb0 e f a b)]) ∧ Ext w w') := Lib.hid (fun w => exSum_any e f a b hg w)
  rw [h0] at E0
  have E1 : RowKit.Hid (∀ w, Calls Try.prog 56 #[fmt e f, .int .i64 (sx0 e f a b), .int .i64 a] w fun rv w' => rv = .returned (.tuple #[.int .i64 (sx1 e f a b), .bool (sb1 e f a b)]) ∧ Ext w w') := Lib.hid (fun w => exLess_any e f (sx0 e f a b) a (q0 h0).1 ha w)
  rw [h1] at E1
  have E2 : RowKit.Hid (∀ w, Calls Try.prog 56 #[fmt e f, .int .i64 (sx0 e f a b), .int .i64 (sx1 e f a b)] w fun rv w' => rv = .returned (.tuple #[.int .i64 (sx2 e f a b), .bool (sb2 e f a b)]) ∧ Ext w w') := Lib.hid (fun w => exLess_any e f (sx0 e f a b) (sx1 e f a b) (q0 h0).1 (q1 h1).1 w)
  rw [h2] at E2
  have E3 : RowKit.Hid (∀ w, Calls Try.prog 56 #[fmt e f, .int .i64 a, .int .i64 (sx2 e f a b)] w fun rv w' => rv = .returned (.tuple #[.int .i64 (sx3 e f a b), .bool (sb3 e f a b)]) ∧ Ext w w') := Lib.hid (fun w => exLess_any e f a (sx2 e f a b) ha (q2 h2).1 w)
  rw [h3] at E3
  have E4 : RowKit.Hid (∀ w, Calls Try.prog 56 #[fmt e f, .int .i64 b, .int .i64 (sx1 e f a b)] w fun rv w' => rv = .returned (.tuple #[.int .i64 (sx4 e f a b), .bool (sb4 e f a b)]) ∧ Ext w w') := Lib.hid (fun w => exLess_any e f b (sx1 e f a b) hb2 (q1 h1).1 w)
  rw [h4] at E4
  have E5 : RowKit.Hid (∀ w, Calls Try.prog 55 #[fmt e f, .int .i64 (sx3 e f a b), .int .i64 (sx4 e f a b)] w fun rv w' => rv = .returned (.tuple #[.int .i64 (sx5 e f a b), .bool (sb5 e f a b)]) ∧ Ext w w') := Lib.hid (fun w => exSum_any e f (sx3 e f a b) (sx4 e f a b) (by rw [(q3 h3).1, (q4 h4).1]; rfl) w)
  rw [h5] at E5
  clear q0 q1 q2 q3 q4 q5
  generalize sx0 e f a b = p0 at *
  generalize sx1 e f a b = p1 at *
  generalize sx2 e f a b = p2 at *
  generalize sx3 e f a b = p3 at *
  generalize sx4 e f a b = p4 at *
  generalize sx5 e f a b = p5 at *
  go_enter Try.func17, Try.ntmps17
  go_wp2_with (first | (go_at_call 54; refine (exBoth_any e f a b _).mono ?_; rintro rv w1 ⟨rfl, hb⟩; have ns : w.heap.size < w1.heap.size := hb.ltK; have n0 : w1.cell? ⟨w.heap.size, 0, none⟩ = some (.int .i64 e) := hb.cellK; have n1 : w1.cell? ⟨w.heap.size, 1, none⟩ = some (.int .i64 f) := hb.cellK; (first | (have nx := Ext.trans hx hb; clear hx) | (have nx := Ext.trans (hx.alloc _) hb; clear hx) | (have nx := Ext.trans hx.drew hb; clear hx) | have nx := hb); clear hb; try clear hs; try clear g0; try clear g1; have hx := nx; clear nx; have hs := ns; clear ns; have g0 := n0; clear n0; have g1 := n1; clear n1) | (go_at_call 55; (with_reducible refine (E0.out _).mono ?_); rintro rv w1 ⟨rfl, hb⟩; have ns : w.heap.size < w1.heap.size := hb.ltK; have n0 : w1.cell? ⟨w.heap.size, 0, none⟩ = some (.int .i64 e) := hb.cellK; have n1 : w1.cell? ⟨w.heap.size, 1, none⟩ = some (.int .i64 f) := hb.cellK; (first | (have nx := Ext.trans hx hb; clear hx) | (have nx := Ext.trans (hx.alloc _) hb; clear hx) | (have nx := Ext.trans hx.drew hb; clear hx) | have nx := hb); clear hb; try clear hs; try clear g0; try clear g1; have hx := nx; clear nx; have hs := ns; clear ns; have g0 := n0; clear n0; have g1 := n1; clear n1) | (go_at_call 56; (with_reducible refine (E1.out _).mono ?_); rintro rv w1 ⟨rfl, hb⟩; have ns : w.heap.size < w1.heap.size := hb.ltK; have n0 : w1.cell? ⟨w.heap.size, 0, none⟩ = some (.int .i64 e) := hb.cellK; have n1 : w1.cell? ⟨w.heap.size, 1, none⟩ = some (.int .i64 f) := hb.cellK; (first | (have nx := Ext.trans hx hb; clear hx) | (have nx := Ext.trans (hx.alloc _) hb; clear hx) | (have nx := Ext.trans hx.drew hb; clear hx) | have nx := hb); clear hb; try clear hs; try clear g0; try clear g1; have hx := nx; clear nx; have hs := ns; clear ns; have g0 := n0; clear n0; have g1 := n1; clear n1) | (go_at_call 56; (with_reducible refine (E2.out _).mono ?_); rintro rv w1 ⟨rfl, hb⟩; have ns : w.heap.size < w1.heap.size := hb.ltK; have n0 : w1.cell? ⟨w.heap.size, 0, none⟩ = some (.int .i64 e) := hb.cellK; have n1 : w1.cell? ⟨w.heap.size, 1, none⟩ = some (.int .i64 f) := hb.cellK; (first | (have nx := Ext.trans hx hb; clear hx) | (have nx := Ext.trans (hx.alloc _) hb; clear hx) | (have nx := Ext.trans hx.drew hb; clear hx) | have nx := hb); clear hb; try clear hs; try clear g0; try clear g1; have hx := nx; clear nx; have hs := ns; clear ns; have g0 := n0; clear n0; have g1 := n1; clear n1) | (go_at_call 56; (with_reducible refine (E3.out _).mono ?_); rintro rv w1 ⟨rfl, hb⟩; have ns : w.heap.size < w1.heap.size := hb.ltK; have n0 : w1.cell? ⟨w.heap.size, 0, none⟩ = some (.int .i64 e) := hb.cellK; have n1 : w1.cell? ⟨w.heap.size, 1, none⟩ = some (.int .i64 f) := hb.cellK; (first | (have nx := Ext.trans hx hb; clear hx) | (have nx := Ext.trans (hx.alloc _) hb; clear hx) | (have nx := Ext.trans hx.drew hb; clear hx) | have nx := hb); clear hb; try clear hs; try clear g0; try clear g1; have hx := nx; clear nx; have hs := ns; clear ns; have g0 := n0; clear n0; have g1 := n1; clear n1) | (go_at_call 56; (with_reducible refine (E4.out _).mono ?_); rintro rv w1 ⟨rfl, hb⟩; have ns : w.heap.size < w1.heap.size := hb.ltK; have n0 : w1.cell? ⟨w.heap.size, 0, none⟩ = some (.int .i64 e) := hb.cellK; have n1 : w1.cell? ⟨w.heap.size, 1, none⟩ = some (.int .i64 f) := hb.cellK; (first | (have nx := Ext.trans hx hb; clear hx) | (have nx := Ext.trans (hx.alloc _) hb; clear hx) | (have nx := Ext.trans hx.drew hb; clear hx) | have nx := hb); clear hb; try clear hs; try clear g0; try clear g1; have hx := nx; clear nx; have hs := ns; clear ns; have g0 := n0; clear n0; have g1 := n1; clear n1) | (go_at_call 55; (with_reducible refine (E5.out _).mono ?_); rintro rv w1 ⟨rfl, hb⟩; have ns : w.heap.size < w1.heap.size := hb.ltK; have n0 : w1.cell? ⟨w.heap.size, 0, none⟩ = some (.int .i64 e) := hb.cellK; have n1 : w1.cell? ⟨w.heap.size, 1, none⟩ = some (.int .i64 f) := hb.cellK; (first | (have nx := Ext.trans hx hb; clear hx) | (have nx := Ext.trans (hx.alloc _) hb; clear hx) | (have nx := Ext.trans hx.drew hb; clear hx) | have nx := hb); clear hb; try clear hs; try clear g0; try clear g1; have hx := nx; clear nx; have hs := ns; clear ns; have g0 := n0; clear n0; have g1 := n1; clear n1))
  go_ret2
  exact ⟨rfl, Ext.auK⟩

set_option maxHeartbeats 3200000 in
theorem sSix_6 (e f a b : Int) (hg : (finB e f a && finB e f b) = true) (h0 : sb0 e f a b = true) (h1 : sb1 e f a b = true) (h2 : sb2 e f a b = true) (h3 : sb3 e f a b = true) (h4 : sb4 e f a b = true) (h5 : sb5 e f a b = true) (w : World) : Calls Try.prog 17 #[fmt e f, .int .i64 a, .int .i64 b] w fun rv w' => ∃ g, rv = .returned (.tuple #[.slice (some ⟨g, 0, none⟩) 6 6, .bool true]) ∧ w.heap.size ≤ g ∧ w'.rowIs g 3 6 (fun i => .int .i64 (sixP e f a b i)) ∧ Ext w w' := by
  obtain ⟨ha, hb2⟩ : finB e f a = true ∧ finB e f b = true := by simpa using hg
  obtain ⟨hgg, _⟩ := fin_size ha
  obtain ⟨q0, q1, q2, q3, q4, q5⟩ := sw_val e f a b hg
  have E0 : RowKit.Hid (∀ w, Calls Try.prog 55 #[fmt e f, .int .i64 a, .int .i64 b] w fun rv w' => rv = .returned (.tuple #[.int .i64 (sx0 e f a b), .bool (sb0 e f a b)]) ∧ Ext w w') := Lib.hid (fun w => exSum_any e f a b hg w)
  rw [h0] at E0
  have E1 : RowKit.Hid (∀ w, Calls Try.prog 56 #[fmt e f, .int .i64 (sx0 e f a b), .int .i64 a] w fun rv w' => rv = .returned (.tuple #[.int .i64 (sx1 e f a b), .bool (sb1 e f a b)]) ∧ Ext w w') := Lib.hid (fun w => exLess_any e f (sx0 e f a b) a (q0 h0).1 ha w)
  rw [h1] at E1
  have E2 : RowKit.Hid (∀ w, Calls Try.prog 56 #[fmt e f, .int .i64 (sx0 e f a b), .int .i64 (sx1 e f a b)] w fun rv w' => rv = .returned (.tuple #[.int .i64 (sx2 e f a b), .bool (sb2 e f a b)]) ∧ Ext w w') := Lib.hid (fun w => exLess_any e f (sx0 e f a b) (sx1 e f a b) (q0 h0).1 (q1 h1).1 w)
  rw [h2] at E2
  have E3 : RowKit.Hid (∀ w, Calls Try.prog 56 #[fmt e f, .int .i64 a, .int .i64 (sx2 e f a b)] w fun rv w' => rv = .returned (.tuple #[.int .i64 (sx3 e f a b), .bool (sb3 e f a b)]) ∧ Ext w w') := Lib.hid (fun w => exLess_any e f a (sx2 e f a b) ha (q2 h2).1 w)
  rw [h3] at E3
  have E4 : RowKit.Hid (∀ w, Calls Try.prog 56 #[fmt e f, .int .i64 b, .int .i64 (sx1 e f a b)] w fun rv w' => rv = .returned (.tuple #[.int .i64 (sx4 e f a b), .bool (sb4 e f a b)]) ∧ Ext w w') := Lib.hid (fun w => exLess_any e f b (sx1 e f a b) hb2 (q1 h1).1 w)
  rw [h4] at E4
  have E5 : RowKit.Hid (∀ w, Calls Try.prog 55 #[fmt e f, .int .i64 (sx3 e f a b), .int .i64 (sx4 e f a b)] w fun rv w' => rv = .returned (.tuple #[.int .i64 (sx5 e f a b), .bool (sb5 e f a b)]) ∧ Ext w w') := Lib.hid (fun w => exSum_any e f (sx3 e f a b) (sx4 e f a b) (by rw [(q3 h3).1, (q4 h4).1]; rfl) w)
  rw [h5] at E5
  clear q0 q1 q2 q3 q4 q5
  have HP6 : RowKit.Hid (∀ i, i < 6 → (#[.int .i64 (sx0 e f a b), .int .i64 (sx1 e f a b), .int .i64 (sx2 e f a b), .int .i64 (sx3 e f a b), .int .i64 (sx4 e f a b), .int .i64 (sx5 e f a b)] : Array Value)[i]? = some (.int .i64 (sixP e f a b i))) := Lib.hid (fun i hi => by
    match i, hi with
    | 0, _ => rfl
    | 1, _ => rfl
    | 2, _ => rfl
    | 3, _ => rfl
    | 4, _ => rfl
    | 5, _ => rfl)
  generalize hP : sixP e f a b = P at *
  clear hP
  generalize sx0 e f a b = p0 at *
  generalize sx1 e f a b = p1 at *
  generalize sx2 e f a b = p2 at *
  generalize sx3 e f a b = p3 at *
  generalize sx4 e f a b = p4 at *
  generalize sx5 e f a b = p5 at *
  go_enter Try.func17, Try.ntmps17
  go_wp2_with (first | (go_at_call 54; refine (exBoth_any e f a b _).mono ?_; rintro rv w1 ⟨rfl, hb⟩; have ns : w.heap.size < w1.heap.size := hb.ltK; have n0 : w1.cell? ⟨w.heap.size, 0, none⟩ = some (.int .i64 e) := hb.cellK; have n1 : w1.cell? ⟨w.heap.size, 1, none⟩ = some (.int .i64 f) := hb.cellK; (first | (have nx := Ext.trans hx hb; clear hx) | (have nx := Ext.trans (hx.alloc _) hb; clear hx) | (have nx := Ext.trans hx.drew hb; clear hx) | have nx := hb); clear hb; try clear hs; try clear g0; try clear g1; have hx := nx; clear nx; have hs := ns; clear ns; have g0 := n0; clear n0; have g1 := n1; clear n1) | (go_at_call 55; (with_reducible refine (E0.out _).mono ?_); rintro rv w1 ⟨rfl, hb⟩; have ns : w.heap.size < w1.heap.size := hb.ltK; have n0 : w1.cell? ⟨w.heap.size, 0, none⟩ = some (.int .i64 e) := hb.cellK; have n1 : w1.cell? ⟨w.heap.size, 1, none⟩ = some (.int .i64 f) := hb.cellK; (first | (have nx := Ext.trans hx hb; clear hx) | (have nx := Ext.trans (hx.alloc _) hb; clear hx) | (have nx := Ext.trans hx.drew hb; clear hx) | have nx := hb); clear hb; try clear hs; try clear g0; try clear g1; have hx := nx; clear nx; have hs := ns; clear ns; have g0 := n0; clear n0; have g1 := n1; clear n1) | (go_at_call 56; (with_reducible refine (E1.out _).mono ?_); rintro rv w1 ⟨rfl, hb⟩; have ns : w.heap.size < w1.heap.size := hb.ltK; have n0 : w1.cell? ⟨w.heap.size, 0, none⟩ = some (.int .i64 e) := hb.cellK; have n1 : w1.cell? ⟨w.heap.size, 1, none⟩ = some (.int .i64 f) := hb.cellK; (first | (have nx := Ext.trans hx hb; clear hx) | (have nx := Ext.trans (hx.alloc _) hb; clear hx) | (have nx := Ext.trans hx.drew hb; clear hx) | have nx := hb); clear hb; try clear hs; try clear g0; try clear g1; have hx := nx; clear nx; have hs := ns; clear ns; have g0 := n0; clear n0; have g1 := n1; clear n1) | (go_at_call 56; (with_reducible refine (E2.out _).mono ?_); rintro rv w1 ⟨rfl, hb⟩; have ns : w.heap.size < w1.heap.size := hb.ltK; have n0 : w1.cell? ⟨w.heap.size, 0, none⟩ = some (.int .i64 e) := hb.cellK; have n1 : w1.cell? ⟨w.heap.size, 1, none⟩ = some (.int .i64 f) := hb.cellK; (first | (have nx := Ext.trans hx hb; clear hx) | (have nx := Ext.trans (hx.alloc _) hb; clear hx) | (have nx := Ext.trans hx.drew hb; clear hx) | have nx := hb); clear hb; try clear hs; try clear g0; try clear g1; have hx := nx; clear nx; have hs := ns; clear ns; have g0 := n0; clear n0; have g1 := n1; clear n1) | (go_at_call 56; (with_reducible refine (E3.out _).mono ?_); rintro rv w1 ⟨rfl, hb⟩; have ns : w.heap.size < w1.heap.size := hb.ltK; have n0 : w1.cell? ⟨w.heap.size, 0, none⟩ = some (.int .i64 e) := hb.cellK; have n1 : w1.cell? ⟨w.heap.size, 1, none⟩ = some (.int .i64 f) := hb.cellK; (first | (have nx := Ext.trans hx hb; clear hx) | (have nx := Ext.trans (hx.alloc _) hb; clear hx) | (have nx := Ext.trans hx.drew hb; clear hx) | have nx := hb); clear hb; try clear hs; try clear g0; try clear g1; have hx := nx; clear nx; have hs := ns; clear ns; have g0 := n0; clear n0; have g1 := n1; clear n1) | (go_at_call 56; (with_reducible refine (E4.out _).mono ?_); rintro rv w1 ⟨rfl, hb⟩; have ns : w.heap.size < w1.heap.size := hb.ltK; have n0 : w1.cell? ⟨w.heap.size, 0, none⟩ = some (.int .i64 e) := hb.cellK; have n1 : w1.cell? ⟨w.heap.size, 1, none⟩ = some (.int .i64 f) := hb.cellK; (first | (have nx := Ext.trans hx hb; clear hx) | (have nx := Ext.trans (hx.alloc _) hb; clear hx) | (have nx := Ext.trans hx.drew hb; clear hx) | have nx := hb); clear hb; try clear hs; try clear g0; try clear g1; have hx := nx; clear nx; have hs := ns; clear ns; have g0 := n0; clear n0; have g1 := n1; clear n1) | (go_at_call 55; (with_reducible refine (E5.out _).mono ?_); rintro rv w1 ⟨rfl, hb⟩; have ns : w.heap.size < w1.heap.size := hb.ltK; have n0 : w1.cell? ⟨w.heap.size, 0, none⟩ = some (.int .i64 e) := hb.cellK; have n1 : w1.cell? ⟨w.heap.size, 1, none⟩ = some (.int .i64 f) := hb.cellK; (first | (have nx := Ext.trans hx hb; clear hx) | (have nx := Ext.trans (hx.alloc _) hb; clear hx) | (have nx := Ext.trans hx.drew hb; clear hx) | have nx := hb); clear hb; try clear hs; try clear g0; try clear g1; have hx := nx; clear nx; have hs := ns; clear ns; have g0 := n0; clear n0; have g1 := n1; clear n1))
  go_ret2

  exact ⟨_, rfl, (by first | (simp; omega) | omega), World.rowIs_alloc _ _ _ _ HP6.out, Ext.auK⟩
end Go.Proofs.Ytjebechmedhidaa

namespace Go.Proofs.Ytjebechmedhidaa
open Go Go.RowKit
set_option linter.unusedSimpArgs false
set_option linter.unusedVariables false
set_option maxRecDepth 100000

/-- A slice of n numbers in a block of its own, or of none. -/
def OwnL (w : World) (p : Option Addr) (n : Nat) (V : Nat → Int) : Prop := 0 < n → ∃ b c f, p = some ⟨b, 0, none⟩ ∧ w.rowIs b 3 c f ∧ n ≤ c ∧ ∀ i, i < n → f i = .int .i64 (V i)

/-- Behind a number of blocks. -/
def Past (p : Option Addr) (n B : Nat) : Prop := 0 < n → ∀ b, p = some ⟨b, 0, none⟩ → B ≤ b

theorem OwnL.block {w w' : World} {p : Option Addr} {n : Nat} {V : Nat → Int} (h : OwnL w p n V) (hw : 0 < n → ∀ b, p = some ⟨b, 0, none⟩ → w'.heap[b]? = w.heap[b]?) : OwnL w' p n V := fun hn => by
  obtain ⟨b, c, f, rfl, hr, hc, hf⟩ := h hn
  exact ⟨b, c, f, rfl, hr.of_block (hw hn b rfl), hc, hf⟩

theorem OwnL.lt {w : World} {p : Option Addr} {n : Nat} {V : Nat → Int} (h : OwnL w p n V) (hn : 0 < n) {b : Nat} (hp : p = some ⟨b, 0, none⟩) : b < w.heap.size := by
  obtain ⟨b2, c, f, rfl, hr, _⟩ := h hn
  cases hp
  exact hr.lt

theorem OwnL.ext {w w' : World} {p : Option Addr} {n : Nat} {V : Nat → Int} (h : OwnL w p n V) (hx : Ext w w') : OwnL w' p n V := h.block (fun hn b hp => hx.block _ (h.lt hn hp))

/-- A row that a function owns. -/
theorem own_form {w : World} {B n : Nat} {v : Value} {Q : Nat → Int} (h : w.ownsRow B 3 1 v n (patL Q n)) : ∃ p cap, v = .slice p n cap ∧ OwnL w p n Q ∧ Past p n B := by
  rcases h with ⟨hl, ⟨rfl, rfl⟩ | ⟨g, cap, cur, rfl, hb, hg, hn, hm, hs, ht⟩⟩
  · exact ⟨none, 0, rfl, fun h => absurd h (by decide), fun h => absurd h (by decide)⟩
  · refine ⟨_, cap, rfl, fun _ => ⟨g, cur.size, fun i => cur.getD i default, rfl, ⟨cur, hg, rfl, fun i hi => ?_⟩, by omega, fun i hi => ?_⟩, fun _ b hp => ?_⟩
    · simp [hi]
    · have e : (cur.toList.take (n * 1))[i]? = (patL Q n)[i]? := by rw [ht]
      rw [List.getElem?_take, if_pos (by omega)] at e
      unfold patL at e
      simp [hi] at e
      simp [e]
    · cases hp; exact hb

theorem row_own {w : World} {g n : Nat} {V : Nat → Int} (h : w.rowIs g 3 n (fun i => .int .i64 (V i))) : OwnL w (some ⟨g, 0, none⟩) n V := fun _ => ⟨g, n, _, rfl, h, Nat.le_refl _, fun _ _ => rfl⟩

set_option maxHeartbeats 1600000 in
theorem eqIntS_own (p q : Option Addr) (n c1 c2 : Nat) (V : Nat → Int) (hn : n ≤ 1048576) (w : World) (hp : OwnL w p n V) (hq : OwnL w q n V) : Calls Try.prog 19 #[.slice p n c1, .slice q n c2] w fun rv w' => rv = .returned (.bool true) ∧ Ext w w' := by
  go_enter Try.func19, Try.ntmps19
  go_wp2
  go_loopw [5] (fun x wr => ∃ k : Nat, x = .int .i64 (k : Int) ∧ k ≤ n ∧ OwnL wr p n V ∧ OwnL wr q n V ∧ Ext w wr) (fun x _ => n - (intOf x).toNat)
  case atStart => exact ⟨0, rfl, by omega, hp, hq, Ext.refl _⟩
  case round =>
    obtain ⟨k, rfl, hk, hra, hrb, hx⟩ := hrel
    by_cases hlt : k < n
    · obtain ⟨b1, d1, f1, rfl, ra, l1, e1⟩ := hra (by omega)
      obtain ⟨b2, d2, f2, rfl, rb, l2, e2⟩ := hrb (by omega)
      have h1 : ((k : Nat) : Int) < (n : Int) := by omega
      have h0 : (0 : Int) ≤ (k : Int) := by omega
      have h2 : ((k : Int)).toNat = k := by omega
      have u1 : IntKind.i64.wrap ((k : Int) + 1) = (k : Int) + 1 := IntWalk.i64_in _ (by omega)
      have u2 : IntKind.i64.wrap (1 + (k : Int) + 1) = 1 + (k : Int) + 1 := IntWalk.i64_in _ (by omega)
      have g1 : wr.cell? ⟨b1, k, none⟩ = some (.int .i64 (V k)) := by rw [ra.cell (by omega), e1 k hlt]
      have g2 : wr.cell? ⟨b2, k, none⟩ = some (.int .i64 (V k)) := by rw [rb.cell (by omega), e2 k hlt]
      have HA := Lib.hid hra
      have HB := Lib.hid hrb
      clear hra hrb hp hq ra rb e1 e2
      go_wp2_with fail
      go_region
      go_wp2_with fail
      go_roundw
      case rel => exact ⟨k + 1, by simp, by omega, HA.out.ext Ext.auK, HB.out.ext Ext.auK, Ext.auK⟩
      case measure => simp [intOf]; omega
    · have h1 : ¬ ((k : Nat) : Int) < (n : Int) := by omega
      go_wp2_with fail
      go_ret
      exact ⟨rfl, Ext.auK⟩

set_option maxHeartbeats 1600000 in
theorem heldIntS_own (p : Option Addr) (n c1 : Nat) (hn : n ≤ 1048576) (w : World) (hp : OwnL w p n (fun i => 1 + (i : Int))) : Calls Try.prog 21 #[.slice p n c1, .int .i64 1] w fun rv w' => rv = .returned (.int .i64 (1 + (n : Int))) ∧ Ext w w' := by
  go_enter Try.func21, Try.ntmps21
  go_wp2
  go_loopw [1, 5] (fun y x wr => ∃ k : Nat, x = .int .i64 (k : Int) ∧ k ≤ n ∧ y = .int .i64 (1 + (k : Int)) ∧ OwnL wr p n (fun i => 1 + (i : Int)) ∧ Ext w wr) (fun _ x _ => n - (intOf x).toNat)
  case atStart => exact ⟨0, rfl, by omega, by simp, hp, Ext.refl _⟩
  case round =>
    obtain ⟨k, rfl, hk, rfl, hra, hx⟩ := hrel
    by_cases hlt : k < n
    · obtain ⟨b1, d1, f1, rfl, ra, l1, e1⟩ := hra (by omega)
      have h1 : ((k : Nat) : Int) < (n : Int) := by omega
      have h0 : (0 : Int) ≤ (k : Int) := by omega
      have h2 : ((k : Int)).toNat = k := by omega
      have u1 : IntKind.i64.wrap ((k : Int) + 1) = (k : Int) + 1 := IntWalk.i64_in _ (by omega)
      have u2 : IntKind.i64.wrap (1 + (k : Int) + 1) = 1 + (k : Int) + 1 := IntWalk.i64_in _ (by omega)
      have g1 : wr.cell? ⟨b1, k, none⟩ = some (.int .i64 (1 + (k : Int))) := by rw [ra.cell (by omega), e1 k hlt]
      have HA := Lib.hid hra
      clear hra hp ra e1
      go_wp2_with fail
      try (go_region; go_wp2_with fail)
      go_roundw
      case rel => exact ⟨k + 1, by simp, by omega, by (first | rfl | (simp; omega) | (push_cast; congr 1; omega)), HA.out.ext Ext.auK, Ext.auK⟩
      case measure => simp [intOf]; omega
    · have h1 : ¬ ((k : Nat) : Int) < (n : Int) := by omega
      have hkn : k = n := by omega
      subst hkn
      go_wp2_with fail
      go_ret
      exact ⟨rfl, hx⟩

/-- All of a slice is marked; nothing else has turned. -/
structure Marked (w w' : World) (p : Option Addr) (n : Nat) : Prop where
  row : OwnL w' p n (fun i => 1 + (i : Int))
  os : w'.os = w.os
  tape : w'.tape = w.tape
  output : w'.output = w.output
  size : w'.heap.size = w.heap.size
  far : ∀ k, (0 < n → ∀ b, p = some ⟨b, 0, none⟩ → k ≠ b) → w'.heap[k]? = w.heap[k]?

set_option maxHeartbeats 1600000 in
theorem markIntS_own (p : Option Addr) (n c1 : Nat) (V : Nat → Int) (hn : n ≤ 1048576) (w : World) (hp : OwnL w p n V) : Calls Try.prog 20 #[.slice p n c1, .int .i64 1] w fun rv w' => rv = .returned (.int .i64 (1 + (n : Int))) ∧ Marked w w' p n := by
  by_cases hz : 0 < n
  · obtain ⟨b, c, f, rfl, hr, hc, hf⟩ := hp hz
    go_enter Try.func20, Try.ntmps20
    go_wp2
    go_loopw [1, 5] (fun y x wr => ∃ k : Nat, x = .int .i64 (k : Int) ∧ k ≤ n ∧ y = .int .i64 (1 + (k : Int)) ∧ wr.rowIs b 3 c (fun i => if i < k then .int .i64 (1 + (i : Int)) else f i) ∧ wr.os = w.os ∧ wr.tape = w.tape ∧ wr.output = w.output ∧ wr.heap.size = w.heap.size ∧ ∀ q, q ≠ b → wr.heap[q]? = w.heap[q]?) (fun _ x _ => n - (intOf x).toNat)
    case atStart => exact ⟨0, rfl, by omega, by simp, hr.congr (fun i _ => by rw [if_neg (by omega)]), rfl, rfl, rfl, rfl, fun _ _ => rfl⟩
    case round =>
      obtain ⟨k, rfl, hk, rfl, hra, ho, ht, hu, hsz, hfar⟩ := hrel
      by_cases hlt : k < n
      · skip
        have h1 : ((k : Nat) : Int) < (n : Int) := by omega
        have h0 : (0 : Int) ≤ (k : Int) := by omega
        have h2 : ((k : Int)).toNat = k := by omega
        have u1 : IntKind.i64.wrap ((k : Int) + 1) = (k : Int) + 1 := IntWalk.i64_in _ (by omega)
        have u2 : IntKind.i64.wrap (1 + (k : Int) + 1) = 1 + (k : Int) + 1 := IntWalk.i64_in _ (by omega)
        have g1 : wr.cell? ⟨b, k, none⟩ = some (f k) := by
          have := hra.cell (show k < c by omega)
          rwa [if_neg (by omega)] at this
        have g2 : wr.cell? ⟨b, k, none⟩ = some (.int .i64 (V k)) := by rw [g1, hf k hlt]
        have g3 : wr.frozen? ⟨b, k, none⟩ = false := hra.frozen k
        have HR : RowKit.Hid ((wr.setCell ⟨b, k, none⟩ (.int .i64 (1 + (k : Int)))).rowIs b 3 c (fun i => if i < k + 1 then .int .i64 (1 + (i : Int)) else f i)) := Lib.hid ((hra.set k _).congr (fun i hi => by
          by_cases e1 : i = k
          · subst e1; rw [if_pos rfl, if_pos (by omega)]
          · rw [if_neg e1]
            by_cases e2 : i < k
            · rw [if_pos e2, if_pos (by omega)]
            · rw [if_neg e2, if_neg (by omega)]))
        have HF : RowKit.Hid (∀ q, q ≠ b → (wr.setCell ⟨b, k, none⟩ (.int .i64 (1 + (k : Int)))).heap[q]? = w.heap[q]?) := Lib.hid (fun q hq => (Below.heap_setCell _ _ _ _ hq).trans (hfar q hq))
        clear g1 hra hfar hf hr hp
        go_wp2_with fail
        try (go_region; go_wp2_with fail)
        go_roundw
        case rel => exact ⟨k + 1, by simp, by omega, by (first | rfl | (simp; omega) | (push_cast; congr 1; omega)), HR.out, ho, ht, hu, by rw [World.size_setCell]; exact hsz, HF.out⟩
        case measure => simp [intOf]; omega
      · have h1 : ¬ ((k : Nat) : Int) < (n : Int) := by omega
        have hkn : k = n := by omega
        have HR := Lib.hid hra
        have HF := Lib.hid hfar
        clear hra hfar
        subst hkn
        go_wp2_with fail
        go_ret
        exact ⟨rfl, ⟨fun _ => ⟨b, c, _, rfl, HR.out, hc, fun i hi => by rw [if_pos hi]⟩, ho, ht, hu, hsz, fun q hq => HF.out q (hq hz b rfl)⟩⟩
  · have hz2 : n = 0 := by omega
    subst hz2
    go_enter Try.func20, Try.ntmps20
    go_wp2
    go_loopw [1, 5] (fun y x wr => x = .int .i64 0 ∧ y = .int .i64 1 ∧ wr = w) (fun _ x _ => 0)
    case atStart => exact ⟨rfl, rfl, rfl⟩
    case round =>
      obtain ⟨rfl, rfl, rfl⟩ := hrel
      go_wp2_with fail
      go_ret
      exact ⟨rfl, ⟨fun h => absurd h (by decide), rfl, rfl, rfl, rfl, fun _ _ => rfl⟩⟩

theorem mark_ext {w a b : World} {p : Option Addr} {n : Nat} (h : Ext w a) (m : Marked a b p n) (hp : Past p n w.heap.size) : Ext w b :=
  Below.trans h ⟨m.os, m.tape, m.output, Nat.le_of_eq m.size.symm, fun i hi => m.far i (fun hn b hb => by have := hp hn b hb; omega)⟩

theorem Past.le {p : Option Addr} {n B B2 : Nat} (h : Past p n B) (hb : B2 ≤ B) : Past p n B2 := fun hn b hp => Nat.le_trans hb (h hn b hp)

theorem own_nil (w : World) (V : Nat → Int) : OwnL w none 0 V := fun h => absurd h (by decide)

theorem past_nil (B : Nat) : Past none 0 B := fun h => absurd h (by decide)

theorem mark_nil (w : World) : Calls Try.prog 20 #[.slice none 0 0, .int .i64 1] w fun rv w' => rv = .returned (.int .i64 1) ∧ Ext w w' := by
  refine (markIntS_own none 0 0 (fun _ => 0) (by decide) w (own_nil _ _)).mono ?_
  rintro rv w' ⟨rfl, hm⟩
  exact ⟨rfl, mark_ext (Ext.refl _) hm (past_nil _)⟩

theorem held_nil (w : World) : Calls Try.prog 21 #[.slice none 0 0, .int .i64 1] w fun rv w' => rv = .returned (.int .i64 1) ∧ Ext w w' := heldIntS_own none 0 0 (by decide) w (own_nil _ _)

theorem eq_nil (w : World) : Calls Try.prog 19 #[.slice none 0 0, .slice none 0 0] w fun rv w' => rv = .returned (.bool true) ∧ Ext w w' := eqIntS_own none none 0 0 0 (fun _ => 0) (by decide) w (own_nil _ _) (own_nil _ _)
end Go.Proofs.Ytjebechmedhidaa

namespace Go.Proofs.Ytjebechmedhidaa
open Go Go.RowKit
set_option linter.unusedSimpArgs false
set_option linter.unusedVariables false
set_option maxRecDepth 100000

theorem mark6 (p : Option Addr) (c1 : Nat) (V : Nat → Int) (w : World) (hp : OwnL w p 6 V) : Calls Try.prog 20 #[.slice p 6 c1, .int .i64 1] w fun rv w' => rv = .returned (.int .i64 7) ∧ Marked w w' p 6 := markIntS_own p 6 c1 V (by decide) w hp

theorem held6 (p : Option Addr) (c1 : Nat) (w : World) (hp : OwnL w p 6 (fun i => 1 + (i : Int))) : Calls Try.prog 21 #[.slice p 6 c1, .int .i64 1] w fun rv w' => rv = .returned (.int .i64 7) ∧ Ext w w' := heldIntS_own p 6 c1 (by decide) w hp

theorem iSixSteps_own (e f a b : Int) (hg : (finB e f a && finB e f b) = true) (hK : sixK e f a b = true) (w : World) : Calls Try.prog 18 #[fmt e f, .int .i64 a, .int .i64 b] w fun rv w' => ∃ p cap, rv = .returned (.tuple #[.slice p 6 cap, .bool true]) ∧ OwnL w' p 6 (sixP e f a b) ∧ Past p 6 w.heap.size ∧ Ext w w' := by
  refine (iSixSteps_yes e f a b hg w).mono ?_
  rintro rv w' ⟨v, rfl, ho, hx⟩
  rw [if_pos hK] at ho
  obtain ⟨p, cap, rfl, h1, h2⟩ := own_form ho
  exact ⟨p, cap, by rw [hK], h1, h2, hx⟩

theorem sSixSteps_own (e f a b : Int) (hg : (finB e f a && finB e f b) = true) (hK : sixK e f a b = true) (w : World) : Calls Try.prog 17 #[fmt e f, .int .i64 a, .int .i64 b] w fun rv w' => ∃ p cap, rv = .returned (.tuple #[.slice p 6 cap, .bool true]) ∧ OwnL w' p 6 (sixP e f a b) ∧ Ext w w' := by
  have hB := sixK_iff.1 hK
  refine (sSix_6 e f a b hg (hB 0 (by decide)) (hB 1 (by decide)) (hB 2 (by decide)) (hB 3 (by decide)) (hB 4 (by decide)) (hB 5 (by decide)) w).mono ?_
  rintro rv w' ⟨g, rfl, _, hr, hx⟩
  exact ⟨_, 6, rfl, row_own hr, hx⟩

theorem iSixSteps_nil (e f a b : Int) (h : ((finB e f a && finB e f b) && sixK e f a b) = false) (w : World) : Calls Try.prog 18 #[fmt e f, .int .i64 a, .int .i64 b] w fun rv w' => rv = .returned (.tuple #[.slice none 0 0, .bool false]) ∧ Ext w w' := by
  cases hg : (finB e f a && finB e f b)
  · exact iSixSteps_no e f a b hg w
  · have hK : sixK e f a b = false := by rw [hg] at h; simpa using h
    refine (iSixSteps_yes e f a b hg w).mono ?_
    rintro rv w' ⟨v, rfl, ho, hx⟩
    rw [if_neg (by rw [hK]; decide)] at ho
    subst ho
    exact ⟨by rw [hK], hx⟩

theorem sSixSteps_nil (e f a b : Int) (h : ((finB e f a && finB e f b) && sixK e f a b) = false) (w : World) : Calls Try.prog 17 #[fmt e f, .int .i64 a, .int .i64 b] w fun rv w' => rv = .returned (.tuple #[.slice none 0 0, .bool false]) ∧ Ext w w' := by
  cases hg : (finB e f a && finB e f b)
  · exact sSixSteps_no e f a b hg w
  · have hK : sixK e f a b = false := by rw [hg] at h; simpa using h
    obtain ⟨m, hm, hB, hN⟩ := six_first hK
    match m, hm, hB, hN with
    | 0, _, hB, hN => exact sSix_0 e f a b hg  hN w
    | 1, _, hB, hN => exact sSix_1 e f a b hg (hB 0 (by decide)) hN w
    | 2, _, hB, hN => exact sSix_2 e f a b hg (hB 0 (by decide)) (hB 1 (by decide)) hN w
    | 3, _, hB, hN => exact sSix_3 e f a b hg (hB 0 (by decide)) (hB 1 (by decide)) (hB 2 (by decide)) hN w
    | 4, _, hB, hN => exact sSix_4 e f a b hg (hB 0 (by decide)) (hB 1 (by decide)) (hB 2 (by decide)) (hB 3 (by decide)) hN w
    | 5, _, hB, hN => exact sSix_5 e f a b hg (hB 0 (by decide)) (hB 1 (by decide)) (hB 2 (by decide)) (hB 3 (by decide)) (hB 4 (by decide)) hN w

set_option maxHeartbeats 1600000 in
theorem wSix_no (e f a b : Int) (h : ((finB e f a && finB e f b) && sixK e f a b) = false) (w : World) : Calls Try.prog 4 #[fmt e f, .int .i64 a, .int .i64 b] w fun rv w' => rv = .returned (.bool true) ∧ Ext w w' := by
  go_enter Try.func4, Try.ntmps4
  go_wp2_with (first | (go_at_call 15; refine (toFormat_any e f _).mono ?_; rintro rv w1 ⟨rfl, hb⟩; have ns : w.heap.size < w1.heap.size := hb.ltK; have n0 : w1.cell? ⟨w.heap.size, 0, none⟩ = some (.int .i64 e) := hb.cellK; have n1 : w1.cell? ⟨w.heap.size, 1, none⟩ = some (.int .i64 f) := hb.cellK; (first | (have nx := Ext.trans hx hb; clear hx) | (have nx := Ext.trans (hx.alloc _) hb; clear hx) | (have nx := Ext.trans hx.drew hb; clear hx) | have nx := hb); clear hb; try clear hs; try clear g0; try clear g1; have hx := nx; clear nx; have hs := ns; clear ns; have g0 := n0; clear n0; have g1 := n1; clear n1) | (go_at_call 17; refine (sSixSteps_nil e f a b h _).mono ?_; rintro rv w1 ⟨rfl, hb⟩; have ns : w.heap.size < w1.heap.size := hb.ltK; have n0 : w1.cell? ⟨w.heap.size, 0, none⟩ = some (.int .i64 e) := hb.cellK; have n1 : w1.cell? ⟨w.heap.size, 1, none⟩ = some (.int .i64 f) := hb.cellK; (first | (have nx := Ext.trans hx hb; clear hx) | (have nx := Ext.trans (hx.alloc _) hb; clear hx) | (have nx := Ext.trans hx.drew hb; clear hx) | have nx := hb); clear hb; try clear hs; try clear g0; try clear g1; have hx := nx; clear nx; have hs := ns; clear ns; have g0 := n0; clear n0; have g1 := n1; clear n1) | (go_at_call 18; refine (iSixSteps_nil e f a b h _).mono ?_; rintro rv w1 ⟨rfl, hb⟩; have ns : w.heap.size < w1.heap.size := hb.ltK; have n0 : w1.cell? ⟨w.heap.size, 0, none⟩ = some (.int .i64 e) := hb.cellK; have n1 : w1.cell? ⟨w.heap.size, 1, none⟩ = some (.int .i64 f) := hb.cellK; (first | (have nx := Ext.trans hx hb; clear hx) | (have nx := Ext.trans (hx.alloc _) hb; clear hx) | (have nx := Ext.trans hx.drew hb; clear hx) | have nx := hb); clear hb; try clear hs; try clear g0; try clear g1; have hx := nx; clear nx; have hs := ns; clear ns; have g0 := n0; clear n0; have g1 := n1; clear n1) | (go_at_call 19; refine (eq_nil _).mono ?_; rintro rv w1 ⟨rfl, hb⟩; have ns : w.heap.size < w1.heap.size := hb.ltK; have n0 : w1.cell? ⟨w.heap.size, 0, none⟩ = some (.int .i64 e) := hb.cellK; have n1 : w1.cell? ⟨w.heap.size, 1, none⟩ = some (.int .i64 f) := hb.cellK; (first | (have nx := Ext.trans hx hb; clear hx) | (have nx := Ext.trans (hx.alloc _) hb; clear hx) | (have nx := Ext.trans hx.drew hb; clear hx) | have nx := hb); clear hb; try clear hs; try clear g0; try clear g1; have hx := nx; clear nx; have hs := ns; clear ns; have g0 := n0; clear n0; have g1 := n1; clear n1) | (go_at_call 20; refine (mark_nil _).mono ?_; rintro rv w1 ⟨rfl, hb⟩; have ns : w.heap.size < w1.heap.size := hb.ltK; have n0 : w1.cell? ⟨w.heap.size, 0, none⟩ = some (.int .i64 e) := hb.cellK; have n1 : w1.cell? ⟨w.heap.size, 1, none⟩ = some (.int .i64 f) := hb.cellK; (first | (have nx := Ext.trans hx hb; clear hx) | (have nx := Ext.trans (hx.alloc _) hb; clear hx) | (have nx := Ext.trans hx.drew hb; clear hx) | have nx := hb); clear hb; try clear hs; try clear g0; try clear g1; have hx := nx; clear nx; have hs := ns; clear ns; have g0 := n0; clear n0; have g1 := n1; clear n1) | (go_at_call 21; refine (held_nil _).mono ?_; rintro rv w1 ⟨rfl, hb⟩; have ns : w.heap.size < w1.heap.size := hb.ltK; have n0 : w1.cell? ⟨w.heap.size, 0, none⟩ = some (.int .i64 e) := hb.cellK; have n1 : w1.cell? ⟨w.heap.size, 1, none⟩ = some (.int .i64 f) := hb.cellK; (first | (have nx := Ext.trans hx hb; clear hx) | (have nx := Ext.trans (hx.alloc _) hb; clear hx) | (have nx := Ext.trans hx.drew hb; clear hx) | have nx := hb); clear hb; try clear hs; try clear g0; try clear g1; have hx := nx; clear nx; have hs := ns; clear ns; have g0 := n0; clear n0; have g1 := n1; clear n1))
  go_ret
  exact ⟨rfl, Ext.auK⟩

set_option maxHeartbeats 3200000 in
theorem wSix_yes (e f a b : Int) (hg : (finB e f a && finB e f b) = true) (hK : sixK e f a b = true) (w : World) : Calls Try.prog 4 #[fmt e f, .int .i64 a, .int .i64 b] w fun rv w' => rv = .returned (.bool true) ∧ Ext w w' := by
  go_enter Try.func4, Try.ntmps4
  go_wp2_with fail
  go_at_call 15
  refine (toFormat_any e f _).mono ?_
  rintro rv w1 ⟨rfl, hb⟩
  have s1 : w.heap.size < w1.heap.size := hb.lt (by simp)
  have a1 : w1.cell? ⟨w.heap.size, 0, none⟩ = some (.int .i64 e) := (hb.cells _ _ (by simp)).trans (by simp)
  have b1 : w1.cell? ⟨w.heap.size, 1, none⟩ = some (.int .i64 f) := (hb.cells _ _ (by simp)).trans (by simp [go_sem])
  have x1 : Ext w w1 := Ext.trans (Ext.new _ _) hb
  clear hb
  go_wp2_with fail
  go_at_call 17
  refine (sSixSteps_own e f a b hg hK _).mono ?_
  rintro rv w2 ⟨pS, cS, rfl, S2, hb⟩
  have s2 : w.heap.size < w2.heap.size := hb.lt s1
  have a2 : w2.cell? ⟨w.heap.size, 0, none⟩ = some (.int .i64 e) := (hb.cells _ _ s1).trans a1
  have b2 : w2.cell? ⟨w.heap.size, 1, none⟩ = some (.int .i64 f) := (hb.cells _ _ s1).trans b1
  have x2 : Ext w w2 := Ext.trans x1 hb
  clear hb a1 b1 x1 
  go_wp2_with fail
  go_at_call 15
  refine (toFormat_any e f _).mono ?_
  rintro rv w3 ⟨rfl, hb⟩
  have s3 : w.heap.size < w3.heap.size := hb.lt s2
  have a3 : w3.cell? ⟨w.heap.size, 0, none⟩ = some (.int .i64 e) := (hb.cells _ _ s2).trans a2
  have b3 : w3.cell? ⟨w.heap.size, 1, none⟩ = some (.int .i64 f) := (hb.cells _ _ s2).trans b2
  have x3 : Ext w w3 := Ext.trans x2 hb
  have S3 := S2.ext hb
  clear hb a2 b2 x2 S2
  go_wp2_with fail
  go_at_call 18
  refine (iSixSteps_own e f a b hg hK _).mono ?_
  rintro rv w4 ⟨pG, cG, rfl, G4, P4, hb⟩
  have s4 : w.heap.size < w4.heap.size := hb.lt s3
  have a4 : w4.cell? ⟨w.heap.size, 0, none⟩ = some (.int .i64 e) := (hb.cells _ _ s3).trans a3
  have b4 : w4.cell? ⟨w.heap.size, 1, none⟩ = some (.int .i64 f) := (hb.cells _ _ s3).trans b3
  have x4 : Ext w w4 := Ext.trans x3 hb
  have S4 := S3.ext hb
  have PG := P4.le (Nat.le_of_lt s3)
  have D4 : Past pG 6 w3.heap.size := P4
  have S0 := S3
  clear hb a3 b3 x3 S3
  go_wp2_with fail
  go_at_call 19
  refine (eqIntS_own _ _ 6 _ _ _ (by decide) _ G4 S4).mono ?_
  rintro rv w5 ⟨rfl, hb⟩
  have s5 : w.heap.size < w5.heap.size := hb.lt s4
  have a5 : w5.cell? ⟨w.heap.size, 0, none⟩ = some (.int .i64 e) := (hb.cells _ _ s4).trans a4
  have b5 : w5.cell? ⟨w.heap.size, 1, none⟩ = some (.int .i64 f) := (hb.cells _ _ s4).trans b4
  have x5 : Ext w w5 := Ext.trans x4 hb
  have S5 := S4.ext hb
  have G5 := G4.ext hb
  clear hb a4 b4 x4 S4 G4
  go_wp2_with fail
  go_at_call 20
  refine (mark6 _ _ _ _ G5).mono ?_
  rintro rv w6 ⟨rfl, hm⟩
  have s6 : w.heap.size < w6.heap.size := by rw [hm.size]; exact s5
  have PG2 : Past pG 6 (w.heap.size + 1) := P4.le s3
  have a6 : w6.cell? ⟨w.heap.size, 0, none⟩ = some (.int .i64 e) := (World.cell?_of_block (hm.far _ (fun hn b hb2 => by have := PG2 hn b hb2; simp only; omega))).trans a5
  have b6 : w6.cell? ⟨w.heap.size, 1, none⟩ = some (.int .i64 f) := (World.cell?_of_block (hm.far _ (fun hn b hb2 => by have := PG2 hn b hb2; simp only; omega))).trans b5
  have x6 : Ext w w6 := mark_ext x5 hm PG
  have S6 : OwnL w6 pS 6 (sixP e f a b) := S5.block (fun hn b hb2 => hm.far _ (fun hn2 b2 hb3 => by have h1 := S0.lt hn hb2; have h2 := D4 hn2 b2 hb3; omega))
  have G6 := hm.row
  clear hm a5 b5 x5 S5 G5
  go_wp2_with fail
  go_at_call 21
  refine (held6 _ _ _ G6).mono ?_
  rintro rv w7 ⟨rfl, hb⟩
  have s7 : w.heap.size < w7.heap.size := hb.lt s6
  have a7 : w7.cell? ⟨w.heap.size, 0, none⟩ = some (.int .i64 e) := (hb.cells _ _ s6).trans a6
  have b7 : w7.cell? ⟨w.heap.size, 1, none⟩ = some (.int .i64 f) := (hb.cells _ _ s6).trans b6
  have x7 : Ext w w7 := Ext.trans x6 hb
  have S7 := S6.ext hb
  have G7 := G6.ext hb
  clear hb a6 b6 x6 S6 G6
  go_wp2_with fail
  go_at_call 15
  refine (toFormat_any e f _).mono ?_
  rintro rv w8 ⟨rfl, hb⟩
  have s8 : w.heap.size < w8.heap.size := hb.lt s7
  have a8 : w8.cell? ⟨w.heap.size, 0, none⟩ = some (.int .i64 e) := (hb.cells _ _ s7).trans a7
  have b8 : w8.cell? ⟨w.heap.size, 1, none⟩ = some (.int .i64 f) := (hb.cells _ _ s7).trans b7
  have x8 : Ext w w8 := Ext.trans x7 hb
  have S8 := S7.ext hb
  have G8 := G7.ext hb
  clear hb a7 b7 x7 S7 G7
  go_wp2_with fail
  go_at_call 18
  refine (iSixSteps_own e f a b hg hK _).mono ?_
  rintro rv w9 ⟨pH, cH, rfl, H9, P9, hb⟩
  have s9 : w.heap.size < w9.heap.size := hb.lt s8
  have a9 : w9.cell? ⟨w.heap.size, 0, none⟩ = some (.int .i64 e) := (hb.cells _ _ s8).trans a8
  have b9 : w9.cell? ⟨w.heap.size, 1, none⟩ = some (.int .i64 f) := (hb.cells _ _ s8).trans b8
  have x9 : Ext w w9 := Ext.trans x8 hb
  have S9 := S8.ext hb
  have G9 := G8.ext hb
  clear hb a8 b8 x8 S8 G8
  go_wp2_with fail
  go_at_call 19
  refine (eqIntS_own _ _ 6 _ _ _ (by decide) _ H9 S9).mono ?_
  rintro rv w10 ⟨rfl, hb⟩
  have s10 : w.heap.size < w10.heap.size := hb.lt s9
  have a10 : w10.cell? ⟨w.heap.size, 0, none⟩ = some (.int .i64 e) := (hb.cells _ _ s9).trans a9
  have b10 : w10.cell? ⟨w.heap.size, 1, none⟩ = some (.int .i64 f) := (hb.cells _ _ s9).trans b9
  have x10 : Ext w w10 := Ext.trans x9 hb
  have S10 := S9.ext hb
  have G10 := G9.ext hb
  have H10 := H9.ext hb
  clear hb a9 b9 x9 S9 G9 H9
  go_wp2_with fail
  go_at_call 21
  refine (held6 _ _ _ G10).mono ?_
  rintro rv w11 ⟨rfl, hb⟩
  have s11 : w.heap.size < w11.heap.size := hb.lt s10
  have a11 : w11.cell? ⟨w.heap.size, 0, none⟩ = some (.int .i64 e) := (hb.cells _ _ s10).trans a10
  have b11 : w11.cell? ⟨w.heap.size, 1, none⟩ = some (.int .i64 f) := (hb.cells _ _ s10).trans b10
  have x11 : Ext w w11 := Ext.trans x10 hb
  have S11 := S10.ext hb
  have G11 := G10.ext hb
  clear hb a10 b10 x10 S10 G10
  go_wp2_with fail
  go_ret
  exact ⟨rfl, x11⟩

theorem wSixSteps (e f a b : Int) (w : World) : Calls Try.prog 4 #[fmt e f, .int .i64 a, .int .i64 b] w fun rv w' => rv = .returned (.bool true) ∧ Ext w w' := by
  cases h : ((finB e f a && finB e f b) && sixK e f a b)
  · exact wSix_no e f a b h w
  · rw [Bool.and_eq_true] at h
    exact wSix_yes e f a b h.1 h.2 w
end Go.Proofs.Ytjebechmedhidaa

