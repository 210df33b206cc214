/-
  Contracts of the functions that the laws reach, and the plain facts that they rest on, each under the conditions that its line names; part 21.
-/
import Derived.Test.YtcpamgmaijjhoaaKst1
import Derived.Test.YtcpamgmaijjhoaaKst2
import Derived.Test.YtcpamgmaijjhoaaKst3
import Derived.Test.YtcpamgmaijjhoaaKst4
import Derived.Test.YtcpamgmaijjhoaaKst5
import Derived.Test.YtcpamgmaijjhoaaKst6
import Derived.Test.YtcpamgmaijjhoaaKst7
import Derived.Test.YtcpamgmaijjhoaaKst8
import Derived.Test.YtcpamgmaijjhoaaKst9
import Derived.Test.YtcpamgmaijjhoaaKst10
import Derived.Test.YtcpamgmaijjhoaaKst11
import Derived.Test.YtcpamgmaijjhoaaKst12
import Derived.Test.YtcpamgmaijjhoaaKst13
import Derived.Test.YtcpamgmaijjhoaaKst14
import Derived.Test.YtcpamgmaijjhoaaKst15
import Derived.Test.YtcpamgmaijjhoaaKst16
import Derived.Test.YtcpamgmaijjhoaaKst17
import Derived.Test.YtcpamgmaijjhoaaKst18
import Derived.Test.YtcpamgmaijjhoaaKst19
import Derived.Test.YtcpamgmaijjhoaaKst20
import Derived.Test.YtcpamgmaijjhoaaRows
import Derived.WalkKit
import Derived.LoopTactic
import Derived.Laws.Bits64b
import Derived.WalkSpells
import Derived.WalkLawsBesides
import Derived.StillTactics
import Derived.Laws.Pointers
import Derived.Deep.RegionHeld3
import Derived.Deep.QuietTactic
import Derived.BigQuiet
import Derived.Outline
import Derived.Lib.Hide
import Derived.RowKit3
import Derived.Carry
import Derived.IntWalk
namespace Go.Proofs.Ytcpamgmaijjhoaa
open Go Go.RowKit
set_option linter.unusedSimpArgs false
set_option linter.unusedVariables false

theorem rounded_any (p mode : Int) (R S : Nat) (neg : Bool) (p0 : 0 ≤ p) (p1 : p ≤ 1152921504606846976) (okR : Ok Ieee.single R) (ltR : R < 2 ^ 192) (okS : Ok Ieee.single S) (m0 : 0 ≤ mode) (m1 : mode ≤ 5) (w : World) :
    Calls Try.prog 174 #[.agg #[.int .i64 p, .float .f32 (fw Ieee.single R), .float .f32 (fw Ieee.single S)], .int .i64 mode, .bool neg] w fun rv w' => rv = .returned (.int .i64 (rndP (R : Int) (S : Int) p mode neg)) ∧ Ext w w' := by
  have oz : FloatKind.f32.format.order (fw Ieee.single R) 0 = some (if R = 0 then .eq else .gt) := order_zero okR
  by_cases hR : R = 0
  · rw [if_pos hR] at oz
    have e : rndP (R : Int) (S : Int) p mode neg = p := by unfold rndP; rw [if_pos (by omega)]
    rw [e]
    exact rounded_zero p _ _ mode neg p0 p1 oz w
  · rw [if_neg hR] at oz
    have hm := mul_two okR
    have ok2 := ok_two okR ltR
    have hc0 := fun w => compare_fw (2 * R) S ok2 okS w
    have e0 : rndP (R : Int) (S : Int) p mode neg = if upR (R : Int) (S : Int) p mode neg = true then p + 1 else p := by unfold rndP; rw [if_neg (show ¬ (R : Int) = 0 by omega)]
    rw [e0]
    have par : p % 2 = 0 ∨ p % 2 = 1 := by omega
    have hmode : mode = 0 ∨ mode = 1 ∨ mode = 2 ∨ mode = 3 ∨ mode = 4 ∨ mode = 5 := by omega
    rcases hmode with rfl | rfl | rfl | rfl | rfl | rfl
    · have u : upR (R : Int) (S : Int) p 0 neg = decide ((S : Int) < 2 * (R : Int) ∨ (2 * (R : Int) = S ∧ p % 2 = 1)) := rfl
      rw [u]
      rcases Nat.lt_trichotomy (2 * R) S with g | g | g
      · rw [decide_eq_false (by omega)]
        rw [sg_neg (show ((2 * R : Nat) : Int) - S < 0 by omega)] at hc0
        exact rounded_evenL p _ _ neg p0 p1 oz _ hm hc0 w
      · rw [sg_zero (show ((2 * R : Nat) : Int) - S = 0 by omega)] at hc0
        rcases par with h | h
        · rw [decide_eq_false (by omega)]
          exact rounded_evenE p _ _ neg p0 p1 oz _ hm hc0 h w
        · rw [decide_eq_true (by omega)]
          exact rounded_evenO p _ _ neg p0 p1 oz _ hm hc0 h w
      · rw [decide_eq_true (by omega)]
        rw [sg_pos (show 0 < ((2 * R : Nat) : Int) - S by omega)] at hc0
        exact rounded_evenG p _ _ neg p0 p1 oz _ hm hc0 w
    · have u : upR (R : Int) (S : Int) p 1 neg = decide ((S : Int) ≤ 2 * (R : Int)) := rfl
      rw [u]
      rcases Nat.lt_trichotomy (2 * R) S with g | g | g
      · rw [decide_eq_false (by omega)]
        rw [sg_neg (show ((2 * R : Nat) : Int) - S < 0 by omega)] at hc0
        exact rounded_awayL p _ _ neg p0 p1 oz _ hm hc0 w
      · rw [sg_zero (show ((2 * R : Nat) : Int) - S = 0 by omega)] at hc0
        rw [decide_eq_true (by omega)]
        exact rounded_awayM p _ _ neg p0 p1 oz _ hm hc0 w
      · rw [decide_eq_true (by omega)]
        rw [sg_pos (show 0 < ((2 * R : Nat) : Int) - S by omega)] at hc0
        exact rounded_awayG p _ _ neg p0 p1 oz _ hm hc0 w
    · exact rounded_cut p _ _ neg p0 p1 oz w
    · cases neg
      · exact rounded_upP p _ _ p0 p1 oz w
      · exact rounded_upN p _ _ p0 p1 oz w
    · cases neg
      · exact rounded_downP p _ _ p0 p1 oz w
      · exact rounded_downN p _ _ p0 p1 oz w
    · have u : upR (R : Int) (S : Int) p 5 neg = decide (p % 2 = 0) := rfl
      rw [u]
      rcases par with h | h
      · rw [decide_eq_true h]
        exact rounded_oddE p _ _ neg p0 p1 oz h w
      · rw [decide_eq_false (by omega)]
        exact rounded_oddO p _ _ neg p0 p1 oz h w
end Go.Proofs.Ytcpamgmaijjhoaa

namespace Go.Proofs.Ytcpamgmaijjhoaa
open Go Go.RowKit
set_option linter.unusedSimpArgs false
set_option linter.unusedVariables false

/-- A number brought into lowest terms is rounded as it is. -/
theorem rdRound_short (e f n d mode : Int) (hg : goodB e f = true) (n0 : -1152921504606846976 < n) (n1 : n < 1152921504606846976) (k0 : -60 ≤ (d - unV e f)) (k1 : (d - unV e f) ≤ 88) (hm0 : 0 ≤ mode) (hm1 : mode ≤ 5) (w : World) :
    Calls Try.prog 100 #[fmt e f, two (odV n) (shE n d), .int .i64 mode] w (RRout e f n (d - unV e f) mode w) := by
  refine (rdRound_any e f (odV n) (shE n d) mode hg (rd_short hg n0 n1 k0 k1) hm0 hm1 w).mono ?_
  rintro rv w' ⟨s, rfl, hq, hb⟩
  obtain ⟨s1, s2⟩ := od_sign (S := n) (by omega) (by omega)
  have hq2 := rnd_short n0 n1 k0 hq
  rw [show decide (odV n < 0) = decide (n < 0) by rw [decide_eq_decide]; exact s1] at hq2
  refine ⟨s, ?_, hq2, hb⟩
  unfold sgP
  by_cases ha : n < 0
  · rw [if_pos ha, if_pos (s1.2 ha)]
  · rw [if_neg ha, if_neg (fun h => ha (s1.1 h))]
end Go.Proofs.Ytcpamgmaijjhoaa

namespace Go.Proofs.Ytcpamgmaijjhoaa
open Go Go.RowKit
set_option linter.unusedSimpArgs false
set_option linter.unusedVariables false
set_option maxRecDepth 100000

theorem lt_alloc {w : World} {A : Obj} {k : Nat} (h : k < w.heap.size) : k < (w.alloc A).heap.size := by rw [World.size_alloc]; omega

theorem frz_alloc_before (w : World) (A : Obj) (k o : Nat) (h : k < w.heap.size) : (w.alloc A).frozen? ⟨k, o, none⟩ = w.frozen? ⟨k, o, none⟩ := (Ext.new w A).frz k o h

theorem Ext.new4 {X b : World} {u v x y : Value} {t : TypeId} (h : Ext (X.alloc (.cells #[u, v, x, y] t)) b) : b.cell? ⟨X.heap.size, 0, none⟩ = some u ∧ b.cell? ⟨X.heap.size, 1, none⟩ = some v ∧ b.cell? ⟨X.heap.size, 2, none⟩ = some x ∧ b.cell? ⟨X.heap.size, 3, none⟩ = some y ∧ b.frozen? ⟨X.heap.size, 0, none⟩ = false ∧ b.frozen? ⟨X.heap.size, 1, none⟩ = false ∧ b.frozen? ⟨X.heap.size, 2, none⟩ = false ∧ b.frozen? ⟨X.heap.size, 3, none⟩ = false ∧ X.heap.size < b.heap.size :=
  ⟨(h.cells _ _ (by simp)).trans (by simp [go_sem]), (h.cells _ _ (by simp)).trans (by simp [go_sem]), (h.cells _ _ (by simp)).trans (by simp [go_sem]), (h.cells _ _ (by simp)).trans (by simp [go_sem]), (h.frz _ _ (by simp)).trans (by simp [go_sem]), (h.frz _ _ (by simp)).trans (by simp [go_sem]), (h.frz _ _ (by simp)).trans (by simp [go_sem]), (h.frz _ _ (by simp)).trans (by simp [go_sem]), h.lt (by simp)⟩

theorem Ext.new4d {X b : World} {u v x y : Value} {t : TypeId} (h : Ext ((X.alloc (.cells #[u, v, x, y] t)).drew) b) : b.cell? ⟨X.heap.size, 0, none⟩ = some u ∧ b.cell? ⟨X.heap.size, 1, none⟩ = some v ∧ b.cell? ⟨X.heap.size, 2, none⟩ = some x ∧ b.cell? ⟨X.heap.size, 3, none⟩ = some y ∧ b.frozen? ⟨X.heap.size, 0, none⟩ = false ∧ b.frozen? ⟨X.heap.size, 1, none⟩ = false ∧ b.frozen? ⟨X.heap.size, 2, none⟩ = false ∧ b.frozen? ⟨X.heap.size, 3, none⟩ = false ∧ X.heap.size < b.heap.size := Ext.new4 (Ext.trans (Ext.drew (Ext.refl _)) h)

theorem isNaN_sw (y : Nat) (o : FloatKind.f64.format.order y y = some .eq) (w : World) : Calls Try.prog 166 #[.float .f64 y] w fun rv w' => rv = .returned (.bool false) ∧ w = w' := by
  go_enter Try.func166, Try.ntmps166
  go_wp2
  go_ret
  exact ⟨rfl, rfl⟩

theorem bits64s_run (b : Nat) (w : World) : (callFunc 200 #[.float .f64 b]).run Try.prog w = .ok (.value (.int .u64 (b : Int))) w :=
  (run_callFunc_extern (e := Extern.MathFloatBits.float64bits) Try.func200 (by kernel_rfl) (by kernel_rfl) (by kernel_rfl) (by kernel_rfl) _ w).trans rfl

theorem from64s_run (b : Nat) (w : World) : (callFunc 201 #[.int .u64 (b : Int)]).run Try.prog w = .ok (.value (.float .f64 b)) w :=
  (run_callFunc_extern (e := Extern.MathFloatBits.float64frombits) Try.func201 (by kernel_rfl) (by kernel_rfl) (by kernel_rfl) (by kernel_rfl) _ w).trans rfl

theorem copysign_any (s : Bool) (b c : Nat) (hb : b < 9223372036854775808) (hc : c < 9223372036854775808) (w : World) : Calls Try.prog 176 #[.float .f64 b, .float .f64 (Ieee.double.word s c)] w fun rv w' => rv = .returned (.float .f64 (Ieee.double.word s b)) ∧ w = w' := by
  have k1 := abs_bits b hb
  have k2 := sign_bits s c hc
  have k3 := put_sign s b hb
  have q1 := bits64s_run b
  have q2 := bits64s_run (Ieee.double.word s c)
  have q3 := from64s_run (Ieee.double.word s b)
  generalize Ieee.double.word s c = x at *
  generalize Ieee.double.word s b = y at *
  generalize (if s = true then (9223372036854775808 : Int) else 0) = z at *
  go_enter Try.func176, Try.ntmps176
  go_wp2
  go_ret
  exact ⟨rfl, rfl⟩

theorem inf_one (w : World) : Calls Try.prog 175 #[.int .i64 1] w fun rv w' => rv = .returned (.float .f64 9218868437227405312) ∧ Ext w w' := by
  have q3 : ∀ w, (callFunc 201 #[.int .u64 9218868437227405312]).run Try.prog w = .ok (.value (.float .f64 9218868437227405312)) w := fun w => from64s_run 9218868437227405312 w
  go_enter Try.func175, Try.ntmps175
  go_wp2
  go_ret
  exact ⟨rfl, (by repeat (first | exact Ext.refl _ | with_reducible assumption | apply Ext.alloc | apply Ext.drew | apply Ext.drewN | (refine Ext.setRow ?_ (by first | (simp; done) | (simp; omega) | omega) _) | (refine Ext.setCell ?_ (by first | (simp; done) | (simp; omega) | omega) _) | (refine Ext.trans ?_ (by with_reducible assumption))))⟩

theorem sizeOf_sw (s : Bool) (v : Nat) (h : Ok Ieee.single v) (w : World) : Calls Try.prog 169 #[.float .f32 (sw Ieee.single s v)] w fun rv w' => rv = .returned (.float .f32 (fw Ieee.single v)) ∧ Ext w w' := by
  have k1 : ∀ w, (Op.unary .neg (.float .f32 (sw Ieee.single s v))).run Try.prog w = .ok (.float .f32 (sw Ieee.single (!s) v)) w := fun w => by
    rw [← neg_sw s h]
    rfl
  have k2 := max_sw (P := Try.prog) s h
  generalize sw Ieee.single s v = x at *
  generalize sw Ieee.single (!s) v = y at *
  generalize fw Ieee.single v = z at *
  go_enter Try.func169, Try.ntmps169
  go_wp2
  go_ret
  exact ⟨rfl, (by repeat (first | exact Ext.refl _ | with_reducible assumption | apply Ext.alloc | apply Ext.drew | apply Ext.drewN | (refine Ext.setRow ?_ (by first | (simp; done) | (simp; omega) | omega) _) | (refine Ext.setCell ?_ (by first | (simp; done) | (simp; omega) | omega) _) | (refine Ext.trans ?_ (by with_reducible assumption))))⟩

/-- The word to which nearest rounds. -/
def nrW (e f : Int) (t : Bool) (s : Int) : Nat := if s ≤ grV e f then sw Ieee.single t (mgN f s) else Ieee.single.word t Ieee.single.infRung

/-- nearest of a single. -/
def NROut (e f : Int) (t : Bool) (Y : Nat) (w : World) (rv : Ending) (w' : World) : Prop := ∃ s : Int, rv = .returned (.float .f32 (nrW e f t s)) ∧ IsRnd f (grV e f) (Y : Int) (pw 149) 0 false s ∧ (0 ≤ s ∧ s ≤ grV e f + 1) ∧ Ext w w'

theorem rounded_Y (e f p : Int) (Y : Nat) (hg : goodB e f = true) (okY : Ok Ieee.single Y) (hY : Y < 2 ^ 191) (hp : BelowQ f (grV e f) (Y : Int) (pw 149) p) (w : World) :
    Calls Try.prog 174 #[.agg #[.int .i64 p, .float .f32 (fw Ieee.single (Y - mgN f p)), .float .f32 (fw Ieee.single (stN f p))], .int .i64 0, .bool false] w fun rv w' => ∃ s : Int, rv = .returned (.int .i64 s) ∧ IsRnd f (grV e f) (Y : Int) (pw 149) 0 false s ∧ Ext w w' := by
  have p0 := hp.1
  have p1 := hp.2.1
  have hl := hp.2.2.1
  have c := mgN_cast f p (mg_bd hg p0 p1).1
  have hl2 : mgN f p ≤ Y := by omega
  obtain ⟨R, okR, ltR, eR, hR⟩ := rest_ok hg okY hY p0 p1 hl2
  obtain ⟨okS, _⟩ := stN_ok hg p0 p1
  obtain ⟨_, _, g2⟩ := gr_bd2 hg
  rw [eR]
  refine (rounded_any p 0 R (stN f p) false p0 (by omega) okR ltR okS (by decide) (by decide) w).mono ?_
  rintro rv w' ⟨rfl, hb⟩
  exact ⟨_, rfl, ⟨p, hp, rnd_rest hg p0 p1 hl2 hR⟩, hb⟩

theorem rnd_top {e f X D mode s : Int} {neg : Bool} (h : IsRnd f (grV e f) X D mode neg s) : 0 ≤ s ∧ s ≤ grV e f + 1 := by
  obtain ⟨p, ⟨p0, p1, _, _⟩, rfl⟩ := h
  unfold rndP
  split
  · omega
  · split <;> omega

theorem s_parts {e f s : Int} (hg : goodB e f = true) (h0 : 0 ≤ s) (h1 : s ≤ grV e f + 1) : s ≤ 65535 ∧ s / pw (e + f) = 0 ∧ s % pw (e + f) = s ∧ (s / pw f < pw e - 1 ↔ s ≤ grV e f) := by
  obtain ⟨h2, h3, h4, h5⟩ := good_iff.1 hg
  obtain ⟨⟨a1, a2⟩, ⟨b1, b2⟩, ⟨c1, c2⟩, hmul⟩ := pw_facts h2 h3 h4 h5
  have hlt : s < pw (e + f) := by
    unfold grV at h1
    rw [Int.sub_mul] at h1
    omega
  refine ⟨by omega, Int.ediv_eq_zero_of_lt h0 hlt, Int.emod_eq_of_lt h0 hlt, ?_⟩
  rw [Int.ediv_lt_iff_lt_mul (by omega)]
  unfold grV
  omega

set_option maxHeartbeats 3200000 in
theorem nearest_fin (e f p s : Int) (t : Bool) (Y r st : Nat) (hg : goodB e f = true) (okY : Ok Ieee.single Y) (s0 : 0 ≤ s) (s1 : s ≤ grV e f)
    (HSP : RowKit.Hid (∀ w, Calls Try.prog 146 #[fmt e f, .float .f32 (fw Ieee.single Y)] w fun rv w' => rv = .returned (.agg #[.int .i64 p, .float .f32 r, .float .f32 st]) ∧ Ext w w')) (HRD : RowKit.Hid (∀ w, Calls Try.prog 174 #[.agg #[.int .i64 p, .float .f32 r, .float .f32 st], .int .i64 0, .bool false] w fun rv w' => rv = .returned (.int .i64 s) ∧ Ext w w')) (w : World) :
    Calls Try.prog 108 #[fmt e f, .float .f32 (sw Ieee.single t Y)] w fun rv w' => rv = .returned (.float .f32 (sw Ieee.single t (mgN f s))) ∧ Ext w w' := by
  obtain ⟨p1, p2, p3, p4⟩ := s_parts hg s0 (by omega)
  obtain ⟨okM, _⟩ := mgN_ok hg s0 s1
  obtain ⟨wy, okW⟩ := wide_sw t okY
  obtain ⟨wm, okN⟩ := wide_sw false okM
  rw [sw_pos, sw_pos] at wm
  have sl := slim_sw t okM
  have lY := sw_lt okW
  have lM := sw_lt okN
  have e64 : Ieee.double.signWeight = 9223372036854775808 := by decide
  rw [e64] at lY lM
  have hna := fun w => isNaN_sw _ (order_self t okW) w
  have hsz := fun w => sizeOf_sw t Y okY w
  have hsh : ∀ w, Calls Try.prog 115 #[fmt e f, .int .i64 s] w fun rv w' => rv = .returned (.agg #[.int .i64 0, .int .i64 (s / pw f), .int .i64 (s % pw f), .int .i64 (pw e - 1)]) ∧ Ext w w' := by
    intro w
    have := shapeOf_any e f s hg s0 p1 w
    rw [p2, p3] at this
    exact this
  have hfi : ∀ w, Calls Try.prog 128 #[.agg #[.int .i64 0, .int .i64 (s / pw f), .int .i64 (s % pw f), .int .i64 (pw e - 1)]] w fun rv w' => rv = .returned (.bool true) ∧ Ext w w' := by
    intro w
    have := shFinite_any 0 (s / pw f) (s % pw f) (pw e - 1) w
    rw [decide_eq_true (p4.2 s1)] at this
    exact this
  have hfo := fun w => floatOf_p e f s hg s0 s1 w
  have hcs := fun w => copysign_any t _ _ lM lY w
  have cv1 : ∀ w, (convert 111 112 (.float .f32 (sw Ieee.single t Y))).run Try.prog w = .ok (.float .f64 (sw Ieee.double t (up64 Y))) w := fun w =>
    run_convert_float_float w _ _ .f32 .f64 _ _ (by kernel_rfl) Try.underlying112 wy
  have cv2 : ∀ w, (convert 111 112 (.float .f32 (fw Ieee.single (mgN f s)))).run Try.prog w = .ok (.float .f64 (fw Ieee.double (up64 (mgN f s)))) w := fun w =>
    run_convert_float_float w _ _ .f32 .f64 _ _ (by kernel_rfl) Try.underlying112 wm
  have cv3 : ∀ w, (convert 112 111 (.float .f64 (sw Ieee.double t (up64 (mgN f s))))).run Try.prog w = .ok (.float .f32 (sw Ieee.single t (mgN f s))) w := fun w =>
    run_convert_float_float w _ _ .f64 .f32 _ _ (by kernel_rfl) Try.underlying111 sl
  simp only [sw_def] at hcs
  clear okY okM okW okN wy wm sl lY lM e64
  generalize sw Ieee.double t (up64 (mgN f s)) = x1 at *
  generalize sw Ieee.double t (up64 Y) = x2 at *
  generalize fw Ieee.double (up64 (mgN f s)) = x3 at *
  generalize sw Ieee.single t Y = x4 at *
  generalize sw Ieee.single t (mgN f s) = x5 at *
  generalize fw Ieee.single (mgN f s) = x6 at *
  generalize fw Ieee.single Y = x7 at *
  have HNA := Lib.hid hna; clear hna
  have HSZ := Lib.hid hsz; clear hsz
  have HSH := Lib.hid hsh; clear hsh
  have HFI := Lib.hid hfi; clear hfi
  have HFO := Lib.hid hfo; clear hfo
  have HCS := Lib.hid hcs; clear hcs
  clear p1 p2 p3 p4
  go_enter Try.func108, Try.ntmps108
  go_wp2_with (go_at_call 166; refine (HNA.out _).mono ?_; rintro rv w1 ⟨rfl, rfl⟩)
  go_cut [5] (fun s5 wx => ∃ g : Nat, s5 = .pointer (some ⟨g, 0, none⟩) ∧ wx.cell? ⟨g, 0, none⟩ = some (.int .i64 0) ∧ wx.cell? ⟨g, 1, none⟩ = some (.int .i64 (s / pw f)) ∧ wx.cell? ⟨g, 2, none⟩ = some (.int .i64 (s % pw f)) ∧ wx.cell? ⟨g, 3, none⟩ = some (.int .i64 (pw e - 1)) ∧ wx.cell? ⟨w.heap.size, 0, none⟩ = some (.int .i64 e) ∧ wx.cell? ⟨w.heap.size, 1, none⟩ = some (.int .i64 f) ∧ w.heap.size < wx.heap.size ∧ g < wx.heap.size ∧ Ext w wx)
  case first =>
    go_region_held3 (fun w' => w'.cell? ⟨w.heap.size, 0, none⟩ = some (.int .i64 e) ∧ w'.cell? ⟨w.heap.size, 1, none⟩ = some (.int .i64 f) ∧ w.heap.size < w'.heap.size) ((refine ⟨?_, ?_, ?_⟩ <;> first | with_reducible assumption | ((repeat first | rw [cell_set_far _ _ _ _ _ _ (by omega)] | rw [cell_alloc_before _ _ _ _ (by omega)] | rw [cell_alloc_drew _ _ _ _ (by omega)] | rw [cell_drew]); with_reducible assumption) | ((rw [cell_setRow_far _ _ _ _ _ (by omega)]); with_reducible assumption) | ((rw [setRow_size]); with_reducible assumption) | (simp; done) | (simp [World.setCell]; first | done | omega) | (simp [go_sem, World.cell?_alloc_past, World.cell?_setCell_far, *]; done))) ((first | (go_at_call 169; refine (HSZ.out _).mono ?_; rintro rv w1 ⟨rfl, hb⟩; (first | ((first | (have om0 := (hb.cells _ _ mt).trans m0) | (have om0 := (hb.cells _ _ (lt_alloc mt)).trans ((cell_alloc_before _ _ _ _ mt).trans m0))); (first | (have om1 := (hb.cells _ _ mt).trans m1) | (have om1 := (hb.cells _ _ (lt_alloc mt)).trans ((cell_alloc_before _ _ _ _ mt).trans m1))); (first | (have om2 := (hb.cells _ _ mt).trans m2) | (have om2 := (hb.cells _ _ (lt_alloc mt)).trans ((cell_alloc_before _ _ _ _ mt).trans m2))); (first | (have om3 := (hb.cells _ _ mt).trans m3) | (have om3 := (hb.cells _ _ (lt_alloc mt)).trans ((cell_alloc_before _ _ _ _ mt).trans m3))); (first | (have omz0 := (hb.frz _ _ mt).trans mz0) | (have omz0 := (hb.frz _ _ (lt_alloc mt)).trans ((frz_alloc_before _ _ _ _ mt).trans mz0))); (first | (have omz1 := (hb.frz _ _ mt).trans mz1) | (have omz1 := (hb.frz _ _ (lt_alloc mt)).trans ((frz_alloc_before _ _ _ _ mt).trans mz1))); (first | (have omz2 := (hb.frz _ _ mt).trans mz2) | (have omz2 := (hb.frz _ _ (lt_alloc mt)).trans ((frz_alloc_before _ _ _ _ mt).trans mz2))); (first | (have omz3 := (hb.frz _ _ mt).trans mz3) | (have omz3 := (hb.frz _ _ (lt_alloc mt)).trans ((frz_alloc_before _ _ _ _ mt).trans mz3))); (first | (have ot := hb.lt mt) | (have ot := hb.lt (lt_alloc mt))); clear m0 m1 m2 m3 mz0 mz1 mz2 mz3; have m0 := om0; have m1 := om1; have m2 := om2; have m3 := om3; have mz0 := omz0; have mz1 := omz1; have mz2 := omz2; have mz3 := omz3; have mt := ot; clear om0 om1 om2 om3 omz0 omz1 omz2 omz3 ot) | (have q2 := Ext.new4 hb; obtain ⟨m0, m1, m2, m3, mz0, mz1, mz2, mz3, mt⟩ := q2; try simp only [World.size_alloc, World.size_drew, Nat.add_assoc, Nat.reduceAdd] at m0 m1 m2 m3 mz0 mz1 mz2 mz3 mt) | (have q2 := Ext.new4d hb; obtain ⟨m0, m1, m2, m3, mz0, mz1, mz2, mz3, mt⟩ := q2; try simp only [World.size_alloc, World.size_drew, Nat.add_assoc, Nat.reduceAdd] at m0 m1 m2 m3 mz0 mz1 mz2 mz3 mt) | skip); have ns : w.heap.size < w1.heap.size := hb.lt (by first | with_reducible assumption | omega | (simp; done) | (simp; omega)); have n0 : w1.cell? ⟨w.heap.size, 0, none⟩ = some (.int .i64 e) := (hb.cells _ _ (by first | with_reducible assumption | omega | (simp; done) | (simp; omega))).trans (by first | with_reducible assumption | (simp; done) | (simp; with_reducible assumption) | (rw [cell_alloc_before _ _ _ _ (by omega)]; with_reducible assumption) | (simp [go_sem, *]; done)); have n1 : w1.cell? ⟨w.heap.size, 1, none⟩ = some (.int .i64 f) := (hb.cells _ _ (by first | with_reducible assumption | omega | (simp; done) | (simp; omega))).trans (by first | with_reducible assumption | (simp; done) | (simp; with_reducible assumption) | (rw [cell_alloc_before _ _ _ _ (by omega)]; with_reducible assumption) | (simp [go_sem, *]; done)); (first | (have nx := Ext.trans hx hb; clear hx) | (have nx := Ext.trans (hx.alloc _) hb; clear hx) | (have nx := Ext.trans hx.drew hb; clear hx) | have nx := hb); clear hb; try clear hs; try clear g0; try clear g1; have hx := nx; clear nx; have hs := ns; clear ns; have g0 := n0; clear n0; have g1 := n1; clear n1) | (go_at_call 146; refine (HSP.out _).mono ?_; rintro rv w1 ⟨rfl, hb⟩; (first | ((first | (have om0 := (hb.cells _ _ mt).trans m0) | (have om0 := (hb.cells _ _ (lt_alloc mt)).trans ((cell_alloc_before _ _ _ _ mt).trans m0))); (first | (have om1 := (hb.cells _ _ mt).trans m1) | (have om1 := (hb.cells _ _ (lt_alloc mt)).trans ((cell_alloc_before _ _ _ _ mt).trans m1))); (first | (have om2 := (hb.cells _ _ mt).trans m2) | (have om2 := (hb.cells _ _ (lt_alloc mt)).trans ((cell_alloc_before _ _ _ _ mt).trans m2))); (first | (have om3 := (hb.cells _ _ mt).trans m3) | (have om3 := (hb.cells _ _ (lt_alloc mt)).trans ((cell_alloc_before _ _ _ _ mt).trans m3))); (first | (have omz0 := (hb.frz _ _ mt).trans mz0) | (have omz0 := (hb.frz _ _ (lt_alloc mt)).trans ((frz_alloc_before _ _ _ _ mt).trans mz0))); (first | (have omz1 := (hb.frz _ _ mt).trans mz1) | (have omz1 := (hb.frz _ _ (lt_alloc mt)).trans ((frz_alloc_before _ _ _ _ mt).trans mz1))); (first | (have omz2 := (hb.frz _ _ mt).trans mz2) | (have omz2 := (hb.frz _ _ (lt_alloc mt)).trans ((frz_alloc_before _ _ _ _ mt).trans mz2))); (first | (have omz3 := (hb.frz _ _ mt).trans mz3) | (have omz3 := (hb.frz _ _ (lt_alloc mt)).trans ((frz_alloc_before _ _ _ _ mt).trans mz3))); (first | (have ot := hb.lt mt) | (have ot := hb.lt (lt_alloc mt))); clear m0 m1 m2 m3 mz0 mz1 mz2 mz3; have m0 := om0; have m1 := om1; have m2 := om2; have m3 := om3; have mz0 := omz0; have mz1 := omz1; have mz2 := omz2; have mz3 := omz3; have mt := ot; clear om0 om1 om2 om3 omz0 omz1 omz2 omz3 ot) | (have q2 := Ext.new4 hb; obtain ⟨m0, m1, m2, m3, mz0, mz1, mz2, mz3, mt⟩ := q2; try simp only [World.size_alloc, World.size_drew, Nat.add_assoc, Nat.reduceAdd] at m0 m1 m2 m3 mz0 mz1 mz2 mz3 mt) | (have q2 := Ext.new4d hb; obtain ⟨m0, m1, m2, m3, mz0, mz1, mz2, mz3, mt⟩ := q2; try simp only [World.size_alloc, World.size_drew, Nat.add_assoc, Nat.reduceAdd] at m0 m1 m2 m3 mz0 mz1 mz2 mz3 mt) | skip); have ns : w.heap.size < w1.heap.size := hb.lt (by first | with_reducible assumption | omega | (simp; done) | (simp; omega)); have n0 : w1.cell? ⟨w.heap.size, 0, none⟩ = some (.int .i64 e) := (hb.cells _ _ (by first | with_reducible assumption | omega | (simp; done) | (simp; omega))).trans (by first | with_reducible assumption | (simp; done) | (simp; with_reducible assumption) | (rw [cell_alloc_before _ _ _ _ (by omega)]; with_reducible assumption) | (simp [go_sem, *]; done)); have n1 : w1.cell? ⟨w.heap.size, 1, none⟩ = some (.int .i64 f) := (hb.cells _ _ (by first | with_reducible assumption | omega | (simp; done) | (simp; omega))).trans (by first | with_reducible assumption | (simp; done) | (simp; with_reducible assumption) | (rw [cell_alloc_before _ _ _ _ (by omega)]; with_reducible assumption) | (simp [go_sem, *]; done)); (first | (have nx := Ext.trans hx hb; clear hx) | (have nx := Ext.trans (hx.alloc _) hb; clear hx) | (have nx := Ext.trans hx.drew hb; clear hx) | have nx := hb); clear hb; try clear hs; try clear g0; try clear g1; have hx := nx; clear nx; have hs := ns; clear ns; have g0 := n0; clear n0; have g1 := n1; clear n1) | (go_at_call 174; refine (HRD.out _).mono ?_; rintro rv w1 ⟨rfl, hb⟩; (first | ((first | (have om0 := (hb.cells _ _ mt).trans m0) | (have om0 := (hb.cells _ _ (lt_alloc mt)).trans ((cell_alloc_before _ _ _ _ mt).trans m0))); (first | (have om1 := (hb.cells _ _ mt).trans m1) | (have om1 := (hb.cells _ _ (lt_alloc mt)).trans ((cell_alloc_before _ _ _ _ mt).trans m1))); (first | (have om2 := (hb.cells _ _ mt).trans m2) | (have om2 := (hb.cells _ _ (lt_alloc mt)).trans ((cell_alloc_before _ _ _ _ mt).trans m2))); (first | (have om3 := (hb.cells _ _ mt).trans m3) | (have om3 := (hb.cells _ _ (lt_alloc mt)).trans ((cell_alloc_before _ _ _ _ mt).trans m3))); (first | (have omz0 := (hb.frz _ _ mt).trans mz0) | (have omz0 := (hb.frz _ _ (lt_alloc mt)).trans ((frz_alloc_before _ _ _ _ mt).trans mz0))); (first | (have omz1 := (hb.frz _ _ mt).trans mz1) | (have omz1 := (hb.frz _ _ (lt_alloc mt)).trans ((frz_alloc_before _ _ _ _ mt).trans mz1))); (first | (have omz2 := (hb.frz _ _ mt).trans mz2) | (have omz2 := (hb.frz _ _ (lt_alloc mt)).trans ((frz_alloc_before _ _ _ _ mt).trans mz2))); (first | (have omz3 := (hb.frz _ _ mt).trans mz3) | (have omz3 := (hb.frz _ _ (lt_alloc mt)).trans ((frz_alloc_before _ _ _ _ mt).trans mz3))); (first | (have ot := hb.lt mt) | (have ot := hb.lt (lt_alloc mt))); clear m0 m1 m2 m3 mz0 mz1 mz2 mz3; have m0 := om0; have m1 := om1; have m2 := om2; have m3 := om3; have mz0 := omz0; have mz1 := omz1; have mz2 := omz2; have mz3 := omz3; have mt := ot; clear om0 om1 om2 om3 omz0 omz1 omz2 omz3 ot) | (have q2 := Ext.new4 hb; obtain ⟨m0, m1, m2, m3, mz0, mz1, mz2, mz3, mt⟩ := q2; try simp only [World.size_alloc, World.size_drew, Nat.add_assoc, Nat.reduceAdd] at m0 m1 m2 m3 mz0 mz1 mz2 mz3 mt) | (have q2 := Ext.new4d hb; obtain ⟨m0, m1, m2, m3, mz0, mz1, mz2, mz3, mt⟩ := q2; try simp only [World.size_alloc, World.size_drew, Nat.add_assoc, Nat.reduceAdd] at m0 m1 m2 m3 mz0 mz1 mz2 mz3 mt) | skip); have ns : w.heap.size < w1.heap.size := hb.lt (by first | with_reducible assumption | omega | (simp; done) | (simp; omega)); have n0 : w1.cell? ⟨w.heap.size, 0, none⟩ = some (.int .i64 e) := (hb.cells _ _ (by first | with_reducible assumption | omega | (simp; done) | (simp; omega))).trans (by first | with_reducible assumption | (simp; done) | (simp; with_reducible assumption) | (rw [cell_alloc_before _ _ _ _ (by omega)]; with_reducible assumption) | (simp [go_sem, *]; done)); have n1 : w1.cell? ⟨w.heap.size, 1, none⟩ = some (.int .i64 f) := (hb.cells _ _ (by first | with_reducible assumption | omega | (simp; done) | (simp; omega))).trans (by first | with_reducible assumption | (simp; done) | (simp; with_reducible assumption) | (rw [cell_alloc_before _ _ _ _ (by omega)]; with_reducible assumption) | (simp [go_sem, *]; done)); (first | (have nx := Ext.trans hx hb; clear hx) | (have nx := Ext.trans (hx.alloc _) hb; clear hx) | (have nx := Ext.trans hx.drew hb; clear hx) | have nx := hb); clear hb; try clear hs; try clear g0; try clear g1; have hx := nx; clear nx; have hs := ns; clear ns; have g0 := n0; clear n0; have g1 := n1; clear n1) | (go_at_call 115; refine (HSH.out _).mono ?_; rintro rv w1 ⟨rfl, hb⟩; (first | ((first | (have om0 := (hb.cells _ _ mt).trans m0) | (have om0 := (hb.cells _ _ (lt_alloc mt)).trans ((cell_alloc_before _ _ _ _ mt).trans m0))); (first | (have om1 := (hb.cells _ _ mt).trans m1) | (have om1 := (hb.cells _ _ (lt_alloc mt)).trans ((cell_alloc_before _ _ _ _ mt).trans m1))); (first | (have om2 := (hb.cells _ _ mt).trans m2) | (have om2 := (hb.cells _ _ (lt_alloc mt)).trans ((cell_alloc_before _ _ _ _ mt).trans m2))); (first | (have om3 := (hb.cells _ _ mt).trans m3) | (have om3 := (hb.cells _ _ (lt_alloc mt)).trans ((cell_alloc_before _ _ _ _ mt).trans m3))); (first | (have omz0 := (hb.frz _ _ mt).trans mz0) | (have omz0 := (hb.frz _ _ (lt_alloc mt)).trans ((frz_alloc_before _ _ _ _ mt).trans mz0))); (first | (have omz1 := (hb.frz _ _ mt).trans mz1) | (have omz1 := (hb.frz _ _ (lt_alloc mt)).trans ((frz_alloc_before _ _ _ _ mt).trans mz1))); (first | (have omz2 := (hb.frz _ _ mt).trans mz2) | (have omz2 := (hb.frz _ _ (lt_alloc mt)).trans ((frz_alloc_before _ _ _ _ mt).trans mz2))); (first | (have omz3 := (hb.frz _ _ mt).trans mz3) | (have omz3 := (hb.frz _ _ (lt_alloc mt)).trans ((frz_alloc_before _ _ _ _ mt).trans mz3))); (first | (have ot := hb.lt mt) | (have ot := hb.lt (lt_alloc mt))); clear m0 m1 m2 m3 mz0 mz1 mz2 mz3; have m0 := om0; have m1 := om1; have m2 := om2; have m3 := om3; have mz0 := omz0; have mz1 := omz1; have mz2 := omz2; have mz3 := omz3; have mt := ot; clear om0 om1 om2 om3 omz0 omz1 omz2 omz3 ot) | (have q2 := Ext.new4 hb; obtain ⟨m0, m1, m2, m3, mz0, mz1, mz2, mz3, mt⟩ := q2; try simp only [World.size_alloc, World.size_drew, Nat.add_assoc, Nat.reduceAdd] at m0 m1 m2 m3 mz0 mz1 mz2 mz3 mt) | (have q2 := Ext.new4d hb; obtain ⟨m0, m1, m2, m3, mz0, mz1, mz2, mz3, mt⟩ := q2; try simp only [World.size_alloc, World.size_drew, Nat.add_assoc, Nat.reduceAdd] at m0 m1 m2 m3 mz0 mz1 mz2 mz3 mt) | skip); have ns : w.heap.size < w1.heap.size := hb.lt (by first | with_reducible assumption | omega | (simp; done) | (simp; omega)); have n0 : w1.cell? ⟨w.heap.size, 0, none⟩ = some (.int .i64 e) := (hb.cells _ _ (by first | with_reducible assumption | omega | (simp; done) | (simp; omega))).trans (by first | with_reducible assumption | (simp; done) | (simp; with_reducible assumption) | (rw [cell_alloc_before _ _ _ _ (by omega)]; with_reducible assumption) | (simp [go_sem, *]; done)); have n1 : w1.cell? ⟨w.heap.size, 1, none⟩ = some (.int .i64 f) := (hb.cells _ _ (by first | with_reducible assumption | omega | (simp; done) | (simp; omega))).trans (by first | with_reducible assumption | (simp; done) | (simp; with_reducible assumption) | (rw [cell_alloc_before _ _ _ _ (by omega)]; with_reducible assumption) | (simp [go_sem, *]; done)); (first | (have nx := Ext.trans hx hb; clear hx) | (have nx := Ext.trans (hx.alloc _) hb; clear hx) | (have nx := Ext.trans hx.drew hb; clear hx) | have nx := hb); clear hb; try clear hs; try clear g0; try clear g1; have hx := nx; clear nx; have hs := ns; clear ns; have g0 := n0; clear n0; have g1 := n1; clear n1)))
    all_goals (go_wp2_with fail; go_meet; exact ⟨_, rfl, (by first | with_reducible assumption | (simp [go_sem, *]; done) | (simp [go_sem]; omega) | ((repeat first | rw [cell_set_far _ _ _ _ _ _ (by omega)] | rw [cell_alloc_before _ _ _ _ (by omega)] | rw [cell_alloc_drew _ _ _ _ (by omega)] | rw [cell_drew]); with_reducible assumption)), (by first | with_reducible assumption | (simp [go_sem, *]; done) | (simp [go_sem]; omega) | ((repeat first | rw [cell_set_far _ _ _ _ _ _ (by omega)] | rw [cell_alloc_before _ _ _ _ (by omega)] | rw [cell_alloc_drew _ _ _ _ (by omega)] | rw [cell_drew]); with_reducible assumption)), (by first | with_reducible assumption | (simp [go_sem, *]; done) | (simp [go_sem]; omega) | ((repeat first | rw [cell_set_far _ _ _ _ _ _ (by omega)] | rw [cell_alloc_before _ _ _ _ (by omega)] | rw [cell_alloc_drew _ _ _ _ (by omega)] | rw [cell_drew]); with_reducible assumption)), (by first | with_reducible assumption | (simp [go_sem, *]; done) | (simp [go_sem]; omega) | ((repeat first | rw [cell_set_far _ _ _ _ _ _ (by omega)] | rw [cell_alloc_before _ _ _ _ (by omega)] | rw [cell_alloc_drew _ _ _ _ (by omega)] | rw [cell_drew]); with_reducible assumption)), (by first | with_reducible assumption | (simp [go_sem, *]; done) | (simp [go_sem]; omega) | ((repeat first | rw [cell_set_far _ _ _ _ _ _ (by omega)] | rw [cell_alloc_before _ _ _ _ (by omega)] | rw [cell_alloc_drew _ _ _ _ (by omega)] | rw [cell_drew]); with_reducible assumption)), (by first | with_reducible assumption | (simp [go_sem, *]; done) | (simp [go_sem]; omega) | ((repeat first | rw [cell_set_far _ _ _ _ _ _ (by omega)] | rw [cell_alloc_before _ _ _ _ (by omega)] | rw [cell_alloc_drew _ _ _ _ (by omega)] | rw [cell_drew]); with_reducible assumption)), (by first | (simp [World.setCell]; done) | (simp [World.setCell]; omega) | omega), (by first | (simp [World.setCell]; done) | (simp [World.setCell]; omega) | omega), (by repeat (first | exact Ext.refl _ | with_reducible assumption | apply Ext.alloc | apply Ext.drew | apply Ext.drewN | (refine Ext.setRow ?_ (by first | (simp; done) | (simp; omega) | omega) _) | (refine Ext.setCell ?_ (by first | (simp; done) | (simp; omega) | omega) _) | (refine Ext.trans ?_ (by with_reducible assumption))))⟩)
  case rest =>
    obtain ⟨g, rfl, l0, l1, l2, l3, g0', g1', hs1, hg2, hx⟩ := hcut
    have hs : max w.heap.size g < wc.heap.size := by omega
    go_wp2_with (first | (go_at_call 175; refine (inf_one _).mono ?_; rintro rv w1 ⟨rfl, hb⟩; have ns : max w.heap.size g < w1.heap.size := hb.lt (by first | with_reducible assumption | omega | (simp; done) | (simp; omega)); have n0 : w1.cell? ⟨w.heap.size, 0, none⟩ = some (.int .i64 e) := (hb.cells _ _ (by first | with_reducible assumption | omega | (simp; done) | (simp; omega))).trans (by first | with_reducible assumption | (simp; done) | (simp; with_reducible assumption) | (rw [cell_alloc_before _ _ _ _ (by omega)]; with_reducible assumption) | (simp [go_sem, *]; done)); have n1 : w1.cell? ⟨w.heap.size, 1, none⟩ = some (.int .i64 f) := (hb.cells _ _ (by first | with_reducible assumption | omega | (simp; done) | (simp; omega))).trans (by first | with_reducible assumption | (simp; done) | (simp; with_reducible assumption) | (rw [cell_alloc_before _ _ _ _ (by omega)]; with_reducible assumption) | (simp [go_sem, *]; done)); have n2 : w1.cell? ⟨g, 0, none⟩ = some (.int .i64 0) := (hb.cells _ _ (by first | with_reducible assumption | omega | (simp; done) | (simp; omega))).trans (by first | with_reducible assumption | (simp; done) | (simp; with_reducible assumption) | (rw [cell_alloc_before _ _ _ _ (by omega)]; with_reducible assumption) | (simp [go_sem, *]; done)); have n3 : w1.cell? ⟨g, 1, none⟩ = some (.int .i64 (s / pw f)) := (hb.cells _ _ (by first | with_reducible assumption | omega | (simp; done) | (simp; omega))).trans (by first | with_reducible assumption | (simp; done) | (simp; with_reducible assumption) | (rw [cell_alloc_before _ _ _ _ (by omega)]; with_reducible assumption) | (simp [go_sem, *]; done)); have n4 : w1.cell? ⟨g, 2, none⟩ = some (.int .i64 (s % pw f)) := (hb.cells _ _ (by first | with_reducible assumption | omega | (simp; done) | (simp; omega))).trans (by first | with_reducible assumption | (simp; done) | (simp; with_reducible assumption) | (rw [cell_alloc_before _ _ _ _ (by omega)]; with_reducible assumption) | (simp [go_sem, *]; done)); have n5 : w1.cell? ⟨g, 3, none⟩ = some (.int .i64 (pw e - 1)) := (hb.cells _ _ (by first | with_reducible assumption | omega | (simp; done) | (simp; omega))).trans (by first | with_reducible assumption | (simp; done) | (simp; with_reducible assumption) | (rw [cell_alloc_before _ _ _ _ (by omega)]; with_reducible assumption) | (simp [go_sem, *]; done)); (first | (have nx := Ext.trans hx hb; clear hx) | (have nx := Ext.trans (hx.alloc _) hb; clear hx) | (have nx := Ext.trans hx.drew hb; clear hx) | have nx := hb); clear hb; try clear hs; try clear g0; try clear g1; try clear g2; try clear g3; try clear g4; try clear g5; have hx := nx; clear nx; have hs := ns; clear ns; have g0 := n0; clear n0; have g1 := n1; clear n1; have g2 := n2; clear n2; have g3 := n3; clear n3; have g4 := n4; clear n4; have g5 := n5; clear n5) | (go_at_call 128; refine (HFI.out _).mono ?_; rintro rv w1 ⟨rfl, hb⟩; have ns : max w.heap.size g < w1.heap.size := hb.lt (by first | with_reducible assumption | omega | (simp; done) | (simp; omega)); have n0 : w1.cell? ⟨w.heap.size, 0, none⟩ = some (.int .i64 e) := (hb.cells _ _ (by first | with_reducible assumption | omega | (simp; done) | (simp; omega))).trans (by first | with_reducible assumption | (simp; done) | (simp; with_reducible assumption) | (rw [cell_alloc_before _ _ _ _ (by omega)]; with_reducible assumption) | (simp [go_sem, *]; done)); have n1 : w1.cell? ⟨w.heap.size, 1, none⟩ = some (.int .i64 f) := (hb.cells _ _ (by first | with_reducible assumption | omega | (simp; done) | (simp; omega))).trans (by first | with_reducible assumption | (simp; done) | (simp; with_reducible assumption) | (rw [cell_alloc_before _ _ _ _ (by omega)]; with_reducible assumption) | (simp [go_sem, *]; done)); have n2 : w1.cell? ⟨g, 0, none⟩ = some (.int .i64 0) := (hb.cells _ _ (by first | with_reducible assumption | omega | (simp; done) | (simp; omega))).trans (by first | with_reducible assumption | (simp; done) | (simp; with_reducible assumption) | (rw [cell_alloc_before _ _ _ _ (by omega)]; with_reducible assumption) | (simp [go_sem, *]; done)); have n3 : w1.cell? ⟨g, 1, none⟩ = some (.int .i64 (s / pw f)) := (hb.cells _ _ (by first | with_reducible assumption | omega | (simp; done) | (simp; omega))).trans (by first | with_reducible assumption | (simp; done) | (simp; with_reducible assumption) | (rw [cell_alloc_before _ _ _ _ (by omega)]; with_reducible assumption) | (simp [go_sem, *]; done)); have n4 : w1.cell? ⟨g, 2, none⟩ = some (.int .i64 (s % pw f)) := (hb.cells _ _ (by first | with_reducible assumption | omega | (simp; done) | (simp; omega))).trans (by first | with_reducible assumption | (simp; done) | (simp; with_reducible assumption) | (rw [cell_alloc_before _ _ _ _ (by omega)]; with_reducible assumption) | (simp [go_sem, *]; done)); have n5 : w1.cell? ⟨g, 3, none⟩ = some (.int .i64 (pw e - 1)) := (hb.cells _ _ (by first | with_reducible assumption | omega | (simp; done) | (simp; omega))).trans (by first | with_reducible assumption | (simp; done) | (simp; with_reducible assumption) | (rw [cell_alloc_before _ _ _ _ (by omega)]; with_reducible assumption) | (simp [go_sem, *]; done)); (first | (have nx := Ext.trans hx hb; clear hx) | (have nx := Ext.trans (hx.alloc _) hb; clear hx) | (have nx := Ext.trans hx.drew hb; clear hx) | have nx := hb); clear hb; try clear hs; try clear g0; try clear g1; try clear g2; try clear g3; try clear g4; try clear g5; have hx := nx; clear nx; have hs := ns; clear ns; have g0 := n0; clear n0; have g1 := n1; clear n1; have g2 := n2; clear n2; have g3 := n3; clear n3; have g4 := n4; clear n4; have g5 := n5; clear n5) | (go_at_call 130; refine (HFO.out _).mono ?_; rintro rv w1 ⟨rfl, hb⟩; have ns : max w.heap.size g < w1.heap.size := hb.lt (by first | with_reducible assumption | omega | (simp; done) | (simp; omega)); have n0 : w1.cell? ⟨w.heap.size, 0, none⟩ = some (.int .i64 e) := (hb.cells _ _ (by first | with_reducible assumption | omega | (simp; done) | (simp; omega))).trans (by first | with_reducible assumption | (simp; done) | (simp; with_reducible assumption) | (rw [cell_alloc_before _ _ _ _ (by omega)]; with_reducible assumption) | (simp [go_sem, *]; done)); have n1 : w1.cell? ⟨w.heap.size, 1, none⟩ = some (.int .i64 f) := (hb.cells _ _ (by first | with_reducible assumption | omega | (simp; done) | (simp; omega))).trans (by first | with_reducible assumption | (simp; done) | (simp; with_reducible assumption) | (rw [cell_alloc_before _ _ _ _ (by omega)]; with_reducible assumption) | (simp [go_sem, *]; done)); have n2 : w1.cell? ⟨g, 0, none⟩ = some (.int .i64 0) := (hb.cells _ _ (by first | with_reducible assumption | omega | (simp; done) | (simp; omega))).trans (by first | with_reducible assumption | (simp; done) | (simp; with_reducible assumption) | (rw [cell_alloc_before _ _ _ _ (by omega)]; with_reducible assumption) | (simp [go_sem, *]; done)); have n3 : w1.cell? ⟨g, 1, none⟩ = some (.int .i64 (s / pw f)) := (hb.cells _ _ (by first | with_reducible assumption | omega | (simp; done) | (simp; omega))).trans (by first | with_reducible assumption | (simp; done) | (simp; with_reducible assumption) | (rw [cell_alloc_before _ _ _ _ (by omega)]; with_reducible assumption) | (simp [go_sem, *]; done)); have n4 : w1.cell? ⟨g, 2, none⟩ = some (.int .i64 (s % pw f)) := (hb.cells _ _ (by first | with_reducible assumption | omega | (simp; done) | (simp; omega))).trans (by first | with_reducible assumption | (simp; done) | (simp; with_reducible assumption) | (rw [cell_alloc_before _ _ _ _ (by omega)]; with_reducible assumption) | (simp [go_sem, *]; done)); have n5 : w1.cell? ⟨g, 3, none⟩ = some (.int .i64 (pw e - 1)) := (hb.cells _ _ (by first | with_reducible assumption | omega | (simp; done) | (simp; omega))).trans (by first | with_reducible assumption | (simp; done) | (simp; with_reducible assumption) | (rw [cell_alloc_before _ _ _ _ (by omega)]; with_reducible assumption) | (simp [go_sem, *]; done)); (first | (have nx := Ext.trans hx hb; clear hx) | (have nx := Ext.trans (hx.alloc _) hb; clear hx) | (have nx := Ext.trans hx.drew hb; clear hx) | have nx := hb); clear hb; try clear hs; try clear g0; try clear g1; try clear g2; try clear g3; try clear g4; try clear g5; have hx := nx; clear nx; have hs := ns; clear ns; have g0 := n0; clear n0; have g1 := n1; clear n1; have g2 := n2; clear n2; have g3 := n3; clear n3; have g4 := n4; clear n4; have g5 := n5; clear n5) | (go_at_call 176; refine (HCS.out _).mono ?_; rintro rv w1 ⟨rfl, rfl⟩))
    go_ret
    exact ⟨rfl, (by repeat (first | exact Ext.refl _ | with_reducible assumption | apply Ext.alloc | apply Ext.drew | apply Ext.drewN | (refine Ext.setRow ?_ (by first | (simp; done) | (simp; omega) | omega) _) | (refine Ext.setCell ?_ (by first | (simp; done) | (simp; omega) | omega) _) | (refine Ext.trans ?_ (by with_reducible assumption))))⟩

set_option maxHeartbeats 3200000 in
theorem nearest_inf (e f p s : Int) (t : Bool) (Y r st : Nat) (hg : goodB e f = true) (okY : Ok Ieee.single Y) (s0 : 0 ≤ s) (s1 : grV e f < s) (s2 : s ≤ grV e f + 1)
    (HSP : RowKit.Hid (∀ w, Calls Try.prog 146 #[fmt e f, .float .f32 (fw Ieee.single Y)] w fun rv w' => rv = .returned (.agg #[.int .i64 p, .float .f32 r, .float .f32 st]) ∧ Ext w w')) (HRD : RowKit.Hid (∀ w, Calls Try.prog 174 #[.agg #[.int .i64 p, .float .f32 r, .float .f32 st], .int .i64 0, .bool false] w fun rv w' => rv = .returned (.int .i64 s) ∧ Ext w w')) (w : World) :
    Calls Try.prog 108 #[fmt e f, .float .f32 (sw Ieee.single t Y)] w fun rv w' => rv = .returned (.float .f32 (Ieee.single.word t Ieee.single.infRung)) ∧ Ext w w' := by
  obtain ⟨p1, p2, p3, p4⟩ := s_parts hg s0 (by omega)
  obtain ⟨wy, okW⟩ := wide_sw t okY
  have sl := wide_inf t
  have lY := sw_lt okW
  have e64 : Ieee.double.signWeight = 9223372036854775808 := by decide
  have ei : Ieee.double.infRung = 9218868437227405312 := by decide
  rw [e64] at lY
  have hna := fun w => isNaN_sw _ (order_self t okW) w
  have hsz := fun w => sizeOf_sw t Y okY w
  have hsh : ∀ w, Calls Try.prog 115 #[fmt e f, .int .i64 s] w fun rv w' => rv = .returned (.agg #[.int .i64 0, .int .i64 (s / pw f), .int .i64 (s % pw f), .int .i64 (pw e - 1)]) ∧ Ext w w' := by
    intro w
    have := shapeOf_any e f s hg s0 p1 w
    rw [p2, p3] at this
    exact this
  have hfi : ∀ w, Calls Try.prog 128 #[.agg #[.int .i64 0, .int .i64 (s / pw f), .int .i64 (s % pw f), .int .i64 (pw e - 1)]] w fun rv w' => rv = .returned (.bool false) ∧ Ext w w' := by
    intro w
    have := shFinite_any 0 (s / pw f) (s % pw f) (pw e - 1) w
    rw [decide_eq_false (fun h => by have := p4.1 h; omega)] at this
    exact this
  have hcs := fun w => copysign_any t 9218868437227405312 _ (by decide) lY w
  rw [ei] at sl
  have cv1 : ∀ w, (convert 111 112 (.float .f32 (sw Ieee.single t Y))).run Try.prog w = .ok (.float .f64 (sw Ieee.double t (up64 Y))) w := fun w =>
    run_convert_float_float w _ _ .f32 .f64 _ _ (by kernel_rfl) Try.underlying112 wy
  have cv3 : ∀ w, (convert 112 111 (.float .f64 (Ieee.double.word t 9218868437227405312))).run Try.prog w = .ok (.float .f32 (Ieee.single.word t Ieee.single.infRung)) w := fun w =>
    run_convert_float_float w _ _ .f64 .f32 _ _ (by kernel_rfl) Try.underlying111 sl
  simp only [sw_def] at hcs
  clear okY okW wy sl lY e64 ei
  generalize Ieee.double.word t 9218868437227405312 = x1 at *
  generalize sw Ieee.double t (up64 Y) = x2 at *
  generalize sw Ieee.single t Y = x4 at *
  generalize Ieee.single.word t Ieee.single.infRung = x5 at *
  generalize fw Ieee.single Y = x7 at *
  have HNA := Lib.hid hna; clear hna
  have HSZ := Lib.hid hsz; clear hsz
  have HSH := Lib.hid hsh; clear hsh
  have HFI := Lib.hid hfi; clear hfi
  have HCS := Lib.hid hcs; clear hcs
  clear p1 p2 p3 p4
  go_enter Try.func108, Try.ntmps108
  go_wp2_with (go_at_call 166; refine (HNA.out _).mono ?_; rintro rv w1 ⟨rfl, rfl⟩)
  go_cut [5] (fun s5 wx => ∃ g : Nat, s5 = .pointer (some ⟨g, 0, none⟩) ∧ wx.cell? ⟨g, 0, none⟩ = some (.int .i64 0) ∧ wx.cell? ⟨g, 1, none⟩ = some (.int .i64 (s / pw f)) ∧ wx.cell? ⟨g, 2, none⟩ = some (.int .i64 (s % pw f)) ∧ wx.cell? ⟨g, 3, none⟩ = some (.int .i64 (pw e - 1)) ∧ wx.cell? ⟨w.heap.size, 0, none⟩ = some (.int .i64 e) ∧ wx.cell? ⟨w.heap.size, 1, none⟩ = some (.int .i64 f) ∧ w.heap.size < wx.heap.size ∧ g < wx.heap.size ∧ Ext w wx)
  case first =>
    go_region_held3 (fun w' => w'.cell? ⟨w.heap.size, 0, none⟩ = some (.int .i64 e) ∧ w'.cell? ⟨w.heap.size, 1, none⟩ = some (.int .i64 f) ∧ w.heap.size < w'.heap.size) ((refine ⟨?_, ?_, ?_⟩ <;> first | with_reducible assumption | ((repeat first | rw [cell_set_far _ _ _ _ _ _ (by omega)] | rw [cell_alloc_before _ _ _ _ (by omega)] | rw [cell_alloc_drew _ _ _ _ (by omega)] | rw [cell_drew]); with_reducible assumption) | ((rw [cell_setRow_far _ _ _ _ _ (by omega)]); with_reducible assumption) | ((rw [setRow_size]); with_reducible assumption) | (simp; done) | (simp [World.setCell]; first | done | omega) | (simp [go_sem, World.cell?_alloc_past, World.cell?_setCell_far, *]; done))) ((first | (go_at_call 169; refine (HSZ.out _).mono ?_; rintro rv w1 ⟨rfl, hb⟩; (first | ((first | (have om0 := (hb.cells _ _ mt).trans m0) | (have om0 := (hb.cells _ _ (lt_alloc mt)).trans ((cell_alloc_before _ _ _ _ mt).trans m0))); (first | (have om1 := (hb.cells _ _ mt).trans m1) | (have om1 := (hb.cells _ _ (lt_alloc mt)).trans ((cell_alloc_before _ _ _ _ mt).trans m1))); (first | (have om2 := (hb.cells _ _ mt).trans m2) | (have om2 := (hb.cells _ _ (lt_alloc mt)).trans ((cell_alloc_before _ _ _ _ mt).trans m2))); (first | (have om3 := (hb.cells _ _ mt).trans m3) | (have om3 := (hb.cells _ _ (lt_alloc mt)).trans ((cell_alloc_before _ _ _ _ mt).trans m3))); (first | (have omz0 := (hb.frz _ _ mt).trans mz0) | (have omz0 := (hb.frz _ _ (lt_alloc mt)).trans ((frz_alloc_before _ _ _ _ mt).trans mz0))); (first | (have omz1 := (hb.frz _ _ mt).trans mz1) | (have omz1 := (hb.frz _ _ (lt_alloc mt)).trans ((frz_alloc_before _ _ _ _ mt).trans mz1))); (first | (have omz2 := (hb.frz _ _ mt).trans mz2) | (have omz2 := (hb.frz _ _ (lt_alloc mt)).trans ((frz_alloc_before _ _ _ _ mt).trans mz2))); (first | (have omz3 := (hb.frz _ _ mt).trans mz3) | (have omz3 := (hb.frz _ _ (lt_alloc mt)).trans ((frz_alloc_before _ _ _ _ mt).trans mz3))); (first | (have ot := hb.lt mt) | (have ot := hb.lt (lt_alloc mt))); clear m0 m1 m2 m3 mz0 mz1 mz2 mz3; have m0 := om0; have m1 := om1; have m2 := om2; have m3 := om3; have mz0 := omz0; have mz1 := omz1; have mz2 := omz2; have mz3 := omz3; have mt := ot; clear om0 om1 om2 om3 omz0 omz1 omz2 omz3 ot) | (have q2 := Ext.new4 hb; obtain ⟨m0, m1, m2, m3, mz0, mz1, mz2, mz3, mt⟩ := q2; try simp only [World.size_alloc, World.size_drew, Nat.add_assoc, Nat.reduceAdd] at m0 m1 m2 m3 mz0 mz1 mz2 mz3 mt) | (have q2 := Ext.new4d hb; obtain ⟨m0, m1, m2, m3, mz0, mz1, mz2, mz3, mt⟩ := q2; try simp only [World.size_alloc, World.size_drew, Nat.add_assoc, Nat.reduceAdd] at m0 m1 m2 m3 mz0 mz1 mz2 mz3 mt) | skip); have ns : w.heap.size < w1.heap.size := hb.lt (by first | with_reducible assumption | omega | (simp; done) | (simp; omega)); have n0 : w1.cell? ⟨w.heap.size, 0, none⟩ = some (.int .i64 e) := (hb.cells _ _ (by first | with_reducible assumption | omega | (simp; done) | (simp; omega))).trans (by first | with_reducible assumption | (simp; done) | (simp; with_reducible assumption) | (rw [cell_alloc_before _ _ _ _ (by omega)]; with_reducible assumption) | (simp [go_sem, *]; done)); have n1 : w1.cell? ⟨w.heap.size, 1, none⟩ = some (.int .i64 f) := (hb.cells _ _ (by first | with_reducible assumption | omega | (simp; done) | (simp; omega))).trans (by first | with_reducible assumption | (simp; done) | (simp; with_reducible assumption) | (rw [cell_alloc_before _ _ _ _ (by omega)]; with_reducible assumption) | (simp [go_sem, *]; done)); (first | (have nx := Ext.trans hx hb; clear hx) | (have nx := Ext.trans (hx.alloc _) hb; clear hx) | (have nx := Ext.trans hx.drew hb; clear hx) | have nx := hb); clear hb; try clear hs; try clear g0; try clear g1; have hx := nx; clear nx; have hs := ns; clear ns; have g0 := n0; clear n0; have g1 := n1; clear n1) | (go_at_call 146; refine (HSP.out _).mono ?_; rintro rv w1 ⟨rfl, hb⟩; (first | ((first | (have om0 := (hb.cells _ _ mt).trans m0) | (have om0 := (hb.cells _ _ (lt_alloc mt)).trans ((cell_alloc_before _ _ _ _ mt).trans m0))); (first | (have om1 := (hb.cells _ _ mt).trans m1) | (have om1 := (hb.cells _ _ (lt_alloc mt)).trans ((cell_alloc_before _ _ _ _ mt).trans m1))); (first | (have om2 := (hb.cells _ _ mt).trans m2) | (have om2 := (hb.cells _ _ (lt_alloc mt)).trans ((cell_alloc_before _ _ _ _ mt).trans m2))); (first | (have om3 := (hb.cells _ _ mt).trans m3) | (have om3 := (hb.cells _ _ (lt_alloc mt)).trans ((cell_alloc_before _ _ _ _ mt).trans m3))); (first | (have omz0 := (hb.frz _ _ mt).trans mz0) | (have omz0 := (hb.frz _ _ (lt_alloc mt)).trans ((frz_alloc_before _ _ _ _ mt).trans mz0))); (first | (have omz1 := (hb.frz _ _ mt).trans mz1) | (have omz1 := (hb.frz _ _ (lt_alloc mt)).trans ((frz_alloc_before _ _ _ _ mt).trans mz1))); (first | (have omz2 := (hb.frz _ _ mt).trans mz2) | (have omz2 := (hb.frz _ _ (lt_alloc mt)).trans ((frz_alloc_before _ _ _ _ mt).trans mz2))); (first | (have omz3 := (hb.frz _ _ mt).trans mz3) | (have omz3 := (hb.frz _ _ (lt_alloc mt)).trans ((frz_alloc_before _ _ _ _ mt).trans mz3))); (first | (have ot := hb.lt mt) | (have ot := hb.lt (lt_alloc mt))); clear m0 m1 m2 m3 mz0 mz1 mz2 mz3; have m0 := om0; have m1 := om1; have m2 := om2; have m3 := om3; have mz0 := omz0; have mz1 := omz1; have mz2 := omz2; have mz3 := omz3; have mt := ot; clear om0 om1 om2 om3 omz0 omz1 omz2 omz3 ot) | (have q2 := Ext.new4 hb; obtain ⟨m0, m1, m2, m3, mz0, mz1, mz2, mz3, mt⟩ := q2; try simp only [World.size_alloc, World.size_drew, Nat.add_assoc, Nat.reduceAdd] at m0 m1 m2 m3 mz0 mz1 mz2 mz3 mt) | (have q2 := Ext.new4d hb; obtain ⟨m0, m1, m2, m3, mz0, mz1, mz2, mz3, mt⟩ := q2; try simp only [World.size_alloc, World.size_drew, Nat.add_assoc, Nat.reduceAdd] at m0 m1 m2 m3 mz0 mz1 mz2 mz3 mt) | skip); have ns : w.heap.size < w1.heap.size := hb.lt (by first | with_reducible assumption | omega | (simp; done) | (simp; omega)); have n0 : w1.cell? ⟨w.heap.size, 0, none⟩ = some (.int .i64 e) := (hb.cells _ _ (by first | with_reducible assumption | omega | (simp; done) | (simp; omega))).trans (by first | with_reducible assumption | (simp; done) | (simp; with_reducible assumption) | (rw [cell_alloc_before _ _ _ _ (by omega)]; with_reducible assumption) | (simp [go_sem, *]; done)); have n1 : w1.cell? ⟨w.heap.size, 1, none⟩ = some (.int .i64 f) := (hb.cells _ _ (by first | with_reducible assumption | omega | (simp; done) | (simp; omega))).trans (by first | with_reducible assumption | (simp; done) | (simp; with_reducible assumption) | (rw [cell_alloc_before _ _ _ _ (by omega)]; with_reducible assumption) | (simp [go_sem, *]; done)); (first | (have nx := Ext.trans hx hb; clear hx) | (have nx := Ext.trans (hx.alloc _) hb; clear hx) | (have nx := Ext.trans hx.drew hb; clear hx) | have nx := hb); clear hb; try clear hs; try clear g0; try clear g1; have hx := nx; clear nx; have hs := ns; clear ns; have g0 := n0; clear n0; have g1 := n1; clear n1) | (go_at_call 174; refine (HRD.out _).mono ?_; rintro rv w1 ⟨rfl, hb⟩; (first | ((first | (have om0 := (hb.cells _ _ mt).trans m0) | (have om0 := (hb.cells _ _ (lt_alloc mt)).trans ((cell_alloc_before _ _ _ _ mt).trans m0))); (first | (have om1 := (hb.cells _ _ mt).trans m1) | (have om1 := (hb.cells _ _ (lt_alloc mt)).trans ((cell_alloc_before _ _ _ _ mt).trans m1))); (first | (have om2 := (hb.cells _ _ mt).trans m2) | (have om2 := (hb.cells _ _ (lt_alloc mt)).trans ((cell_alloc_before _ _ _ _ mt).trans m2))); (first | (have om3 := (hb.cells _ _ mt).trans m3) | (have om3 := (hb.cells _ _ (lt_alloc mt)).trans ((cell_alloc_before _ _ _ _ mt).trans m3))); (first | (have omz0 := (hb.frz _ _ mt).trans mz0) | (have omz0 := (hb.frz _ _ (lt_alloc mt)).trans ((frz_alloc_before _ _ _ _ mt).trans mz0))); (first | (have omz1 := (hb.frz _ _ mt).trans mz1) | (have omz1 := (hb.frz _ _ (lt_alloc mt)).trans ((frz_alloc_before _ _ _ _ mt).trans mz1))); (first | (have omz2 := (hb.frz _ _ mt).trans mz2) | (have omz2 := (hb.frz _ _ (lt_alloc mt)).trans ((frz_alloc_before _ _ _ _ mt).trans mz2))); (first | (have omz3 := (hb.frz _ _ mt).trans mz3) | (have omz3 := (hb.frz _ _ (lt_alloc mt)).trans ((frz_alloc_before _ _ _ _ mt).trans mz3))); (first | (have ot := hb.lt mt) | (have ot := hb.lt (lt_alloc mt))); clear m0 m1 m2 m3 mz0 mz1 mz2 mz3; have m0 := om0; have m1 := om1; have m2 := om2; have m3 := om3; have mz0 := omz0; have mz1 := omz1; have mz2 := omz2; have mz3 := omz3; have mt := ot; clear om0 om1 om2 om3 omz0 omz1 omz2 omz3 ot) | (have q2 := Ext.new4 hb; obtain ⟨m0, m1, m2, m3, mz0, mz1, mz2, mz3, mt⟩ := q2; try simp only [World.size_alloc, World.size_drew, Nat.add_assoc, Nat.reduceAdd] at m0 m1 m2 m3 mz0 mz1 mz2 mz3 mt) | (have q2 := Ext.new4d hb; obtain ⟨m0, m1, m2, m3, mz0, mz1, mz2, mz3, mt⟩ := q2; try simp only [World.size_alloc, World.size_drew, Nat.add_assoc, Nat.reduceAdd] at m0 m1 m2 m3 mz0 mz1 mz2 mz3 mt) | skip); have ns : w.heap.size < w1.heap.size := hb.lt (by first | with_reducible assumption | omega | (simp; done) | (simp; omega)); have n0 : w1.cell? ⟨w.heap.size, 0, none⟩ = some (.int .i64 e) := (hb.cells _ _ (by first | with_reducible assumption | omega | (simp; done) | (simp; omega))).trans (by first | with_reducible assumption | (simp; done) | (simp; with_reducible assumption) | (rw [cell_alloc_before _ _ _ _ (by omega)]; with_reducible assumption) | (simp [go_sem, *]; done)); have n1 : w1.cell? ⟨w.heap.size, 1, none⟩ = some (.int .i64 f) := (hb.cells _ _ (by first | with_reducible assumption | omega | (simp; done) | (simp; omega))).trans (by first | with_reducible assumption | (simp; done) | (simp; with_reducible assumption) | (rw [cell_alloc_before _ _ _ _ (by omega)]; with_reducible assumption) | (simp [go_sem, *]; done)); (first | (have nx := Ext.trans hx hb; clear hx) | (have nx := Ext.trans (hx.alloc _) hb; clear hx) | (have nx := Ext.trans hx.drew hb; clear hx) | have nx := hb); clear hb; try clear hs; try clear g0; try clear g1; have hx := nx; clear nx; have hs := ns; clear ns; have g0 := n0; clear n0; have g1 := n1; clear n1) | (go_at_call 115; refine (HSH.out _).mono ?_; rintro rv w1 ⟨rfl, hb⟩; (first | ((first | (have om0 := (hb.cells _ _ mt).trans m0) | (have om0 := (hb.cells _ _ (lt_alloc mt)).trans ((cell_alloc_before _ _ _ _ mt).trans m0))); (first | (have om1 := (hb.cells _ _ mt).trans m1) | (have om1 := (hb.cells _ _ (lt_alloc mt)).trans ((cell_alloc_before _ _ _ _ mt).trans m1))); (first | (have om2 := (hb.cells _ _ mt).trans m2) | (have om2 := (hb.cells _ _ (lt_alloc mt)).trans ((cell_alloc_before _ _ _ _ mt).trans m2))); (first | (have om3 := (hb.cells _ _ mt).trans m3) | (have om3 := (hb.cells _ _ (lt_alloc mt)).trans ((cell_alloc_before _ _ _ _ mt).trans m3))); (first | (have omz0 := (hb.frz _ _ mt).trans mz0) | (have omz0 := (hb.frz _ _ (lt_alloc mt)).trans ((frz_alloc_before _ _ _ _ mt).trans mz0))); (first | (have omz1 := (hb.frz _ _ mt).trans mz1) | (have omz1 := (hb.frz _ _ (lt_alloc mt)).trans ((frz_alloc_before _ _ _ _ mt).trans mz1))); (first | (have omz2 := (hb.frz _ _ mt).trans mz2) | (have omz2 := (hb.frz _ _ (lt_alloc mt)).trans ((frz_alloc_before _ _ _ _ mt).trans mz2))); (first | (have omz3 := (hb.frz _ _ mt).trans mz3) | (have omz3 := (hb.frz _ _ (lt_alloc mt)).trans ((frz_alloc_before _ _ _ _ mt).trans mz3))); (first | (have ot := hb.lt mt) | (have ot := hb.lt (lt_alloc mt))); clear m0 m1 m2 m3 mz0 mz1 mz2 mz3; have m0 := om0; have m1 := om1; have m2 := om2; have m3 := om3; have mz0 := omz0; have mz1 := omz1; have mz2 := omz2; have mz3 := omz3; have mt := ot; clear om0 om1 om2 om3 omz0 omz1 omz2 omz3 ot) | (have q2 := Ext.new4 hb; obtain ⟨m0, m1, m2, m3, mz0, mz1, mz2, mz3, mt⟩ := q2; try simp only [World.size_alloc, World.size_drew, Nat.add_assoc, Nat.reduceAdd] at m0 m1 m2 m3 mz0 mz1 mz2 mz3 mt) | (have q2 := Ext.new4d hb; obtain ⟨m0, m1, m2, m3, mz0, mz1, mz2, mz3, mt⟩ := q2; try simp only [World.size_alloc, World.size_drew, Nat.add_assoc, Nat.reduceAdd] at m0 m1 m2 m3 mz0 mz1 mz2 mz3 mt) | skip); have ns : w.heap.size < w1.heap.size := hb.lt (by first | with_reducible assumption | omega | (simp; done) | (simp; omega)); have n0 : w1.cell? ⟨w.heap.size, 0, none⟩ = some (.int .i64 e) := (hb.cells _ _ (by first | with_reducible assumption | omega | (simp; done) | (simp; omega))).trans (by first | with_reducible assumption | (simp; done) | (simp; with_reducible assumption) | (rw [cell_alloc_before _ _ _ _ (by omega)]; with_reducible assumption) | (simp [go_sem, *]; done)); have n1 : w1.cell? ⟨w.heap.size, 1, none⟩ = some (.int .i64 f) := (hb.cells _ _ (by first | with_reducible assumption | omega | (simp; done) | (simp; omega))).trans (by first | with_reducible assumption | (simp; done) | (simp; with_reducible assumption) | (rw [cell_alloc_before _ _ _ _ (by omega)]; with_reducible assumption) | (simp [go_sem, *]; done)); (first | (have nx := Ext.trans hx hb; clear hx) | (have nx := Ext.trans (hx.alloc _) hb; clear hx) | (have nx := Ext.trans hx.drew hb; clear hx) | have nx := hb); clear hb; try clear hs; try clear g0; try clear g1; have hx := nx; clear nx; have hs := ns; clear ns; have g0 := n0; clear n0; have g1 := n1; clear n1)))
    all_goals (go_wp2_with fail; go_meet; exact ⟨_, rfl, (by first | with_reducible assumption | (simp [go_sem, *]; done) | (simp [go_sem]; omega) | ((repeat first | rw [cell_set_far _ _ _ _ _ _ (by omega)] | rw [cell_alloc_before _ _ _ _ (by omega)] | rw [cell_alloc_drew _ _ _ _ (by omega)] | rw [cell_drew]); with_reducible assumption)), (by first | with_reducible assumption | (simp [go_sem, *]; done) | (simp [go_sem]; omega) | ((repeat first | rw [cell_set_far _ _ _ _ _ _ (by omega)] | rw [cell_alloc_before _ _ _ _ (by omega)] | rw [cell_alloc_drew _ _ _ _ (by omega)] | rw [cell_drew]); with_reducible assumption)), (by first | with_reducible assumption | (simp [go_sem, *]; done) | (simp [go_sem]; omega) | ((repeat first | rw [cell_set_far _ _ _ _ _ _ (by omega)] | rw [cell_alloc_before _ _ _ _ (by omega)] | rw [cell_alloc_drew _ _ _ _ (by omega)] | rw [cell_drew]); with_reducible assumption)), (by first | with_reducible assumption | (simp [go_sem, *]; done) | (simp [go_sem]; omega) | ((repeat first | rw [cell_set_far _ _ _ _ _ _ (by omega)] | rw [cell_alloc_before _ _ _ _ (by omega)] | rw [cell_alloc_drew _ _ _ _ (by omega)] | rw [cell_drew]); with_reducible assumption)), (by first | with_reducible assumption | (simp [go_sem, *]; done) | (simp [go_sem]; omega) | ((repeat first | rw [cell_set_far _ _ _ _ _ _ (by omega)] | rw [cell_alloc_before _ _ _ _ (by omega)] | rw [cell_alloc_drew _ _ _ _ (by omega)] | rw [cell_drew]); with_reducible assumption)), (by first | with_reducible assumption | (simp [go_sem, *]; done) | (simp [go_sem]; omega) | ((repeat first | rw [cell_set_far _ _ _ _ _ _ (by omega)] | rw [cell_alloc_before _ _ _ _ (by omega)] | rw [cell_alloc_drew _ _ _ _ (by omega)] | rw [cell_drew]); with_reducible assumption)), (by first | (simp [World.setCell]; done) | (simp [World.setCell]; omega) | omega), (by first | (simp [World.setCell]; done) | (simp [World.setCell]; omega) | omega), (by repeat (first | exact Ext.refl _ | with_reducible assumption | apply Ext.alloc | apply Ext.drew | apply Ext.drewN | (refine Ext.setRow ?_ (by first | (simp; done) | (simp; omega) | omega) _) | (refine Ext.setCell ?_ (by first | (simp; done) | (simp; omega) | omega) _) | (refine Ext.trans ?_ (by with_reducible assumption))))⟩)
  case rest =>
    obtain ⟨g, rfl, l0, l1, l2, l3, g0', g1', hs1, hg2, hx⟩ := hcut
    have hs : max w.heap.size g < wc.heap.size := by omega
    go_wp2_with (first | (go_at_call 175; refine (inf_one _).mono ?_; rintro rv w1 ⟨rfl, hb⟩; have ns : max w.heap.size g < w1.heap.size := hb.lt (by first | with_reducible assumption | omega | (simp; done) | (simp; omega)); have n0 : w1.cell? ⟨w.heap.size, 0, none⟩ = some (.int .i64 e) := (hb.cells _ _ (by first | with_reducible assumption | omega | (simp; done) | (simp; omega))).trans (by first | with_reducible assumption | (simp; done) | (simp; with_reducible assumption) | (rw [cell_alloc_before _ _ _ _ (by omega)]; with_reducible assumption) | (simp [go_sem, *]; done)); have n1 : w1.cell? ⟨w.heap.size, 1, none⟩ = some (.int .i64 f) := (hb.cells _ _ (by first | with_reducible assumption | omega | (simp; done) | (simp; omega))).trans (by first | with_reducible assumption | (simp; done) | (simp; with_reducible assumption) | (rw [cell_alloc_before _ _ _ _ (by omega)]; with_reducible assumption) | (simp [go_sem, *]; done)); have n2 : w1.cell? ⟨g, 0, none⟩ = some (.int .i64 0) := (hb.cells _ _ (by first | with_reducible assumption | omega | (simp; done) | (simp; omega))).trans (by first | with_reducible assumption | (simp; done) | (simp; with_reducible assumption) | (rw [cell_alloc_before _ _ _ _ (by omega)]; with_reducible assumption) | (simp [go_sem, *]; done)); have n3 : w1.cell? ⟨g, 1, none⟩ = some (.int .i64 (s / pw f)) := (hb.cells _ _ (by first | with_reducible assumption | omega | (simp; done) | (simp; omega))).trans (by first | with_reducible assumption | (simp; done) | (simp; with_reducible assumption) | (rw [cell_alloc_before _ _ _ _ (by omega)]; with_reducible assumption) | (simp [go_sem, *]; done)); have n4 : w1.cell? ⟨g, 2, none⟩ = some (.int .i64 (s % pw f)) := (hb.cells _ _ (by first | with_reducible assumption | omega | (simp; done) | (simp; omega))).trans (by first | with_reducible assumption | (simp; done) | (simp; with_reducible assumption) | (rw [cell_alloc_before _ _ _ _ (by omega)]; with_reducible assumption) | (simp [go_sem, *]; done)); have n5 : w1.cell? ⟨g, 3, none⟩ = some (.int .i64 (pw e - 1)) := (hb.cells _ _ (by first | with_reducible assumption | omega | (simp; done) | (simp; omega))).trans (by first | with_reducible assumption | (simp; done) | (simp; with_reducible assumption) | (rw [cell_alloc_before _ _ _ _ (by omega)]; with_reducible assumption) | (simp [go_sem, *]; done)); (first | (have nx := Ext.trans hx hb; clear hx) | (have nx := Ext.trans (hx.alloc _) hb; clear hx) | (have nx := Ext.trans hx.drew hb; clear hx) | have nx := hb); clear hb; try clear hs; try clear g0; try clear g1; try clear g2; try clear g3; try clear g4; try clear g5; have hx := nx; clear nx; have hs := ns; clear ns; have g0 := n0; clear n0; have g1 := n1; clear n1; have g2 := n2; clear n2; have g3 := n3; clear n3; have g4 := n4; clear n4; have g5 := n5; clear n5) | (go_at_call 128; refine (HFI.out _).mono ?_; rintro rv w1 ⟨rfl, hb⟩; have ns : max w.heap.size g < w1.heap.size := hb.lt (by first | with_reducible assumption | omega | (simp; done) | (simp; omega)); have n0 : w1.cell? ⟨w.heap.size, 0, none⟩ = some (.int .i64 e) := (hb.cells _ _ (by first | with_reducible assumption | omega | (simp; done) | (simp; omega))).trans (by first | with_reducible assumption | (simp; done) | (simp; with_reducible assumption) | (rw [cell_alloc_before _ _ _ _ (by omega)]; with_reducible assumption) | (simp [go_sem, *]; done)); have n1 : w1.cell? ⟨w.heap.size, 1, none⟩ = some (.int .i64 f) := (hb.cells _ _ (by first | with_reducible assumption | omega | (simp; done) | (simp; omega))).trans (by first | with_reducible assumption | (simp; done) | (simp; with_reducible assumption) | (rw [cell_alloc_before _ _ _ _ (by omega)]; with_reducible assumption) | (simp [go_sem, *]; done)); have n2 : w1.cell? ⟨g, 0, none⟩ = some (.int .i64 0) := (hb.cells _ _ (by first | with_reducible assumption | omega | (simp; done) | (simp; omega))).trans (by first | with_reducible assumption | (simp; done) | (simp; with_reducible assumption) | (rw [cell_alloc_before _ _ _ _ (by omega)]; with_reducible assumption) | (simp [go_sem, *]; done)); have n3 : w1.cell? ⟨g, 1, none⟩ = some (.int .i64 (s / pw f)) := (hb.cells _ _ (by first | with_reducible assumption | omega | (simp; done) | (simp; omega))).trans (by first | with_reducible assumption | (simp; done) | (simp; with_reducible assumption) | (rw [cell_alloc_before _ _ _ _ (by omega)]; with_reducible assumption) | (simp [go_sem, *]; done)); have n4 : w1.cell? ⟨g, 2, none⟩ = some (.int .i64 (s % pw f)) := (hb.cells _ _ (by first | with_reducible assumption | omega | (simp; done) | (simp; omega))).trans (by first | with_reducible assumption | (simp; done) | (simp; with_reducible assumption) | (rw [cell_alloc_before _ _ _ _ (by omega)]; with_reducible assumption) | (simp [go_sem, *]; done)); have n5 : w1.cell? ⟨g, 3, none⟩ = some (.int .i64 (pw e - 1)) := (hb.cells _ _ (by first | with_reducible assumption | omega | (simp; done) | (simp; omega))).trans (by first | with_reducible assumption | (simp; done) | (simp; with_reducible assumption) | (rw [cell_alloc_before _ _ _ _ (by omega)]; with_reducible assumption) | (simp [go_sem, *]; done)); (first | (have nx := Ext.trans hx hb; clear hx) | (have nx := Ext.trans (hx.alloc _) hb; clear hx) | (have nx := Ext.trans hx.drew hb; clear hx) | have nx := hb); clear hb; try clear hs; try clear g0; try clear g1; try clear g2; try clear g3; try clear g4; try clear g5; have hx := nx; clear nx; have hs := ns; clear ns; have g0 := n0; clear n0; have g1 := n1; clear n1; have g2 := n2; clear n2; have g3 := n3; clear n3; have g4 := n4; clear n4; have g5 := n5; clear n5) | (go_at_call 176; refine (HCS.out _).mono ?_; rintro rv w1 ⟨rfl, rfl⟩))
    go_ret
    exact ⟨rfl, (by repeat (first | exact Ext.refl _ | with_reducible assumption | apply Ext.alloc | apply Ext.drew | apply Ext.drewN | (refine Ext.setRow ?_ (by first | (simp; done) | (simp; omega) | omega) _) | (refine Ext.setCell ?_ (by first | (simp; done) | (simp; omega) | omega) _) | (refine Ext.trans ?_ (by with_reducible assumption))))⟩

theorem nearest_sw (e f : Int) (t : Bool) (Y : Nat) (hg : goodB e f = true) (okY : Ok Ieee.single Y) (hY : Y < 2 ^ 191) (w : World) :
    Calls Try.prog 108 #[fmt e f, .float .f32 (sw Ieee.single t Y)] w (NROut e f t Y w) := by
  obtain ⟨p, hp⟩ := belowq_gr Y hg
  have hf := (good_iff.1 hg).2.2.1
  have hi : ∃ s, IsRnd f (grV e f) (Y : Int) (pw 149) 0 false s := ⟨_, p, hp, rfl⟩
  obtain ⟨s, hi⟩ := hi
  obtain ⟨s0, s1⟩ := rnd_top hi
  have hsp := Lib.hid (fun w => spotOf_p e f p Y hg okY hp w)
  have hrd : RowKit.Hid (∀ w, Calls Try.prog 174 #[.agg #[.int .i64 p, .float .f32 (fw Ieee.single (Y - mgN f p)), .float .f32 (fw Ieee.single (stN f p))], .int .i64 0, .bool false] w fun rv w' => rv = .returned (.int .i64 s) ∧ Ext w w') := Lib.hid (fun w => by
    refine (rounded_Y e f p Y hg okY hY hp w).mono ?_
    rintro rv w' ⟨s2, rfl, h2, hb⟩
    rw [rnd_one hf (by have := pw_pos 149; omega) h2 hi]
    exact ⟨rfl, hb⟩)
  by_cases g : s ≤ grV e f
  · refine (nearest_fin e f p s t Y _ _ hg okY s0 g hsp hrd w).mono ?_
    rintro rv w' ⟨rfl, hb⟩
    exact ⟨s, by unfold nrW; rw [if_pos g], hi, ⟨s0, s1⟩, hb⟩
  · refine (nearest_inf e f p s t Y _ _ hg okY s0 (by omega) s1 hsp hrd w).mono ?_
    rintro rv w' ⟨rfl, hb⟩
    exact ⟨s, by unfold nrW; rw [if_neg g], hi, ⟨s0, s1⟩, hb⟩
end Go.Proofs.Ytcpamgmaijjhoaa

namespace Go.Proofs.Ytcpamgmaijjhoaa
open Go Go.RowKit
set_option linter.unusedSimpArgs false
set_option linter.unusedVariables false
set_option maxRecDepth 100000

attribute [local go_sem] run_store_flt

/-- The bits are so many. -/
def bitB (b : Int) : Bool := decide (0 ≤ b ∧ b ≤ 12)

theorem areBits_any (b : Int) (w : World) : Calls Try.prog 145 #[.int .i64 b] w fun rv w' => rv = .returned (.bool (bitB b)) ∧ w = w' := by
  by_cases h1 : 0 ≤ b <;> by_cases h2 : b ≤ 12
  all_goals
    have hk : bitB b = decide (0 ≤ b ∧ b ≤ 12) := rfl
    have Hk := Lib.hid hk; clear hk
    go_enter Try.func145, Try.ntmps145
    go_wp2
    go_ret
    exact ⟨ret_bool (by rw [Hk.out]; first | (simp [h1, h2]; done) | (simp; omega)), rfl⟩
end Go.Proofs.Ytcpamgmaijjhoaa

