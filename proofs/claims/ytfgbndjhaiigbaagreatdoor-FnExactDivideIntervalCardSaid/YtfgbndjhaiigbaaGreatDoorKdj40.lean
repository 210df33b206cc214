/-
  Contracts of the functions that the laws reach, and the plain facts that they rest on, each under the conditions that its line names; part 40.
-/
import Derived.Test.YtfgbndjhaiigbaaGreatDoorKdj1
import Derived.Test.YtfgbndjhaiigbaaGreatDoorKdj2
import Derived.Test.YtfgbndjhaiigbaaGreatDoorKdj3
import Derived.Test.YtfgbndjhaiigbaaGreatDoorKdj4
import Derived.Test.YtfgbndjhaiigbaaGreatDoorKdj5
import Derived.Test.YtfgbndjhaiigbaaGreatDoorKdj6
import Derived.Test.YtfgbndjhaiigbaaGreatDoorKdj7
import Derived.Test.YtfgbndjhaiigbaaGreatDoorKdj8
import Derived.Test.YtfgbndjhaiigbaaGreatDoorKdj9
import Derived.Test.YtfgbndjhaiigbaaGreatDoorKdj10
import Derived.Test.YtfgbndjhaiigbaaGreatDoorKdj11
import Derived.Test.YtfgbndjhaiigbaaGreatDoorKdj12
import Derived.Test.YtfgbndjhaiigbaaGreatDoorKdj13
import Derived.Test.YtfgbndjhaiigbaaGreatDoorKdj14
import Derived.Test.YtfgbndjhaiigbaaGreatDoorKdj15
import Derived.Test.YtfgbndjhaiigbaaGreatDoorKdj16
import Derived.Test.YtfgbndjhaiigbaaGreatDoorKdj17
import Derived.Test.YtfgbndjhaiigbaaGreatDoorKdj18
import Derived.Test.YtfgbndjhaiigbaaGreatDoorKdj19
import Derived.Test.YtfgbndjhaiigbaaGreatDoorKdj20
import Derived.Test.YtfgbndjhaiigbaaGreatDoorKdj21
import Derived.Test.YtfgbndjhaiigbaaGreatDoorKdj22
import Derived.Test.YtfgbndjhaiigbaaGreatDoorKdj23
import Derived.Test.YtfgbndjhaiigbaaGreatDoorKdj24
import Derived.Test.YtfgbndjhaiigbaaGreatDoorKdj25
import Derived.Test.YtfgbndjhaiigbaaGreatDoorKdj26
import Derived.Test.YtfgbndjhaiigbaaGreatDoorKdj27
import Derived.Test.YtfgbndjhaiigbaaGreatDoorKdj28
import Derived.Test.YtfgbndjhaiigbaaGreatDoorKdj29
import Derived.Test.YtfgbndjhaiigbaaGreatDoorKdj30
import Derived.Test.YtfgbndjhaiigbaaGreatDoorKdj31
import Derived.Test.YtfgbndjhaiigbaaGreatDoorKdj32
import Derived.Test.YtfgbndjhaiigbaaGreatDoorKdj33
import Derived.Test.YtfgbndjhaiigbaaGreatDoorKdj34
import Derived.Test.YtfgbndjhaiigbaaGreatDoorKdj35
import Derived.Test.YtfgbndjhaiigbaaGreatDoorKdj36
import Derived.Test.YtfgbndjhaiigbaaGreatDoorKdj37
import Derived.Test.YtfgbndjhaiigbaaGreatDoorKdj38
import Derived.Test.YtfgbndjhaiigbaaGreatDoorKdj39
import Derived.Test.YtfgbndjhaiigbaaGreatDoorRows
import Derived.WalkKit
import Derived.LoopTactic
import Derived.Laws.OwnMore
import Derived.OwnWalk
import Derived.Maps.AppendAt
import Derived.Laws.Bits64b
import Derived.WalkSpells
import Derived.WalkLawsBesides
import Derived.StillTactics
import Derived.Laws.Pointers
import Derived.Deep.RegionHeld3
import Derived.Deep.QuietTactic
import Derived.BigQuiet
import Derived.Outline
import Derived.Lib.Hide
import Derived.RowKit3
import Derived.Carry
import Derived.IntWalk
import Derived.LoopN
import Derived.Maps.RangeWalk
import Derived.Maps.OwnSet
import Derived.DeepKeys4
import Derived.Handy
import Derived.Deep.AppendLies
import Derived.Laws.EntriesVeiled
namespace Go.Proofs.YtfgbndjhaiigbaaGreatDoor
open Go Go.RowKit Go.Maps
set_option linter.unusedSimpArgs false
set_option linter.unusedVariables false
set_option maxRecDepth 100000

/-- Two rows of the call's own, in two blocks, and blocks that neither of them touches. -/
structure RW (B : Nat) (ps : List Nat) (w : World) (u v : Value) (n m : Nat) (xs ys : List Value) : Prop where
  ru : w.ownsRow B 3 1 u n xs
  rv : w.ownsRow B 3 1 v m ys
  ne : ∀ k, u.ownBlock = some k → v.ownBlock ≠ some k
  pu : ∀ p, p ∈ ps → u.ownBlock ≠ some p
  pv : ∀ p, p ∈ ps → v.ownBlock ≠ some p
  lt : ∀ p, p ∈ ps → p < w.heap.size

theorem RW.ext {B : Nat} {ps : List Nat} {w w' : World} {u v : Value} {n m : Nat} {xs ys : List Value} (h : RW B ps w u v n m xs ys) (hx : Ext w w') : RW B ps w' u v n m xs ys :=
  ⟨own_ext h.ru hx, own_ext h.rv hx, h.ne, h.pu, h.pv, fun p hp => Nat.lt_of_lt_of_le (h.lt p hp) hx.size⟩

theorem RW.flip {B : Nat} {ps : List Nat} {w : World} {u v : Value} {n m : Nat} {xs ys : List Value} (h : RW B ps w u v n m xs ys) : RW B ps w v u m n ys xs :=
  ⟨h.rv, h.ru, fun k hk hu => h.ne k hu hk, h.pv, h.pu, h.lt⟩

/-- A block that was just made is guarded too. -/
theorem RW.guard {B : Nat} {ps : List Nat} {w : World} {u v : Value} {n m : Nat} {xs ys : List Value} (h : RW B ps w u v n m xs ys) (o : Obj) : RW B (w.heap.size :: ps) (w.alloc o) u v n m xs ys := by
  have hu : ∀ k, u.ownBlock = some k → k < w.heap.size := fun k hk => (World.ownsRow.lt h.ru k hk).2
  have hv : ∀ k, v.ownBlock = some k → k < w.heap.size := fun k hk => (World.ownsRow.lt h.rv k hk).2
  have hx : Ext w (w.alloc o) := Ext.alloc (Ext.refl _) _
  refine ⟨own_ext h.ru hx, own_ext h.rv hx, h.ne, fun p hp e => ?_, fun p hp e => ?_, fun p hp => ?_⟩
  · rcases List.mem_cons.1 hp with rfl | hp
    · have := hu _ e; omega
    · exact h.pu p hp e
  · rcases List.mem_cons.1 hp with rfl | hp
    · have := hv _ e; omega
    · exact h.pv p hp e
  · rcases List.mem_cons.1 hp with rfl | hp
    · simp
    · exact Nat.lt_of_lt_of_le (h.lt p hp) hx.size

/-- One number is put behind the first row. -/
theorem wpList_rw_append {w : World} {ops : Array Oper} {rest : List Oper} {o : Oper} {a : Act} {Q : Exit → Act → World → Prop} (hgd : o.guard = none) (s x : Operand)
    (ho : o.op = .call { callee := .builtin .append, args := #[s, x], argTypes := #[36, 36] })
    {i : TypeInfo} (I0 : Tryz.prog.info? 3 = some i) (I1 : i.zero = some (.int .i64 0)) (I2 : i.size = 1) (I3 : i.bytes = 8)
    (B : Nat) (ps : List Nat) (u v : Value) (n m : Nat) (xs ys : List Value) (hs : a.eval s = u) (h : RW B ps w u v n m xs ys)
    (ad : Addr) (z : Int) (hx : a.eval x = .slice (some ad) 1 1) (hc : w.cell? (ad.add 0) = some (.int .i64 z)) (hn : n ≤ 8) (hB : B ≤ w.heap.size)
    (K : ∀ u' w', RW B ps w' u' v (n + 1) m (xs ++ [.int .i64 z]) ys → (∀ p, p ∈ ps → w'.heap[p]? = w.heap[p]?) → w.grownBy w' u.ownBlock → wpList Tryz.prog ops Q rest (a.put o.dst u') w') :
    wpList Tryz.prog ops Q (o :: rest) a w := by
  refine wpList_append_own_at w hgd s x 36 ho B 3 i _ 1 8 Tryz.underlying36 I0 I1 I2 I3 rfl (by decide) u n xs hs h.ru ad 1 1 [.int .i64 z] hx rfl (fun j q hj => ?_) (by simp [Value.oneCell']) (by simp [maxLen]; omega) (by omega) hB (fun u' w' h2 h3 _ h5 => ?_)
  · match j, hj with
    | 0, hj => simp at hj; subst hj; exact hc
  have hlv : ∀ k, v.ownBlock = some k → k < w.heap.size := fun k hk => (World.ownsRow.lt h.rv k hk).2
  have hps : ∀ p, p ∈ ps → w'.heap[p]? = w.heap[p]? := fun p hp => h3.block p (h.lt p hp) (fun e => h.pu p hp e.symm)
  refine K u' w' ⟨h2, ?_, fun k hk hv => ?_, fun p hp e => ?_, h.pv, fun p hp => Nat.lt_of_lt_of_le (h.lt p hp) h3.size⟩ hps h3
  · rcases h.rv with ⟨hl, hr | ⟨g, cap, cur, rfl, b1, b2, b3⟩⟩
    · exact ⟨hl, .inl hr⟩
    · refine ⟨hl, .inr ⟨g, cap, cur, rfl, b1, ?_, b3⟩⟩
      rw [h3.block g (hlv g rfl) (fun e => h.ne g e.symm rfl)]
      exact b2
  · rcases h5 with h5 | h5
    · exact h.ne k (by rw [← h5]; exact hk) hv
    · have := hlv k hv
      rw [h5] at hk
      injection hk with hk
      omega
  · rcases h5 with h5 | h5
    · exact h.pu p hp (by rw [← h5]; exact e)
    · have := h.lt p hp
      rw [h5] at e
      injection e with e
      omega

/-- The first of both rows has one number more; what lay in guarded blocks, below both rows, or behind the world before the step, lies there still. -/
theorem wpList_rw_step {w : World} {ops : Array Oper} {rest : List Oper} {o : Oper} {a : Act} {Q : Exit → Act → World → Prop} (hgd : o.guard = none) (s x : Operand)
    (ho : o.op = .call { callee := .builtin .append, args := #[s, x], argTypes := #[36, 36] })
    {i : TypeInfo} (I0 : Tryz.prog.info? 3 = some i) (I1 : i.zero = some (.int .i64 0)) (I2 : i.size = 1) (I3 : i.bytes = 8)
    (B : Nat) (ps : List Nat) (u v : Value) (n m : Nat) (xs ys : List Value) (hs : a.eval s = u) {W w1 : World} (h : RW B ps w1 u v n m xs ys) (hE : Ext w1 w) (hW : Ext W w1) (hWB : W.heap.size ≤ B)
    (ad : Addr) (z : Int) (hx : a.eval x = .slice (some ad) 1 1) (hc : w.cell? (ad.add 0) = some (.int .i64 z)) (hn : n ≤ 8) (hB : B ≤ w1.heap.size)
    (K : ∀ u' w', RW B ps w' u' v (n + 1) m (xs ++ [.int .i64 z]) ys → (∀ p q, p < w1.heap.size → p < B ∨ p ∈ ps → w'.cell? ⟨p, q, none⟩ = w1.cell? ⟨p, q, none⟩ ∧ w'.frozen? ⟨p, q, none⟩ = w1.frozen? ⟨p, q, none⟩) →
      (∀ p q y, w1.heap.size ≤ p → w.cell? ⟨p, q, none⟩ = some y → w'.cell? ⟨p, q, none⟩ = some y) → w.heap.size ≤ w'.heap.size → Ext W w' → wpList Tryz.prog ops Q rest (a.put o.dst u') w') :
    wpList Tryz.prog ops Q (o :: rest) a w := by
  have hlu : ∀ k, u.ownBlock = some k → B ≤ k ∧ k < w1.heap.size := fun k hk => World.ownsRow.lt h.ru k hk
  refine wpList_rw_append hgd s x ho I0 I1 I2 I3 B ps u v n m xs ys hs (h.ext hE) ad z hx hc hn (Nat.le_trans hB hE.le) (fun u' w' h1 h2 h3 => ?_)
  refine K u' w' h1 (fun p q hp hq => ?_) (fun p q y hp hy => h3.cell hy (fun e => by have := (hlu p e.symm).2; omega)) h3.size (ext_grown (Ext.trans hW hE) h3 (fun k hk => by have := (hlu k hk).1; omega))
  have hb : w'.heap[p]? = w1.heap[p]? := (h3.block p (Nat.lt_of_lt_of_le hp hE.le) (fun e => by
    rcases hq with hq | hq
    · have := (hlu p e.symm).1; omega
    · exact h.pu p hq e.symm)).trans (hE.block p hp)
  exact ⟨World.cell?_of_block (a := ⟨p, q, none⟩) hb, World.frozen?_of_block (a := ⟨p, q, none⟩) hb⟩

def rowE (V : Nat → Int) (t : Nat) : List Value := (List.range t).map (fun s => .int .i64 (V s))

theorem rowE_succ (V : Nat → Int) (t : Nat) : rowE V (t + 1) = rowE V t ++ [.int .i64 (V t)] := by unfold rowE; rw [List.range_succ]; simp

theorem rowE_at {V : Nat → Int} {t i : Nat} (h : i < t) : (rowE V t)[i]? = some (.int .i64 (V i)) := by unfold rowE; simp [h]

theorem rowE_form {B : Nat} {w : World} {u : Value} {V : Nat → Int} {t : Nat} (ht : 0 < t) (h : w.ownsRow B 3 1 u t (rowE V t)) : ∃ g cap, u = .slice (some ⟨g, 0, none⟩) t cap ∧ g < w.heap.size ∧ ∀ i, i < t → w.cell? ⟨g, i, none⟩ = some (.int .i64 (V i)) := by
  obtain ⟨g, cap, rfl, h1, h2⟩ := h.form ht
  refine ⟨g, cap, rfl, by omega, fun i hi => ?_⟩
  have c := h.cellAt i (by omega)
  rw [rowE_at hi] at c
  exact c
end Go.Proofs.YtfgbndjhaiigbaaGreatDoor

namespace Go.Proofs.YtfgbndjhaiigbaaGreatDoor
open Go Go.RowKit Go.Maps
set_option linter.unusedSimpArgs false
set_option linter.unusedVariables false
set_option maxRecDepth 100000

theorem RW.less {B : Nat} {ps qs : List Nat} {w : World} {u v : Value} {n m : Nat} {xs ys : List Value} (h : RW B ps w u v n m xs ys) (hq : ∀ p, p ∈ qs → p ∈ ps) : RW B qs w u v n m xs ys :=
  ⟨h.ru, h.rv, h.ne, fun p hp => h.pu p (hq p hp), fun p hp => h.pv p (hq p hp), fun p hp => h.lt p (hq p hp)⟩

theorem rw_none (W : World) : RW W.heap.size [] ((W.alloc (.cells #[] 3)).alloc (.cells #[] 3)) (.slice (some ⟨W.heap.size, 0, none⟩) 0 0) (.slice (some ⟨W.heap.size + 1, 0, none⟩) 0 0) 0 0 [] [] := by
  have r1 := World.ownsRow_lit (base := W.heap.size) (e := 3) (size := 1) W #[] 0 (Nat.le_refl _) (by decide) rfl
  have r2 := World.ownsRow_lit (base := W.heap.size) (e := 3) (size := 1) (W.alloc (.cells #[] 3)) #[] 0 (by simp) (by decide) rfl
  refine ⟨own_ext r1 (Ext.new _ _), by simpa using r2, fun k hk hv => ?_, by simp, by simp, by simp⟩
  simp [Value.ownBlock] at hk hv
  omega

theorem rw_start (W : World) (B C G : Nat) (h1 : W.heap.size = B) (h2 : B + 1 = C) (h3 : B + 2 = G) (o : Obj) : RW B [G] (((W.alloc (.cells #[] 3)).alloc (.cells #[] 3)).alloc o) (.slice (some ⟨B, 0, none⟩) 0 0) (.slice (some ⟨C, 0, none⟩) 0 0) 0 0 [] [] := by
  subst h1 h2 h3
  have q := (rw_none W).guard o
  simpa [Nat.add_assoc] using q

theorem info_intJ : (Tryz.prog.info? 3).map (fun i => (i.zero, i.size, i.bytes)) = some (some (.int .i64 0), 1, 8) := by kernel_rfl

set_option maxHeartbeats 40000000 in
theorem ofCorners_any (e f a b c d : Int) (op : Value) (P Q : Int → Int → Int) (D U : Nat → Int) (pa : patB e f a = true) (pb : patB e f b = true) (pc : patB e f c = true) (pd : patB e f d = true) (hDd : ∀ t, D t = P (if t / 2 = 0 then a else b) (if t % 2 = 0 then c else d)) (hUd : ∀ t, U t = Q (if t / 2 = 0 then a else b) (if t % 2 = 0 then c else d))
    (hB : ∀ x y, patB e f x = true → patB e f y = true → ∀ w, TW w → Calls Tryz.prog 93 #[fmt e f, op, two x y, two x y] w fun rv w' => rv = .returned (two (enV e f (P x y)) (enV e f (Q x y))) ∧ Ext w w')
    (hC : Corners e f D U) (i0 j0 : Nat) (hi : i0 < 4) (hj : j0 < 4) (li : ∀ t, t < 4 → sfV e f (enV e f (D i0)) ≤ sfV e f (enV e f (D t))) (lj : ∀ t, t < 4 → sfV e f (enV e f (U t)) ≤ sfV e f (enV e f (U j0))) (w : World) (hT : TW w) :
    Calls Tryz.prog 47 #[fmt e f, two a b, two c d, op] w fun rv w' => rv = .returned (.tuple #[two (enV e f (D i0)) (enV e f (U j0)), .bool true]) ∧ Ext w w' := by
  have hg := (pat_iff.1 pa).1
  have hiv := Lib.hid (corner_iv hg hC hi hj li lj)
  have HLI := Lib.hid li
  have HLJ := Lib.hid lj
  have HDe := Lib.hid (fun s (hs : s < 4) => (cr_facts hg (hC.cr s hs)).1)
  have HUe := Lib.hid (fun s (hs : s < 4) => (cr_facts hg (hC.cr s hs)).2.1)
  have HDd := Lib.hid hDd
  have HUd := Lib.hid hUd
  have HB := Lib.hid hB
  clear hDd hUd hB hC li lj
  obtain ⟨i, hi0⟩ := Option.isSome_iff_exists.1 (show (Tryz.prog.info? 3).isSome = true by kernel_rfl)
  have hi1 := info_intJ
  rw [hi0] at hi1
  simp only [Option.map_some, Option.some.injEq, Prod.mk.injEq] at hi1
  have HI := Lib.hid hi0
  have HZ := Lib.hid hi1.1
  have HSZ := Lib.hid hi1.2.1
  have HBY := Lib.hid hi1.2.2
  clear hi0 hi1
  go_enter Tryz.func47, Tryz.ntmps47
  go_wp2_with go_in
  go_loopw [10, 11, 25] (fun u v x wr => ∃ k : Nat, x = .int .i64 (k : Int) ∧ k ≤ 2 ∧ RowKit.Hid (RW (w.heap.size + 4) [w.heap.size + 6] wr u v (2 * k) (2 * k) (rowE (fun t => enV e f (D t)) (2 * k)) (rowE (fun t => enV e f (U t)) (2 * k))) ∧ wr.cell? ⟨w.heap.size, 0, none⟩ = some (.int .i64 e) ∧ wr.cell? ⟨w.heap.size, 1, none⟩ = some (.int .i64 f) ∧ wr.cell? ⟨w.heap.size + 1, 0, none⟩ = some (.int .i64 a) ∧ wr.cell? ⟨w.heap.size + 1, 1, none⟩ = some (.int .i64 b) ∧ wr.cell? ⟨w.heap.size + 2, 0, none⟩ = some (.int .i64 c) ∧ wr.cell? ⟨w.heap.size + 2, 1, none⟩ = some (.int .i64 d) ∧ wr.cell? ⟨w.heap.size + 3, 0, none⟩ = some (.int .i64 0) ∧ wr.cell? ⟨w.heap.size + 3, 1, none⟩ = some (.int .i64 0) ∧ wr.cell? ⟨w.heap.size + 6, 0, none⟩ = some (.int .i64 a) ∧ wr.cell? ⟨w.heap.size + 6, 1, none⟩ = some (.int .i64 b) ∧ wr.frozen? ⟨w.heap.size + 3, 0, none⟩ = false ∧ wr.frozen? ⟨w.heap.size + 3, 1, none⟩ = false ∧ w.heap.size + 6 < wr.heap.size ∧ Ext w wr) (fun _ _ x _ => 2 - (intOf x).toNat)
  case atStart => exact ⟨0, rfl, by omega, Lib.hid (rw_start _ _ _ _ (by simp) rfl rfl _), by first | (simp; done) | (simp [go_sem]; done), by first | (simp; done) | (simp [go_sem]; done), by first | (simp; done) | (simp [go_sem]; done), by first | (simp; done) | (simp [go_sem]; done), by first | (simp; done) | (simp [go_sem]; done), by first | (simp; done) | (simp [go_sem]; done), by first | (simp; done) | (simp [go_sem]; done), by first | (simp; done) | (simp [go_sem]; done), by first | (simp; done) | (simp [go_sem]; done), by first | (simp; done) | (simp [go_sem]; done), by first | (simp; done) | (simp [go_sem]; done), by first | (simp; done) | (simp [go_sem]; done), by first | (simp; done) | (simp; omega), Ext.auK⟩
  case round =>
    obtain ⟨k, rfl, hk, RWH, g0, g1, g2, g3, g4, g5, r0, r1, h0, h1, z0, z1, hs, hx⟩ := hrel
    obtain ⟨wo, hwo⟩ : ∃ x, x = wr := ⟨_, rfl⟩
    subst hwo
    have hso : w.heap.size + 6 < wo.heap.size := hs
    by_cases hlt : k < 2
    · have k1 : ((k : Nat) : Int) < 2 := by omega
      have k0' : (0 : Int) ≤ (k : Int) := by omega
      have k2 : ((k : Int)).toNat = k := by omega
      have u1 : IntKind.i64.wrap ((k : Int) + 1) = (k : Int) + 1 := IntWalk.i64_in _ (by omega)
      obtain ⟨av, hav⟩ : ∃ z, z = (if k = 0 then a else b) := ⟨_, rfl⟩
      have ga : wo.cell? ⟨w.heap.size + 6, k, none⟩ = some (.int .i64 av) := by
        have : k = 0 ∨ k = 1 := by omega
        rcases this with rfl | rfl
        · rw [hav, if_pos rfl]; exact h0
        · rw [hav, if_neg (by decide)]; exact h1
      have pav : patB e f av = true := by rw [hav]; split; exact pa; exact pb
      have HAV := Lib.hid hav
      clear hav
      go_wp2_with go_in
      go_loopw [10, 11, 35] (fun u v y wr => ∃ j : Nat, y = .int .i64 (j : Int) ∧ j ≤ 2 ∧ RowKit.Hid (RW (w.heap.size + 4) [wo.heap.size, w.heap.size + 6] wr u v (2 * k + j) (2 * k + j) (rowE (fun t => enV e f (D t)) (2 * k + j)) (rowE (fun t => enV e f (U t)) (2 * k + j))) ∧ wr.cell? ⟨w.heap.size, 0, none⟩ = some (.int .i64 e) ∧ wr.cell? ⟨w.heap.size, 1, none⟩ = some (.int .i64 f) ∧ wr.cell? ⟨w.heap.size + 1, 0, none⟩ = some (.int .i64 a) ∧ wr.cell? ⟨w.heap.size + 1, 1, none⟩ = some (.int .i64 b) ∧ wr.cell? ⟨w.heap.size + 2, 0, none⟩ = some (.int .i64 c) ∧ wr.cell? ⟨w.heap.size + 2, 1, none⟩ = some (.int .i64 d) ∧ wr.cell? ⟨w.heap.size + 3, 0, none⟩ = some (.int .i64 0) ∧ wr.cell? ⟨w.heap.size + 3, 1, none⟩ = some (.int .i64 0) ∧ wr.cell? ⟨w.heap.size + 6, 0, none⟩ = some (.int .i64 a) ∧ wr.cell? ⟨w.heap.size + 6, 1, none⟩ = some (.int .i64 b) ∧ wr.cell? ⟨wo.heap.size, 0, none⟩ = some (.int .i64 c) ∧ wr.cell? ⟨wo.heap.size, 1, none⟩ = some (.int .i64 d) ∧ wr.frozen? ⟨w.heap.size + 3, 0, none⟩ = false ∧ wr.frozen? ⟨w.heap.size + 3, 1, none⟩ = false ∧ wo.heap.size < wr.heap.size ∧ Ext w wr) (fun _ _ y _ => 2 - (intOf y).toNat)
      case atStart => exact ⟨0, rfl, by omega, Lib.hid (RWH.out.guard _), ((Ext.new wo _).cells _ _ (by omega)).trans g0, ((Ext.new wo _).cells _ _ (by omega)).trans g1, ((Ext.new wo _).cells _ _ (by omega)).trans g2, ((Ext.new wo _).cells _ _ (by omega)).trans g3, ((Ext.new wo _).cells _ _ (by omega)).trans g4, ((Ext.new wo _).cells _ _ (by omega)).trans g5, ((Ext.new wo _).cells _ _ (by omega)).trans r0, ((Ext.new wo _).cells _ _ (by omega)).trans r1, ((Ext.new wo _).cells _ _ (by omega)).trans h0, ((Ext.new wo _).cells _ _ (by omega)).trans h1, by simp [go_sem], by simp [go_sem], ((Ext.new wo _).frz _ _ (by omega)).trans z0, ((Ext.new wo _).frz _ _ (by omega)).trans z1, by simp, Ext.auK⟩
      case round =>
        clear RWH g0 g1 g2 g3 g4 g5 r0 r1 h0 h1 z0 z1 hs hx ga
        obtain ⟨j, rfl, hj9, RWH, g0, g1, g2, g3, g4, g5, r0, r1, h0, h1, k0, k1', z0, z1, hs, hx⟩ := hrel
        by_cases hlj : j < 2
        · have j1 : ((j : Nat) : Int) < 2 := by omega
          have j0' : (0 : Int) ≤ (j : Int) := by omega
          have j2 : ((j : Int)).toNat = j := by omega
          have v1 : IntKind.i64.wrap ((j : Int) + 1) = (j : Int) + 1 := IntWalk.i64_in _ (by omega)
          obtain ⟨bv, hbv⟩ : ∃ z, z = (if j = 0 then c else d) := ⟨_, rfl⟩
          have gb : wr.cell? ⟨wo.heap.size, j, none⟩ = some (.int .i64 bv) := by
            have : j = 0 ∨ j = 1 := by omega
            rcases this with rfl | rfl
            · rw [hbv, if_pos rfl]; exact k0
            · rw [hbv, if_neg (by decide)]; exact k1'
          have pbv : patB e f bv = true := by rw [hbv]; split; exact pc; exact pd
          have e1 : (2 * k + j) / 2 = k := by omega
          have e2 : (2 * k + j) % 2 = j := by omega
          have HDt : RowKit.Hid (D (2 * k + j) = P av bv) := Lib.hid (by rw [HDd.out, HAV.out, hbv, e1, e2])
          have HUt : RowKit.Hid (U (2 * k + j) = Q av bv) := Lib.hid (by rw [HUd.out, HAV.out, hbv, e1, e2])
          have BWC := Lib.hid (HB.out av bv pav pbv)
          rw [← HDt.out, ← HUt.out] at BWC
          clear hbv e1 e2 HDt HUt
          go_wp2_with (first | (go_at_call 93; (with_reducible refine (BWC.out _ (hT.ext Ext.auK)).mono ?_); rintro rv w1 ⟨rfl, hb⟩; have ng0 : w1.cell? ⟨w.heap.size, 0, none⟩ = some (.int .i64 e) := ((hb.cells (w.heap.size) 0 (by omega)).trans g0); have ng1 : w1.cell? ⟨w.heap.size, 1, none⟩ = some (.int .i64 f) := ((hb.cells (w.heap.size) 1 (by omega)).trans g1); have ng2 : w1.cell? ⟨w.heap.size + 1, 0, none⟩ = some (.int .i64 a) := ((hb.cells (w.heap.size + 1) 0 (by omega)).trans g2); have ng3 : w1.cell? ⟨w.heap.size + 1, 1, none⟩ = some (.int .i64 b) := ((hb.cells (w.heap.size + 1) 1 (by omega)).trans g3); have ng4 : w1.cell? ⟨w.heap.size + 2, 0, none⟩ = some (.int .i64 c) := ((hb.cells (w.heap.size + 2) 0 (by omega)).trans g4); have ng5 : w1.cell? ⟨w.heap.size + 2, 1, none⟩ = some (.int .i64 d) := ((hb.cells (w.heap.size + 2) 1 (by omega)).trans g5); have nr0 : w1.cell? ⟨w.heap.size + 3, 0, none⟩ = some (.int .i64 0) := ((hb.cells (w.heap.size + 3) 0 (by omega)).trans r0); have nr1 : w1.cell? ⟨w.heap.size + 3, 1, none⟩ = some (.int .i64 0) := ((hb.cells (w.heap.size + 3) 1 (by omega)).trans r1); have nh0 : w1.cell? ⟨w.heap.size + 6, 0, none⟩ = some (.int .i64 a) := ((hb.cells (w.heap.size + 6) 0 (by omega)).trans h0); have nh1 : w1.cell? ⟨w.heap.size + 6, 1, none⟩ = some (.int .i64 b) := ((hb.cells (w.heap.size + 6) 1 (by omega)).trans h1); have nk0 : w1.cell? ⟨wo.heap.size, 0, none⟩ = some (.int .i64 c) := ((hb.cells (wo.heap.size) 0 (by omega)).trans k0); have nk1' : w1.cell? ⟨wo.heap.size, 1, none⟩ = some (.int .i64 d) := ((hb.cells (wo.heap.size) 1 (by omega)).trans k1'); have nz0 : w1.frozen? ⟨w.heap.size + 3, 0, none⟩ = false := ((hb.frz (w.heap.size + 3) 0 (by omega)).trans z0); have nz1 : w1.frozen? ⟨w.heap.size + 3, 1, none⟩ = false := ((hb.frz (w.heap.size + 3) 1 (by omega)).trans z1); clear g0 g1 g2 g3 g4 g5 r0 r1 h0 h1 k0 k1' z0 z1; have g0 := ng0; clear ng0; have g1 := ng1; clear ng1; have g2 := ng2; clear ng2; have g3 := ng3; clear ng3; have g4 := ng4; clear ng4; have g5 := ng5; clear ng5; have r0 := nr0; clear nr0; have r1 := nr1; clear nr1; have h0 := nh0; clear nh0; have h1 := nh1; clear nh1; have k0 := nk0; clear nk0; have k1' := nk1'; clear nk1'; have z0 := nz0; clear nz0; have z1 := nz1; clear nz1; have ns : wo.heap.size < w1.heap.size := hb.lt hs; have nx := Ext.trans hx hb; clear hx hs; have hx := nx; have hs := ns; clear nx ns; have RW1 := Lib.hid (RW.ext RWH.out hb); clear RWH hb) | (at_builtin; (refine wpList_rw_step rfl (.tmp 48) (.tmp 51) rfl HI.out HZ.out HSZ.out HBY.out (w.heap.size + 4) [wo.heap.size, w.heap.size + 6] _ _ _ _ _ _ rfl (W := w) (w1 := w1) RW1.out Ext.auK hx (by omega) _ (enV e f (D (2 * k + j))) rfl (by first | (simp [go_sem, Addr.add]; done) | (simp [go_sem, Addr.add, *]; done)) (by omega) (by omega) ?_); intro u8 w8 RW8 KP KC sz hx9; have hcor : w8.cell? ⟨w1.heap.size, 1, none⟩ = some (.int .i64 (enV e f (U (2 * k + j)))) := KC _ 1 _ (Nat.le_refl _) (by first | (simp [go_sem]; done) | (simp [go_sem, *]; done)); have ng0 : w8.cell? ⟨w.heap.size, 0, none⟩ = some (.int .i64 e) := ((KP (w.heap.size) 0 (by omega) (by first | (left; omega) | (right; simp))).1.trans g0); have ng1 : w8.cell? ⟨w.heap.size, 1, none⟩ = some (.int .i64 f) := ((KP (w.heap.size) 1 (by omega) (by first | (left; omega) | (right; simp))).1.trans g1); have ng2 : w8.cell? ⟨w.heap.size + 1, 0, none⟩ = some (.int .i64 a) := ((KP (w.heap.size + 1) 0 (by omega) (by first | (left; omega) | (right; simp))).1.trans g2); have ng3 : w8.cell? ⟨w.heap.size + 1, 1, none⟩ = some (.int .i64 b) := ((KP (w.heap.size + 1) 1 (by omega) (by first | (left; omega) | (right; simp))).1.trans g3); have ng4 : w8.cell? ⟨w.heap.size + 2, 0, none⟩ = some (.int .i64 c) := ((KP (w.heap.size + 2) 0 (by omega) (by first | (left; omega) | (right; simp))).1.trans g4); have ng5 : w8.cell? ⟨w.heap.size + 2, 1, none⟩ = some (.int .i64 d) := ((KP (w.heap.size + 2) 1 (by omega) (by first | (left; omega) | (right; simp))).1.trans g5); have nr0 : w8.cell? ⟨w.heap.size + 3, 0, none⟩ = some (.int .i64 0) := ((KP (w.heap.size + 3) 0 (by omega) (by first | (left; omega) | (right; simp))).1.trans r0); have nr1 : w8.cell? ⟨w.heap.size + 3, 1, none⟩ = some (.int .i64 0) := ((KP (w.heap.size + 3) 1 (by omega) (by first | (left; omega) | (right; simp))).1.trans r1); have nh0 : w8.cell? ⟨w.heap.size + 6, 0, none⟩ = some (.int .i64 a) := ((KP (w.heap.size + 6) 0 (by omega) (by first | (left; omega) | (right; simp))).1.trans h0); have nh1 : w8.cell? ⟨w.heap.size + 6, 1, none⟩ = some (.int .i64 b) := ((KP (w.heap.size + 6) 1 (by omega) (by first | (left; omega) | (right; simp))).1.trans h1); have nk0 : w8.cell? ⟨wo.heap.size, 0, none⟩ = some (.int .i64 c) := ((KP (wo.heap.size) 0 (by omega) (by first | (left; omega) | (right; simp))).1.trans k0); have nk1' : w8.cell? ⟨wo.heap.size, 1, none⟩ = some (.int .i64 d) := ((KP (wo.heap.size) 1 (by omega) (by first | (left; omega) | (right; simp))).1.trans k1'); have nz0 : w8.frozen? ⟨w.heap.size + 3, 0, none⟩ = false := ((KP (w.heap.size + 3) 0 (by omega) (by first | (left; omega) | (right; simp))).2.trans z0); have nz1 : w8.frozen? ⟨w.heap.size + 3, 1, none⟩ = false := ((KP (w.heap.size + 3) 1 (by omega) (by first | (left; omega) | (right; simp))).2.trans z1); clear g0 g1 g2 g3 g4 g5 r0 r1 h0 h1 k0 k1' z0 z1; have g0 := ng0; clear ng0; have g1 := ng1; clear ng1; have g2 := ng2; clear ng2; have g3 := ng3; clear ng3; have g4 := ng4; clear ng4; have g5 := ng5; clear ng5; have r0 := nr0; clear nr0; have r1 := nr1; clear nr1; have h0 := nh0; clear nh0; have h1 := nh1; clear nh1; have k0 := nk0; clear nk0; have k1' := nk1'; clear nk1'; have z0 := nz0; clear nz0; have z1 := nz1; clear nz1; have ns : wo.heap.size < w8.heap.size := (by simp only [World.size_alloc, World.size_drew, setRow_size] at sz; omega); clear hx hs; have hx := hx9; clear hx9; have hs := ns; clear ns; have RW2 := Lib.hid RW8; clear RW8 KP KC) | (at_builtin; (refine wpList_rw_step rfl (.tmp 53) (.tmp 56) rfl HI.out HZ.out HSZ.out HBY.out (w.heap.size + 4) [wo.heap.size, w.heap.size + 6] _ _ _ _ _ _ rfl (W := w) (w1 := w8) RW2.out.flip Ext.auK hx (by omega) _ (enV e f (U (2 * k + j))) rfl (by first | (simp [go_sem, Addr.add]; done) | (simp [go_sem, Addr.add, *]; done)) (by omega) (by omega) ?_); intro v9 w9 RW8 KP KC sz hx9; have ng0 : w9.cell? ⟨w.heap.size, 0, none⟩ = some (.int .i64 e) := ((KP (w.heap.size) 0 (by omega) (by first | (left; omega) | (right; simp))).1.trans g0); have ng1 : w9.cell? ⟨w.heap.size, 1, none⟩ = some (.int .i64 f) := ((KP (w.heap.size) 1 (by omega) (by first | (left; omega) | (right; simp))).1.trans g1); have ng2 : w9.cell? ⟨w.heap.size + 1, 0, none⟩ = some (.int .i64 a) := ((KP (w.heap.size + 1) 0 (by omega) (by first | (left; omega) | (right; simp))).1.trans g2); have ng3 : w9.cell? ⟨w.heap.size + 1, 1, none⟩ = some (.int .i64 b) := ((KP (w.heap.size + 1) 1 (by omega) (by first | (left; omega) | (right; simp))).1.trans g3); have ng4 : w9.cell? ⟨w.heap.size + 2, 0, none⟩ = some (.int .i64 c) := ((KP (w.heap.size + 2) 0 (by omega) (by first | (left; omega) | (right; simp))).1.trans g4); have ng5 : w9.cell? ⟨w.heap.size + 2, 1, none⟩ = some (.int .i64 d) := ((KP (w.heap.size + 2) 1 (by omega) (by first | (left; omega) | (right; simp))).1.trans g5); have nr0 : w9.cell? ⟨w.heap.size + 3, 0, none⟩ = some (.int .i64 0) := ((KP (w.heap.size + 3) 0 (by omega) (by first | (left; omega) | (right; simp))).1.trans r0); have nr1 : w9.cell? ⟨w.heap.size + 3, 1, none⟩ = some (.int .i64 0) := ((KP (w.heap.size + 3) 1 (by omega) (by first | (left; omega) | (right; simp))).1.trans r1); have nh0 : w9.cell? ⟨w.heap.size + 6, 0, none⟩ = some (.int .i64 a) := ((KP (w.heap.size + 6) 0 (by omega) (by first | (left; omega) | (right; simp))).1.trans h0); have nh1 : w9.cell? ⟨w.heap.size + 6, 1, none⟩ = some (.int .i64 b) := ((KP (w.heap.size + 6) 1 (by omega) (by first | (left; omega) | (right; simp))).1.trans h1); have nk0 : w9.cell? ⟨wo.heap.size, 0, none⟩ = some (.int .i64 c) := ((KP (wo.heap.size) 0 (by omega) (by first | (left; omega) | (right; simp))).1.trans k0); have nk1' : w9.cell? ⟨wo.heap.size, 1, none⟩ = some (.int .i64 d) := ((KP (wo.heap.size) 1 (by omega) (by first | (left; omega) | (right; simp))).1.trans k1'); have nz0 : w9.frozen? ⟨w.heap.size + 3, 0, none⟩ = false := ((KP (w.heap.size + 3) 0 (by omega) (by first | (left; omega) | (right; simp))).2.trans z0); have nz1 : w9.frozen? ⟨w.heap.size + 3, 1, none⟩ = false := ((KP (w.heap.size + 3) 1 (by omega) (by first | (left; omega) | (right; simp))).2.trans z1); clear g0 g1 g2 g3 g4 g5 r0 r1 h0 h1 k0 k1' z0 z1; have g0 := ng0; clear ng0; have g1 := ng1; clear ng1; have g2 := ng2; clear ng2; have g3 := ng3; clear ng3; have g4 := ng4; clear ng4; have g5 := ng5; clear ng5; have r0 := nr0; clear nr0; have r1 := nr1; clear nr1; have h0 := nh0; clear nh0; have h1 := nh1; clear nh1; have k0 := nk0; clear nk0; have k1' := nk1'; clear nk1'; have z0 := nz0; clear nz0; have z1 := nz1; clear nz1; have ns : wo.heap.size < w9.heap.size := (by simp only [World.size_alloc, World.size_drew, setRow_size] at sz; omega); clear hx hs; have hx := hx9; clear hx9; have hs := ns; clear ns; have RW3 := Lib.hid RW8; clear RW8 KP KC))
          have RW4 : RowKit.Hid (RW (w.heap.size + 4) [wo.heap.size, w.heap.size + 6] w9 u8 v9 (2 * k + (j + 1)) (2 * k + (j + 1)) (rowE (fun t => enV e f (D t)) (2 * k + (j + 1))) (rowE (fun t => enV e f (U t)) (2 * k + (j + 1)))) := Lib.hid (by rw [show 2 * k + (j + 1) = 2 * k + j + 1 by omega, rowE_succ, rowE_succ]; exact RW3.out.flip)
          go_roundw
          all_goals first | (simp [intOf]; done) | (simp [intOf]; omega) | exact ⟨j + 1, by simp, by omega, RW4, by with_reducible assumption, by with_reducible assumption, by with_reducible assumption, by with_reducible assumption, by with_reducible assumption, by with_reducible assumption, by with_reducible assumption, by with_reducible assumption, by with_reducible assumption, by with_reducible assumption, by with_reducible assumption, by with_reducible assumption, by with_reducible assumption, by with_reducible assumption, by omega, hx⟩
        · have j1 : ¬ ((j : Nat) : Int) < 2 := by omega
          have ej : j = 2 := by omega
          subst ej
          have RW5 := Lib.hid (RW.less RWH.out (qs := [w.heap.size + 6]) (fun p hp => List.mem_cons_of_mem _ hp))
          go_wp2_with go_in
          go_roundw
          all_goals first | (simp [intOf]; done) | (simp [intOf]; omega) | exact ⟨k + 1, by simp, by omega, RW5, by with_reducible assumption, by with_reducible assumption, by with_reducible assumption, by with_reducible assumption, by with_reducible assumption, by with_reducible assumption, by with_reducible assumption, by with_reducible assumption, by with_reducible assumption, by with_reducible assumption, by with_reducible assumption, by with_reducible assumption, by omega, hx⟩
    · have k1 : ¬ ((k : Nat) : Int) < 2 := by omega
      have ek : k = 2 := by omega
      subst ek
      obtain ⟨gl, cl, eu, gl0, q1⟩ := rowE_form (t := 4) (by decide) RWH.out.ru
      obtain ⟨gh, ch, ev, gh0, q2⟩ := rowE_form (t := 4) (by decide) RWH.out.rv
      subst eu
      subst ev
      have WDC := Lib.hid (fun w h1 h2 h3 h4 => widest_any e f (fun t => enV e f (D t)) (fun t => enV e f (U t)) gl gh 4 cl ch i0 j0 (by decide) HDe.out HUe.out hi hj hiv.out HLI.out HLJ.out w h1 h2 h3 h4)
      have g6 := r0
      have g7 := r1
      clear r0 r1 RWH HDe HUe hiv HLI HLJ
      generalize hX : enV e f (D i0) = x at *
      generalize hY : enV e f (U j0) = y at *
      have HX := Lib.hid hX
      have HY := Lib.hid hY
      clear hX hY
      go_wp2_with (go_at_call 94; (with_reducible refine (WDC.out _ q1 q2 gl0 gh0).mono ?_); rintro rv w1 ⟨rfl, hb⟩; have ns : w.heap.size + 4 < w1.heap.size := hb.ltK; have n0 : w1.cell? ⟨w.heap.size, 0, none⟩ = some (.int .i64 e) := hb.cellK; have n1 : w1.cell? ⟨w.heap.size, 1, none⟩ = some (.int .i64 f) := hb.cellK; have n2 : w1.cell? ⟨w.heap.size + 1, 0, none⟩ = some (.int .i64 a) := hb.cellK; have n3 : w1.cell? ⟨w.heap.size + 1, 1, none⟩ = some (.int .i64 b) := hb.cellK; have n4 : w1.cell? ⟨w.heap.size + 2, 0, none⟩ = some (.int .i64 c) := hb.cellK; have n5 : w1.cell? ⟨w.heap.size + 2, 1, none⟩ = some (.int .i64 d) := hb.cellK; have n6 : w1.cell? ⟨w.heap.size + 3, 0, none⟩ = some (.int .i64 0) := hb.cellK; have n7 : w1.cell? ⟨w.heap.size + 3, 1, none⟩ = some (.int .i64 0) := hb.cellK; have nz0 : w1.frozen? ⟨w.heap.size + 3, 0, none⟩ = false := hb.frzK; have nz1 : w1.frozen? ⟨w.heap.size + 3, 1, none⟩ = false := hb.frzK; (first | (have nx := hx.trK hb; clear hx) | have nx := hb); clear hb; try clear hs; try clear g0; try clear g1; try clear g2; try clear g3; try clear g4; try clear g5; try clear g6; try clear g7; try clear z0; try clear z1; have hx := nx; clear nx; have hs := ns; clear ns; have g0 := n0; clear n0; have g1 := n1; clear n1; have g2 := n2; clear n2; have g3 := n3; clear n3; have g4 := n4; clear n4; have g5 := n5; clear n5; have g6 := n6; clear n6; have g7 := n7; clear n7; have z0 := nz0; clear nz0; have z1 := nz1; clear nz1)
      exact bodyPost_ret (v := .tuple #[two x y, .bool true]) (by simp [results, Tryz.results47, go_sem, *]) rfl ⟨by rw [HX.out, HY.out], Ext.auK⟩
end Go.Proofs.YtfgbndjhaiigbaaGreatDoor

namespace Go.Proofs.YtfgbndjhaiigbaaGreatDoor
open Go Go.RowKit Go.Maps
set_option linter.unusedSimpArgs false
set_option linter.unusedVariables false
set_option maxRecDepth 100000

/-- The least of what is rounded down at the four corners, the greatest of what is rounded up. -/
def LoHi (e f : Int) (D U : Nat → Int) (x y : Int) : Prop := (∃ i, i < 4 ∧ x = enV e f (D i) ∧ ∀ s, s < 4 → sfV e f (enV e f (D i)) ≤ sfV e f (enV e f (D s))) ∧ (∃ i, i < 4 ∧ y = enV e f (U i) ∧ ∀ s, s < 4 → sfV e f (enV e f (U s)) ≤ sfV e f (enV e f (U i)))

theorem lohi_ex (e f : Int) (D U : Nat → Int) : ∃ x y, LoHi e f D U x y := by
  obtain ⟨i, hi, h1⟩ := min_at (fun t => sfV e f (enV e f (D t))) 4 (by decide)
  obtain ⟨j, hj, h2⟩ := min_at (fun t => - sfV e f (enV e f (U t))) 4 (by decide)
  refine ⟨_, _, ⟨i, hi, rfl, h1⟩, ⟨j, hj, rfl, fun s hs => ?_⟩⟩
  have := h2 s hs
  omega

theorem lohi_one {e f : Int} {D U : Nat → Int} {x y x' y' : Int} (hD : ∀ s, enB e f (enV e f (D s)) = true) (hU : ∀ s, enB e f (enV e f (U s)) = true) (h : LoHi e f D U x y) (h' : LoHi e f D U x' y') : x' = x ∧ y' = y := by
  obtain ⟨⟨i, hi, rfl, h1⟩, ⟨j, hj, rfl, h2⟩⟩ := h
  obtain ⟨⟨k, hk, rfl, h3⟩, ⟨l, hl, rfl, h4⟩⟩ := h'
  refine ⟨sf_inj (hD k) (hD i) ?_, sf_inj (hU l) (hU j) ?_⟩
  · have := h1 k hk; have := h3 i hi; omega
  · have := h2 l hl; have := h4 j hj; omega

theorem pat_if {e f : Int} {P : Prop} [Decidable P] {a b : Int} (ha : patB e f a = true) (hb : patB e f b = true) : patB e f (if P then a else b) = true := by split; exact ha; exact hb

noncomputable def diD (e f a b c d : Int) (t : Nat) : Int := dvF e f (if t / 2 = 0 then a else b) (if t % 2 = 0 then c else d) 4

noncomputable def diU (e f a b c d : Int) (t : Nat) : Int := dvF e f (if t / 2 = 0 then a else b) (if t % 2 = 0 then c else d) 3

theorem di_cr {e f a b c d : Int} (pa : patB e f a = true) (pb : patB e f b = true) (pc : patB e f c = true) (pd : patB e f d = true) (w : World) (t : Nat) : CrF e f (diD e f a b c d t) (diU e f a b c d t) :=
  (dv_form (pat_if pa pb) (pat_if pc pd) (dv_ex (pat_if pa pb) (pat_if pc pd) (by decide) (by decide) w) (dv_ex (pat_if pa pb) (pat_if pc pd) (by decide) (by decide) w)).1

theorem ivFour_di (e f a b c d x y : Int) (pa : patB e f a = true) (pb : patB e f b = true) (pc : patB e f c = true) (pd : patB e f d = true) (hl : LoHi e f (diD e f a b c d) (diU e f a b c d) x y) (w : World) : Calls Tryz.prog 45 #[fmt e f, two a b, two c d, .bool true] w fun rv w' => rv = .returned (two x y) ∧ Ext w w' := by
  have hg := (pat_iff.1 pa).1
  have hcr := di_cr pa pb pc pd w
  refine (ivFour_divide e f a b c d pa pb pc pd (diD e f a b c d) (diU e f a b c d) rfl rfl hcr w).mono ?_
  rintro rv w' ⟨⟨x', y', rfl, h1, h2⟩, hx⟩
  obtain ⟨rfl, rfl⟩ := lohi_one (fun s => (cr_facts hg (hcr s)).1) (fun s => (cr_facts hg (hcr s)).2.1) hl ⟨h1, h2⟩
  exact ⟨rfl, hx⟩

theorem ofCorners_di (e f a b c d x y : Int) (pa : patB e f a = true) (pb : patB e f b = true) (pc : patB e f c = true) (pd : patB e f d = true) (hC : Corners e f (diD e f a b c d) (diU e f a b c d)) (hl : LoHi e f (diD e f a b c d) (diU e f a b c d) x y) (w : World) (hT : TW w) : Calls Tryz.prog 47 #[fmt e f, two a b, two c d, .func (.func 35) #[] #[]] w fun rv w' => rv = .returned (.tuple #[two x y, .bool true]) ∧ Ext w w' := by
  obtain ⟨⟨i, hi, rfl, h1⟩, ⟨j, hj, rfl, h2⟩⟩ := hl
  exact ofCorners_any e f a b c d _ (fun x y => dvF e f x y 4) (fun x y => dvF e f x y 3) (diD e f a b c d) (diU e f a b c d) pa pb pc pd (fun _ => rfl) (fun _ => rfl) (fun x y hx hy w hT => both_Divide e f x y hx hy w hT) hC i j hi hj h1 h2 w hT

theorem hz_has {e f c d : Int} (hc : enB e f c = true) (hd : enB e f d = true) (hg : goodB e f = true) : (!lsB e f 0 c && !lsB e f d 0) = hz0 e f c d := by
  have z := zero_sf e f hg
  have p0 : patB e f 0 = true := pat_iff.2 ⟨hg, Int.le_refl _, by have := pw_pos (e + f); omega⟩
  have i0 : izV e f 0 = 0 := by unfold izV; rw [Int.zero_emod]; rfl
  have e0 : enV e f 0 = 0 := en_zero p0 (Int.zero_emod _)
  have n0 : enB e f 0 = true := by
    have q := (en_form (s := 0) (m := 0) hg (Int.le_refl _) (by have := (in_bd hg).1; omega) (.inl rfl)).1
    rw [Int.zero_mul, Int.add_zero, e0] at q
    exact q
  have q1 := ls_en i0 (iz_end hc) n0 hc
  have q2 := ls_en (iz_end hd) i0 hd n0
  rw [z] at q1 q2
  unfold hz0
  cases h1 : lsB e f 0 c <;> cases h2 : lsB e f d 0 <;> rw [h1] at q1 <;> rw [h2] at q2 <;> simp at q1 q2 ⊢ <;> omega

theorem sDivideInterval_no (e f a b c d : Int) (hg : (ivB e f a b && ivB e f c d) = false) (w : World) : Calls Tryz.prog 20 #[fmt e f, two a b, two c d] w fun rv w' => rv = .returned (.tuple #[two 0 0, .bool false]) ∧ Ext w w' := by
  have AI := Lib.hid (fun w => ivBoth_any e f a b c d w)
  rw [hg] at AI
  go_enter Tryz.func20, Tryz.ntmps20
  go_wp2_with (go_at_call 44; refine (AI.out _).mono ?_; rintro rv w1 ⟨rfl, hb⟩; have ns : w.heap.size + 3 < w1.heap.size := hb.ltK; have n0 : w1.cell? ⟨w.heap.size, 0, none⟩ = some (.int .i64 e) := hb.cellK; have n1 : w1.cell? ⟨w.heap.size, 1, none⟩ = some (.int .i64 f) := hb.cellK; have n2 : w1.cell? ⟨w.heap.size + 1, 0, none⟩ = some (.int .i64 a) := hb.cellK; have n3 : w1.cell? ⟨w.heap.size + 1, 1, none⟩ = some (.int .i64 b) := hb.cellK; have n4 : w1.cell? ⟨w.heap.size + 2, 0, none⟩ = some (.int .i64 c) := hb.cellK; have n5 : w1.cell? ⟨w.heap.size + 2, 1, none⟩ = some (.int .i64 d) := hb.cellK; have n6 : w1.cell? ⟨w.heap.size + 3, 0, none⟩ = some (.int .i64 0) := hb.cellK; have n7 : w1.cell? ⟨w.heap.size + 3, 1, none⟩ = some (.int .i64 0) := hb.cellK; have nz0 : w1.frozen? ⟨w.heap.size + 3, 0, none⟩ = false := hb.frzK; have nz1 : w1.frozen? ⟨w.heap.size + 3, 1, none⟩ = false := hb.frzK; (first | (have nx := hx.trK hb; clear hx) | have nx := hb); clear hb; try clear hs; try clear g0; try clear g1; try clear g2; try clear g3; try clear g4; try clear g5; try clear g6; try clear g7; try clear z0; try clear z1; have hx := nx; clear nx; have hs := ns; clear ns; have g0 := n0; clear n0; have g1 := n1; clear n1; have g2 := n2; clear n2; have g3 := n3; clear n3; have g4 := n4; clear n4; have g5 := n5; clear n5; have g6 := n6; clear n6; have g7 := n7; clear n7; have z0 := nz0; clear nz0; have z1 := nz1; clear nz1)
  exact bodyPost_ret (v := .tuple #[two 0 0, .bool false]) (by simp [results, Tryz.results20, go_sem, *]) rfl ⟨rfl, Ext.auK⟩

theorem sDivideInterval_zero (e f a b c d : Int) (hg : (ivB e f a b && ivB e f c d) = true) (hz : hz0 e f c d = true) (w : World) : Calls Tryz.prog 20 #[fmt e f, two a b, two c d] w fun rv w' => rv = .returned (.tuple #[two 0 0, .bool false]) ∧ Ext w w' := by
  have AI := Lib.hid (fun w => ivBoth_any e f a b c d w)
  rw [hg] at AI
  rw [Bool.and_eq_true] at hg
  obtain ⟨pc, pd⟩ := iv_pats hg.2
  have hgd := (pat_iff.1 pc).1
  have p0 : patB e f 0 = true := pat_iff.2 ⟨hgd, Int.le_refl _, by have := pw_pos (e + f); omega⟩
  have HS := Lib.hid (fun w => ivHas_any e f c d 0 pc pd p0 w)
  rw [hz_has (iv_parts hg.2).1 (iv_parts hg.2).2.1 hgd, hz] at HS
  clear hg pc pd hgd p0
  go_enter Tryz.func20, Tryz.ntmps20
  go_wp2_with (first | (go_at_call 44; refine (AI.out _).mono ?_; rintro rv w1 ⟨rfl, hb⟩; have ns : w.heap.size + 3 < w1.heap.size := hb.ltK; have n0 : w1.cell? ⟨w.heap.size, 0, none⟩ = some (.int .i64 e) := hb.cellK; have n1 : w1.cell? ⟨w.heap.size, 1, none⟩ = some (.int .i64 f) := hb.cellK; have n2 : w1.cell? ⟨w.heap.size + 1, 0, none⟩ = some (.int .i64 a) := hb.cellK; have n3 : w1.cell? ⟨w.heap.size + 1, 1, none⟩ = some (.int .i64 b) := hb.cellK; have n4 : w1.cell? ⟨w.heap.size + 2, 0, none⟩ = some (.int .i64 c) := hb.cellK; have n5 : w1.cell? ⟨w.heap.size + 2, 1, none⟩ = some (.int .i64 d) := hb.cellK; have n6 : w1.cell? ⟨w.heap.size + 3, 0, none⟩ = some (.int .i64 0) := hb.cellK; have n7 : w1.cell? ⟨w.heap.size + 3, 1, none⟩ = some (.int .i64 0) := hb.cellK; have nz0 : w1.frozen? ⟨w.heap.size + 3, 0, none⟩ = false := hb.frzK; have nz1 : w1.frozen? ⟨w.heap.size + 3, 1, none⟩ = false := hb.frzK; (first | (have nx := hx.trK hb; clear hx) | have nx := hb); clear hb; try clear hs; try clear g0; try clear g1; try clear g2; try clear g3; try clear g4; try clear g5; try clear g6; try clear g7; try clear z0; try clear z1; have hx := nx; clear nx; have hs := ns; clear ns; have g0 := n0; clear n0; have g1 := n1; clear n1; have g2 := n2; clear n2; have g3 := n3; clear n3; have g4 := n4; clear n4; have g5 := n5; clear n5; have g6 := n6; clear n6; have g7 := n7; clear n7; have z0 := nz0; clear nz0; have z1 := nz1; clear nz1) | (go_at_call 48; refine (HS.out _).mono ?_; rintro rv w1 ⟨rfl, hb⟩; have ns : w.heap.size + 3 < w1.heap.size := hb.ltK; have n0 : w1.cell? ⟨w.heap.size, 0, none⟩ = some (.int .i64 e) := hb.cellK; have n1 : w1.cell? ⟨w.heap.size, 1, none⟩ = some (.int .i64 f) := hb.cellK; have n2 : w1.cell? ⟨w.heap.size + 1, 0, none⟩ = some (.int .i64 a) := hb.cellK; have n3 : w1.cell? ⟨w.heap.size + 1, 1, none⟩ = some (.int .i64 b) := hb.cellK; have n4 : w1.cell? ⟨w.heap.size + 2, 0, none⟩ = some (.int .i64 c) := hb.cellK; have n5 : w1.cell? ⟨w.heap.size + 2, 1, none⟩ = some (.int .i64 d) := hb.cellK; have n6 : w1.cell? ⟨w.heap.size + 3, 0, none⟩ = some (.int .i64 0) := hb.cellK; have n7 : w1.cell? ⟨w.heap.size + 3, 1, none⟩ = some (.int .i64 0) := hb.cellK; have nz0 : w1.frozen? ⟨w.heap.size + 3, 0, none⟩ = false := hb.frzK; have nz1 : w1.frozen? ⟨w.heap.size + 3, 1, none⟩ = false := hb.frzK; (first | (have nx := hx.trK hb; clear hx) | have nx := hb); clear hb; try clear hs; try clear g0; try clear g1; try clear g2; try clear g3; try clear g4; try clear g5; try clear g6; try clear g7; try clear z0; try clear z1; have hx := nx; clear nx; have hs := ns; clear ns; have g0 := n0; clear n0; have g1 := n1; clear n1; have g2 := n2; clear n2; have g3 := n3; clear n3; have g4 := n4; clear n4; have g5 := n5; clear n5; have g6 := n6; clear n6; have g7 := n7; clear n7; have z0 := nz0; clear nz0; have z1 := nz1; clear nz1))
  exact bodyPost_ret (v := .tuple #[two 0 0, .bool false]) (by simp [results, Tryz.results20, go_sem, *]) rfl ⟨rfl, Ext.auK⟩

set_option maxHeartbeats 3200000 in
theorem sDivideInterval_yes (e f a b c d x y : Int) (hg : (ivB e f a b && ivB e f c d) = true) (hz : hz0 e f c d = false) (hl : LoHi e f (diD e f a b c d) (diU e f a b c d) x y) (w : World) : Calls Tryz.prog 20 #[fmt e f, two a b, two c d] w fun rv w' => rv = .returned (.tuple #[two x y, .bool true]) ∧ Ext w w' := by
  have AI := Lib.hid (fun w => ivBoth_any e f a b c d w)
  rw [hg] at AI
  rw [Bool.and_eq_true] at hg
  obtain ⟨pa, pb⟩ := iv_pats hg.1
  obtain ⟨pc, pd⟩ := iv_pats hg.2
  have hgd := (pat_iff.1 pc).1
  have p0 : patB e f 0 = true := pat_iff.2 ⟨hgd, Int.le_refl _, by have := pw_pos (e + f); omega⟩
  have HS := Lib.hid (fun w => ivHas_any e f c d 0 pc pd p0 w)
  rw [hz_has (iv_parts hg.2).1 (iv_parts hg.2).2.1 hgd, hz] at HS
  have hC : Corners e f (diD e f a b c d) (diU e f a b c d) := dv_corners hg.1 hg.2 hz w
  have FO := Lib.hid (fun w => ivFour_di e f a b c d x y pa pb pc pd hl w)
  clear hg pa pb pc pd hl hC hgd p0
  go_enter Tryz.func20, Tryz.ntmps20
  go_wp2_with (first | (go_at_call 44; refine (AI.out _).mono ?_; rintro rv w1 ⟨rfl, hb⟩; have ns : w.heap.size + 3 < w1.heap.size := hb.ltK; have n0 : w1.cell? ⟨w.heap.size, 0, none⟩ = some (.int .i64 e) := hb.cellK; have n1 : w1.cell? ⟨w.heap.size, 1, none⟩ = some (.int .i64 f) := hb.cellK; have n2 : w1.cell? ⟨w.heap.size + 1, 0, none⟩ = some (.int .i64 a) := hb.cellK; have n3 : w1.cell? ⟨w.heap.size + 1, 1, none⟩ = some (.int .i64 b) := hb.cellK; have n4 : w1.cell? ⟨w.heap.size + 2, 0, none⟩ = some (.int .i64 c) := hb.cellK; have n5 : w1.cell? ⟨w.heap.size + 2, 1, none⟩ = some (.int .i64 d) := hb.cellK; have n6 : w1.cell? ⟨w.heap.size + 3, 0, none⟩ = some (.int .i64 0) := hb.cellK; have n7 : w1.cell? ⟨w.heap.size + 3, 1, none⟩ = some (.int .i64 0) := hb.cellK; have nz0 : w1.frozen? ⟨w.heap.size + 3, 0, none⟩ = false := hb.frzK; have nz1 : w1.frozen? ⟨w.heap.size + 3, 1, none⟩ = false := hb.frzK; (first | (have nx := hx.trK hb; clear hx) | have nx := hb); clear hb; try clear hs; try clear g0; try clear g1; try clear g2; try clear g3; try clear g4; try clear g5; try clear g6; try clear g7; try clear z0; try clear z1; have hx := nx; clear nx; have hs := ns; clear ns; have g0 := n0; clear n0; have g1 := n1; clear n1; have g2 := n2; clear n2; have g3 := n3; clear n3; have g4 := n4; clear n4; have g5 := n5; clear n5; have g6 := n6; clear n6; have g7 := n7; clear n7; have z0 := nz0; clear nz0; have z1 := nz1; clear nz1) | (go_at_call 48; refine (HS.out _).mono ?_; rintro rv w1 ⟨rfl, hb⟩; have ns : w.heap.size + 3 < w1.heap.size := hb.ltK; have n0 : w1.cell? ⟨w.heap.size, 0, none⟩ = some (.int .i64 e) := hb.cellK; have n1 : w1.cell? ⟨w.heap.size, 1, none⟩ = some (.int .i64 f) := hb.cellK; have n2 : w1.cell? ⟨w.heap.size + 1, 0, none⟩ = some (.int .i64 a) := hb.cellK; have n3 : w1.cell? ⟨w.heap.size + 1, 1, none⟩ = some (.int .i64 b) := hb.cellK; have n4 : w1.cell? ⟨w.heap.size + 2, 0, none⟩ = some (.int .i64 c) := hb.cellK; have n5 : w1.cell? ⟨w.heap.size + 2, 1, none⟩ = some (.int .i64 d) := hb.cellK; have n6 : w1.cell? ⟨w.heap.size + 3, 0, none⟩ = some (.int .i64 0) := hb.cellK; have n7 : w1.cell? ⟨w.heap.size + 3, 1, none⟩ = some (.int .i64 0) := hb.cellK; have nz0 : w1.frozen? ⟨w.heap.size + 3, 0, none⟩ = false := hb.frzK; have nz1 : w1.frozen? ⟨w.heap.size + 3, 1, none⟩ = false := hb.frzK; (first | (have nx := hx.trK hb; clear hx) | have nx := hb); clear hb; try clear hs; try clear g0; try clear g1; try clear g2; try clear g3; try clear g4; try clear g5; try clear g6; try clear g7; try clear z0; try clear z1; have hx := nx; clear nx; have hs := ns; clear ns; have g0 := n0; clear n0; have g1 := n1; clear n1; have g2 := n2; clear n2; have g3 := n3; clear n3; have g4 := n4; clear n4; have g5 := n5; clear n5; have g6 := n6; clear n6; have g7 := n7; clear n7; have z0 := nz0; clear nz0; have z1 := nz1; clear nz1) | (go_at_call 45; refine (FO.out _).mono ?_; rintro rv w1 ⟨rfl, hb⟩; have ns : w.heap.size + 3 < w1.heap.size := hb.ltK; have n0 : w1.cell? ⟨w.heap.size, 0, none⟩ = some (.int .i64 e) := hb.cellK; have n1 : w1.cell? ⟨w.heap.size, 1, none⟩ = some (.int .i64 f) := hb.cellK; have n2 : w1.cell? ⟨w.heap.size + 1, 0, none⟩ = some (.int .i64 a) := hb.cellK; have n3 : w1.cell? ⟨w.heap.size + 1, 1, none⟩ = some (.int .i64 b) := hb.cellK; have n4 : w1.cell? ⟨w.heap.size + 2, 0, none⟩ = some (.int .i64 c) := hb.cellK; have n5 : w1.cell? ⟨w.heap.size + 2, 1, none⟩ = some (.int .i64 d) := hb.cellK; have n6 : w1.cell? ⟨w.heap.size + 3, 0, none⟩ = some (.int .i64 0) := hb.cellK; have n7 : w1.cell? ⟨w.heap.size + 3, 1, none⟩ = some (.int .i64 0) := hb.cellK; have nz0 : w1.frozen? ⟨w.heap.size + 3, 0, none⟩ = false := hb.frzK; have nz1 : w1.frozen? ⟨w.heap.size + 3, 1, none⟩ = false := hb.frzK; (first | (have nx := hx.trK hb; clear hx) | have nx := hb); clear hb; try clear hs; try clear g0; try clear g1; try clear g2; try clear g3; try clear g4; try clear g5; try clear g6; try clear g7; try clear z0; try clear z1; have hx := nx; clear nx; have hs := ns; clear ns; have g0 := n0; clear n0; have g1 := n1; clear n1; have g2 := n2; clear n2; have g3 := n3; clear n3; have g4 := n4; clear n4; have g5 := n5; clear n5; have g6 := n6; clear n6; have g7 := n7; clear n7; have z0 := nz0; clear nz0; have z1 := nz1; clear nz1))
  exact bodyPost_ret (v := .tuple #[two x y, .bool true]) (by simp [results, Tryz.results20, go_sem, *]) rfl ⟨rfl, Ext.auK⟩

theorem wi_hz {e f c d : Int} (hg : goodB e f = true) : wiB e f 0 0 c d = hz0 e f c d := by unfold wiB hz0; rw [zero_sf e f hg]

theorem iDivideInterval_no (e f a b c d : Int) (hg : (ivB e f a b && ivB e f c d) = false) (w : World) : Calls Tryz.prog 21 #[fmt e f, two a b, two c d] w fun rv w' => rv = .returned (.tuple #[two 0 0, .bool false]) ∧ Ext w w' := by
  have AI := Lib.hid (fun w => areIv_any e f a b c d w)
  rw [hg] at AI
  go_enter Tryz.func21, Tryz.ntmps21
  go_wp2_with (go_at_call 46; refine (AI.out _).mono ?_; rintro rv w1 ⟨rfl, hb⟩; have ns : w.heap.size + 4 < w1.heap.size := hb.ltK; have n0 : w1.cell? ⟨w.heap.size, 0, none⟩ = some (.int .i64 e) := hb.cellK; have n1 : w1.cell? ⟨w.heap.size, 1, none⟩ = some (.int .i64 f) := hb.cellK; have n2 : w1.cell? ⟨w.heap.size + 1, 0, none⟩ = some (.int .i64 a) := hb.cellK; have n3 : w1.cell? ⟨w.heap.size + 1, 1, none⟩ = some (.int .i64 b) := hb.cellK; have n4 : w1.cell? ⟨w.heap.size + 2, 0, none⟩ = some (.int .i64 c) := hb.cellK; have n5 : w1.cell? ⟨w.heap.size + 2, 1, none⟩ = some (.int .i64 d) := hb.cellK; have n6 : w1.cell? ⟨w.heap.size + 4, 0, none⟩ = some (.int .i64 0) := hb.cellK; have n7 : w1.cell? ⟨w.heap.size + 4, 1, none⟩ = some (.int .i64 0) := hb.cellK; have n8 : w1.cell? ⟨w.heap.size + 3, 0, none⟩ = some (.int .i64 0) := hb.cellK; have n9 : w1.cell? ⟨w.heap.size + 3, 1, none⟩ = some (.int .i64 0) := hb.cellK; have nz0 : w1.frozen? ⟨w.heap.size + 3, 0, none⟩ = false := hb.frzK; have nz1 : w1.frozen? ⟨w.heap.size + 3, 1, none⟩ = false := hb.frzK; (first | (have nx := hx.trK hb; clear hx) | have nx := hb); clear hb; try clear hs; try clear g0; try clear g1; try clear g2; try clear g3; try clear g4; try clear g5; try clear g6; try clear g7; try clear g8; try clear g9; try clear z0; try clear z1; have hx := nx; clear nx; have hs := ns; clear ns; have g0 := n0; clear n0; have g1 := n1; clear n1; have g2 := n2; clear n2; have g3 := n3; clear n3; have g4 := n4; clear n4; have g5 := n5; clear n5; have g6 := n6; clear n6; have g7 := n7; clear n7; have g8 := n8; clear n8; have g9 := n9; clear n9; have z0 := nz0; clear nz0; have z1 := nz1; clear nz1)
  exact bodyPost_ret (v := .tuple #[two 0 0, .bool false]) (by simp [results, Tryz.results21, go_sem, *]) rfl ⟨rfl, Ext.auK⟩

theorem iDivideInterval_zero (e f a b c d : Int) (hg : (ivB e f a b && ivB e f c d) = true) (hz : hz0 e f c d = true) (w : World) : Calls Tryz.prog 21 #[fmt e f, two a b, two c d] w fun rv w' => rv = .returned (.tuple #[two 0 0, .bool false]) ∧ Ext w w' := by
  have AI := Lib.hid (fun w => areIv_any e f a b c d w)
  rw [hg] at AI
  rw [Bool.and_eq_true] at hg
  obtain ⟨pc, pd⟩ := iv_pats hg.2
  have hgd := (pat_iff.1 pc).1
  have p0 : patB e f 0 = true := pat_iff.2 ⟨hgd, Int.le_refl _, by have := pw_pos (e + f); omega⟩
  have HS := Lib.hid (fun w => isWithin_any e f 0 0 c d p0 p0 pc pd w)
  rw [wi_hz hgd, hz] at HS
  clear hg pc pd hgd p0
  go_enter Tryz.func21, Tryz.ntmps21
  go_wp2_with (first | (go_at_call 46; refine (AI.out _).mono ?_; rintro rv w1 ⟨rfl, hb⟩; have ns : w.heap.size + 4 < w1.heap.size := hb.ltK; have n0 : w1.cell? ⟨w.heap.size, 0, none⟩ = some (.int .i64 e) := hb.cellK; have n1 : w1.cell? ⟨w.heap.size, 1, none⟩ = some (.int .i64 f) := hb.cellK; have n2 : w1.cell? ⟨w.heap.size + 1, 0, none⟩ = some (.int .i64 a) := hb.cellK; have n3 : w1.cell? ⟨w.heap.size + 1, 1, none⟩ = some (.int .i64 b) := hb.cellK; have n4 : w1.cell? ⟨w.heap.size + 2, 0, none⟩ = some (.int .i64 c) := hb.cellK; have n5 : w1.cell? ⟨w.heap.size + 2, 1, none⟩ = some (.int .i64 d) := hb.cellK; have n6 : w1.cell? ⟨w.heap.size + 4, 0, none⟩ = some (.int .i64 0) := hb.cellK; have n7 : w1.cell? ⟨w.heap.size + 4, 1, none⟩ = some (.int .i64 0) := hb.cellK; have n8 : w1.cell? ⟨w.heap.size + 3, 0, none⟩ = some (.int .i64 0) := hb.cellK; have n9 : w1.cell? ⟨w.heap.size + 3, 1, none⟩ = some (.int .i64 0) := hb.cellK; have nz0 : w1.frozen? ⟨w.heap.size + 3, 0, none⟩ = false := hb.frzK; have nz1 : w1.frozen? ⟨w.heap.size + 3, 1, none⟩ = false := hb.frzK; (first | (have nx := hx.trK hb; clear hx) | have nx := hb); clear hb; try clear hs; try clear g0; try clear g1; try clear g2; try clear g3; try clear g4; try clear g5; try clear g6; try clear g7; try clear g8; try clear g9; try clear z0; try clear z1; have hx := nx; clear nx; have hs := ns; clear ns; have g0 := n0; clear n0; have g1 := n1; clear n1; have g2 := n2; clear n2; have g3 := n3; clear n3; have g4 := n4; clear n4; have g5 := n5; clear n5; have g6 := n6; clear n6; have g7 := n7; clear n7; have g8 := n8; clear n8; have g9 := n9; clear n9; have z0 := nz0; clear nz0; have z1 := nz1; clear nz1) | (go_at_call 49; refine (HS.out _).mono ?_; rintro rv w1 ⟨rfl, hb⟩; have ns : w.heap.size + 4 < w1.heap.size := hb.ltK; have n0 : w1.cell? ⟨w.heap.size, 0, none⟩ = some (.int .i64 e) := hb.cellK; have n1 : w1.cell? ⟨w.heap.size, 1, none⟩ = some (.int .i64 f) := hb.cellK; have n2 : w1.cell? ⟨w.heap.size + 1, 0, none⟩ = some (.int .i64 a) := hb.cellK; have n3 : w1.cell? ⟨w.heap.size + 1, 1, none⟩ = some (.int .i64 b) := hb.cellK; have n4 : w1.cell? ⟨w.heap.size + 2, 0, none⟩ = some (.int .i64 c) := hb.cellK; have n5 : w1.cell? ⟨w.heap.size + 2, 1, none⟩ = some (.int .i64 d) := hb.cellK; have n6 : w1.cell? ⟨w.heap.size + 4, 0, none⟩ = some (.int .i64 0) := hb.cellK; have n7 : w1.cell? ⟨w.heap.size + 4, 1, none⟩ = some (.int .i64 0) := hb.cellK; have n8 : w1.cell? ⟨w.heap.size + 3, 0, none⟩ = some (.int .i64 0) := hb.cellK; have n9 : w1.cell? ⟨w.heap.size + 3, 1, none⟩ = some (.int .i64 0) := hb.cellK; have nz0 : w1.frozen? ⟨w.heap.size + 3, 0, none⟩ = false := hb.frzK; have nz1 : w1.frozen? ⟨w.heap.size + 3, 1, none⟩ = false := hb.frzK; (first | (have nx := hx.trK hb; clear hx) | have nx := hb); clear hb; try clear hs; try clear g0; try clear g1; try clear g2; try clear g3; try clear g4; try clear g5; try clear g6; try clear g7; try clear g8; try clear g9; try clear z0; try clear z1; have hx := nx; clear nx; have hs := ns; clear ns; have g0 := n0; clear n0; have g1 := n1; clear n1; have g2 := n2; clear n2; have g3 := n3; clear n3; have g4 := n4; clear n4; have g5 := n5; clear n5; have g6 := n6; clear n6; have g7 := n7; clear n7; have g8 := n8; clear n8; have g9 := n9; clear n9; have z0 := nz0; clear nz0; have z1 := nz1; clear nz1))
  exact bodyPost_ret (v := .tuple #[two 0 0, .bool false]) (by simp [results, Tryz.results21, go_sem, *]) rfl ⟨rfl, Ext.auK⟩

set_option maxHeartbeats 3200000 in
theorem iDivideInterval_yes (e f a b c d x y : Int) (hg : (ivB e f a b && ivB e f c d) = true) (hz : hz0 e f c d = false) (hl : LoHi e f (diD e f a b c d) (diU e f a b c d) x y) (w : World) (hT : TW w) : Calls Tryz.prog 21 #[fmt e f, two a b, two c d] w fun rv w' => rv = .returned (.tuple #[two x y, .bool true]) ∧ Ext w w' := by
  have AI := Lib.hid (fun w => areIv_any e f a b c d w)
  rw [hg] at AI
  rw [Bool.and_eq_true] at hg
  obtain ⟨pa, pb⟩ := iv_pats hg.1
  obtain ⟨pc, pd⟩ := iv_pats hg.2
  have hgd := (pat_iff.1 pc).1
  have p0 : patB e f 0 = true := pat_iff.2 ⟨hgd, Int.le_refl _, by have := pw_pos (e + f); omega⟩
  have HS := Lib.hid (fun w => isWithin_any e f 0 0 c d p0 p0 pc pd w)
  rw [wi_hz hgd, hz] at HS
  have hC : Corners e f (diD e f a b c d) (diU e f a b c d) := dv_corners hg.1 hg.2 hz w
  have FO := Lib.hid (fun w hT => ofCorners_di e f a b c d x y pa pb pc pd hC hl w hT)
  clear hg pa pb pc pd hl hC hgd p0
  go_enter Tryz.func21, Tryz.ntmps21
  go_wp2_with (first | (go_at_call 46; refine (AI.out _).mono ?_; rintro rv w1 ⟨rfl, hb⟩; have ns : w.heap.size + 4 < w1.heap.size := hb.ltK; have n0 : w1.cell? ⟨w.heap.size, 0, none⟩ = some (.int .i64 e) := hb.cellK; have n1 : w1.cell? ⟨w.heap.size, 1, none⟩ = some (.int .i64 f) := hb.cellK; have n2 : w1.cell? ⟨w.heap.size + 1, 0, none⟩ = some (.int .i64 a) := hb.cellK; have n3 : w1.cell? ⟨w.heap.size + 1, 1, none⟩ = some (.int .i64 b) := hb.cellK; have n4 : w1.cell? ⟨w.heap.size + 2, 0, none⟩ = some (.int .i64 c) := hb.cellK; have n5 : w1.cell? ⟨w.heap.size + 2, 1, none⟩ = some (.int .i64 d) := hb.cellK; have n6 : w1.cell? ⟨w.heap.size + 4, 0, none⟩ = some (.int .i64 0) := hb.cellK; have n7 : w1.cell? ⟨w.heap.size + 4, 1, none⟩ = some (.int .i64 0) := hb.cellK; have n8 : w1.cell? ⟨w.heap.size + 3, 0, none⟩ = some (.int .i64 0) := hb.cellK; have n9 : w1.cell? ⟨w.heap.size + 3, 1, none⟩ = some (.int .i64 0) := hb.cellK; have nz0 : w1.frozen? ⟨w.heap.size + 3, 0, none⟩ = false := hb.frzK; have nz1 : w1.frozen? ⟨w.heap.size + 3, 1, none⟩ = false := hb.frzK; (first | (have nx := hx.trK hb; clear hx) | have nx := hb); clear hb; try clear hs; try clear g0; try clear g1; try clear g2; try clear g3; try clear g4; try clear g5; try clear g6; try clear g7; try clear g8; try clear g9; try clear z0; try clear z1; have hx := nx; clear nx; have hs := ns; clear ns; have g0 := n0; clear n0; have g1 := n1; clear n1; have g2 := n2; clear n2; have g3 := n3; clear n3; have g4 := n4; clear n4; have g5 := n5; clear n5; have g6 := n6; clear n6; have g7 := n7; clear n7; have g8 := n8; clear n8; have g9 := n9; clear n9; have z0 := nz0; clear nz0; have z1 := nz1; clear nz1) | (go_at_call 49; refine (HS.out _).mono ?_; rintro rv w1 ⟨rfl, hb⟩; have ns : w.heap.size + 4 < w1.heap.size := hb.ltK; have n0 : w1.cell? ⟨w.heap.size, 0, none⟩ = some (.int .i64 e) := hb.cellK; have n1 : w1.cell? ⟨w.heap.size, 1, none⟩ = some (.int .i64 f) := hb.cellK; have n2 : w1.cell? ⟨w.heap.size + 1, 0, none⟩ = some (.int .i64 a) := hb.cellK; have n3 : w1.cell? ⟨w.heap.size + 1, 1, none⟩ = some (.int .i64 b) := hb.cellK; have n4 : w1.cell? ⟨w.heap.size + 2, 0, none⟩ = some (.int .i64 c) := hb.cellK; have n5 : w1.cell? ⟨w.heap.size + 2, 1, none⟩ = some (.int .i64 d) := hb.cellK; have n6 : w1.cell? ⟨w.heap.size + 4, 0, none⟩ = some (.int .i64 0) := hb.cellK; have n7 : w1.cell? ⟨w.heap.size + 4, 1, none⟩ = some (.int .i64 0) := hb.cellK; have n8 : w1.cell? ⟨w.heap.size + 3, 0, none⟩ = some (.int .i64 0) := hb.cellK; have n9 : w1.cell? ⟨w.heap.size + 3, 1, none⟩ = some (.int .i64 0) := hb.cellK; have nz0 : w1.frozen? ⟨w.heap.size + 3, 0, none⟩ = false := hb.frzK; have nz1 : w1.frozen? ⟨w.heap.size + 3, 1, none⟩ = false := hb.frzK; (first | (have nx := hx.trK hb; clear hx) | have nx := hb); clear hb; try clear hs; try clear g0; try clear g1; try clear g2; try clear g3; try clear g4; try clear g5; try clear g6; try clear g7; try clear g8; try clear g9; try clear z0; try clear z1; have hx := nx; clear nx; have hs := ns; clear ns; have g0 := n0; clear n0; have g1 := n1; clear n1; have g2 := n2; clear n2; have g3 := n3; clear n3; have g4 := n4; clear n4; have g5 := n5; clear n5; have g6 := n6; clear n6; have g7 := n7; clear n7; have g8 := n8; clear n8; have g9 := n9; clear n9; have z0 := nz0; clear nz0; have z1 := nz1; clear nz1) | (go_at_call 47; refine (FO.out _ (hT.ext Ext.auK)).mono ?_; rintro rv w1 ⟨rfl, hb⟩; have ns : w.heap.size + 4 < w1.heap.size := hb.ltK; have n0 : w1.cell? ⟨w.heap.size, 0, none⟩ = some (.int .i64 e) := hb.cellK; have n1 : w1.cell? ⟨w.heap.size, 1, none⟩ = some (.int .i64 f) := hb.cellK; have n2 : w1.cell? ⟨w.heap.size + 1, 0, none⟩ = some (.int .i64 a) := hb.cellK; have n3 : w1.cell? ⟨w.heap.size + 1, 1, none⟩ = some (.int .i64 b) := hb.cellK; have n4 : w1.cell? ⟨w.heap.size + 2, 0, none⟩ = some (.int .i64 c) := hb.cellK; have n5 : w1.cell? ⟨w.heap.size + 2, 1, none⟩ = some (.int .i64 d) := hb.cellK; have n6 : w1.cell? ⟨w.heap.size + 4, 0, none⟩ = some (.int .i64 0) := hb.cellK; have n7 : w1.cell? ⟨w.heap.size + 4, 1, none⟩ = some (.int .i64 0) := hb.cellK; have n8 : w1.cell? ⟨w.heap.size + 3, 0, none⟩ = some (.int .i64 0) := hb.cellK; have n9 : w1.cell? ⟨w.heap.size + 3, 1, none⟩ = some (.int .i64 0) := hb.cellK; have nz0 : w1.frozen? ⟨w.heap.size + 3, 0, none⟩ = false := hb.frzK; have nz1 : w1.frozen? ⟨w.heap.size + 3, 1, none⟩ = false := hb.frzK; (first | (have nx := hx.trK hb; clear hx) | have nx := hb); clear hb; try clear hs; try clear g0; try clear g1; try clear g2; try clear g3; try clear g4; try clear g5; try clear g6; try clear g7; try clear g8; try clear g9; try clear z0; try clear z1; have hx := nx; clear nx; have hs := ns; clear ns; have g0 := n0; clear n0; have g1 := n1; clear n1; have g2 := n2; clear n2; have g3 := n3; clear n3; have g4 := n4; clear n4; have g5 := n5; clear n5; have g6 := n6; clear n6; have g7 := n7; clear n7; have g8 := n8; clear n8; have g9 := n9; clear n9; have z0 := nz0; clear nz0; have z1 := nz1; clear nz1))
  exact bodyPost_ret (v := .tuple #[two x y, .bool true]) (by simp [results, Tryz.results21, go_sem, *]) rfl ⟨rfl, Ext.auK⟩
end Go.Proofs.YtfgbndjhaiigbaaGreatDoor

