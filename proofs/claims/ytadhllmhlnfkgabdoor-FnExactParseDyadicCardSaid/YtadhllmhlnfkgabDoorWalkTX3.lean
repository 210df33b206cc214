/-
  A text is read as a dyadic number, by the model.
-/
import Derived.Test.YtadhllmhlnfkgabDoorRows
import Derived.Test.YtadhllmhlnfkgabDoorPlain
import Derived.Test.YtadhllmhlnfkgabDoorBelow
import Derived.Test.YtadhllmhlnfkgabDoorNear
import Derived.Test.YtadhllmhlnfkgabDoorDy
import Derived.Test.YtadhllmhlnfkgabDoorDyC
import Derived.Test.YtadhllmhlnfkgabDoorWalkA
import Derived.Test.YtadhllmhlnfkgabDoorWalkDA
import Derived.Test.YtadhllmhlnfkgabDoorWalkTX1
import Derived.Test.YtadhllmhlnfkgabDoorTxt
import Derived.Test.YtadhllmhlnfkgabDoorWalkTX2
import Derived.Test.YtadhllmhlnfkgabDoorWalkC
import Derived.Test.YtadhllmhlnfkgabDoorWalkDB
import Derived.Test.YtadhllmhlnfkgabDoorWalkDE
import Derived.WalkKit
import Derived.LoopTactic
import Derived.Laws.Bits64b
import Derived.WalkSpells
import Derived.WalkLawsBesides
import Derived.StillTactics
import Derived.Laws.Pointers
import Derived.Deep.RegionHeld3
import Derived.Deep.QuietTactic
import Derived.BigQuiet
import Derived.Outline
import Derived.Lib.Hide
import Derived.RowKit3
import Derived.Carry
import Derived.IntWalk
import Derived.Lib.ItoaNum
import Derived.Laws.BytesString
namespace Go.Proofs.YtadhllmhlnfkgabDoor
open Go Go.RowKit
set_option linter.unusedSimpArgs false
set_option linter.unusedVariables false

set_option maxRecDepth 100000

/-- A text is that of a dyadic number. -/
def TxD (s : ByteArray) (n d : Int) : Prop := dyB n d = true ∧ s.data.toList = Lib.itoa n ++ [42, 50, 94] ++ Lib.itoa d
theorem star_size : (ByteArray.mk #[42, 50, 94]).size = 3 := rfl

set_option maxHeartbeats 3200000 in
theorem rdParse_no (s : ByteArray) (hs : s.size ≤ 1048576) (hno : ∀ n d, ¬ TxD s n d) (w : World) : Calls Tryd.prog 55 #[.string s] w fun rv w' => rv = .returned (.tuple #[two 0 0, .bool false]) ∧ Ext w w' := by
  have HNO := Lib.hid hno; clear hno
  go_enter Tryd.func55, Tryd.ntmps55
  by_cases h30 : s.size ≤ 30
  · have q30 : ¬ (30 : Int) < (s.size : Int) := by omega
    go_wp2_with go_in
    go_loopw [4] (fun s4 wr => ∃ k : Nat, s4 = .int .i64 (k : Int) ∧ k ≤ 30 ∧ wr.cell? ⟨w.heap.size, 0, none⟩ = some (.int .i64 0) ∧ wr.cell? ⟨w.heap.size, 1, none⟩ = some (.int .i64 0) ∧ wr.frozen? ⟨w.heap.size, 0, none⟩ = false ∧ wr.frozen? ⟨w.heap.size, 1, none⟩ = false ∧ w.heap.size < wr.heap.size ∧ Ext w wr) (fun x _ => 40 - (intOf x).toNat)
    case atStart => exact ⟨0, rfl, by decide, by simp, by simp, by simp [go_sem], by simp [go_sem], by simp, (by repeat (first | exact Ext.refl _ | with_reducible assumption | apply Ext.alloc | apply Ext.drew | apply Ext.drewN | (refine Ext.setRow ?_ (by first | (simp; done) | (simp; omega) | omega) _) | (refine Ext.setCell ?_ (by first | (simp; done) | (simp; omega) | omega) _) | (refine Ext.trans ?_ (by with_reducible assumption))))⟩
    case round =>
      obtain ⟨k, rfl, k30, g0, g1, z0, z1, hsz, hx⟩ := hrel
      have k2 : IntKind.i64.wrap ((k : Int) + 2) = (k : Int) + 2 := IntWalk.i64_in _ (by omega)
      have k3 : IntKind.i64.wrap ((k : Int) + 3) = (k : Int) + 3 := IntWalk.i64_in _ (by omega)
      have k0 : (0 : Int) ≤ (k : Int) := by omega
      by_cases hk : k + 2 < s.size
      · have q1 : ((k : Nat) : Int) + 2 < (s.size : Int) := by omega
        have q2 : ((k : Nat) : Int) + 3 ≤ (s.size : Int) := by omega
        by_cases hm : (s.extract k (k + 3)).toList = [42, 50, 94]
        · have hmb : ((s.extract k (k + 3)).toList == [42, 50, 94]) = true := by simpa using hm
          have SL1 : ∀ w, (Instr.slice 9 (.string s) none (some (.int .i64 (k : Int))) none).run Tryd.prog w = .ok (.string (s.extract 0 k)) w := fun w => by rw [run_slice_string_to_if _ _ _ _ _ Tryd.underlying9, if_pos ⟨by omega, by omega⟩]; rfl
          have SL2 : ∀ w, (Instr.slice 9 (.string s) (some (.int .i64 ((k : Int) + 3))) none none).run Tryd.prog w = .ok (.string (s.extract (k + 3) s.size)) w := fun w => by rw [run_slice_string_from_if _ _ _ _ _ Tryd.underlying9, if_pos ⟨by omega, by omega⟩]; rfl
          have W1 := Lib.hid (fun w => rdWhole_any (s.extract 0 k) (by simp; omega) w)
          have W2 := Lib.hid (fun w => rdWhole_any (s.extract (k + 3) s.size) (by simp; omega) w)
          generalize rwV (s.extract 0 k) = v1 at *
          generalize rwV (s.extract (k + 3) s.size) = v2 at *
          have RGC := fun w => rdGood_any v1 v2 w
          cases hd : dyB v1 v2
          · rw [hd] at RGC
            have RGC := Lib.hid RGC
            clear hm hd
            go_wp2_with fail
            first | (go_region_with (first | (go_at_call 97; (with_reducible refine (W1.out _).mono ?_); rintro rv w1 ⟨rfl, rfl⟩) | (go_at_call 97; (with_reducible refine (W2.out _).mono ?_); rintro rv w1 ⟨rfl, rfl⟩))) | fail
            all_goals go_wp2_with (go_at_call 51; refine (RGC.out _).mono ?_; rintro rv w3 ⟨rfl, hb⟩; have hy : Ext wr w3 := Ext.trans (by repeat (first | exact Ext.refl _ | with_reducible assumption | apply Ext.alloc | apply Ext.drew | apply Ext.drewN | (refine Ext.setRow ?_ (by first | (simp; done) | (simp; omega) | omega) _) | (refine Ext.setCell ?_ (by first | (simp; done) | (simp; omega) | omega) _) | (refine Ext.trans ?_ (by with_reducible assumption)))) hb; have n0 : w3.cell? ⟨wr.heap.size, 0, none⟩ = some (.int .i64 v1) := (hb.cells _ _ (by simp)).trans (by simp [go_sem]); have n1 : w3.cell? ⟨wr.heap.size, 1, none⟩ = some (.int .i64 v2) := (hb.cells _ _ (by simp)).trans (by simp [go_sem]); have n2 : w3.cell? ⟨w.heap.size, 0, none⟩ = some (.int .i64 0) := (hy.cells _ _ hsz).trans g0; have n3 : w3.cell? ⟨w.heap.size, 1, none⟩ = some (.int .i64 0) := (hy.cells _ _ hsz).trans g1; have n4 := (hy.frz _ _ hsz).trans z0; have n5 := (hy.frz _ _ hsz).trans z1; have n6 : wr.heap.size < w3.heap.size := hb.lt (by simp); have n7 : w.heap.size < w3.heap.size := (by omega); have n8 := Ext.trans hx hy; clear hb hy g0 g1 z0 z1 hsz hx; have hx := n8; clear n8)
            all_goals go_roundw
            all_goals first | (simp [intOf]; done) | (simp [intOf]; omega) | exact ⟨k + 1, by simp, by omega, by with_reducible assumption, by with_reducible assumption, by with_reducible assumption, by with_reducible assumption, by omega, (by repeat (first | exact Ext.refl _ | with_reducible assumption | apply Ext.alloc | apply Ext.drew | apply Ext.drewN | (refine Ext.setRow ?_ (by first | (simp; done) | (simp; omega) | omega) _) | (refine Ext.setCell ?_ (by first | (simp; done) | (simp; omega) | omega) _) | (refine Ext.trans ?_ (by with_reducible assumption))))⟩
          · rw [hd] at RGC
            have RGC := Lib.hid RGC
            obtain ⟨⟨b1, b2, b3, b4⟩, _⟩ := dy_iff.1 hd
            have RTC := Lib.hid (fun w => rdText_any v1 v2 (by omega) (by omega) (by omega) (by omega) w)
            have hne := HNO.out v1 v2
            have hne2 : ¬ (⟨(Lib.itoa v1 ++ [42, 50, 94] ++ Lib.itoa v2).toArray⟩ : ByteArray) = s := fun h => hne ⟨hd, by rw [← h]⟩
            clear hm hd hne b1 b2 b3 b4
            generalize Lib.itoa v1 ++ [42, 50, 94] ++ Lib.itoa v2 = tx at *
            have hnb : (tx == s.toList) = false := by
              rw [beq_eq_false_iff_ne]
              intro h
              exact hne2 (by rw [h, ByteArray.toList_eq])
            go_wp2_with fail
            first | (go_region_with (first | (go_at_call 97; (with_reducible refine (W1.out _).mono ?_); rintro rv w1 ⟨rfl, rfl⟩) | (go_at_call 97; (with_reducible refine (W2.out _).mono ?_); rintro rv w1 ⟨rfl, rfl⟩))) | fail
            all_goals go_wp2_with (first | (go_at_call 51; refine (RGC.out _).mono ?_; rintro rv w3 ⟨rfl, hb⟩; have hy : Ext wr w3 := Ext.trans (by repeat (first | exact Ext.refl _ | with_reducible assumption | apply Ext.alloc | apply Ext.drew | apply Ext.drewN | (refine Ext.setRow ?_ (by first | (simp; done) | (simp; omega) | omega) _) | (refine Ext.setCell ?_ (by first | (simp; done) | (simp; omega) | omega) _) | (refine Ext.trans ?_ (by with_reducible assumption)))) hb; have n0 : w3.cell? ⟨wr.heap.size, 0, none⟩ = some (.int .i64 v1) := (hb.cells _ _ (by simp)).trans (by simp [go_sem]); have n1 : w3.cell? ⟨wr.heap.size, 1, none⟩ = some (.int .i64 v2) := (hb.cells _ _ (by simp)).trans (by simp [go_sem]); have n2 : w3.cell? ⟨w.heap.size, 0, none⟩ = some (.int .i64 0) := (hy.cells _ _ hsz).trans g0; have n3 : w3.cell? ⟨w.heap.size, 1, none⟩ = some (.int .i64 0) := (hy.cells _ _ hsz).trans g1; have n4 := (hy.frz _ _ hsz).trans z0; have n5 := (hy.frz _ _ hsz).trans z1; have n6 : wr.heap.size < w3.heap.size := hb.lt (by simp); have n7 : w.heap.size < w3.heap.size := (by omega); have n8 := Ext.trans hx hy; clear hb hy g0 g1 z0 z1 hsz hx; have hx := n8; clear n8) | (go_at_call 52; refine (RTC.out _).mono ?_; rintro rv w4 ⟨rfl, hb⟩; have m0 := (hb.cells _ _ n7).trans n2; have m1 := (hb.cells _ _ n7).trans n3; have m2 := (hb.frz _ _ n7).trans n4; have m3 := (hb.frz _ _ n7).trans n5; have m4 := (hb.cells _ _ n6).trans n0; have m5 := (hb.cells _ _ n6).trans n1; have m7 := hb.lt n7; have m6 := hb.lt n6; have m8 := Ext.trans hx hb; clear n0 n1 n2 n3 n4 n5 n7 n6 hx hb; have hx := m8; clear m8))
            all_goals go_roundw
            all_goals first | (simp [intOf]; done) | (simp [intOf]; omega) | exact ⟨k + 1, by simp, by omega, by with_reducible assumption, by with_reducible assumption, by with_reducible assumption, by with_reducible assumption, by omega, (by repeat (first | exact Ext.refl _ | with_reducible assumption | apply Ext.alloc | apply Ext.drew | apply Ext.drewN | (refine Ext.setRow ?_ (by first | (simp; done) | (simp; omega) | omega) _) | (refine Ext.setCell ?_ (by first | (simp; done) | (simp; omega) | omega) _) | (refine Ext.trans ?_ (by with_reducible assumption))))⟩
        · have hmb : ((s.extract k (k + 3)).toList == [42, 50, 94]) = false := by simpa using hm
          clear hm
          go_wp2
          go_roundw
          all_goals first | (simp [intOf]; done) | (simp [intOf]; omega) | exact ⟨k + 1, by simp, by omega, g0, g1, z0, z1, hsz, hx⟩
      · have q1 : ¬ ((k : Nat) : Int) + 2 < (s.size : Int) := by omega
        go_wp2
        exact bodyPost_ret (v := .tuple #[two 0 0, .bool false]) (by simp [results, Tryd.results55, go_sem, *]) rfl ⟨rfl, (by repeat (first | exact Ext.refl _ | with_reducible assumption | apply Ext.alloc | apply Ext.drew | apply Ext.drewN | (refine Ext.setRow ?_ (by first | (simp; done) | (simp; omega) | omega) _) | (refine Ext.setCell ?_ (by first | (simp; done) | (simp; omega) | omega) _) | (refine Ext.trans ?_ (by with_reducible assumption))))⟩
  · have q30 : (30 : Int) < (s.size : Int) := by omega
    go_wp2
    exact bodyPost_ret (v := .tuple #[two 0 0, .bool false]) (by simp [results, Tryd.results55, go_sem, *]) rfl ⟨rfl, (by repeat (first | exact Ext.refl _ | with_reducible assumption | apply Ext.alloc | apply Ext.drew | apply Ext.drewN | (refine Ext.setRow ?_ (by first | (simp; done) | (simp; omega) | omega) _) | (refine Ext.setCell ?_ (by first | (simp; done) | (simp; omega) | omega) _) | (refine Ext.trans ?_ (by with_reducible assumption))))⟩

theorem xtr (s : ByteArray) (a b : Nat) : (s.extract a b).data.toList = (s.data.toList.drop a).take (b - a) := by simp [List.extract_eq_take_drop]

theorem itoa_fit {n : Int} {k : Nat} (h1 : -(10 ^ (k + 1) : Nat) < n) (h2 : n < (10 ^ (k + 1) : Nat)) : (Lib.itoa n).length ≤ k + 2 := by
  by_cases hn : n < 0
  · rw [itoa_neg hn, List.length_cons]
    have := dec_len k (-n).toNat (by omega)
    omega
  · rw [itoa_pos hn]
    have := dec_len k n.toNat (by omega)
    omega

set_option maxHeartbeats 3200000 in
theorem rdParse_yes (s : ByteArray) (n d : Int) (hyes : TxD s n d) (w : World) : Calls Tryd.prog 55 #[.string s] w fun rv w' => rv = .returned (.tuple #[two n d, .bool true]) ∧ Ext w w' := by
  obtain ⟨hd, hy⟩ := hyes
  obtain ⟨⟨b1, b2, b3, b4⟩, _⟩ := dy_iff.1 hd
  have hss : s.data.toList.length = s.size := by simp
  have ln := itoa_fit (n := n) (k := 15) (by simp; omega) (by simp; omega)
  have ld := itoa_fit (n := d) (k := 2) (by simp; omega) (by simp; omega)
  have hsz0 := hss
  rw [hy] at hsz0
  simp only [List.length_append, List.length_cons, List.length_nil] at hsz0
  have h42 : ∀ c ∈ Lib.itoa n, c ≠ 42 := fun c hc e => by have := itoa_chars n c hc; subst e; revert this; decide
  have TXT := Lib.hid hy
  have N42 := Lib.hid h42
  clear hy h42 hss
  have hs : s.size ≤ 1048576 := by omega
  have h30 : s.size ≤ 30 := by omega
  generalize hp : (Lib.itoa n).length = p at *
  go_enter Tryd.func55, Tryd.ntmps55
  have q30 : ¬ (30 : Int) < (s.size : Int) := by omega
  go_wp2_with go_in
  go_loopw [4] (fun s4 wr => ∃ k : Nat, s4 = .int .i64 (k : Int) ∧ k ≤ p ∧ wr.cell? ⟨w.heap.size, 0, none⟩ = some (.int .i64 0) ∧ wr.cell? ⟨w.heap.size, 1, none⟩ = some (.int .i64 0) ∧ wr.frozen? ⟨w.heap.size, 0, none⟩ = false ∧ wr.frozen? ⟨w.heap.size, 1, none⟩ = false ∧ w.heap.size < wr.heap.size ∧ Ext w wr) (fun x _ => 40 - (intOf x).toNat)
  case atStart => exact ⟨0, rfl, by omega, by simp, by simp, by simp [go_sem], by simp [go_sem], by simp, (by repeat (first | exact Ext.refl _ | with_reducible assumption | apply Ext.alloc | apply Ext.drew | apply Ext.drewN | (refine Ext.setRow ?_ (by first | (simp; done) | (simp; omega) | omega) _) | (refine Ext.setCell ?_ (by first | (simp; done) | (simp; omega) | omega) _) | (refine Ext.trans ?_ (by with_reducible assumption))))⟩
  case round =>
    obtain ⟨k, rfl, kp, g0, g1, z0, z1, hsz, hx⟩ := hrel
    have k2 : IntKind.i64.wrap ((k : Int) + 2) = (k : Int) + 2 := IntWalk.i64_in _ (by omega)
    have k3 : IntKind.i64.wrap ((k : Int) + 3) = (k : Int) + 3 := IntWalk.i64_in _ (by omega)
    have k0 : (0 : Int) ≤ (k : Int) := by omega
    have q1 : ((k : Nat) : Int) + 2 < (s.size : Int) := by omega
    have q2 : ((k : Nat) : Int) + 3 ≤ (s.size : Int) := by omega
    by_cases hk : k = p
    · have hmb : ((s.extract k (k + 3)).toList == [42, 50, 94]) = true := by
        rw [beq_iff_eq, ByteArray.toList_eq, xtr, TXT.out, hk, List.append_assoc, List.drop_left' hp]
        simp
      have E1 : rwV (s.extract 0 k) = n := rw_itoa (by rw [xtr, TXT.out, hk, List.append_assoc]; simp [← hp]) (by omega)
      have E2 : rwV (s.extract (k + 3) s.size) = d := rw_itoa (by
        rw [xtr, TXT.out, List.drop_left' (by simp; omega)]
        exact List.take_of_length_le (by omega)) (by omega)
      have SL1 : ∀ w, (Instr.slice 9 (.string s) none (some (.int .i64 (k : Int))) none).run Tryd.prog w = .ok (.string (s.extract 0 k)) w := fun w => by rw [run_slice_string_to_if _ _ _ _ _ Tryd.underlying9, if_pos ⟨by omega, by omega⟩]; rfl
      have SL2 : ∀ w, (Instr.slice 9 (.string s) (some (.int .i64 ((k : Int) + 3))) none none).run Tryd.prog w = .ok (.string (s.extract (k + 3) s.size)) w := fun w => by rw [run_slice_string_from_if _ _ _ _ _ Tryd.underlying9, if_pos ⟨by omega, by omega⟩]; rfl
      have W1 := Lib.hid (fun w => rdWhole_any (s.extract 0 k) (by simp; omega) w)
      have W2 := Lib.hid (fun w => rdWhole_any (s.extract (k + 3) s.size) (by simp; omega) w)
      rw [E1] at W1
      rw [E2] at W2
      have RGC := fun w => rdGood_any n d w
      rw [hd] at RGC
      have RGC := Lib.hid RGC
      have RTC := Lib.hid (fun w => rdText_any n d (by omega) (by omega) (by omega) (by omega) w)
      have hnb : (Lib.itoa n ++ [42, 50, 94] ++ Lib.itoa d == s.toList) = true := by rw [beq_iff_eq, ByteArray.toList_eq]; exact TXT.out.symm
      clear hd b1 b2 b3 b4 hk kp ln ld hsz0 E1 E2
      generalize Lib.itoa n ++ [42, 50, 94] ++ Lib.itoa d = tx at *
      go_wp2_with fail
      first | (go_region_with (first | (go_at_call 97; (with_reducible refine (W1.out _).mono ?_); rintro rv w1 ⟨rfl, rfl⟩) | (go_at_call 97; (with_reducible refine (W2.out _).mono ?_); rintro rv w1 ⟨rfl, rfl⟩))) | fail
      all_goals go_wp2_with (first | (go_at_call 51; refine (RGC.out _).mono ?_; rintro rv w3 ⟨rfl, hb⟩; have hy : Ext wr w3 := Ext.trans (by repeat (first | exact Ext.refl _ | with_reducible assumption | apply Ext.alloc | apply Ext.drew | apply Ext.drewN | (refine Ext.setRow ?_ (by first | (simp; done) | (simp; omega) | omega) _) | (refine Ext.setCell ?_ (by first | (simp; done) | (simp; omega) | omega) _) | (refine Ext.trans ?_ (by with_reducible assumption)))) hb; have n0 : w3.cell? ⟨wr.heap.size, 0, none⟩ = some (.int .i64 n) := (hb.cells _ _ (by simp)).trans (by simp [go_sem]); have n1 : w3.cell? ⟨wr.heap.size, 1, none⟩ = some (.int .i64 d) := (hb.cells _ _ (by simp)).trans (by simp [go_sem]); have n2 : w3.cell? ⟨w.heap.size, 0, none⟩ = some (.int .i64 0) := (hy.cells _ _ hsz).trans g0; have n3 : w3.cell? ⟨w.heap.size, 1, none⟩ = some (.int .i64 0) := (hy.cells _ _ hsz).trans g1; have n4 := (hy.frz _ _ hsz).trans z0; have n5 := (hy.frz _ _ hsz).trans z1; have n6 : wr.heap.size < w3.heap.size := hb.lt (by simp); have n7 : w.heap.size < w3.heap.size := (by omega); have n8 := Ext.trans hx hy; clear hb hy g0 g1 z0 z1 hsz hx; have hx := n8; clear n8) | (go_at_call 52; refine (RTC.out _).mono ?_; rintro rv w4 ⟨rfl, hb⟩; have m0 := (hb.cells _ _ n7).trans n2; have m1 := (hb.cells _ _ n7).trans n3; have m2 := (hb.frz _ _ n7).trans n4; have m3 := (hb.frz _ _ n7).trans n5; have m4 := (hb.cells _ _ n6).trans n0; have m5 := (hb.cells _ _ n6).trans n1; have m7 := hb.lt n7; have m6 := hb.lt n6; have m8 := Ext.trans hx hb; clear n0 n1 n2 n3 n4 n5 n7 n6 hx hb; have hx := m8; clear m8))
      all_goals exact bodyPost_ret (v := .tuple #[two n d, .bool true]) (by simp [results, Tryd.results55, go_sem, *]) rfl ⟨rfl, (by repeat (first | exact Ext.refl _ | with_reducible assumption | apply Ext.alloc | apply Ext.drew | apply Ext.drewN | (refine Ext.setRow ?_ (by first | (simp; done) | (simp; omega) | omega) _) | (refine Ext.setCell ?_ (by first | (simp; done) | (simp; omega) | omega) _) | (refine Ext.trans ?_ (by with_reducible assumption))))⟩
    · have hmb : ((s.extract k (k + 3)).toList == [42, 50, 94]) = false := by
        rw [beq_eq_false_iff_ne, ByteArray.toList_eq, xtr, TXT.out]
        intro h
        have hlt : k < (Lib.itoa n).length := by omega
        rw [List.append_assoc, List.drop_append_of_le_length (by omega), List.drop_eq_getElem_cons hlt] at h
        have e3 : k + 3 - k = 3 := by omega
        rw [e3, List.cons_append, List.take_succ_cons] at h
        exact N42.out _ (List.getElem_mem hlt) (List.cons.inj h).1
      clear hd
      go_wp2
      go_roundw
      all_goals first | (simp [intOf]; done) | (simp [intOf]; omega) | exact ⟨k + 1, by simp, by omega, g0, g1, z0, z1, hsz, hx⟩

end Go.Proofs.YtadhllmhlnfkgabDoor
