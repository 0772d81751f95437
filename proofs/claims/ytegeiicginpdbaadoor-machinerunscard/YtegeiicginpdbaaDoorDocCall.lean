/-
  What a call leaves, by the document's answer. Conditions: numbers are of 64 bits.
-/
import Derived.Test.YtegeiicginpdbaaDoorDocWord
import Derived.Test.YtegeiicginpdbaaDoorRegionHand
namespace Go.Proofs.YtegeiicginpdbaaDoor
open Go.ChangeShapes Go.WideShapes Go.ChangeAt Go.RowKit
attribute [local simp] drew_size drewN_size setCell_size
def Dox.loseTo (m : Dox) (j : Nat) : Dox := { m with reg := fun i => if 1 ≤ i ∧ i < j then none0 else m.reg i }
theorem Dox.lose_one (m : Dox) : m.loseTo 1 = m := by
  unfold Dox.loseTo
  have : (fun i => if 1 ≤ i ∧ i < 1 then none0 else m.reg i) = m.reg := by funext i; rw [if_neg (by omega)]
  rw [this]
theorem Dox.lose_next (m : Dox) (j : Nat) (h : 1 ≤ j) : (m.loseTo j).putReg j none0 = m.loseTo (j + 1) := by
  unfold Dox.loseTo Dox.putReg
  congr 1
  funext i
  show (if i = j then none0 else if 1 ≤ i ∧ i < j then none0 else m.reg i) = if 1 ≤ i ∧ i < j + 1 then none0 else m.reg i
  by_cases e : i = j
  · rw [if_pos e, if_pos (by omega)]
  · rw [if_neg e]
    by_cases e2 : 1 ≤ i ∧ i < j
    · rw [if_pos e2, if_pos (by omega)]
    · rw [if_neg e2, if_neg (by omega)]
theorem DoxAt.reg3 {w : World} {B d : Nat} {m : Dox} (h : DoxAt w B m) (hd : d < 11) : w.cell? ⟨B, d * 3, none⟩ = some (.int .u8 (kd (m.reg d).k)) ∧ w.cell? ⟨B, d * 3 + 1, none⟩ = some (.int .i64 (m.reg d).n) ∧ w.cell? ⟨B, d * 3 + 2, none⟩ = some (.int .i64 (m.reg d).c) := by
  have := h.v (d := d) (by omega)
  rw [m.v_reg hd] at this
  exact this
theorem DoxAt.putReg3 {w : World} {B d : Nat} {m : Dox} (h : DoxAt w B m) (hd : d < 11) (k n c : Int) : DoxAt (((w.setCell ⟨B, d * 3, none⟩ (.int .u8 (kd k))).setCell ⟨B, d * 3 + 1, none⟩ (.int .i64 n)).setCell ⟨B, d * 3 + 2, none⟩ (.int .i64 c)) B (m.putReg d ⟨k, n, c⟩) := by
  have := h.put3 (d := d) (by omega) k n c
  rw [m.putV_reg hd] at this
  exact this
theorem DoxAt.clear3 {w : World} {B d : Nat} {m : Dox} (h : DoxAt w B m) (hd : d < 11) : DoxAt (((w.setCell ⟨B, d * 3, none⟩ (.int .u8 0)).setCell ⟨B, d * 3 + 1, none⟩ (.int .i64 0)).setCell ⟨B, d * 3 + 2, none⟩ (.int .i64 0)) B (m.putReg d none0) := h.putReg3 hd 0 0 0
theorem DoxAt.put0n {w : World} {B : Nat} {m : Dox} (h : DoxAt w B m) (n c : Int) : DoxAt (((w.setCell ⟨B, 0, none⟩ (.int .u8 110)).setCell ⟨B, 1, none⟩ (.int .i64 n)).setCell ⟨B, 2, none⟩ (.int .i64 c)) B (m.putReg 0 ⟨1, n, c⟩) := h.putReg3 (d := 0) (by decide) 1 n c
theorem DoxAt.put0t {w : World} {B : Nat} {m : Dox} (h : DoxAt w B m) (n c n' : Int) : DoxAt ((((w.setCell ⟨B, 0, none⟩ (.int .u8 110)).setCell ⟨B, 1, none⟩ (.int .i64 n)).setCell ⟨B, 2, none⟩ (.int .i64 c)).setCell ⟨B, 1, none⟩ (.int .i64 n')) B ((m.putReg 0 ⟨1, n, c⟩).putReg 0 ⟨1, n', c⟩) := by
  have := (h.put0n n c).putN (d := 0) (by decide) n'
  rw [Dox.putV_reg _ (by decide), Dox.v_reg _ (by decide)] at this
  exact this
theorem DoxAt.put0c {w : World} {B : Nat} {m : Dox} (h : DoxAt w B m) (n c : Int) : DoxAt (((w.setCell ⟨B, 0, none⟩ (.int .u8 99)).setCell ⟨B, 1, none⟩ (.int .i64 n)).setCell ⟨B, 2, none⟩ (.int .i64 c)) B (m.putReg 0 ⟨4, n, c⟩) := h.putReg3 (d := 0) (by decide) 4 n c
set_option maxHeartbeats 4000000 in
set_option maxRecDepth 100000 in
theorem dcall_none1 (B : Nat) (m : Dox) (L : List Int) (fk fn fc : Int) (HA : Hid (m.reg 1 = ⟨fk, fn, fc⟩)) (x0 : (kd fk == 0) = true) (w : World) (hM : DoxAt w B m) (hO : OutAt w B m.out L) : Calls Tryd.prog 83 #[.pointer (some ⟨B, 0, none⟩), .int .i64 1] w fun e w' => e = .returned (.int .i64 8) ∧ Below w.heap.size w w' := by
  have hB := hM.lt
  obtain ⟨h0, h1, h2⟩ := hM.reg3 (d := 1) (by decide)
  simp only [Nat.reduceMul, Nat.reduceAdd] at h0 h1 h2
  rw [HA.out] at h0 h1 h2
  obtain ⟨r0, r1, r2⟩ := hM.reg3 (d := 0) (by decide)
  simp only [Nat.reduceMul, Nat.reduceAdd] at r0 r1 r2
  have f0 := hM.frozen 0
  have f1 := hM.frozen 1
  have f2 := hM.frozen 2
  have t0 := hM.time
  have HO : Hid (OutAt w B m.out L) := hO
  clear hO
  go_enter Tryd.func83, Tryd.ntmps83
  go_wp2
  go_ret
  exact ⟨rfl, (Below.refl _ _).alloc (Nat.le_refl _) _⟩
set_option maxHeartbeats 4000000 in
set_option maxRecDepth 100000 in
theorem dcall_arg1 (B : Nat) (m : Dox) (L : List Int) (fk fn fc : Int) (HA : Hid (m.reg 1 = ⟨fk, fn, fc⟩)) (x0 : (kd fk == 0) = false) (x1 : (kd fk != 110) = true) (w : World) (hM : DoxAt w B m) (hO : OutAt w B m.out L) : Calls Tryd.prog 83 #[.pointer (some ⟨B, 0, none⟩), .int .i64 1] w fun e w' => e = .returned (.int .i64 1) ∧ Below w.heap.size w w' := by
  have hB := hM.lt
  obtain ⟨h0, h1, h2⟩ := hM.reg3 (d := 1) (by decide)
  simp only [Nat.reduceMul, Nat.reduceAdd] at h0 h1 h2
  rw [HA.out] at h0 h1 h2
  obtain ⟨r0, r1, r2⟩ := hM.reg3 (d := 0) (by decide)
  simp only [Nat.reduceMul, Nat.reduceAdd] at r0 r1 r2
  have f0 := hM.frozen 0
  have f1 := hM.frozen 1
  have f2 := hM.frozen 2
  have t0 := hM.time
  have HO : Hid (OutAt w B m.out L) := hO
  clear hO
  go_enter Tryd.func83, Tryd.ntmps83
  go_wp2
  go_ret
  exact ⟨rfl, (Below.refl _ _).alloc (Nat.le_refl _) _⟩
set_option maxHeartbeats 4000000 in
set_option maxRecDepth 100000 in
theorem dcall_none3 (B : Nat) (m : Dox) (L : List Int) (fk fn fc : Int) (HA : Hid (m.reg 1 = ⟨fk, fn, fc⟩)) (x0 : (kd fk == 0) = true) (w : World) (hM : DoxAt w B m) (hO : OutAt w B m.out L) : Calls Tryd.prog 83 #[.pointer (some ⟨B, 0, none⟩), .int .i64 3] w fun e w' => e = .returned (.int .i64 8) ∧ Below w.heap.size w w' := by
  have hB := hM.lt
  obtain ⟨h0, h1, h2⟩ := hM.reg3 (d := 1) (by decide)
  simp only [Nat.reduceMul, Nat.reduceAdd] at h0 h1 h2
  rw [HA.out] at h0 h1 h2
  obtain ⟨r0, r1, r2⟩ := hM.reg3 (d := 0) (by decide)
  simp only [Nat.reduceMul, Nat.reduceAdd] at r0 r1 r2
  have f0 := hM.frozen 0
  have f1 := hM.frozen 1
  have f2 := hM.frozen 2
  have t0 := hM.time
  have HO : Hid (OutAt w B m.out L) := hO
  clear hO
  go_enter Tryd.func83, Tryd.ntmps83
  go_wp2
  go_ret
  exact ⟨rfl, (Below.refl _ _).alloc (Nat.le_refl _) _⟩
set_option maxHeartbeats 4000000 in
set_option maxRecDepth 100000 in
theorem dcall_arg3 (B : Nat) (m : Dox) (L : List Int) (fk fn fc : Int) (HA : Hid (m.reg 1 = ⟨fk, fn, fc⟩)) (x0 : (kd fk == 0) = false) (x1 : (kd fk != 110) = true) (w : World) (hM : DoxAt w B m) (hO : OutAt w B m.out L) : Calls Tryd.prog 83 #[.pointer (some ⟨B, 0, none⟩), .int .i64 3] w fun e w' => e = .returned (.int .i64 1) ∧ Below w.heap.size w w' := by
  have hB := hM.lt
  obtain ⟨h0, h1, h2⟩ := hM.reg3 (d := 1) (by decide)
  simp only [Nat.reduceMul, Nat.reduceAdd] at h0 h1 h2
  rw [HA.out] at h0 h1 h2
  obtain ⟨r0, r1, r2⟩ := hM.reg3 (d := 0) (by decide)
  simp only [Nat.reduceMul, Nat.reduceAdd] at r0 r1 r2
  have f0 := hM.frozen 0
  have f1 := hM.frozen 1
  have f2 := hM.frozen 2
  have t0 := hM.time
  have HO : Hid (OutAt w B m.out L) := hO
  clear hO
  go_enter Tryd.func83, Tryd.ntmps83
  go_wp2
  go_ret
  exact ⟨rfl, (Below.refl _ _).alloc (Nat.le_refl _) _⟩
set_option maxHeartbeats 4000000 in
set_option maxRecDepth 100000 in
theorem dcall_time (B : Nat) (m : Dox) (L : List Int) (fk fn fc : Int) (HA : Hid (m.reg 1 = ⟨fk, fn, fc⟩))  (w : World) (hM : DoxAt w B m) (hO : OutAt w B m.out L) : Calls Tryd.prog 83 #[.pointer (some ⟨B, 0, none⟩), .int .i64 2] w fun e w' => e = .returned (.int .i64 0) ∧ Below B w w' ∧ DoxAt w' B (((m.putReg 0 ⟨1, 0, 0⟩).putReg 0 ⟨1, m.time, 0⟩).loseTo 6) ∧ OutAt w' B m.out L := by
  have hB := hM.lt
  obtain ⟨h0, h1, h2⟩ := hM.reg3 (d := 1) (by decide)
  simp only [Nat.reduceMul, Nat.reduceAdd] at h0 h1 h2
  rw [HA.out] at h0 h1 h2
  obtain ⟨r0, r1, r2⟩ := hM.reg3 (d := 0) (by decide)
  simp only [Nat.reduceMul, Nat.reduceAdd] at r0 r1 r2
  have f0 := hM.frozen 0
  have f1 := hM.frozen 1
  have f2 := hM.frozen 2
  have t0 := hM.time
  have HO : Hid (OutAt w B m.out L) := hO
  clear hO
  go_enter Tryd.func83, Tryd.ntmps83
  go_wp2_with fail
  go_region
  all_goals go_wp2_with fail
  all_goals go_loopw [6] (fun ix wr => ∃ k : Nat, Hid (1 ≤ k ∧ k ≤ 6 ∧ ix = .int .i64 k ∧ DoxAt wr B (((m.putReg 0 ⟨1, 0, 0⟩).putReg 0 ⟨1, m.time, 0⟩).loseTo k) ∧ Kept B w wr)) (fun ix _ => 6 - (intOf ix).toNat)
  case atStart => exact ⟨1, by decide, by decide, rfl, by rw [Dox.lose_one]; exact (by repeat' first | with_reducible exact hM | with_reducible refine DoxAt.drew ?_ | with_reducible refine DoxAt.put0t ?_ _ _ _ | with_reducible refine DoxAt.put0n ?_ _ _ | with_reducible refine DoxAt.put0c ?_ _ _ | with_reducible refine DoxAt.off ?_ _ _ ?_ | with_reducible refine DoxAt.alloc ?_ _ | ((try dsimp only); omega)), (by repeat' first | with_reducible exact kept_refl _ _ | with_reducible refine kept_drew ?_ | with_reducible refine kept_set ?_ _ _ | with_reducible refine kept_new ?_ _ _ ?_ | with_reducible refine kept_alloc ?_ _ | ((try dsimp only); omega))⟩
  case round =>
    obtain ⟨k, H⟩ := hrel
    have hk1 := H.out.1
    have hk6 := H.out.2.1
    have hix := H.out.2.2.1
    have hMr := H.out.2.2.2.1
    have HKr : Hid (Kept B w wr) := H.out.2.2.2.2
    clear H
    subst hix
    have hBr := hMr.lt
    have hk0 : (0 : Int) ≤ (k : Int) := by omega
    by_cases hlt : k < 6
    · obtain ⟨a0, a1, a2⟩ := hMr.reg3 (d := k) (by omega)
      have g0 := hMr.frozen (k * 3)
      have g1 := hMr.frozen (k * 3 + 1)
      have g2 := hMr.frozen (k * 3 + 2)
      have hk5 : (k : Int) ≤ 5 := by omega
      go_wp2
      go_roundw
      case rel =>
        refine ⟨k + 1, by omega, by omega, by go_num, ?_, ?_⟩
        · rw [← Dox.lose_next _ k hk1]
          with_reducible exact hMr.clear3 (by omega)
        · have HK := HKr.out
          repeat' first | with_reducible exact HK | with_reducible refine kept_set ?_ _ _
      case measure => simp [intOf]; omega
    · obtain rfl : k = 6 := by omega
      go_wp2
      go_ret
      exact ⟨rfl, kept_under HKr.out hB, hMr, HO.out.kept HKr.out⟩
set_option maxHeartbeats 4000000 in
set_option maxRecDepth 100000 in
theorem dcall_found (B : Nat) (m : Dox) (L : List Int) (fk fn fc : Int) (HA : Hid (m.reg 1 = ⟨fk, fn, fc⟩)) (x0 : (kd fk == 0) = false) (x1 : (kd fk != 110) = false) (x2 : decide (0 ≤ fn) = true) (x3 : decide (fn < 4) = true) (w : World) (hM : DoxAt w B m) (hO : OutAt w B m.out L) : Calls Tryd.prog 83 #[.pointer (some ⟨B, 0, none⟩), .int .i64 1] w fun e w' => e = .returned (.int .i64 0) ∧ Below B w w' ∧ DoxAt w' B (((m.putReg 0 ⟨1, 0, 0⟩).putReg 0 ⟨4, 0, fn⟩).loseTo 6) ∧ OutAt w' B m.out L := by
  have hB := hM.lt
  obtain ⟨h0, h1, h2⟩ := hM.reg3 (d := 1) (by decide)
  simp only [Nat.reduceMul, Nat.reduceAdd] at h0 h1 h2
  rw [HA.out] at h0 h1 h2
  obtain ⟨r0, r1, r2⟩ := hM.reg3 (d := 0) (by decide)
  simp only [Nat.reduceMul, Nat.reduceAdd] at r0 r1 r2
  have f0 := hM.frozen 0
  have f1 := hM.frozen 1
  have f2 := hM.frozen 2
  have t0 := hM.time
  have HO : Hid (OutAt w B m.out L) := hO
  clear hO
  go_enter Tryd.func83, Tryd.ntmps83
  go_wp2_with fail
  go_region
  all_goals go_wp2_with fail
  all_goals go_loopw [6] (fun ix wr => ∃ k : Nat, Hid (1 ≤ k ∧ k ≤ 6 ∧ ix = .int .i64 k ∧ DoxAt wr B (((m.putReg 0 ⟨1, 0, 0⟩).putReg 0 ⟨4, 0, fn⟩).loseTo k) ∧ Kept B w wr)) (fun ix _ => 6 - (intOf ix).toNat)
  case atStart => exact ⟨1, by decide, by decide, rfl, by rw [Dox.lose_one]; exact (by repeat' first | with_reducible exact hM | with_reducible refine DoxAt.drew ?_ | with_reducible refine DoxAt.put0t ?_ _ _ _ | with_reducible refine DoxAt.put0n ?_ _ _ | with_reducible refine DoxAt.put0c ?_ _ _ | with_reducible refine DoxAt.off ?_ _ _ ?_ | with_reducible refine DoxAt.alloc ?_ _ | ((try dsimp only); omega)), (by repeat' first | with_reducible exact kept_refl _ _ | with_reducible refine kept_drew ?_ | with_reducible refine kept_set ?_ _ _ | with_reducible refine kept_new ?_ _ _ ?_ | with_reducible refine kept_alloc ?_ _ | ((try dsimp only); omega))⟩
  case round =>
    obtain ⟨k, H⟩ := hrel
    have hk1 := H.out.1
    have hk6 := H.out.2.1
    have hix := H.out.2.2.1
    have hMr := H.out.2.2.2.1
    have HKr : Hid (Kept B w wr) := H.out.2.2.2.2
    clear H
    subst hix
    have hBr := hMr.lt
    have hk0 : (0 : Int) ≤ (k : Int) := by omega
    by_cases hlt : k < 6
    · obtain ⟨a0, a1, a2⟩ := hMr.reg3 (d := k) (by omega)
      have g0 := hMr.frozen (k * 3)
      have g1 := hMr.frozen (k * 3 + 1)
      have g2 := hMr.frozen (k * 3 + 2)
      have hk5 : (k : Int) ≤ 5 := by omega
      go_wp2
      go_roundw
      case rel =>
        refine ⟨k + 1, by omega, by omega, by go_num, ?_, ?_⟩
        · rw [← Dox.lose_next _ k hk1]
          with_reducible exact hMr.clear3 (by omega)
        · have HK := HKr.out
          repeat' first | with_reducible exact HK | with_reducible refine kept_set ?_ _ _
      case measure => simp [intOf]; omega
    · obtain rfl : k = 6 := by omega
      go_wp2
      go_ret
      exact ⟨rfl, kept_under HKr.out hB, hMr, HO.out.kept HKr.out⟩
set_option maxHeartbeats 4000000 in
set_option maxRecDepth 100000 in
theorem dcall_low (B : Nat) (m : Dox) (L : List Int) (fk fn fc : Int) (HA : Hid (m.reg 1 = ⟨fk, fn, fc⟩)) (x0 : (kd fk == 0) = false) (x1 : (kd fk != 110) = false) (x2 : decide (0 ≤ fn) = false) (w : World) (hM : DoxAt w B m) (hO : OutAt w B m.out L) : Calls Tryd.prog 83 #[.pointer (some ⟨B, 0, none⟩), .int .i64 1] w fun e w' => e = .returned (.int .i64 0) ∧ Below B w w' ∧ DoxAt w' B (((m.putReg 0 ⟨1, 0, 0⟩)).loseTo 6) ∧ OutAt w' B m.out L := by
  have hB := hM.lt
  obtain ⟨h0, h1, h2⟩ := hM.reg3 (d := 1) (by decide)
  simp only [Nat.reduceMul, Nat.reduceAdd] at h0 h1 h2
  rw [HA.out] at h0 h1 h2
  obtain ⟨r0, r1, r2⟩ := hM.reg3 (d := 0) (by decide)
  simp only [Nat.reduceMul, Nat.reduceAdd] at r0 r1 r2
  have f0 := hM.frozen 0
  have f1 := hM.frozen 1
  have f2 := hM.frozen 2
  have t0 := hM.time
  have HO : Hid (OutAt w B m.out L) := hO
  clear hO
  go_enter Tryd.func83, Tryd.ntmps83
  go_wp2_with fail
  all_goals go_loopw [6] (fun ix wr => ∃ k : Nat, Hid (1 ≤ k ∧ k ≤ 6 ∧ ix = .int .i64 k ∧ DoxAt wr B (((m.putReg 0 ⟨1, 0, 0⟩)).loseTo k) ∧ Kept B w wr)) (fun ix _ => 6 - (intOf ix).toNat)
  case atStart => exact ⟨1, by decide, by decide, rfl, by rw [Dox.lose_one]; exact (by repeat' first | with_reducible exact hM | with_reducible refine DoxAt.drew ?_ | with_reducible refine DoxAt.put0t ?_ _ _ _ | with_reducible refine DoxAt.put0n ?_ _ _ | with_reducible refine DoxAt.put0c ?_ _ _ | with_reducible refine DoxAt.off ?_ _ _ ?_ | with_reducible refine DoxAt.alloc ?_ _ | ((try dsimp only); omega)), (by repeat' first | with_reducible exact kept_refl _ _ | with_reducible refine kept_drew ?_ | with_reducible refine kept_set ?_ _ _ | with_reducible refine kept_new ?_ _ _ ?_ | with_reducible refine kept_alloc ?_ _ | ((try dsimp only); omega))⟩
  case round =>
    obtain ⟨k, H⟩ := hrel
    have hk1 := H.out.1
    have hk6 := H.out.2.1
    have hix := H.out.2.2.1
    have hMr := H.out.2.2.2.1
    have HKr : Hid (Kept B w wr) := H.out.2.2.2.2
    clear H
    subst hix
    have hBr := hMr.lt
    have hk0 : (0 : Int) ≤ (k : Int) := by omega
    by_cases hlt : k < 6
    · obtain ⟨a0, a1, a2⟩ := hMr.reg3 (d := k) (by omega)
      have g0 := hMr.frozen (k * 3)
      have g1 := hMr.frozen (k * 3 + 1)
      have g2 := hMr.frozen (k * 3 + 2)
      have hk5 : (k : Int) ≤ 5 := by omega
      go_wp2
      go_roundw
      case rel =>
        refine ⟨k + 1, by omega, by omega, by go_num, ?_, ?_⟩
        · rw [← Dox.lose_next _ k hk1]
          with_reducible exact hMr.clear3 (by omega)
        · have HK := HKr.out
          repeat' first | with_reducible exact HK | with_reducible refine kept_set ?_ _ _
      case measure => simp [intOf]; omega
    · obtain rfl : k = 6 := by omega
      go_wp2
      go_ret
      exact ⟨rfl, kept_under HKr.out hB, hMr, HO.out.kept HKr.out⟩
set_option maxHeartbeats 4000000 in
set_option maxRecDepth 100000 in
theorem dcall_high (B : Nat) (m : Dox) (L : List Int) (fk fn fc : Int) (HA : Hid (m.reg 1 = ⟨fk, fn, fc⟩)) (x0 : (kd fk == 0) = false) (x1 : (kd fk != 110) = false) (x2 : decide (0 ≤ fn) = true) (x3 : decide (fn < 4) = false) (w : World) (hM : DoxAt w B m) (hO : OutAt w B m.out L) : Calls Tryd.prog 83 #[.pointer (some ⟨B, 0, none⟩), .int .i64 1] w fun e w' => e = .returned (.int .i64 0) ∧ Below B w w' ∧ DoxAt w' B (((m.putReg 0 ⟨1, 0, 0⟩)).loseTo 6) ∧ OutAt w' B m.out L := by
  have hB := hM.lt
  obtain ⟨h0, h1, h2⟩ := hM.reg3 (d := 1) (by decide)
  simp only [Nat.reduceMul, Nat.reduceAdd] at h0 h1 h2
  rw [HA.out] at h0 h1 h2
  obtain ⟨r0, r1, r2⟩ := hM.reg3 (d := 0) (by decide)
  simp only [Nat.reduceMul, Nat.reduceAdd] at r0 r1 r2
  have f0 := hM.frozen 0
  have f1 := hM.frozen 1
  have f2 := hM.frozen 2
  have t0 := hM.time
  have HO : Hid (OutAt w B m.out L) := hO
  clear hO
  go_enter Tryd.func83, Tryd.ntmps83
  go_wp2_with fail
  all_goals go_loopw [6] (fun ix wr => ∃ k : Nat, Hid (1 ≤ k ∧ k ≤ 6 ∧ ix = .int .i64 k ∧ DoxAt wr B (((m.putReg 0 ⟨1, 0, 0⟩)).loseTo k) ∧ Kept B w wr)) (fun ix _ => 6 - (intOf ix).toNat)
  case atStart => exact ⟨1, by decide, by decide, rfl, by rw [Dox.lose_one]; exact (by repeat' first | with_reducible exact hM | with_reducible refine DoxAt.drew ?_ | with_reducible refine DoxAt.put0t ?_ _ _ _ | with_reducible refine DoxAt.put0n ?_ _ _ | with_reducible refine DoxAt.put0c ?_ _ _ | with_reducible refine DoxAt.off ?_ _ _ ?_ | with_reducible refine DoxAt.alloc ?_ _ | ((try dsimp only); omega)), (by repeat' first | with_reducible exact kept_refl _ _ | with_reducible refine kept_drew ?_ | with_reducible refine kept_set ?_ _ _ | with_reducible refine kept_new ?_ _ _ ?_ | with_reducible refine kept_alloc ?_ _ | ((try dsimp only); omega))⟩
  case round =>
    obtain ⟨k, H⟩ := hrel
    have hk1 := H.out.1
    have hk6 := H.out.2.1
    have hix := H.out.2.2.1
    have hMr := H.out.2.2.2.1
    have HKr : Hid (Kept B w wr) := H.out.2.2.2.2
    clear H
    subst hix
    have hBr := hMr.lt
    have hk0 : (0 : Int) ≤ (k : Int) := by omega
    by_cases hlt : k < 6
    · obtain ⟨a0, a1, a2⟩ := hMr.reg3 (d := k) (by omega)
      have g0 := hMr.frozen (k * 3)
      have g1 := hMr.frozen (k * 3 + 1)
      have g2 := hMr.frozen (k * 3 + 2)
      have hk5 : (k : Int) ≤ 5 := by omega
      go_wp2
      go_roundw
      case rel =>
        refine ⟨k + 1, by omega, by omega, by go_num, ?_, ?_⟩
        · rw [← Dox.lose_next _ k hk1]
          with_reducible exact hMr.clear3 (by omega)
        · have HK := HKr.out
          repeat' first | with_reducible exact HK | with_reducible refine kept_set ?_ _ _
      case measure => simp [intOf]; omega
    · obtain rfl : k = 6 := by omega
      go_wp2
      go_ret
      exact ⟨rfl, kept_under HKr.out hB, hMr, HO.out.kept HKr.out⟩
set_option maxHeartbeats 4000000 in
set_option maxRecDepth 100000 in
theorem dcall_full (B : Nat) (m : Dox) (L : List Int) (fk fn fc : Int) (HA : Hid (m.reg 1 = ⟨fk, fn, fc⟩)) (x0 : (kd fk == 0) = false) (x1 : (kd fk != 110) = false) (hL : 50 ≤ L.length) (w : World) (hM : DoxAt w B m) (hO : OutAt w B m.out L) : Calls Tryd.prog 83 #[.pointer (some ⟨B, 0, none⟩), .int .i64 3] w fun e w' => e = .returned (.int .i64 0) ∧ Below B w w' ∧ DoxAt w' B (((m.putReg 0 ⟨1, 0, 0⟩)).loseTo 6) ∧ OutAt w' B m.out L := by
  have hB := hM.lt
  obtain ⟨h0, h1, h2⟩ := hM.reg3 (d := 1) (by decide)
  simp only [Nat.reduceMul, Nat.reduceAdd] at h0 h1 h2
  rw [HA.out] at h0 h1 h2
  obtain ⟨r0, r1, r2⟩ := hM.reg3 (d := 0) (by decide)
  simp only [Nat.reduceMul, Nat.reduceAdd] at r0 r1 r2
  have f0 := hM.frozen 0
  have f1 := hM.frozen 1
  have f2 := hM.frozen 2
  have t0 := hM.time
  have HO : Hid (OutAt w B m.out L) := hO
  clear hO
  obtain ⟨qa, qc, hq⟩ := HO.out.shape
  have o0 := hM.outv
  rw [hq] at o0
  have x4 : decide ((L.length : Int) < 50) = false := by simp; omega
  clear hL
  have HQ : Hid (m.out = .slice qa L.length qc) := hq
  clear hq
  go_enter Tryd.func83, Tryd.ntmps83
  go_wp2_with fail
  all_goals go_loopw [6] (fun ix wr => ∃ k : Nat, Hid (1 ≤ k ∧ k ≤ 6 ∧ ix = .int .i64 k ∧ DoxAt wr B (((m.putReg 0 ⟨1, 0, 0⟩)).loseTo k) ∧ Kept B w wr)) (fun ix _ => 6 - (intOf ix).toNat)
  case atStart => exact ⟨1, by decide, by decide, rfl, by rw [Dox.lose_one]; exact (by repeat' first | with_reducible exact hM | with_reducible refine DoxAt.drew ?_ | with_reducible refine DoxAt.put0t ?_ _ _ _ | with_reducible refine DoxAt.put0n ?_ _ _ | with_reducible refine DoxAt.put0c ?_ _ _ | with_reducible refine DoxAt.off ?_ _ _ ?_ | with_reducible refine DoxAt.alloc ?_ _ | ((try dsimp only); omega)), (by repeat' first | with_reducible exact kept_refl _ _ | with_reducible refine kept_drew ?_ | with_reducible refine kept_set ?_ _ _ | with_reducible refine kept_new ?_ _ _ ?_ | with_reducible refine kept_alloc ?_ _ | ((try dsimp only); omega))⟩
  case round =>
    obtain ⟨k, H⟩ := hrel
    have hk1 := H.out.1
    have hk6 := H.out.2.1
    have hix := H.out.2.2.1
    have hMr := H.out.2.2.2.1
    have HKr : Hid (Kept B w wr) := H.out.2.2.2.2
    clear H
    subst hix
    have hBr := hMr.lt
    have hk0 : (0 : Int) ≤ (k : Int) := by omega
    by_cases hlt : k < 6
    · obtain ⟨a0, a1, a2⟩ := hMr.reg3 (d := k) (by omega)
      have g0 := hMr.frozen (k * 3)
      have g1 := hMr.frozen (k * 3 + 1)
      have g2 := hMr.frozen (k * 3 + 2)
      have hk5 : (k : Int) ≤ 5 := by omega
      go_wp2
      go_roundw
      case rel =>
        refine ⟨k + 1, by omega, by omega, by go_num, ?_, ?_⟩
        · rw [← Dox.lose_next _ k hk1]
          with_reducible exact hMr.clear3 (by omega)
        · have HK := HKr.out
          repeat' first | with_reducible exact HK | with_reducible refine kept_set ?_ _ _
      case measure => simp [intOf]; omega
    · obtain rfl : k = 6 := by omega
      go_wp2
      go_ret
      exact ⟨rfl, kept_under HKr.out hB, hMr, HO.out.kept HKr.out⟩
end Go.Proofs.YtegeiicginpdbaaDoor
