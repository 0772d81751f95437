/-
  A Call, of a program that runs: what it leaves, or what is wrong. Conditions: numbers are of 64 bits.
-/
import Derived.Test.YtegeiicginpdbaaDoorMach7
namespace Go.Proofs.YtegeiicginpdbaaDoor
open Go.ChangeShapes Go.WideShapes Go.ChangeAt Go.RowKit
attribute [local simp] drew_size drewN_size setCell_size
theorem MacAt.put0 {w : World} {B : Nat} {m : Mac} (h : MacAt w B m) (k n c : Int) : MacAt (((w.setCell ⟨B, 2, none⟩ (.int .i64 k)).setCell ⟨B, 3, none⟩ (.int .i64 n)).setCell ⟨B, 4, none⟩ (.int .i64 c)) B (m.putReg 0 ⟨k, n, c⟩) := h.put3 (d := 0) (by decide) k n c
set_option maxHeartbeats 4000000 in
set_option maxRecDepth 100000 in
theorem call_no1 (B : Nat) (m : Mac) (fk fn fc : Int) (HA : Hid (m.reg 1 = ⟨fk, fn, fc⟩)) (E : Int) (HW : Hid (wantF ⟨fk, fn, fc⟩ = E)) (hE : (E != 0) = true) (w : World) (hM : MacAt w B m) :
    Calls Tryd.prog 103 #[.pointer (some ⟨B, 0, none⟩), .int .i64 1] w fun e w' => e = .returned (.int .i64 E) ∧ Below w.heap.size w w' := by
  have hB := hM.lt
  obtain ⟨h0, h1, h2⟩ := hM.reg (d := 1) (by decide)
  simp only [Nat.reduceMul, Nat.reduceAdd] at h0 h1 h2
  rw [HA.out] at h0 h1 h2
  go_enter Tryd.func103, Tryd.ntmps103
  go_wp2_with (first
    | (go_at_call 85; refine (want_any fk fn fc _).mono ?_; rintro e w1 ⟨rfl, hb1⟩; rw [HW.out]; have hM1 : MacAt w1 B m := (hM.alloc _).later hb1; have hB1 := hM1.lt; have v6 := later_box hb1 w.heap.size (by simp); have hS1 := v6.2.2; have hbw : Below w.heap.size w w1 := below_zero hb1; have u1 : w1.cell? ⟨w.heap.size, 1, none⟩ = some (.int .i64 fn) := (by rw [v6.1]; simp [go_sem]))
    | go_in)
  go_ret
  exact ⟨rfl, hbw⟩
set_option maxHeartbeats 4000000 in
set_option maxRecDepth 100000 in
theorem call_no3 (B : Nat) (m : Mac) (fk fn fc : Int) (HA : Hid (m.reg 1 = ⟨fk, fn, fc⟩)) (E : Int) (HW : Hid (wantF ⟨fk, fn, fc⟩ = E)) (hE : (E != 0) = true) (w : World) (hM : MacAt w B m) :
    Calls Tryd.prog 103 #[.pointer (some ⟨B, 0, none⟩), .int .i64 3] w fun e w' => e = .returned (.int .i64 E) ∧ Below w.heap.size w w' := by
  have hB := hM.lt
  obtain ⟨h0, h1, h2⟩ := hM.reg (d := 1) (by decide)
  simp only [Nat.reduceMul, Nat.reduceAdd] at h0 h1 h2
  rw [HA.out] at h0 h1 h2
  go_enter Tryd.func103, Tryd.ntmps103
  go_wp2_with (first
    | (go_at_call 85; refine (want_any fk fn fc _).mono ?_; rintro e w1 ⟨rfl, hb1⟩; rw [HW.out]; have hM1 : MacAt w1 B m := (hM.alloc _).later hb1; have hB1 := hM1.lt; have v6 := later_box hb1 w.heap.size (by simp); have hS1 := v6.2.2; have hbw : Below w.heap.size w w1 := below_zero hb1; have u1 : w1.cell? ⟨w.heap.size, 1, none⟩ = some (.int .i64 fn) := (by rw [v6.1]; simp [go_sem]))
    | go_in)
  go_ret
  exact ⟨rfl, hbw⟩
set_option maxHeartbeats 4000000 in
set_option maxRecDepth 100000 in
theorem call_find (B : Nat) (m : Mac) (fk fn fc : Int) (HA : Hid (m.reg 1 = ⟨fk, fn, fc⟩)) (HW : Hid (wantF ⟨fk, fn, fc⟩ = 0)) (rk rn rc : Int) (HF : Hid (foundF fn = ⟨rk, rn, rc⟩)) (w : World) (hM : MacAt w B m) :
    Calls Tryd.prog 103 #[.pointer (some ⟨B, 0, none⟩), .int .i64 1] w fun e w' => e = .returned (.int .i64 0) ∧ Kept B w w' ∧ MacAt w' B (m.lose.putReg 0 ⟨rk, rn, rc⟩) := by
  have hB := hM.lt
  obtain ⟨h0, h1, h2⟩ := hM.reg (d := 1) (by decide)
  simp only [Nat.reduceMul, Nat.reduceAdd] at h0 h1 h2
  rw [HA.out] at h0 h1 h2
  go_enter Tryd.func103, Tryd.ntmps103
  go_wp2_with (first
    | (go_at_call 85; refine (want_any fk fn fc _).mono ?_; rintro e w1 ⟨rfl, hb1⟩; rw [HW.out]; have hM1 : MacAt w1 B m := (hM.alloc _).later hb1; have hB1 := hM1.lt; have v6 := later_box hb1 w.heap.size (by simp); have hS1 := v6.2.2; have hbw : Below w.heap.size w w1 := below_zero hb1; have u1 : w1.cell? ⟨w.heap.size, 1, none⟩ = some (.int .i64 fn) := (by rw [v6.1]; simp [go_sem]))
    | go_in)
  obtain ⟨wc, hc, hkc, hmc⟩ := clear_run hM1
  rw [hc]
  clear hc
  have u2 : wc.cell? ⟨w.heap.size, 1, none⟩ = some (.int .i64 fn) := (World.cell?_of_block (a := ⟨w.heap.size, 1, none⟩) (hkc.block w.heap.size hS1 (by intro h; injection h with h; omega))).trans u1
  have hBc := hmc.lt
  have hSc : w.heap.size < wc.heap.size := Nat.lt_of_lt_of_le hS1 hkc.size
  go_wp2_with fail
  go_region_held3 (fun w' => w'.cell? ⟨w.heap.size, 1, none⟩ = some (.int .i64 fn)) (first | (simp [go_sem]; done) | (simp [go_sem, *]; done) | go_keep) (first
    | (go_at_call 119; go_must (refine (found_any fn _).mono ?_; rintro e w3 ⟨rfl, hb3⟩; have hb3 := drew_below hb3; have hM3 := hmc.later hb3; have hB3 := hM3.lt; obtain ⟨i0, i1, i2⟩ := hM3.reg (d := 0) (by decide); simp only [Nat.reduceMul, Nat.reduceAdd] at i0 i1 i2; have f0 := hM3.frozen 2; have f1 := hM3.frozen 3; have f2 := hM3.frozen 4; have y0 : w3.cell? ⟨w.heap.size, 1, none⟩ = some (.int .i64 fn) := (hb3.cell (p := ⟨w.heap.size, 1, none⟩) hSc).trans u2; rw [HF.out]; simp only [Val.v])))
  all_goals have HK : Kept B w w3 := kept_later (kept_trans (kept_below hbw B) hkc) hb3
  all_goals go_wp2
  all_goals go_ret
  all_goals have HM := hM3
  all_goals exact ⟨rfl, (by repeat' first | with_reducible exact HK | with_reducible refine kept_drew ?_ | with_reducible refine kept_set ?_ _ _ | with_reducible refine kept_new ?_ _ _ ?_ | with_reducible refine kept_alloc ?_ _ | ((try dsimp only); omega)), (by repeat' first | with_reducible exact HM | with_reducible refine MacAt.drew ?_ | with_reducible refine MacAt.put0 ?_ _ _ _ | with_reducible refine MacAt.off ?_ _ _ ?_ | with_reducible refine MacAt.alloc ?_ _ | ((try dsimp only); omega))⟩
set_option maxHeartbeats 4000000 in
set_option maxRecDepth 100000 in
theorem call_time (B : Nat) (m : Mac) (fk fn fc : Int) (HA : Hid (m.reg 1 = ⟨fk, fn, fc⟩)) (w : World) (hM : MacAt w B m) :
    Calls Tryd.prog 103 #[.pointer (some ⟨B, 0, none⟩), .int .i64 2] w fun e w' => e = .returned (.int .i64 0) ∧ Kept B w w' ∧ MacAt w' B (m.lose.putReg 0 ⟨1, m.time, 0⟩) := by
  have hB := hM.lt
  obtain ⟨h0, h1, h2⟩ := hM.reg (d := 1) (by decide)
  simp only [Nat.reduceMul, Nat.reduceAdd] at h0 h1 h2
  rw [HA.out] at h0 h1 h2
  go_enter Tryd.func103, Tryd.ntmps103
  go_wp2_with fail
  have hM1 := hM.alloc (.cells #[.int .i64 fk, .int .i64 fn, .int .i64 fc] 118)
  have hS1 : w.heap.size < (w.alloc (.cells #[.int .i64 fk, .int .i64 fn, .int .i64 fc] 118)).heap.size := by simp
  obtain ⟨wc, hc, hkc, hmc⟩ := clear_run hM1
  rw [hc]
  clear hc
  have hBc := hmc.lt
  have t0 : wc.cell? ⟨B, 107, none⟩ = some (.int .i64 m.time) := hmc.time
  go_wp2_with fail
  go_region_held3 (fun w' => w'.cell? ⟨B, 107, none⟩ = some (.int .i64 m.time)) (first | (simp [go_sem]; done) | (simp [go_sem, *]; done) | go_keep) (first
    | (go_at_call 118; go_must (refine (mnum_any m.time _).mono ?_; rintro e w3 ⟨rfl, hb3⟩; have hb3 := drew_below hb3; have hM3 := hmc.later hb3; have hB3 := hM3.lt; obtain ⟨i0, i1, i2⟩ := hM3.reg (d := 0) (by decide); simp only [Nat.reduceMul, Nat.reduceAdd] at i0 i1 i2; have f0 := hM3.frozen 2; have f1 := hM3.frozen 3; have f2 := hM3.frozen 4; have y0 : w3.cell? ⟨B, 107, none⟩ = some (.int .i64 m.time) := hM3.time; simp only [Val.v, numF])))
  all_goals have HK : Kept B w w3 := kept_later (kept_trans (kept_alloc (kept_refl B w) _) hkc) hb3
  all_goals go_wp2
  all_goals go_ret
  all_goals have HM := hM3
  all_goals exact ⟨rfl, (by repeat' first | with_reducible exact HK | with_reducible refine kept_drew ?_ | with_reducible refine kept_set ?_ _ _ | with_reducible refine kept_new ?_ _ _ ?_ | with_reducible refine kept_alloc ?_ _ | ((try dsimp only); omega)), (by repeat' first | with_reducible exact HM | with_reducible refine MacAt.drew ?_ | with_reducible refine MacAt.put0 ?_ _ _ _ | with_reducible refine MacAt.off ?_ _ _ ?_ | with_reducible refine MacAt.alloc ?_ _ | ((try dsimp only); omega))⟩
set_option maxHeartbeats 4000000 in
set_option maxRecDepth 100000 in
theorem call_emit (B : Nat) (m : Mac) (fk fn fc : Int) (HA : Hid (m.reg 1 = ⟨fk, fn, fc⟩)) (L : List Int) (HW : Hid (wantF ⟨fk, fn, fc⟩ = 0)) (w : World) (hM : MacAt w B m) (hO : OutAt w B m.out L) :
    Calls Tryd.prog 103 #[.pointer (some ⟨B, 0, none⟩), .int .i64 3] w fun e w' => e = .returned (.int .i64 0) ∧ Below B w w' ∧ ∃ v', MacAt w' B ((m.lose.setOut v').putReg 0 ⟨1, 0, 0⟩) ∧ OutAt w' B v' (giveL L fn) := by
  have hB := hM.lt
  obtain ⟨h0, h1, h2⟩ := hM.reg (d := 1) (by decide)
  simp only [Nat.reduceMul, Nat.reduceAdd] at h0 h1 h2
  rw [HA.out] at h0 h1 h2
  have HO : Hid (OutAt w B m.out L) := hO
  clear hO
  go_enter Tryd.func103, Tryd.ntmps103
  go_wp2_with (first
    | (go_at_call 85; refine (want_any fk fn fc _).mono ?_; rintro e w1 ⟨rfl, hb1⟩; rw [HW.out]; have hM1 : MacAt w1 B m := (hM.alloc _).later hb1; have hB1 := hM1.lt; have v6 := later_box hb1 w.heap.size (by simp); have hS1 := v6.2.2; have hbw : Below w.heap.size w w1 := below_zero hb1; have u1 : w1.cell? ⟨w.heap.size, 1, none⟩ = some (.int .i64 fn) := (by rw [v6.1]; simp [go_sem]))
    | go_in)
  obtain ⟨wc, hc, hkc, hmc⟩ := clear_run hM1
  rw [hc]
  clear hc
  have u2 : wc.cell? ⟨w.heap.size, 1, none⟩ = some (.int .i64 fn) := (World.cell?_of_block (a := ⟨w.heap.size, 1, none⟩) (hkc.block w.heap.size hS1 (by intro h; injection h with h; omega))).trans u1
  have hBc := hmc.lt
  have hSc : w.heap.size < wc.heap.size := Nat.lt_of_lt_of_le hS1 hkc.size
  go_wp2_with fail
  go_wp2_with (first
    | (go_at_call 120; refine (give_any B fn m.lose L _ hmc (OutAt.kept (OutAt.kept HO.out (kept_below hbw B)) hkc)).mono ?_; rintro e w4 ⟨rfl, hb4, v4, hM4, hO4⟩; have HO4 : Hid (OutAt w4 B v4 (giveL L fn)) := hO4; clear hO4; have hB4 := hM4.lt; have t0 : w4.cell? ⟨B, 107, none⟩ = some (.int .i64 m.time) := hM4.time)
    | fail)
  go_region_held3 (fun w' => w'.cell? ⟨B, 107, none⟩ = some (.int .i64 m.time)) (first | (simp [go_sem]; done) | (simp [go_sem, *]; done) | go_keep) (first
    | (go_at_call 118; go_must (refine (mnum_any 0 _).mono ?_; rintro e w3 ⟨rfl, hb3⟩; have hb3 := drew_below hb3; have hM3 := hM4.later hb3; have hB3 := hM3.lt; obtain ⟨i0, i1, i2⟩ := hM3.reg (d := 0) (by decide); simp only [Nat.reduceMul, Nat.reduceAdd] at i0 i1 i2; have f0 := hM3.frozen 2; have f1 := hM3.frozen 3; have f2 := hM3.frozen 4; have y0 : w3.cell? ⟨B, 107, none⟩ = some (.int .i64 m.time) := hM3.time; simp only [Val.v, numF])))
  all_goals go_wp2
  all_goals go_ret
  all_goals have HK : Kept B w4 w3 := kept_below hb3 B
  all_goals have HM := hM3
  all_goals exact ⟨rfl, ((hbw.mono (by omega)).trans (kept_under hkc hB1)).trans (hb4.trans (kept_under (by repeat' first | with_reducible exact HK | with_reducible refine kept_drew ?_ | with_reducible refine kept_set ?_ _ _ | with_reducible refine kept_new ?_ _ _ ?_ | with_reducible refine kept_alloc ?_ _ | ((try dsimp only); omega)) hB4)), v4, (by repeat' first | with_reducible exact HM | with_reducible refine MacAt.drew ?_ | with_reducible refine MacAt.put0 ?_ _ _ _ | with_reducible refine MacAt.off ?_ _ _ ?_ | with_reducible refine MacAt.alloc ?_ _ | ((try dsimp only); omega)), OutAt.kept HO4.out (by repeat' first | with_reducible exact HK | with_reducible refine kept_drew ?_ | with_reducible refine kept_set ?_ _ _ | with_reducible refine kept_new ?_ _ _ ?_ | with_reducible refine kept_alloc ?_ _ | ((try dsimp only); omega))⟩
end Go.Proofs.YtegeiicginpdbaaDoor
