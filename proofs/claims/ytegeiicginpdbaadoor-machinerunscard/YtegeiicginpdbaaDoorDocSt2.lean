/-
  What a step does, by the document's answer: what asks. Conditions: the step is a right one; numbers are of 64 bits.
-/
import Derived.Test.YtegeiicginpdbaaDoorDocEmit
import Derived.Test.YtegeiicginpdbaaDoorDocCounts
import Derived.Test.YtegeiicginpdbaaDoorMachRight
import Derived.Test.YtegeiicginpdbaaDoorOpRefIs
namespace Go.Proofs.YtegeiicginpdbaaDoor
open Go.ChangeShapes Go.WideShapes Go.ChangeAt Go.RowKit
attribute [local simp] drew_size drewN_size setCell_size
set_option maxHeartbeats 4000000 in
set_option maxRecDepth 100000 in
theorem dask_a_f (B d s pc : Nat) (c o n : Int) (m : Dox) (hd : d < 11) (hs : s < 11) (hpc : pc ≤ 200) (xk xn xc : Int) (HX : Hid (m.reg d = ⟨xk, xn, xc⟩)) (e28 : (c == 28) = false) (e14 : (c == 14) = false) (hc1 : 15 ≤ c) (hc2 : c ≤ 24) (x0 : (kd xk == 0) = true) (w : World) (hM : DoxAt w B m) : Calls Tryd.prog 61 #[.pointer (some ⟨B, 0, none⟩), .agg #[.int .i64 c, .int .i64 d, .int .i64 s, .bool false, .int .i64 o, .int .i64 n], .int .i64 pc] w fun e w' => e = .returned (.tuple #[.int .i64 ((pc : Int) + 1), .bool false, .int .i64 8]) ∧ Below w.heap.size w w' := by
  have hB := hM.lt
  have hBa : B < w.heap.size + 1 := by omega
  have hBb : B < w.heap.size + 1 + 1 := by omega
  obtain ⟨h0, h1, h2⟩ := hM.reg3 hd
  rw [HX.out] at h0 h1 h2
  have hd0 : (0 : Int) ≤ (d : Int) := by omega
  have hd1 : (d : Int) < 27 := by omega
  have hs0 : (0 : Int) ≤ (s : Int) := by omega
  have hs1 : (s : Int) < 27 := by omega
  have hp0 : (0 : Int) ≤ (pc : Int) := by omega
  have hp1 : (pc : Int) ≤ 200 := by omega
  have HQ : Hid ((decide (15 ≤ c) && decide (c ≤ 24)) = true) := by show (decide (15 ≤ c) && decide (c ≤ 24)) = true; simp; omega
  clear hc1 hc2
  go_enter Tryd.func61, Tryd.ntmps61
  go_wp2_with fail
  go_region
  all_goals go_wp2_with (first | (go_at_call 21; refine (refAsks_any c _).mono ?_; rintro e w1 ⟨rfl, rfl⟩; rw [HQ.out]) | fail)
  all_goals go_ret3
  all_goals exact ⟨rfl, (by repeat' first | with_reducible exact Below.refl _ _ | with_reducible exact hbw | with_reducible refine Below.alloc ?_ ?_ _ | with_reducible refine Below.setCell ?_ ?_ _ | with_reducible refine Below.drew ?_ | ((try dsimp only); omega) | (simp; done) | (simp; omega))⟩
set_option maxHeartbeats 4000000 in
set_option maxRecDepth 100000 in
theorem dask_a_t (B d s pc : Nat) (c o n : Int) (m : Dox) (hd : d < 11) (hs : s < 11) (hpc : pc ≤ 200) (xk xn xc : Int) (HX : Hid (m.reg d = ⟨xk, xn, xc⟩)) (yk yn yc : Int) (HY : Hid (m.reg s = ⟨yk, yn, yc⟩)) (e28 : (c == 28) = false) (e14 : (c == 14) = false) (hc1 : 15 ≤ c) (hc2 : c ≤ 24) (x0 : (kd xk == 0) = true) (w : World) (hM : DoxAt w B m) : Calls Tryd.prog 61 #[.pointer (some ⟨B, 0, none⟩), .agg #[.int .i64 c, .int .i64 d, .int .i64 s, .bool true, .int .i64 o, .int .i64 n], .int .i64 pc] w fun e w' => e = .returned (.tuple #[.int .i64 ((pc : Int) + 1), .bool false, .int .i64 8]) ∧ Below w.heap.size w w' := by
  have hB := hM.lt
  have hBa : B < w.heap.size + 1 := by omega
  have hBb : B < w.heap.size + 1 + 1 := by omega
  obtain ⟨h0, h1, h2⟩ := hM.reg3 hd
  rw [HX.out] at h0 h1 h2
  obtain ⟨j0, j1, j2⟩ := hM.reg3 hs
  rw [HY.out] at j0 j1 j2
  have hd0 : (0 : Int) ≤ (d : Int) := by omega
  have hd1 : (d : Int) < 27 := by omega
  have hs0 : (0 : Int) ≤ (s : Int) := by omega
  have hs1 : (s : Int) < 27 := by omega
  have hp0 : (0 : Int) ≤ (pc : Int) := by omega
  have hp1 : (pc : Int) ≤ 200 := by omega
  have HQ : Hid ((decide (15 ≤ c) && decide (c ≤ 24)) = true) := by show (decide (15 ≤ c) && decide (c ≤ 24)) = true; simp; omega
  clear hc1 hc2
  go_enter Tryd.func61, Tryd.ntmps61
  go_wp2_with fail
  go_region
  all_goals go_wp2_with fail
  all_goals go_region
  all_goals go_wp2_with (first | (go_at_call 21; refine (refAsks_any c _).mono ?_; rintro e w1 ⟨rfl, rfl⟩; rw [HQ.out]) | fail)
  all_goals go_ret3
  all_goals exact ⟨rfl, (by repeat' first | with_reducible exact Below.refl _ _ | with_reducible exact hbw | with_reducible refine Below.alloc ?_ ?_ _ | with_reducible refine Below.setCell ?_ ?_ _ | with_reducible refine Below.drew ?_ | ((try dsimp only); omega) | (simp; done) | (simp; omega))⟩
set_option maxHeartbeats 4000000 in
set_option maxRecDepth 100000 in
theorem dask_b_t (B d s pc : Nat) (c o n : Int) (m : Dox) (hd : d < 11) (hs : s < 11) (hpc : pc ≤ 200) (xk xn xc : Int) (HX : Hid (m.reg d = ⟨xk, xn, xc⟩)) (yk yn yc : Int) (HY : Hid (m.reg s = ⟨yk, yn, yc⟩)) (e28 : (c == 28) = false) (e14 : (c == 14) = false) (hc1 : 15 ≤ c) (hc2 : c ≤ 24) (x0 : (kd xk == 0) = false) (y0 : (kd yk == 0) = true) (w : World) (hM : DoxAt w B m) : Calls Tryd.prog 61 #[.pointer (some ⟨B, 0, none⟩), .agg #[.int .i64 c, .int .i64 d, .int .i64 s, .bool true, .int .i64 o, .int .i64 n], .int .i64 pc] w fun e w' => e = .returned (.tuple #[.int .i64 ((pc : Int) + 1), .bool false, .int .i64 8]) ∧ Below w.heap.size w w' := by
  have hB := hM.lt
  have hBa : B < w.heap.size + 1 := by omega
  have hBb : B < w.heap.size + 1 + 1 := by omega
  obtain ⟨h0, h1, h2⟩ := hM.reg3 hd
  rw [HX.out] at h0 h1 h2
  obtain ⟨j0, j1, j2⟩ := hM.reg3 hs
  rw [HY.out] at j0 j1 j2
  have hd0 : (0 : Int) ≤ (d : Int) := by omega
  have hd1 : (d : Int) < 27 := by omega
  have hs0 : (0 : Int) ≤ (s : Int) := by omega
  have hs1 : (s : Int) < 27 := by omega
  have hp0 : (0 : Int) ≤ (pc : Int) := by omega
  have hp1 : (pc : Int) ≤ 200 := by omega
  have HQ : Hid ((decide (15 ≤ c) && decide (c ≤ 24)) = true) := by show (decide (15 ≤ c) && decide (c ≤ 24)) = true; simp; omega
  clear hc1 hc2
  go_enter Tryd.func61, Tryd.ntmps61
  go_wp2_with fail
  go_region
  all_goals go_wp2_with fail
  all_goals go_region
  all_goals go_wp2_with (first | (go_at_call 21; refine (refAsks_any c _).mono ?_; rintro e w1 ⟨rfl, rfl⟩; rw [HQ.out]) | fail)
  all_goals go_ret3
  all_goals exact ⟨rfl, (by repeat' first | with_reducible exact Below.refl _ _ | with_reducible exact hbw | with_reducible refine Below.alloc ?_ ?_ _ | with_reducible refine Below.setCell ?_ ?_ _ | with_reducible refine Below.drew ?_ | ((try dsimp only); omega) | (simp; done) | (simp; omega))⟩
set_option maxHeartbeats 4000000 in
set_option maxRecDepth 100000 in
theorem dask_arg1_t (B d s pc : Nat) (c o n : Int) (m : Dox) (hd : d < 11) (hs : s < 11) (hpc : pc ≤ 200) (xk xn xc : Int) (HX : Hid (m.reg d = ⟨xk, xn, xc⟩)) (yk yn yc : Int) (HY : Hid (m.reg s = ⟨yk, yn, yc⟩)) (e28 : (c == 28) = false) (e14 : (c == 14) = false) (hc1 : 15 ≤ c) (hc2 : c ≤ 24) (x0 : (kd xk == 0) = false) (y0 : (kd yk == 0) = false) (x1 : (kd xk == 110) = true) (y1 : (kd yk == 110) = false) (w : World) (hM : DoxAt w B m) : Calls Tryd.prog 61 #[.pointer (some ⟨B, 0, none⟩), .agg #[.int .i64 c, .int .i64 d, .int .i64 s, .bool true, .int .i64 o, .int .i64 n], .int .i64 pc] w fun e w' => e = .returned (.tuple #[.int .i64 ((pc : Int) + 1), .bool false, .int .i64 1]) ∧ Below w.heap.size w w' := by
  have hB := hM.lt
  have hBa : B < w.heap.size + 1 := by omega
  have hBb : B < w.heap.size + 1 + 1 := by omega
  obtain ⟨h0, h1, h2⟩ := hM.reg3 hd
  rw [HX.out] at h0 h1 h2
  obtain ⟨j0, j1, j2⟩ := hM.reg3 hs
  rw [HY.out] at j0 j1 j2
  have hd0 : (0 : Int) ≤ (d : Int) := by omega
  have hd1 : (d : Int) < 27 := by omega
  have hs0 : (0 : Int) ≤ (s : Int) := by omega
  have hs1 : (s : Int) < 27 := by omega
  have hp0 : (0 : Int) ≤ (pc : Int) := by omega
  have hp1 : (pc : Int) ≤ 200 := by omega
  have HQ : Hid ((decide (15 ≤ c) && decide (c ≤ 24)) = true) := by show (decide (15 ≤ c) && decide (c ≤ 24)) = true; simp; omega
  clear hc1 hc2
  go_enter Tryd.func61, Tryd.ntmps61
  go_wp2_with fail
  go_region
  all_goals go_wp2_with fail
  all_goals go_region
  all_goals go_wp2_with (first | (go_at_call 21; refine (refAsks_any c _).mono ?_; rintro e w1 ⟨rfl, rfl⟩; rw [HQ.out]) | fail)
  all_goals go_ret3
  all_goals exact ⟨rfl, (by repeat' first | with_reducible exact Below.refl _ _ | with_reducible exact hbw | with_reducible refine Below.alloc ?_ ?_ _ | with_reducible refine Below.setCell ?_ ?_ _ | with_reducible refine Below.drew ?_ | ((try dsimp only); omega) | (simp; done) | (simp; omega))⟩
set_option maxHeartbeats 4000000 in
set_option maxRecDepth 100000 in
theorem dask_arg2_t (B d s pc : Nat) (c o n : Int) (m : Dox) (hd : d < 11) (hs : s < 11) (hpc : pc ≤ 200) (xk xn xc : Int) (HX : Hid (m.reg d = ⟨xk, xn, xc⟩)) (yk yn yc : Int) (HY : Hid (m.reg s = ⟨yk, yn, yc⟩)) (e28 : (c == 28) = false) (e14 : (c == 14) = false) (hc1 : 15 ≤ c) (hc2 : c ≤ 24) (x0 : (kd xk == 0) = false) (y0 : (kd yk == 0) = false) (x1 : (kd xk == 110) = false) (w : World) (hM : DoxAt w B m) : Calls Tryd.prog 61 #[.pointer (some ⟨B, 0, none⟩), .agg #[.int .i64 c, .int .i64 d, .int .i64 s, .bool true, .int .i64 o, .int .i64 n], .int .i64 pc] w fun e w' => e = .returned (.tuple #[.int .i64 ((pc : Int) + 1), .bool false, .int .i64 1]) ∧ Below w.heap.size w w' := by
  have hB := hM.lt
  have hBa : B < w.heap.size + 1 := by omega
  have hBb : B < w.heap.size + 1 + 1 := by omega
  obtain ⟨h0, h1, h2⟩ := hM.reg3 hd
  rw [HX.out] at h0 h1 h2
  obtain ⟨j0, j1, j2⟩ := hM.reg3 hs
  rw [HY.out] at j0 j1 j2
  have hd0 : (0 : Int) ≤ (d : Int) := by omega
  have hd1 : (d : Int) < 27 := by omega
  have hs0 : (0 : Int) ≤ (s : Int) := by omega
  have hs1 : (s : Int) < 27 := by omega
  have hp0 : (0 : Int) ≤ (pc : Int) := by omega
  have hp1 : (pc : Int) ≤ 200 := by omega
  have HQ : Hid ((decide (15 ≤ c) && decide (c ≤ 24)) = true) := by show (decide (15 ≤ c) && decide (c ≤ 24)) = true; simp; omega
  clear hc1 hc2
  go_enter Tryd.func61, Tryd.ntmps61
  go_wp2_with fail
  go_region
  all_goals go_wp2_with fail
  all_goals go_region
  all_goals go_wp2_with (first | (go_at_call 21; refine (refAsks_any c _).mono ?_; rintro e w1 ⟨rfl, rfl⟩; rw [HQ.out]) | fail)
  all_goals go_ret3
  all_goals exact ⟨rfl, (by repeat' first | with_reducible exact Below.refl _ _ | with_reducible exact hbw | with_reducible refine Below.alloc ?_ ?_ _ | with_reducible refine Below.setCell ?_ ?_ _ | with_reducible refine Below.drew ?_ | ((try dsimp only); omega) | (simp; done) | (simp; omega))⟩
set_option maxHeartbeats 4000000 in
set_option maxRecDepth 100000 in
theorem dask_arg1_f (B d s pc : Nat) (c o n : Int) (m : Dox) (hd : d < 11) (hs : s < 11) (hpc : pc ≤ 200) (xk xn xc : Int) (HX : Hid (m.reg d = ⟨xk, xn, xc⟩)) (e28 : (c == 28) = false) (e14 : (c == 14) = false) (hc1 : 15 ≤ c) (hc2 : c ≤ 24) (x0 : (kd xk == 0) = false) (x1 : (kd xk == 110) = false) (n0 : (n != 0) = true) (w : World) (hM : DoxAt w B m) : Calls Tryd.prog 61 #[.pointer (some ⟨B, 0, none⟩), .agg #[.int .i64 c, .int .i64 d, .int .i64 s, .bool false, .int .i64 o, .int .i64 n], .int .i64 pc] w fun e w' => e = .returned (.tuple #[.int .i64 ((pc : Int) + 1), .bool false, .int .i64 1]) ∧ Below w.heap.size w w' := by
  have hB := hM.lt
  have hBa : B < w.heap.size + 1 := by omega
  have hBb : B < w.heap.size + 1 + 1 := by omega
  obtain ⟨h0, h1, h2⟩ := hM.reg3 hd
  rw [HX.out] at h0 h1 h2
  have hd0 : (0 : Int) ≤ (d : Int) := by omega
  have hd1 : (d : Int) < 27 := by omega
  have hs0 : (0 : Int) ≤ (s : Int) := by omega
  have hs1 : (s : Int) < 27 := by omega
  have hp0 : (0 : Int) ≤ (pc : Int) := by omega
  have hp1 : (pc : Int) ≤ 200 := by omega
  have HQ : Hid ((decide (15 ≤ c) && decide (c ≤ 24)) = true) := by show (decide (15 ≤ c) && decide (c ≤ 24)) = true; simp; omega
  clear hc1 hc2
  go_enter Tryd.func61, Tryd.ntmps61
  go_wp2_with fail
  go_region
  all_goals go_wp2_with (first | (go_at_call 21; refine (refAsks_any c _).mono ?_; rintro e w1 ⟨rfl, rfl⟩; rw [HQ.out]) | fail)
  all_goals go_ret3
  all_goals exact ⟨rfl, (by repeat' first | with_reducible exact Below.refl _ _ | with_reducible exact hbw | with_reducible refine Below.alloc ?_ ?_ _ | with_reducible refine Below.setCell ?_ ?_ _ | with_reducible refine Below.drew ?_ | ((try dsimp only); omega) | (simp; done) | (simp; omega))⟩
set_option maxHeartbeats 4000000 in
set_option maxRecDepth 100000 in
theorem dask_arg2_f (B d s pc : Nat) (c o n : Int) (m : Dox) (hd : d < 11) (hs : s < 11) (hpc : pc ≤ 200) (xk xn xc : Int) (HX : Hid (m.reg d = ⟨xk, xn, xc⟩)) (e28 : (c == 28) = false) (e14 : (c == 14) = false) (hc1 : 15 ≤ c) (hc2 : c ≤ 24) (x0 : (kd xk == 0) = false) (x1 : (kd xk == 110) = false) (n0 : (n != 0) = false) (c15 : (c != 15) = true) (c16 : (c != 16) = true) (w : World) (hM : DoxAt w B m) : Calls Tryd.prog 61 #[.pointer (some ⟨B, 0, none⟩), .agg #[.int .i64 c, .int .i64 d, .int .i64 s, .bool false, .int .i64 o, .int .i64 n], .int .i64 pc] w fun e w' => e = .returned (.tuple #[.int .i64 ((pc : Int) + 1), .bool false, .int .i64 1]) ∧ Below w.heap.size w w' := by
  have hB := hM.lt
  have hBa : B < w.heap.size + 1 := by omega
  have hBb : B < w.heap.size + 1 + 1 := by omega
  obtain ⟨h0, h1, h2⟩ := hM.reg3 hd
  rw [HX.out] at h0 h1 h2
  have hd0 : (0 : Int) ≤ (d : Int) := by omega
  have hd1 : (d : Int) < 27 := by omega
  have hs0 : (0 : Int) ≤ (s : Int) := by omega
  have hs1 : (s : Int) < 27 := by omega
  have hp0 : (0 : Int) ≤ (pc : Int) := by omega
  have hp1 : (pc : Int) ≤ 200 := by omega
  have HQ : Hid ((decide (15 ≤ c) && decide (c ≤ 24)) = true) := by show (decide (15 ≤ c) && decide (c ≤ 24)) = true; simp; omega
  clear hc1 hc2
  go_enter Tryd.func61, Tryd.ntmps61
  go_wp2_with fail
  go_region
  all_goals go_wp2_with (first | (go_at_call 21; refine (refAsks_any c _).mono ?_; rintro e w1 ⟨rfl, rfl⟩; rw [HQ.out]) | fail)
  all_goals go_ret3
  all_goals exact ⟨rfl, (by repeat' first | with_reducible exact Below.refl _ _ | with_reducible exact hbw | with_reducible refine Below.alloc ?_ ?_ _ | with_reducible refine Below.setCell ?_ ?_ _ | with_reducible refine Below.drew ?_ | ((try dsimp only); omega) | (simp; done) | (simp; omega))⟩
set_option maxHeartbeats 4000000 in
set_option maxRecDepth 100000 in
theorem dask_eq (B d s pc : Nat) (c o n : Int) (m : Dox) (hd : d < 11) (hs : s < 11) (hpc : pc ≤ 200) (xk xn xc : Int) (HX : Hid (m.reg d = ⟨xk, xn, xc⟩)) (e28 : (c == 28) = false) (e14 : (c == 14) = false) (hc1 : 15 ≤ c) (hc2 : c ≤ 24) (x0 : (kd xk == 0) = false) (x1 : (kd xk == 110) = false) (n0 : (n != 0) = false) (c15 : (c != 15) = false) (c16 : (c == 16) = false) (w : World) (hM : DoxAt w B m) : Calls Tryd.prog 61 #[.pointer (some ⟨B, 0, none⟩), .agg #[.int .i64 c, .int .i64 d, .int .i64 s, .bool false, .int .i64 o, .int .i64 n], .int .i64 pc] w fun e w' => e = .returned (.tuple #[.int .i64 ((pc : Int) + 1), .bool false, .int .i64 0]) ∧ Below w.heap.size w w' := by
  have hB := hM.lt
  have hBa : B < w.heap.size + 1 := by omega
  have hBb : B < w.heap.size + 1 + 1 := by omega
  obtain ⟨h0, h1, h2⟩ := hM.reg3 hd
  rw [HX.out] at h0 h1 h2
  have hd0 : (0 : Int) ≤ (d : Int) := by omega
  have hd1 : (d : Int) < 27 := by omega
  have hs0 : (0 : Int) ≤ (s : Int) := by omega
  have hs1 : (s : Int) < 27 := by omega
  have hp0 : (0 : Int) ≤ (pc : Int) := by omega
  have hp1 : (pc : Int) ≤ 200 := by omega
  have HQ : Hid ((decide (15 ≤ c) && decide (c ≤ 24)) = true) := by show (decide (15 ≤ c) && decide (c ≤ 24)) = true; simp; omega
  clear hc1 hc2
  go_enter Tryd.func61, Tryd.ntmps61
  go_wp2_with fail
  go_region
  all_goals go_wp2_with (first | (go_at_call 21; refine (refAsks_any c _).mono ?_; rintro e w1 ⟨rfl, rfl⟩; rw [HQ.out]) | fail)
  all_goals go_ret3
  all_goals exact ⟨rfl, (by repeat' first | with_reducible exact Below.refl _ _ | with_reducible exact hbw | with_reducible refine Below.alloc ?_ ?_ _ | with_reducible refine Below.setCell ?_ ?_ _ | with_reducible refine Below.drew ?_ | ((try dsimp only); omega) | (simp; done) | (simp; omega))⟩
set_option maxHeartbeats 4000000 in
set_option maxRecDepth 100000 in
theorem dask_ne (B d s pc : Nat) (c o n : Int) (m : Dox) (hd : d < 11) (hs : s < 11) (hpc : pc ≤ 200) (xk xn xc : Int) (HX : Hid (m.reg d = ⟨xk, xn, xc⟩)) (e28 : (c == 28) = false) (e14 : (c == 14) = false) (hc1 : 15 ≤ c) (hc2 : c ≤ 24) (x0 : (kd xk == 0) = false) (x1 : (kd xk == 110) = false) (n0 : (n != 0) = false) (c15 : (c != 15) = true) (c16 : (c == 16) = true) (c17 : (c != 16) = false) (o0 : 0 ≤ o) (o1 : o ≤ 200) (w : World) (hM : DoxAt w B m) : Calls Tryd.prog 61 #[.pointer (some ⟨B, 0, none⟩), .agg #[.int .i64 c, .int .i64 d, .int .i64 s, .bool false, .int .i64 o, .int .i64 n], .int .i64 pc] w fun e w' => e = .returned (.tuple #[.int .i64 ((pc : Int) + 1 + o), .bool false, .int .i64 0]) ∧ Below w.heap.size w w' := by
  have hB := hM.lt
  have hBa : B < w.heap.size + 1 := by omega
  have hBb : B < w.heap.size + 1 + 1 := by omega
  obtain ⟨h0, h1, h2⟩ := hM.reg3 hd
  rw [HX.out] at h0 h1 h2
  have hd0 : (0 : Int) ≤ (d : Int) := by omega
  have hd1 : (d : Int) < 27 := by omega
  have hs0 : (0 : Int) ≤ (s : Int) := by omega
  have hs1 : (s : Int) < 27 := by omega
  have hp0 : (0 : Int) ≤ (pc : Int) := by omega
  have hp1 : (pc : Int) ≤ 200 := by omega
  have HQ : Hid ((decide (15 ≤ c) && decide (c ≤ 24)) = true) := by show (decide (15 ≤ c) && decide (c ≤ 24)) = true; simp; omega
  clear hc1 hc2
  go_enter Tryd.func61, Tryd.ntmps61
  go_wp2_with fail
  go_region
  all_goals go_wp2_with (first | (go_at_call 21; refine (refAsks_any c _).mono ?_; rintro e w1 ⟨rfl, rfl⟩; rw [HQ.out]) | fail)
  all_goals go_ret3
  all_goals exact ⟨rfl, (by repeat' first | with_reducible exact Below.refl _ _ | with_reducible exact hbw | with_reducible refine Below.alloc ?_ ?_ _ | with_reducible refine Below.setCell ?_ ?_ _ | with_reducible refine Below.drew ?_ | ((try dsimp only); omega) | (simp; done) | (simp; omega))⟩
set_option maxHeartbeats 4000000 in
set_option maxRecDepth 100000 in
theorem dask_is_f_f (B d s pc : Nat) (c o n : Int) (m : Dox) (hd : d < 11) (hs : s < 11) (hpc : pc ≤ 200) (xk xn xc : Int) (HX : Hid (m.reg d = ⟨xk, xn, xc⟩)) (e28 : (c == 28) = false) (e14 : (c == 14) = false) (hc1 : 15 ≤ c) (hc2 : c ≤ 24) (x0 : (kd xk == 0) = false) (x1 : (kd xk == 110) = true) (HI : Hid (isV c xn n = false)) (w : World) (hM : DoxAt w B m) : Calls Tryd.prog 61 #[.pointer (some ⟨B, 0, none⟩), .agg #[.int .i64 c, .int .i64 d, .int .i64 s, .bool false, .int .i64 o, .int .i64 n], .int .i64 pc] w fun e w' => e = .returned (.tuple #[.int .i64 ((pc : Int) + 1), .bool false, .int .i64 0]) ∧ Below w.heap.size w w' := by
  have hB := hM.lt
  have hBa : B < w.heap.size + 1 := by omega
  have hBb : B < w.heap.size + 1 + 1 := by omega
  obtain ⟨h0, h1, h2⟩ := hM.reg3 hd
  rw [HX.out] at h0 h1 h2
  have hd0 : (0 : Int) ≤ (d : Int) := by omega
  have hd1 : (d : Int) < 27 := by omega
  have hs0 : (0 : Int) ≤ (s : Int) := by omega
  have hs1 : (s : Int) < 27 := by omega
  have hp0 : (0 : Int) ≤ (pc : Int) := by omega
  have hp1 : (pc : Int) ≤ 200 := by omega
  have HQ : Hid ((decide (15 ≤ c) && decide (c ≤ 24)) = true) := by show (decide (15 ≤ c) && decide (c ≤ 24)) = true; simp; omega
  clear hc1 hc2
  go_enter Tryd.func61, Tryd.ntmps61
  go_wp2_with fail
  go_region
  all_goals go_wp2_with (first | (go_at_call 21; refine (refAsks_any c _).mono ?_; rintro e w1 ⟨rfl, rfl⟩; rw [HQ.out]) | fail)
  all_goals go_region_held3 (fun w' => w'.cell? ⟨w.heap.size, 0, none⟩ = some (.int .i64 c) ∧ w'.cell? ⟨B, d * 3 + 1, none⟩ = some (.int .i64 xn) ∧ w'.cell? ⟨w.heap.size + 1, 1, none⟩ = some (.int .i64 n)) (first | (simp [go_sem]; done) | (simp [go_sem, *]; done) | go_keep) (first
    | (go_at_call 81; go_must (refine (refIs_any c xn n _).mono ?_; rintro e w1 ⟨rfl, rfl⟩; rw [HI.out])))
  all_goals go_wp2
  all_goals go_ret3
  all_goals exact ⟨rfl, (by repeat' first | with_reducible exact Below.refl _ _ | with_reducible exact hbw | with_reducible refine Below.alloc ?_ ?_ _ | with_reducible refine Below.setCell ?_ ?_ _ | with_reducible refine Below.drew ?_ | ((try dsimp only); omega) | (simp; done) | (simp; omega))⟩
set_option maxHeartbeats 4000000 in
set_option maxRecDepth 100000 in
theorem dask_is_f_t (B d s pc : Nat) (c o n : Int) (m : Dox) (hd : d < 11) (hs : s < 11) (hpc : pc ≤ 200) (xk xn xc : Int) (HX : Hid (m.reg d = ⟨xk, xn, xc⟩)) (e28 : (c == 28) = false) (e14 : (c == 14) = false) (hc1 : 15 ≤ c) (hc2 : c ≤ 24) (x0 : (kd xk == 0) = false) (x1 : (kd xk == 110) = true) (HI : Hid (isV c xn n = true)) (o0 : 0 ≤ o) (o1 : o ≤ 200) (w : World) (hM : DoxAt w B m) : Calls Tryd.prog 61 #[.pointer (some ⟨B, 0, none⟩), .agg #[.int .i64 c, .int .i64 d, .int .i64 s, .bool false, .int .i64 o, .int .i64 n], .int .i64 pc] w fun e w' => e = .returned (.tuple #[.int .i64 ((pc : Int) + 1 + o), .bool false, .int .i64 0]) ∧ Below w.heap.size w w' := by
  have hB := hM.lt
  have hBa : B < w.heap.size + 1 := by omega
  have hBb : B < w.heap.size + 1 + 1 := by omega
  obtain ⟨h0, h1, h2⟩ := hM.reg3 hd
  rw [HX.out] at h0 h1 h2
  have hd0 : (0 : Int) ≤ (d : Int) := by omega
  have hd1 : (d : Int) < 27 := by omega
  have hs0 : (0 : Int) ≤ (s : Int) := by omega
  have hs1 : (s : Int) < 27 := by omega
  have hp0 : (0 : Int) ≤ (pc : Int) := by omega
  have hp1 : (pc : Int) ≤ 200 := by omega
  have HQ : Hid ((decide (15 ≤ c) && decide (c ≤ 24)) = true) := by show (decide (15 ≤ c) && decide (c ≤ 24)) = true; simp; omega
  clear hc1 hc2
  go_enter Tryd.func61, Tryd.ntmps61
  go_wp2_with fail
  go_region
  all_goals go_wp2_with (first | (go_at_call 21; refine (refAsks_any c _).mono ?_; rintro e w1 ⟨rfl, rfl⟩; rw [HQ.out]) | fail)
  all_goals go_region_held3 (fun w' => w'.cell? ⟨w.heap.size, 0, none⟩ = some (.int .i64 c) ∧ w'.cell? ⟨B, d * 3 + 1, none⟩ = some (.int .i64 xn) ∧ w'.cell? ⟨w.heap.size + 1, 1, none⟩ = some (.int .i64 n)) (first | (simp [go_sem]; done) | (simp [go_sem, *]; done) | go_keep) (first
    | (go_at_call 81; go_must (refine (refIs_any c xn n _).mono ?_; rintro e w1 ⟨rfl, rfl⟩; rw [HI.out])))
  all_goals go_wp2
  all_goals go_ret3
  all_goals exact ⟨rfl, (by repeat' first | with_reducible exact Below.refl _ _ | with_reducible exact hbw | with_reducible refine Below.alloc ?_ ?_ _ | with_reducible refine Below.setCell ?_ ?_ _ | with_reducible refine Below.drew ?_ | ((try dsimp only); omega) | (simp; done) | (simp; omega))⟩
set_option maxHeartbeats 4000000 in
set_option maxRecDepth 100000 in
theorem dask_is_t_f (B d s pc : Nat) (c o n : Int) (m : Dox) (hd : d < 11) (hs : s < 11) (hpc : pc ≤ 200) (xk xn xc : Int) (HX : Hid (m.reg d = ⟨xk, xn, xc⟩)) (yk yn yc : Int) (HY : Hid (m.reg s = ⟨yk, yn, yc⟩)) (e28 : (c == 28) = false) (e14 : (c == 14) = false) (hc1 : 15 ≤ c) (hc2 : c ≤ 24) (x0 : (kd xk == 0) = false) (x1 : (kd xk == 110) = true) (y0 : (kd yk == 0) = false) (y1 : (kd yk == 110) = true) (HI : Hid (isV c xn yn = false)) (w : World) (hM : DoxAt w B m) : Calls Tryd.prog 61 #[.pointer (some ⟨B, 0, none⟩), .agg #[.int .i64 c, .int .i64 d, .int .i64 s, .bool true, .int .i64 o, .int .i64 n], .int .i64 pc] w fun e w' => e = .returned (.tuple #[.int .i64 ((pc : Int) + 1), .bool false, .int .i64 0]) ∧ Below w.heap.size w w' := by
  have hB := hM.lt
  have hBa : B < w.heap.size + 1 := by omega
  have hBb : B < w.heap.size + 1 + 1 := by omega
  obtain ⟨h0, h1, h2⟩ := hM.reg3 hd
  rw [HX.out] at h0 h1 h2
  obtain ⟨j0, j1, j2⟩ := hM.reg3 hs
  rw [HY.out] at j0 j1 j2
  have hd0 : (0 : Int) ≤ (d : Int) := by omega
  have hd1 : (d : Int) < 27 := by omega
  have hs0 : (0 : Int) ≤ (s : Int) := by omega
  have hs1 : (s : Int) < 27 := by omega
  have hp0 : (0 : Int) ≤ (pc : Int) := by omega
  have hp1 : (pc : Int) ≤ 200 := by omega
  have HQ : Hid ((decide (15 ≤ c) && decide (c ≤ 24)) = true) := by show (decide (15 ≤ c) && decide (c ≤ 24)) = true; simp; omega
  clear hc1 hc2
  go_enter Tryd.func61, Tryd.ntmps61
  go_wp2_with fail
  go_region
  all_goals go_wp2_with fail
  all_goals go_region
  all_goals go_wp2_with (first | (go_at_call 21; refine (refAsks_any c _).mono ?_; rintro e w1 ⟨rfl, rfl⟩; rw [HQ.out]) | fail)
  all_goals go_region_held3 (fun w' => w'.cell? ⟨w.heap.size, 0, none⟩ = some (.int .i64 c) ∧ w'.cell? ⟨B, d * 3 + 1, none⟩ = some (.int .i64 xn) ∧ w'.cell? ⟨w.heap.size + 1, 1, none⟩ = some (.int .i64 yn)) (first | (simp [go_sem]; done) | (simp [go_sem, *]; done) | go_keep) (first
    | (go_at_call 81; go_must (refine (refIs_any c xn yn _).mono ?_; rintro e w1 ⟨rfl, rfl⟩; rw [HI.out])))
  all_goals go_wp2
  all_goals go_ret3
  all_goals exact ⟨rfl, (by repeat' first | with_reducible exact Below.refl _ _ | with_reducible exact hbw | with_reducible refine Below.alloc ?_ ?_ _ | with_reducible refine Below.setCell ?_ ?_ _ | with_reducible refine Below.drew ?_ | ((try dsimp only); omega) | (simp; done) | (simp; omega))⟩
set_option maxHeartbeats 4000000 in
set_option maxRecDepth 100000 in
theorem dask_is_t_t (B d s pc : Nat) (c o n : Int) (m : Dox) (hd : d < 11) (hs : s < 11) (hpc : pc ≤ 200) (xk xn xc : Int) (HX : Hid (m.reg d = ⟨xk, xn, xc⟩)) (yk yn yc : Int) (HY : Hid (m.reg s = ⟨yk, yn, yc⟩)) (e28 : (c == 28) = false) (e14 : (c == 14) = false) (hc1 : 15 ≤ c) (hc2 : c ≤ 24) (x0 : (kd xk == 0) = false) (x1 : (kd xk == 110) = true) (y0 : (kd yk == 0) = false) (y1 : (kd yk == 110) = true) (HI : Hid (isV c xn yn = true)) (o0 : 0 ≤ o) (o1 : o ≤ 200) (w : World) (hM : DoxAt w B m) : Calls Tryd.prog 61 #[.pointer (some ⟨B, 0, none⟩), .agg #[.int .i64 c, .int .i64 d, .int .i64 s, .bool true, .int .i64 o, .int .i64 n], .int .i64 pc] w fun e w' => e = .returned (.tuple #[.int .i64 ((pc : Int) + 1 + o), .bool false, .int .i64 0]) ∧ Below w.heap.size w w' := by
  have hB := hM.lt
  have hBa : B < w.heap.size + 1 := by omega
  have hBb : B < w.heap.size + 1 + 1 := by omega
  obtain ⟨h0, h1, h2⟩ := hM.reg3 hd
  rw [HX.out] at h0 h1 h2
  obtain ⟨j0, j1, j2⟩ := hM.reg3 hs
  rw [HY.out] at j0 j1 j2
  have hd0 : (0 : Int) ≤ (d : Int) := by omega
  have hd1 : (d : Int) < 27 := by omega
  have hs0 : (0 : Int) ≤ (s : Int) := by omega
  have hs1 : (s : Int) < 27 := by omega
  have hp0 : (0 : Int) ≤ (pc : Int) := by omega
  have hp1 : (pc : Int) ≤ 200 := by omega
  have HQ : Hid ((decide (15 ≤ c) && decide (c ≤ 24)) = true) := by show (decide (15 ≤ c) && decide (c ≤ 24)) = true; simp; omega
  clear hc1 hc2
  go_enter Tryd.func61, Tryd.ntmps61
  go_wp2_with fail
  go_region
  all_goals go_wp2_with fail
  all_goals go_region
  all_goals go_wp2_with (first | (go_at_call 21; refine (refAsks_any c _).mono ?_; rintro e w1 ⟨rfl, rfl⟩; rw [HQ.out]) | fail)
  all_goals go_region_held3 (fun w' => w'.cell? ⟨w.heap.size, 0, none⟩ = some (.int .i64 c) ∧ w'.cell? ⟨B, d * 3 + 1, none⟩ = some (.int .i64 xn) ∧ w'.cell? ⟨w.heap.size + 1, 1, none⟩ = some (.int .i64 yn)) (first | (simp [go_sem]; done) | (simp [go_sem, *]; done) | go_keep) (first
    | (go_at_call 81; go_must (refine (refIs_any c xn yn _).mono ?_; rintro e w1 ⟨rfl, rfl⟩; rw [HI.out])))
  all_goals go_wp2
  all_goals go_ret3
  all_goals exact ⟨rfl, (by repeat' first | with_reducible exact Below.refl _ _ | with_reducible exact hbw | with_reducible refine Below.alloc ?_ ?_ _ | with_reducible refine Below.setCell ?_ ?_ _ | with_reducible refine Below.drew ?_ | ((try dsimp only); omega) | (simp; done) | (simp; omega))⟩
end Go.Proofs.YtegeiicginpdbaaDoor
