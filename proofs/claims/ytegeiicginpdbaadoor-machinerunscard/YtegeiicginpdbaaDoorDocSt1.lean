/-
  What a step does, by the document's answer: Exit, Jump. Conditions: the step is a right one; numbers are of 64 bits.
-/
import Derived.Test.YtegeiicginpdbaaDoorDocEmit
import Derived.Test.YtegeiicginpdbaaDoorDocCounts
import Derived.Test.YtegeiicginpdbaaDoorMachRight
import Derived.Test.YtegeiicginpdbaaDoorOpRefIs
namespace Go.Proofs.YtegeiicginpdbaaDoor
open Go.ChangeShapes Go.WideShapes Go.ChangeAt Go.RowKit
attribute [local simp] drew_size drewN_size setCell_size
set_option maxHeartbeats 4000000 in
set_option maxRecDepth 100000 in
theorem dexit_no (B d s pc : Nat) (c o n : Int) (m : Dox) (hd : d < 11) (hs : s < 11) (hpc : pc ≤ 200) (xk xn xc : Int) (HX : Hid (m.reg d = ⟨xk, xn, xc⟩)) (e28 : (c == 28) = true) (x0 : (kd xk == 0) = true) (w : World) (hM : DoxAt w B m) : Calls Tryd.prog 61 #[.pointer (some ⟨B, 0, none⟩), .agg #[.int .i64 c, .int .i64 d, .int .i64 s, .bool false, .int .i64 o, .int .i64 n], .int .i64 pc] w fun e w' => e = .returned (.tuple #[.int .i64 ((pc : Int) + 1), .bool false, .int .i64 8]) ∧ Below w.heap.size w w' := by
  have hB := hM.lt
  have hBa : B < w.heap.size + 1 := by omega
  have hBb : B < w.heap.size + 1 + 1 := by omega
  obtain ⟨h0, h1, h2⟩ := hM.reg3 hd
  rw [HX.out] at h0 h1 h2
  have hd0 : (0 : Int) ≤ (d : Int) := by omega
  have hd1 : (d : Int) < 27 := by omega
  have hs0 : (0 : Int) ≤ (s : Int) := by omega
  have hs1 : (s : Int) < 27 := by omega
  have hp0 : (0 : Int) ≤ (pc : Int) := by omega
  have hp1 : (pc : Int) ≤ 200 := by omega
  go_enter Tryd.func61, Tryd.ntmps61
  go_wp2_with fail
  go_region
  all_goals go_wp2_with (fail)
  all_goals go_ret3
  all_goals exact ⟨rfl, (by repeat' first | with_reducible exact Below.refl _ _ | with_reducible exact hbw | with_reducible refine Below.alloc ?_ ?_ _ | with_reducible refine Below.setCell ?_ ?_ _ | with_reducible refine Below.drew ?_ | ((try dsimp only); omega) | (simp; done) | (simp; omega))⟩
set_option maxHeartbeats 4000000 in
set_option maxRecDepth 100000 in
theorem dexit_arg (B d s pc : Nat) (c o n : Int) (m : Dox) (hd : d < 11) (hs : s < 11) (hpc : pc ≤ 200) (xk xn xc : Int) (HX : Hid (m.reg d = ⟨xk, xn, xc⟩)) (e28 : (c == 28) = true) (x0 : (kd xk == 0) = false) (x1 : (kd xk == 110) = false) (w : World) (hM : DoxAt w B m) : Calls Tryd.prog 61 #[.pointer (some ⟨B, 0, none⟩), .agg #[.int .i64 c, .int .i64 d, .int .i64 s, .bool false, .int .i64 o, .int .i64 n], .int .i64 pc] w fun e w' => e = .returned (.tuple #[.int .i64 ((pc : Int) + 1), .bool false, .int .i64 1]) ∧ Below w.heap.size w w' := by
  have hB := hM.lt
  have hBa : B < w.heap.size + 1 := by omega
  have hBb : B < w.heap.size + 1 + 1 := by omega
  obtain ⟨h0, h1, h2⟩ := hM.reg3 hd
  rw [HX.out] at h0 h1 h2
  have hd0 : (0 : Int) ≤ (d : Int) := by omega
  have hd1 : (d : Int) < 27 := by omega
  have hs0 : (0 : Int) ≤ (s : Int) := by omega
  have hs1 : (s : Int) < 27 := by omega
  have hp0 : (0 : Int) ≤ (pc : Int) := by omega
  have hp1 : (pc : Int) ≤ 200 := by omega
  go_enter Tryd.func61, Tryd.ntmps61
  go_wp2_with fail
  go_region
  all_goals go_wp2_with (fail)
  all_goals go_ret3
  all_goals exact ⟨rfl, (by repeat' first | with_reducible exact Below.refl _ _ | with_reducible exact hbw | with_reducible refine Below.alloc ?_ ?_ _ | with_reducible refine Below.setCell ?_ ?_ _ | with_reducible refine Below.drew ?_ | ((try dsimp only); omega) | (simp; done) | (simp; omega))⟩
set_option maxHeartbeats 4000000 in
set_option maxRecDepth 100000 in
theorem dexit_fine (B d s pc : Nat) (c o n : Int) (m : Dox) (hd : d < 11) (hs : s < 11) (hpc : pc ≤ 200) (xk xn xc : Int) (HX : Hid (m.reg d = ⟨xk, xn, xc⟩)) (e28 : (c == 28) = true) (x0 : (kd xk == 0) = false) (x1 : (kd xk == 110) = true) (w : World) (hM : DoxAt w B m) : Calls Tryd.prog 61 #[.pointer (some ⟨B, 0, none⟩), .agg #[.int .i64 c, .int .i64 d, .int .i64 s, .bool false, .int .i64 o, .int .i64 n], .int .i64 pc] w fun e w' => e = .returned (.tuple #[.int .i64 ((pc : Int) + 1), .bool true, .int .i64 0]) ∧ Kept B w w' ∧ DoxAt w' B (m.setNum xn) := by
  have hB := hM.lt
  have hBa : B < w.heap.size + 1 := by omega
  have hBb : B < w.heap.size + 1 + 1 := by omega
  obtain ⟨h0, h1, h2⟩ := hM.reg3 hd
  rw [HX.out] at h0 h1 h2
  have hd0 : (0 : Int) ≤ (d : Int) := by omega
  have hd1 : (d : Int) < 27 := by omega
  have hs0 : (0 : Int) ≤ (s : Int) := by omega
  have hs1 : (s : Int) < 27 := by omega
  have hp0 : (0 : Int) ≤ (pc : Int) := by omega
  have hp1 : (pc : Int) ≤ 200 := by omega
  have n0 := hM.num
  have nf := hM.frozen 89
  go_enter Tryd.func61, Tryd.ntmps61
  go_wp2_with fail
  go_region
  all_goals go_wp2_with (fail)
  all_goals go_ret3
  all_goals exact ⟨rfl, (by repeat' first | with_reducible exact HK | with_reducible exact kept_refl _ _ | with_reducible refine kept_drew ?_ | with_reducible refine kept_set ?_ _ _ | with_reducible refine kept_new ?_ _ _ ?_ | with_reducible refine kept_alloc ?_ _ | ((try dsimp only); omega) | (simp; omega)), (by repeat' first | with_reducible exact hM | with_reducible refine DoxAt.drew ?_ | with_reducible refine DoxAt.putNum ?_ _ | with_reducible refine DoxAt.off ?_ _ _ ?_ | with_reducible refine DoxAt.alloc ?_ _ | ((try dsimp only); omega) | (simp; omega))⟩
set_option maxHeartbeats 4000000 in
set_option maxRecDepth 100000 in
theorem djump (B d s pc : Nat) (c o n : Int) (m : Dox) (hd : d < 11) (hs : s < 11) (hpc : pc ≤ 200) (xk xn xc : Int) (HX : Hid (m.reg d = ⟨xk, xn, xc⟩)) (e28 : (c == 28) = false) (e14 : (c == 14) = true) (o0 : 0 ≤ o) (o1 : o ≤ 200) (w : World) (hM : DoxAt w B m) : Calls Tryd.prog 61 #[.pointer (some ⟨B, 0, none⟩), .agg #[.int .i64 c, .int .i64 d, .int .i64 s, .bool false, .int .i64 o, .int .i64 n], .int .i64 pc] w fun e w' => e = .returned (.tuple #[.int .i64 ((pc : Int) + 1 + o), .bool false, .int .i64 0]) ∧ Below w.heap.size w w' := by
  have hB := hM.lt
  have hBa : B < w.heap.size + 1 := by omega
  have hBb : B < w.heap.size + 1 + 1 := by omega
  obtain ⟨h0, h1, h2⟩ := hM.reg3 hd
  rw [HX.out] at h0 h1 h2
  have hd0 : (0 : Int) ≤ (d : Int) := by omega
  have hd1 : (d : Int) < 27 := by omega
  have hs0 : (0 : Int) ≤ (s : Int) := by omega
  have hs1 : (s : Int) < 27 := by omega
  have hp0 : (0 : Int) ≤ (pc : Int) := by omega
  have hp1 : (pc : Int) ≤ 200 := by omega
  have _hx := HX.out
  go_enter Tryd.func61, Tryd.ntmps61
  go_wp2_with fail
  go_region
  all_goals go_wp2_with (fail)
  all_goals go_ret3
  all_goals exact ⟨rfl, (by repeat' first | with_reducible exact Below.refl _ _ | with_reducible exact hbw | with_reducible refine Below.alloc ?_ ?_ _ | with_reducible refine Below.setCell ?_ ?_ _ | with_reducible refine Below.drew ?_ | ((try dsimp only); omega) | (simp; done) | (simp; omega))⟩
end Go.Proofs.YtegeiicginpdbaaDoor
