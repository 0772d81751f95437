/-
  What a step does, by the document's answer: a Store. Conditions: the step is a right one; numbers are of 64 bits.
-/
import Derived.Test.YtegeiicginpdbaaDoorDocEmit
import Derived.Test.YtegeiicginpdbaaDoorDocCounts
import Derived.Test.YtegeiicginpdbaaDoorMachRight
import Derived.Test.YtegeiicginpdbaaDoorOpRefIs
namespace Go.Proofs.YtegeiicginpdbaaDoor
open Go.ChangeShapes Go.WideShapes Go.ChangeAt Go.RowKit
attribute [local simp] drew_size drewN_size setCell_size
theorem DoxAt.numV {w : World} {B d : Nat} {m : Dox} (h : DoxAt w B m) (hd : d < 27) (n : Int) : DoxAt (((w.setCell ⟨B, d * 3, none⟩ (.int .u8 110)).setCell ⟨B, d * 3 + 1, none⟩ (.int .i64 n)).setCell ⟨B, d * 3 + 2, none⟩ (.int .i64 0)) B (m.putV d ⟨1, n, 0⟩) := h.put3 hd 1 n 0
set_option maxHeartbeats 4000000 in
set_option maxRecDepth 100000 in
theorem dstore_no_f (B d s pc : Nat) (c o n : Int) (m : Dox) (hd : d < 11) (hs : s < 11) (hpc : pc ≤ 200) (xk xn xc : Int) (HX : Hid (m.reg d = ⟨xk, xn, xc⟩)) (e28 : (c == 28) = false) (e14 : (c == 14) = false) (hc1 : 24 < c) (e25 : (c == 25) = false) (e26 : (c == 26) = true) (HPOK : Hid (Val.Ok ⟨xk, xn, xc⟩)) (HO64 : Hid (In64 o)) (t E : Int) (HW : Hid (wordF ⟨xk, xn, xc⟩ o = (t, E))) (hE : (E != 0) = true) (w : World) (hM : DoxAt w B m) : Calls Tryd.prog 61 #[.pointer (some ⟨B, 0, none⟩), .agg #[.int .i64 c, .int .i64 d, .int .i64 s, .bool false, .int .i64 o, .int .i64 n], .int .i64 pc] w fun e w' => e = .returned (.tuple #[.int .i64 ((pc : Int) + 1), .bool false, .int .i64 E]) ∧ Below w.heap.size w w' := by
  have hB := hM.lt
  have hBa : B < w.heap.size + 1 := by omega
  have hBb : B < w.heap.size + 1 + 1 := by omega
  obtain ⟨h0, h1, h2⟩ := hM.reg3 hd
  rw [HX.out] at h0 h1 h2
  have hd0 : (0 : Int) ≤ (d : Int) := by omega
  have hd1 : (d : Int) < 27 := by omega
  have hs0 : (0 : Int) ≤ (s : Int) := by omega
  have hs1 : (s : Int) < 27 := by omega
  have hp0 : (0 : Int) ≤ (pc : Int) := by omega
  have hp1 : (pc : Int) ≤ 200 := by omega
  have HQ : Hid ((decide (15 ≤ c) && decide (c ≤ 24)) = false) := by show (decide (15 ≤ c) && decide (c ≤ 24)) = false; simp; omega
  clear hc1
  go_enter Tryd.func61, Tryd.ntmps61
  go_wp2_with fail
  go_region
  all_goals go_wp2_with (first | (go_at_call 21; refine (refAsks_any c _).mono ?_; rintro e w1 ⟨rfl, rfl⟩; rw [HQ.out]) | (go_at_call 82; refine (word_all ⟨xk, xn, xc⟩ o HPOK.out HO64.out _).mono ?_; rintro e w2 ⟨rfl, hb2⟩; rw [HW.out]; have hM2 : DoxAt w2 B m := DoxAt.later (by repeat' first | with_reducible exact hM | with_reducible refine DoxAt.drew ?_ | with_reducible refine DoxAt.off ?_ _ _ ?_ | with_reducible refine DoxAt.alloc ?_ _ | ((try dsimp only); omega) | (simp; omega)) hb2; have hbw : Below w.heap.size w w2 := (by ((refine Below.trans ?_ (hb2.mono ?_)) <;> repeat' first | with_reducible exact Below.refl _ _ | with_reducible refine Below.alloc ?_ ?_ _ | with_reducible refine Below.setCell ?_ ?_ _ | with_reducible refine Below.drew ?_ | (simp; done) | (simp; omega) | omega)); have hB2 := hM2.lt; have v6 := later_box hb2 w.heap.size; (try simp [go_sem] at v6); have v7 := later_box hb2 (w.heap.size + 1); (try simp [go_sem] at v7); have v8 := later_box hb2 (w.heap.size + 1 + 1); (try simp [go_sem] at v8); skip) | fail)
  all_goals go_ret3
  all_goals exact ⟨rfl, (by repeat' first | with_reducible exact Below.refl _ _ | with_reducible exact hbw | with_reducible refine Below.alloc ?_ ?_ _ | with_reducible refine Below.setCell ?_ ?_ _ | with_reducible refine Below.drew ?_ | ((try dsimp only); omega) | (simp; done) | (simp; omega))⟩
set_option maxHeartbeats 4000000 in
set_option maxRecDepth 100000 in
theorem dstore_told_f (B d s pc : Nat) (c o n : Int) (m : Dox) (hd : d < 11) (hs : s < 11) (hpc : pc ≤ 200) (xk xn xc : Int) (HX : Hid (m.reg d = ⟨xk, xn, xc⟩)) (e28 : (c == 28) = false) (e14 : (c == 14) = false) (hc1 : 24 < c) (e25 : (c == 25) = false) (e26 : (c == 26) = true) (HPOK : Hid (Val.Ok ⟨xk, xn, xc⟩)) (HO64 : Hid (In64 o)) (t : Int) (HW : Hid (wordF ⟨xk, xn, xc⟩ o = (t, 0))) (k2 : (kd xk == 116) = true) (w : World) (hM : DoxAt w B m) : Calls Tryd.prog 61 #[.pointer (some ⟨B, 0, none⟩), .agg #[.int .i64 c, .int .i64 d, .int .i64 s, .bool false, .int .i64 o, .int .i64 n], .int .i64 pc] w fun e w' => e = .returned (.tuple #[.int .i64 ((pc : Int) + 1), .bool false, .int .i64 6]) ∧ Below w.heap.size w w' := by
  have hB := hM.lt
  have hBa : B < w.heap.size + 1 := by omega
  have hBb : B < w.heap.size + 1 + 1 := by omega
  obtain ⟨h0, h1, h2⟩ := hM.reg3 hd
  rw [HX.out] at h0 h1 h2
  have hd0 : (0 : Int) ≤ (d : Int) := by omega
  have hd1 : (d : Int) < 27 := by omega
  have hs0 : (0 : Int) ≤ (s : Int) := by omega
  have hs1 : (s : Int) < 27 := by omega
  have hp0 : (0 : Int) ≤ (pc : Int) := by omega
  have hp1 : (pc : Int) ≤ 200 := by omega
  have HQ : Hid ((decide (15 ≤ c) && decide (c ≤ 24)) = false) := by show (decide (15 ≤ c) && decide (c ≤ 24)) = false; simp; omega
  clear hc1
  go_enter Tryd.func61, Tryd.ntmps61
  go_wp2_with fail
  go_region
  all_goals go_wp2_with (first | (go_at_call 21; refine (refAsks_any c _).mono ?_; rintro e w1 ⟨rfl, rfl⟩; rw [HQ.out]) | (go_at_call 82; refine (word_all ⟨xk, xn, xc⟩ o HPOK.out HO64.out _).mono ?_; rintro e w2 ⟨rfl, hb2⟩; rw [HW.out]; have hM2 : DoxAt w2 B m := DoxAt.later (by repeat' first | with_reducible exact hM | with_reducible refine DoxAt.drew ?_ | with_reducible refine DoxAt.off ?_ _ _ ?_ | with_reducible refine DoxAt.alloc ?_ _ | ((try dsimp only); omega) | (simp; omega)) hb2; have hbw : Below w.heap.size w w2 := (by ((refine Below.trans ?_ (hb2.mono ?_)) <;> repeat' first | with_reducible exact Below.refl _ _ | with_reducible refine Below.alloc ?_ ?_ _ | with_reducible refine Below.setCell ?_ ?_ _ | with_reducible refine Below.drew ?_ | (simp; done) | (simp; omega) | omega)); have hB2 := hM2.lt; have v6 := later_box hb2 w.heap.size; (try simp [go_sem] at v6); have v7 := later_box hb2 (w.heap.size + 1); (try simp [go_sem] at v7); have v8 := later_box hb2 (w.heap.size + 1 + 1); (try simp [go_sem] at v8); skip) | fail)
  all_goals go_ret3
  all_goals exact ⟨rfl, (by repeat' first | with_reducible exact Below.refl _ _ | with_reducible exact hbw | with_reducible refine Below.alloc ?_ ?_ _ | with_reducible refine Below.setCell ?_ ?_ _ | with_reducible refine Below.drew ?_ | ((try dsimp only); omega) | (simp; done) | (simp; omega))⟩
set_option maxHeartbeats 4000000 in
set_option maxRecDepth 100000 in
theorem dstore_slot_f (B d s pc : Nat) (c o n : Int) (m : Dox) (hd : d < 11) (hs : s < 11) (hpc : pc ≤ 200) (xk xn xc : Int) (HX : Hid (m.reg d = ⟨xk, xn, xc⟩)) (e28 : (c == 28) = false) (e14 : (c == 14) = false) (hc1 : 24 < c) (e25 : (c == 25) = false) (e26 : (c == 26) = true) (HPOK : Hid (Val.Ok ⟨xk, xn, xc⟩)) (HO64 : Hid (In64 o)) (u : Nat) (q : Int) (HW : Hid (wordF ⟨xk, xn, xc⟩ o = (q, 0))) (hq : 27 + q = (u : Int)) (hq0 : -16 ≤ q) (hq1 : q ≤ -1)  (k2 : (kd xk == 116) = false) (k3 : (kd xk == 102) = true) (w : World) (hM : DoxAt w B m) : Calls Tryd.prog 61 #[.pointer (some ⟨B, 0, none⟩), .agg #[.int .i64 c, .int .i64 d, .int .i64 s, .bool false, .int .i64 o, .int .i64 n], .int .i64 pc] w fun e w' => e = .returned (.tuple #[.int .i64 ((pc : Int) + 1), .bool false, .int .i64 0]) ∧ Kept B w w' ∧ DoxAt w' B (m.putV u ⟨1, n, 0⟩) := by
  have hB := hM.lt
  have hBa : B < w.heap.size + 1 := by omega
  have hBb : B < w.heap.size + 1 + 1 := by omega
  obtain ⟨h0, h1, h2⟩ := hM.reg3 hd
  rw [HX.out] at h0 h1 h2
  have hd0 : (0 : Int) ≤ (d : Int) := by omega
  have hd1 : (d : Int) < 27 := by omega
  have hs0 : (0 : Int) ≤ (s : Int) := by omega
  have hs1 : (s : Int) < 27 := by omega
  have hp0 : (0 : Int) ≤ (pc : Int) := by omega
  have hp1 : (pc : Int) ≤ 200 := by omega
  have HQ : Hid ((decide (15 ≤ c) && decide (c ≤ 24)) = false) := by show (decide (15 ≤ c) && decide (c ≤ 24)) = false; simp; omega
  clear hc1
  have hu0 : (0 : Int) ≤ (u : Int) := by omega
  have hu1 : (u : Int) < 27 := by omega
  go_enter Tryd.func61, Tryd.ntmps61
  go_wp2_with fail
  go_region
  all_goals go_wp2_with (first | (go_at_call 21; refine (refAsks_any c _).mono ?_; rintro e w1 ⟨rfl, rfl⟩; rw [HQ.out]) | (go_at_call 82; refine (word_all ⟨xk, xn, xc⟩ o HPOK.out HO64.out _).mono ?_; rintro e w2 ⟨rfl, hb2⟩; rw [HW.out]; have hM2 : DoxAt w2 B m := DoxAt.later (by repeat' first | with_reducible exact hM | with_reducible refine DoxAt.drew ?_ | with_reducible refine DoxAt.off ?_ _ _ ?_ | with_reducible refine DoxAt.alloc ?_ _ | ((try dsimp only); omega) | (simp; omega)) hb2; have hbw : Below w.heap.size w w2 := (by ((refine Below.trans ?_ (hb2.mono ?_)) <;> repeat' first | with_reducible exact Below.refl _ _ | with_reducible refine Below.alloc ?_ ?_ _ | with_reducible refine Below.setCell ?_ ?_ _ | with_reducible refine Below.drew ?_ | (simp; done) | (simp; omega) | omega)); have hB2 := hM2.lt; have v6 := later_box hb2 w.heap.size; (try simp [go_sem] at v6); have v7 := later_box hb2 (w.heap.size + 1); (try simp [go_sem] at v7); have v8 := later_box hb2 (w.heap.size + 1 + 1); (try simp [go_sem] at v8); obtain ⟨q0, q1, q2⟩ := hM2.v (d := u) (by omega); have f0 := hM2.frozen (u * 3); have f1 := hM2.frozen (u * 3 + 1); have f2 := hM2.frozen (u * 3 + 2); have hu27 : u < 27 := (by omega)) | fail)
  all_goals go_region
  all_goals go_wp2
  all_goals go_ret3
  all_goals have HK : Kept B w w2 := kept_below hbw B
  all_goals exact ⟨rfl, (by repeat' first | with_reducible exact HK | with_reducible exact kept_refl _ _ | with_reducible refine kept_drew ?_ | with_reducible refine kept_set ?_ _ _ | with_reducible refine kept_new ?_ _ _ ?_ | with_reducible refine kept_alloc ?_ _ | ((try dsimp only); omega) | (simp; omega)), (by repeat' first | with_reducible exact hM2 | with_reducible refine DoxAt.drew ?_ | with_reducible refine DoxAt.numV ?_ hu27 _ | with_reducible refine DoxAt.off ?_ _ _ ?_ | with_reducible refine DoxAt.alloc ?_ _ | ((try dsimp only); omega) | (simp; omega))⟩
set_option maxHeartbeats 4000000 in
set_option maxRecDepth 100000 in
theorem dstore_cell_f (B d s pc : Nat) (c o n : Int) (m : Dox) (hd : d < 11) (hs : s < 11) (hpc : pc ≤ 200) (xk xn : Int) (xcn : Nat) (HX : Hid (m.reg d = ⟨xk, xn, (xcn : Int)⟩)) (e28 : (c == 28) = false) (e14 : (c == 14) = false) (hc1 : 24 < c) (e25 : (c == 25) = false) (e26 : (c == 26) = true) (HPOK : Hid (Val.Ok ⟨xk, xn, (xcn : Int)⟩)) (HO64 : Hid (In64 o)) (t : Nat) (ht : t < 4) (hxcn : xcn < 4) (HW : Hid (wordF ⟨xk, xn, (xcn : Int)⟩ o = (((t : Nat) : Int), 0))) (k2 : (kd xk == 116) = false) (k3 : (kd xk == 102) = false) (w : World) (hM : DoxAt w B m) : Calls Tryd.prog 61 #[.pointer (some ⟨B, 0, none⟩), .agg #[.int .i64 c, .int .i64 d, .int .i64 s, .bool false, .int .i64 o, .int .i64 n], .int .i64 pc] w fun e w' => e = .returned (.tuple #[.int .i64 ((pc : Int) + 1), .bool false, .int .i64 0]) ∧ Kept B w w' ∧ DoxAt w' B (m.putCel (xcn * 4 + t) n) := by
  have hB := hM.lt
  have hBa : B < w.heap.size + 1 := by omega
  have hBb : B < w.heap.size + 1 + 1 := by omega
  obtain ⟨h0, h1, h2⟩ := hM.reg3 hd
  rw [HX.out] at h0 h1 h2
  have hd0 : (0 : Int) ≤ (d : Int) := by omega
  have hd1 : (d : Int) < 27 := by omega
  have hs0 : (0 : Int) ≤ (s : Int) := by omega
  have hs1 : (s : Int) < 27 := by omega
  have hp0 : (0 : Int) ≤ (pc : Int) := by omega
  have hp1 : (pc : Int) ≤ 200 := by omega
  have HQ : Hid ((decide (15 ≤ c) && decide (c ≤ 24)) = false) := by show (decide (15 ≤ c) && decide (c ≤ 24)) = false; simp; omega
  clear hc1
  have ht0 : (0 : Int) ≤ (t : Int) := by omega
  have ht1 : (t : Int) < 4 := by omega
  have hc0 : (0 : Int) ≤ (xcn : Int) := by omega
  have hc1 : (xcn : Int) < 4 := by omega
  go_enter Tryd.func61, Tryd.ntmps61
  go_wp2_with fail
  go_region
  all_goals go_wp2_with (first | (go_at_call 21; refine (refAsks_any c _).mono ?_; rintro e w1 ⟨rfl, rfl⟩; rw [HQ.out]) | (go_at_call 82; refine (word_all ⟨xk, xn, (xcn : Int)⟩ o HPOK.out HO64.out _).mono ?_; rintro e w2 ⟨rfl, hb2⟩; rw [HW.out]; have hM2 : DoxAt w2 B m := DoxAt.later (by repeat' first | with_reducible exact hM | with_reducible refine DoxAt.drew ?_ | with_reducible refine DoxAt.off ?_ _ _ ?_ | with_reducible refine DoxAt.alloc ?_ _ | ((try dsimp only); omega) | (simp; omega)) hb2; have hbw : Below w.heap.size w w2 := (by ((refine Below.trans ?_ (hb2.mono ?_)) <;> repeat' first | with_reducible exact Below.refl _ _ | with_reducible refine Below.alloc ?_ ?_ _ | with_reducible refine Below.setCell ?_ ?_ _ | with_reducible refine Below.drew ?_ | (simp; done) | (simp; omega) | omega)); have hB2 := hM2.lt; have v6 := later_box hb2 w.heap.size; (try simp [go_sem] at v6); have v7 := later_box hb2 (w.heap.size + 1); (try simp [go_sem] at v7); have v8 := later_box hb2 (w.heap.size + 1 + 1); (try simp [go_sem] at v8); have q0 : w2.cell? ⟨B, 90 + xcn * 4 + t, none⟩ = some (.int .i64 (m.cel (xcn * 4 + t))) := (by rw [Nat.add_assoc]; exact hM2.cel (d := xcn * 4 + t) (by omega)); have f0 := hM2.frozen (90 + xcn * 4 + t); have hct : xcn * 4 + t < 16 := (by omega)) | fail)
  all_goals go_region
  all_goals go_wp2
  all_goals go_ret3
  all_goals have HK : Kept B w w2 := kept_below hbw B
  all_goals rw [Nat.add_assoc 90 (xcn * 4) t]
  all_goals exact ⟨rfl, (by repeat' first | with_reducible exact HK | with_reducible exact kept_refl _ _ | with_reducible refine kept_drew ?_ | with_reducible refine kept_set ?_ _ _ | with_reducible refine kept_new ?_ _ _ ?_ | with_reducible refine kept_alloc ?_ _ | ((try dsimp only); omega) | (simp; omega)), (by repeat' first | with_reducible exact hM2 | with_reducible refine DoxAt.drew ?_ | with_reducible refine DoxAt.cel1 ?_ hct _ | with_reducible refine DoxAt.off ?_ _ _ ?_ | with_reducible refine DoxAt.alloc ?_ _ | ((try dsimp only); omega) | (simp; omega))⟩
set_option maxHeartbeats 4000000 in
set_option maxRecDepth 100000 in
theorem dstore_no_t (B d s pc : Nat) (c o n : Int) (m : Dox) (hd : d < 11) (hs : s < 11) (hpc : pc ≤ 200) (xk xn xc : Int) (HX : Hid (m.reg d = ⟨xk, xn, xc⟩)) (yk yn yc : Int) (HY : Hid (m.reg s = ⟨yk, yn, yc⟩)) (e28 : (c == 28) = false) (e14 : (c == 14) = false) (hc1 : 24 < c) (e25 : (c == 25) = false) (e26 : (c == 26) = true) (HPOK : Hid (Val.Ok ⟨xk, xn, xc⟩)) (HO64 : Hid (In64 o)) (t E : Int) (HW : Hid (wordF ⟨xk, xn, xc⟩ o = (t, E))) (hE : (E != 0) = true) (w : World) (hM : DoxAt w B m) : Calls Tryd.prog 61 #[.pointer (some ⟨B, 0, none⟩), .agg #[.int .i64 c, .int .i64 d, .int .i64 s, .bool true, .int .i64 o, .int .i64 n], .int .i64 pc] w fun e w' => e = .returned (.tuple #[.int .i64 ((pc : Int) + 1), .bool false, .int .i64 E]) ∧ Below w.heap.size w w' := by
  have hB := hM.lt
  have hBa : B < w.heap.size + 1 := by omega
  have hBb : B < w.heap.size + 1 + 1 := by omega
  obtain ⟨h0, h1, h2⟩ := hM.reg3 hd
  rw [HX.out] at h0 h1 h2
  obtain ⟨j0, j1, j2⟩ := hM.reg3 hs
  rw [HY.out] at j0 j1 j2
  have hd0 : (0 : Int) ≤ (d : Int) := by omega
  have hd1 : (d : Int) < 27 := by omega
  have hs0 : (0 : Int) ≤ (s : Int) := by omega
  have hs1 : (s : Int) < 27 := by omega
  have hp0 : (0 : Int) ≤ (pc : Int) := by omega
  have hp1 : (pc : Int) ≤ 200 := by omega
  have HQ : Hid ((decide (15 ≤ c) && decide (c ≤ 24)) = false) := by show (decide (15 ≤ c) && decide (c ≤ 24)) = false; simp; omega
  clear hc1
  go_enter Tryd.func61, Tryd.ntmps61
  go_wp2_with fail
  go_region
  all_goals go_wp2_with fail
  all_goals go_region
  all_goals go_wp2_with (first | (go_at_call 21; refine (refAsks_any c _).mono ?_; rintro e w1 ⟨rfl, rfl⟩; rw [HQ.out]) | (go_at_call 82; refine (word_all ⟨xk, xn, xc⟩ o HPOK.out HO64.out _).mono ?_; rintro e w2 ⟨rfl, hb2⟩; rw [HW.out]; have hM2 : DoxAt w2 B m := DoxAt.later (by repeat' first | with_reducible exact hM | with_reducible refine DoxAt.drew ?_ | with_reducible refine DoxAt.off ?_ _ _ ?_ | with_reducible refine DoxAt.alloc ?_ _ | ((try dsimp only); omega) | (simp; omega)) hb2; have hbw : Below w.heap.size w w2 := (by ((refine Below.trans ?_ (hb2.mono ?_)) <;> repeat' first | with_reducible exact Below.refl _ _ | with_reducible refine Below.alloc ?_ ?_ _ | with_reducible refine Below.setCell ?_ ?_ _ | with_reducible refine Below.drew ?_ | (simp; done) | (simp; omega) | omega)); have hB2 := hM2.lt; have v6 := later_box hb2 w.heap.size; (try simp [go_sem] at v6); have v7 := later_box hb2 (w.heap.size + 1); (try simp [go_sem] at v7); have v8 := later_box hb2 (w.heap.size + 1 + 1); (try simp [go_sem] at v8); skip) | fail)
  all_goals go_ret3
  all_goals exact ⟨rfl, (by repeat' first | with_reducible exact Below.refl _ _ | with_reducible exact hbw | with_reducible refine Below.alloc ?_ ?_ _ | with_reducible refine Below.setCell ?_ ?_ _ | with_reducible refine Below.drew ?_ | ((try dsimp only); omega) | (simp; done) | (simp; omega))⟩
set_option maxHeartbeats 4000000 in
set_option maxRecDepth 100000 in
theorem dstore_told_t (B d s pc : Nat) (c o n : Int) (m : Dox) (hd : d < 11) (hs : s < 11) (hpc : pc ≤ 200) (xk xn xc : Int) (HX : Hid (m.reg d = ⟨xk, xn, xc⟩)) (yk yn yc : Int) (HY : Hid (m.reg s = ⟨yk, yn, yc⟩)) (e28 : (c == 28) = false) (e14 : (c == 14) = false) (hc1 : 24 < c) (e25 : (c == 25) = false) (e26 : (c == 26) = true) (HPOK : Hid (Val.Ok ⟨xk, xn, xc⟩)) (HO64 : Hid (In64 o)) (t : Int) (HW : Hid (wordF ⟨xk, xn, xc⟩ o = (t, 0))) (k2 : (kd xk == 116) = true) (w : World) (hM : DoxAt w B m) : Calls Tryd.prog 61 #[.pointer (some ⟨B, 0, none⟩), .agg #[.int .i64 c, .int .i64 d, .int .i64 s, .bool true, .int .i64 o, .int .i64 n], .int .i64 pc] w fun e w' => e = .returned (.tuple #[.int .i64 ((pc : Int) + 1), .bool false, .int .i64 6]) ∧ Below w.heap.size w w' := by
  have hB := hM.lt
  have hBa : B < w.heap.size + 1 := by omega
  have hBb : B < w.heap.size + 1 + 1 := by omega
  obtain ⟨h0, h1, h2⟩ := hM.reg3 hd
  rw [HX.out] at h0 h1 h2
  obtain ⟨j0, j1, j2⟩ := hM.reg3 hs
  rw [HY.out] at j0 j1 j2
  have hd0 : (0 : Int) ≤ (d : Int) := by omega
  have hd1 : (d : Int) < 27 := by omega
  have hs0 : (0 : Int) ≤ (s : Int) := by omega
  have hs1 : (s : Int) < 27 := by omega
  have hp0 : (0 : Int) ≤ (pc : Int) := by omega
  have hp1 : (pc : Int) ≤ 200 := by omega
  have HQ : Hid ((decide (15 ≤ c) && decide (c ≤ 24)) = false) := by show (decide (15 ≤ c) && decide (c ≤ 24)) = false; simp; omega
  clear hc1
  go_enter Tryd.func61, Tryd.ntmps61
  go_wp2_with fail
  go_region
  all_goals go_wp2_with fail
  all_goals go_region
  all_goals go_wp2_with (first | (go_at_call 21; refine (refAsks_any c _).mono ?_; rintro e w1 ⟨rfl, rfl⟩; rw [HQ.out]) | (go_at_call 82; refine (word_all ⟨xk, xn, xc⟩ o HPOK.out HO64.out _).mono ?_; rintro e w2 ⟨rfl, hb2⟩; rw [HW.out]; have hM2 : DoxAt w2 B m := DoxAt.later (by repeat' first | with_reducible exact hM | with_reducible refine DoxAt.drew ?_ | with_reducible refine DoxAt.off ?_ _ _ ?_ | with_reducible refine DoxAt.alloc ?_ _ | ((try dsimp only); omega) | (simp; omega)) hb2; have hbw : Below w.heap.size w w2 := (by ((refine Below.trans ?_ (hb2.mono ?_)) <;> repeat' first | with_reducible exact Below.refl _ _ | with_reducible refine Below.alloc ?_ ?_ _ | with_reducible refine Below.setCell ?_ ?_ _ | with_reducible refine Below.drew ?_ | (simp; done) | (simp; omega) | omega)); have hB2 := hM2.lt; have v6 := later_box hb2 w.heap.size; (try simp [go_sem] at v6); have v7 := later_box hb2 (w.heap.size + 1); (try simp [go_sem] at v7); have v8 := later_box hb2 (w.heap.size + 1 + 1); (try simp [go_sem] at v8); skip) | fail)
  all_goals go_ret3
  all_goals exact ⟨rfl, (by repeat' first | with_reducible exact Below.refl _ _ | with_reducible exact hbw | with_reducible refine Below.alloc ?_ ?_ _ | with_reducible refine Below.setCell ?_ ?_ _ | with_reducible refine Below.drew ?_ | ((try dsimp only); omega) | (simp; done) | (simp; omega))⟩
set_option maxHeartbeats 4000000 in
set_option maxRecDepth 100000 in
theorem dstore_none_t (B d s pc : Nat) (c o n : Int) (m : Dox) (hd : d < 11) (hs : s < 11) (hpc : pc ≤ 200) (xk xn xc : Int) (HX : Hid (m.reg d = ⟨xk, xn, xc⟩)) (yk yn yc : Int) (HY : Hid (m.reg s = ⟨yk, yn, yc⟩)) (e28 : (c == 28) = false) (e14 : (c == 14) = false) (hc1 : 24 < c) (e25 : (c == 25) = false) (e26 : (c == 26) = true) (HPOK : Hid (Val.Ok ⟨xk, xn, xc⟩)) (HO64 : Hid (In64 o)) (t : Int) (HW : Hid (wordF ⟨xk, xn, xc⟩ o = (t, 0))) (k2 : (kd xk == 116) = false) (y0 : (kd yk == 0) = true) (w : World) (hM : DoxAt w B m) : Calls Tryd.prog 61 #[.pointer (some ⟨B, 0, none⟩), .agg #[.int .i64 c, .int .i64 d, .int .i64 s, .bool true, .int .i64 o, .int .i64 n], .int .i64 pc] w fun e w' => e = .returned (.tuple #[.int .i64 ((pc : Int) + 1), .bool false, .int .i64 8]) ∧ Below w.heap.size w w' := by
  have hB := hM.lt
  have hBa : B < w.heap.size + 1 := by omega
  have hBb : B < w.heap.size + 1 + 1 := by omega
  obtain ⟨h0, h1, h2⟩ := hM.reg3 hd
  rw [HX.out] at h0 h1 h2
  obtain ⟨j0, j1, j2⟩ := hM.reg3 hs
  rw [HY.out] at j0 j1 j2
  have hd0 : (0 : Int) ≤ (d : Int) := by omega
  have hd1 : (d : Int) < 27 := by omega
  have hs0 : (0 : Int) ≤ (s : Int) := by omega
  have hs1 : (s : Int) < 27 := by omega
  have hp0 : (0 : Int) ≤ (pc : Int) := by omega
  have hp1 : (pc : Int) ≤ 200 := by omega
  have HQ : Hid ((decide (15 ≤ c) && decide (c ≤ 24)) = false) := by show (decide (15 ≤ c) && decide (c ≤ 24)) = false; simp; omega
  clear hc1
  go_enter Tryd.func61, Tryd.ntmps61
  go_wp2_with fail
  go_region
  all_goals go_wp2_with fail
  all_goals go_region
  all_goals go_wp2_with (first | (go_at_call 21; refine (refAsks_any c _).mono ?_; rintro e w1 ⟨rfl, rfl⟩; rw [HQ.out]) | (go_at_call 82; refine (word_all ⟨xk, xn, xc⟩ o HPOK.out HO64.out _).mono ?_; rintro e w2 ⟨rfl, hb2⟩; rw [HW.out]; have hM2 : DoxAt w2 B m := DoxAt.later (by repeat' first | with_reducible exact hM | with_reducible refine DoxAt.drew ?_ | with_reducible refine DoxAt.off ?_ _ _ ?_ | with_reducible refine DoxAt.alloc ?_ _ | ((try dsimp only); omega) | (simp; omega)) hb2; have hbw : Below w.heap.size w w2 := (by ((refine Below.trans ?_ (hb2.mono ?_)) <;> repeat' first | with_reducible exact Below.refl _ _ | with_reducible refine Below.alloc ?_ ?_ _ | with_reducible refine Below.setCell ?_ ?_ _ | with_reducible refine Below.drew ?_ | (simp; done) | (simp; omega) | omega)); have hB2 := hM2.lt; have v6 := later_box hb2 w.heap.size; (try simp [go_sem] at v6); have v7 := later_box hb2 (w.heap.size + 1); (try simp [go_sem] at v7); have v8 := later_box hb2 (w.heap.size + 1 + 1); (try simp [go_sem] at v8); skip) | fail)
  all_goals go_ret3
  all_goals exact ⟨rfl, (by repeat' first | with_reducible exact Below.refl _ _ | with_reducible exact hbw | with_reducible refine Below.alloc ?_ ?_ _ | with_reducible refine Below.setCell ?_ ?_ _ | with_reducible refine Below.drew ?_ | ((try dsimp only); omega) | (simp; done) | (simp; omega))⟩
set_option maxHeartbeats 4000000 in
set_option maxRecDepth 100000 in
theorem dstore_slot_t (B d s pc : Nat) (c o n : Int) (m : Dox) (hd : d < 11) (hs : s < 11) (hpc : pc ≤ 200) (xk xn xc : Int) (HX : Hid (m.reg d = ⟨xk, xn, xc⟩)) (yk yn yc : Int) (HY : Hid (m.reg s = ⟨yk, yn, yc⟩)) (e28 : (c == 28) = false) (e14 : (c == 14) = false) (hc1 : 24 < c) (e25 : (c == 25) = false) (e26 : (c == 26) = true) (HPOK : Hid (Val.Ok ⟨xk, xn, xc⟩)) (HO64 : Hid (In64 o)) (u : Nat) (q : Int) (HW : Hid (wordF ⟨xk, xn, xc⟩ o = (q, 0))) (hq : 27 + q = (u : Int)) (hq0 : -16 ≤ q) (hq1 : q ≤ -1)  (k2 : (kd xk == 116) = false) (y0 : (kd yk == 0) = false) (k3 : (kd xk == 102) = true) (w : World) (hM : DoxAt w B m) : Calls Tryd.prog 61 #[.pointer (some ⟨B, 0, none⟩), .agg #[.int .i64 c, .int .i64 d, .int .i64 s, .bool true, .int .i64 o, .int .i64 n], .int .i64 pc] w fun e w' => e = .returned (.tuple #[.int .i64 ((pc : Int) + 1), .bool false, .int .i64 0]) ∧ Kept B w w' ∧ DoxAt w' B (m.putV u ⟨yk, yn, yc⟩) := by
  have hB := hM.lt
  have hBa : B < w.heap.size + 1 := by omega
  have hBb : B < w.heap.size + 1 + 1 := by omega
  obtain ⟨h0, h1, h2⟩ := hM.reg3 hd
  rw [HX.out] at h0 h1 h2
  obtain ⟨j0, j1, j2⟩ := hM.reg3 hs
  rw [HY.out] at j0 j1 j2
  have hd0 : (0 : Int) ≤ (d : Int) := by omega
  have hd1 : (d : Int) < 27 := by omega
  have hs0 : (0 : Int) ≤ (s : Int) := by omega
  have hs1 : (s : Int) < 27 := by omega
  have hp0 : (0 : Int) ≤ (pc : Int) := by omega
  have hp1 : (pc : Int) ≤ 200 := by omega
  have HQ : Hid ((decide (15 ≤ c) && decide (c ≤ 24)) = false) := by show (decide (15 ≤ c) && decide (c ≤ 24)) = false; simp; omega
  clear hc1
  have hu0 : (0 : Int) ≤ (u : Int) := by omega
  have hu1 : (u : Int) < 27 := by omega
  go_enter Tryd.func61, Tryd.ntmps61
  go_wp2_with fail
  go_region
  all_goals go_wp2_with fail
  all_goals go_region
  all_goals go_wp2_with (first | (go_at_call 21; refine (refAsks_any c _).mono ?_; rintro e w1 ⟨rfl, rfl⟩; rw [HQ.out]) | (go_at_call 82; refine (word_all ⟨xk, xn, xc⟩ o HPOK.out HO64.out _).mono ?_; rintro e w2 ⟨rfl, hb2⟩; rw [HW.out]; have hM2 : DoxAt w2 B m := DoxAt.later (by repeat' first | with_reducible exact hM | with_reducible refine DoxAt.drew ?_ | with_reducible refine DoxAt.off ?_ _ _ ?_ | with_reducible refine DoxAt.alloc ?_ _ | ((try dsimp only); omega) | (simp; omega)) hb2; have hbw : Below w.heap.size w w2 := (by ((refine Below.trans ?_ (hb2.mono ?_)) <;> repeat' first | with_reducible exact Below.refl _ _ | with_reducible refine Below.alloc ?_ ?_ _ | with_reducible refine Below.setCell ?_ ?_ _ | with_reducible refine Below.drew ?_ | (simp; done) | (simp; omega) | omega)); have hB2 := hM2.lt; have v6 := later_box hb2 w.heap.size; (try simp [go_sem] at v6); have v7 := later_box hb2 (w.heap.size + 1); (try simp [go_sem] at v7); have v8 := later_box hb2 (w.heap.size + 1 + 1); (try simp [go_sem] at v8); obtain ⟨q0, q1, q2⟩ := hM2.v (d := u) (by omega); have f0 := hM2.frozen (u * 3); have f1 := hM2.frozen (u * 3 + 1); have f2 := hM2.frozen (u * 3 + 2); have hu27 : u < 27 := (by omega)) | fail)
  all_goals go_region
  all_goals go_wp2
  all_goals go_ret3
  all_goals have HK : Kept B w w2 := kept_below hbw B
  all_goals exact ⟨rfl, (by repeat' first | with_reducible exact HK | with_reducible exact kept_refl _ _ | with_reducible refine kept_drew ?_ | with_reducible refine kept_set ?_ _ _ | with_reducible refine kept_new ?_ _ _ ?_ | with_reducible refine kept_alloc ?_ _ | ((try dsimp only); omega) | (simp; omega)), (by repeat' first | with_reducible exact hM2 | with_reducible refine DoxAt.drew ?_ | with_reducible refine DoxAt.put3 ?_ hu27 _ _ _ | with_reducible refine DoxAt.off ?_ _ _ ?_ | with_reducible refine DoxAt.alloc ?_ _ | ((try dsimp only); omega) | (simp; omega))⟩
set_option maxHeartbeats 4000000 in
set_option maxRecDepth 100000 in
theorem dstore_arg_t (B d s pc : Nat) (c o n : Int) (m : Dox) (hd : d < 11) (hs : s < 11) (hpc : pc ≤ 200) (xk xn xc : Int) (HX : Hid (m.reg d = ⟨xk, xn, xc⟩)) (yk yn yc : Int) (HY : Hid (m.reg s = ⟨yk, yn, yc⟩)) (e28 : (c == 28) = false) (e14 : (c == 14) = false) (hc1 : 24 < c) (e25 : (c == 25) = false) (e26 : (c == 26) = true) (HPOK : Hid (Val.Ok ⟨xk, xn, xc⟩)) (HO64 : Hid (In64 o)) (t : Int) (HW : Hid (wordF ⟨xk, xn, xc⟩ o = (t, 0))) (k2 : (kd xk == 116) = false) (y0 : (kd yk == 0) = false) (k3 : (kd xk == 102) = false) (y1 : (kd yk != 110) = true) (w : World) (hM : DoxAt w B m) : Calls Tryd.prog 61 #[.pointer (some ⟨B, 0, none⟩), .agg #[.int .i64 c, .int .i64 d, .int .i64 s, .bool true, .int .i64 o, .int .i64 n], .int .i64 pc] w fun e w' => e = .returned (.tuple #[.int .i64 ((pc : Int) + 1), .bool false, .int .i64 1]) ∧ Below w.heap.size w w' := by
  have hB := hM.lt
  have hBa : B < w.heap.size + 1 := by omega
  have hBb : B < w.heap.size + 1 + 1 := by omega
  obtain ⟨h0, h1, h2⟩ := hM.reg3 hd
  rw [HX.out] at h0 h1 h2
  obtain ⟨j0, j1, j2⟩ := hM.reg3 hs
  rw [HY.out] at j0 j1 j2
  have hd0 : (0 : Int) ≤ (d : Int) := by omega
  have hd1 : (d : Int) < 27 := by omega
  have hs0 : (0 : Int) ≤ (s : Int) := by omega
  have hs1 : (s : Int) < 27 := by omega
  have hp0 : (0 : Int) ≤ (pc : Int) := by omega
  have hp1 : (pc : Int) ≤ 200 := by omega
  have HQ : Hid ((decide (15 ≤ c) && decide (c ≤ 24)) = false) := by show (decide (15 ≤ c) && decide (c ≤ 24)) = false; simp; omega
  clear hc1
  go_enter Tryd.func61, Tryd.ntmps61
  go_wp2_with fail
  go_region
  all_goals go_wp2_with fail
  all_goals go_region
  all_goals go_wp2_with (first | (go_at_call 21; refine (refAsks_any c _).mono ?_; rintro e w1 ⟨rfl, rfl⟩; rw [HQ.out]) | (go_at_call 82; refine (word_all ⟨xk, xn, xc⟩ o HPOK.out HO64.out _).mono ?_; rintro e w2 ⟨rfl, hb2⟩; rw [HW.out]; have hM2 : DoxAt w2 B m := DoxAt.later (by repeat' first | with_reducible exact hM | with_reducible refine DoxAt.drew ?_ | with_reducible refine DoxAt.off ?_ _ _ ?_ | with_reducible refine DoxAt.alloc ?_ _ | ((try dsimp only); omega) | (simp; omega)) hb2; have hbw : Below w.heap.size w w2 := (by ((refine Below.trans ?_ (hb2.mono ?_)) <;> repeat' first | with_reducible exact Below.refl _ _ | with_reducible refine Below.alloc ?_ ?_ _ | with_reducible refine Below.setCell ?_ ?_ _ | with_reducible refine Below.drew ?_ | (simp; done) | (simp; omega) | omega)); have hB2 := hM2.lt; have v6 := later_box hb2 w.heap.size; (try simp [go_sem] at v6); have v7 := later_box hb2 (w.heap.size + 1); (try simp [go_sem] at v7); have v8 := later_box hb2 (w.heap.size + 1 + 1); (try simp [go_sem] at v8); skip) | fail)
  all_goals go_ret3
  all_goals exact ⟨rfl, (by repeat' first | with_reducible exact Below.refl _ _ | with_reducible exact hbw | with_reducible refine Below.alloc ?_ ?_ _ | with_reducible refine Below.setCell ?_ ?_ _ | with_reducible refine Below.drew ?_ | ((try dsimp only); omega) | (simp; done) | (simp; omega))⟩
set_option maxHeartbeats 4000000 in
set_option maxRecDepth 100000 in
theorem dstore_cell_t (B d s pc : Nat) (c o n : Int) (m : Dox) (hd : d < 11) (hs : s < 11) (hpc : pc ≤ 200) (xk xn : Int) (xcn : Nat) (HX : Hid (m.reg d = ⟨xk, xn, (xcn : Int)⟩)) (yk yn yc : Int) (HY : Hid (m.reg s = ⟨yk, yn, yc⟩)) (e28 : (c == 28) = false) (e14 : (c == 14) = false) (hc1 : 24 < c) (e25 : (c == 25) = false) (e26 : (c == 26) = true) (HPOK : Hid (Val.Ok ⟨xk, xn, (xcn : Int)⟩)) (HO64 : Hid (In64 o)) (t : Nat) (ht : t < 4) (hxcn : xcn < 4) (HW : Hid (wordF ⟨xk, xn, (xcn : Int)⟩ o = (((t : Nat) : Int), 0))) (k2 : (kd xk == 116) = false) (y0 : (kd yk == 0) = false) (k3 : (kd xk == 102) = false) (y1 : (kd yk != 110) = false) (w : World) (hM : DoxAt w B m) : Calls Tryd.prog 61 #[.pointer (some ⟨B, 0, none⟩), .agg #[.int .i64 c, .int .i64 d, .int .i64 s, .bool true, .int .i64 o, .int .i64 n], .int .i64 pc] w fun e w' => e = .returned (.tuple #[.int .i64 ((pc : Int) + 1), .bool false, .int .i64 0]) ∧ Kept B w w' ∧ DoxAt w' B (m.putCel (xcn * 4 + t) yn) := by
  have hB := hM.lt
  have hBa : B < w.heap.size + 1 := by omega
  have hBb : B < w.heap.size + 1 + 1 := by omega
  obtain ⟨h0, h1, h2⟩ := hM.reg3 hd
  rw [HX.out] at h0 h1 h2
  obtain ⟨j0, j1, j2⟩ := hM.reg3 hs
  rw [HY.out] at j0 j1 j2
  have hd0 : (0 : Int) ≤ (d : Int) := by omega
  have hd1 : (d : Int) < 27 := by omega
  have hs0 : (0 : Int) ≤ (s : Int) := by omega
  have hs1 : (s : Int) < 27 := by omega
  have hp0 : (0 : Int) ≤ (pc : Int) := by omega
  have hp1 : (pc : Int) ≤ 200 := by omega
  have HQ : Hid ((decide (15 ≤ c) && decide (c ≤ 24)) = false) := by show (decide (15 ≤ c) && decide (c ≤ 24)) = false; simp; omega
  clear hc1
  have ht0 : (0 : Int) ≤ (t : Int) := by omega
  have ht1 : (t : Int) < 4 := by omega
  have hc0 : (0 : Int) ≤ (xcn : Int) := by omega
  have hc1 : (xcn : Int) < 4 := by omega
  go_enter Tryd.func61, Tryd.ntmps61
  go_wp2_with fail
  go_region
  all_goals go_wp2_with fail
  all_goals go_region
  all_goals go_wp2_with (first | (go_at_call 21; refine (refAsks_any c _).mono ?_; rintro e w1 ⟨rfl, rfl⟩; rw [HQ.out]) | (go_at_call 82; refine (word_all ⟨xk, xn, (xcn : Int)⟩ o HPOK.out HO64.out _).mono ?_; rintro e w2 ⟨rfl, hb2⟩; rw [HW.out]; have hM2 : DoxAt w2 B m := DoxAt.later (by repeat' first | with_reducible exact hM | with_reducible refine DoxAt.drew ?_ | with_reducible refine DoxAt.off ?_ _ _ ?_ | with_reducible refine DoxAt.alloc ?_ _ | ((try dsimp only); omega) | (simp; omega)) hb2; have hbw : Below w.heap.size w w2 := (by ((refine Below.trans ?_ (hb2.mono ?_)) <;> repeat' first | with_reducible exact Below.refl _ _ | with_reducible refine Below.alloc ?_ ?_ _ | with_reducible refine Below.setCell ?_ ?_ _ | with_reducible refine Below.drew ?_ | (simp; done) | (simp; omega) | omega)); have hB2 := hM2.lt; have v6 := later_box hb2 w.heap.size; (try simp [go_sem] at v6); have v7 := later_box hb2 (w.heap.size + 1); (try simp [go_sem] at v7); have v8 := later_box hb2 (w.heap.size + 1 + 1); (try simp [go_sem] at v8); have q0 : w2.cell? ⟨B, 90 + xcn * 4 + t, none⟩ = some (.int .i64 (m.cel (xcn * 4 + t))) := (by rw [Nat.add_assoc]; exact hM2.cel (d := xcn * 4 + t) (by omega)); have f0 := hM2.frozen (90 + xcn * 4 + t); have hct : xcn * 4 + t < 16 := (by omega)) | fail)
  all_goals go_region
  all_goals go_wp2
  all_goals go_ret3
  all_goals have HK : Kept B w w2 := kept_below hbw B
  all_goals rw [Nat.add_assoc 90 (xcn * 4) t]
  all_goals exact ⟨rfl, (by repeat' first | with_reducible exact HK | with_reducible exact kept_refl _ _ | with_reducible refine kept_drew ?_ | with_reducible refine kept_set ?_ _ _ | with_reducible refine kept_new ?_ _ _ ?_ | with_reducible refine kept_alloc ?_ _ | ((try dsimp only); omega) | (simp; omega)), (by repeat' first | with_reducible exact hM2 | with_reducible refine DoxAt.drew ?_ | with_reducible refine DoxAt.cel1 ?_ hct _ | with_reducible refine DoxAt.off ?_ _ _ ?_ | with_reducible refine DoxAt.alloc ?_ _ | ((try dsimp only); omega) | (simp; omega))⟩
end Go.Proofs.YtegeiicginpdbaaDoor
