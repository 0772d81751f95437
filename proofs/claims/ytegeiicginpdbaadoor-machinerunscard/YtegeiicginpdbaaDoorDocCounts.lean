/-
  What a code makes of two values, by the document's answer. Conditions: numbers are of 64 bits.
-/
import Derived.Test.YtegeiicginpdbaaDoorDoxMem
import Derived.Test.YtegeiicginpdbaaDoorOpRefWalks
namespace Go.Proofs.YtegeiicginpdbaaDoor
open Go.ChangeShapes Go.WideShapes Go.ChangeAt Go.RowKit
attribute [local simp] drew_size drewN_size setCell_size
set_option maxHeartbeats 4000000 in
set_option maxRecDepth 100000 in
theorem counts_no1 (B d : Nat) (c xk xn xc yk yn yc : Int) (m : Dox) (hd : d < 27) (HX : Hid (m.v d = ⟨xk, xn, xc⟩)) (y0 : (kd yk == 0) = true) (w : World) (hM : DoxAt w B m) : Calls Tryd.prog 84 #[.pointer (some ⟨B, 0, none⟩), .int .i64 c, .pointer (some ⟨B, d * 3, none⟩), .agg #[.int .u8 (kd yk), .int .i64 yn, .int .i64 yc]] w fun e w' => e = .returned (.int .i64 8) ∧ Below w.heap.size w w' := by
  have hB := hM.lt
  obtain ⟨h0, h1, h2⟩ := hM.v hd
  rw [HX.out] at h0 h1 h2
  have f0 := hM.frozen (d * 3)
  have f1 := hM.frozen (d * 3 + 1)
  have f2 := hM.frozen (d * 3 + 2)
  go_enter Tryd.func84, Tryd.ntmps84
  go_wp2
  all_goals go_ret
  all_goals exact ⟨rfl, ((Below.refl _ _).alloc (Nat.le_refl _) _).alloc (by simp) _⟩
set_option maxHeartbeats 4000000 in
set_option maxRecDepth 100000 in
theorem counts_no2 (B d : Nat) (c xk xn xc yk yn yc : Int) (m : Dox) (hd : d < 27) (HX : Hid (m.v d = ⟨xk, xn, xc⟩)) (y0 : (kd yk == 0) = false) (x0 : (kd xk == 0) = true) (c1 : (c != 1) = true) (w : World) (hM : DoxAt w B m) : Calls Tryd.prog 84 #[.pointer (some ⟨B, 0, none⟩), .int .i64 c, .pointer (some ⟨B, d * 3, none⟩), .agg #[.int .u8 (kd yk), .int .i64 yn, .int .i64 yc]] w fun e w' => e = .returned (.int .i64 8) ∧ Below w.heap.size w w' := by
  have hB := hM.lt
  obtain ⟨h0, h1, h2⟩ := hM.v hd
  rw [HX.out] at h0 h1 h2
  have f0 := hM.frozen (d * 3)
  have f1 := hM.frozen (d * 3 + 1)
  have f2 := hM.frozen (d * 3 + 2)
  go_enter Tryd.func84, Tryd.ntmps84
  go_wp2
  all_goals go_ret
  all_goals exact ⟨rfl, ((Below.refl _ _).alloc (Nat.le_refl _) _).alloc (by simp) _⟩
set_option maxHeartbeats 4000000 in
set_option maxRecDepth 100000 in
theorem counts_mov1 (B d : Nat) (c xk xn xc yk yn yc : Int) (m : Dox) (hd : d < 27) (HX : Hid (m.v d = ⟨xk, xn, xc⟩)) (y0 : (kd yk == 0) = false) (x0 : (kd xk == 0) = true) (c0 : (c != 1) = false) (c1 : (c == 1) = true) (w : World) (hM : DoxAt w B m) : Calls Tryd.prog 84 #[.pointer (some ⟨B, 0, none⟩), .int .i64 c, .pointer (some ⟨B, d * 3, none⟩), .agg #[.int .u8 (kd yk), .int .i64 yn, .int .i64 yc]] w fun e w' => e = .returned (.int .i64 0) ∧ Kept B w w' ∧ DoxAt w' B (m.putV d ⟨yk, yn, yc⟩) := by
  have hB := hM.lt
  obtain ⟨h0, h1, h2⟩ := hM.v hd
  rw [HX.out] at h0 h1 h2
  have f0 := hM.frozen (d * 3)
  have f1 := hM.frozen (d * 3 + 1)
  have f2 := hM.frozen (d * 3 + 2)
  go_enter Tryd.func84, Tryd.ntmps84
  go_wp2
  all_goals go_ret
  all_goals exact ⟨rfl, (by repeat' first | with_reducible exact kept_refl _ _ | with_reducible refine kept_drew ?_ | with_reducible refine kept_set ?_ _ _ | with_reducible refine kept_new ?_ _ _ ?_ | with_reducible refine kept_alloc ?_ _ | ((try dsimp only); omega)), (by repeat' first | with_reducible exact hM | with_reducible refine DoxAt.drew ?_ | with_reducible refine DoxAt.put3 ?_ hd _ _ _ | with_reducible refine DoxAt.off ?_ _ _ ?_ | with_reducible refine DoxAt.alloc ?_ _ | ((try dsimp only); omega))⟩
set_option maxHeartbeats 4000000 in
set_option maxRecDepth 100000 in
theorem counts_mov2 (B d : Nat) (c xk xn xc yk yn yc : Int) (m : Dox) (hd : d < 27) (HX : Hid (m.v d = ⟨xk, xn, xc⟩)) (y0 : (kd yk == 0) = false) (x0 : (kd xk == 0) = false) (c1 : (c == 1) = true) (w : World) (hM : DoxAt w B m) : Calls Tryd.prog 84 #[.pointer (some ⟨B, 0, none⟩), .int .i64 c, .pointer (some ⟨B, d * 3, none⟩), .agg #[.int .u8 (kd yk), .int .i64 yn, .int .i64 yc]] w fun e w' => e = .returned (.int .i64 0) ∧ Kept B w w' ∧ DoxAt w' B (m.putV d ⟨yk, yn, yc⟩) := by
  have hB := hM.lt
  obtain ⟨h0, h1, h2⟩ := hM.v hd
  rw [HX.out] at h0 h1 h2
  have f0 := hM.frozen (d * 3)
  have f1 := hM.frozen (d * 3 + 1)
  have f2 := hM.frozen (d * 3 + 2)
  go_enter Tryd.func84, Tryd.ntmps84
  go_wp2
  all_goals go_ret
  all_goals exact ⟨rfl, (by repeat' first | with_reducible exact kept_refl _ _ | with_reducible refine kept_drew ?_ | with_reducible refine kept_set ?_ _ _ | with_reducible refine kept_new ?_ _ _ ?_ | with_reducible refine kept_alloc ?_ _ | ((try dsimp only); omega)), (by repeat' first | with_reducible exact hM | with_reducible refine DoxAt.drew ?_ | with_reducible refine DoxAt.put3 ?_ hd _ _ _ | with_reducible refine DoxAt.off ?_ _ _ ?_ | with_reducible refine DoxAt.alloc ?_ _ | ((try dsimp only); omega))⟩
set_option maxHeartbeats 4000000 in
set_option maxRecDepth 100000 in
theorem counts_nums (B d : Nat) (c xk xn xc yk yn yc : Int) (m : Dox) (hd : d < 27) (HX : Hid (m.v d = ⟨xk, xn, xc⟩)) (y0 : (kd yk == 0) = false) (x0 : (kd xk == 0) = false) (c1 : (c == 1) = false) (xn1 : (kd xk == 110) = true) (yn1 : (kd yk == 110) = true) (p0 : -9223372036854775808 ≤ xn) (p1 : xn ≤ 9223372036854775807) (k0 : -9223372036854775808 ≤ yn) (k1 : yn ≤ 9223372036854775807) (w : World) (hM : DoxAt w B m) : Calls Tryd.prog 84 #[.pointer (some ⟨B, 0, none⟩), .int .i64 c, .pointer (some ⟨B, d * 3, none⟩), .agg #[.int .u8 (kd yk), .int .i64 yn, .int .i64 yc]] w fun e w' => e = .returned (.int .i64 0) ∧ Kept B w w' ∧ DoxAt w' B (m.putV d ⟨xk, doesV c xn yn, xc⟩) := by
  have hB := hM.lt
  obtain ⟨h0, h1, h2⟩ := hM.v hd
  rw [HX.out] at h0 h1 h2
  have f0 := hM.frozen (d * 3)
  have f1 := hM.frozen (d * 3 + 1)
  have f2 := hM.frozen (d * 3 + 2)
  go_enter Tryd.func84, Tryd.ntmps84
  go_wp2_with (first
    | (go_at_call 55; refine (ref_any c xn yn p0 p1 k0 k1 _).mono ?_; rintro e w1 ⟨rfl, rfl⟩)
    | go_in)
  all_goals go_ret
  all_goals have HN := fun (W : World) (h : DoxAt W B m) => h.putN hd (doesV c xn yn)
  all_goals rw [HX.out] at HN
  all_goals exact ⟨rfl, (by repeat' first | with_reducible exact kept_refl _ _ | with_reducible refine kept_drew ?_ | with_reducible refine kept_set ?_ _ _ | with_reducible refine kept_new ?_ _ _ ?_ | with_reducible refine kept_alloc ?_ _ | ((try dsimp only); omega)), (by repeat' first | with_reducible exact hM | with_reducible refine DoxAt.drew ?_ | with_reducible refine HN _ ?_ | with_reducible refine DoxAt.off ?_ _ _ ?_ | with_reducible refine DoxAt.alloc ?_ _ | ((try dsimp only); omega))⟩
set_option maxHeartbeats 4000000 in
set_option maxRecDepth 100000 in
theorem counts_addn (B d : Nat) (c xk xn xc yk yn yc : Int) (m : Dox) (hd : d < 27) (HX : Hid (m.v d = ⟨xk, xn, xc⟩)) (y0 : (kd yk == 0) = false) (x0 : (kd xk == 0) = false) (c1 : (c == 1) = false) (xn1 : (kd xk == 110) = true) (yn1 : (kd yk == 110) = false) (c2 : (c == 2) = true) (w : World) (hM : DoxAt w B m) : Calls Tryd.prog 84 #[.pointer (some ⟨B, 0, none⟩), .int .i64 c, .pointer (some ⟨B, d * 3, none⟩), .agg #[.int .u8 (kd yk), .int .i64 yn, .int .i64 yc]] w fun e w' => e = .returned (.int .i64 0) ∧ Kept B w w' ∧ DoxAt w' B (m.putV d ⟨yk, wrap64 (yn + xn), yc⟩) := by
  have hB := hM.lt
  obtain ⟨h0, h1, h2⟩ := hM.v hd
  rw [HX.out] at h0 h1 h2
  have f0 := hM.frozen (d * 3)
  have f1 := hM.frozen (d * 3 + 1)
  have f2 := hM.frozen (d * 3 + 2)
  go_enter Tryd.func84, Tryd.ntmps84
  go_wp2
  all_goals go_ret
  all_goals exact ⟨rfl, (by repeat' first | with_reducible exact kept_refl _ _ | with_reducible refine kept_drew ?_ | with_reducible refine kept_set ?_ _ _ | with_reducible refine kept_new ?_ _ _ ?_ | with_reducible refine kept_alloc ?_ _ | ((try dsimp only); omega)), (by repeat' first | with_reducible exact hM | with_reducible refine DoxAt.drew ?_ | with_reducible refine DoxAt.put3 ?_ hd _ _ _ | with_reducible refine DoxAt.off ?_ _ _ ?_ | with_reducible refine DoxAt.alloc ?_ _ | ((try dsimp only); omega))⟩
set_option maxHeartbeats 4000000 in
set_option maxRecDepth 100000 in
theorem counts_padd (B d : Nat) (c xk xn xc yk yn yc : Int) (m : Dox) (hd : d < 27) (HX : Hid (m.v d = ⟨xk, xn, xc⟩)) (y0 : (kd yk == 0) = false) (x0 : (kd xk == 0) = false) (c1 : (c == 1) = false) (xn1 : (kd xk == 110) = false) (yn1 : (kd yk == 110) = true) (c2 : (c == 2) = true) (w : World) (hM : DoxAt w B m) : Calls Tryd.prog 84 #[.pointer (some ⟨B, 0, none⟩), .int .i64 c, .pointer (some ⟨B, d * 3, none⟩), .agg #[.int .u8 (kd yk), .int .i64 yn, .int .i64 yc]] w fun e w' => e = .returned (.int .i64 0) ∧ Kept B w w' ∧ DoxAt w' B (m.putV d ⟨xk, wrap64 (xn + yn), xc⟩) := by
  have hB := hM.lt
  obtain ⟨h0, h1, h2⟩ := hM.v hd
  rw [HX.out] at h0 h1 h2
  have f0 := hM.frozen (d * 3)
  have f1 := hM.frozen (d * 3 + 1)
  have f2 := hM.frozen (d * 3 + 2)
  go_enter Tryd.func84, Tryd.ntmps84
  go_wp2_with fail
  go_region
  all_goals go_wp2
  all_goals go_ret
  all_goals have HN := fun (W : World) (h : DoxAt W B m) => h.putN hd (wrap64 (xn + yn))
  all_goals rw [HX.out] at HN
  all_goals exact ⟨rfl, (by repeat' first | with_reducible exact kept_refl _ _ | with_reducible refine kept_drew ?_ | with_reducible refine kept_set ?_ _ _ | with_reducible refine kept_new ?_ _ _ ?_ | with_reducible refine kept_alloc ?_ _ | ((try dsimp only); omega)), (by repeat' first | with_reducible exact hM | with_reducible refine DoxAt.drew ?_ | with_reducible refine HN _ ?_ | with_reducible refine DoxAt.off ?_ _ _ ?_ | with_reducible refine DoxAt.alloc ?_ _ | ((try dsimp only); omega))⟩
set_option maxHeartbeats 4000000 in
set_option maxRecDepth 100000 in
theorem counts_psub (B d : Nat) (c xk xn xc yk yn yc : Int) (m : Dox) (hd : d < 27) (HX : Hid (m.v d = ⟨xk, xn, xc⟩)) (y0 : (kd yk == 0) = false) (x0 : (kd xk == 0) = false) (c1 : (c == 1) = false) (xn1 : (kd xk == 110) = false) (yn1 : (kd yk == 110) = true) (c2 : (c == 2) = false) (c3 : (c == 3) = true) (w : World) (hM : DoxAt w B m) : Calls Tryd.prog 84 #[.pointer (some ⟨B, 0, none⟩), .int .i64 c, .pointer (some ⟨B, d * 3, none⟩), .agg #[.int .u8 (kd yk), .int .i64 yn, .int .i64 yc]] w fun e w' => e = .returned (.int .i64 0) ∧ Kept B w w' ∧ DoxAt w' B (m.putV d ⟨xk, wrap64 (xn - yn), xc⟩) := by
  have hB := hM.lt
  obtain ⟨h0, h1, h2⟩ := hM.v hd
  rw [HX.out] at h0 h1 h2
  have f0 := hM.frozen (d * 3)
  have f1 := hM.frozen (d * 3 + 1)
  have f2 := hM.frozen (d * 3 + 2)
  go_enter Tryd.func84, Tryd.ntmps84
  go_wp2_with fail
  go_region
  all_goals go_wp2
  all_goals go_ret
  all_goals have HN := fun (W : World) (h : DoxAt W B m) => h.putN hd (wrap64 (xn - yn))
  all_goals rw [HX.out] at HN
  all_goals exact ⟨rfl, (by repeat' first | with_reducible exact kept_refl _ _ | with_reducible refine kept_drew ?_ | with_reducible refine kept_set ?_ _ _ | with_reducible refine kept_new ?_ _ _ ?_ | with_reducible refine kept_alloc ?_ _ | ((try dsimp only); omega)), (by repeat' first | with_reducible exact hM | with_reducible refine DoxAt.drew ?_ | with_reducible refine HN _ ?_ | with_reducible refine DoxAt.off ?_ _ _ ?_ | with_reducible refine DoxAt.alloc ?_ _ | ((try dsimp only); omega))⟩
set_option maxHeartbeats 4000000 in
set_option maxRecDepth 100000 in
theorem counts_arg1 (B d : Nat) (c xk xn xc yk yn yc : Int) (m : Dox) (hd : d < 27) (HX : Hid (m.v d = ⟨xk, xn, xc⟩)) (y0 : (kd yk == 0) = false) (x0 : (kd xk == 0) = false) (c1 : (c == 1) = false) (xn1 : (kd xk == 110) = true) (yn1 : (kd yk == 110) = false) (c2 : (c == 2) = false) (w : World) (hM : DoxAt w B m) : Calls Tryd.prog 84 #[.pointer (some ⟨B, 0, none⟩), .int .i64 c, .pointer (some ⟨B, d * 3, none⟩), .agg #[.int .u8 (kd yk), .int .i64 yn, .int .i64 yc]] w fun e w' => e = .returned (.int .i64 1) ∧ Below w.heap.size w w' := by
  have hB := hM.lt
  obtain ⟨h0, h1, h2⟩ := hM.v hd
  rw [HX.out] at h0 h1 h2
  have f0 := hM.frozen (d * 3)
  have f1 := hM.frozen (d * 3 + 1)
  have f2 := hM.frozen (d * 3 + 2)
  go_enter Tryd.func84, Tryd.ntmps84
  go_wp2
  all_goals go_ret
  all_goals exact ⟨rfl, ((Below.refl _ _).alloc (Nat.le_refl _) _).alloc (by simp) _⟩
set_option maxHeartbeats 4000000 in
set_option maxRecDepth 100000 in
theorem counts_arg2 (B d : Nat) (c xk xn xc yk yn yc : Int) (m : Dox) (hd : d < 27) (HX : Hid (m.v d = ⟨xk, xn, xc⟩)) (y0 : (kd yk == 0) = false) (x0 : (kd xk == 0) = false) (c1 : (c == 1) = false) (xn1 : (kd xk == 110) = false) (yn1 : (kd yk == 110) = false) (c2 : (c == 2) = true) (w : World) (hM : DoxAt w B m) : Calls Tryd.prog 84 #[.pointer (some ⟨B, 0, none⟩), .int .i64 c, .pointer (some ⟨B, d * 3, none⟩), .agg #[.int .u8 (kd yk), .int .i64 yn, .int .i64 yc]] w fun e w' => e = .returned (.int .i64 1) ∧ Below w.heap.size w w' := by
  have hB := hM.lt
  obtain ⟨h0, h1, h2⟩ := hM.v hd
  rw [HX.out] at h0 h1 h2
  have f0 := hM.frozen (d * 3)
  have f1 := hM.frozen (d * 3 + 1)
  have f2 := hM.frozen (d * 3 + 2)
  go_enter Tryd.func84, Tryd.ntmps84
  go_wp2
  all_goals go_ret
  all_goals exact ⟨rfl, ((Below.refl _ _).alloc (Nat.le_refl _) _).alloc (by simp) _⟩
set_option maxHeartbeats 4000000 in
set_option maxRecDepth 100000 in
theorem counts_arg3 (B d : Nat) (c xk xn xc yk yn yc : Int) (m : Dox) (hd : d < 27) (HX : Hid (m.v d = ⟨xk, xn, xc⟩)) (y0 : (kd yk == 0) = false) (x0 : (kd xk == 0) = false) (c1 : (c == 1) = false) (xn1 : (kd xk == 110) = false) (yn1 : (kd yk == 110) = false) (c2 : (c == 2) = false) (w : World) (hM : DoxAt w B m) : Calls Tryd.prog 84 #[.pointer (some ⟨B, 0, none⟩), .int .i64 c, .pointer (some ⟨B, d * 3, none⟩), .agg #[.int .u8 (kd yk), .int .i64 yn, .int .i64 yc]] w fun e w' => e = .returned (.int .i64 1) ∧ Below w.heap.size w w' := by
  have hB := hM.lt
  obtain ⟨h0, h1, h2⟩ := hM.v hd
  rw [HX.out] at h0 h1 h2
  have f0 := hM.frozen (d * 3)
  have f1 := hM.frozen (d * 3 + 1)
  have f2 := hM.frozen (d * 3 + 2)
  go_enter Tryd.func84, Tryd.ntmps84
  go_wp2
  all_goals go_ret
  all_goals exact ⟨rfl, ((Below.refl _ _).alloc (Nat.le_refl _) _).alloc (by simp) _⟩
set_option maxHeartbeats 4000000 in
set_option maxRecDepth 100000 in
theorem counts_arg4 (B d : Nat) (c xk xn xc yk yn yc : Int) (m : Dox) (hd : d < 27) (HX : Hid (m.v d = ⟨xk, xn, xc⟩)) (y0 : (kd yk == 0) = false) (x0 : (kd xk == 0) = false) (c1 : (c == 1) = false) (xn1 : (kd xk == 110) = false) (yn1 : (kd yk == 110) = true) (c2 : (c == 2) = false) (c3 : (c == 3) = false) (w : World) (hM : DoxAt w B m) : Calls Tryd.prog 84 #[.pointer (some ⟨B, 0, none⟩), .int .i64 c, .pointer (some ⟨B, d * 3, none⟩), .agg #[.int .u8 (kd yk), .int .i64 yn, .int .i64 yc]] w fun e w' => e = .returned (.int .i64 1) ∧ Below w.heap.size w w' := by
  have hB := hM.lt
  obtain ⟨h0, h1, h2⟩ := hM.v hd
  rw [HX.out] at h0 h1 h2
  have f0 := hM.frozen (d * 3)
  have f1 := hM.frozen (d * 3 + 1)
  have f2 := hM.frozen (d * 3 + 2)
  go_enter Tryd.func84, Tryd.ntmps84
  go_wp2
  all_goals go_ret
  all_goals exact ⟨rfl, ((Below.refl _ _).alloc (Nat.le_refl _) _).alloc (by simp) _⟩
end Go.Proofs.YtegeiicginpdbaaDoor
