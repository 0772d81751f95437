/-
  Where a place is, by the document's answer. Conditions: numbers are of 64 bits.
-/
import Derived.Test.YtegeiicginpdbaaDoorDoxMem
import Derived.Test.YtegeiicginpdbaaDoorOpRefWalks
import Derived.Test.YtegeiicginpdbaaDoorMachRes
namespace Go.Proofs.YtegeiicginpdbaaDoor
open Go.ChangeShapes Go.WideShapes Go.ChangeAt Go.RowKit
attribute [local simp] drew_size drewN_size setCell_size
theorem size_t (q : Int) (x0 : (q == 116) = true) (w : World) : Calls Tryd.prog 99 #[.int .u8 q] w fun e w' => e = .returned (.agg #[.int .i64 0, .int .i64 7]) ∧ Below w.heap.size w w' := by
  go_enter Tryd.func99, Tryd.ntmps99
  go_wp2
  exact bodyPost_ret (v := .agg #[.int .i64 0, .int .i64 7]) (by simp [results, Tryd.results99, go_sem]) rfl ⟨rfl, (Below.refl _ _).alloc (Nat.le_refl _) _⟩
theorem size_c (q : Int) (x0 : (q == 116) = false) (x1 : (q == 99) = true) (w : World) : Calls Tryd.prog 99 #[.int .u8 q] w fun e w' => e = .returned (.agg #[.int .i64 0, .int .i64 3]) ∧ Below w.heap.size w w' := by
  go_enter Tryd.func99, Tryd.ntmps99
  go_wp2
  exact bodyPost_ret (v := .agg #[.int .i64 0, .int .i64 3]) (by simp [results, Tryd.results99, go_sem]) rfl ⟨rfl, (Below.refl _ _).alloc (Nat.le_refl _) _⟩
theorem size_f (q : Int) (x0 : (q == 116) = false) (x1 : (q == 99) = false) (w : World) : Calls Tryd.prog 99 #[.int .u8 q] w fun e w' => e = .returned (.agg #[.int .i64 (-16), .int .i64 (-1)]) ∧ Below w.heap.size w w' := by
  go_enter Tryd.func99, Tryd.ntmps99
  go_wp2
  exact bodyPost_ret (v := .agg #[.int .i64 (-16), .int .i64 (-1)]) (by simp [results, Tryd.results99, go_sem]) rfl ⟨rfl, (Below.refl _ _).alloc (Nat.le_refl _) _⟩
set_option maxHeartbeats 4000000 in
set_option maxRecDepth 100000 in
theorem word_none (q n c o : Int) (x0 : (q == 0) = true) (w : World) : Calls Tryd.prog 82 #[.agg #[.int .u8 q, .int .i64 n, .int .i64 c], .int .i64 o] w fun e w' => e = .returned (.tuple #[.int .i64 0, .int .i64 8]) ∧ Below w.heap.size w w' := by
  go_enter Tryd.func82, Tryd.ntmps82
  go_wp2
  go_ret2
  exact ⟨rfl, (Below.refl _ _).alloc (Nat.le_refl _) _⟩
set_option maxHeartbeats 4000000 in
set_option maxRecDepth 100000 in
theorem word_num (q n c o : Int) (x0 : (q == 0) = false) (x1 : (q == 110) = true) (w : World) : Calls Tryd.prog 82 #[.agg #[.int .u8 q, .int .i64 n, .int .i64 c], .int .i64 o] w fun e w' => e = .returned (.tuple #[.int .i64 0, .int .i64 1]) ∧ Below w.heap.size w w' := by
  go_enter Tryd.func82, Tryd.ntmps82
  go_wp2
  go_ret2
  exact ⟨rfl, (Below.refl _ _).alloc (Nat.le_refl _) _⟩
set_option maxHeartbeats 4000000 in
set_option maxRecDepth 100000 in
theorem word_low (q n c o : Int) (t lo hi : Int) (HD : Hid (∀ w, Calls Tryd.prog 55 #[.int .i64 2, .int .i64 n, .int .i64 o] w fun e w' => e = .returned (.int .i64 t) ∧ w' = w)) (HS : Hid (∀ w, Calls Tryd.prog 99 #[.int .u8 q] w fun e w' => e = .returned (.agg #[.int .i64 lo, .int .i64 hi]) ∧ Below w.heap.size w w')) (x0 : (q == 0) = false) (x1 : (q == 110) = false) (x2 : decide (t < lo) = true) (w : World) : Calls Tryd.prog 82 #[.agg #[.int .u8 q, .int .i64 n, .int .i64 c], .int .i64 o] w fun e w' => e = .returned (.tuple #[.int .i64 0, .int .i64 2]) ∧ Below w.heap.size w w' := by
  go_enter Tryd.func82, Tryd.ntmps82
  go_wp2_with fail
  go_cut [6, 7] (fun s6 s7 wx => ∃ L : Nat, s6 = .int .i64 t ∧ s7 = .pointer (some ⟨L, 0, none⟩) ∧ Below w.heap.size w wx ∧ L < wx.heap.size ∧ wx.cell? ⟨L, 0, none⟩ = some (.int .i64 lo) ∧ wx.cell? ⟨L, 1, none⟩ = some (.int .i64 hi))
  case first =>
    go_region_held3 (fun w' => w'.cell? ⟨w.heap.size, 0, none⟩ = some (.int .u8 q) ∧ w'.cell? ⟨w.heap.size, 1, none⟩ = some (.int .i64 n)) (first | (simp [go_sem]; done) | (simp [go_sem, *]; done) | go_keep) (first
      | (go_at_call 55; go_must (refine (HD.out _).mono ?_; rintro e w1 ⟨rfl, rfl⟩))
      | (go_at_call 99; go_must (refine (HS.out _).mono ?_; rintro e w2 ⟨rfl, hb2⟩; have v6 := later_box hb2 w.heap.size; (try simp [go_sem] at v6); have v7 := later_box hb2 (w.heap.size + 1); (try simp [go_sem] at v7); have hbw : Below w.heap.size w w2 := (by ((refine Below.trans ?_ (hb2.mono ?_)) <;> repeat' first | with_reducible exact Below.refl _ _ | with_reducible refine Below.alloc ?_ ?_ _ | with_reducible refine Below.setCell ?_ ?_ _ | with_reducible refine Below.drew ?_ | with_reducible refine below_drewN ?_ _ | (simp; done) | (simp; omega) | omega)))))
    all_goals (go_wp2_with fail; go_meet)
    all_goals refine ⟨_, rfl, rfl, ?_, ?_, ?_, ?_⟩
    all_goals first
      | (with_reducible refine Below.alloc ?_ ?_ _; (repeat' first | with_reducible exact hbw | with_reducible refine Below.setCell ?_ ?_ _ | ((try dsimp only); omega) | (exact hbw.size) | (simp; done) | (simp; omega)); done)
      | (with_reducible refine Below.setCell ?_ ?_ _; (repeat' first | with_reducible exact hbw | with_reducible refine Below.setCell ?_ ?_ _ | ((try dsimp only); omega) | (simp; done) | (simp; omega)); done)
      | (with_reducible exact hbw) | (simp; done) | (simp; omega) | (simp [go_sem]; done) | (simp [go_sem, v7]; done) | (simp [go_sem, *]; done)
  case rest =>
    obtain ⟨L, rfl, rfl, hbw, hL, l0, l1⟩ := hcut
    go_wp2
    all_goals go_ret2
    all_goals exact ⟨rfl, hbw⟩
set_option maxHeartbeats 4000000 in
set_option maxRecDepth 100000 in
theorem word_high (q n c o : Int) (t lo hi : Int) (HD : Hid (∀ w, Calls Tryd.prog 55 #[.int .i64 2, .int .i64 n, .int .i64 o] w fun e w' => e = .returned (.int .i64 t) ∧ w' = w)) (HS : Hid (∀ w, Calls Tryd.prog 99 #[.int .u8 q] w fun e w' => e = .returned (.agg #[.int .i64 lo, .int .i64 hi]) ∧ Below w.heap.size w w')) (x0 : (q == 0) = false) (x1 : (q == 110) = false) (x2 : decide (t < lo) = false) (x3 : decide (hi < t) = true) (w : World) : Calls Tryd.prog 82 #[.agg #[.int .u8 q, .int .i64 n, .int .i64 c], .int .i64 o] w fun e w' => e = .returned (.tuple #[.int .i64 0, .int .i64 2]) ∧ Below w.heap.size w w' := by
  go_enter Tryd.func82, Tryd.ntmps82
  go_wp2_with fail
  go_cut [6, 7] (fun s6 s7 wx => ∃ L : Nat, s6 = .int .i64 t ∧ s7 = .pointer (some ⟨L, 0, none⟩) ∧ Below w.heap.size w wx ∧ L < wx.heap.size ∧ wx.cell? ⟨L, 0, none⟩ = some (.int .i64 lo) ∧ wx.cell? ⟨L, 1, none⟩ = some (.int .i64 hi))
  case first =>
    go_region_held3 (fun w' => w'.cell? ⟨w.heap.size, 0, none⟩ = some (.int .u8 q) ∧ w'.cell? ⟨w.heap.size, 1, none⟩ = some (.int .i64 n)) (first | (simp [go_sem]; done) | (simp [go_sem, *]; done) | go_keep) (first
      | (go_at_call 55; go_must (refine (HD.out _).mono ?_; rintro e w1 ⟨rfl, rfl⟩))
      | (go_at_call 99; go_must (refine (HS.out _).mono ?_; rintro e w2 ⟨rfl, hb2⟩; have v6 := later_box hb2 w.heap.size; (try simp [go_sem] at v6); have v7 := later_box hb2 (w.heap.size + 1); (try simp [go_sem] at v7); have hbw : Below w.heap.size w w2 := (by ((refine Below.trans ?_ (hb2.mono ?_)) <;> repeat' first | with_reducible exact Below.refl _ _ | with_reducible refine Below.alloc ?_ ?_ _ | with_reducible refine Below.setCell ?_ ?_ _ | with_reducible refine Below.drew ?_ | with_reducible refine below_drewN ?_ _ | (simp; done) | (simp; omega) | omega)))))
    all_goals (go_wp2_with fail; go_meet)
    all_goals refine ⟨_, rfl, rfl, ?_, ?_, ?_, ?_⟩
    all_goals first
      | (with_reducible refine Below.alloc ?_ ?_ _; (repeat' first | with_reducible exact hbw | with_reducible refine Below.setCell ?_ ?_ _ | ((try dsimp only); omega) | (exact hbw.size) | (simp; done) | (simp; omega)); done)
      | (with_reducible refine Below.setCell ?_ ?_ _; (repeat' first | with_reducible exact hbw | with_reducible refine Below.setCell ?_ ?_ _ | ((try dsimp only); omega) | (simp; done) | (simp; omega)); done)
      | (with_reducible exact hbw) | (simp; done) | (simp; omega) | (simp [go_sem]; done) | (simp [go_sem, v7]; done) | (simp [go_sem, *]; done)
  case rest =>
    obtain ⟨L, rfl, rfl, hbw, hL, l0, l1⟩ := hcut
    go_wp2
    all_goals go_ret2
    all_goals exact ⟨rfl, hbw⟩
set_option maxHeartbeats 4000000 in
set_option maxRecDepth 100000 in
theorem word_in (q n c o : Int) (t lo hi : Int) (HD : Hid (∀ w, Calls Tryd.prog 55 #[.int .i64 2, .int .i64 n, .int .i64 o] w fun e w' => e = .returned (.int .i64 t) ∧ w' = w)) (HS : Hid (∀ w, Calls Tryd.prog 99 #[.int .u8 q] w fun e w' => e = .returned (.agg #[.int .i64 lo, .int .i64 hi]) ∧ Below w.heap.size w w')) (x0 : (q == 0) = false) (x1 : (q == 110) = false) (x2 : decide (t < lo) = false) (x3 : decide (hi < t) = false) (w : World) : Calls Tryd.prog 82 #[.agg #[.int .u8 q, .int .i64 n, .int .i64 c], .int .i64 o] w fun e w' => e = .returned (.tuple #[.int .i64 t, .int .i64 0]) ∧ Below w.heap.size w w' := by
  go_enter Tryd.func82, Tryd.ntmps82
  go_wp2_with fail
  go_cut [6, 7] (fun s6 s7 wx => ∃ L : Nat, s6 = .int .i64 t ∧ s7 = .pointer (some ⟨L, 0, none⟩) ∧ Below w.heap.size w wx ∧ L < wx.heap.size ∧ wx.cell? ⟨L, 0, none⟩ = some (.int .i64 lo) ∧ wx.cell? ⟨L, 1, none⟩ = some (.int .i64 hi))
  case first =>
    go_region_held3 (fun w' => w'.cell? ⟨w.heap.size, 0, none⟩ = some (.int .u8 q) ∧ w'.cell? ⟨w.heap.size, 1, none⟩ = some (.int .i64 n)) (first | (simp [go_sem]; done) | (simp [go_sem, *]; done) | go_keep) (first
      | (go_at_call 55; go_must (refine (HD.out _).mono ?_; rintro e w1 ⟨rfl, rfl⟩))
      | (go_at_call 99; go_must (refine (HS.out _).mono ?_; rintro e w2 ⟨rfl, hb2⟩; have v6 := later_box hb2 w.heap.size; (try simp [go_sem] at v6); have v7 := later_box hb2 (w.heap.size + 1); (try simp [go_sem] at v7); have hbw : Below w.heap.size w w2 := (by ((refine Below.trans ?_ (hb2.mono ?_)) <;> repeat' first | with_reducible exact Below.refl _ _ | with_reducible refine Below.alloc ?_ ?_ _ | with_reducible refine Below.setCell ?_ ?_ _ | with_reducible refine Below.drew ?_ | with_reducible refine below_drewN ?_ _ | (simp; done) | (simp; omega) | omega)))))
    all_goals (go_wp2_with fail; go_meet)
    all_goals refine ⟨_, rfl, rfl, ?_, ?_, ?_, ?_⟩
    all_goals first
      | (with_reducible refine Below.alloc ?_ ?_ _; (repeat' first | with_reducible exact hbw | with_reducible refine Below.setCell ?_ ?_ _ | ((try dsimp only); omega) | (exact hbw.size) | (simp; done) | (simp; omega)); done)
      | (with_reducible refine Below.setCell ?_ ?_ _; (repeat' first | with_reducible exact hbw | with_reducible refine Below.setCell ?_ ?_ _ | ((try dsimp only); omega) | (simp; done) | (simp; omega)); done)
      | (with_reducible exact hbw) | (simp; done) | (simp; omega) | (simp [go_sem]; done) | (simp [go_sem, v7]; done) | (simp [go_sem, *]; done)
  case rest =>
    obtain ⟨L, rfl, rfl, hbw, hL, l0, l1⟩ := hcut
    go_wp2
    all_goals go_ret2
    all_goals exact ⟨rfl, hbw⟩
/-- Where a place is: from the frame's end on, if it is there. -/
def wordF (x : Val) (o : Int) : Int × Int := if (reachF x o).2 ≠ 0 then (0, (reachF x o).2) else (if x.k = 3 then (reachF x o).1 - 16 else (reachF x o).1, 0)
theorem kd_0 (k : Int) : (kd k == 0) = (k == 0) := by
  unfold kd
  split
  · rename_i h; simp [h]
  · rename_i h
    have : (k == 0) = false := by simpa using h
    rw [this]
    split
    · rfl
    split
    · rfl
    split
    · rfl
    · rfl
theorem kd_n (k : Int) : (kd k == 110) = (k == 1) := by
  unfold kd
  by_cases h0 : k = 0
  · rw [if_pos h0, h0]; rfl
  rw [if_neg h0]
  by_cases h1 : k = 1
  · rw [if_pos h1, h1]; rfl
  have : (k == 1) = false := by simpa using h1
  rw [if_neg h1, this]
  split
  · rfl
  split
  · rfl
  · rfl
theorem word_all (x : Val) (o : Int) (hx : x.Ok) (ho : In64 o) (w : World) : Calls Tryd.prog 82 #[.agg #[.int .u8 (kd x.k), .int .i64 x.n, .int .i64 x.c], .int .i64 o] w fun e w' => e = .returned (.tuple #[.int .i64 (wordF x o).1, .int .i64 (wordF x o).2]) ∧ Below w.heap.size w w' := by
  obtain ⟨k, n, c⟩ := x
  have k0 : 0 ≤ k := hx.k0
  have k4 : k ≤ 4 := hx.k4
  have hn : In64 n := hx.n
  have HD : ∀ w, Calls Tryd.prog 55 #[.int .i64 2, .int .i64 n, .int .i64 o] w fun e w' => e = .returned (.int .i64 (wrap64 (n + o))) ∧ w' = w := fun w => by
    have := ref_any 2 n o hn.1 hn.2 ho.1 ho.2 w
    rw [doesV_2] at this
    exact this
  have hb := wrap64_bd (n + o)
  unfold wordF reachF
  show Calls Tryd.prog _ #[.agg #[.int .u8 (kd k), .int .i64 n, .int .i64 c], .int .i64 o] w _
  by_cases h0 : k = 0
  · rw [if_pos h0, if_pos (by simp)]
    exact word_none (kd k) n c o (by rw [kd_0]; simpa using h0) w
  have e0 : (kd k == 0) = false := by rw [kd_0]; simpa using h0
  rw [if_neg h0]
  by_cases h1 : k = 1
  · rw [if_pos h1, if_pos (by simp)]
    exact word_num (kd k) n c o e0 (by rw [kd_n]; simpa using h1) w
  have e1 : (kd k == 110) = false := by rw [kd_n]; simpa using h1
  rw [if_neg h1]
  by_cases h2 : k = 2
  · have eT : reachTo ⟨k, n, c⟩ o = wrap64 (n + o) := if_neg (by show ¬ k = 3; omega)
    have eM : reachMax ⟨k, n, c⟩ = 8 := if_pos h2
    have ek : kd k = 116 := by rw [h2]; rfl
    have HS : ∀ w, Calls Tryd.prog 99 #[.int .u8 (kd k)] w fun e w' => e = .returned (.agg #[.int .i64 0, .int .i64 7]) ∧ Below w.heap.size w w' := fun w => size_t (kd k) (by rw [ek]; rfl) w
    rw [eT, eM]
    by_cases hl : wrap64 (n + o) < 0
    · rw [if_pos (Or.inl hl), if_pos (by simp)]
      exact word_low (kd k) n c o _ 0 7 HD HS e0 e1 (by simpa using hl) w
    by_cases hh : 7 < wrap64 (n + o)
    · rw [if_pos (Or.inr (by omega)), if_pos (by simp)]
      exact word_high (kd k) n c o _ 0 7 HD HS e0 e1 (by simpa using hl) (by simpa using hh) w
    · rw [if_neg (show ¬ (wrap64 (n + o) < 0 ∨ 8 ≤ wrap64 (n + o)) by omega), if_neg (by simp), if_neg (by show ¬ k = 3; omega)]
      exact word_in (kd k) n c o _ 0 7 HD HS e0 e1 (by simpa using hl) (by simpa using hh) w
  by_cases h3 : k = 3
  · have eT : reachTo ⟨k, n, c⟩ o = wrap64 (wrap64 (n + o) + 16) := if_pos h3
    have eM : reachMax ⟨k, n, c⟩ = 16 := by unfold reachMax; rw [if_neg h2, if_pos h3]
    have ek : kd k = 102 := by rw [h3]; rfl
    have HS : ∀ w, Calls Tryd.prog 99 #[.int .u8 (kd k)] w fun e w' => e = .returned (.agg #[.int .i64 (-16), .int .i64 (-1)]) ∧ Below w.heap.size w w' := fun w => size_f (kd k) (by rw [ek]; rfl) (by rw [ek]; rfl) w
    rw [eT, eM]
    by_cases hl : wrap64 (n + o) < -16
    · have e : wrap64 (wrap64 (n + o) + 16) = wrap64 (n + o) + 16 := wrap64_in (by omega) (by omega)
      rw [e, if_pos (Or.inl (by omega)), if_pos (by simp)]
      exact word_low (kd k) n c o _ (-16) (-1) HD HS e0 e1 (by simpa using hl) w
    by_cases hh : -1 < wrap64 (n + o)
    · have e : wrap64 (wrap64 (n + o) + 16) < 0 ∨ 16 ≤ wrap64 (wrap64 (n + o) + 16) := by
        by_cases hg : wrap64 (n + o) + 16 ≤ 9223372036854775807
        · rw [wrap64_in (by omega) hg]; omega
        · left
          generalize wrap64 (n + o) = y at *
          unfold wrap64
          omega
      rw [if_pos e, if_pos (by simp)]
      exact word_high (kd k) n c o _ (-16) (-1) HD HS e0 e1 (by simpa using hl) (by simpa using hh) w
    · have e : wrap64 (wrap64 (n + o) + 16) = wrap64 (n + o) + 16 := wrap64_in (by omega) (by omega)
      rw [e, if_neg (show ¬ (wrap64 (n + o) + 16 < 0 ∨ 16 ≤ wrap64 (n + o) + 16) by omega), if_neg (by simp), if_pos h3]
      have := word_in (kd k) n c o _ (-16) (-1) HD HS e0 e1 (by simpa using hl) (by simpa using hh) w
      rw [show wrap64 (n + o) + 16 - 16 = wrap64 (n + o) by omega]
      exact this
  have h4 : k = 4 := by omega
  have eT : reachTo ⟨k, n, c⟩ o = wrap64 (n + o) := if_neg h3
  have eM : reachMax ⟨k, n, c⟩ = 4 := by unfold reachMax; rw [if_neg h2, if_neg h3]
  have ek : kd k = 99 := by rw [h4]; rfl
  have HS : ∀ w, Calls Tryd.prog 99 #[.int .u8 (kd k)] w fun e w' => e = .returned (.agg #[.int .i64 0, .int .i64 3]) ∧ Below w.heap.size w w' := fun w => size_c (kd k) (by rw [ek]; rfl) (by rw [ek]; rfl) w
  rw [eT, eM]
  by_cases hl : wrap64 (n + o) < 0
  · rw [if_pos (Or.inl hl), if_pos (by simp)]
    exact word_low (kd k) n c o _ 0 3 HD HS e0 e1 (by simpa using hl) w
  by_cases hh : 3 < wrap64 (n + o)
  · rw [if_pos (Or.inr (by omega)), if_pos (by simp)]
    exact word_high (kd k) n c o _ 0 3 HD HS e0 e1 (by simpa using hl) (by simpa using hh) w
  · rw [if_neg (show ¬ (wrap64 (n + o) < 0 ∨ 4 ≤ wrap64 (n + o)) by omega), if_neg (by simp), if_neg h3]
    exact word_in (kd k) n c o _ 0 3 HD HS e0 e1 (by simpa using hl) (by simpa using hh) w
end Go.Proofs.YtegeiicginpdbaaDoor
