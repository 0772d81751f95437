/-
  What the document's own answer to Does returns: the same function on integers; the world is as it was. Conditions: the arguments are numbers of 64 bits.
-/
import Derived.Test.YtegeiicginpdbaaDoorOpWalks
namespace Go.Proofs.YtegeiicginpdbaaDoor
open Go.ChangeShapes Go.WideShapes Go.ChangeAt Go.RowKit

theorem ref_1 (a b : Int) (h0 : -9223372036854775808 ≤ b) (h1 : b ≤ 9223372036854775807) (w : World) : Calls Tryd.prog 55 #[.int .i64 1, .int .i64 a, .int .i64 b] w fun e w' => e = .returned (.int .i64 (doesV 1 a b)) ∧ w' = w := by
  rw [doesV_1]
  have ha := uns_wrap a
  have hb := uns_wrap b
  have l1 := uns_lt a
  have l2 := uns_lt b
  generalize uns a = X at *
  generalize uns b = Y at *
  go_enter Tryd.func55, Tryd.ntmps55
  go_wp2
  go_loop [10, 24] (fun p i => ∃ j : Nat, j ≤ Y % 64 ∧ i = .int .u64 j ∧ p = .int .u64 (pw j)) (fun _ i => 64 - (intOf i).toNat)
  case atStart => exact ⟨0, Nat.zero_le _, rfl, rfl⟩
  case round =>
    obtain ⟨j, hj, rfl, rfl⟩ := hrel
    by_cases hlt : j < Y % 64
    · have hp : pw j * 2 < 18446744073709551616 := pw_half (by omega)
      go_wp2
      go_round
      case rel => exact ⟨j + 1, by omega, by go_num, by rw [pw_two (show j < 63 by omega)]; go_num⟩
      case measure => simp [intOf]; omega
    · obtain rfl : j = Y % 64 := by omega
      have hp := pw_le (show Y % 64 < 64 by omega)
      have hq := pw_pos (show Y % 64 < 64 by omega)
      clear hlt hj
      go_wp2
      go_ret
      exact ⟨ret_i64 (r_mov h0 h1 hb), rfl⟩
theorem ref_2 (a b : Int) (w : World) : Calls Tryd.prog 55 #[.int .i64 2, .int .i64 a, .int .i64 b] w fun e w' => e = .returned (.int .i64 (doesV 2 a b)) ∧ w' = w := by
  rw [doesV_2]
  have ha := uns_wrap a
  have hb := uns_wrap b
  have l1 := uns_lt a
  have l2 := uns_lt b
  generalize uns a = X at *
  generalize uns b = Y at *
  go_enter Tryd.func55, Tryd.ntmps55
  go_wp2
  go_loop [10, 24] (fun p i => ∃ j : Nat, j ≤ Y % 64 ∧ i = .int .u64 j ∧ p = .int .u64 (pw j)) (fun _ i => 64 - (intOf i).toNat)
  case atStart => exact ⟨0, Nat.zero_le _, rfl, rfl⟩
  case round =>
    obtain ⟨j, hj, rfl, rfl⟩ := hrel
    by_cases hlt : j < Y % 64
    · have hp : pw j * 2 < 18446744073709551616 := pw_half (by omega)
      go_wp2
      go_round
      case rel => exact ⟨j + 1, by omega, by go_num, by rw [pw_two (show j < 63 by omega)]; go_num⟩
      case measure => simp [intOf]; omega
    · obtain rfl : j = Y % 64 := by omega
      have hp := pw_le (show Y % 64 < 64 by omega)
      have hq := pw_pos (show Y % 64 < 64 by omega)
      clear hlt hj
      go_wp2
      go_ret
      exact ⟨ret_i64 (r_add ha hb), rfl⟩
theorem ref_3 (a b : Int) (w : World) : Calls Tryd.prog 55 #[.int .i64 3, .int .i64 a, .int .i64 b] w fun e w' => e = .returned (.int .i64 (doesV 3 a b)) ∧ w' = w := by
  rw [doesV_3]
  have ha := uns_wrap a
  have hb := uns_wrap b
  have l1 := uns_lt a
  have l2 := uns_lt b
  generalize uns a = X at *
  generalize uns b = Y at *
  go_enter Tryd.func55, Tryd.ntmps55
  go_wp2
  go_loop [10, 24] (fun p i => ∃ j : Nat, j ≤ Y % 64 ∧ i = .int .u64 j ∧ p = .int .u64 (pw j)) (fun _ i => 64 - (intOf i).toNat)
  case atStart => exact ⟨0, Nat.zero_le _, rfl, rfl⟩
  case round =>
    obtain ⟨j, hj, rfl, rfl⟩ := hrel
    by_cases hlt : j < Y % 64
    · have hp : pw j * 2 < 18446744073709551616 := pw_half (by omega)
      go_wp2
      go_round
      case rel => exact ⟨j + 1, by omega, by go_num, by rw [pw_two (show j < 63 by omega)]; go_num⟩
      case measure => simp [intOf]; omega
    · obtain rfl : j = Y % 64 := by omega
      have hp := pw_le (show Y % 64 < 64 by omega)
      have hq := pw_pos (show Y % 64 < 64 by omega)
      clear hlt hj
      go_wp2
      go_ret
      exact ⟨ret_i64 (r_sub ha hb), rfl⟩
theorem ref_4 (a b : Int) (w : World) : Calls Tryd.prog 55 #[.int .i64 4, .int .i64 a, .int .i64 b] w fun e w' => e = .returned (.int .i64 (doesV 4 a b)) ∧ w' = w := by
  rw [doesV_4]
  have ha := uns_wrap a
  have hb := uns_wrap b
  have l1 := uns_lt a
  have l2 := uns_lt b
  generalize uns a = X at *
  generalize uns b = Y at *
  go_enter Tryd.func55, Tryd.ntmps55
  go_wp2
  go_loop [10, 24] (fun p i => ∃ j : Nat, j ≤ Y % 64 ∧ i = .int .u64 j ∧ p = .int .u64 (pw j)) (fun _ i => 64 - (intOf i).toNat)
  case atStart => exact ⟨0, Nat.zero_le _, rfl, rfl⟩
  case round =>
    obtain ⟨j, hj, rfl, rfl⟩ := hrel
    by_cases hlt : j < Y % 64
    · have hp : pw j * 2 < 18446744073709551616 := pw_half (by omega)
      go_wp2
      go_round
      case rel => exact ⟨j + 1, by omega, by go_num, by rw [pw_two (show j < 63 by omega)]; go_num⟩
      case measure => simp [intOf]; omega
    · obtain rfl : j = Y % 64 := by omega
      have hp := pw_le (show Y % 64 < 64 by omega)
      have hq := pw_pos (show Y % 64 < 64 by omega)
      clear hlt hj
      go_wp2
      go_ret
      exact ⟨ret_i64 (r_mul ha hb), rfl⟩
theorem ref_13 (a b : Int) (w : World) : Calls Tryd.prog 55 #[.int .i64 13, .int .i64 a, .int .i64 b] w fun e w' => e = .returned (.int .i64 (doesV 13 a b)) ∧ w' = w := by
  rw [doesV_13]
  have ha := uns_wrap a
  have hb := uns_wrap b
  have l1 := uns_lt a
  have l2 := uns_lt b
  generalize uns a = X at *
  generalize uns b = Y at *
  go_enter Tryd.func55, Tryd.ntmps55
  go_wp2
  go_loop [10, 24] (fun p i => ∃ j : Nat, j ≤ Y % 64 ∧ i = .int .u64 j ∧ p = .int .u64 (pw j)) (fun _ i => 64 - (intOf i).toNat)
  case atStart => exact ⟨0, Nat.zero_le _, rfl, rfl⟩
  case round =>
    obtain ⟨j, hj, rfl, rfl⟩ := hrel
    by_cases hlt : j < Y % 64
    · have hp : pw j * 2 < 18446744073709551616 := pw_half (by omega)
      go_wp2
      go_round
      case rel => exact ⟨j + 1, by omega, by go_num, by rw [pw_two (show j < 63 by omega)]; go_num⟩
      case measure => simp [intOf]; omega
    · obtain rfl : j = Y % 64 := by omega
      have hp := pw_le (show Y % 64 < 64 by omega)
      have hq := pw_pos (show Y % 64 < 64 by omega)
      clear hlt hj
      go_wp2
      go_ret
      exact ⟨ret_i64 (r_neg ha), rfl⟩
theorem ref_10 (a b : Int) (w : World) : Calls Tryd.prog 55 #[.int .i64 10, .int .i64 a, .int .i64 b] w fun e w' => e = .returned (.int .i64 (doesV 10 a b)) ∧ w' = w := by
  have hs : Hid (uns b % 64 = sixBits b) := sixBits_uns b
  rw [doesV_10]
  have ha := uns_wrap a
  have hb := uns_wrap b
  have l1 := uns_lt a
  have l2 := uns_lt b
  generalize uns a = X at *
  generalize uns b = Y at *
  go_enter Tryd.func55, Tryd.ntmps55
  go_wp2
  go_loop [10, 24] (fun p i => ∃ j : Nat, j ≤ Y % 64 ∧ i = .int .u64 j ∧ p = .int .u64 (pw j)) (fun _ i => 64 - (intOf i).toNat)
  case atStart => exact ⟨0, Nat.zero_le _, rfl, rfl⟩
  case round =>
    obtain ⟨j, hj, rfl, rfl⟩ := hrel
    by_cases hlt : j < Y % 64
    · have hp : pw j * 2 < 18446744073709551616 := pw_half (by omega)
      go_wp2
      go_round
      case rel => exact ⟨j + 1, by omega, by go_num, by rw [pw_two (show j < 63 by omega)]; go_num⟩
      case measure => simp [intOf]; omega
    · obtain rfl : j = Y % 64 := by omega
      have hp := pw_le (show Y % 64 < 64 by omega)
      have hq := pw_pos (show Y % 64 < 64 by omega)
      clear hlt hj
      go_wp2
      go_ret
      exact ⟨ret_i64 (r_lsh ha hs.out), rfl⟩
theorem ref_11 (a b : Int) (w : World) : Calls Tryd.prog 55 #[.int .i64 11, .int .i64 a, .int .i64 b] w fun e w' => e = .returned (.int .i64 (doesV 11 a b)) ∧ w' = w := by
  have hs : Hid (uns b % 64 = sixBits b) := sixBits_uns b
  rw [doesV_11]
  have ha := uns_wrap a
  have hb := uns_wrap b
  have l1 := uns_lt a
  have l2 := uns_lt b
  generalize uns a = X at *
  generalize uns b = Y at *
  go_enter Tryd.func55, Tryd.ntmps55
  go_wp2
  go_loop [10, 24] (fun p i => ∃ j : Nat, j ≤ Y % 64 ∧ i = .int .u64 j ∧ p = .int .u64 (pw j)) (fun _ i => 64 - (intOf i).toNat)
  case atStart => exact ⟨0, Nat.zero_le _, rfl, rfl⟩
  case round =>
    obtain ⟨j, hj, rfl, rfl⟩ := hrel
    by_cases hlt : j < Y % 64
    · have hp : pw j * 2 < 18446744073709551616 := pw_half (by omega)
      go_wp2
      go_round
      case rel => exact ⟨j + 1, by omega, by go_num, by rw [pw_two (show j < 63 by omega)]; go_num⟩
      case measure => simp [intOf]; omega
    · obtain rfl : j = Y % 64 := by omega
      have hp := pw_le (show Y % 64 < 64 by omega)
      have hq := pw_pos (show Y % 64 < 64 by omega)
      clear hlt hj
      go_wp2
      go_ret
      exact ⟨ret_i64 (r_rsh hs.out), rfl⟩
theorem ref_5z (a b : Int) (hb0 : b = 0) (w : World) : Calls Tryd.prog 55 #[.int .i64 5, .int .i64 a, .int .i64 b] w fun e w' => e = .returned (.int .i64 (doesV 5 a b)) ∧ w' = w := by
  have hd : doesV 5 a b = 0 := by subst hb0; exact doesV_5z a
  rw [hd]
  have HZ : Hid (uns b = 0) := by subst hb0; rfl
  clear hd hb0
  have ha := uns_wrap a
  have hb := uns_wrap b
  have l1 := uns_lt a
  have l2 := uns_lt b
  generalize uns a = X at *
  generalize uns b = Y at *
  go_enter Tryd.func55, Tryd.ntmps55
  go_wp2
  go_loop [10, 24] (fun p i => ∃ j : Nat, j ≤ Y % 64 ∧ i = .int .u64 j ∧ p = .int .u64 (pw j)) (fun _ i => 64 - (intOf i).toNat)
  case atStart => exact ⟨0, Nat.zero_le _, rfl, rfl⟩
  case round =>
    obtain ⟨j, hj, rfl, rfl⟩ := hrel
    by_cases hlt : j < Y % 64
    · have hp : pw j * 2 < 18446744073709551616 := pw_half (by omega)
      go_wp2
      go_round
      case rel => exact ⟨j + 1, by omega, by go_num, by rw [pw_two (show j < 63 by omega)]; go_num⟩
      case measure => simp [intOf]; omega
    · obtain rfl : j = Y % 64 := by omega
      have hp := pw_le (show Y % 64 < 64 by omega)
      have hq := pw_pos (show Y % 64 < 64 by omega)
      clear hlt hj
      have hz := HZ.out
      go_wp2
      go_ret
      exact ⟨ret_i64 rfl, rfl⟩
theorem ref_5 (a b : Int) (h0 : -9223372036854775808 ≤ b) (h1 : b ≤ 9223372036854775807) (hb0 : b ≠ 0) (w : World) : Calls Tryd.prog 55 #[.int .i64 5, .int .i64 a, .int .i64 b] w fun e w' => e = .returned (.int .i64 (doesV 5 a b)) ∧ w' = w := by
  rw [doesV_5 a hb0]
  have hz : uns b ≠ 0 := fun e => hb0 ((uns_zero h0 h1).1 e)
  have ha := uns_wrap a
  have hb := uns_wrap b
  have l1 := uns_lt a
  have l2 := uns_lt b
  generalize uns a = X at *
  generalize uns b = Y at *
  go_enter Tryd.func55, Tryd.ntmps55
  go_wp2
  go_loop [10, 24] (fun p i => ∃ j : Nat, j ≤ Y % 64 ∧ i = .int .u64 j ∧ p = .int .u64 (pw j)) (fun _ i => 64 - (intOf i).toNat)
  case atStart => exact ⟨0, Nat.zero_le _, rfl, rfl⟩
  case round =>
    obtain ⟨j, hj, rfl, rfl⟩ := hrel
    by_cases hlt : j < Y % 64
    · have hp : pw j * 2 < 18446744073709551616 := pw_half (by omega)
      go_wp2
      go_round
      case rel => exact ⟨j + 1, by omega, by go_num, by rw [pw_two (show j < 63 by omega)]; go_num⟩
      case measure => simp [intOf]; omega
    · obtain rfl : j = Y % 64 := by omega
      have hp := pw_le (show Y % 64 < 64 by omega)
      have hq := pw_pos (show Y % 64 < 64 by omega)
      clear hlt hj
      go_wp2
      go_ret
      exact ⟨ret_i64 (wrap64_u _), rfl⟩
theorem ref_6z (a b : Int) (h0 : -9223372036854775808 ≤ a) (h1 : a ≤ 9223372036854775807) (hb0 : b = 0) (w : World) : Calls Tryd.prog 55 #[.int .i64 6, .int .i64 a, .int .i64 b] w fun e w' => e = .returned (.int .i64 (doesV 6 a b)) ∧ w' = w := by
  have hd : doesV 6 a b = a := by subst hb0; exact doesV_6z a
  rw [hd]
  have HZ : Hid (uns b = 0) := by subst hb0; rfl
  clear hd hb0
  have ha := uns_wrap a
  have hb := uns_wrap b
  have l1 := uns_lt a
  have l2 := uns_lt b
  generalize uns a = X at *
  generalize uns b = Y at *
  go_enter Tryd.func55, Tryd.ntmps55
  go_wp2
  go_loop [10, 24] (fun p i => ∃ j : Nat, j ≤ Y % 64 ∧ i = .int .u64 j ∧ p = .int .u64 (pw j)) (fun _ i => 64 - (intOf i).toNat)
  case atStart => exact ⟨0, Nat.zero_le _, rfl, rfl⟩
  case round =>
    obtain ⟨j, hj, rfl, rfl⟩ := hrel
    by_cases hlt : j < Y % 64
    · have hp : pw j * 2 < 18446744073709551616 := pw_half (by omega)
      go_wp2
      go_round
      case rel => exact ⟨j + 1, by omega, by go_num, by rw [pw_two (show j < 63 by omega)]; go_num⟩
      case measure => simp [intOf]; omega
    · obtain rfl : j = Y % 64 := by omega
      have hp := pw_le (show Y % 64 < 64 by omega)
      have hq := pw_pos (show Y % 64 < 64 by omega)
      clear hlt hj
      have hz := HZ.out
      go_wp2
      go_ret
      exact ⟨ret_i64 (r_mov h0 h1 ha), rfl⟩
theorem ref_6 (a b : Int) (h0 : -9223372036854775808 ≤ b) (h1 : b ≤ 9223372036854775807) (hb0 : b ≠ 0) (w : World) : Calls Tryd.prog 55 #[.int .i64 6, .int .i64 a, .int .i64 b] w fun e w' => e = .returned (.int .i64 (doesV 6 a b)) ∧ w' = w := by
  rw [doesV_6 a hb0]
  have hz : uns b ≠ 0 := fun e => hb0 ((uns_zero h0 h1).1 e)
  have ha := uns_wrap a
  have hb := uns_wrap b
  have l1 := uns_lt a
  have l2 := uns_lt b
  generalize uns a = X at *
  generalize uns b = Y at *
  go_enter Tryd.func55, Tryd.ntmps55
  go_wp2
  go_loop [10, 24] (fun p i => ∃ j : Nat, j ≤ Y % 64 ∧ i = .int .u64 j ∧ p = .int .u64 (pw j)) (fun _ i => 64 - (intOf i).toNat)
  case atStart => exact ⟨0, Nat.zero_le _, rfl, rfl⟩
  case round =>
    obtain ⟨j, hj, rfl, rfl⟩ := hrel
    by_cases hlt : j < Y % 64
    · have hp : pw j * 2 < 18446744073709551616 := pw_half (by omega)
      go_wp2
      go_round
      case rel => exact ⟨j + 1, by omega, by go_num, by rw [pw_two (show j < 63 by omega)]; go_num⟩
      case measure => simp [intOf]; omega
    · obtain rfl : j = Y % 64 := by omega
      have hp := pw_le (show Y % 64 < 64 by omega)
      have hq := pw_pos (show Y % 64 < 64 by omega)
      clear hlt hj
      go_wp2
      go_ret
      exact ⟨ret_i64 rfl, rfl⟩
theorem ref_no (c a b : Int) (hc : c < 1 ∨ 13 < c) (w : World) : Calls Tryd.prog 55 #[.int .i64 c, .int .i64 a, .int .i64 b] w fun e w' => e = .returned (.int .i64 (doesV c a b)) ∧ w' = w := by
  rw [doesV_no a b hc]
  have ha := uns_wrap a
  have hb := uns_wrap b
  have l1 := uns_lt a
  have l2 := uns_lt b
  generalize uns a = X at *
  generalize uns b = Y at *
  go_enter Tryd.func55, Tryd.ntmps55
  go_wp2
  go_loop [10, 24] (fun p i => ∃ j : Nat, j ≤ Y % 64 ∧ i = .int .u64 j ∧ p = .int .u64 (pw j)) (fun _ i => 64 - (intOf i).toNat)
  case atStart => exact ⟨0, Nat.zero_le _, rfl, rfl⟩
  case round =>
    obtain ⟨j, hj, rfl, rfl⟩ := hrel
    by_cases hlt : j < Y % 64
    · have hp : pw j * 2 < 18446744073709551616 := pw_half (by omega)
      go_wp2
      go_round
      case rel => exact ⟨j + 1, by omega, by go_num, by rw [pw_two (show j < 63 by omega)]; go_num⟩
      case measure => simp [intOf]; omega
    · obtain rfl : j = Y % 64 := by omega
      have hp := pw_le (show Y % 64 < 64 by omega)
      have hq := pw_pos (show Y % 64 < 64 by omega)
      clear hlt hj
      go_wp2
      go_ret
      exact ⟨ret_i64 rfl, rfl⟩
set_option maxHeartbeats 1000000 in
theorem ref_7 (a b : Int) (w : World) : Calls Tryd.prog 55 #[.int .i64 7, .int .i64 a, .int .i64 b] w fun e w' => e = .returned (.int .i64 (doesV 7 a b)) ∧ w' = w := by
  rw [doesV_7]
  have ha := uns_wrap a
  have hb := uns_wrap b
  have l1 := uns_lt a
  have l2 := uns_lt b
  generalize uns a = X at *
  generalize uns b = Y at *
  have hZ : X &&& Y < 18446744073709551616 := Nat.and_lt_two_pow (n := 64) X l2
  obtain ⟨Z, hZe⟩ : ∃ Z, Hid (Z = X &&& Y) := ⟨_, rfl⟩
  rw [← hZe.out] at hZ ⊢
  go_enter Tryd.func55, Tryd.ntmps55
  go_wp2
  go_loop [10, 24] (fun p i => ∃ j : Nat, j ≤ Y % 64 ∧ i = .int .u64 j ∧ p = .int .u64 (pw j)) (fun _ i => 64 - (intOf i).toNat)
  case atStart => exact ⟨0, Nat.zero_le _, rfl, rfl⟩
  case round =>
    obtain ⟨j, hj, rfl, rfl⟩ := hrel
    by_cases hlt : j < Y % 64
    · have hp : pw j * 2 < 18446744073709551616 := pw_half (by omega)
      go_wp2
      go_round
      case rel => exact ⟨j + 1, by omega, by go_num, by rw [pw_two (show j < 63 by omega)]; go_num⟩
      case measure => simp [intOf]; omega
    · obtain rfl : j = Y % 64 := by omega
      have hp := pw_le (show Y % 64 < 64 by omega)
      have hq := pw_pos (show Y % 64 < 64 by omega)
      clear hlt hj
      go_wp2
      go_loop [7, 8, 11, 12, 66] (fun x y z p i => ∃ j : Nat, j ≤ 64 ∧ i = .int .i64 j ∧ x = .int .u64 (hi X j) ∧ y = .int .u64 (hi Y j) ∧ p = .int .u64 (pw j) ∧ z = .int .u64 (lo Z j)) (fun _ _ _ _ i => 64 - (intOf i).toNat)
      case atStart => exact ⟨0, Nat.zero_le _, rfl, by rw [hi_zero], by rw [hi_zero], rfl, by rw [lo_zero]; rfl⟩
      case round =>
        obtain ⟨j, hj, rfl, rfl, rfl, rfl, rfl⟩ := hrel
        by_cases hlt : j < 64
        · have hx := Nat.mod_two_eq_zero_or_one (hi X j)
          have hy := Nat.mod_two_eq_zero_or_one (hi Y j)
          have x1 := hi_le X j
          have y1 := hi_le Y j
          have hro := lo_room (z := Z) hlt
          have hpw := pw_wrap j
          rcases hx with hx | hx <;> rcases hy with hy | hy
          · have hbt : Hid (lo Z (j + 1) = lo Z j) := by
              have t := bit_and (x := X) (y := Y) hlt hx hy
              rw [← hZe.out] at t
              show lo Z (j + 1) = lo Z j
              rw [t]; simp
            have hxi : (hi X j : Int) % 2 = 0 := by omega
            have hyi : (hi Y j : Int) % 2 = 0 := by omega
            go_wp2
            go_round
            case rel => exact ⟨j + 1, by omega, by go_num, by rw [hi_succ]; go_num, by rw [hi_succ]; go_num, rfl, by rw [hbt.out]⟩
            case measure => simp [intOf]; omega
          · have hbt : Hid (lo Z (j + 1) = lo Z j) := by
              have t := bit_and (x := X) (y := Y) hlt hx hy
              rw [← hZe.out] at t
              show lo Z (j + 1) = lo Z j
              rw [t]; simp
            have hxi : (hi X j : Int) % 2 = 0 := by omega
            have hyi : (hi Y j : Int) % 2 = 1 := by omega
            go_wp2
            go_round
            case rel => exact ⟨j + 1, by omega, by go_num, by rw [hi_succ]; go_num, by rw [hi_succ]; go_num, rfl, by rw [hbt.out]⟩
            case measure => simp [intOf]; omega
          · have hbt : Hid (lo Z (j + 1) = lo Z j) := by
              have t := bit_and (x := X) (y := Y) hlt hx hy
              rw [← hZe.out] at t
              show lo Z (j + 1) = lo Z j
              rw [t]; simp
            have hxi : (hi X j : Int) % 2 = 1 := by omega
            have hyi : (hi Y j : Int) % 2 = 0 := by omega
            go_wp2
            go_round
            case rel => exact ⟨j + 1, by omega, by go_num, by rw [hi_succ]; go_num, by rw [hi_succ]; go_num, rfl, by rw [hbt.out]⟩
            case measure => simp [intOf]; omega
          · have hbt : Hid (lo Z (j + 1) = lo Z j + pw j) := by
              have t := bit_and (x := X) (y := Y) hlt hx hy
              rw [← hZe.out] at t
              show lo Z (j + 1) = lo Z j + pw j
              rw [t]; simp
            have hxi : (hi X j : Int) % 2 = 1 := by omega
            have hyi : (hi Y j : Int) % 2 = 1 := by omega
            go_wp2
            go_round
            case rel => exact ⟨j + 1, by omega, by go_num, by rw [hi_succ]; go_num, by rw [hi_succ]; go_num, rfl, by rw [hbt.out]; go_num⟩
            case measure => simp [intOf]; omega
        · obtain rfl : j = 64 := by omega
          go_wp2
          go_ret
          exact ⟨ret_i64 (by rw [lo_all hZ]), rfl⟩
set_option maxHeartbeats 1000000 in
theorem ref_8 (a b : Int) (w : World) : Calls Tryd.prog 55 #[.int .i64 8, .int .i64 a, .int .i64 b] w fun e w' => e = .returned (.int .i64 (doesV 8 a b)) ∧ w' = w := by
  rw [doesV_8]
  have ha := uns_wrap a
  have hb := uns_wrap b
  have l1 := uns_lt a
  have l2 := uns_lt b
  generalize uns a = X at *
  generalize uns b = Y at *
  have hZ : X ||| Y < 18446744073709551616 := Nat.or_lt_two_pow (n := 64) l1 l2
  obtain ⟨Z, hZe⟩ : ∃ Z, Hid (Z = X ||| Y) := ⟨_, rfl⟩
  rw [← hZe.out] at hZ ⊢
  go_enter Tryd.func55, Tryd.ntmps55
  go_wp2
  go_loop [10, 24] (fun p i => ∃ j : Nat, j ≤ Y % 64 ∧ i = .int .u64 j ∧ p = .int .u64 (pw j)) (fun _ i => 64 - (intOf i).toNat)
  case atStart => exact ⟨0, Nat.zero_le _, rfl, rfl⟩
  case round =>
    obtain ⟨j, hj, rfl, rfl⟩ := hrel
    by_cases hlt : j < Y % 64
    · have hp : pw j * 2 < 18446744073709551616 := pw_half (by omega)
      go_wp2
      go_round
      case rel => exact ⟨j + 1, by omega, by go_num, by rw [pw_two (show j < 63 by omega)]; go_num⟩
      case measure => simp [intOf]; omega
    · obtain rfl : j = Y % 64 := by omega
      have hp := pw_le (show Y % 64 < 64 by omega)
      have hq := pw_pos (show Y % 64 < 64 by omega)
      clear hlt hj
      go_wp2
      go_loop [7, 8, 11, 12, 66] (fun x y z p i => ∃ j : Nat, j ≤ 64 ∧ i = .int .i64 j ∧ x = .int .u64 (hi X j) ∧ y = .int .u64 (hi Y j) ∧ p = .int .u64 (pw j) ∧ z = .int .u64 (lo Z j)) (fun _ _ _ _ i => 64 - (intOf i).toNat)
      case atStart => exact ⟨0, Nat.zero_le _, rfl, by rw [hi_zero], by rw [hi_zero], rfl, by rw [lo_zero]; rfl⟩
      case round =>
        obtain ⟨j, hj, rfl, rfl, rfl, rfl, rfl⟩ := hrel
        by_cases hlt : j < 64
        · have hx := Nat.mod_two_eq_zero_or_one (hi X j)
          have hy := Nat.mod_two_eq_zero_or_one (hi Y j)
          have x1 := hi_le X j
          have y1 := hi_le Y j
          have hro := lo_room (z := Z) hlt
          have hpw := pw_wrap j
          rcases hx with hx | hx <;> rcases hy with hy | hy
          · have hbt : Hid (lo Z (j + 1) = lo Z j) := by
              have t := bit_or (x := X) (y := Y) hlt hx hy
              rw [← hZe.out] at t
              show lo Z (j + 1) = lo Z j
              rw [t]; simp
            have hxi : (hi X j : Int) % 2 = 0 := by omega
            have hyi : (hi Y j : Int) % 2 = 0 := by omega
            go_wp2
            go_round
            case rel => exact ⟨j + 1, by omega, by go_num, by rw [hi_succ]; go_num, by rw [hi_succ]; go_num, rfl, by rw [hbt.out]⟩
            case measure => simp [intOf]; omega
          · have hbt : Hid (lo Z (j + 1) = lo Z j + pw j) := by
              have t := bit_or (x := X) (y := Y) hlt hx hy
              rw [← hZe.out] at t
              show lo Z (j + 1) = lo Z j + pw j
              rw [t]; simp
            have hxi : (hi X j : Int) % 2 = 0 := by omega
            have hyi : (hi Y j : Int) % 2 = 1 := by omega
            have m1 : max (0 : Int) 1 = 1 := by decide
            go_wp2
            go_round
            case rel => exact ⟨j + 1, by omega, by go_num, by rw [hi_succ]; go_num, by rw [hi_succ]; go_num, rfl, by rw [hbt.out]; go_num⟩
            case measure => simp [intOf]; omega
          · have hbt : Hid (lo Z (j + 1) = lo Z j + pw j) := by
              have t := bit_or (x := X) (y := Y) hlt hx hy
              rw [← hZe.out] at t
              show lo Z (j + 1) = lo Z j + pw j
              rw [t]; simp
            have hxi : (hi X j : Int) % 2 = 1 := by omega
            have hyi : (hi Y j : Int) % 2 = 0 := by omega
            have m1 : max (1 : Int) 0 = 1 := by decide
            go_wp2
            go_round
            case rel => exact ⟨j + 1, by omega, by go_num, by rw [hi_succ]; go_num, by rw [hi_succ]; go_num, rfl, by rw [hbt.out]; go_num⟩
            case measure => simp [intOf]; omega
          · have hbt : Hid (lo Z (j + 1) = lo Z j + pw j) := by
              have t := bit_or (x := X) (y := Y) hlt hx hy
              rw [← hZe.out] at t
              show lo Z (j + 1) = lo Z j + pw j
              rw [t]; simp
            have hxi : (hi X j : Int) % 2 = 1 := by omega
            have hyi : (hi Y j : Int) % 2 = 1 := by omega
            go_wp2
            go_round
            case rel => exact ⟨j + 1, by omega, by go_num, by rw [hi_succ]; go_num, by rw [hi_succ]; go_num, rfl, by rw [hbt.out]; go_num⟩
            case measure => simp [intOf]; omega
        · obtain rfl : j = 64 := by omega
          go_wp2
          go_ret
          exact ⟨ret_i64 (by rw [lo_all hZ]), rfl⟩
set_option maxHeartbeats 1000000 in
theorem ref_9 (a b : Int) (w : World) : Calls Tryd.prog 55 #[.int .i64 9, .int .i64 a, .int .i64 b] w fun e w' => e = .returned (.int .i64 (doesV 9 a b)) ∧ w' = w := by
  rw [doesV_9]
  have ha := uns_wrap a
  have hb := uns_wrap b
  have l1 := uns_lt a
  have l2 := uns_lt b
  generalize uns a = X at *
  generalize uns b = Y at *
  have hZ : X ^^^ Y < 18446744073709551616 := Nat.xor_lt_two_pow (n := 64) l1 l2
  obtain ⟨Z, hZe⟩ : ∃ Z, Hid (Z = X ^^^ Y) := ⟨_, rfl⟩
  rw [← hZe.out] at hZ ⊢
  go_enter Tryd.func55, Tryd.ntmps55
  go_wp2
  go_loop [10, 24] (fun p i => ∃ j : Nat, j ≤ Y % 64 ∧ i = .int .u64 j ∧ p = .int .u64 (pw j)) (fun _ i => 64 - (intOf i).toNat)
  case atStart => exact ⟨0, Nat.zero_le _, rfl, rfl⟩
  case round =>
    obtain ⟨j, hj, rfl, rfl⟩ := hrel
    by_cases hlt : j < Y % 64
    · have hp : pw j * 2 < 18446744073709551616 := pw_half (by omega)
      go_wp2
      go_round
      case rel => exact ⟨j + 1, by omega, by go_num, by rw [pw_two (show j < 63 by omega)]; go_num⟩
      case measure => simp [intOf]; omega
    · obtain rfl : j = Y % 64 := by omega
      have hp := pw_le (show Y % 64 < 64 by omega)
      have hq := pw_pos (show Y % 64 < 64 by omega)
      clear hlt hj
      go_wp2
      go_loop [7, 8, 11, 12, 66] (fun x y z p i => ∃ j : Nat, j ≤ 64 ∧ i = .int .i64 j ∧ x = .int .u64 (hi X j) ∧ y = .int .u64 (hi Y j) ∧ p = .int .u64 (pw j) ∧ z = .int .u64 (lo Z j)) (fun _ _ _ _ i => 64 - (intOf i).toNat)
      case atStart => exact ⟨0, Nat.zero_le _, rfl, by rw [hi_zero], by rw [hi_zero], rfl, by rw [lo_zero]; rfl⟩
      case round =>
        obtain ⟨j, hj, rfl, rfl, rfl, rfl, rfl⟩ := hrel
        by_cases hlt : j < 64
        · have hx := Nat.mod_two_eq_zero_or_one (hi X j)
          have hy := Nat.mod_two_eq_zero_or_one (hi Y j)
          have x1 := hi_le X j
          have y1 := hi_le Y j
          have hro := lo_room (z := Z) hlt
          have hpw := pw_wrap j
          rcases hx with hx | hx <;> rcases hy with hy | hy
          · have hbt : Hid (lo Z (j + 1) = lo Z j) := by
              have t := bit_xor (x := X) (y := Y) hlt hx hy
              rw [← hZe.out] at t
              show lo Z (j + 1) = lo Z j
              rw [t]; simp
            have hxi : (hi X j : Int) % 2 = 0 := by omega
            have hyi : (hi Y j : Int) % 2 = 0 := by omega
            go_wp2
            go_round
            case rel => exact ⟨j + 1, by omega, by go_num, by rw [hi_succ]; go_num, by rw [hi_succ]; go_num, rfl, by rw [hbt.out]⟩
            case measure => simp [intOf]; omega
          · have hbt : Hid (lo Z (j + 1) = lo Z j + pw j) := by
              have t := bit_xor (x := X) (y := Y) hlt hx hy
              rw [← hZe.out] at t
              show lo Z (j + 1) = lo Z j + pw j
              rw [t]; simp
            have hxi : (hi X j : Int) % 2 = 0 := by omega
            have hyi : (hi Y j : Int) % 2 = 1 := by omega
            go_wp2
            go_round
            case rel => exact ⟨j + 1, by omega, by go_num, by rw [hi_succ]; go_num, by rw [hi_succ]; go_num, rfl, by rw [hbt.out]; go_num⟩
            case measure => simp [intOf]; omega
          · have hbt : Hid (lo Z (j + 1) = lo Z j + pw j) := by
              have t := bit_xor (x := X) (y := Y) hlt hx hy
              rw [← hZe.out] at t
              show lo Z (j + 1) = lo Z j + pw j
              rw [t]; simp
            have hxi : (hi X j : Int) % 2 = 1 := by omega
            have hyi : (hi Y j : Int) % 2 = 0 := by omega
            go_wp2
            go_round
            case rel => exact ⟨j + 1, by omega, by go_num, by rw [hi_succ]; go_num, by rw [hi_succ]; go_num, rfl, by rw [hbt.out]; go_num⟩
            case measure => simp [intOf]; omega
          · have hbt : Hid (lo Z (j + 1) = lo Z j) := by
              have t := bit_xor (x := X) (y := Y) hlt hx hy
              rw [← hZe.out] at t
              show lo Z (j + 1) = lo Z j
              rw [t]; simp
            have hxi : (hi X j : Int) % 2 = 1 := by omega
            have hyi : (hi Y j : Int) % 2 = 1 := by omega
            go_wp2
            go_round
            case rel => exact ⟨j + 1, by omega, by go_num, by rw [hi_succ]; go_num, by rw [hi_succ]; go_num, rfl, by rw [hbt.out]⟩
            case measure => simp [intOf]; omega
        · obtain rfl : j = 64 := by omega
          go_wp2
          go_ret
          exact ⟨ret_i64 (by rw [lo_all hZ]), rfl⟩
set_option maxHeartbeats 1000000 in
theorem ref_12 (a b : Int) (h0 : -9223372036854775808 ≤ a) (h1 : a ≤ 9223372036854775807) (w : World) : Calls Tryd.prog 55 #[.int .i64 12, .int .i64 a, .int .i64 b] w fun e w' => e = .returned (.int .i64 (doesV 12 a b)) ∧ w' = w := by
  have hs : Hid (uns b % 64 = sixBits b) := sixBits_uns b
  rw [doesV_12]
  have ha := uns_wrap a
  have hb := uns_wrap b
  have l1 := uns_lt a
  have l2 := uns_lt b
  generalize uns a = X at *
  generalize uns b = Y at *
  go_enter Tryd.func55, Tryd.ntmps55
  go_wp2
  go_loop [10, 24] (fun p i => ∃ j : Nat, j ≤ Y % 64 ∧ i = .int .u64 j ∧ p = .int .u64 (pw j)) (fun _ i => 64 - (intOf i).toNat)
  case atStart => exact ⟨0, Nat.zero_le _, rfl, rfl⟩
  case round =>
    obtain ⟨j, hj, rfl, rfl⟩ := hrel
    by_cases hlt : j < Y % 64
    · have hp : pw j * 2 < 18446744073709551616 := pw_half (by omega)
      go_wp2
      go_round
      case rel => exact ⟨j + 1, by omega, by go_num, by rw [pw_two (show j < 63 by omega)]; go_num⟩
      case measure => simp [intOf]; omega
    · obtain rfl : j = Y % 64 := by omega
      have hp := pw_le (show Y % 64 < 64 by omega)
      have hq := pw_pos (show Y % 64 < 64 by omega)
      clear hlt hj
      go_wp2
      go_loop [1, 112] (fun x i => ∃ j : Nat, j ≤ Y % 64 ∧ i = .int .u64 j ∧ x = .int .i64 (sh a j)) (fun _ i => 64 - (intOf i).toNat)
      case atStart => exact ⟨0, Nat.zero_le _, rfl, by rw [sh_zero]⟩
      case round =>
        obtain ⟨j, hj, rfl, rfl⟩ := hrel
        have hbd := sh_bd h0 h1 j
        have hsc : Hid (sh a (j + 1) = sh a j / 2) := sh_succ a j
        by_cases hlt : j < Y % 64
        · generalize sh a j = s at *
          by_cases hn : s < 0
          · rcases Int.emod_two_eq s with he | he
            · have ht := tdiv2_even he
              have hm := tmod2_even he
              go_wp2
              go_round
              case rel => exact ⟨j + 1, by omega, by go_num, by rw [hsc.out]⟩
              case measure => simp [intOf]; omega
            · have ht := tdiv2_odd hn he
              have hm := tmod2_odd hn he
              go_wp2
              go_round
              case rel => exact ⟨j + 1, by omega, by go_num, by rw [hsc.out]⟩
              case measure => simp [intOf]; omega
          · have hn2 : 0 ≤ s := by omega
            go_wp2
            go_round
            case rel => exact ⟨j + 1, by omega, by go_num, by rw [hsc.out]⟩
            case measure => simp [intOf]; omega
        · obtain rfl : j = Y % 64 := by omega
          go_wp2
          go_ret
          exact ⟨ret_i64 (by rw [hs.out]; rfl), rfl⟩
/-- All codes together. -/
theorem ref_any (c a b : Int) (h0 : -9223372036854775808 ≤ a) (h1 : a ≤ 9223372036854775807) (k0 : -9223372036854775808 ≤ b) (k1 : b ≤ 9223372036854775807) (w : World) : Calls Tryd.prog 55 #[.int .i64 c, .int .i64 a, .int .i64 b] w fun e w' => e = .returned (.int .i64 (doesV c a b)) ∧ w' = w := by
  by_cases hc : c < 1 ∨ 13 < c
  · exact ref_no c a b hc w
  · have h : c = 1 ∨ c = 2 ∨ c = 3 ∨ c = 4 ∨ c = 5 ∨ c = 6 ∨ c = 7 ∨ c = 8 ∨ c = 9 ∨ c = 10 ∨ c = 11 ∨ c = 12 ∨ c = 13 := by omega
    rcases h with rfl | rfl | rfl | rfl | rfl | rfl | rfl | rfl | rfl | rfl | rfl | rfl | rfl
    · exact ref_1 a b k0 k1 w
    · exact ref_2 a b w
    · exact ref_3 a b w
    · exact ref_4 a b w
    · by_cases hb : b = 0
      · exact ref_5z a b hb w
      · exact ref_5 a b k0 k1 hb w
    · by_cases hb : b = 0
      · exact ref_6z a b h0 h1 hb w
      · exact ref_6 a b k0 k1 hb w
    · exact ref_7 a b w
    · exact ref_8 a b w
    · exact ref_9 a b w
    · exact ref_10 a b w
    · exact ref_11 a b w
    · exact ref_12 a b h0 h1 w
    · exact ref_13 a b w
end Go.Proofs.YtegeiicginpdbaaDoor
