/-
 What the document's own answer to Does returns: the same function on integers; the world is as it was. Conditions: the arguments are numbers of 64 bits. What the document's own answer to Fill returns: as a function on integers; the world is as it was. Condition: the argument is a number of 64 bits. What the document's own One, Meet, Join, add, sub and down return: as functions on integers; the world below is as it was. Conditions: the arguments are numbers of 64 bits.
-/
import Derived.Test.YteenhdoaminkeaaGreatDoorJv2
import Derived.Test.YteenhdoaminkeaaGreatDoorJv4
import Derived.LoopN
set_option maxHeartbeats 40000000
open Go.Value renaming int → vI
open Go.IntKind renaming i64 → vK
open Go.RowKit.Below renaming alloc → bA, setCell → bS, drew → bD, refl → bF
set_option maxRecDepth 1000000
set_option linter.defProp false
set_option linter.unusedVariables false
set_option linter.unusedSimpArgs false
namespace Go.Proofs.YteenhdoaminkeaaGreatDoor
open Go.ChangeShapes Go.WideShapes Go.ChangeAt Go.RowKit

theorem ref_1 (a b : Int) (h0 : -9223372036854775808 ≤ b) (h1 : b ≤ 9223372036854775807) (w : World) : Calls Tryz.prog 54 #[vI vK 1, vI vK a, vI vK b] w fun e w' => e = .returned (vI vK (z0i 1 a b)) ∧ w' = w := by
 rw [zBn]
 have ha := z0w a
 have hb := z0w b
 have l1 := z1v a
 have l2 := z1v b
 generalize uns a = X at *
 generalize uns b = Y at *
 go_enter Tryz.func54, Tryz.ntmps54
 go_wp2
 go_loop [10, 24] (fun p i => ∃ j : Nat, j ≤ Y % 64 ∧ i = .int .u64 j ∧ p = .int .u64 (pw j)) (fun _ i => 64 - (intOf i).toNat)
 case atStart => exact ⟨0, Nat.zero_le _, rfl, rfl⟩
 case round =>
  obtain ⟨j, hj, rfl, rfl⟩ := hrel
  by_cases hlt : j < Y % 64
  ·have hp : pw j * 2 < 18446744073709551616 := z31 (by omega)
   go_wp2
   go_round
   case rel => exact ⟨j + 1, by omega, by go_num, by rw [z46 (show j < 63 by omega)]; go_num⟩
   case measure => simp [intOf]; omega
  ·obtain rfl : j = Y % 64 := by omega
   have hp := z6b (show Y % 64 < 64 by omega)
   have hq := z47 (show Y % 64 < 64 by omega)
   clear hlt hj
   go_wp2
   go_ret
   exact ⟨z20 (r_mov h0 h1 hb), rfl⟩
theorem ref_2 (a b : Int) (w : World) : Calls Tryz.prog 54 #[vI vK 2, vI vK a, vI vK b] w fun e w' => e = .returned (vI vK (z0i 2 a b)) ∧ w' = w := by
 rw [zBm]
 have ha := z0w a
 have hb := z0w b
 have l1 := z1v a
 have l2 := z1v b
 generalize uns a = X at *
 generalize uns b = Y at *
 go_enter Tryz.func54, Tryz.ntmps54
 go_wp2
 go_loop [10, 24] (fun p i => ∃ j : Nat, j ≤ Y % 64 ∧ i = .int .u64 j ∧ p = .int .u64 (pw j)) (fun _ i => 64 - (intOf i).toNat)
 case atStart => exact ⟨0, Nat.zero_le _, rfl, rfl⟩
 case round =>
  obtain ⟨j, hj, rfl, rfl⟩ := hrel
  by_cases hlt : j < Y % 64
  ·have hp : pw j * 2 < 18446744073709551616 := z31 (by omega)
   go_wp2
   go_round
   case rel => exact ⟨j + 1, by omega, by go_num, by rw [z46 (show j < 63 by omega)]; go_num⟩
   case measure => simp [intOf]; omega
  ·obtain rfl : j = Y % 64 := by omega
   have hp := z6b (show Y % 64 < 64 by omega)
   have hq := z47 (show Y % 64 < 64 by omega)
   clear hlt hj
   go_wp2
   go_ret
   exact ⟨z20 (r_add ha hb), rfl⟩
theorem ref_3 (a b : Int) (w : World) : Calls Tryz.prog 54 #[vI vK 3, vI vK a, vI vK b] w fun e w' => e = .returned (vI vK (z0i 3 a b)) ∧ w' = w := by
 rw [zBl]
 have ha := z0w a
 have hb := z0w b
 have l1 := z1v a
 have l2 := z1v b
 generalize uns a = X at *
 generalize uns b = Y at *
 go_enter Tryz.func54, Tryz.ntmps54
 go_wp2
 go_loop [10, 24] (fun p i => ∃ j : Nat, j ≤ Y % 64 ∧ i = .int .u64 j ∧ p = .int .u64 (pw j)) (fun _ i => 64 - (intOf i).toNat)
 case atStart => exact ⟨0, Nat.zero_le _, rfl, rfl⟩
 case round =>
  obtain ⟨j, hj, rfl, rfl⟩ := hrel
  by_cases hlt : j < Y % 64
  ·have hp : pw j * 2 < 18446744073709551616 := z31 (by omega)
   go_wp2
   go_round
   case rel => exact ⟨j + 1, by omega, by go_num, by rw [z46 (show j < 63 by omega)]; go_num⟩
   case measure => simp [intOf]; omega
  ·obtain rfl : j = Y % 64 := by omega
   have hp := z6b (show Y % 64 < 64 by omega)
   have hq := z47 (show Y % 64 < 64 by omega)
   clear hlt hj
   go_wp2
   go_ret
   exact ⟨z20 (r_sub ha hb), rfl⟩
theorem ref_4 (a b : Int) (w : World) : Calls Tryz.prog 54 #[vI vK 4, vI vK a, vI vK b] w fun e w' => e = .returned (vI vK (z0i 4 a b)) ∧ w' = w := by
 rw [zBk]
 have ha := z0w a
 have hb := z0w b
 have l1 := z1v a
 have l2 := z1v b
 generalize uns a = X at *
 generalize uns b = Y at *
 go_enter Tryz.func54, Tryz.ntmps54
 go_wp2
 go_loop [10, 24] (fun p i => ∃ j : Nat, j ≤ Y % 64 ∧ i = .int .u64 j ∧ p = .int .u64 (pw j)) (fun _ i => 64 - (intOf i).toNat)
 case atStart => exact ⟨0, Nat.zero_le _, rfl, rfl⟩
 case round =>
  obtain ⟨j, hj, rfl, rfl⟩ := hrel
  by_cases hlt : j < Y % 64
  ·have hp : pw j * 2 < 18446744073709551616 := z31 (by omega)
   go_wp2
   go_round
   case rel => exact ⟨j + 1, by omega, by go_num, by rw [z46 (show j < 63 by omega)]; go_num⟩
   case measure => simp [intOf]; omega
  ·obtain rfl : j = Y % 64 := by omega
   have hp := z6b (show Y % 64 < 64 by omega)
   have hq := z47 (show Y % 64 < 64 by omega)
   clear hlt hj
   go_wp2
   go_ret
   exact ⟨z20 (r_mul ha hb), rfl⟩
theorem ref_13 (a b : Int) (w : World) : Calls Tryz.prog 54 #[vI vK 13, vI vK a, vI vK b] w fun e w' => e = .returned (vI vK (z0i 13 a b)) ∧ w' = w := by
 rw [z8d]
 have ha := z0w a
 have hb := z0w b
 have l1 := z1v a
 have l2 := z1v b
 generalize uns a = X at *
 generalize uns b = Y at *
 go_enter Tryz.func54, Tryz.ntmps54
 go_wp2
 go_loop [10, 24] (fun p i => ∃ j : Nat, j ≤ Y % 64 ∧ i = .int .u64 j ∧ p = .int .u64 (pw j)) (fun _ i => 64 - (intOf i).toNat)
 case atStart => exact ⟨0, Nat.zero_le _, rfl, rfl⟩
 case round =>
  obtain ⟨j, hj, rfl, rfl⟩ := hrel
  by_cases hlt : j < Y % 64
  ·have hp : pw j * 2 < 18446744073709551616 := z31 (by omega)
   go_wp2
   go_round
   case rel => exact ⟨j + 1, by omega, by go_num, by rw [z46 (show j < 63 by omega)]; go_num⟩
   case measure => simp [intOf]; omega
  ·obtain rfl : j = Y % 64 := by omega
   have hp := z6b (show Y % 64 < 64 by omega)
   have hq := z47 (show Y % 64 < 64 by omega)
   clear hlt hj
   go_wp2
   go_ret
   exact ⟨z20 (r_neg ha), rfl⟩
theorem ref_10 (a b : Int) (w : World) : Calls Tryz.prog 54 #[vI vK 10, vI vK a, vI vK b] w fun e w' => e = .returned (vI vK (z0i 10 a b)) ∧ w' = w := by
 have hs : Hid (uns b % 64 = sixBits b) := z6a b
 rw [z1g]
 have ha := z0w a
 have hb := z0w b
 have l1 := z1v a
 have l2 := z1v b
 generalize uns a = X at *
 generalize uns b = Y at *
 go_enter Tryz.func54, Tryz.ntmps54
 go_wp2
 go_loop [10, 24] (fun p i => ∃ j : Nat, j ≤ Y % 64 ∧ i = .int .u64 j ∧ p = .int .u64 (pw j)) (fun _ i => 64 - (intOf i).toNat)
 case atStart => exact ⟨0, Nat.zero_le _, rfl, rfl⟩
 case round =>
  obtain ⟨j, hj, rfl, rfl⟩ := hrel
  by_cases hlt : j < Y % 64
  ·have hp : pw j * 2 < 18446744073709551616 := z31 (by omega)
   go_wp2
   go_round
   case rel => exact ⟨j + 1, by omega, by go_num, by rw [z46 (show j < 63 by omega)]; go_num⟩
   case measure => simp [intOf]; omega
  ·obtain rfl : j = Y % 64 := by omega
   have hp := z6b (show Y % 64 < 64 by omega)
   have hq := z47 (show Y % 64 < 64 by omega)
   clear hlt hj
   go_wp2
   go_ret
   exact ⟨z20 (r_lsh ha hs.out), rfl⟩
theorem ref_11 (a b : Int) (w : World) : Calls Tryz.prog 54 #[vI vK 11, vI vK a, vI vK b] w fun e w' => e = .returned (vI vK (z0i 11 a b)) ∧ w' = w := by
 have hs : Hid (uns b % 64 = sixBits b) := z6a b
 rw [z55]
 have ha := z0w a
 have hb := z0w b
 have l1 := z1v a
 have l2 := z1v b
 generalize uns a = X at *
 generalize uns b = Y at *
 go_enter Tryz.func54, Tryz.ntmps54
 go_wp2
 go_loop [10, 24] (fun p i => ∃ j : Nat, j ≤ Y % 64 ∧ i = .int .u64 j ∧ p = .int .u64 (pw j)) (fun _ i => 64 - (intOf i).toNat)
 case atStart => exact ⟨0, Nat.zero_le _, rfl, rfl⟩
 case round =>
  obtain ⟨j, hj, rfl, rfl⟩ := hrel
  by_cases hlt : j < Y % 64
  ·have hp : pw j * 2 < 18446744073709551616 := z31 (by omega)
   go_wp2
   go_round
   case rel => exact ⟨j + 1, by omega, by go_num, by rw [z46 (show j < 63 by omega)]; go_num⟩
   case measure => simp [intOf]; omega
  ·obtain rfl : j = Y % 64 := by omega
   have hp := z6b (show Y % 64 < 64 by omega)
   have hq := z47 (show Y % 64 < 64 by omega)
   clear hlt hj
   go_wp2
   go_ret
   exact ⟨z20 (r_rsh hs.out), rfl⟩
theorem ref_5z (a b : Int) (hb0 : b = 0) (w : World) : Calls Tryz.prog 54 #[vI vK 5, vI vK a, vI vK b] w fun e w' => e = .returned (vI vK (z0i 5 a b)) ∧ w' = w := by
 have hd : z0i 5 a b = 0 := by subst hb0; exact z8c a
 rw [hd]
 have HZ : Hid (uns b = 0) := by subst hb0; rfl
 clear hd hb0
 have ha := z0w a
 have hb := z0w b
 have l1 := z1v a
 have l2 := z1v b
 generalize uns a = X at *
 generalize uns b = Y at *
 go_enter Tryz.func54, Tryz.ntmps54
 go_wp2
 go_loop [10, 24] (fun p i => ∃ j : Nat, j ≤ Y % 64 ∧ i = .int .u64 j ∧ p = .int .u64 (pw j)) (fun _ i => 64 - (intOf i).toNat)
 case atStart => exact ⟨0, Nat.zero_le _, rfl, rfl⟩
 case round =>
  obtain ⟨j, hj, rfl, rfl⟩ := hrel
  by_cases hlt : j < Y % 64
  ·have hp : pw j * 2 < 18446744073709551616 := z31 (by omega)
   go_wp2
   go_round
   case rel => exact ⟨j + 1, by omega, by go_num, by rw [z46 (show j < 63 by omega)]; go_num⟩
   case measure => simp [intOf]; omega
  ·obtain rfl : j = Y % 64 := by omega
   have hp := z6b (show Y % 64 < 64 by omega)
   have hq := z47 (show Y % 64 < 64 by omega)
   clear hlt hj
   have hz := HZ.out
   go_wp2
   go_ret
   exact ⟨z20 rfl, rfl⟩
theorem ref_5 (a b : Int) (h0 : -9223372036854775808 ≤ b) (h1 : b ≤ 9223372036854775807) (hb0 : b ≠ 0) (w : World) : Calls Tryz.prog 54 #[vI vK 5, vI vK a, vI vK b] w fun e w' => e = .returned (vI vK (z0i 5 a b)) ∧ w' = w := by
 rw [zBj a hb0]
 have hz : uns b ≠ 0 := fun e => hb0 ((z83 h0 h1).1 e)
 have ha := z0w a
 have hb := z0w b
 have l1 := z1v a
 have l2 := z1v b
 generalize uns a = X at *
 generalize uns b = Y at *
 go_enter Tryz.func54, Tryz.ntmps54
 go_wp2
 go_loop [10, 24] (fun p i => ∃ j : Nat, j ≤ Y % 64 ∧ i = .int .u64 j ∧ p = .int .u64 (pw j)) (fun _ i => 64 - (intOf i).toNat)
 case atStart => exact ⟨0, Nat.zero_le _, rfl, rfl⟩
 case round =>
  obtain ⟨j, hj, rfl, rfl⟩ := hrel
  by_cases hlt : j < Y % 64
  ·have hp : pw j * 2 < 18446744073709551616 := z31 (by omega)
   go_wp2
   go_round
   case rel => exact ⟨j + 1, by omega, by go_num, by rw [z46 (show j < 63 by omega)]; go_num⟩
   case measure => simp [intOf]; omega
  ·obtain rfl : j = Y % 64 := by omega
   have hp := z6b (show Y % 64 < 64 by omega)
   have hq := z47 (show Y % 64 < 64 by omega)
   clear hlt hj
   go_wp2
   go_ret
   exact ⟨z20 (z3v _), rfl⟩
theorem ref_6z (a b : Int) (h0 : -9223372036854775808 ≤ a) (h1 : a ≤ 9223372036854775807) (hb0 : b = 0) (w : World) : Calls Tryz.prog 54 #[vI vK 6, vI vK a, vI vK b] w fun e w' => e = .returned (vI vK (z0i 6 a b)) ∧ w' = w := by
 have hd : z0i 6 a b = a := by subst hb0; exact z8b a
 rw [hd]
 have HZ : Hid (uns b = 0) := by subst hb0; rfl
 clear hd hb0
 have ha := z0w a
 have hb := z0w b
 have l1 := z1v a
 have l2 := z1v b
 generalize uns a = X at *
 generalize uns b = Y at *
 go_enter Tryz.func54, Tryz.ntmps54
 go_wp2
 go_loop [10, 24] (fun p i => ∃ j : Nat, j ≤ Y % 64 ∧ i = .int .u64 j ∧ p = .int .u64 (pw j)) (fun _ i => 64 - (intOf i).toNat)
 case atStart => exact ⟨0, Nat.zero_le _, rfl, rfl⟩
 case round =>
  obtain ⟨j, hj, rfl, rfl⟩ := hrel
  by_cases hlt : j < Y % 64
  ·have hp : pw j * 2 < 18446744073709551616 := z31 (by omega)
   go_wp2
   go_round
   case rel => exact ⟨j + 1, by omega, by go_num, by rw [z46 (show j < 63 by omega)]; go_num⟩
   case measure => simp [intOf]; omega
  ·obtain rfl : j = Y % 64 := by omega
   have hp := z6b (show Y % 64 < 64 by omega)
   have hq := z47 (show Y % 64 < 64 by omega)
   clear hlt hj
   have hz := HZ.out
   go_wp2
   go_ret
   exact ⟨z20 (r_mov h0 h1 ha), rfl⟩
theorem z7x  : (∀ (a b : Int) (h0 : -9223372036854775808 ≤ b) (h1 : b ≤ 9223372036854775807) (hb0 : b ≠ 0) (w : World), Calls Tryz.prog 54 #[vI vK 6, vI vK a, vI vK b] w fun e w' => e = .returned (vI vK (z0i 6 a b)) ∧ w' = w) ∧ (∀ (c a b : Int) (hc : c < 1 ∨ 13 < c) (w : World), Calls Tryz.prog 54 #[vI vK c, vI vK a, vI vK b] w fun e w' => e = .returned (vI vK (z0i c a b)) ∧ w' = w) := by
 refine ⟨?_, ?_⟩
 intro a b h0 h1 hb0 w
 rw [zBi a hb0]
 have hz : uns b ≠ 0 := fun e => hb0 ((z83 h0 h1).1 e)
 rotate_left
 intro c a b hc w
 rw [zGh a b hc]
 rotate_left
 all_goals
  have ha := z0w a
  have hb := z0w b
  have l1 := z1v a
  have l2 := z1v b
  generalize uns a = X at *
  generalize uns b = Y at *
 all_goals
  go_enter Tryz.func54, Tryz.ntmps54
  go_wp2
  go_loop [10, 24] (fun p i => ∃ j : Nat, j ≤ Y % 64 ∧ i = .int .u64 j ∧ p = .int .u64 (pw j)) (fun _ i => 64 - (intOf i).toNat)
  case atStart => exact ⟨0, Nat.zero_le _, rfl, rfl⟩
  case round =>
   obtain ⟨j, hj, rfl, rfl⟩ := hrel
   by_cases hlt : j < Y % 64
   ·have hp : pw j * 2 < 18446744073709551616 := z31 (by omega)
    go_wp2
    go_round
    case rel => exact ⟨j + 1, by omega, by go_num, by rw [z46 (show j < 63 by omega)]; go_num⟩
    case measure => simp [intOf]; omega
   ·obtain rfl : j = Y % 64 := by omega
    have hp := z6b (show Y % 64 < 64 by omega)
    have hq := z47 (show Y % 64 < 64 by omega)
    clear hlt hj
    go_wp2
    go_ret
    exact ⟨z20 rfl, rfl⟩
def ref_6 := z7x.1
def ref_no := z7x.2
theorem ref_7 (a b : Int) (w : World) : Calls Tryz.prog 54 #[vI vK 7, vI vK a, vI vK b] w fun e w' => e = .returned (vI vK (z0i 7 a b)) ∧ w' = w := by
 rw [z9c]
 have ha := z0w a
 have hb := z0w b
 have l1 := z1v a
 have l2 := z1v b
 generalize uns a = X at *
 generalize uns b = Y at *
 have hZ : X &&& Y < 18446744073709551616 := Nat.and_lt_two_pow (n := 64) X l2
 obtain ⟨Z, hZe⟩ : ∃ Z, Hid (Z = X &&& Y) := ⟨_, rfl⟩
 rw [← hZe.out] at hZ ⊢
 go_enter Tryz.func54, Tryz.ntmps54
 go_wp2
 go_loop [10, 24] (fun p i => ∃ j : Nat, j ≤ Y % 64 ∧ i = .int .u64 j ∧ p = .int .u64 (pw j)) (fun _ i => 64 - (intOf i).toNat)
 case atStart => exact ⟨0, Nat.zero_le _, rfl, rfl⟩
 case round =>
  obtain ⟨j, hj, rfl, rfl⟩ := hrel
  by_cases hlt : j < Y % 64
  ·have hp : pw j * 2 < 18446744073709551616 := z31 (by omega)
   go_wp2
   go_round
   case rel => exact ⟨j + 1, by omega, by go_num, by rw [z46 (show j < 63 by omega)]; go_num⟩
   case measure => simp [intOf]; omega
  ·obtain rfl : j = Y % 64 := by omega
   have hp := z6b (show Y % 64 < 64 by omega)
   have hq := z47 (show Y % 64 < 64 by omega)
   clear hlt hj
   go_wp2
   go_loop [7, 8, 11, 12, 66] (fun x y z p i => ∃ j : Nat, j ≤ 64 ∧ i = vI vK j ∧ x = .int .u64 (hi X j) ∧ y = .int .u64 (hi Y j) ∧ p = .int .u64 (pw j) ∧ z = .int .u64 (lo Z j)) (fun _ _ _ _ i => 64 - (intOf i).toNat)
   case atStart => exact ⟨0, Nat.zero_le _, rfl, by rw [z7i], by rw [z7i], rfl, by rw [zF3]; rfl⟩
   case round =>
    obtain ⟨j, hj, rfl, rfl, rfl, rfl, rfl⟩ := hrel
    by_cases hlt : j < 64
    ·have hx := Nat.mod_two_eq_zero_or_one (hi X j)
     have hy := Nat.mod_two_eq_zero_or_one (hi Y j)
     have x1 := zIf X j
     have y1 := zIf Y j
     have hro := zF5 (z := Z) hlt
     have hpw := zEd j
     rcases hx with hx | hx <;> rcases hy with hy | hy
     ·have hbt : Hid (lo Z (j + 1) = lo Z j) := by
       have t := zBp (x := X) (y := Y) hlt hx hy
       rw [← hZe.out] at t
       show lo Z (j + 1) = lo Z j
       rw [t]; simp
      have hxi : (hi X j : Int) % 2 = 0 := by omega
      have hyi : (hi Y j : Int) % 2 = 0 := by omega
      go_wp2
      go_round
      case rel => exact ⟨j + 1, by omega, by go_num, by rw [z21]; go_num, by rw [z21]; go_num, rfl, by rw [hbt.out]⟩
      case measure => simp [intOf]; omega
     ·have hbt : Hid (lo Z (j + 1) = lo Z j) := by
       have t := zBp (x := X) (y := Y) hlt hx hy
       rw [← hZe.out] at t
       show lo Z (j + 1) = lo Z j
       rw [t]; simp
      have hxi : (hi X j : Int) % 2 = 0 := by omega
      have hyi : (hi Y j : Int) % 2 = 1 := by omega
      go_wp2
      go_round
      case rel => exact ⟨j + 1, by omega, by go_num, by rw [z21]; go_num, by rw [z21]; go_num, rfl, by rw [hbt.out]⟩
      case measure => simp [intOf]; omega
     ·have hbt : Hid (lo Z (j + 1) = lo Z j) := by
       have t := zBp (x := X) (y := Y) hlt hx hy
       rw [← hZe.out] at t
       show lo Z (j + 1) = lo Z j
       rw [t]; simp
      have hxi : (hi X j : Int) % 2 = 1 := by omega
      have hyi : (hi Y j : Int) % 2 = 0 := by omega
      go_wp2
      go_round
      case rel => exact ⟨j + 1, by omega, by go_num, by rw [z21]; go_num, by rw [z21]; go_num, rfl, by rw [hbt.out]⟩
      case measure => simp [intOf]; omega
     ·have hbt : Hid (lo Z (j + 1) = lo Z j + pw j) := by
       have t := zBp (x := X) (y := Y) hlt hx hy
       rw [← hZe.out] at t
       show lo Z (j + 1) = lo Z j + pw j
       rw [t]; simp
      have hxi : (hi X j : Int) % 2 = 1 := by omega
      have hyi : (hi Y j : Int) % 2 = 1 := by omega
      go_wp2
      go_round
      case rel => exact ⟨j + 1, by omega, by go_num, by rw [z21]; go_num, by rw [z21]; go_num, rfl, by rw [hbt.out]; go_num⟩
      case measure => simp [intOf]; omega
    ·obtain rfl : j = 64 := by omega
     go_wp2
     go_ret
     exact ⟨z20 (by rw [zLf hZ]), rfl⟩
theorem ref_8 (a b : Int) (w : World) : Calls Tryz.prog 54 #[vI vK 8, vI vK a, vI vK b] w fun e w' => e = .returned (vI vK (z0i 8 a b)) ∧ w' = w := by
 rw [zBh]
 have ha := z0w a
 have hb := z0w b
 have l1 := z1v a
 have l2 := z1v b
 generalize uns a = X at *
 generalize uns b = Y at *
 have hZ : X ||| Y < 18446744073709551616 := Nat.or_lt_two_pow (n := 64) l1 l2
 obtain ⟨Z, hZe⟩ : ∃ Z, Hid (Z = X ||| Y) := ⟨_, rfl⟩
 rw [← hZe.out] at hZ ⊢
 go_enter Tryz.func54, Tryz.ntmps54
 go_wp2
 go_loop [10, 24] (fun p i => ∃ j : Nat, j ≤ Y % 64 ∧ i = .int .u64 j ∧ p = .int .u64 (pw j)) (fun _ i => 64 - (intOf i).toNat)
 case atStart => exact ⟨0, Nat.zero_le _, rfl, rfl⟩
 case round =>
  obtain ⟨j, hj, rfl, rfl⟩ := hrel
  by_cases hlt : j < Y % 64
  ·have hp : pw j * 2 < 18446744073709551616 := z31 (by omega)
   go_wp2
   go_round
   case rel => exact ⟨j + 1, by omega, by go_num, by rw [z46 (show j < 63 by omega)]; go_num⟩
   case measure => simp [intOf]; omega
  ·obtain rfl : j = Y % 64 := by omega
   have hp := z6b (show Y % 64 < 64 by omega)
   have hq := z47 (show Y % 64 < 64 by omega)
   clear hlt hj
   go_wp2
   go_loop [7, 8, 11, 12, 66] (fun x y z p i => ∃ j : Nat, j ≤ 64 ∧ i = vI vK j ∧ x = .int .u64 (hi X j) ∧ y = .int .u64 (hi Y j) ∧ p = .int .u64 (pw j) ∧ z = .int .u64 (lo Z j)) (fun _ _ _ _ i => 64 - (intOf i).toNat)
   case atStart => exact ⟨0, Nat.zero_le _, rfl, by rw [z7i], by rw [z7i], rfl, by rw [zF3]; rfl⟩
   case round =>
    obtain ⟨j, hj, rfl, rfl, rfl, rfl, rfl⟩ := hrel
    by_cases hlt : j < 64
    ·have hx := Nat.mod_two_eq_zero_or_one (hi X j)
     have hy := Nat.mod_two_eq_zero_or_one (hi Y j)
     have x1 := zIf X j
     have y1 := zIf Y j
     have hro := zF5 (z := Z) hlt
     have hpw := zEd j
     rcases hx with hx | hx <;> rcases hy with hy | hy
     ·have hbt : Hid (lo Z (j + 1) = lo Z j) := by
       have t := zGl (x := X) (y := Y) hlt hx hy
       rw [← hZe.out] at t
       show lo Z (j + 1) = lo Z j
       rw [t]; simp
      have hxi : (hi X j : Int) % 2 = 0 := by omega
      have hyi : (hi Y j : Int) % 2 = 0 := by omega
      go_wp2
      go_round
      case rel => exact ⟨j + 1, by omega, by go_num, by rw [z21]; go_num, by rw [z21]; go_num, rfl, by rw [hbt.out]⟩
      case measure => simp [intOf]; omega
     ·have hbt : Hid (lo Z (j + 1) = lo Z j + pw j) := by
       have t := zGl (x := X) (y := Y) hlt hx hy
       rw [← hZe.out] at t
       show lo Z (j + 1) = lo Z j + pw j
       rw [t]; simp
      have hxi : (hi X j : Int) % 2 = 0 := by omega
      have hyi : (hi Y j : Int) % 2 = 1 := by omega
      have m1 : max (0 : Int) 1 = 1 := by decide
      go_wp2
      go_round
      case rel => exact ⟨j + 1, by omega, by go_num, by rw [z21]; go_num, by rw [z21]; go_num, rfl, by rw [hbt.out]; go_num⟩
      case measure => simp [intOf]; omega
     ·have hbt : Hid (lo Z (j + 1) = lo Z j + pw j) := by
       have t := zGl (x := X) (y := Y) hlt hx hy
       rw [← hZe.out] at t
       show lo Z (j + 1) = lo Z j + pw j
       rw [t]; simp
      have hxi : (hi X j : Int) % 2 = 1 := by omega
      have hyi : (hi Y j : Int) % 2 = 0 := by omega
      have m1 : max (1 : Int) 0 = 1 := by decide
      go_wp2
      go_round
      case rel => exact ⟨j + 1, by omega, by go_num, by rw [z21]; go_num, by rw [z21]; go_num, rfl, by rw [hbt.out]; go_num⟩
      case measure => simp [intOf]; omega
     ·have hbt : Hid (lo Z (j + 1) = lo Z j + pw j) := by
       have t := zGl (x := X) (y := Y) hlt hx hy
       rw [← hZe.out] at t
       show lo Z (j + 1) = lo Z j + pw j
       rw [t]; simp
      have hxi : (hi X j : Int) % 2 = 1 := by omega
      have hyi : (hi Y j : Int) % 2 = 1 := by omega
      go_wp2
      go_round
      case rel => exact ⟨j + 1, by omega, by go_num, by rw [z21]; go_num, by rw [z21]; go_num, rfl, by rw [hbt.out]; go_num⟩
      case measure => simp [intOf]; omega
    ·obtain rfl : j = 64 := by omega
     go_wp2
     go_ret
     exact ⟨z20 (by rw [zLf hZ]), rfl⟩
theorem ref_9 (a b : Int) (w : World) : Calls Tryz.prog 54 #[vI vK 9, vI vK a, vI vK b] w fun e w' => e = .returned (vI vK (z0i 9 a b)) ∧ w' = w := by
 rw [zBg]
 have ha := z0w a
 have hb := z0w b
 have l1 := z1v a
 have l2 := z1v b
 generalize uns a = X at *
 generalize uns b = Y at *
 have hZ : X ^^^ Y < 18446744073709551616 := Nat.xor_lt_two_pow (n := 64) l1 l2
 obtain ⟨Z, hZe⟩ : ∃ Z, Hid (Z = X ^^^ Y) := ⟨_, rfl⟩
 rw [← hZe.out] at hZ ⊢
 go_enter Tryz.func54, Tryz.ntmps54
 go_wp2
 go_loop [10, 24] (fun p i => ∃ j : Nat, j ≤ Y % 64 ∧ i = .int .u64 j ∧ p = .int .u64 (pw j)) (fun _ i => 64 - (intOf i).toNat)
 case atStart => exact ⟨0, Nat.zero_le _, rfl, rfl⟩
 case round =>
  obtain ⟨j, hj, rfl, rfl⟩ := hrel
  by_cases hlt : j < Y % 64
  ·have hp : pw j * 2 < 18446744073709551616 := z31 (by omega)
   go_wp2
   go_round
   case rel => exact ⟨j + 1, by omega, by go_num, by rw [z46 (show j < 63 by omega)]; go_num⟩
   case measure => simp [intOf]; omega
  ·obtain rfl : j = Y % 64 := by omega
   have hp := z6b (show Y % 64 < 64 by omega)
   have hq := z47 (show Y % 64 < 64 by omega)
   clear hlt hj
   go_wp2
   go_loop [7, 8, 11, 12, 66] (fun x y z p i => ∃ j : Nat, j ≤ 64 ∧ i = vI vK j ∧ x = .int .u64 (hi X j) ∧ y = .int .u64 (hi Y j) ∧ p = .int .u64 (pw j) ∧ z = .int .u64 (lo Z j)) (fun _ _ _ _ i => 64 - (intOf i).toNat)
   case atStart => exact ⟨0, Nat.zero_le _, rfl, by rw [z7i], by rw [z7i], rfl, by rw [zF3]; rfl⟩
   case round =>
    obtain ⟨j, hj, rfl, rfl, rfl, rfl, rfl⟩ := hrel
    by_cases hlt : j < 64
    ·have hx := Nat.mod_two_eq_zero_or_one (hi X j)
     have hy := Nat.mod_two_eq_zero_or_one (hi Y j)
     have x1 := zIf X j
     have y1 := zIf Y j
     have hro := zF5 (z := Z) hlt
     have hpw := zEd j
     rcases hx with hx | hx <;> rcases hy with hy | hy
     ·have hbt : Hid (lo Z (j + 1) = lo Z j) := by
       have t := zBo (x := X) (y := Y) hlt hx hy
       rw [← hZe.out] at t
       show lo Z (j + 1) = lo Z j
       rw [t]; simp
      have hxi : (hi X j : Int) % 2 = 0 := by omega
      have hyi : (hi Y j : Int) % 2 = 0 := by omega
      go_wp2
      go_round
      case rel => exact ⟨j + 1, by omega, by go_num, by rw [z21]; go_num, by rw [z21]; go_num, rfl, by rw [hbt.out]⟩
      case measure => simp [intOf]; omega
     ·have hbt : Hid (lo Z (j + 1) = lo Z j + pw j) := by
       have t := zBo (x := X) (y := Y) hlt hx hy
       rw [← hZe.out] at t
       show lo Z (j + 1) = lo Z j + pw j
       rw [t]; simp
      have hxi : (hi X j : Int) % 2 = 0 := by omega
      have hyi : (hi Y j : Int) % 2 = 1 := by omega
      go_wp2
      go_round
      case rel => exact ⟨j + 1, by omega, by go_num, by rw [z21]; go_num, by rw [z21]; go_num, rfl, by rw [hbt.out]; go_num⟩
      case measure => simp [intOf]; omega
     ·have hbt : Hid (lo Z (j + 1) = lo Z j + pw j) := by
       have t := zBo (x := X) (y := Y) hlt hx hy
       rw [← hZe.out] at t
       show lo Z (j + 1) = lo Z j + pw j
       rw [t]; simp
      have hxi : (hi X j : Int) % 2 = 1 := by omega
      have hyi : (hi Y j : Int) % 2 = 0 := by omega
      go_wp2
      go_round
      case rel => exact ⟨j + 1, by omega, by go_num, by rw [z21]; go_num, by rw [z21]; go_num, rfl, by rw [hbt.out]; go_num⟩
      case measure => simp [intOf]; omega
     ·have hbt : Hid (lo Z (j + 1) = lo Z j) := by
       have t := zBo (x := X) (y := Y) hlt hx hy
       rw [← hZe.out] at t
       show lo Z (j + 1) = lo Z j
       rw [t]; simp
      have hxi : (hi X j : Int) % 2 = 1 := by omega
      have hyi : (hi Y j : Int) % 2 = 1 := by omega
      go_wp2
      go_round
      case rel => exact ⟨j + 1, by omega, by go_num, by rw [z21]; go_num, by rw [z21]; go_num, rfl, by rw [hbt.out]⟩
      case measure => simp [intOf]; omega
    ·obtain rfl : j = 64 := by omega
     go_wp2
     go_ret
     exact ⟨z20 (by rw [zLf hZ]), rfl⟩
theorem ref_12 (a b : Int) (h0 : -9223372036854775808 ≤ a) (h1 : a ≤ 9223372036854775807) (w : World) : Calls Tryz.prog 54 #[vI vK 12, vI vK a, vI vK b] w fun e w' => e = .returned (vI vK (z0i 12 a b)) ∧ w' = w := by
 have hs : Hid (uns b % 64 = sixBits b) := z6a b
 rw [z54]
 have ha := z0w a
 have hb := z0w b
 have l1 := z1v a
 have l2 := z1v b
 generalize uns a = X at *
 generalize uns b = Y at *
 go_enter Tryz.func54, Tryz.ntmps54
 go_wp2
 go_loop [10, 24] (fun p i => ∃ j : Nat, j ≤ Y % 64 ∧ i = .int .u64 j ∧ p = .int .u64 (pw j)) (fun _ i => 64 - (intOf i).toNat)
 case atStart => exact ⟨0, Nat.zero_le _, rfl, rfl⟩
 case round =>
  obtain ⟨j, hj, rfl, rfl⟩ := hrel
  by_cases hlt : j < Y % 64
  ·have hp : pw j * 2 < 18446744073709551616 := z31 (by omega)
   go_wp2
   go_round
   case rel => exact ⟨j + 1, by omega, by go_num, by rw [z46 (show j < 63 by omega)]; go_num⟩
   case measure => simp [intOf]; omega
  ·obtain rfl : j = Y % 64 := by omega
   have hp := z6b (show Y % 64 < 64 by omega)
   have hq := z47 (show Y % 64 < 64 by omega)
   clear hlt hj
   go_wp2
   go_loop [1, 112] (fun x i => ∃ j : Nat, j ≤ Y % 64 ∧ i = .int .u64 j ∧ x = vI vK (sh a j)) (fun _ i => 64 - (intOf i).toNat)
   case atStart => exact ⟨0, Nat.zero_le _, rfl, by rw [zJk]⟩
   case round =>
    obtain ⟨j, hj, rfl, rfl⟩ := hrel
    have hbd := sh_bd h0 h1 j
    have hsc : Hid (sh a (j + 1) = sh a j / 2) := zJl a j
    by_cases hlt : j < Y % 64
    ·generalize sh a j = s at *
     by_cases hn : s < 0
     ·rcases Int.emod_two_eq s with he | he
      ·have ht := z9u he
       have hm := zHf he
       go_wp2
       go_round
       case rel => exact ⟨j + 1, by omega, by go_num, by rw [hsc.out]⟩
       case measure => simp [intOf]; omega
      ·have ht := zBz hn he
       have hm := zJh hn he
       go_wp2
       go_round
       case rel => exact ⟨j + 1, by omega, by go_num, by rw [hsc.out]⟩
       case measure => simp [intOf]; omega
     ·have hn2 : 0 ≤ s := by omega
      go_wp2
      go_round
      case rel => exact ⟨j + 1, by omega, by go_num, by rw [hsc.out]⟩
      case measure => simp [intOf]; omega
    ·obtain rfl : j = Y % 64 := by omega
     go_wp2
     go_ret
     exact ⟨z20 (by rw [hs.out]; rfl), rfl⟩
theorem z2h (c a b : Int) (h0 : -9223372036854775808 ≤ a) (h1 : a ≤ 9223372036854775807) (k0 : -9223372036854775808 ≤ b) (k1 : b ≤ 9223372036854775807) (w : World) : Calls Tryz.prog 54 #[vI vK c, vI vK a, vI vK b] w fun e w' => e = .returned (vI vK (z0i c a b)) ∧ w' = w := by
 by_cases hc : c < 1 ∨ 13 < c
 ·exact ref_no c a b hc w
 ·have h : c = 1 ∨ c = 2 ∨ c = 3 ∨ c = 4 ∨ c = 5 ∨ c = 6 ∨ c = 7 ∨ c = 8 ∨ c = 9 ∨ c = 10 ∨ c = 11 ∨ c = 12 ∨ c = 13 := by omega
  rcases h with rfl | rfl | rfl | rfl | rfl | rfl | rfl | rfl | rfl | rfl | rfl | rfl | rfl
  ·exact ref_1 a b k0 k1 w
  ·exact ref_2 a b w
  ·exact ref_3 a b w
  ·exact ref_4 a b w
  ·by_cases hb : b = 0
   ·exact ref_5z a b hb w
   ·exact ref_5 a b k0 k1 hb w
  ·by_cases hb : b = 0
   ·exact ref_6z a b h0 h1 hb w
   ·exact ref_6 a b k0 k1 hb w
  ·exact ref_7 a b w
  ·exact ref_8 a b w
  ·exact ref_9 a b w
  ·exact ref_10 a b w
  ·exact ref_11 a b w
  ·exact ref_12 a b h0 h1 w
  ·exact ref_13 a b w

theorem z10 (n : Int) (h1 : n ≤ 9223372036854775807) (w : World) : Calls Tryz.prog 53 #[vI vK n] w fun e w' => e = .returned (vI vK (z4d n)) ∧ w' = w := by
 go_enter Tryz.func53, Tryz.ntmps53
 go_wp2
 go_loop [3] (fun f => ∃ j : Nat, j ≤ lenV n.toNat ∧ f = vI vK (ones j)) (fun f => 9223372036854775808 - (intOf f).toNat)
 case atStart => exact ⟨0, Nat.zero_le _, rfl⟩
 case round =>
  obtain ⟨j, hj, rfl⟩ := hrel
  have hs : Hid (ones (j + 1) = ones j * 2 + 1) := zL6 j
  by_cases hlt : (ones j : Int) < n
  ·have hj2 : j + 1 ≤ lenV n.toNat := zPc (by omega)
   have hb := zAx (j := j + 1) (by have := len_63 h1; omega)
   have hb2 : ones j * 2 + 1 ≤ 9223372036854775807 := by rw [hs.out] at hb; exact hb
   clear hb
   go_wp2
   go_round
   case rel => exact ⟨j + 1, hj2, by rw [hs.out]; go_num⟩
   case measure => simp [intOf]; omega
  ·have hj2 : Hid (j = lenV n.toNat) := zPb hj hlt
   go_wp2
   go_ret
   exact ⟨z20 (by rw [hj2.out]; rfl), rfl⟩
set_option linter.unusedVariables false

theorem z43 (n : Int) (w : World) : Calls Tryz.prog 8 #[vI vK n] w fun e w' => e = .returned (.agg #[vI vK n, vI vK n]) ∧ w' = w.alloc (.cells #[vI vK n, vI vK n] 24) := by
 go_enter Tryz.func8, Tryz.ntmps8
 go_wp2
 exact bodyPost_ret (v := .agg #[vI vK n, vI vK n]) (by simp [results, Tryz.results8, go_sem]) rfl ⟨rfl, rfl⟩
theorem z5m (al ah bl bh : Int) (w : World) : Calls Tryz.prog 10 #[.agg #[vI vK al, vI vK ah], .agg #[vI vK bl, vI vK bh]] w fun e w' => e = .returned (.agg #[vI vK (min al bl), vI vK (max ah bh)]) ∧ w' = ((w.alloc (.cells #[vI vK al, vI vK ah] 24)).alloc (.cells #[vI vK bl, vI vK bh] 24)).alloc (.cells #[vI vK (min al bl), vI vK (max ah bh)] 24) := by
 go_enter Tryz.func10, Tryz.ntmps10
 go_wp2
 exact bodyPost_ret (v := .agg #[vI vK (min al bl), vI vK (max ah bh)]) (by simp [results, Tryz.results10, go_sem]) rfl ⟨rfl, rfl⟩
theorem zA6 (al ah bl bh : Int) : (∀ (h : max al bl ≤ min ah bh) (w : World), Calls Tryz.prog 49 #[.agg #[vI vK al, vI vK ah], .agg #[vI vK bl, vI vK bh]] w fun e w' => e = .returned (.tuple #[.agg #[vI vK (max al bl), vI vK (min ah bh)], .bool true]) ∧ Below w.heap.size w w') ∧ (∀ (h : min ah bh < max al bl) (w : World), Calls Tryz.prog 49 #[.agg #[vI vK al, vI vK ah], .agg #[vI vK bl, vI vK bh]] w fun e w' => e = .returned (.tuple #[.agg #[vI vK 0, vI vK 0], .bool false]) ∧ Below w.heap.size w w') := by
 refine ⟨?_, ?_⟩
 all_goals
  intro h w
 have _h : decide (min ah bh < max al bl) = false := by simp; omega
 rotate_left
 have _h : decide (min ah bh < max al bl) = true := by simp; omega
 rotate_left
 all_goals
  go_enter Tryz.func49, Tryz.ntmps49
  go_wp2_with fail
  all_goals exact bodyPost_ret (by simp [results, Tryz.results49, go_sem]) rfl ⟨rfl, by repeat' first | exact bF _ _ | refine bA ?_ ?_ _ | refine bS ?_ ?_ _ | refine bD ?_ | refine below_drewN ?_ _ | (simp; done) | (simp; omega) | (simp [z00]; done) | (simp [z00]; omega) | omega⟩
def z44 := fun al ah bl bh => (@zA6 al ah bl bh).1
def z4x := fun al ah bl bh => (@zA6 al ah bl bh).2
theorem z4u (a b : Int) (pa : -9223372036854775808 ≤ a) (qa : a ≤ 9223372036854775807) (pb : -9223372036854775808 ≤ b) (qb : b ≤ 9223372036854775807) : (∀ (h1 : 0 < b) (h2 : 9223372036854775807 - b < a) (w : World), Calls Tryz.prog 51 #[vI vK a, vI vK b] w fun e w' => e = .returned (.tuple #[vI vK 0, .bool false]) ∧ w' = w) ∧ (∀ (h1 : b < 0) (h2 : a < -9223372036854775808 - b) (w : World), Calls Tryz.prog 51 #[vI vK a, vI vK b] w fun e w' => e = .returned (.tuple #[vI vK 0, .bool false]) ∧ w' = w) ∧ (∀ (h1 : 0 < b) (h2 : a ≤ 9223372036854775807 - b) (w : World), Calls Tryz.prog 51 #[vI vK a, vI vK b] w fun e w' => e = .returned (.tuple #[vI vK (a + b), .bool true]) ∧ w' = w) ∧ (∀ (h1 : b < 0) (h2 : -9223372036854775808 - b ≤ a) (w : World), Calls Tryz.prog 51 #[vI vK a, vI vK b] w fun e w' => e = .returned (.tuple #[vI vK (a + b), .bool true]) ∧ w' = w) ∧ (∀ (h1 : b = 0) (w : World), Calls Tryz.prog 51 #[vI vK a, vI vK b] w fun e w' => e = .returned (.tuple #[vI vK (wrap64 (a + b)), .bool true]) ∧ w' = w) := by
 refine ⟨?_, ?_, ?_, ?_, ?_⟩
 intro h1 h2 w
 have _x : decide (9223372036854775807 - b < a) = true := by simp; omega
 rotate_left
 intro h1 h2 w
 have _y : decide (0 < b) = false := by simp; omega
 have _x : decide (a < -9223372036854775808 - b) = true := by simp; omega
 rotate_left
 intro h1 h2 w
 have _x : decide (9223372036854775807 - b < a) = false := by simp; omega
 have _y : decide (b < 0) = false := by simp; omega
 rotate_left
 intro h1 h2 w
 have _y : decide (0 < b) = false := by simp; omega
 have _x : decide (a < -9223372036854775808 - b) = false := by simp; omega
 rotate_left
 intro h1 w
 have _y : decide (0 < b) = false := by simp; omega
 have _x : decide (b < 0) = false := by simp; omega
 clear h1
 rotate_left
 all_goals
  go_enter Tryz.func51, Tryz.ntmps51
  go_wp2
  go_ret2
  exact ⟨rfl, rfl⟩
def zSu := fun a b pa qa pb qb => (@z4u a b pa qa pb qb).1
def zSt := fun a b pa qa pb qb => (@z4u a b pa qa pb qb).2.1
def zOx := fun a b pa qa pb qb => (@z4u a b pa qa pb qb).2.2.1
def zOz := fun a b pa qa pb qb => (@z4u a b pa qa pb qb).2.2.2.1
def zOy := fun a b pa qa pb qb => (@z4u a b pa qa pb qb).2.2.2.2
theorem z4t (a b : Int) (pa : -9223372036854775808 ≤ a) (qa : a ≤ 9223372036854775807) (pb : -9223372036854775808 ≤ b) (qb : b ≤ 9223372036854775807) : (∀ (h1 : 0 < b) (h2 : a < -9223372036854775808 + b) (w : World), Calls Tryz.prog 52 #[vI vK a, vI vK b] w fun e w' => e = .returned (.tuple #[vI vK 0, .bool false]) ∧ w' = w) ∧ (∀ (h1 : b < 0) (h2 : 9223372036854775807 + b < a) (w : World), Calls Tryz.prog 52 #[vI vK a, vI vK b] w fun e w' => e = .returned (.tuple #[vI vK 0, .bool false]) ∧ w' = w) ∧ (∀ (h1 : 0 < b) (h2 : -9223372036854775808 + b ≤ a) (w : World), Calls Tryz.prog 52 #[vI vK a, vI vK b] w fun e w' => e = .returned (.tuple #[vI vK (a - b), .bool true]) ∧ w' = w) ∧ (∀ (h1 : b < 0) (h2 : a ≤ 9223372036854775807 + b) (w : World), Calls Tryz.prog 52 #[vI vK a, vI vK b] w fun e w' => e = .returned (.tuple #[vI vK (a - b), .bool true]) ∧ w' = w) ∧ (∀ (h1 : b = 0) (w : World), Calls Tryz.prog 52 #[vI vK a, vI vK b] w fun e w' => e = .returned (.tuple #[vI vK (wrap64 (a - b)), .bool true]) ∧ w' = w) := by
 refine ⟨?_, ?_, ?_, ?_, ?_⟩
 intro h1 h2 w
 have _x : decide (a < -9223372036854775808 + b) = true := by simp; omega
 rotate_left
 intro h1 h2 w
 have _y : decide (0 < b) = false := by simp; omega
 have _x : decide (9223372036854775807 + b < a) = true := by simp; omega
 rotate_left
 intro h1 h2 w
 have _x : decide (a < -9223372036854775808 + b) = false := by simp; omega
 have _y : decide (b < 0) = false := by simp; omega
 rotate_left
 intro h1 h2 w
 have _y : decide (0 < b) = false := by simp; omega
 have _x : decide (9223372036854775807 + b < a) = false := by simp; omega
 rotate_left
 intro h1 w
 have _y : decide (0 < b) = false := by simp; omega
 have _x : decide (b < 0) = false := by simp; omega
 clear h1
 rotate_left
 all_goals
  go_enter Tryz.func52, Tryz.ntmps52
  go_wp2
  go_ret2
  exact ⟨rfl, rfl⟩
def zRc := fun a b pa qa pb qb => (@z4t a b pa qa pb qb).1
def zRb := fun a b pa qa pb qb => (@z4t a b pa qa pb qb).2.1
def zNf := fun a b pa qa pb qb => (@z4t a b pa qa pb qb).2.2.1
def zNh := fun a b pa qa pb qb => (@z4t a b pa qa pb qb).2.2.2.1
def zNg := fun a b pa qa pb qb => (@z4t a b pa qa pb qb).2.2.2.2
theorem z2n (a b : Int) (pa : -9223372036854775808 ≤ a) (qa : a ≤ 9223372036854775807) (pb : -9223372036854775808 ≤ b) (qb : b ≤ 9223372036854775807) (w : World) : Calls Tryz.prog 51 #[vI vK a, vI vK b] w fun e w' => e = .returned (.tuple #[vI vK (if fits (a + b) then a + b else 0), .bool (fits (a + b))]) ∧ w' = w := by
 by_cases h0 : b = 0
 ·have hf : fits (a + b) = true := (z28 _).2 (by omega)
  rw [hf]
  have e := zOy a b pa qa pb qb h0 w
  rw [z0e (by omega) (by omega)] at e
  exact e
 ·by_cases h1 : 0 < b
  ·by_cases h2 : 9223372036854775807 - b < a
   ·have hf : fits (a + b) = false := (z9a _).2 (by omega)
    rw [hf]
    exact zSu a b pa qa pb qb h1 h2 w
   ·have hf : fits (a + b) = true := (z28 _).2 (by omega)
    rw [hf]
    exact zOx a b pa qa pb qb h1 (by omega) w
  ·by_cases h2 : a < -9223372036854775808 - b
   ·have hf : fits (a + b) = false := (z9a _).2 (by omega)
    rw [hf]
    exact zSt a b pa qa pb qb (by omega) h2 w
   ·have hf : fits (a + b) = true := (z28 _).2 (by omega)
    rw [hf]
    exact zOz a b pa qa pb qb (by omega) (by omega) w
theorem z2l (a b : Int) (pa : -9223372036854775808 ≤ a) (qa : a ≤ 9223372036854775807) (pb : -9223372036854775808 ≤ b) (qb : b ≤ 9223372036854775807) (w : World) : Calls Tryz.prog 52 #[vI vK a, vI vK b] w fun e w' => e = .returned (.tuple #[vI vK (if fits (a - b) then a - b else 0), .bool (fits (a - b))]) ∧ w' = w := by
 by_cases h0 : b = 0
 ·have hf : fits (a - b) = true := (z28 _).2 (by omega)
  rw [hf]
  have e := zNg a b pa qa pb qb h0 w
  rw [z0e (by omega) (by omega)] at e
  exact e
 ·by_cases h1 : 0 < b
  ·by_cases h2 : a < -9223372036854775808 + b
   ·have hf : fits (a - b) = false := (z9a _).2 (by omega)
    rw [hf]
    exact zRc a b pa qa pb qb h1 h2 w
   ·have hf : fits (a - b) = true := (z28 _).2 (by omega)
    rw [hf]
    exact zNf a b pa qa pb qb h1 (by omega) w
  ·by_cases h2 : 9223372036854775807 + b < a
   ·have hf : fits (a - b) = false := (z9a _).2 (by omega)
    rw [hf]
    exact zRb a b pa qa pb qb (by omega) h2 w
   ·have hf : fits (a - b) = true := (z28 _).2 (by omega)
    rw [hf]
    exact zNh a b pa qa pb qb (by omega) (by omega) w
theorem z1r (a k : Int) (pa : -9223372036854775808 ≤ a) (qa : a ≤ 9223372036854775807) (pk : -9223372036854775808 ≤ k) (qk : k ≤ 9223372036854775807) (w : World) : Calls Tryz.prog 55 #[vI vK a, vI vK k] w fun e w' => e = .returned (vI vK (a / 2 ^ sixBits k)) ∧ w' = w := by
 rw [← z54]
 go_enter Tryz.func55, Tryz.ntmps55
 go_wp2_with (go_at_call 54; refine (z2h _ _ _ pa qa pk qk _).mono ?_; rintro e w' ⟨rfl, rfl⟩)
 go_ret
 exact ⟨rfl, rfl⟩
end Go.Proofs.YteenhdoaminkeaaGreatDoor
