/-
  What each function of package op, and of the document's own answer to chapter 1, returns: as functions on integers; the world is as it was. Conditions: the arguments are numbers of 64 bits.
-/
import Derived.Test.YtegeiicginpdbaaDoorRows
import Derived.Test.YtegeiicginpdbaaDoorOpNum
import Derived.WalkKit
import Derived.ProofKit
import Derived.OpenShut
import Derived.WalkLawsBesides
namespace Go.Proofs.YtegeiicginpdbaaDoor
open Go.ChangeShapes Go.WideShapes Go.ChangeAt Go.RowKit

theorem ret_i64 {a b : Int} (h : a = b) : Ending.returned (.int .i64 a) = .returned (.int .i64 b) := by rw [h]
theorem ret_bool {a b : Bool} (h : a = b) : Ending.returned (.bool a) = .returned (.bool b) := by rw [h]

theorem asks_any (c : Int) (w : World) :
    Calls Tryd.prog 90 #[.int .i64 c] w fun e w' => e = .returned (.bool (decide (15 ≤ c) && decide (c ≤ 24))) ∧ w' = w := by
  by_cases h1 : 15 ≤ c
  · go_enter Tryd.func90, Tryd.ntmps90
    go_wp2
    go_ret
    exact ⟨ret_bool (by simp [h1]), rfl⟩
  · have h2 : decide (15 ≤ c) = false := by simpa using h1
    rw [h2, Bool.false_and]
    go_enter Tryd.func90, Tryd.ntmps90
    go_wp2
    go_ret
    exact ⟨rfl, rfl⟩
theorem in_any (n l h : Int) (w : World) :
    Calls Tryd.prog 33 #[.int .i64 n, .int .i64 l, .int .i64 h] w fun e w' => e = .returned (.bool (decide (l ≤ n) && decide (n ≤ h))) ∧ w' = w := by
  by_cases h1 : l ≤ n
  · go_enter Tryd.func33, Tryd.ntmps33
    go_wp2
    go_ret
    exact ⟨ret_bool (by simp [h1]), rfl⟩
  · have h2 : decide (l ≤ n) = false := by simpa using h1
    rw [h2, Bool.false_and]
    go_enter Tryd.func33, Tryd.ntmps33
    go_wp2
    go_ret
    exact ⟨rfl, rfl⟩
theorem refAsks_any (c : Int) (w : World) :
    Calls Tryd.prog 21 #[.int .i64 c] w fun e w' => e = .returned (.bool (decide (15 ≤ c) && decide (c ≤ 24))) ∧ w' = w := by
  go_enter Tryd.func21, Tryd.ntmps21
  go_wp2_with (go_at_call 33; refine (in_any _ _ _ _).mono ?_; rintro e w' ⟨rfl, rfl⟩)
  go_ret
  exact ⟨rfl, rfl⟩

/-! ### Does, by its code -/
theorem does_1 (a b : Int) (w : World) : Calls Tryd.prog 76 #[.int .i64 1, .int .i64 a, .int .i64 b] w fun e w' => e = .returned (.int .i64 (doesV 1 a b)) ∧ w' = w := by
  rw [doesV_1]
  go_enter Tryd.func76, Tryd.ntmps76
  go_wp2
  go_ret
  exact ⟨ret_i64 rfl, rfl⟩
theorem does_2 (a b : Int) (w : World) : Calls Tryd.prog 76 #[.int .i64 2, .int .i64 a, .int .i64 b] w fun e w' => e = .returned (.int .i64 (doesV 2 a b)) ∧ w' = w := by
  rw [doesV_2]
  go_enter Tryd.func76, Tryd.ntmps76
  go_wp2
  go_ret
  exact ⟨ret_i64 rfl, rfl⟩
theorem does_3 (a b : Int) (w : World) : Calls Tryd.prog 76 #[.int .i64 3, .int .i64 a, .int .i64 b] w fun e w' => e = .returned (.int .i64 (doesV 3 a b)) ∧ w' = w := by
  rw [doesV_3]
  go_enter Tryd.func76, Tryd.ntmps76
  go_wp2
  go_ret
  exact ⟨ret_i64 rfl, rfl⟩
theorem does_4 (a b : Int) (w : World) : Calls Tryd.prog 76 #[.int .i64 4, .int .i64 a, .int .i64 b] w fun e w' => e = .returned (.int .i64 (doesV 4 a b)) ∧ w' = w := by
  rw [doesV_4]
  go_enter Tryd.func76, Tryd.ntmps76
  go_wp2
  go_ret
  exact ⟨ret_i64 rfl, rfl⟩
theorem does_13 (a b : Int) (w : World) : Calls Tryd.prog 76 #[.int .i64 13, .int .i64 a, .int .i64 b] w fun e w' => e = .returned (.int .i64 (doesV 13 a b)) ∧ w' = w := by
  rw [doesV_13]
  go_enter Tryd.func76, Tryd.ntmps76
  go_wp2
  go_ret
  exact ⟨ret_i64 rfl, rfl⟩
theorem does_7 (a b : Int) (w : World) : Calls Tryd.prog 76 #[.int .i64 7, .int .i64 a, .int .i64 b] w fun e w' => e = .returned (.int .i64 (doesV 7 a b)) ∧ w' = w := by
  rw [doesV_7]
  go_enter Tryd.func76, Tryd.ntmps76
  go_wp2
  go_ret
  exact ⟨ret_i64 (bits_and_i64 a b), rfl⟩
theorem does_8 (a b : Int) (w : World) : Calls Tryd.prog 76 #[.int .i64 8, .int .i64 a, .int .i64 b] w fun e w' => e = .returned (.int .i64 (doesV 8 a b)) ∧ w' = w := by
  rw [doesV_8]
  go_enter Tryd.func76, Tryd.ntmps76
  go_wp2
  go_ret
  exact ⟨ret_i64 (bits_or_i64 a b), rfl⟩
theorem does_9 (a b : Int) (w : World) : Calls Tryd.prog 76 #[.int .i64 9, .int .i64 a, .int .i64 b] w fun e w' => e = .returned (.int .i64 (doesV 9 a b)) ∧ w' = w := by
  rw [doesV_9]
  go_enter Tryd.func76, Tryd.ntmps76
  go_wp2
  go_ret
  exact ⟨ret_i64 (bits_xor_i64 a b), rfl⟩
theorem does_10 (a b : Int) (w : World) : Calls Tryd.prog 76 #[.int .i64 10, .int .i64 a, .int .i64 b] w fun e w' => e = .returned (.int .i64 (doesV 10 a b)) ∧ w' = w := by
  rw [doesV_10]
  have e := and63 b
  have h0 : 0 ≤ b % 64 := Int.emod_nonneg _ (by decide)
  have h1 : b % 64 < 64 := Int.emod_lt_of_pos _ (by decide)
  go_enter Tryd.func76, Tryd.ntmps76
  go_wp2
  go_ret
  exact ⟨ret_i64 rfl, rfl⟩
theorem does_11 (a b : Int) (w : World) : Calls Tryd.prog 76 #[.int .i64 11, .int .i64 a, .int .i64 b] w fun e w' => e = .returned (.int .i64 (doesV 11 a b)) ∧ w' = w := by
  rw [doesV_11]
  have e := and63 b
  have h0 : 0 ≤ b % 64 := Int.emod_nonneg _ (by decide)
  have h1 : b % 64 < 64 := Int.emod_lt_of_pos _ (by decide)
  go_enter Tryd.func76, Tryd.ntmps76
  go_wp2
  go_ret
  exact ⟨ret_i64 (shr_u a b), rfl⟩
theorem does_12 (a b : Int) (w : World) : Calls Tryd.prog 76 #[.int .i64 12, .int .i64 a, .int .i64 b] w fun e w' => e = .returned (.int .i64 (doesV 12 a b)) ∧ w' = w := by
  rw [doesV_12]
  have e := and63 b
  have h0 : 0 ≤ b % 64 := Int.emod_nonneg _ (by decide)
  have h1 : b % 64 < 64 := Int.emod_lt_of_pos _ (by decide)
  go_enter Tryd.func76, Tryd.ntmps76
  go_wp2
  go_ret
  exact ⟨ret_i64 rfl, rfl⟩
theorem does_5 (a b : Int) (h0 : -9223372036854775808 ≤ b) (h1 : b ≤ 9223372036854775807) (w : World) : Calls Tryd.prog 76 #[.int .i64 5, .int .i64 a, .int .i64 b] w fun e w' => e = .returned (.int .i64 (doesV 5 a b)) ∧ w' = w := by
  by_cases hb : b = 0
  · subst hb
    rw [doesV_5z]
    go_enter Tryd.func76, Tryd.ntmps76
    go_wp2
    go_ret
    exact ⟨rfl, rfl⟩
  · rw [doesV_5 a hb]
    have ha := uns_wrap a
    have hu := uns_wrap b
    have l1 := uns_lt a
    have l2 := uns_lt b
    have hz : uns b ≠ 0 := fun e => hb ((uns_zero h0 h1).1 e)
    generalize uns a = X at ha l1 ⊢
    generalize uns b = Y at hu l2 hz ⊢
    go_enter Tryd.func76, Tryd.ntmps76
    go_wp2
    go_ret
    exact ⟨ret_i64 (by rw [wrap64_u, Int.natCast_ediv]), rfl⟩
theorem does_6 (a b : Int) (h0 : -9223372036854775808 ≤ b) (h1 : b ≤ 9223372036854775807) (w : World) : Calls Tryd.prog 76 #[.int .i64 6, .int .i64 a, .int .i64 b] w fun e w' => e = .returned (.int .i64 (doesV 6 a b)) ∧ w' = w := by
  by_cases hb : b = 0
  · subst hb
    rw [doesV_6z]
    go_enter Tryd.func76, Tryd.ntmps76
    go_wp2
    go_ret
    exact ⟨rfl, rfl⟩
  · rw [doesV_6 a hb]
    have ha := uns_wrap a
    have hu := uns_wrap b
    have l1 := uns_lt a
    have l2 := uns_lt b
    have hz : uns b ≠ 0 := fun e => hb ((uns_zero h0 h1).1 e)
    generalize uns a = X at ha l1 ⊢
    generalize uns b = Y at hu l2 hz ⊢
    go_enter Tryd.func76, Tryd.ntmps76
    go_wp2
    go_ret
    exact ⟨ret_i64 (by rw [Int.natCast_emod]), rfl⟩
theorem does_no (c a b : Int) (hc : c < 1 ∨ 13 < c) (w : World) : Calls Tryd.prog 76 #[.int .i64 c, .int .i64 a, .int .i64 b] w fun e w' => e = .returned (.int .i64 (doesV c a b)) ∧ w' = w := by
  rw [doesV_no a b hc]
  go_enter Tryd.func76, Tryd.ntmps76
  go_wp2
  go_ret
  exact ⟨rfl, rfl⟩
theorem is_15 (a b : Int) (w : World) : Calls Tryd.prog 80 #[.int .i64 15, .int .i64 a, .int .i64 b] w fun e w' => e = .returned (.bool (isV 15 a b)) ∧ w' = w := by
  rw [isV_15]
  have ha := uns_wrap a
  have hb := uns_wrap b
  go_enter Tryd.func80, Tryd.ntmps80
  go_wp2
  go_ret
  refine ⟨ret_bool ?_, rfl⟩
  rfl
theorem is_16 (a b : Int) (w : World) : Calls Tryd.prog 80 #[.int .i64 16, .int .i64 a, .int .i64 b] w fun e w' => e = .returned (.bool (isV 16 a b)) ∧ w' = w := by
  rw [isV_16]
  have ha := uns_wrap a
  have hb := uns_wrap b
  go_enter Tryd.func80, Tryd.ntmps80
  go_wp2
  go_ret
  refine ⟨ret_bool ?_, rfl⟩
  rfl
theorem is_17 (a b : Int) (w : World) : Calls Tryd.prog 80 #[.int .i64 17, .int .i64 a, .int .i64 b] w fun e w' => e = .returned (.bool (isV 17 a b)) ∧ w' = w := by
  rw [isV_17]
  have ha := uns_wrap a
  have hb := uns_wrap b
  go_enter Tryd.func80, Tryd.ntmps80
  go_wp2
  go_ret
  refine ⟨ret_bool ?_, rfl⟩
  rfl
theorem is_18 (a b : Int) (w : World) : Calls Tryd.prog 80 #[.int .i64 18, .int .i64 a, .int .i64 b] w fun e w' => e = .returned (.bool (isV 18 a b)) ∧ w' = w := by
  rw [isV_18]
  have ha := uns_wrap a
  have hb := uns_wrap b
  go_enter Tryd.func80, Tryd.ntmps80
  go_wp2
  go_ret
  refine ⟨ret_bool ?_, rfl⟩
  rfl
theorem is_19 (a b : Int) (w : World) : Calls Tryd.prog 80 #[.int .i64 19, .int .i64 a, .int .i64 b] w fun e w' => e = .returned (.bool (isV 19 a b)) ∧ w' = w := by
  rw [isV_19]
  have ha := uns_wrap a
  have hb := uns_wrap b
  go_enter Tryd.func80, Tryd.ntmps80
  go_wp2
  go_ret
  refine ⟨ret_bool ?_, rfl⟩
  rfl
theorem is_20 (a b : Int) (w : World) : Calls Tryd.prog 80 #[.int .i64 20, .int .i64 a, .int .i64 b] w fun e w' => e = .returned (.bool (isV 20 a b)) ∧ w' = w := by
  rw [isV_20]
  have ha := uns_wrap a
  have hb := uns_wrap b
  go_enter Tryd.func80, Tryd.ntmps80
  go_wp2
  go_ret
  refine ⟨ret_bool ?_, rfl⟩
  rfl
theorem is_21 (a b : Int) (w : World) : Calls Tryd.prog 80 #[.int .i64 21, .int .i64 a, .int .i64 b] w fun e w' => e = .returned (.bool (isV 21 a b)) ∧ w' = w := by
  rw [isV_21]
  have ha := uns_wrap a
  have hb := uns_wrap b
  go_enter Tryd.func80, Tryd.ntmps80
  go_wp2
  go_ret
  refine ⟨ret_bool ?_, rfl⟩
  rfl
theorem is_22 (a b : Int) (w : World) : Calls Tryd.prog 80 #[.int .i64 22, .int .i64 a, .int .i64 b] w fun e w' => e = .returned (.bool (isV 22 a b)) ∧ w' = w := by
  rw [isV_22]
  have ha := uns_wrap a
  have hb := uns_wrap b
  go_enter Tryd.func80, Tryd.ntmps80
  go_wp2
  go_ret
  refine ⟨ret_bool ?_, rfl⟩
  rfl
theorem is_23 (a b : Int) (w : World) : Calls Tryd.prog 80 #[.int .i64 23, .int .i64 a, .int .i64 b] w fun e w' => e = .returned (.bool (isV 23 a b)) ∧ w' = w := by
  rw [isV_23]
  have ha := uns_wrap a
  have hb := uns_wrap b
  go_enter Tryd.func80, Tryd.ntmps80
  go_wp2
  go_ret
  refine ⟨ret_bool ?_, rfl⟩
  rfl
theorem is_24 (a b : Int) (w : World) : Calls Tryd.prog 80 #[.int .i64 24, .int .i64 a, .int .i64 b] w fun e w' => e = .returned (.bool (isV 24 a b)) ∧ w' = w := by
  rw [isV_24]
  have ha := uns_wrap a
  have hb := uns_wrap b
  go_enter Tryd.func80, Tryd.ntmps80
  go_wp2
  go_ret
  refine ⟨ret_bool ?_, rfl⟩
  rfl
theorem is_no (c a b : Int) (hc : c < 15 ∨ 24 < c) (w : World) : Calls Tryd.prog 80 #[.int .i64 c, .int .i64 a, .int .i64 b] w fun e w' => e = .returned (.bool (isV c a b)) ∧ w' = w := by
  rw [isV_no a b hc]
  go_enter Tryd.func80, Tryd.ntmps80
  go_wp2
  go_ret
  exact ⟨rfl, rfl⟩
theorem does_any (c a b : Int) (k0 : -9223372036854775808 ≤ b) (k1 : b ≤ 9223372036854775807) (w : World) : Calls Tryd.prog 76 #[.int .i64 c, .int .i64 a, .int .i64 b] w fun e w' => e = .returned (.int .i64 (doesV c a b)) ∧ w' = w := by
  by_cases hc : c < 1 ∨ 13 < c
  · exact does_no c a b hc w
  · have h : c = 1 ∨ c = 2 ∨ c = 3 ∨ c = 4 ∨ c = 5 ∨ c = 6 ∨ c = 7 ∨ c = 8 ∨ c = 9 ∨ c = 10 ∨ c = 11 ∨ c = 12 ∨ c = 13 := by omega
    rcases h with rfl | rfl | rfl | rfl | rfl | rfl | rfl | rfl | rfl | rfl | rfl | rfl | rfl
    · exact does_1 a b w
    · exact does_2 a b w
    · exact does_3 a b w
    · exact does_4 a b w
    · exact does_5 a b k0 k1 w
    · exact does_6 a b k0 k1 w
    · exact does_7 a b w
    · exact does_8 a b w
    · exact does_9 a b w
    · exact does_10 a b w
    · exact does_11 a b w
    · exact does_12 a b w
    · exact does_13 a b w
theorem is_any (c a b : Int) (w : World) : Calls Tryd.prog 80 #[.int .i64 c, .int .i64 a, .int .i64 b] w fun e w' => e = .returned (.bool (isV c a b)) ∧ w' = w := by
  by_cases hc : c < 15 ∨ 24 < c
  · exact is_no c a b hc w
  · have h : c = 15 ∨ c = 16 ∨ c = 17 ∨ c = 18 ∨ c = 19 ∨ c = 20 ∨ c = 21 ∨ c = 22 ∨ c = 23 ∨ c = 24 := by omega
    rcases h with rfl | rfl | rfl | rfl | rfl | rfl | rfl | rfl | rfl | rfl
    · exact is_15 a b w
    · exact is_16 a b w
    · exact is_17 a b w
    · exact is_18 a b w
    · exact is_19 a b w
    · exact is_20 a b w
    · exact is_21 a b w
    · exact is_22 a b w
    · exact is_23 a b w
    · exact is_24 a b w
/-! ### Fill -/
theorem fill_any (n : Int) (h0 : -9223372036854775808 ≤ n) (h1 : n ≤ 9223372036854775807) (w : World) : Calls Tryd.prog 77 #[.int .i64 n] w fun e w' => e = .returned (.int .i64 (fillV n)) ∧ w' = w := by
  by_cases hn : n ≤ 0
  · have hd : fillV n = 0 := by
      unfold fillV
      rw [show n.toNat = 0 by omega]
      rfl
    rw [hd]
    go_enter Tryd.func77, Tryd.ntmps77
    go_wp2
    go_ret
    exact ⟨rfl, rfl⟩
  · obtain ⟨m, rfl⟩ : ∃ m : Nat, n = (m : Int) := ⟨n.toNat, by omega⟩
    have hl : lenV m ≤ 63 := lenV_le (Nat.lt_of_lt_of_eq (show m < 9223372036854775808 by omega) (by decide))
    go_enter Tryd.func77, Tryd.ntmps77
    go_wp2_with (go_at_call 97; refine (len64 _ _ (by omega)).mono ?_; rintro e w' ⟨rfl, rfl⟩)
    go_ret
    exact ⟨ret_i64 (fill_eq m hl), rfl⟩
end Go.Proofs.YtegeiicginpdbaaDoor
