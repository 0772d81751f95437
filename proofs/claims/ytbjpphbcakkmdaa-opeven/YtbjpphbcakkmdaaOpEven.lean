/-
  OpEven returns true at every two numbers of 64 bits, and changes nothing that was there: what is added is taken away again, what is divided is put together again, bits are bits, and of each two opposite questions just one is so. No conditions.
-/
import Derived.Test.YtbjpphbcakkmdaaOpWalks
import Derived.Deep.QuietTactic
import Derived.BigQuiet
import Derived.BigCall
import Derived.BigGuardPart
namespace Go.Proofs.Ytbjpphbcakkmdaa
open Go.ChangeShapes Go.WideShapes Go.ChangeAt Go.RowKit

theorem uns_wrap64 {n : Nat} (h : n < 18446744073709551616) : uns (wrap64 (n : Int)) = n := by unfold uns wrap64; omega
theorem uns_wrap64' (n : Int) : uns (wrap64 n) = uns n := by unfold uns wrap64; omega
theorem ev_sub {a b : Int} (h0 : -9223372036854775808 ≤ a) (h1 : a ≤ 9223372036854775807) : doesV 3 (doesV 2 a b) b = a := by
  rw [doesV_3, doesV_2]; unfold wrap64; omega
theorem ev_neg {a : Int} (h0 : -9223372036854775808 ≤ a) (h1 : a ≤ 9223372036854775807) : doesV 13 (doesV 13 a 0) 0 = a := by
  rw [doesV_13, doesV_13]; unfold wrap64; omega
theorem ev_xor {a b : Int} (h0 : -9223372036854775808 ≤ a) (h1 : a ≤ 9223372036854775807) : doesV 9 (doesV 9 a b) b = a := by
  have hx : uns a ^^^ uns b < 18446744073709551616 := Nat.xor_lt_two_pow (n := 64) (uns_lt a) (uns_lt b)
  rw [doesV_9, doesV_9, uns_wrap64 hx, Nat.xor_assoc, Nat.xor_self, Nat.xor_zero, wrap64_uns, wrap64_in h0 h1]
theorem bits_sum (u v p A B C D : Nat) (hu : u = 0 ∨ u = 1) (hv : v = 0 ∨ v = 1) (ih : A + B = C + D) : A + u * v * p + (B + max u v * p) = C + u * p + (D + v * p) := by
  rcases hu with rfl | rfl <;> rcases hv with rfl | rfl <;> simp <;> omega
theorem lo_and_or (x y : Nat) (j : Nat) : lo (x &&& y) j + lo (x ||| y) j = lo x j + lo y j := by
  induction j with
  | zero => rw [lo_zero, lo_zero, lo_zero, lo_zero]
  | succ j ih =>
    have a := lo_succ (x &&& y) j
    have b := lo_succ (x ||| y) j
    have c := lo_succ x j
    have d := lo_succ y j
    rw [hi_and] at a
    rw [hi_or] at b
    rw [a, b, c, d]
    exact bits_sum _ _ _ _ _ _ _ (Nat.mod_two_eq_zero_or_one _) (Nat.mod_two_eq_zero_or_one _) ih
theorem and_or_nat (x y : Nat) (hx : x < 18446744073709551616) (hy : y < 18446744073709551616) : (x &&& y) + (x ||| y) = x + y := by
  have h1 : x &&& y < 18446744073709551616 := Nat.and_lt_two_pow (n := 64) _ hy
  have h2 : x ||| y < 18446744073709551616 := Nat.or_lt_two_pow (n := 64) hx hy
  have e := lo_and_or x y 64
  rw [lo_all h1, lo_all h2, lo_all hx, lo_all hy] at e
  exact e
theorem wrap64_mod (n : Int) : wrap64 n % 18446744073709551616 = n % 18446744073709551616 := by unfold wrap64; omega
theorem ev_div {a b : Int} (h0 : -9223372036854775808 ≤ a) (h1 : a ≤ 9223372036854775807) (hb : b ≠ 0) : doesV 2 (doesV 4 (doesV 5 a b) b) (doesV 6 a b) = a := by
  rw [doesV_5 a hb, doesV_6 a hb, doesV_4, doesV_2]
  have e := Nat.div_add_mod (uns a) (uns b)
  rw [Nat.mul_comm] at e
  have e2 : ((uns a / uns b * uns b : Nat) : Int) + ((uns a % uns b : Nat) : Int) = (uns a : Int) := by rw [← Int.natCast_add, e]
  have e3 : b % 18446744073709551616 = (uns b : Int) % 18446744073709551616 := by rw [uns_eq, Int.emod_emod]
  have key : (wrap64 ((uns a / uns b : Nat) : Int) * b) % 18446744073709551616 = ((uns a / uns b * uns b : Nat) : Int) % 18446744073709551616 := by
    rw [Int.mul_emod, wrap64_mod, e3, ← Int.mul_emod, Int.natCast_mul]
  have all : (wrap64 (wrap64 ((uns a / uns b : Nat) : Int) * b) + wrap64 ((uns a % uns b : Nat) : Int)) % 18446744073709551616 = a % 18446744073709551616 := by
    rw [Int.add_emod, wrap64_mod, wrap64_mod, key, ← Int.add_emod, e2, uns_eq, Int.emod_emod]
  rw [wrap64_of all, wrap64_in h0 h1]
theorem wrap64_zero : wrap64 ((0 : Nat) : Int) = 0 := by decide +kernel
theorem ev_and_or (a b : Int) : doesV 2 (doesV 7 a b) (doesV 8 a b) = doesV 2 a b := by
  have e := and_or_nat (uns a) (uns b) (uns_lt a) (uns_lt b)
  rw [doesV_2, doesV_7, doesV_8, doesV_2]
  apply wrap64_of
  rw [Int.add_emod, wrap64_mod, wrap64_mod, ← Int.add_emod, ← Int.natCast_add, e, Int.natCast_add, uns_eq, uns_eq, ← Int.add_emod]
theorem ev_fill_no {a : Int} (h : a ≤ 0) : fillV a = 0 := by
  unfold fillV
  rw [show a.toNat = 0 by omega]
  rfl
theorem ev_fill {a : Int} (h1 : a ≤ 9223372036854775807) (h : 0 < a) : 0 ≤ fillV a ∧ fillV a ≤ 9223372036854775807 ∧ a ≤ fillV a ∧ bits .and .i64 (fillV a) (wrap64 (fillV a + 1)) = 0 ∧ fillV a / 2 < a := by
  have hl := len_63 h1
  have h0 : a.toNat ≠ 0 := by omega
  have lo1 := lenV_lo h0
  have hi1 := lenV_hi a.toNat
  have o := ones_lt hl
  have hz : lenV a.toNat ≠ 0 := by intro e; rw [e] at hi1; simp at hi1; omega
  obtain ⟨L, hL⟩ : ∃ L, lenV a.toNat = L + 1 := ⟨lenV a.toNat - 1, by omega⟩
  have e : fillV a = (ones (lenV a.toNat) : Int) := rfl
  have hp := Nat.two_pow_pos (L + 1)
  have hq : 2 ^ (L + 1) ≤ 9223372036854775808 := Nat.pow_le_pow_right (n := 2) (i := L + 1) (j := 63) (by decide) (by omega)
  have hs : 2 ^ (L + 1) = 2 ^ L * 2 := Nat.pow_succ 2 L
  rw [hL] at lo1 hi1 o e
  rw [Nat.add_sub_cancel] at lo1
  have hb : bits .and .i64 (fillV a) (wrap64 (fillV a + 1)) = 0 := by
    rw [bits_and_i64, e, uns_wrap64']
    have u1 : uns (ones (L + 1) : Int) = 2 ^ (L + 1) - 1 := by unfold uns ones; omega
    have u2 : uns ((ones (L + 1) : Int) + 1) = 2 ^ (L + 1) := by unfold uns ones; omega
    rw [u1, u2, Nat.and_comm, Nat.and_two_pow_sub_one_eq_mod, Nat.mod_self]
    exact wrap64_zero
  unfold ones at e
  exact ⟨by omega, by omega, by omega, hb, by omega⟩
theorem op_1 (a b : Int) : isV 16 a b = !isV 15 a b := by rw [isV_15, isV_16]
theorem op_2 (a b : Int) : isV 20 a b = !isV 17 a b := by
  rw [isV_17, isV_20]; by_cases h : uns b < uns a <;> simp [h] <;> omega
theorem op_3 (a b : Int) : isV 19 a b = !isV 18 a b := by
  rw [isV_18, isV_19]; by_cases h : uns b ≤ uns a <;> simp [h] <;> omega
theorem op_4 (a b : Int) : isV 24 a b = !isV 21 a b := by
  rw [isV_21, isV_24]; by_cases h : b < a <;> simp [h] <;> omega
theorem op_5 (a b : Int) : isV 23 a b = !isV 22 a b := by
  rw [isV_22, isV_23]; by_cases h : b ≤ a <;> simp [h] <;> omega

theorem does_all (c a b : Int) (h : c = 5 ∨ c = 6 → -9223372036854775808 ≤ b ∧ b ≤ 9223372036854775807) (w : World) : Calls Try.prog 5 #[.int .i64 c, .int .i64 a, .int .i64 b] w fun e w' => e = .returned (.int .i64 (doesV c a b)) ∧ w' = w := by
  by_cases hc : c < 1 ∨ 13 < c
  · exact does_no c a b hc w
  · have hk : c = 1 ∨ c = 2 ∨ c = 3 ∨ c = 4 ∨ c = 5 ∨ c = 6 ∨ c = 7 ∨ c = 8 ∨ c = 9 ∨ c = 10 ∨ c = 11 ∨ c = 12 ∨ c = 13 := by omega
    rcases hk with rfl | rfl | rfl | rfl | rfl | rfl | rfl | rfl | rfl | rfl | rfl | rfl | rfl
    · exact does_1 a b w
    · exact does_2 a b w
    · exact does_3 a b w
    · exact does_4 a b w
    · exact does_5 a b (h (Or.inl rfl)).1 (h (Or.inl rfl)).2 w
    · exact does_6 a b (h (Or.inr rfl)).1 (h (Or.inr rfl)).2 w
    · exact does_7 a b w
    · exact does_8 a b w
    · exact does_9 a b w
    · exact does_10 a b w
    · exact does_11 a b w
    · exact does_12 a b w
    · exact does_13 a b w
theorem grown_draws {W w' : World} (h : Grown W w') (n : Nat) : Grown W (w'.drewN n) := h
/-- The fact ahead of all. -/
theorem counted_any (w : World) : Calls Try.prog 13 #[] w fun e w' => e = .returned (.bool true) ∧ w = w' := by
  have f1 : doesV 2 2 3 = 5 := by decide +kernel
  have f2 : doesV 12 (-8) 1 = -4 := by decide +kernel
  have f3 : doesV 5 (-1) 2 = 9223372036854775807 := by decide +kernel
  have f4 : isV 17 (-1) 1 = true := by decide +kernel
  have f5 : isV 21 (-1) 1 = false := by decide +kernel
  have f6 : fillV 5 = 7 := by decide +kernel
  go_enter Try.func13, Try.ntmps13
  go_wp2_with (first | (go_at_call 5; refine (does_any _ _ _ (by decide) (by decide) _).mono ?_; rintro e w' ⟨rfl, rfl⟩) | (go_at_call 7; refine (is_any _ _ _ _).mono ?_; rintro e w' ⟨rfl, rfl⟩) | (go_at_call 9; refine (fill_any _ (by decide) (by decide) _).mono ?_; rintro e w' ⟨rfl, rfl⟩))
  go_ret
  exact ⟨rfl, rfl⟩

theorem row_0 (w : World) : (Instr.index 28 (.agg #[.int .i64 15, .int .i64 16, .int .i64 17, .int .i64 20, .int .i64 18, .int .i64 19, .int .i64 21, .int .i64 24, .int .i64 22, .int .i64 23]) (.int .i64 0)).run Try.prog w = .ok (.agg #[.int .i64 15, .int .i64 16]) w := by kernel_rfl
theorem row_1 (w : World) : (Instr.index 28 (.agg #[.int .i64 15, .int .i64 16, .int .i64 17, .int .i64 20, .int .i64 18, .int .i64 19, .int .i64 21, .int .i64 24, .int .i64 22, .int .i64 23]) (.int .i64 1)).run Try.prog w = .ok (.agg #[.int .i64 17, .int .i64 20]) w := by kernel_rfl
theorem row_2 (w : World) : (Instr.index 28 (.agg #[.int .i64 15, .int .i64 16, .int .i64 17, .int .i64 20, .int .i64 18, .int .i64 19, .int .i64 21, .int .i64 24, .int .i64 22, .int .i64 23]) (.int .i64 2)).run Try.prog w = .ok (.agg #[.int .i64 18, .int .i64 19]) w := by kernel_rfl
theorem row_3 (w : World) : (Instr.index 28 (.agg #[.int .i64 15, .int .i64 16, .int .i64 17, .int .i64 20, .int .i64 18, .int .i64 19, .int .i64 21, .int .i64 24, .int .i64 22, .int .i64 23]) (.int .i64 3)).run Try.prog w = .ok (.agg #[.int .i64 21, .int .i64 24]) w := by kernel_rfl
theorem row_4 (w : World) : (Instr.index 28 (.agg #[.int .i64 15, .int .i64 16, .int .i64 17, .int .i64 20, .int .i64 18, .int .i64 19, .int .i64 21, .int .i64 24, .int .i64 22, .int .i64 23]) (.int .i64 4)).run Try.prog w = .ok (.agg #[.int .i64 22, .int .i64 23]) w := by kernel_rfl
namespace opEven
set_option linter.unusedVariables false
theorem own : ownKnob Try.prog.godebug = none := by kernel_rfl

set_option maxHeartbeats 4000000 in
theorem walk_zn (D : Int → Int → Int → Int) (I : Int → Int → Int → Bool) (F : Int) (a0 a1 : Int) (b1 : -9223372036854775808 ≤ a1 ∧ a1 ≤ 9223372036854775807)
    (cD : ∀ (c a b : Int), (c = 5 ∨ c = 6 → -9223372036854775808 ≤ b ∧ b ≤ 9223372036854775807) → ∀ w : World, Calls Try.prog 5 #[.int .i64 c, .int .i64 a, .int .i64 b] w fun e w' => e = .returned (.int .i64 (D c a b)) ∧ w' = w)
    (cI : ∀ (c a b : Int) (w : World), Calls Try.prog 7 #[.int .i64 c, .int .i64 a, .int .i64 b] w fun e w' => e = .returned (.bool (I c a b)) ∧ w' = w)
    (cF : ∀ w : World, Calls Try.prog 9 #[.int .i64 a0] w fun e w' => e = .returned (.int .i64 F) ∧ w' = w)
    (o1 : I 16 a0 a1 = !I 15 a0 a1) (o2 : I 20 a0 a1 = !I 17 a0 a1) (o3 : I 19 a0 a1 = !I 18 a0 a1) (o4 : I 24 a0 a1 = !I 21 a0 a1) (o5 : I 23 a0 a1 = !I 22 a0 a1)
    (f1 : D 3 (D 2 a0 a1) a1 = a0) (f2 : D 2 (D 7 a0 a1) (D 8 a0 a1) = D 2 a0 a1) (f3 : D 9 (D 9 a0 a1) a1 = a0) (f4 : D 13 (D 13 a0 0) 0 = a0)
    (hb : (a1 != 0) = false) (ha : a0 ≤ 0) (f6 : F = 0) (w : World) :
    Calls Try.prog 4 #[.int .i64 a0, .int .i64 a1] w fun e w' => e = .returned (.bool true) ∧ Grown w w' := by
  go_enter Try.func4, Try.ntmps4
  go_wp2_with (go_at_call 13; refine (counted_any _).mono ?_; rintro e w' ⟨rfl, rfl⟩)
  go_loopw [17] (fun i wr => ∃ k : Nat, k ≤ 5 ∧ i = .int .i64 k ∧ Grown w wr) (fun i _ => 5 - (intOf i).toNat)
  case atStart => exact ⟨0, Nat.zero_le _, rfl, Grown.refl _⟩
  case round =>
    obtain ⟨k, hk, rfl, hg⟩ := hrel
    by_cases hlt : k < 5
    · have hk5 : k = 0 ∨ k = 1 ∨ k = 2 ∨ k = 3 ∨ k = 4 := by omega
      clear f1 f2 f3 f4
      rcases hk5 with rfl | rfl | rfl | rfl | rfl
      · have hr := row_0
        have ho := o1
        go_wp2
        go_quiet ((go_at_call 7; exact Calls.quiet_of_same (cI _ _ _ _)))
        go_wp2
        go_roundw
        case rel => exact ⟨1, by omega, rfl, grown_draws (hg.alloc _ _) _⟩
        case measure => simp [intOf]
      · have hr := row_1
        have ho := o2
        go_wp2
        go_quiet ((go_at_call 7; exact Calls.quiet_of_same (cI _ _ _ _)))
        go_wp2
        go_roundw
        case rel => exact ⟨2, by omega, rfl, grown_draws (hg.alloc _ _) _⟩
        case measure => simp [intOf]
      · have hr := row_2
        have ho := o3
        go_wp2
        go_quiet ((go_at_call 7; exact Calls.quiet_of_same (cI _ _ _ _)))
        go_wp2
        go_roundw
        case rel => exact ⟨3, by omega, rfl, grown_draws (hg.alloc _ _) _⟩
        case measure => simp [intOf]
      · have hr := row_3
        have ho := o4
        go_wp2
        go_quiet ((go_at_call 7; exact Calls.quiet_of_same (cI _ _ _ _)))
        go_wp2
        go_roundw
        case rel => exact ⟨4, by omega, rfl, grown_draws (hg.alloc _ _) _⟩
        case measure => simp [intOf]
      · have hr := row_4
        have ho := o5
        go_wp2
        go_quiet ((go_at_call 7; exact Calls.quiet_of_same (cI _ _ _ _)))
        go_wp2
        go_roundw
        case rel => exact ⟨5, by omega, rfl, grown_draws (hg.alloc _ _) _⟩
        case measure => simp [intOf]
    · obtain rfl : k = 5 := by omega
      clear cI o1 o2 o3 o4 o5
      go_wp2_with (first | (go_at_call 5; refine (cD _ _ _ ?hb _).mono ?_; (case hb => first | exact fun _ => b1 | (intro h; omega)); rintro e w' ⟨rfl, rfl⟩) | (go_at_call 9; refine (cF _).mono ?_; rintro e w' ⟨rfl, rfl⟩))
      all_goals (go_ret; exact ⟨rfl, hg⟩)
set_option maxHeartbeats 4000000 in
theorem walk_zp (D : Int → Int → Int → Int) (I : Int → Int → Int → Bool) (F : Int) (a0 a1 : Int) (b1 : -9223372036854775808 ≤ a1 ∧ a1 ≤ 9223372036854775807)
    (cD : ∀ (c a b : Int), (c = 5 ∨ c = 6 → -9223372036854775808 ≤ b ∧ b ≤ 9223372036854775807) → ∀ w : World, Calls Try.prog 5 #[.int .i64 c, .int .i64 a, .int .i64 b] w fun e w' => e = .returned (.int .i64 (D c a b)) ∧ w' = w)
    (cI : ∀ (c a b : Int) (w : World), Calls Try.prog 7 #[.int .i64 c, .int .i64 a, .int .i64 b] w fun e w' => e = .returned (.bool (I c a b)) ∧ w' = w)
    (cF : ∀ w : World, Calls Try.prog 9 #[.int .i64 a0] w fun e w' => e = .returned (.int .i64 F) ∧ w' = w)
    (o1 : I 16 a0 a1 = !I 15 a0 a1) (o2 : I 20 a0 a1 = !I 17 a0 a1) (o3 : I 19 a0 a1 = !I 18 a0 a1) (o4 : I 24 a0 a1 = !I 21 a0 a1) (o5 : I 23 a0 a1 = !I 22 a0 a1)
    (f1 : D 3 (D 2 a0 a1) a1 = a0) (f2 : D 2 (D 7 a0 a1) (D 8 a0 a1) = D 2 a0 a1) (f3 : D 9 (D 9 a0 a1) a1 = a0) (f4 : D 13 (D 13 a0 0) 0 = a0)
    (hb : (a1 != 0) = false) (ha : 0 < a0) (g0 : 0 ≤ F) (g1 : F ≤ 9223372036854775807) (g2 : a0 ≤ F) (g3 : bits .and .i64 F (wrap64 (F + 1)) = 0) (g4 : F / 2 < a0) (w : World) :
    Calls Try.prog 4 #[.int .i64 a0, .int .i64 a1] w fun e w' => e = .returned (.bool true) ∧ Grown w w' := by
  go_enter Try.func4, Try.ntmps4
  go_wp2_with (go_at_call 13; refine (counted_any _).mono ?_; rintro e w' ⟨rfl, rfl⟩)
  go_loopw [17] (fun i wr => ∃ k : Nat, k ≤ 5 ∧ i = .int .i64 k ∧ Grown w wr) (fun i _ => 5 - (intOf i).toNat)
  case atStart => exact ⟨0, Nat.zero_le _, rfl, Grown.refl _⟩
  case round =>
    obtain ⟨k, hk, rfl, hg⟩ := hrel
    by_cases hlt : k < 5
    · have hk5 : k = 0 ∨ k = 1 ∨ k = 2 ∨ k = 3 ∨ k = 4 := by omega
      clear f1 f2 f3 f4
      rcases hk5 with rfl | rfl | rfl | rfl | rfl
      · have hr := row_0
        have ho := o1
        go_wp2
        go_quiet ((go_at_call 7; exact Calls.quiet_of_same (cI _ _ _ _)))
        go_wp2
        go_roundw
        case rel => exact ⟨1, by omega, rfl, grown_draws (hg.alloc _ _) _⟩
        case measure => simp [intOf]
      · have hr := row_1
        have ho := o2
        go_wp2
        go_quiet ((go_at_call 7; exact Calls.quiet_of_same (cI _ _ _ _)))
        go_wp2
        go_roundw
        case rel => exact ⟨2, by omega, rfl, grown_draws (hg.alloc _ _) _⟩
        case measure => simp [intOf]
      · have hr := row_2
        have ho := o3
        go_wp2
        go_quiet ((go_at_call 7; exact Calls.quiet_of_same (cI _ _ _ _)))
        go_wp2
        go_roundw
        case rel => exact ⟨3, by omega, rfl, grown_draws (hg.alloc _ _) _⟩
        case measure => simp [intOf]
      · have hr := row_3
        have ho := o4
        go_wp2
        go_quiet ((go_at_call 7; exact Calls.quiet_of_same (cI _ _ _ _)))
        go_wp2
        go_roundw
        case rel => exact ⟨4, by omega, rfl, grown_draws (hg.alloc _ _) _⟩
        case measure => simp [intOf]
      · have hr := row_4
        have ho := o5
        go_wp2
        go_quiet ((go_at_call 7; exact Calls.quiet_of_same (cI _ _ _ _)))
        go_wp2
        go_roundw
        case rel => exact ⟨5, by omega, rfl, grown_draws (hg.alloc _ _) _⟩
        case measure => simp [intOf]
    · obtain rfl : k = 5 := by omega
      clear cI o1 o2 o3 o4 o5
      go_wp2_with (first | (go_at_call 5; refine (cD _ _ _ ?hb _).mono ?_; (case hb => first | exact fun _ => b1 | (intro h; omega)); rintro e w' ⟨rfl, rfl⟩) | (go_at_call 9; refine (cF _).mono ?_; rintro e w' ⟨rfl, rfl⟩))
      all_goals (go_ret; exact ⟨rfl, hg⟩)
set_option maxHeartbeats 4000000 in
theorem walk_bn (D : Int → Int → Int → Int) (I : Int → Int → Int → Bool) (F : Int) (a0 a1 : Int) (b1 : -9223372036854775808 ≤ a1 ∧ a1 ≤ 9223372036854775807)
    (cD : ∀ (c a b : Int), (c = 5 ∨ c = 6 → -9223372036854775808 ≤ b ∧ b ≤ 9223372036854775807) → ∀ w : World, Calls Try.prog 5 #[.int .i64 c, .int .i64 a, .int .i64 b] w fun e w' => e = .returned (.int .i64 (D c a b)) ∧ w' = w)
    (cI : ∀ (c a b : Int) (w : World), Calls Try.prog 7 #[.int .i64 c, .int .i64 a, .int .i64 b] w fun e w' => e = .returned (.bool (I c a b)) ∧ w' = w)
    (cF : ∀ w : World, Calls Try.prog 9 #[.int .i64 a0] w fun e w' => e = .returned (.int .i64 F) ∧ w' = w)
    (o1 : I 16 a0 a1 = !I 15 a0 a1) (o2 : I 20 a0 a1 = !I 17 a0 a1) (o3 : I 19 a0 a1 = !I 18 a0 a1) (o4 : I 24 a0 a1 = !I 21 a0 a1) (o5 : I 23 a0 a1 = !I 22 a0 a1)
    (f1 : D 3 (D 2 a0 a1) a1 = a0) (f2 : D 2 (D 7 a0 a1) (D 8 a0 a1) = D 2 a0 a1) (f3 : D 9 (D 9 a0 a1) a1 = a0) (f4 : D 13 (D 13 a0 0) 0 = a0)
    (hb : (a1 != 0) = true) (f5 : D 2 (D 4 (D 5 a0 a1) a1) (D 6 a0 a1) = a0) (ha : a0 ≤ 0) (f6 : F = 0) (w : World) :
    Calls Try.prog 4 #[.int .i64 a0, .int .i64 a1] w fun e w' => e = .returned (.bool true) ∧ Grown w w' := by
  go_enter Try.func4, Try.ntmps4
  go_wp2_with (go_at_call 13; refine (counted_any _).mono ?_; rintro e w' ⟨rfl, rfl⟩)
  go_loopw [17] (fun i wr => ∃ k : Nat, k ≤ 5 ∧ i = .int .i64 k ∧ Grown w wr) (fun i _ => 5 - (intOf i).toNat)
  case atStart => exact ⟨0, Nat.zero_le _, rfl, Grown.refl _⟩
  case round =>
    obtain ⟨k, hk, rfl, hg⟩ := hrel
    by_cases hlt : k < 5
    · have hk5 : k = 0 ∨ k = 1 ∨ k = 2 ∨ k = 3 ∨ k = 4 := by omega
      clear f1 f2 f3 f4
      rcases hk5 with rfl | rfl | rfl | rfl | rfl
      · have hr := row_0
        have ho := o1
        go_wp2
        go_quiet ((go_at_call 7; exact Calls.quiet_of_same (cI _ _ _ _)))
        go_wp2
        go_roundw
        case rel => exact ⟨1, by omega, rfl, grown_draws (hg.alloc _ _) _⟩
        case measure => simp [intOf]
      · have hr := row_1
        have ho := o2
        go_wp2
        go_quiet ((go_at_call 7; exact Calls.quiet_of_same (cI _ _ _ _)))
        go_wp2
        go_roundw
        case rel => exact ⟨2, by omega, rfl, grown_draws (hg.alloc _ _) _⟩
        case measure => simp [intOf]
      · have hr := row_2
        have ho := o3
        go_wp2
        go_quiet ((go_at_call 7; exact Calls.quiet_of_same (cI _ _ _ _)))
        go_wp2
        go_roundw
        case rel => exact ⟨3, by omega, rfl, grown_draws (hg.alloc _ _) _⟩
        case measure => simp [intOf]
      · have hr := row_3
        have ho := o4
        go_wp2
        go_quiet ((go_at_call 7; exact Calls.quiet_of_same (cI _ _ _ _)))
        go_wp2
        go_roundw
        case rel => exact ⟨4, by omega, rfl, grown_draws (hg.alloc _ _) _⟩
        case measure => simp [intOf]
      · have hr := row_4
        have ho := o5
        go_wp2
        go_quiet ((go_at_call 7; exact Calls.quiet_of_same (cI _ _ _ _)))
        go_wp2
        go_roundw
        case rel => exact ⟨5, by omega, rfl, grown_draws (hg.alloc _ _) _⟩
        case measure => simp [intOf]
    · obtain rfl : k = 5 := by omega
      clear cI o1 o2 o3 o4 o5
      go_wp2_with (first | (go_at_call 5; refine (cD _ _ _ ?hb _).mono ?_; (case hb => first | exact fun _ => b1 | (intro h; omega)); rintro e w' ⟨rfl, rfl⟩) | (go_at_call 9; refine (cF _).mono ?_; rintro e w' ⟨rfl, rfl⟩))
      all_goals (go_ret; exact ⟨rfl, hg⟩)
set_option maxHeartbeats 4000000 in
theorem walk_bp (D : Int → Int → Int → Int) (I : Int → Int → Int → Bool) (F : Int) (a0 a1 : Int) (b1 : -9223372036854775808 ≤ a1 ∧ a1 ≤ 9223372036854775807)
    (cD : ∀ (c a b : Int), (c = 5 ∨ c = 6 → -9223372036854775808 ≤ b ∧ b ≤ 9223372036854775807) → ∀ w : World, Calls Try.prog 5 #[.int .i64 c, .int .i64 a, .int .i64 b] w fun e w' => e = .returned (.int .i64 (D c a b)) ∧ w' = w)
    (cI : ∀ (c a b : Int) (w : World), Calls Try.prog 7 #[.int .i64 c, .int .i64 a, .int .i64 b] w fun e w' => e = .returned (.bool (I c a b)) ∧ w' = w)
    (cF : ∀ w : World, Calls Try.prog 9 #[.int .i64 a0] w fun e w' => e = .returned (.int .i64 F) ∧ w' = w)
    (o1 : I 16 a0 a1 = !I 15 a0 a1) (o2 : I 20 a0 a1 = !I 17 a0 a1) (o3 : I 19 a0 a1 = !I 18 a0 a1) (o4 : I 24 a0 a1 = !I 21 a0 a1) (o5 : I 23 a0 a1 = !I 22 a0 a1)
    (f1 : D 3 (D 2 a0 a1) a1 = a0) (f2 : D 2 (D 7 a0 a1) (D 8 a0 a1) = D 2 a0 a1) (f3 : D 9 (D 9 a0 a1) a1 = a0) (f4 : D 13 (D 13 a0 0) 0 = a0)
    (hb : (a1 != 0) = true) (f5 : D 2 (D 4 (D 5 a0 a1) a1) (D 6 a0 a1) = a0) (ha : 0 < a0) (g0 : 0 ≤ F) (g1 : F ≤ 9223372036854775807) (g2 : a0 ≤ F) (g3 : bits .and .i64 F (wrap64 (F + 1)) = 0) (g4 : F / 2 < a0) (w : World) :
    Calls Try.prog 4 #[.int .i64 a0, .int .i64 a1] w fun e w' => e = .returned (.bool true) ∧ Grown w w' := by
  go_enter Try.func4, Try.ntmps4
  go_wp2_with (go_at_call 13; refine (counted_any _).mono ?_; rintro e w' ⟨rfl, rfl⟩)
  go_loopw [17] (fun i wr => ∃ k : Nat, k ≤ 5 ∧ i = .int .i64 k ∧ Grown w wr) (fun i _ => 5 - (intOf i).toNat)
  case atStart => exact ⟨0, Nat.zero_le _, rfl, Grown.refl _⟩
  case round =>
    obtain ⟨k, hk, rfl, hg⟩ := hrel
    by_cases hlt : k < 5
    · have hk5 : k = 0 ∨ k = 1 ∨ k = 2 ∨ k = 3 ∨ k = 4 := by omega
      clear f1 f2 f3 f4
      rcases hk5 with rfl | rfl | rfl | rfl | rfl
      · have hr := row_0
        have ho := o1
        go_wp2
        go_quiet ((go_at_call 7; exact Calls.quiet_of_same (cI _ _ _ _)))
        go_wp2
        go_roundw
        case rel => exact ⟨1, by omega, rfl, grown_draws (hg.alloc _ _) _⟩
        case measure => simp [intOf]
      · have hr := row_1
        have ho := o2
        go_wp2
        go_quiet ((go_at_call 7; exact Calls.quiet_of_same (cI _ _ _ _)))
        go_wp2
        go_roundw
        case rel => exact ⟨2, by omega, rfl, grown_draws (hg.alloc _ _) _⟩
        case measure => simp [intOf]
      · have hr := row_2
        have ho := o3
        go_wp2
        go_quiet ((go_at_call 7; exact Calls.quiet_of_same (cI _ _ _ _)))
        go_wp2
        go_roundw
        case rel => exact ⟨3, by omega, rfl, grown_draws (hg.alloc _ _) _⟩
        case measure => simp [intOf]
      · have hr := row_3
        have ho := o4
        go_wp2
        go_quiet ((go_at_call 7; exact Calls.quiet_of_same (cI _ _ _ _)))
        go_wp2
        go_roundw
        case rel => exact ⟨4, by omega, rfl, grown_draws (hg.alloc _ _) _⟩
        case measure => simp [intOf]
      · have hr := row_4
        have ho := o5
        go_wp2
        go_quiet ((go_at_call 7; exact Calls.quiet_of_same (cI _ _ _ _)))
        go_wp2
        go_roundw
        case rel => exact ⟨5, by omega, rfl, grown_draws (hg.alloc _ _) _⟩
        case measure => simp [intOf]
    · obtain rfl : k = 5 := by omega
      clear cI o1 o2 o3 o4 o5
      go_wp2_with (first | (go_at_call 5; refine (cD _ _ _ ?hb _).mono ?_; (case hb => first | exact fun _ => b1 | (intro h; omega)); rintro e w' ⟨rfl, rfl⟩) | (go_at_call 9; refine (cF _).mono ?_; rintro e w' ⟨rfl, rfl⟩))
      all_goals (go_ret; exact ⟨rfl, hg⟩)
theorem walk (a0 : Int) (a1 : Int) (w0 : (Lit.int .i64 a0).wf = true) (w1 : (Lit.int .i64 a1).wf = true) (w : World) :
    Calls Try.prog 4 #[.int .i64 a0, .int .i64 a1] w fun e w' => e = .returned (.bool true) ∧ Grown w w' := by
  have b0 := bounds_i64 w0
  have b1 := bounds_i64 w1
  by_cases hb : a1 = 0
  · by_cases ha : a0 ≤ 0
    · exact walk_zn doesV isV (fillV a0) a0 a1 b1 does_all is_any (fill_any a0 b0.1 b0.2) (op_1 a0 a1) (op_2 a0 a1) (op_3 a0 a1) (op_4 a0 a1) (op_5 a0 a1) (ev_sub b0.1 b0.2) (ev_and_or a0 a1) (ev_xor b0.1 b0.2) (ev_neg b0.1 b0.2) (by simpa using hb) ha (ev_fill_no ha) w
    · obtain ⟨g0, g1, g2, g3, g4⟩ := ev_fill (a := a0) b0.2 (by omega)
      exact walk_zp doesV isV (fillV a0) a0 a1 b1 does_all is_any (fill_any a0 b0.1 b0.2) (op_1 a0 a1) (op_2 a0 a1) (op_3 a0 a1) (op_4 a0 a1) (op_5 a0 a1) (ev_sub b0.1 b0.2) (ev_and_or a0 a1) (ev_xor b0.1 b0.2) (ev_neg b0.1 b0.2) (by simpa using hb) (by omega) g0 g1 g2 g3 g4 w
  · by_cases ha : a0 ≤ 0
    · exact walk_bn doesV isV (fillV a0) a0 a1 b1 does_all is_any (fill_any a0 b0.1 b0.2) (op_1 a0 a1) (op_2 a0 a1) (op_3 a0 a1) (op_4 a0 a1) (op_5 a0 a1) (ev_sub b0.1 b0.2) (ev_and_or a0 a1) (ev_xor b0.1 b0.2) (ev_neg b0.1 b0.2) (by simpa using hb) (ev_div b0.1 b0.2 hb) ha (ev_fill_no ha) w
    · obtain ⟨g0, g1, g2, g3, g4⟩ := ev_fill (a := a0) b0.2 (by omega)
      exact walk_bp doesV isV (fillV a0) a0 a1 b1 does_all is_any (fill_any a0 b0.1 b0.2) (op_1 a0 a1) (op_2 a0 a1) (op_3 a0 a1) (op_4 a0 a1) (op_5 a0 a1) (ev_sub b0.1 b0.2) (ev_and_or a0 a1) (ev_xor b0.1 b0.2) (ev_neg b0.1 b0.2) (by simpa using hb) (ev_div b0.1 b0.2 hb) (by omega) g0 g1 g2 g3 g4 w

set_option maxRecDepth 100000 in
theorem lifted (os : Os) (started : os.Started) (H : Type) (enc : TypeId × Value → H) :
    ReturnsInHanded {} Try.checked os 4 .any (Rows.opEvenSpec.pre6 enc Try.prog Try.f4 Rows.opEvenRow.domain false) (Rows.opEvenSpec.post enc Try.prog Try.f4 false true false false) := by
  refine returnsInHanded_of_change (C := Try.checked) own started (by kernel_rfl) Try.func4
    (ChangeSpec.witness6 (enc := enc) (C := Try.checked) false ⟨#[], #[.int .i64 0, .int .i64 0], []⟩ 8 (by kernel_rfl) (by kernel_rfl) (by kernel_rfl) (by kernel_rfl)) ?_
  intro W base args ds gs before hval0 hW hcnd _
  have hval : ∀ (j : Nat) t v, Try.f4.params[j]? = some t → args[j]? = some v → Value.okWide Try.prog W .any base t v := hval0
  have hW' := hW
  obtain ⟨p, q, hA0, hV, rfl, hfz, hnd⟩ := hW
  have hA : DataW.TrodAll enc Try.prog W 0 (fun _ => true) true Try.f4.params.toList args.toList ds p := hA0
  rw [Try.params4] at hA hval
  obtain ⟨v0, vs0, d0, ds0, p0, q0, hargs, rfl, rfl, h0, r0⟩ := trodAll_cons hA
  obtain ⟨v1, vs1, d1, ds1, p1, q1, rfl, rfl, rfl, h1, r1⟩ := trodAll_cons r0
  obtain ⟨rfl, rfl, rfl⟩ := trodAll_nil r1
  obtain rfl : args = #[v0, v1] := by cases args; simp_all
  obtain ⟨rfl, rfl⟩ := trodVars_none hV
  obtain ⟨a0, rfl, rfl, rfl, w0⟩ := open_int Try.underlying2 (hval 0 2 v0 rfl rfl) h0
  obtain ⟨a1, rfl, rfl, rfl, w1⟩ := open_int Try.underlying2 (hval 1 2 v1 rfl rfl) h1
  clear hA0 hval0
  simp only [List.append_nil] at hW'
  refine (walk a0 a1 w0 w1 W).mono fun e W' ⟨he, hg⟩ => ?_
  subst he
  exact ⟨_, rfl, post_of_same (pa := []) (pv := []) hW' (fun _ _ _ => (trodAll_cons_mk (shut_bool Try.underlying4 _) trodAll_mk0)) (fun sp _ => (trodAll_cons_mk (shut_int Try.underlying2 w0) (trodAll_cons_mk (shut_int Try.underlying2 w1) trodAll_mk0))) (fun _ _ => rfl) rfl
    (hg.frame _) hg.2.1 (ok_one (by kernel_rfl) rfl (okWide_bool_mk Try.underlying4 _))⟩

theorem over : Rows.opEvenRow.holds Try.pinned (OpenSpec.ofChange Rows.opEvenSpec) :=
  OpenClaim.holds_of_wide 4 Try.f4 rfl rfl rfl rfl rfl rfl rfl ⟨rfl, rfl, rfl, rfl, rfl⟩ rfl rfl rfl rfl rfl (by kernel_rfl) Try.func4 (by kernel_rfl)
    (of_decide_eq_true (by kernel_rfl)) (by unfold Func.isWrapper; first | (rw [if_pos (by decide +kernel)]; kernel_rfl) | (rw [if_neg (by decide +kernel)]; exact ⟨rfl, rfl⟩))
    (fun os started H enc _ => lifted os started H enc)

theorem proved : Rows.OpEvenSaid :=
  over
#print axioms proved
end opEven

theorem opEven_holds : Rows.OpEvenSaid := opEven.proved
end Go.Proofs.Ytbjpphbcakkmdaa
