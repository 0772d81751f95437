/-
  Plain facts on numbers of 64 bits: what the codes of package op make of two numbers, bit by bit, as one function on integers; no program is named here. No conditions.
-/
import Derived.WalkKit
import Derived.Test.YtegeiicginpdbaaDoorOpLen
namespace Go.Proofs.YtegeiicginpdbaaDoor
open Go.RowKit

/-- A number without its sign. -/
def uns (a : Int) : Nat := (a % 18446744073709551616).toNat
theorem uns_lt (a : Int) : uns a < 18446744073709551616 := by unfold uns; omega
theorem uns_wrap (a : Int) : IntKind.u64.wrap a = (uns a : Int) := by rw [IntKind.wrap_u64]; unfold uns; omega
theorem uns_eq (a : Int) : (uns a : Int) = a % 18446744073709551616 := by unfold uns; omega
theorem uns_zero {b : Int} (h0 : -9223372036854775808 ≤ b) (h1 : b ≤ 9223372036854775807) : uns b = 0 ↔ b = 0 := by unfold uns; omega
theorem wrap64_emod (n : Int) : wrap64 (n % 18446744073709551616) = wrap64 n := by unfold wrap64; omega
theorem wrap64_of {m n : Int} (h : m % 18446744073709551616 = n % 18446744073709551616) : wrap64 m = wrap64 n := by
  rw [← wrap64_emod m, h, wrap64_emod]
theorem wrap64_u (n : Int) : wrap64 (IntKind.u64.wrap n) = wrap64 n := by rw [IntKind.wrap_u64]; exact wrap64_emod n
theorem wrap64_in {n : Int} (h0 : -9223372036854775808 ≤ n) (h1 : n ≤ 9223372036854775807) : wrap64 n = n := by unfold wrap64; omega
theorem wrap64_bd (n : Int) : -9223372036854775808 ≤ wrap64 n ∧ wrap64 n ≤ 9223372036854775807 := by unfold wrap64; omega
theorem wrap64_uns (a : Int) : wrap64 (uns a : Int) = wrap64 a := by rw [uns_eq]; exact wrap64_emod a

theorem ofInt_toNat (a : Int) : (BitVec.ofInt 64 a).toNat = uns a := by
  rw [BitVec.toNat_ofInt]; rfl
theorem bits_and_i64 (a b : Int) : bits .and .i64 a b = wrap64 ((uns a &&& uns b : Nat) : Int) := by
  show IntKind.i64.wrap ((BitVec.ofInt 64 a &&& BitVec.ofInt 64 b).toNat : Int) = _
  rw [BitVec.toNat_and, ofInt_toNat, ofInt_toNat, IntWalk.i64_left]
theorem bits_or_i64 (a b : Int) : bits .or .i64 a b = wrap64 ((uns a ||| uns b : Nat) : Int) := by
  show IntKind.i64.wrap ((BitVec.ofInt 64 a ||| BitVec.ofInt 64 b).toNat : Int) = _
  rw [BitVec.toNat_or, ofInt_toNat, ofInt_toNat, IntWalk.i64_left]
theorem bits_xor_i64 (a b : Int) : bits .xor .i64 a b = wrap64 ((uns a ^^^ uns b : Nat) : Int) := by
  show IntKind.i64.wrap ((BitVec.ofInt 64 a ^^^ BitVec.ofInt 64 b).toNat : Int) = _
  rw [BitVec.toNat_xor, ofInt_toNat, ofInt_toNat, IntWalk.i64_left]
theorem and63 (b : Int) : bits .and .i64 b 63 = b % 64 := by
  rw [bits_and_i64]
  have e : uns b &&& uns 63 = uns b % 64 := by
    show uns b &&& 63 = _
    exact Nat.and_two_pow_sub_one_eq_mod (uns b) 6
  rw [e]
  unfold uns wrap64
  omega

/-- By how much is shifted. -/
def sixBits (b : Int) : Nat := (b % 64).toNat
theorem sixBits_lt (b : Int) : sixBits b < 64 := by unfold sixBits; omega
theorem sixBits_uns (b : Int) : uns b % 64 = sixBits b := by unfold sixBits uns; omega

/-- What a code makes of two numbers. -/
def doesV (c a b : Int) : Int :=
  if c = 1 then b else if c = 2 then wrap64 (a + b) else if c = 3 then wrap64 (a - b) else if c = 4 then wrap64 (a * b)
  else if c = 5 then (if b = 0 then 0 else wrap64 ((uns a / uns b : Nat) : Int))
  else if c = 6 then (if b = 0 then a else wrap64 ((uns a % uns b : Nat) : Int))
  else if c = 7 then wrap64 ((uns a &&& uns b : Nat) : Int) else if c = 8 then wrap64 ((uns a ||| uns b : Nat) : Int)
  else if c = 9 then wrap64 ((uns a ^^^ uns b : Nat) : Int)
  else if c = 10 then wrap64 (a * 2 ^ sixBits b) else if c = 11 then wrap64 ((uns a / 2 ^ sixBits b : Nat) : Int)
  else if c = 12 then a / 2 ^ sixBits b else if c = 13 then wrap64 (-a) else 0

/-- Whether what a code asks is so. -/
def isV (c a b : Int) : Bool :=
  if c = 15 then decide (a = b) else if c = 16 then !decide (a = b)
  else if c = 17 then decide (uns b < uns a) else if c = 18 then decide (uns b ≤ uns a)
  else if c = 19 then decide (uns a < uns b) else if c = 20 then decide (uns a ≤ uns b)
  else if c = 21 then decide (b < a) else if c = 22 then decide (b ≤ a)
  else if c = 23 then decide (a < b) else if c = 24 then decide (a ≤ b) else false

theorem doesV_1 (a b : Int) : doesV 1 a b = b := by simp only [doesV, reduceIte, Int.reduceEq]
theorem doesV_2 (a b : Int) : doesV 2 a b = wrap64 (a + b) := by simp only [doesV, reduceIte, Int.reduceEq]
theorem doesV_3 (a b : Int) : doesV 3 a b = wrap64 (a - b) := by simp only [doesV, reduceIte, Int.reduceEq]
theorem doesV_4 (a b : Int) : doesV 4 a b = wrap64 (a * b) := by simp only [doesV, reduceIte, Int.reduceEq]
theorem doesV_7 (a b : Int) : doesV 7 a b = wrap64 ((uns a &&& uns b : Nat) : Int) := by simp only [doesV, reduceIte, Int.reduceEq]
theorem doesV_8 (a b : Int) : doesV 8 a b = wrap64 ((uns a ||| uns b : Nat) : Int) := by simp only [doesV, reduceIte, Int.reduceEq]
theorem doesV_9 (a b : Int) : doesV 9 a b = wrap64 ((uns a ^^^ uns b : Nat) : Int) := by simp only [doesV, reduceIte, Int.reduceEq]
theorem doesV_10 (a b : Int) : doesV 10 a b = wrap64 (a * 2 ^ sixBits b) := by simp only [doesV, reduceIte, Int.reduceEq]
theorem doesV_11 (a b : Int) : doesV 11 a b = wrap64 ((uns a / 2 ^ sixBits b : Nat) : Int) := by simp only [doesV, reduceIte, Int.reduceEq]
theorem doesV_12 (a b : Int) : doesV 12 a b = a / 2 ^ sixBits b := by simp only [doesV, reduceIte, Int.reduceEq]
theorem doesV_13 (a b : Int) : doesV 13 a b = wrap64 (-a) := by simp only [doesV, reduceIte, Int.reduceEq]
theorem doesV_5 (a : Int) {b : Int} (h : b ≠ 0) : doesV 5 a b = wrap64 ((uns a / uns b : Nat) : Int) := by simp only [doesV, reduceIte, Int.reduceEq, if_neg h]
theorem doesV_5z (a : Int) : doesV 5 a 0 = 0 := by simp only [doesV, reduceIte, Int.reduceEq]
theorem doesV_6 (a : Int) {b : Int} (h : b ≠ 0) : doesV 6 a b = wrap64 ((uns a % uns b : Nat) : Int) := by simp only [doesV, reduceIte, Int.reduceEq, if_neg h]
theorem doesV_6z (a : Int) : doesV 6 a 0 = a := by simp only [doesV, reduceIte, Int.reduceEq]
theorem doesV_no {c : Int} (a b : Int) (h : c < 1 ∨ 13 < c) : doesV c a b = 0 := by
  have e : ∀ k : Int, 1 ≤ k → k ≤ 13 → c ≠ k := fun k h1 h2 => by omega
  unfold doesV
  rw [if_neg (e 1 (by decide) (by decide)), if_neg (e 2 (by decide) (by decide)), if_neg (e 3 (by decide) (by decide)), if_neg (e 4 (by decide) (by decide)), if_neg (e 5 (by decide) (by decide)), if_neg (e 6 (by decide) (by decide)), if_neg (e 7 (by decide) (by decide)), if_neg (e 8 (by decide) (by decide)), if_neg (e 9 (by decide) (by decide)), if_neg (e 10 (by decide) (by decide)), if_neg (e 11 (by decide) (by decide)), if_neg (e 12 (by decide) (by decide)), if_neg (e 13 (by decide) (by decide))]
theorem isV_15 (a b : Int) : isV 15 a b = (decide (a = b)) := by simp only [isV, reduceIte, Int.reduceEq]
theorem isV_16 (a b : Int) : isV 16 a b = (!decide (a = b)) := by simp only [isV, reduceIte, Int.reduceEq]
theorem isV_17 (a b : Int) : isV 17 a b = (decide (uns b < uns a)) := by simp only [isV, reduceIte, Int.reduceEq]
theorem isV_18 (a b : Int) : isV 18 a b = (decide (uns b ≤ uns a)) := by simp only [isV, reduceIte, Int.reduceEq]
theorem isV_19 (a b : Int) : isV 19 a b = (decide (uns a < uns b)) := by simp only [isV, reduceIte, Int.reduceEq]
theorem isV_20 (a b : Int) : isV 20 a b = (decide (uns a ≤ uns b)) := by simp only [isV, reduceIte, Int.reduceEq]
theorem isV_21 (a b : Int) : isV 21 a b = (decide (b < a)) := by simp only [isV, reduceIte, Int.reduceEq]
theorem isV_22 (a b : Int) : isV 22 a b = (decide (b ≤ a)) := by simp only [isV, reduceIte, Int.reduceEq]
theorem isV_23 (a b : Int) : isV 23 a b = (decide (a < b)) := by simp only [isV, reduceIte, Int.reduceEq]
theorem isV_24 (a b : Int) : isV 24 a b = (decide (a ≤ b)) := by simp only [isV, reduceIte, Int.reduceEq]
theorem isV_no {c : Int} (a b : Int) (h : c < 15 ∨ 24 < c) : isV c a b = false := by
  have e : ∀ k : Int, 15 ≤ k → k ≤ 24 → c ≠ k := fun k h1 h2 => by omega
  unfold isV
  rw [if_neg (e 15 (by decide) (by decide)), if_neg (e 16 (by decide) (by decide)), if_neg (e 17 (by decide) (by decide)), if_neg (e 18 (by decide) (by decide)), if_neg (e 19 (by decide) (by decide)), if_neg (e 20 (by decide) (by decide)), if_neg (e 21 (by decide) (by decide)), if_neg (e 22 (by decide) (by decide)), if_neg (e 23 (by decide) (by decide)), if_neg (e 24 (by decide) (by decide))]

theorem shr_u (a b : Int) : wrap64 (IntKind.u64.wrap a / 2 ^ (b % 64).toNat) = wrap64 ((uns a / 2 ^ sixBits b : Nat) : Int) := by
  rw [uns_wrap, Int.natCast_ediv, Int.natCast_pow]; rfl

/-! ### Bits, one by one -/
def pw (j : Nat) : Nat := 2 ^ j % 18446744073709551616
theorem pw_small {j : Nat} (h : j < 64) : pw j = 2 ^ j := by
  unfold pw; exact Nat.mod_eq_of_lt (Nat.lt_of_lt_of_le (Nat.pow_lt_pow_right (by decide) h) (by decide))
theorem pw_succ (j : Nat) : pw (j + 1) = pw j * 2 % 18446744073709551616 := by
  unfold pw; rw [Nat.pow_succ, Nat.mod_mul_mod]
theorem pw_le {j : Nat} (h : j < 64) : pw j ≤ 9223372036854775808 := by
  rw [pw_small h]; exact Nat.pow_le_pow_right (n := 2) (i := j) (j := 63) (by decide) (by omega)
theorem pw_zero : pw 0 = 1 := rfl
theorem pw_pos {j : Nat} (h : j < 64) : 0 < pw j := by rw [pw_small h]; exact Nat.two_pow_pos j
theorem pw_half {j : Nat} (h : j < 63) : pw j * 2 < 18446744073709551616 := by
  rw [pw_small (by omega)]
  have := Nat.pow_le_pow_right (n := 2) (i := j) (j := 62) (by decide) (by omega)
  omega

def hi (x j : Nat) : Nat := x / 2 ^ j
def lo (x j : Nat) : Nat := x % 2 ^ j
theorem hi_zero (x : Nat) : hi x 0 = x := by simp [hi]
theorem lo_zero (x : Nat) : lo x 0 = 0 := by simp [lo, Nat.mod_one]
theorem hi_succ (x j : Nat) : hi x (j + 1) = hi x j / 2 := by unfold hi; rw [Nat.pow_succ, Nat.div_div_eq_div_mul]
theorem hi_le (x j : Nat) : hi x j ≤ x := Nat.div_le_self _ _
theorem lo_succ (x j : Nat) : lo x (j + 1) = lo x j + hi x j % 2 * 2 ^ j := by
  unfold lo hi; rw [Nat.pow_succ, Nat.mod_mul, Nat.mul_comm (2 ^ j)]
theorem lo_lt {x j : Nat} : lo x j < 2 ^ j := Nat.mod_lt _ (Nat.two_pow_pos j)
theorem lo_all {x : Nat} (h : x < 18446744073709551616) : lo x 64 = x := Nat.mod_eq_of_lt h
theorem hi_bit (x j : Nat) : hi x j % 2 = (x.testBit j).toNat := by
  unfold hi; rw [Nat.testBit_eq_decide_div_mod_eq]
  have := Nat.mod_two_eq_zero_or_one (x / 2 ^ j)
  rcases this with h | h <;> simp [h]
theorem hi_and (x y j : Nat) : hi (x &&& y) j % 2 = hi x j % 2 * (hi y j % 2) := by
  rw [hi_bit, hi_bit, hi_bit, Nat.testBit_and]; cases x.testBit j <;> cases y.testBit j <;> rfl
theorem hi_or (x y j : Nat) : hi (x ||| y) j % 2 = max (hi x j % 2) (hi y j % 2) := by
  rw [hi_bit, hi_bit, hi_bit, Nat.testBit_or]; cases x.testBit j <;> cases y.testBit j <;> rfl
theorem hi_xor (x y j : Nat) : hi (x ^^^ y) j % 2 = (hi x j % 2 + hi y j % 2) % 2 := by
  rw [hi_bit, hi_bit, hi_bit, Nat.testBit_xor]; cases x.testBit j <;> cases y.testBit j <;> rfl

/-- A number shifted with its sign. -/
def sh (a : Int) (j : Nat) : Int := a / 2 ^ j
theorem sh_zero (a : Int) : sh a 0 = a := by simp [sh]
theorem two_pow_pos' (j : Nat) : (0 : Int) < 2 ^ j := Int.pow_pos (by decide)
theorem sh_succ (a : Int) (j : Nat) : sh a (j + 1) = sh a j / 2 := by
  unfold sh; rw [Int.pow_succ, Int.ediv_ediv_of_nonneg (Int.le_of_lt (two_pow_pos' j))]
theorem sh_bd {a : Int} (h0 : -9223372036854775808 ≤ a) (h1 : a ≤ 9223372036854775807) : ∀ j, -9223372036854775808 ≤ sh a j ∧ sh a j ≤ 9223372036854775807
  | 0 => by rw [sh_zero]; exact ⟨h0, h1⟩
  | j + 1 => by have := sh_bd h0 h1 j; rw [sh_succ]; omega

/-! ### Ones alone -/
def ones (j : Nat) : Nat := 2 ^ j - 1
theorem ones_succ (j : Nat) : ones (j + 1) = ones j * 2 + 1 := by
  unfold ones; have := Nat.two_pow_pos j; rw [Nat.pow_succ]; omega
theorem ones_lt {j : Nat} (h : j ≤ 63) : ones j ≤ 9223372036854775807 := by
  unfold ones; have := Nat.pow_le_pow_right (n := 2) (i := j) (j := 63) (by decide) h; omega
theorem ones_ge (j : Nat) : j ≤ ones j := by
  have : ∀ j : Nat, j < 2 ^ j := fun j => Nat.lt_two_pow_self
  have := this j; unfold ones; omega

/-- The least number of ones alone that is not below a number. -/
def fillV (n : Int) : Int := (ones (lenV n.toNat) : Int)
theorem tdiv2_even {x : Int} (h : x % 2 = 0) : x.tdiv 2 = x / 2 := by
  rw [Int.tdiv_eq_ediv, if_pos (Or.inr (by omega))]; omega
theorem tdiv2_pos {x : Int} (h : 0 ≤ x) : x.tdiv 2 = x / 2 := Int.tdiv_eq_ediv_of_nonneg h
theorem tdiv2_odd {x : Int} (h : x < 0) (h2 : x % 2 = 1) : x.tdiv 2 = x / 2 + 1 := by
  rw [Int.tdiv_eq_ediv, if_neg (by omega)]; rfl
theorem tmod2_even {x : Int} (h : x % 2 = 0) : x.tmod 2 = 0 := by
  have := Int.mul_tdiv_add_tmod x 2; rw [tdiv2_even h] at this; omega
theorem tmod2_odd {x : Int} (h : x < 0) (h2 : x % 2 = 1) : x.tmod 2 = -1 := by
  have := Int.mul_tdiv_add_tmod x 2; rw [tdiv2_odd h h2] at this; omega
theorem fill_eq (m : Nat) (hl : lenV m ≤ 63) : wrap64 (IntKind.u64.wrap (IntKind.u64.wrap (2 ^ lenV m) - 1)) = fillV (m : Int) := by
  have e : ((2 : Int) ^ lenV m) = ((2 ^ lenV m : Nat) : Int) := by rw [Int.natCast_pow]; rfl
  have h1 := Nat.pow_le_pow_right (n := 2) (i := lenV m) (j := 63) (by decide) hl
  have h2 := Nat.two_pow_pos (lenV m)
  unfold fillV ones
  rw [Int.toNat_natCast, e, IntKind.wrap_u64, IntKind.wrap_u64]
  unfold wrap64
  omega
theorem pw_two {j : Nat} (h : j < 63) : pw (j + 1) = pw j * 2 := by
  rw [pw_succ]; exact Nat.mod_eq_of_lt (pw_half h)

theorem bit_and {x y j : Nat} (hj : j < 64) {u v : Nat} (hu : hi x j % 2 = u) (hv : hi y j % 2 = v) : lo (x &&& y) (j + 1) = lo (x &&& y) j + u * v * pw j := by
  rw [lo_succ, hi_and, hu, hv, pw_small hj]
theorem bit_or {x y j : Nat} (hj : j < 64) {u v : Nat} (hu : hi x j % 2 = u) (hv : hi y j % 2 = v) : lo (x ||| y) (j + 1) = lo (x ||| y) j + max u v * pw j := by
  rw [lo_succ, hi_or, hu, hv, pw_small hj]
theorem bit_xor {x y j : Nat} (hj : j < 64) {u v : Nat} (hu : hi x j % 2 = u) (hv : hi y j % 2 = v) : lo (x ^^^ y) (j + 1) = lo (x ^^^ y) j + (u + v) % 2 * pw j := by
  rw [lo_succ, hi_xor, hu, hv, pw_small hj]
theorem lo_room {z j : Nat} (hj : j < 64) : lo z j + pw j < 18446744073709551616 := by
  rw [pw_small hj]
  have a := lo_lt (x := z) (j := j)
  have b := Nat.pow_le_pow_right (n := 2) (i := j) (j := 63) (by decide) (by omega)
  omega
theorem pw_wrap (j : Nat) : IntKind.u64.wrap ((pw j : Int) * 2) = (pw (j + 1) : Int) := by
  rw [pw_succ, IntKind.wrap_u64]; omega

theorem len_63 {n : Int} (h : n ≤ 9223372036854775807) : lenV n.toNat ≤ 63 := lenV_le (Nat.lt_of_lt_of_eq (show n.toNat < 9223372036854775808 by omega) (by decide))
theorem len_more {n : Int} {j : Nat} (h : ones j < n.toNat) : j + 1 ≤ lenV n.toNat := by
  have a := lenV_hi n.toNat
  have b : 2 ^ j < 2 ^ lenV n.toNat := by unfold ones at h; omega
  exact (Nat.pow_lt_pow_iff_right (by decide : 1 < 2)).1 b
theorem len_same {n : Int} {j : Nat} (hj : j ≤ lenV n.toNat) (h : ¬ (ones j : Int) < n) : j = lenV n.toNat := by
  have a : n.toNat < 2 ^ j := by have := Nat.two_pow_pos j; unfold ones at h; omega
  have b := lenV_le a
  omega

/-! ### What the document's answer comes to -/
theorem r_mov {b : Int} {Y : Nat} (h0 : -9223372036854775808 ≤ b) (h1 : b ≤ 9223372036854775807) (hb : IntKind.u64.wrap b = (Y : Int)) : wrap64 (Y : Int) = b := by
  rw [← hb, wrap64_u, wrap64_in h0 h1]
theorem r_add {a b : Int} {X Y : Nat} (ha : IntKind.u64.wrap a = (X : Int)) (hb : IntKind.u64.wrap b = (Y : Int)) : wrap64 (IntKind.u64.wrap ((X : Int) + Y)) = wrap64 (a + b) := by
  rw [wrap64_u, ← ha, ← hb, IntKind.wrap_u64, IntKind.wrap_u64]; exact wrap64_of (Int.add_emod _ _ _).symm
theorem r_sub {a b : Int} {X Y : Nat} (ha : IntKind.u64.wrap a = (X : Int)) (hb : IntKind.u64.wrap b = (Y : Int)) : wrap64 (IntKind.u64.wrap ((X : Int) - Y)) = wrap64 (a - b) := by
  rw [wrap64_u, ← ha, ← hb, IntKind.wrap_u64, IntKind.wrap_u64]; exact wrap64_of (Int.sub_emod _ _ _).symm
theorem r_mul {a b : Int} {X Y : Nat} (ha : IntKind.u64.wrap a = (X : Int)) (hb : IntKind.u64.wrap b = (Y : Int)) : wrap64 (IntKind.u64.wrap ((X : Int) * Y)) = wrap64 (a * b) := by
  rw [wrap64_u, ← ha, ← hb, IntKind.wrap_u64, IntKind.wrap_u64]; exact wrap64_of (Int.mul_emod _ _ _).symm
theorem r_neg {a : Int} {X : Nat} (ha : IntKind.u64.wrap a = (X : Int)) : wrap64 (IntKind.u64.wrap (-(X : Int))) = wrap64 (-a) := by
  rw [wrap64_u, ← ha, IntKind.wrap_u64]; apply wrap64_of; omega
theorem r_lsh {a b : Int} {X Y : Nat} (ha : IntKind.u64.wrap a = (X : Int)) (hs : Y % 64 = sixBits b) : wrap64 (IntKind.u64.wrap ((X : Int) * (pw (Y % 64) : Int))) = wrap64 (a * 2 ^ sixBits b) := by
  rw [hs, pw_small (sixBits_lt b), wrap64_u, ← ha, IntKind.wrap_u64, Int.natCast_pow]
  apply wrap64_of
  rw [Int.mul_emod, Int.emod_emod, ← Int.mul_emod]; rfl
theorem r_rsh {b : Int} {X Y : Nat} (hs : Y % 64 = sixBits b) : wrap64 (IntKind.u64.wrap ((X : Int) / (pw (Y % 64) : Int))) = wrap64 ((X / 2 ^ sixBits b : Nat) : Int) := by
  rw [hs, pw_small (sixBits_lt b), wrap64_u, Int.natCast_ediv]
end Go.Proofs.YtegeiicginpdbaaDoor
