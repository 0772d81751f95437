/-
  Plain facts on bounds: between which numbers is what a code makes of two numbers, and what is left of two bounds by what a code asks, as functions on integers; no program is named here. No conditions.
-/
import Derived.Test.YtegeiicginpdbaaDoorOpNum
namespace Go.Proofs.YtegeiicginpdbaaDoor
open Go.RowKit

/-- A number fits in 64 bits. -/
def fits (n : Int) : Bool := decide (-9223372036854775808 ≤ n) && decide (n ≤ 9223372036854775807)
theorem fits_iff (n : Int) : fits n = true ↔ -9223372036854775808 ≤ n ∧ n ≤ 9223372036854775807 := by simp [fits]
theorem fits_no (n : Int) : fits n = false ↔ n < -9223372036854775808 ∨ 9223372036854775807 < n := by
  rw [← Bool.not_eq_true, fits_iff]; omega
/-- What lies between two ends; all, if one of them does not fit. -/
def fit2 (x y : Int) : Int × Int := if fits x && fits y then (x, y) else (-9223372036854775808, 9223372036854775807)
theorem fit2_yes {x y : Int} (h : (fits x && fits y) = true) : fit2 x y = (x, y) := by unfold fit2; rw [if_pos h]
theorem fit2_no {x y : Int} (h : (fits x && fits y) = false) : fit2 x y = (-9223372036854775808, 9223372036854775807) := by unfold fit2; rw [h]; rfl
theorem plus_fits {a b : Int} (h0 : -9223372036854775808 ≤ a) (h1 : a ≤ 9223372036854775807) (h2 : -9223372036854775808 ≤ b) (h3 : b ≤ 9223372036854775807) :
    (decide (a ≤ wrap64 (a + b)) == decide (0 ≤ b)) = fits (a + b) := by
  rw [Bool.eq_iff_iff, fits_iff, beq_iff_eq, Bool.eq_iff_iff, decide_eq_true_eq, decide_eq_true_eq]
  unfold wrap64
  omega
theorem minus_fits {a b : Int} (h0 : -9223372036854775808 ≤ a) (h1 : a ≤ 9223372036854775807) (h2 : -9223372036854775808 ≤ b) (h3 : b ≤ 9223372036854775807) :
    (decide (wrap64 (a - b) ≤ a) == decide (0 ≤ b)) = fits (a - b) := by
  rw [Bool.eq_iff_iff, fits_iff, beq_iff_eq, Bool.eq_iff_iff, decide_eq_true_eq, decide_eq_true_eq]
  unfold wrap64
  omega
theorem fit2_1 (u v : Int) : (if fits u && fits v then wrap64 u else -9223372036854775808) = (fit2 u v).1 := by
  cases h : fits u && fits v
  · rw [fit2_no h]; rfl
  · rw [fit2_yes h]
    simp only [Bool.and_eq_true, fits_iff] at h
    exact wrap64_in h.1.1 h.1.2
theorem fit2_2 (u v : Int) : (if fits u && fits v then wrap64 v else 9223372036854775807) = (fit2 u v).2 := by
  cases h : fits u && fits v
  · rw [fit2_no h]; rfl
  · rw [fit2_yes h]
    simp only [Bool.and_eq_true, fits_iff] at h
    exact wrap64_in h.2.1 h.2.2
/-- A number times a power of two is the same again on the way back, just if it fits. -/
theorem back_fits {a : Int} {k : Nat} (hk : k < 64) : (wrap64 (a * 2 ^ k) / 2 ^ k == a) = fits (a * 2 ^ k) := by
  have hp : (0 : Int) < 2 ^ k := Int.pow_pos (by decide)
  have hd : ∃ q : Int, wrap64 (a * 2 ^ k) = q * 2 ^ k := by
    have e : wrap64 (a * 2 ^ k) = a * 2 ^ k - 18446744073709551616 * ((a * 2 ^ k + 9223372036854775808) / 18446744073709551616) := by unfold wrap64; omega
    have e2 : (18446744073709551616 : Int) = 2 ^ (64 - k) * 2 ^ k := by
      rw [← Int.pow_add, show 64 - k + k = 64 by omega]; rfl
    refine ⟨a - 2 ^ (64 - k) * ((a * 2 ^ k + 9223372036854775808) / 18446744073709551616), ?_⟩
    rw [e, Int.sub_mul, Int.mul_right_comm, ← e2]
  obtain ⟨q, hq⟩ := hd
  have hb := wrap64_bd (a * 2 ^ k)
  rw [Bool.eq_iff_iff, beq_iff_eq, fits_iff]
  constructor
  · intro h
    rw [hq, Int.mul_ediv_cancel _ (by omega)] at h
    rw [hq, h] at hb
    exact hb
  · intro h
    rw [wrap64_in h.1 h.2, Int.mul_ediv_cancel _ (by omega)]

/-- Whether a number is so small that products fit. -/
def smallB (n : Int) : Bool := decide (-2147483648 ≤ n) && decide (n ≤ 2147483648)
theorem small_iff (n : Int) : smallB n = true ↔ -2147483648 ≤ n ∧ n ≤ 2147483648 := by simp [smallB]
def mulLo (al ah bl bh : Int) : Int := min (min (min (al * bl) (al * bh)) (ah * bl)) (ah * bh)
def mulHi (al ah bl bh : Int) : Int := max (max (max (al * bl) (al * bh)) (ah * bl)) (ah * bh)
/-- Between which numbers is what a code makes of numbers. -/
def bdV (c al ah bl bh : Int) : Int × Int :=
  if c = 1 then (bl, bh)
  else if c = 2 then fit2 (al + bl) (ah + bh)
  else if c = 3 then fit2 (al - bh) (ah - bl)
  else if c = 4 then (if smallB al && smallB ah && smallB bl && smallB bh then (mulLo al ah bl bh, mulHi al ah bl bh) else (-9223372036854775808, 9223372036854775807))
  else if c = 5 then (if 0 ≤ al ∧ 0 ≤ bl then (if 0 < bl then (al / bh, ah / bl) else (0, ah)) else (-9223372036854775808, 9223372036854775807))
  else if c = 6 then (if 0 ≤ al ∧ 0 ≤ bl then (if 0 < bl then (0, min ah (bh - 1)) else (0, ah)) else (-9223372036854775808, 9223372036854775807))
  else if c = 7 then (if 0 ≤ al then (if 0 ≤ bl then (0, min ah bh) else (0, ah)) else if 0 ≤ bl then (0, bh) else (-9223372036854775808, 9223372036854775807))
  else if c = 8 then (if 0 ≤ al ∧ 0 ≤ bl then (max al bl, fillV (max ah bh)) else (-9223372036854775808, 9223372036854775807))
  else if c = 9 then (if 0 ≤ al ∧ 0 ≤ bl then (0, fillV (max ah bh)) else (-9223372036854775808, 9223372036854775807))
  else if c = 10 then (if bl = bh then fit2 (al * 2 ^ sixBits bl) (ah * 2 ^ sixBits bl) else (-9223372036854775808, 9223372036854775807))
  else if c = 11 then (if bl = bh then (if sixBits bl = 0 then (al, ah) else if 0 ≤ al then (al / 2 ^ sixBits bl, ah / 2 ^ sixBits bl) else (0, 2 ^ (64 - sixBits bl) - 1)) else if 0 ≤ al then (0, ah) else (-9223372036854775808, 9223372036854775807))
  else if c = 12 then (if bl = bh then (al / 2 ^ sixBits bl, ah / 2 ^ sixBits bl) else if 0 ≤ al then (0, ah) else if ah < 0 then (al, -1) else (al, ah))
  else if c = 13 then fit2 (-ah) (-al)
  else (-9223372036854775808, 9223372036854775807)
theorem bdV_1 (al ah bl bh : Int) : bdV 1 al ah bl bh = (bl, bh) := by simp only [bdV, reduceIte, Int.reduceEq]
theorem bdV_2 (al ah bl bh : Int) : bdV 2 al ah bl bh = fit2 (al + bl) (ah + bh) := by simp only [bdV, reduceIte, Int.reduceEq]
theorem bdV_3 (al ah bl bh : Int) : bdV 3 al ah bl bh = fit2 (al - bh) (ah - bl) := by simp only [bdV, reduceIte, Int.reduceEq]
theorem bdV_4 (al ah bl bh : Int) : bdV 4 al ah bl bh = (if smallB al && smallB ah && smallB bl && smallB bh then (mulLo al ah bl bh, mulHi al ah bl bh) else (-9223372036854775808, 9223372036854775807)) := by simp only [bdV, reduceIte, Int.reduceEq]
theorem bdV_5 (al ah bl bh : Int) : bdV 5 al ah bl bh = (if 0 ≤ al ∧ 0 ≤ bl then (if 0 < bl then (al / bh, ah / bl) else (0, ah)) else (-9223372036854775808, 9223372036854775807)) := by simp only [bdV, reduceIte, Int.reduceEq]
theorem bdV_6 (al ah bl bh : Int) : bdV 6 al ah bl bh = (if 0 ≤ al ∧ 0 ≤ bl then (if 0 < bl then (0, min ah (bh - 1)) else (0, ah)) else (-9223372036854775808, 9223372036854775807)) := by simp only [bdV, reduceIte, Int.reduceEq]
theorem bdV_7 (al ah bl bh : Int) : bdV 7 al ah bl bh = (if 0 ≤ al then (if 0 ≤ bl then (0, min ah bh) else (0, ah)) else if 0 ≤ bl then (0, bh) else (-9223372036854775808, 9223372036854775807)) := by simp only [bdV, reduceIte, Int.reduceEq]
theorem bdV_8 (al ah bl bh : Int) : bdV 8 al ah bl bh = (if 0 ≤ al ∧ 0 ≤ bl then (max al bl, fillV (max ah bh)) else (-9223372036854775808, 9223372036854775807)) := by simp only [bdV, reduceIte, Int.reduceEq]
theorem bdV_9 (al ah bl bh : Int) : bdV 9 al ah bl bh = (if 0 ≤ al ∧ 0 ≤ bl then (0, fillV (max ah bh)) else (-9223372036854775808, 9223372036854775807)) := by simp only [bdV, reduceIte, Int.reduceEq]
theorem bdV_10 (al ah bl bh : Int) : bdV 10 al ah bl bh = (if bl = bh then fit2 (al * 2 ^ sixBits bl) (ah * 2 ^ sixBits bl) else (-9223372036854775808, 9223372036854775807)) := by simp only [bdV, reduceIte, Int.reduceEq]
theorem bdV_11 (al ah bl bh : Int) : bdV 11 al ah bl bh = (if bl = bh then (if sixBits bl = 0 then (al, ah) else if 0 ≤ al then (al / 2 ^ sixBits bl, ah / 2 ^ sixBits bl) else (0, 2 ^ (64 - sixBits bl) - 1)) else if 0 ≤ al then (0, ah) else (-9223372036854775808, 9223372036854775807)) := by simp only [bdV, reduceIte, Int.reduceEq]
theorem bdV_12 (al ah bl bh : Int) : bdV 12 al ah bl bh = (if bl = bh then (al / 2 ^ sixBits bl, ah / 2 ^ sixBits bl) else if 0 ≤ al then (0, ah) else if ah < 0 then (al, -1) else (al, ah)) := by simp only [bdV, reduceIte, Int.reduceEq]
theorem bdV_13 (al ah bl bh : Int) : bdV 13 al ah bl bh = fit2 (-ah) (-al) := by simp only [bdV, reduceIte, Int.reduceEq]
theorem bdV_no {c : Int} (al ah bl bh : Int) (h : c < 1 ∨ 13 < c) : bdV c al ah bl bh = (-9223372036854775808, 9223372036854775807) := by
  have e : ∀ k : Int, 1 ≤ k → k ≤ 13 → c ≠ k := fun k h1 h2 => by omega
  unfold bdV
  rw [if_neg (e 1 (by decide) (by decide)), if_neg (e 2 (by decide) (by decide)), if_neg (e 3 (by decide) (by decide)), if_neg (e 4 (by decide) (by decide)), if_neg (e 5 (by decide) (by decide)), if_neg (e 6 (by decide) (by decide)), if_neg (e 7 (by decide) (by decide)), if_neg (e 8 (by decide) (by decide)), if_neg (e 9 (by decide) (by decide)), if_neg (e 10 (by decide) (by decide)), if_neg (e 11 (by decide) (by decide)), if_neg (e 12 (by decide) (by decide)), if_neg (e 13 (by decide) (by decide))]

/-! ### What codes make of the ends -/
theorem uns_pos {a : Int} (h0 : 0 ≤ a) (h1 : a ≤ 9223372036854775807) : (uns a : Int) = a := by rw [uns_eq]; omega
theorem div_ends {a b : Int} (h0 : 0 ≤ a) (h1 : a ≤ 9223372036854775807) (h2 : 0 < b) (h3 : b ≤ 9223372036854775807) : doesV 5 a b = a / b := by
  rw [doesV_5 a (by omega), Int.natCast_ediv, uns_pos h0 h1, uns_pos (by omega) h3]
  have l := Int.ediv_nonneg h0 (Int.le_of_lt h2)
  have g := Int.ediv_le_self b h0
  exact wrap64_in (by omega) (by omega)
theorem rsh_ends {a b : Int} (h0 : 0 ≤ a) (h1 : a ≤ 9223372036854775807) : doesV 11 a b = a / 2 ^ sixBits b := by
  have hp : (0 : Int) < 2 ^ sixBits b := Int.pow_pos (by decide)
  rw [doesV_11, Int.natCast_ediv, uns_pos h0 h1, Int.natCast_pow]
  have l := Int.ediv_nonneg h0 (Int.le_of_lt hp)
  have g := Int.ediv_le_self (2 ^ sixBits b) h0
  exact wrap64_in (Int.le_trans (by decide) l) (Int.le_trans g h1)
theorem rsh_none {a b : Int} (h0 : -9223372036854775808 ≤ a) (h1 : a ≤ 9223372036854775807) (h : sixBits b = 0) : doesV 11 a b = a := by
  rw [doesV_11, h, Nat.pow_zero, Nat.div_one, wrap64_uns, wrap64_in h0 h1]
theorem rsh_ones {b : Int} (h : sixBits b ≠ 0) : doesV 11 (-1) b = 2 ^ (64 - sixBits b) - 1 := by
  have hb := sixBits_lt b
  rw [doesV_11]
  generalize sixBits b = k at *
  have e : uns (-1) = 18446744073709551615 := by decide
  rw [e]
  have e2 : (18446744073709551616 : Nat) = 2 ^ (64 - k) * 2 ^ k := by rw [← Nat.pow_add, show 64 - k + k = 64 by omega]
  have hp : 0 < 2 ^ k := Nat.two_pow_pos k
  have e3 : 18446744073709551615 / 2 ^ k = 2 ^ (64 - k) - 1 := by
    have hq : 0 < 2 ^ (64 - k) := Nat.two_pow_pos _
    rw [show (18446744073709551615 : Nat) = 2 ^ k * (2 ^ (64 - k) - 1) + (2 ^ k - 1) by rw [Nat.mul_sub_one, Nat.mul_comm, ← e2]; have := Nat.le_mul_of_pos_left (2 ^ k) hq; omega, Nat.mul_add_div hp, Nat.div_eq_of_lt (by omega), Nat.add_zero]
  rw [e3]
  have hle : 2 ^ (64 - k) ≤ 2 ^ 63 := Nat.pow_le_pow_right (by decide) (by omega)
  have hq : 0 < 2 ^ (64 - k) := Nat.two_pow_pos _
  have e4 : ((2 ^ (64 - k) - 1 : Nat) : Int) = 2 ^ (64 - k) - 1 := by rw [Int.natCast_sub hq, Int.natCast_pow]; rfl
  rw [e4]
  have l1 : (2 : Int) ^ (64 - k) ≤ 9223372036854775808 := by
    have := Int.ofNat_le.2 hle
    rw [Int.natCast_pow] at this
    exact this
  have l2 : (1 : Int) ≤ 2 ^ (64 - k) := Int.pow_pos (by decide)
  exact wrap64_in (by omega) (by omega)
theorem sixBits_mod (b : Int) : sixBits (b % 64) = sixBits b := by unfold sixBits; omega
theorem small_mul {x y : Int} (hx : smallB x = true) (hy : smallB y = true) : wrap64 (x * y) = x * y := by
  rw [small_iff] at hx hy
  have h1 : (x * y).natAbs = x.natAbs * y.natAbs := Int.natAbs_mul x y
  have h2 : x.natAbs * y.natAbs ≤ 2147483648 * 2147483648 := Nat.mul_le_mul (by omega) (by omega)
  exact wrap64_in (by omega) (by omega)
end Go.Proofs.YtegeiicginpdbaaDoor
