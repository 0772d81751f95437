/-
  Plain facts on bounds: what a code makes of two numbers that two bounds have is between; no program is named here. Conditions: the numbers are of 64 bits, and between the ends.
-/
import Derived.Test.YtegeiicginpdbaaDoorBoundNum
namespace Go.Proofs.YtegeiicginpdbaaDoor
open Go.RowKit

theorem doesV_bd {c x y : Int} (hc : 1 ≤ c ∧ c ≤ 13) (px : -9223372036854775808 ≤ x) (qx : x ≤ 9223372036854775807) (py : -9223372036854775808 ≤ y) (qy : y ≤ 9223372036854775807) :
    -9223372036854775808 ≤ doesV c x y ∧ doesV c x y ≤ 9223372036854775807 := by
  have h : c = 1 ∨ c = 2 ∨ c = 3 ∨ c = 4 ∨ c = 5 ∨ c = 6 ∨ c = 7 ∨ c = 8 ∨ c = 9 ∨ c = 10 ∨ c = 11 ∨ c = 12 ∨ c = 13 := by omega
  rcases h with rfl | rfl | rfl | rfl | rfl | rfl | rfl | rfl | rfl | rfl | rfl | rfl | rfl
  · rw [doesV_1]; exact ⟨py, qy⟩
  · rw [doesV_2]; exact wrap64_bd _
  · rw [doesV_3]; exact wrap64_bd _
  · rw [doesV_4]; exact wrap64_bd _
  · by_cases hy : y = 0
    · subst hy; rw [doesV_5z]; decide
    · rw [doesV_5 x hy]; exact wrap64_bd _
  · by_cases hy : y = 0
    · subst hy; rw [doesV_6z]; exact ⟨px, qx⟩
    · rw [doesV_6 x hy]; exact wrap64_bd _
  · rw [doesV_7]; exact wrap64_bd _
  · rw [doesV_8]; exact wrap64_bd _
  · rw [doesV_9]; exact wrap64_bd _
  · rw [doesV_10]; exact wrap64_bd _
  · rw [doesV_11]; exact wrap64_bd _
  · rw [doesV_12]
    have hp : (0 : Int) < 2 ^ sixBits y := Int.pow_pos (by decide)
    have h1 : x / 2 ^ sixBits y * 2 ^ sixBits y ≤ x := Int.ediv_mul_le x (by omega)
    have h2 := Int.lt_ediv_add_one_mul_self x hp
    generalize x / 2 ^ sixBits y = q at *
    generalize (2 : Int) ^ sixBits y = m at *
    constructor
    · by_cases hq : -9223372036854775808 ≤ q
      · exact hq
      · have : (q + 1) * m ≤ (q + 1) * 1 := Int.mul_le_mul_of_nonpos_left (by omega) (by omega)
        omega
    · by_cases hq : q ≤ 9223372036854775807
      · exact hq
      · have : q * 1 ≤ q * m := Int.mul_le_mul_of_nonneg_left (by omega) (by omega)
        omega
  · rw [doesV_13]; exact wrap64_bd _

theorem lin_between {k l h y : Int} (h1 : l ≤ y) (h2 : y ≤ h) : min (k * l) (k * h) ≤ k * y ∧ k * y ≤ max (k * l) (k * h) := by
  by_cases hk : 0 ≤ k
  · have a := Int.mul_le_mul_of_nonneg_left h1 hk
    have b := Int.mul_le_mul_of_nonneg_left h2 hk
    omega
  · have a := Int.mul_le_mul_of_nonpos_left (by omega : k ≤ 0) h1
    have b := Int.mul_le_mul_of_nonpos_left (by omega : k ≤ 0) h2
    omega
theorem mul_between {al ah bl bh x y : Int} (h1 : al ≤ x) (h2 : x ≤ ah) (h3 : bl ≤ y) (h4 : y ≤ bh) : mulLo al ah bl bh ≤ x * y ∧ x * y ≤ mulHi al ah bl bh := by
  have a := lin_between (k := y) h1 h2
  have b := lin_between (k := al) h3 h4
  have c := lin_between (k := ah) h3 h4
  rw [Int.mul_comm y x, Int.mul_comm y al, Int.mul_comm y ah] at a
  unfold mulLo mulHi
  generalize al * y = p at *
  generalize ah * y = q at *
  generalize x * y = r at *
  omega
theorem fit2_has {u v n z : Int} (h1 : u ≤ n) (h2 : n ≤ v) (hz : z = wrap64 n) : (fit2 u v).1 ≤ z ∧ z ≤ (fit2 u v).2 := by
  subst hz
  cases h : fits u && fits v
  · rw [fit2_no h]; exact wrap64_bd _
  · rw [fit2_yes h]
    simp only [Bool.and_eq_true, fits_iff] at h
    rw [wrap64_in (by omega) (by omega)]
    exact ⟨h1, h2⟩
theorem div_between {a x y : Int} (h0 : 0 ≤ x) (h1 : x ≤ a) (h2 : 0 < y) : 0 ≤ x / y ∧ x / y ≤ a := by
  have l := Int.ediv_nonneg h0 (Int.le_of_lt h2)
  have g := Int.ediv_le_self y h0
  omega
theorem div_mono {al ah bl bh x y : Int} (h0 : 0 ≤ al) (h1 : al ≤ x) (h2 : x ≤ ah) (h3 : 0 < bl) (h4 : bl ≤ y) (h5 : y ≤ bh) : al / bh ≤ x / y ∧ x / y ≤ ah / bl := by
  obtain ⟨a, rfl⟩ := Int.eq_ofNat_of_zero_le h0
  obtain ⟨m, rfl⟩ := Int.eq_ofNat_of_zero_le (by omega : 0 ≤ x)
  obtain ⟨b, rfl⟩ := Int.eq_ofNat_of_zero_le (by omega : 0 ≤ ah)
  obtain ⟨c, rfl⟩ := Int.eq_ofNat_of_zero_le (by omega : 0 ≤ bl)
  obtain ⟨d, rfl⟩ := Int.eq_ofNat_of_zero_le (by omega : 0 ≤ y)
  obtain ⟨e, rfl⟩ := Int.eq_ofNat_of_zero_le (by omega : 0 ≤ bh)
  have k1 : a / e ≤ m / d := Nat.div_le_div (by omega) (by omega) (by omega)
  have k2 : m / d ≤ b / c := Nat.div_le_div (by omega) (by omega) (by omega)
  exact ⟨Int.ofNat_le.2 k1, Int.ofNat_le.2 k2⟩
theorem mod_ends {x y : Int} (h0 : 0 ≤ x) (h1 : x ≤ 9223372036854775807) (h2 : 0 < y) (h3 : y ≤ 9223372036854775807) : doesV 6 x y = x % y := by
  rw [doesV_6 x (by omega), Int.natCast_emod, uns_pos h0 h1, uns_pos (by omega) h3]
  have l := Int.emod_nonneg x (by omega : y ≠ 0)
  have g := Int.emod_lt_of_pos x h2
  exact wrap64_in (by omega) (by omega)
theorem and_le {x y a : Int} (h0 : 0 ≤ x) (h1 : x ≤ a) (h2 : a ≤ 9223372036854775807) : 0 ≤ wrap64 ((uns x &&& uns y : Nat) : Int) ∧ wrap64 ((uns x &&& uns y : Nat) : Int) ≤ a := by
  have l : uns x &&& uns y ≤ uns x := Nat.and_le_left
  have e := uns_pos h0 (by omega)
  rw [wrap64_in (by omega) (by omega)]
  omega
theorem below_fill {x m : Int} (h0 : 0 ≤ x) (h1 : x ≤ m) : uns x < 2 ^ lenV m.toNat ∨ 9223372036854775807 < x := by
  by_cases hx : x ≤ 9223372036854775807
  · left
    have e := uns_pos h0 hx
    have l := lenV_hi m.toNat
    omega
  · right; omega
theorem fill_le {m : Int} (h : m ≤ 9223372036854775807) : lenV m.toNat ≤ 63 := lenV_le (Nat.lt_of_lt_of_eq (show m.toNat < 9223372036854775808 by omega) (by decide))
theorem or_fill {x y m : Int} (hx0 : 0 ≤ x) (hx : x ≤ m) (hy0 : 0 ≤ y) (hy : y ≤ m) (hm : m ≤ 9223372036854775807) : max x y ≤ wrap64 ((uns x ||| uns y : Nat) : Int) ∧ wrap64 ((uns x ||| uns y : Nat) : Int) ≤ fillV m := by
  have a := (below_fill hx0 hx).resolve_right (by omega)
  have b := (below_fill hy0 hy).resolve_right (by omega)
  have c := Nat.or_lt_two_pow a b
  have d := ones_lt (fill_le hm)
  have l1 : uns x ≤ uns x ||| uns y := Nat.left_le_or
  have l2 : uns y ≤ uns x ||| uns y := Nat.right_le_or
  have e1 := uns_pos hx0 (by omega)
  have e2 := uns_pos hy0 (by omega)
  unfold fillV
  unfold ones at d ⊢
  have p : 0 < 2 ^ lenV m.toNat := Nat.two_pow_pos _
  generalize 2 ^ lenV m.toNat = P at *
  generalize uns x ||| uns y = z at *
  rw [wrap64_in (by omega) (by omega)]
  omega
theorem xor_fill {x y m : Int} (hx0 : 0 ≤ x) (hx : x ≤ m) (hy0 : 0 ≤ y) (hy : y ≤ m) (hm : m ≤ 9223372036854775807) : 0 ≤ wrap64 ((uns x ^^^ uns y : Nat) : Int) ∧ wrap64 ((uns x ^^^ uns y : Nat) : Int) ≤ fillV m := by
  have a := (below_fill hx0 hx).resolve_right (by omega)
  have b := (below_fill hy0 hy).resolve_right (by omega)
  have c := Nat.xor_lt_two_pow a b
  have d := ones_lt (fill_le hm)
  unfold fillV
  unfold ones at d ⊢
  have p : 0 < 2 ^ lenV m.toNat := Nat.two_pow_pos _
  generalize 2 ^ lenV m.toNat = P at *
  generalize uns x ^^^ uns y = z at *
  rw [wrap64_in (by omega) (by omega)]
  omega
theorem half_mono {a b : Int} (k : Nat) (h : a ≤ b) : a / 2 ^ k ≤ b / 2 ^ k := Int.ediv_le_ediv (Int.pow_pos (by decide)) h
theorem half_bd {x : Int} (k : Nat) : (0 ≤ x → 0 ≤ x / 2 ^ k ∧ x / 2 ^ k ≤ x) ∧ (x < 0 → x ≤ x / 2 ^ k ∧ x / 2 ^ k ≤ -1) := by
  have hp : (0 : Int) < 2 ^ k := Int.pow_pos (by decide)
  have h1 : x / 2 ^ k * 2 ^ k ≤ x := Int.ediv_mul_le x (by omega)
  have h2 := Int.lt_ediv_add_one_mul_self x hp
  generalize x / 2 ^ k = q at *
  generalize (2 : Int) ^ k = m at *
  constructor
  · intro h
    have a : 0 ≤ q := by
      by_cases hq : 0 ≤ q
      · exact hq
      · have : (q + 1) * m ≤ (q + 1) * 1 := Int.mul_le_mul_of_nonpos_left (by omega) (by omega)
        omega
    have b : q * 1 ≤ q * m := Int.mul_le_mul_of_nonneg_left (by omega) a
    omega
  · intro h
    have a : q ≤ -1 := by
      by_cases hq : q ≤ -1
      · exact hq
      · have : q * 1 ≤ q * m := Int.mul_le_mul_of_nonneg_left (by omega) (by omega)
        omega
    have b : (q + 1) * m ≤ (q + 1) * 1 := Int.mul_le_mul_of_nonpos_left (by omega) (by omega)
    omega
theorem rsh_most {x : Int} (b : Int) (h : sixBits b ≠ 0) : 0 ≤ doesV 11 x b ∧ doesV 11 x b ≤ 2 ^ (64 - sixBits b) - 1 := by
  have r := rsh_ones (b := b) h
  rw [doesV_11] at r ⊢
  have hb := sixBits_lt b
  have hx := uns_lt x
  have e : uns (-1) = 18446744073709551615 := by decide
  have l : uns x / 2 ^ sixBits b ≤ uns (-1) / 2 ^ sixBits b := Nat.div_le_div_right (by omega)
  have k : uns (-1) / 2 ^ sixBits b ≤ 9223372036854775807 := by
    rw [e]
    have : 2 ^ 1 ≤ 2 ^ sixBits b := Nat.pow_le_pow_right (by decide) (by omega)
    exact Nat.le_trans (Nat.div_le_div_left this (by decide)) (by decide)
  rw [← r]
  generalize uns x / 2 ^ sixBits b = p at *
  generalize uns (-1) / 2 ^ sixBits b = q at *
  rw [wrap64_in (by omega) (by omega), wrap64_in (by omega) (by omega)]
  omega

/-- WHAT IS BETWEEN STAYS BETWEEN. -/
theorem bdV_has {c al ah bl bh x y : Int} (hc : 1 ≤ c ∧ c ≤ 13) (pal : -9223372036854775808 ≤ al) (qah : ah ≤ 9223372036854775807) (pbl : -9223372036854775808 ≤ bl) (qbh : bh ≤ 9223372036854775807)
    (h1 : al ≤ x) (h2 : x ≤ ah) (h3 : bl ≤ y) (h4 : y ≤ bh) : (bdV c al ah bl bh).1 ≤ doesV c x y ∧ doesV c x y ≤ (bdV c al ah bl bh).2 := by
  have bd := doesV_bd (x := x) (y := y) hc (by omega) (by omega) (by omega) (by omega)
  have h : c = 1 ∨ c = 2 ∨ c = 3 ∨ c = 4 ∨ c = 5 ∨ c = 6 ∨ c = 7 ∨ c = 8 ∨ c = 9 ∨ c = 10 ∨ c = 11 ∨ c = 12 ∨ c = 13 := by omega
  rcases h with rfl | rfl | rfl | rfl | rfl | rfl | rfl | rfl | rfl | rfl | rfl | rfl | rfl
  · rw [bdV_1, doesV_1]; exact ⟨h3, h4⟩
  · rw [bdV_2]; exact fit2_has (n := x + y) (by omega) (by omega) (doesV_2 x y)
  · rw [bdV_3]; exact fit2_has (n := x - y) (by omega) (by omega) (doesV_3 x y)
  · rw [bdV_4]
    split
    · rename_i hs
      simp only [Bool.and_eq_true, small_iff] at hs
      rw [doesV_4, small_mul ((small_iff x).2 (by omega)) ((small_iff y).2 (by omega))]
      exact mul_between h1 h2 h3 h4
    · exact bd
  · rw [bdV_5]
    split
    · split
      · rw [div_ends (by omega) (by omega) (by omega) (by omega)]
        exact div_mono (by omega) h1 h2 (by omega) h3 h4
      · by_cases hy : y = 0
        · subst hy; rw [doesV_5z]; show (0 : Int) ≤ 0 ∧ 0 ≤ ah; omega
        · rw [div_ends (by omega) (by omega) (by omega) (by omega)]
          exact div_between (by omega) h2 (by omega)
    · exact bd
  · rw [bdV_6]
    split
    · split
      · rw [mod_ends (by omega) (by omega) (by omega) (by omega)]
        have l := Int.emod_nonneg x (by omega : y ≠ 0)
        have g := Int.emod_lt_of_pos x (by omega : 0 < y)
        have m : x % y ≤ x := by
          by_cases hxy : x < y
          · rw [Int.emod_eq_of_lt (by omega) hxy]; omega
          · omega
        show 0 ≤ x % y ∧ x % y ≤ min ah (bh - 1)
        omega
      · by_cases hy : y = 0
        · subst hy; rw [doesV_6z]; show (0 : Int) ≤ x ∧ x ≤ ah; omega
        · rw [mod_ends (by omega) (by omega) (by omega) (by omega)]
          have l := Int.emod_nonneg x (by omega : y ≠ 0)
          have g := Int.emod_lt_of_pos x (by omega : 0 < y)
          have m : x % y ≤ x := by
            by_cases hxy : x < y
            · rw [Int.emod_eq_of_lt (by omega) hxy]; omega
            · omega
          show 0 ≤ x % y ∧ x % y ≤ ah
          omega
    · exact bd
  · rw [bdV_7, doesV_7]
    rw [doesV_7] at bd
    split
    · have a := and_le (y := y) (by omega : 0 ≤ x) h2 qah
      split
      · have b := and_le (y := x) (by omega : 0 ≤ y) h4 qbh
        rw [Nat.and_comm] at b
        generalize wrap64 ((uns x &&& uns y : Nat) : Int) = z at *
        show 0 ≤ z ∧ z ≤ min ah bh
        omega
      · exact a
    · split
      · have b := and_le (y := x) (by omega : 0 ≤ y) h4 qbh
        rw [Nat.and_comm] at b
        exact b
      · exact bd
  · rw [bdV_8]
    split
    · have a := or_fill (m := max ah bh) (by omega : 0 ≤ x) (by omega) (by omega : 0 ≤ y) (by omega) (by omega)
      rw [doesV_8]
      refine ⟨?_, a.2⟩
      show max al bl ≤ _
      exact Int.le_trans (by omega) a.1
    · exact bd
  · rw [bdV_9]
    split
    · rw [doesV_9]
      exact xor_fill (m := max ah bh) (by omega : 0 ≤ x) (by omega) (by omega : 0 ≤ y) (by omega) (by omega)
    · exact bd
  · rw [bdV_10]
    split
    · obtain rfl : y = bl := by omega
      have hp : (0 : Int) ≤ 2 ^ sixBits y := Int.le_of_lt (Int.pow_pos (by decide))
      exact fit2_has (Int.mul_le_mul_of_nonneg_right h1 hp) (Int.mul_le_mul_of_nonneg_right h2 hp) (doesV_10 x y)
    · exact bd
  · rw [bdV_11]
    split
    · obtain rfl : y = bl := by omega
      split
      · rw [rsh_none (by omega) (by omega) (by assumption)]; exact ⟨h1, h2⟩
      · split
        · rw [rsh_ends (by omega) (by omega)]
          exact ⟨half_mono _ h1, half_mono _ h2⟩
        · exact rsh_most y (by assumption)
    · split
      · rw [rsh_ends (by omega) (by omega)]
        have a := (half_bd (x := x) (sixBits y)).1 (by omega)
        show 0 ≤ x / 2 ^ sixBits y ∧ x / 2 ^ sixBits y ≤ ah
        omega
      · exact bd
  · rw [bdV_12, doesV_12]
    have a := half_bd (x := x) (sixBits y)
    split
    · obtain rfl : y = bl := by omega
      exact ⟨half_mono _ h1, half_mono _ h2⟩
    · split
      · show 0 ≤ x / 2 ^ sixBits y ∧ x / 2 ^ sixBits y ≤ ah
        have := a.1 (by omega)
        omega
      · split
        · show al ≤ x / 2 ^ sixBits y ∧ x / 2 ^ sixBits y ≤ -1
          have := a.2 (by omega)
          omega
        · show al ≤ x / 2 ^ sixBits y ∧ x / 2 ^ sixBits y ≤ ah
          by_cases hx : 0 ≤ x
          · have := a.1 hx; omega
          · have := a.2 (by omega); omega
  · rw [bdV_13]; exact fit2_has (n := -x) (by omega) (by omega) (doesV_13 x y)
end Go.Proofs.YtegeiicginpdbaaDoor
