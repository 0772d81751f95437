/-
 Plain facts on bounds: what a code makes of two numbers that two bounds have is between; no program is named here. Conditions: the numbers are of 64 bits, and between the ends. A machine on plain numbers: what a step makes of registers, slots, words, cells and what was given out, and what comes of a list of steps; no program is named here. No conditions. What is known of a value, on plain numbers: its kind, and between which ends it is; what a verifier makes of two such, and where a place may lead: what a machine makes of values of which that is known goes well, and what is known of it then holds. No program is named here. Conditions: the ends are of 64 bits. A way of a verifier, on plain numbers: what is known of registers and slots; what a step that asks nothing makes of it, and that a machine of which that is known goes on well. No program is named here. Conditions: the ends are of 64 bits; the step is right. A program that runs, as it lies in memory. Conditions: numbers are of 64 bits. The steps of a program that runs: what package machine's methods do to it; all else is as it was. Conditions: numbers are of 64 bits. A program that runs, as it lies in memory, over what else is made and written: small laws, each for one step of a world. No conditions.
-/
import Derived.Test.YteenhdoaminkeaaGreatDoorJv2
import Derived.RegionTactic
import Derived.Deep.RegionWith
import Derived.Deep.RegionHeld3
import Derived.Deep.DeepCutAuto
import Derived.Deep.DeepMust
import Derived.BigQuiet
import Derived.Deep.QuietTactic
set_option maxHeartbeats 40000000
open Go.RowKit.Below renaming alloc → bA, setCell → bS, drew → bD, refl → bF
set_option maxRecDepth 1000000
set_option linter.defProp false
set_option linter.unusedVariables false
set_option linter.unusedSimpArgs false
namespace Go.Proofs.YteenhdoaminkeaaGreatDoor
open Go.RowKit

theorem zGi {c x y : Int} (hc : 1 ≤ c ∧ c ≤ 13) (px : -9223372036854775808 ≤ x) (qx : x ≤ 9223372036854775807) (py : -9223372036854775808 ≤ y) (qy : y ≤ 9223372036854775807) :
  -9223372036854775808 ≤ z0i c x y ∧ z0i c x y ≤ 9223372036854775807 := by
 have h : c = 1 ∨ c = 2 ∨ c = 3 ∨ c = 4 ∨ c = 5 ∨ c = 6 ∨ c = 7 ∨ c = 8 ∨ c = 9 ∨ c = 10 ∨ c = 11 ∨ c = 12 ∨ c = 13 := by omega
 rcases h with rfl | rfl | rfl | rfl | rfl | rfl | rfl | rfl | rfl | rfl | rfl | rfl | rfl
 ·rw [zBn]; exact ⟨py, qy⟩
 ·rw [zBm]; exact z1s _
 ·rw [zBl]; exact z1s _
 ·rw [zBk]; exact z1s _
 ·by_cases hy : y = 0
  ·subst hy; rw [z8c]; decide
  ·rw [zBj x hy]; exact z1s _
 ·by_cases hy : y = 0
  ·subst hy; rw [z8b]; exact ⟨px, qx⟩
  ·rw [zBi x hy]; exact z1s _
 ·rw [z9c]; exact z1s _
 ·rw [zBh]; exact z1s _
 ·rw [zBg]; exact z1s _
 ·rw [z1g]; exact z1s _
 ·rw [z55]; exact z1s _
 ·rw [z54]
  have hp : (0 : Int) < 2 ^ sixBits y := Int.pow_pos (by decide)
  have h1 : x / 2 ^ sixBits y * 2 ^ sixBits y ≤ x := Int.ediv_mul_le x (by omega)
  have h2 := Int.lt_ediv_add_one_mul_self x hp
  generalize x / 2 ^ sixBits y = q at *
  generalize (2 : Int) ^ sixBits y = m at *
  constructor
  ·by_cases hq : -9223372036854775808 ≤ q
   ·exact hq
   ·have : (q + 1) * m ≤ (q + 1) * 1 := Int.mul_le_mul_of_nonpos_left (by omega) (by omega)
    omega
  ·by_cases hq : q ≤ 9223372036854775807
   ·exact hq
   ·have : q * 1 ≤ q * m := Int.mul_le_mul_of_nonneg_left (by omega) (by omega)
    omega
 ·rw [z8d]; exact z1s _

theorem z6d {k l h y : Int} (h1 : l ≤ y) (h2 : y ≤ h) : min (k * l) (k * h) ≤ k * y ∧ k * y ≤ max (k * l) (k * h) := by
 by_cases hk : 0 ≤ k
 ·have a := Int.mul_le_mul_of_nonneg_left h1 hk
  have b := Int.mul_le_mul_of_nonneg_left h2 hk
  omega
 ·have a := Int.mul_le_mul_of_nonpos_left (by omega : k ≤ 0) h1
  have b := Int.mul_le_mul_of_nonpos_left (by omega : k ≤ 0) h2
  omega
theorem zF0 {al ah bl bh x y : Int} (h1 : al ≤ x) (h2 : x ≤ ah) (h3 : bl ≤ y) (h4 : y ≤ bh) : zF1 al ah bl bh ≤ x * y ∧ x * y ≤ zF2 al ah bl bh := by
 have a := z6d (k := y) h1 h2
 have b := z6d (k := al) h3 h4
 have c := z6d (k := ah) h3 h4
 rw [Int.mul_comm y x, Int.mul_comm y al, Int.mul_comm y ah] at a
 unfold zF1 zF2
 generalize al * y = p at *
 generalize ah * y = q at *
 generalize x * y = r at *
 omega
theorem z8a {u v n z : Int} (h1 : u ≤ n) (h2 : n ≤ v) (hz : z = wrap64 n) : (fit2 u v).1 ≤ z ∧ z ≤ (fit2 u v).2 := by
 subst hz
 cases h : fits u && fits v
 ·rw [z4c h]; exact z1s _
 ·rw [z4g h]
  simp only [Bool.and_eq_true, z28] at h
  rw [z0e (by omega) (by omega)]
  exact ⟨h1, h2⟩
theorem zFl {a x y : Int} (h0 : 0 ≤ x) (h1 : x ≤ a) (h2 : 0 < y) : 0 ≤ x / y ∧ x / y ≤ a := by
 have l := Int.ediv_nonneg h0 (Int.le_of_lt h2)
 have g := Int.ediv_le_self y h0
 omega
theorem zPv {al ah bl bh x y : Int} (h0 : 0 ≤ al) (h1 : al ≤ x) (h2 : x ≤ ah) (h3 : 0 < bl) (h4 : bl ≤ y) (h5 : y ≤ bh) : al / bh ≤ x / y ∧ x / y ≤ ah / bl := by
 obtain ⟨a, rfl⟩ := Int.eq_ofNat_of_zero_le h0
 obtain ⟨m, rfl⟩ := Int.eq_ofNat_of_zero_le (by omega : 0 ≤ x)
 obtain ⟨b, rfl⟩ := Int.eq_ofNat_of_zero_le (by omega : 0 ≤ ah)
 obtain ⟨c, rfl⟩ := Int.eq_ofNat_of_zero_le (by omega : 0 ≤ bl)
 obtain ⟨d, rfl⟩ := Int.eq_ofNat_of_zero_le (by omega : 0 ≤ y)
 obtain ⟨e, rfl⟩ := Int.eq_ofNat_of_zero_le (by omega : 0 ≤ bh)
 have k1 : a / e ≤ m / d := Nat.div_le_div (by omega) (by omega) (by omega)
 have k2 : m / d ≤ b / c := Nat.div_le_div (by omega) (by omega) (by omega)
 exact ⟨Int.ofNat_le.2 k1, Int.ofNat_le.2 k2⟩
theorem zG1 {x y : Int} (h0 : 0 ≤ x) (h1 : x ≤ 9223372036854775807) (h2 : 0 < y) (h3 : y ≤ 9223372036854775807) : z0i 6 x y = x % y := by
 rw [zBi x (by omega), Int.natCast_emod, z3m h0 h1, z3m (by omega) h3]
 have l := Int.emod_nonneg x (by omega : y ≠ 0)
 have g := Int.emod_lt_of_pos x h2
 exact z0e (by omega) (by omega)
theorem zMs {x y a : Int} (h0 : 0 ≤ x) (h1 : x ≤ a) (h2 : a ≤ 9223372036854775807) : 0 ≤ wrap64 ((uns x &&& uns y : Nat) : Int) ∧ wrap64 ((uns x &&& uns y : Nat) : Int) ≤ a := by
 have l : uns x &&& uns y ≤ uns x := Nat.and_le_left
 have e := z3m h0 (by omega)
 rw [z0e (by omega) (by omega)]
 omega
theorem z5x {x m : Int} (h0 : 0 ≤ x) (h1 : x ≤ m) : uns x < 2 ^ lenV m.toNat ∨ 9223372036854775807 < x := by
 by_cases hx : x ≤ 9223372036854775807
 ·left
  have e := z3m h0 hx
  have l := zBa m.toNat
  omega
 ·right; omega
theorem zFj {m : Int} (h : m ≤ 9223372036854775807) : lenV m.toNat ≤ 63 := z8s (Nat.lt_of_lt_of_eq (show m.toNat < 9223372036854775808 by omega) (by decide))
theorem zSw {x y m : Int} (hx0 : 0 ≤ x) (hx : x ≤ m) (hy0 : 0 ≤ y) (hy : y ≤ m) (hm : m ≤ 9223372036854775807) : max x y ≤ wrap64 ((uns x ||| uns y : Nat) : Int) ∧ wrap64 ((uns x ||| uns y : Nat) : Int) ≤ z4d m := by
 have a := (z5x hx0 hx).resolve_right (by omega)
 have b := (z5x hy0 hy).resolve_right (by omega)
 have c := Nat.or_lt_two_pow a b
 have d := zAx (zFj hm)
 have l1 : uns x ≤ uns x ||| uns y := Nat.left_le_or
 have l2 : uns y ≤ uns x ||| uns y := Nat.right_le_or
 have e1 := z3m hx0 (by omega)
 have e2 := z3m hy0 (by omega)
 unfold z4d
 unfold ones at d ⊢
 have p : 0 < 2 ^ lenV m.toNat := Nat.two_pow_pos _
 generalize 2 ^ lenV m.toNat = P at *
 generalize uns x ||| uns y = z at *
 rw [z0e (by omega) (by omega)]
 omega
theorem zMt {x y m : Int} (hx0 : 0 ≤ x) (hx : x ≤ m) (hy0 : 0 ≤ y) (hy : y ≤ m) (hm : m ≤ 9223372036854775807) : 0 ≤ wrap64 ((uns x ^^^ uns y : Nat) : Int) ∧ wrap64 ((uns x ^^^ uns y : Nat) : Int) ≤ z4d m := by
 have a := (z5x hx0 hx).resolve_right (by omega)
 have b := (z5x hy0 hy).resolve_right (by omega)
 have c := Nat.xor_lt_two_pow a b
 have d := zAx (zFj hm)
 unfold z4d
 unfold ones at d ⊢
 have p : 0 < 2 ^ lenV m.toNat := Nat.two_pow_pos _
 generalize 2 ^ lenV m.toNat = P at *
 generalize uns x ^^^ uns y = z at *
 rw [z0e (by omega) (by omega)]
 omega
theorem z6x {a b : Int} (k : Nat) (h : a ≤ b) : a / 2 ^ k ≤ b / 2 ^ k := Int.ediv_le_ediv (Int.pow_pos (by decide)) h
theorem zFf {x : Int} (k : Nat) : (0 ≤ x → 0 ≤ x / 2 ^ k ∧ x / 2 ^ k ≤ x) ∧ (x < 0 → x ≤ x / 2 ^ k ∧ x / 2 ^ k ≤ -1) := by
 have hp : (0 : Int) < 2 ^ k := Int.pow_pos (by decide)
 have h1 : x / 2 ^ k * 2 ^ k ≤ x := Int.ediv_mul_le x (by omega)
 have h2 := Int.lt_ediv_add_one_mul_self x hp
 generalize x / 2 ^ k = q at *
 generalize (2 : Int) ^ k = m at *
 constructor
 ·intro h
  have a : 0 ≤ q := by
   by_cases hq : 0 ≤ q
   ·exact hq
   ·have : (q + 1) * m ≤ (q + 1) * 1 := Int.mul_le_mul_of_nonpos_left (by omega) (by omega)
    omega
  have b : q * 1 ≤ q * m := Int.mul_le_mul_of_nonneg_left (by omega) a
  omega
 ·intro h
  have a : q ≤ -1 := by
   by_cases hq : q ≤ -1
   ·exact hq
   ·have : q * 1 ≤ q * m := Int.mul_le_mul_of_nonneg_left (by omega) (by omega)
    omega
  have b : (q + 1) * m ≤ (q + 1) * 1 := Int.mul_le_mul_of_nonpos_left (by omega) (by omega)
  omega
theorem zNi {x : Int} (b : Int) (h : sixBits b ≠ 0) : 0 ≤ z0i 11 x b ∧ z0i 11 x b ≤ 2 ^ (64 - sixBits b) - 1 := by
 have r := zAg (b := b) h
 rw [z55] at r ⊢
 have hb := z19 b
 have hx := z1v x
 have e : uns (-1) = 18446744073709551615 := by decide
 have l : uns x / 2 ^ sixBits b ≤ uns (-1) / 2 ^ sixBits b := Nat.div_le_div_right (by omega)
 have k : uns (-1) / 2 ^ sixBits b ≤ 9223372036854775807 := by
  rw [e]
  have : 2 ^ 1 ≤ 2 ^ sixBits b := Nat.pow_le_pow_right (by decide) (by omega)
  exact Nat.le_trans (Nat.div_le_div_left this (by decide)) (by decide)
 rw [← r]
 generalize uns x / 2 ^ sixBits b = p at *
 generalize uns (-1) / 2 ^ sixBits b = q at *
 rw [z0e (by omega) (by omega), z0e (by omega) (by omega)]
 omega

theorem z9d {c al ah bl bh x y : Int} (hc : 1 ≤ c ∧ c ≤ 13) (pal : -9223372036854775808 ≤ al) (qah : ah ≤ 9223372036854775807) (pbl : -9223372036854775808 ≤ bl) (qbh : bh ≤ 9223372036854775807)
  (h1 : al ≤ x) (h2 : x ≤ ah) (h3 : bl ≤ y) (h4 : y ≤ bh) : (bdV c al ah bl bh).1 ≤ z0i c x y ∧ z0i c x y ≤ (bdV c al ah bl bh).2 := by
 have bd := zGi (x := x) (y := y) hc (by omega) (by omega) (by omega) (by omega)
 have h : c = 1 ∨ c = 2 ∨ c = 3 ∨ c = 4 ∨ c = 5 ∨ c = 6 ∨ c = 7 ∨ c = 8 ∨ c = 9 ∨ c = 10 ∨ c = 11 ∨ c = 12 ∨ c = 13 := by omega
 rcases h with rfl | rfl | rfl | rfl | rfl | rfl | rfl | rfl | rfl | rfl | rfl | rfl | rfl
 ·rw [zQa, zBn]; exact ⟨h3, h4⟩
 ·rw [zIu]; exact z8a (n := x + y) (by omega) (by omega) (zBm x y)
 ·rw [zQ9]; exact z8a (n := x - y) (by omega) (by omega) (zBl x y)
 ·rw [zQ8]
  split
  ·rename_i hs
   simp only [Bool.and_eq_true, z2k] at hs
   rw [zBk, z2j ((z2k x).2 (by omega)) ((z2k y).2 (by omega))]
   exact zF0 h1 h2 h3 h4
  ·exact bd
 ·rw [zQ7]
  split
  ·split
   ·rw [z8e (by omega) (by omega) (by omega) (by omega)]
    exact zPv (by omega) h1 h2 (by omega) h3 h4
   ·by_cases hy : y = 0
    ·subst hy; rw [z8c]; show (0 : Int) ≤ 0 ∧ 0 ≤ ah; omega
    ·rw [z8e (by omega) (by omega) (by omega) (by omega)]
     exact zFl (by omega) h2 (by omega)
  ·exact bd
 ·rw [zQ6]
  split
  ·split
   ·rw [zG1 (by omega) (by omega) (by omega) (by omega)]
    have l := Int.emod_nonneg x (by omega : y ≠ 0)
    have g := Int.emod_lt_of_pos x (by omega : 0 < y)
    have m : x % y ≤ x := by
     by_cases hxy : x < y
     ·rw [Int.emod_eq_of_lt (by omega) hxy]; omega
     ·omega
    show 0 ≤ x % y ∧ x % y ≤ min ah (bh - 1)
    omega
   ·by_cases hy : y = 0
    ·subst hy; rw [z8b]; show (0 : Int) ≤ x ∧ x ≤ ah; omega
    ·rw [zG1 (by omega) (by omega) (by omega) (by omega)]
     have l := Int.emod_nonneg x (by omega : y ≠ 0)
     have g := Int.emod_lt_of_pos x (by omega : 0 < y)
     have m : x % y ≤ x := by
      by_cases hxy : x < y
      ·rw [Int.emod_eq_of_lt (by omega) hxy]; omega
      ·omega
     show 0 ≤ x % y ∧ x % y ≤ ah
     omega
  ·exact bd
 ·rw [zQ5, z9c]
  rw [z9c] at bd
  split
  ·have a := zMs (y := y) (by omega : 0 ≤ x) h2 qah
   split
   ·have b := zMs (y := x) (by omega : 0 ≤ y) h4 qbh
    rw [Nat.and_comm] at b
    generalize wrap64 ((uns x &&& uns y : Nat) : Int) = z at *
    show 0 ≤ z ∧ z ≤ min ah bh
    omega
   ·exact a
  ·split
   ·have b := zMs (y := x) (by omega : 0 ≤ y) h4 qbh
    rw [Nat.and_comm] at b
    exact b
   ·exact bd
 ·rw [zQ4]
  split
  ·have a := zSw (m := max ah bh) (by omega : 0 ≤ x) (by omega) (by omega : 0 ≤ y) (by omega) (by omega)
   rw [zBh]
   refine ⟨?_, a.2⟩
   show max al bl ≤ _
   exact Int.le_trans (by omega) a.1
  ·exact bd
 ·rw [zQ3]
  split
  ·rw [zBg]
   exact zMt (m := max ah bh) (by omega : 0 ≤ x) (by omega) (by omega : 0 ≤ y) (by omega) (by omega)
  ·exact bd
 ·rw [zGt]
  split
  ·obtain rfl : y = bl := by omega
   have hp : (0 : Int) ≤ 2 ^ sixBits y := Int.le_of_lt (Int.pow_pos (by decide))
   exact z8a (Int.mul_le_mul_of_nonneg_right h1 hp) (Int.mul_le_mul_of_nonneg_right h2 hp) (z1g x y)
  ·exact bd
 ·rw [zGs]
  split
  ·obtain rfl : y = bl := by omega
   split
   ·rw [zAh (by omega) (by omega) (by assumption)]; exact ⟨h1, h2⟩
   ·split
    ·rw [z86 (by omega) (by omega)]
     exact ⟨z6x _ h1, z6x _ h2⟩
    ·exact zNi y (by assumption)
  ·split
   ·rw [z86 (by omega) (by omega)]
    have a := (zFf (x := x) (sixBits y)).1 (by omega)
    show 0 ≤ x / 2 ^ sixBits y ∧ x / 2 ^ sixBits y ≤ ah
    omega
   ·exact bd
 ·rw [zGr, z54]
  have a := zFf (x := x) (sixBits y)
  split
  ·obtain rfl : y = bl := by omega
   exact ⟨z6x _ h1, z6x _ h2⟩
  ·split
   ·show 0 ≤ x / 2 ^ sixBits y ∧ x / 2 ^ sixBits y ≤ ah
    have := a.1 (by omega)
    omega
   ·split
    ·show al ≤ x / 2 ^ sixBits y ∧ x / 2 ^ sixBits y ≤ -1
     have := a.2 (by omega)
     omega
    ·show al ≤ x / 2 ^ sixBits y ∧ x / 2 ^ sixBits y ≤ ah
     by_cases hx : 0 ≤ x
     ·have := a.1 hx; omega
     ·have := a.2 (by omega); omega
 ·rw [zGq]; exact z8a (n := -x) (by omega) (by omega) (z8d x y)
def askF (c : Int) (a b : Val) (r : Bool) (o n : Int) : Int × Int :=
 if a.k = 0 ∨ b.k = 0 then (0, 8)
 else if a.k = 1 ∧ b.k = 1 then (if isV c a.n b.n then (o, 0) else (0, 0))
 else if (c ≠ 15 ∧ c ≠ 16) ∨ r = true ∨ n ≠ 0 then (0, 1)
 else if c = 16 then (o, 0) else (0, 0)
section
variable {c ak an ac bk bn bc o n : Int} {r : Bool}
end

structure Abs where
 reg : Nat → Val
 slot : Nat → Val
 word : Nat → Int
 cel : Nat → Int
 time : Int
 out : List Int
def zCl : Val := ⟨0, 0, 0⟩
def Abs.putReg (a : Abs) (d : Nat) (x : Val) : Abs := { a with reg := fun i => if i = d then x else a.reg i }
def Abs.putSlot (a : Abs) (t : Nat) (x : Val) : Abs := { a with slot := fun i => if i = t then x else a.slot i }
def Abs.putCel (a : Abs) (t : Nat) (n : Int) : Abs := { a with cel := fun i => if i = t then n else a.cel i }
def Abs.second (a : Abs) (s : Nat) (r : Bool) (n : Int) : Val := if r then a.reg s else numF n
def Abs.lose (a : Abs) : Abs := { a with reg := fun i => if 1 ≤ i ∧ i ≤ 5 then zCl else a.reg i }
def Abs.give (a : Abs) (n : Int) : Abs := { a with out := if a.out.length < 50 then a.out ++ [n] else a.out }
def Abs.at (a : Abs) (p : Val) (t : Nat) : Val := if p.k = 2 then numF (a.word t) else if p.k = 3 then a.slot t else numF (a.cel (p.c.toNat * 4 + t))
def zI8 (a : Abs) (d : Nat) (p : Val) (o : Int) : Int × Abs :=
 if (z30 p o).2 ≠ 0 then ((z30 p o).2, a)
 else if (a.at p (z30 p o).1.toNat).k = 0 then (8, a)
 else (0, a.putReg d (a.at p (z30 p o).1.toNat))
def z9v (a : Abs) (p v : Val) (o : Int) : Int × Abs :=
 if (z30 p o).2 ≠ 0 then ((z30 p o).2, a)
 else if p.k = 2 then (6, a)
 else if v.k = 0 then (8, a)
 else if p.k = 3 then (0, a.putSlot (z30 p o).1.toNat v)
 else if v.k ≠ 1 then (1, a)
 else (0, a.putCel (p.c.toNat * 4 + (z30 p o).1.toNat) v.n)
def zIr (a : Abs) (what : Int) : Int × Abs :=
 if what ≠ 2 ∧ z82 (a.reg 1) ≠ 0 then (z82 (a.reg 1), a)
 else if what = 1 then (0, a.lose.putReg 0 (zD7 (a.reg 1).n))
 else if what = 2 then (0, a.lose.putReg 0 (numF a.time))
 else (0, (a.lose.give (a.reg 1).n).putReg 0 (numF 0))
def doF (c d s : Int) (r : Bool) (o n : Int) (a : Abs) : Int × Int × Abs :=
 if 15 ≤ c ∧ c ≤ 24 then ((askF c (a.reg d.toNat) (a.second s.toNat r n) r o n).1, (askF c (a.reg d.toNat) (a.second s.toNat r n) r o n).2, a)
 else if c = 14 then (o, 0, a)
 else if c = 25 then (0, zI8 a d.toNat (a.reg s.toNat) o)
 else if c = 26 then (0, z9v a (a.reg d.toNat) (a.second s.toNat r n) o)
 else if c = 27 then (0, zIr a n)
 else (0, (z6s c (a.reg d.toNat) (a.second s.toNat r n)).2, a.putReg d.toNat (z6s c (a.reg d.toNat) (a.second s.toNat r n)).1)
abbrev End : Type := (Int × Nat) ⊕ (Int × Nat × Abs)
abbrev End.bad (e : Int) (q : Nat) : End := Sum.inl (e, q)
abbrev End.fine (n : Int) (k : Nat) (a : Abs) : End := Sum.inr (n, k, a)
def runN (C D S : Nat → Int) (R : Nat → Bool) (O N : Nat → Int) (len : Nat) : Nat → Nat → Nat → Abs → End
 | 0, _, _, _ => End.bad 0 0
 | f + 1, pc, k, a =>
  if pc < len then
   if C pc = 28 then (if z82 (a.reg 0) = 0 then End.fine (a.reg 0).n (k + 1) a else End.bad (z82 (a.reg 0)) pc)
   else if (doF (C pc) (D pc) (S pc) (R pc) (O pc) (N pc) a).2.1 ≠ 0 then End.bad (doF (C pc) (D pc) (S pc) (R pc) (O pc) (N pc) a).2.1 pc
   else runN C D S R O N len f (pc + 1 + (doF (C pc) (D pc) (S pc) (R pc) (O pc) (N pc) a).1.toNat) (k + 1) (doF (C pc) (D pc) (S pc) (R pc) (O pc) (N pc) a).2.2
  else End.bad 0 0
def runF (C D S : Nat → Int) (R : Nat → Bool) (O N : Nat → Int) (len pc k : Nat) (a : Abs) : End := runN C D S R O N len (len - pc) pc k a
theorem z5c (C D S : Nat → Int) (R : Nat → Bool) (O N : Nat → Int) (len f pc k : Nat) (a : Abs) : runN C D S R O N len (f + 1) pc k a = if pc < len then
   if C pc = 28 then (if z82 (a.reg 0) = 0 then End.fine (a.reg 0).n (k + 1) a else End.bad (z82 (a.reg 0)) pc)
   else if (doF (C pc) (D pc) (S pc) (R pc) (O pc) (N pc) a).2.1 ≠ 0 then End.bad (doF (C pc) (D pc) (S pc) (R pc) (O pc) (N pc) a).2.1 pc
   else runN C D S R O N len f (pc + 1 + (doF (C pc) (D pc) (S pc) (R pc) (O pc) (N pc) a).1.toNat) (k + 1) (doF (C pc) (D pc) (S pc) (R pc) (O pc) (N pc) a).2.2
  else End.bad 0 0 := rfl
theorem zJn (C D S : Nat → Int) (R : Nat → Bool) (O N : Nat → Int) (len : Nat) : ∀ (f g pc k : Nat) (a : Abs), len ≤ pc + f → len ≤ pc + g → runN C D S R O N len f pc k a = runN C D S R O N len g pc k a := by
 intro f
 induction f with
 | zero =>
  intro g pc k a h1 _
  cases g with
  | zero => rfl
  | succ g => rw [z5c, if_neg (by omega)]; rfl
 | succ f ih =>
  intro g pc k a h1 h2
  cases g with
  | zero => rw [z5c, if_neg (by omega)]; rfl
  | succ g =>
   rw [z5c, z5c, ih g _ _ _ (by omega) (by omega)]
theorem zJp (C D S : Nat → Int) (R : Nat → Bool) (O N : Nat → Int) (len pc k : Nat) (a : Abs) : runF C D S R O N len pc k a = if pc < len then
   if C pc = 28 then (if z82 (a.reg 0) = 0 then End.fine (a.reg 0).n (k + 1) a else End.bad (z82 (a.reg 0)) pc)
   else if (doF (C pc) (D pc) (S pc) (R pc) (O pc) (N pc) a).2.1 ≠ 0 then End.bad (doF (C pc) (D pc) (S pc) (R pc) (O pc) (N pc) a).2.1 pc
   else runF C D S R O N len (pc + 1 + (doF (C pc) (D pc) (S pc) (R pc) (O pc) (N pc) a).1.toNat) (k + 1) (doF (C pc) (D pc) (S pc) (R pc) (O pc) (N pc) a).2.2
  else End.bad 0 0 := by
 by_cases h : pc < len
 ·obtain ⟨f, hf⟩ : ∃ f, len - pc = f + 1 := ⟨len - pc - 1, by omega⟩
  show runN C D S R O N len (len - pc) pc k a = _
  rw [hf, z5c, zJn C D S R O N len f (len - (pc + 1 + (doF (C pc) (D pc) (S pc) (R pc) (O pc) (N pc) a).1.toNat)) _ _ _ (by omega) (by omega)]
  rfl
 ·show runN C D S R O N len (len - pc) pc k a = _
  rw [if_neg h, show len - pc = 0 by omega]
  rfl
section
variable {C D S O N : Nat → Int} {R : Nat → Bool} {len pc k : Nat} {a : Abs}
theorem zJo (h : pc < len) (hc : C pc = 28) (hw : z82 (a.reg 0) = 0) : runF C D S R O N len pc k a = .fine (a.reg 0).n (k + 1) a := by
 rw [zJp, if_pos h, if_pos hc, if_pos hw]
theorem zRa (h : pc < len) (hc : C pc ≠ 28) (hw : (doF (C pc) (D pc) (S pc) (R pc) (O pc) (N pc) a).2.1 = 0) :
  runF C D S R O N len pc k a = runF C D S R O N len (pc + 1 + (doF (C pc) (D pc) (S pc) (R pc) (O pc) (N pc) a).1.toNat) (k + 1) (doF (C pc) (D pc) (S pc) (R pc) (O pc) (N pc) a).2.2 := by
 rw [zJp, if_pos h, if_neg hc, if_neg (by rw [hw]; decide)]
end
def In64 (n : Int) : Prop := -9223372036854775808 ≤ n ∧ n ≤ 9223372036854775807
structure Val.Ok (x : Val) : Prop where
 k0 : 0 ≤ x.k
 k4 : x.k ≤ 4
 n : In64 x.n
 c0 : 0 ≤ x.c
 c3 : x.c ≤ 3
structure Abs.Ok (a : Abs) : Prop where
 reg : ∀ i, i < 11 → (a.reg i).Ok
 slot : ∀ i, i < 16 → (a.slot i).Ok
 word : ∀ i, i < 8 → In64 (a.word i)
 cel : ∀ i, i < 16 → In64 (a.cel i)
 time : In64 a.time
 out : ∀ x, x ∈ a.out → In64 x
 room : a.out.length ≤ 50
theorem z6p : zCl.Ok := ⟨by decide, by decide, ⟨by decide, by decide⟩, by decide, by decide⟩
theorem z9y {n : Int} (h : In64 n) : (numF n).Ok := ⟨show (0 : Int) ≤ 1 by decide, show (1 : Int) ≤ 4 by decide, h, show (0 : Int) ≤ 0 by decide, show (0 : Int) ≤ 3 by decide⟩
theorem Abs.Ok.putReg {a : Abs} (h : a.Ok) (d : Nat) {x : Val} (hx : x.Ok) : (a.putReg d x).Ok :=
 ⟨fun i hi => by show (if i = d then x else a.reg i).Ok; split; exact hx; exact h.reg i hi, h.slot, h.word, h.cel, h.time, h.out, h.room⟩
theorem Abs.Ok.putSlot {a : Abs} (h : a.Ok) (d : Nat) {x : Val} (hx : x.Ok) : (a.putSlot d x).Ok :=
 ⟨h.reg, fun i hi => by show (if i = d then x else a.slot i).Ok; split; exact hx; exact h.slot i hi, h.word, h.cel, h.time, h.out, h.room⟩
theorem Abs.Ok.putCel {a : Abs} (h : a.Ok) (d : Nat) {n : Int} (hx : In64 n) : (a.putCel d n).Ok :=
 ⟨h.reg, h.slot, h.word, fun i hi => by show In64 (if i = d then n else a.cel i); split; exact hx; exact h.cel i hi, h.time, h.out, h.room⟩
theorem Abs.Ok.lose {a : Abs} (h : a.Ok) : a.lose.Ok :=
 ⟨fun i hi => by show (if 1 ≤ i ∧ i ≤ 5 then zCl else a.reg i).Ok; split; exact z6p; exact h.reg i hi, h.slot, h.word, h.cel, h.time, h.out, h.room⟩
theorem Abs.Ok.give {a : Abs} (h : a.Ok) {n : Int} (hn : In64 n) : (a.give n).Ok := by
 refine ⟨h.reg, h.slot, h.word, h.cel, h.time, ?_, ?_⟩
 ·intro x hx
  change x ∈ (if a.out.length < 50 then a.out ++ [n] else a.out) at hx
  split at hx
  ·rcases List.mem_append.1 hx with hx | hx
   ·exact h.out x hx
   ·rw [List.mem_singleton.1 hx]; exact hn
  ·exact h.out x hx
 ·show (if a.out.length < 50 then a.out ++ [n] else a.out).length ≤ 50
  split
  ·rw [List.length_append]; show a.out.length + 1 ≤ 50; omega
  ·exact h.room
theorem Abs.Ok.second {a : Abs} (h : a.Ok) {s : Nat} (hs : s < 11) (r : Bool) {n : Int} (hn : In64 n) : (a.second s r n).Ok := by
 unfold Abs.second; split; exact h.reg s hs; exact z9y hn
theorem zNs {p : Val} {o : Int} (h : (z30 p o).2 = 0) : 0 ≤ (z30 p o).1 ∧ (z30 p o).1 < z3o p := by
 unfold z30 at h ⊢
 by_cases h0 : p.k = 0
 ·rw [if_pos h0] at h; exact absurd h (by decide)
 by_cases h1 : p.k = 1
 ·rw [if_neg h0, if_pos h1] at h; exact absurd h (by decide)
 rw [if_neg h0, if_neg h1] at h ⊢
 by_cases h2 : z45 p o < 0 ∨ z3o p ≤ z45 p o
 ·rw [if_pos h2] at h; exact absurd h (by decide)
 ·rw [if_neg h2]; show 0 ≤ z45 p o ∧ z45 p o < z3o p; omega
theorem Abs.Ok.at {a : Abs} (h : a.Ok) {p : Val} (hp : p.Ok) {o : Int} (hr : (z30 p o).2 = 0) : (a.at p (z30 p o).1.toNat).Ok := by
 have hb := zNs hr
 unfold z3o at hb
 unfold Abs.at
 by_cases h2 : p.k = 2
 ·rw [if_pos h2] at hb ⊢; exact z9y (h.word _ (by omega))
 rw [if_neg h2] at hb ⊢
 by_cases h3 : p.k = 3
 ·rw [if_pos h3] at hb ⊢; exact h.slot _ (by omega)
 ·rw [if_neg h3] at hb ⊢; have := hp.c0; have := hp.c3; exact z9y (h.cel _ (by omega))
theorem zP9 {a : Abs} (h : a.Ok) (d : Nat) {p : Val} (hp : p.Ok) (o : Int) : (zI8 a d p o).2.Ok := by
 unfold zI8
 by_cases hr : (z30 p o).2 = 0
 ·rw [if_neg (by simp [hr])]
  split
  ·exact h
  ·exact h.putReg d (h.at hp hr)
 ·rw [if_pos hr]; exact h
theorem zJj {a : Abs} (h : a.Ok) (p : Val) {v : Val} (hv : v.Ok) (o : Int) : (z9v a p v o).2.Ok := by
 unfold z9v
 split
 ·exact h
 split
 ·exact h
 split
 ·exact h
 split
 ·exact h.putSlot _ hv
 split
 ·exact h
 ·exact h.putCel _ hv.n
theorem zPu {n : Int} : (zD7 n).Ok := by
 unfold zD7
 split
 ·exact z9y ⟨by decide, by decide⟩
 ·exact ⟨show (0 : Int) ≤ 4 by decide, show (4 : Int) ≤ 4 by decide, (⟨by decide, by decide⟩ : In64 0), by show 0 ≤ n; omega, by show n ≤ 3; omega⟩
theorem zPx {a : Abs} (h : a.Ok) (what : Int) : (zIr a what).2.Ok := by
 unfold zIr
 split
 ·exact h
 split
 ·exact h.lose.putReg 0 zPu
 split
 ·exact h.lose.putReg 0 (z9y h.time)
 ·exact (h.lose.give (h.reg 1 (by decide)).n).putReg 0 (z9y ⟨by decide, by decide⟩)
theorem zLc {c : Int} (hc : 1 ≤ c ∧ c ≤ 13) {a b : Val} (ha : a.Ok) (hb : b.Ok) : (z6s c a b).1.Ok := by
 have hd := zGi hc ha.n.1 ha.n.2 hb.n.1 hb.n.2
 unfold z6s
 split
 ·exact z6p
 split
 ·exact hb
 split
 ·exact ⟨ha.k0, ha.k4, hd, ha.c0, ha.c3⟩
 split
 ·exact ⟨hb.k0, hb.k4, hd, hb.c0, hb.c3⟩
 ·exact z6p
theorem doF_ok {c d s : Int} {r : Bool} {o n : Int} {a : Abs} (h : a.Ok) (c1 : 1 ≤ c) (c2 : c ≤ 28) (hc : c ≠ 28) (d1 : 0 ≤ d) (d2 : d ≤ 10) (s1 : 0 ≤ s) (s2 : s ≤ 10) (hn : In64 n) : (doF c d s r o n a).2.2.Ok := by
 have hd : d.toNat < 11 := by omega
 have hs : s.toNat < 11 := by omega
 unfold doF
 by_cases h1 : 15 ≤ c ∧ c ≤ 24
 ·rw [if_pos h1]; exact h
 rw [if_neg h1]
 by_cases h2 : c = 14
 ·rw [if_pos h2]; exact h
 rw [if_neg h2]
 by_cases h3 : c = 25
 ·rw [if_pos h3]; exact zP9 h _ (h.reg _ hs) o
 rw [if_neg h3]
 by_cases h4 : c = 26
 ·rw [if_pos h4]; exact zJj h _ (h.second hs r hn) o
 rw [if_neg h4]
 by_cases h5 : c = 27
 ·rw [if_pos h5]; exact zPx h n
 rw [if_neg h5]
 exact h.putReg _ (zLc (by omega) (h.reg _ hd) (h.second hs r hn))
end Go.Proofs.YteenhdoaminkeaaGreatDoor
namespace Go.Proofs.YteenhdoaminkeaaGreatDoor
open Go.RowKit
structure Kno where
 k : Int
 l : Int
 h : Int
def Kno.Ok (x : Kno) : Prop := 0 ≤ x.k ∧ x.k ≤ 5 ∧ In64 x.l ∧ In64 x.h ∧ x.l ≤ x.h
def Kno.Has (x : Kno) (v : Val) : Prop :=
 x.k = 0 ∨ (1 ≤ x.k ∧ x.k ≤ 4 ∧ v.k = x.k ∧ x.l ≤ v.n ∧ v.n ≤ x.h) ∨ (x.k = 5 ∧ v.n = 0 ∧ (v.k = 1 ∨ v.k = 4))
def kno0 : Kno := ⟨0, 0, 0⟩
def z15 (l h : Int) : Kno := ⟨1, l, h⟩
def z0f (x : Kno) : Int := if x.k = 0 then 8 else if x.k = 1 then 0 else 1
theorem z4y {x : Kno} {v : Val} (hx : x.Has v) (h : z0f x = 0) : z82 v = 0 ∧ v.k = 1 ∧ x.l ≤ v.n ∧ v.n ≤ x.h := by
 unfold z0f at h
 by_cases h0 : x.k = 0
 ·rw [if_pos h0] at h; exact absurd h (by decide)
 by_cases h1 : x.k = 1
 ·rcases hx with hx | hx | hx
  ·exact absurd hx h0
  ·have e : v.k = 1 := by omega
   exact ⟨by unfold z82; rw [if_neg (by omega), if_pos e], e, hx.2.2.2.1, hx.2.2.2.2⟩
  ·omega
 ·rw [if_neg h0, if_neg h1] at h; exact absurd h (by decide)
def z1h (k : Int) (b : Int × Int) : Kno × Int := if b.1 = -9223372036854775808 ∧ b.2 = 9223372036854775807 then (kno0, 2) else (⟨k, b.1, b.2⟩, 0)
def z2e (c : Int) (a b : Kno) : Kno × Int :=
 if b.k = 0 ∨ (a.k = 0 ∧ c ≠ 1) then (kno0, 8)
 else if c = 1 then (b, 0)
 else if a.k = 1 ∧ b.k = 1 then (z15 (bdV c a.l a.h b.l b.h).1 (bdV c a.l a.h b.l b.h).2, 0)
 else if (a.k = 2 ∨ a.k = 3 ∨ a.k = 4) ∧ b.k = 1 ∧ (c = 2 ∨ c = 3) then z1h a.k (bdV c a.l a.h b.l b.h)
 else if a.k = 1 ∧ (b.k = 2 ∨ b.k = 3 ∨ b.k = 4) ∧ c = 2 then z1h b.k (bdV c a.l a.h b.l b.h)
 else (kno0, 1)
theorem z63 {k : Int} {b : Int × Int} (h : (z1h k b).2 = 0) : (z1h k b).1 = ⟨k, b.1, b.2⟩ := by
 unfold z1h at h ⊢
 split at h
 ·exact absurd h (by decide)
 ·rw [if_neg (by assumption)]
theorem Kno.Has.same {x : Kno} {v : Val} (hx : x.Has v) (h0 : 1 ≤ x.k) (h4 : x.k ≤ 4) : v.k = x.k ∧ x.l ≤ v.n ∧ v.n ≤ x.h := by
 rcases hx with hx | hx | hx
 ·omega
 ·exact hx.2.2
 ·omega
theorem Kno.Has.some {x : Kno} {v : Val} (hk : x.Ok) (hx : x.Has v) (h0 : x.k ≠ 0) : v.k ≠ 0 := by
 rcases hx with hx | hx | hx
 ·exact absurd hx h0
 ·have := hk.1; omega
 ·omega
theorem zCr {c : Int} {a b : Kno} {va vb : Val} (hc : 1 ≤ c ∧ c ≤ 13) (ka : a.Ok) (kb : b.Ok) (ha : a.Has va) (hb : b.Has vb) (h : (z2e c a b).2 = 0) :
  (z6s c va vb).2 = 0 ∧ (z2e c a b).1.Has (z6s c va vb).1 := by
 unfold z2e at h ⊢
 by_cases h1 : b.k = 0 ∨ (a.k = 0 ∧ c ≠ 1)
 ·rw [if_pos h1] at h; exact absurd h (by decide)
 rw [if_neg h1] at h ⊢
 have nb : vb.k ≠ 0 := hb.some kb (fun e => h1 (Or.inl e))
 have na : ¬ (vb.k = 0 ∨ (va.k = 0 ∧ c ≠ 1)) := fun e => e.elim nb fun e => ha.some ka (fun e1 => h1 (Or.inr ⟨e1, e.2⟩)) e.1
 unfold z6s
 rw [if_neg na]
 by_cases h2 : c = 1
 ·rw [if_pos h2] at h ⊢; rw [if_pos h2]; exact ⟨rfl, hb⟩
 rw [if_neg h2] at h ⊢; rw [if_neg h2]
 by_cases h3 : a.k = 1 ∧ b.k = 1
 ·rw [if_pos h3] at h ⊢
  obtain ⟨e1, e2, e3⟩ := ha.same (by omega) (by omega)
  obtain ⟨f1, f2, f3⟩ := hb.same (by omega) (by omega)
  rw [if_pos ⟨by omega, Or.inl (by omega)⟩]
  have bd := z9d hc ka.2.2.1.1 ka.2.2.2.1.2 kb.2.2.1.1 kb.2.2.2.1.2 e2 e3 f2 f3
  exact ⟨rfl, Or.inr (Or.inl ⟨by show (1 : Int) ≤ 1; decide, by show (1 : Int) ≤ 4; decide, by show va.k = 1; omega, bd.1, bd.2⟩)⟩
 rw [if_neg h3] at h ⊢
 by_cases h4 : (a.k = 2 ∨ a.k = 3 ∨ a.k = 4) ∧ b.k = 1 ∧ (c = 2 ∨ c = 3)
 ·rw [if_pos h4] at h ⊢
  obtain ⟨e1, e2, e3⟩ := ha.same (by omega) (by omega)
  obtain ⟨f1, f2, f3⟩ := hb.same (by omega) (by omega)
  rw [if_pos ⟨by omega, Or.inr h4.2.2⟩, z63 h]
  have bd := z9d hc ka.2.2.1.1 ka.2.2.2.1.2 kb.2.2.1.1 kb.2.2.2.1.2 e2 e3 f2 f3
  exact ⟨rfl, Or.inr (Or.inl ⟨by show 1 ≤ a.k; omega, by show a.k ≤ 4; omega, e1, bd.1, bd.2⟩)⟩
 rw [if_neg h4] at h ⊢
 by_cases h5 : a.k = 1 ∧ (b.k = 2 ∨ b.k = 3 ∨ b.k = 4) ∧ c = 2
 ·rw [if_pos h5] at h ⊢
  obtain ⟨e1, e2, e3⟩ := ha.same (by omega) (by omega)
  obtain ⟨f1, f2, f3⟩ := hb.same (by omega) (by omega)
  rw [if_neg (by omega), if_pos ⟨by omega, h5.2.2⟩, z63 h]
  have bd := z9d hc ka.2.2.1.1 ka.2.2.2.1.2 kb.2.2.1.1 kb.2.2.2.1.2 e2 e3 f2 f3
  exact ⟨rfl, Or.inr (Or.inl ⟨by show 1 ≤ b.k; omega, by show b.k ≤ 4; omega, f1, bd.1, bd.2⟩)⟩
 ·rw [if_neg h5] at h; exact absurd h (by decide)
def z1u (k : Int) : Int × Int := if k = 2 then (0, 7) else if k = 3 then (-16, -1) else (0, 3)
def z3z (x : Kno) (o : Int) : Int × Int := bdV 2 x.l x.h o o
def z0l (x : Kno) (o : Int) : (Int × Int) × Int :=
 if x.k = 0 then ((0, 0), 8)
 else if x.k = 1 ∨ x.k = 5 then ((0, 0), 1)
 else if (z3z x o).1 < (z1u x.k).1 ∨ (z1u x.k).2 < (z3z x o).2 then ((0, 0), 2)
 else (z3z x o, 0)
theorem z7w {x : Kno} {v : Val} {o : Int} (kx : x.Ok) (ho : In64 o) (hx : x.Has v) (h : (z0l x o).2 = 0) :
  (z30 v o).2 = 0 ∧ v.k = x.k ∧ (x.k = 2 ∨ x.k = 3 ∨ x.k = 4) ∧ (z0l x o).1 = z3z x o ∧ (z3z x o).1 ≤ wrap64 (v.n + o) ∧ wrap64 (v.n + o) ≤ (z3z x o).2 ∧
   (z1u x.k).1 ≤ (z3z x o).1 ∧ (z3z x o).2 ≤ (z1u x.k).2 ∧ (z30 v o).1 = (if x.k = 3 then wrap64 (v.n + o) + 16 else wrap64 (v.n + o)) := by
 unfold z0l at h ⊢
 by_cases h0 : x.k = 0
 ·rw [if_pos h0] at h; exact absurd h (by decide)
 rw [if_neg h0] at h ⊢
 by_cases h1 : x.k = 1 ∨ x.k = 5
 ·rw [if_pos h1] at h; exact absurd h (by decide)
 rw [if_neg h1] at h ⊢
 by_cases h2 : (z3z x o).1 < (z1u x.k).1 ∨ (z1u x.k).2 < (z3z x o).2
 ·rw [if_pos h2] at h; exact absurd h (by decide)
 rw [if_neg h2]
 have k0 := kx.1
 have k5 := kx.2.1
 obtain ⟨e1, e2, e3⟩ := hx.same (by omega) (by omega)
 have bd : (z3z x o).1 ≤ z0i 2 v.n o ∧ z0i 2 v.n o ≤ (z3z x o).2 := z9d ⟨by decide, by decide⟩ kx.2.2.1.1 kx.2.2.2.1.2 ho.1 ho.2 e2 e3 (Int.le_refl _) (Int.le_refl _)
 have ed : z0i 2 v.n o = wrap64 (v.n + o) := by simp only [z0i, reduceIte, Int.reduceEq]
 rw [ed] at bd
 have hk : x.k = 2 ∨ x.k = 3 ∨ x.k = 4 := by omega
 have hr : (z30 v o).2 = 0 ∧ (z30 v o).1 = (if x.k = 3 then wrap64 (v.n + o) + 16 else wrap64 (v.n + o)) := by
  unfold z30
  rw [if_neg (by omega), if_neg (by omega)]
  rcases hk with hk | hk | hk
  ·have er : z1u x.k = (0, 7) := by rw [hk]; rfl
   have et : z45 v o = wrap64 (v.n + o) := if_neg (by omega)
   have em : z3o v = 8 := if_pos (by omega)
   rw [er] at h2
   rw [et, em, if_neg (by omega), if_neg (by omega)]
   exact ⟨rfl, rfl⟩
  ·have er : z1u x.k = (-16, -1) := by rw [hk]; rfl
   have e16 : wrap64 (wrap64 (v.n + o) + 16) = wrap64 (v.n + o) + 16 := z0e (by rw [er] at h2; omega) (by rw [er] at h2; omega)
   have et : z45 v o = wrap64 (v.n + o) + 16 := by unfold z45; rw [if_pos (by omega), e16]
   have em : z3o v = 16 := by unfold z3o; rw [if_neg (by omega), if_pos (by omega)]
   rw [er] at h2
   rw [et, em, if_neg (by omega), if_pos hk]
   exact ⟨rfl, rfl⟩
  ·have er : z1u x.k = (0, 3) := by rw [hk]; rfl
   have et : z45 v o = wrap64 (v.n + o) := if_neg (by omega)
   have em : z3o v = 4 := by unfold z3o; rw [if_neg (by omega), if_neg (by omega)]
   rw [er] at h2
   rw [et, em, if_neg (by omega), if_neg (by omega)]
   exact ⟨rfl, rfl⟩
 exact ⟨hr.1, e1, hk, rfl, bd.1, bd.2, by omega, by omega, hr.2⟩
structure Way where
 reg : Nat → Kno
 slot : Nat → Kno
def Way.putReg (y : Way) (d : Nat) (x : Kno) : Way := { y with reg := fun i => if i = d then x else y.reg i }
def Way.putSlot (y : Way) (t : Nat) (x : Kno) : Way := { y with slot := fun i => if i = t then x else y.slot i }
def Way.second (y : Way) (s : Nat) (r : Bool) (n : Int) : Kno := if r then y.reg s else z15 n n
def Way.lose (y : Way) : Way := { y with reg := fun i => if 1 ≤ i ∧ i ≤ 5 then kno0 else y.reg i }
structure Way.Ok (y : Way) : Prop where
 reg : ∀ i, i < 11 → (y.reg i).Ok
 slot : ∀ i, i < 16 → (y.slot i).Ok
structure Way.Has (y : Way) (a : Abs) : Prop where
 reg : ∀ i, i < 11 → (y.reg i).Has (a.reg i)
 slot : ∀ i, i < 16 → (y.slot i).Has (a.slot i)
theorem Way.Has.putReg {y : Way} {a : Abs} {d : Nat} {x : Kno} {v : Val} (h : y.Has a) (hx : x.Has v) : (y.putReg d x).Has (a.putReg d v) :=
 ⟨fun i hi => by
  show (if i = d then x else y.reg i).Has (if i = d then v else a.reg i)
  by_cases e : i = d
  ·rw [if_pos e, if_pos e]; exact hx
  ·rw [if_neg e, if_neg e]; exact h.reg i hi, h.slot⟩
theorem Way.Has.putSlot {y : Way} {a : Abs} {d : Nat} {x : Kno} {v : Val} (h : y.Has a) (hx : x.Has v) : (y.putSlot d x).Has (a.putSlot d v) :=
 ⟨h.reg, fun i hi => by
  show (if i = d then x else y.slot i).Has (if i = d then v else a.slot i)
  by_cases e : i = d
  ·rw [if_pos e, if_pos e]; exact hx
  ·rw [if_neg e, if_neg e]; exact h.slot i hi⟩
theorem Way.Has.putCel {y : Way} {a : Abs} {d : Nat} {n : Int} (h : y.Has a) : y.Has (a.putCel d n) := ⟨h.reg, h.slot⟩
theorem Way.Has.give {y : Way} {a : Abs} {n : Int} (h : y.Has a) : y.Has (a.give n) := ⟨h.reg, h.slot⟩
theorem Way.Has.lose {y : Way} {a : Abs} (h : y.Has a) : y.lose.Has a.lose :=
 ⟨fun i hi => by
  show (if 1 ≤ i ∧ i ≤ 5 then kno0 else y.reg i).Has (if 1 ≤ i ∧ i ≤ 5 then zCl else a.reg i)
  by_cases e : 1 ≤ i ∧ i ≤ 5
  ·rw [if_pos e, if_pos e]; exact Or.inl rfl
  ·rw [if_neg e, if_neg e]; exact h.reg i hi, h.slot⟩
theorem Kno.has_num {n l h : Int} (h1 : l ≤ n) (h2 : n ≤ h) : (z15 l h).Has (numF n) := Or.inr (Or.inl ⟨by show (1 : Int) ≤ 1; decide, by show (1 : Int) ≤ 4; decide, rfl, h1, h2⟩)
theorem Way.Has.second {y : Way} {a : Abs} {s : Nat} {r : Bool} {n : Int} (h : y.Has a) (hs : s < 11) : (y.second s r n).Has (a.second s r n) := by
 cases r
 ·exact Kno.has_num (Int.le_refl _) (Int.le_refl _)
 ·exact h.reg s hs
def z1f : List Kno → Int
 | [] => 0
 | x :: l => if z0f x = 0 then z1f l else z0f x
def z27 : Int × Int → List Kno → Int × Int
 | p, [] => p
 | p, x :: l => z27 (min p.1 x.l, max p.2 x.h) l
def z5h : List Kno → Int × Int
 | [] => (0, 0)
 | x :: l => z27 (x.l, x.h) l
theorem firstBad_none : ∀ {l : List Kno}, z1f l = 0 → ∀ x, x ∈ l → z0f x = 0
 | [], _, _, h => absurd h (by simp)
 | y :: l, h, x, hx => by
  by_cases hy : z0f y = 0
  ·rw [z1f, if_pos hy] at h
   rcases List.mem_cons.mp hx with rfl | hx
   ·exact hy
   ·exact firstBad_none h x hx
  ·rw [z1f, if_neg hy] at h; exact absurd h hy
theorem joinFrom_ends : ∀ (l : List Kno) (p : Int × Int), (z27 p l).1 ≤ p.1 ∧ p.2 ≤ (z27 p l).2
 | [], _ => ⟨Int.le_refl _, Int.le_refl _⟩
 | x :: l, p => by
  have := joinFrom_ends l (min p.1 x.l, max p.2 x.h)
  rw [z27]
  exact ⟨by have h1 := this.1; show _ ≤ p.1; have h2 : (min p.1 x.l) ≤ p.1 := Int.min_le_left _ _; exact Int.le_trans h1 h2, by have h1 := this.2; have h2 : p.2 ≤ max p.2 x.h := Int.le_max_left _ _; exact Int.le_trans h2 h1⟩
theorem joinFrom_has : ∀ (l : List Kno) (p : Int × Int) (x : Kno), x ∈ l → (z27 p l).1 ≤ x.l ∧ x.h ≤ (z27 p l).2
 | [], _, _, h => absurd h (by simp)
 | y :: l, p, x, hx => by
  rw [z27]
  rcases List.mem_cons.mp hx with rfl | hx
  ·have := joinFrom_ends l (min p.1 x.l, max p.2 x.h)
   exact ⟨Int.le_trans this.1 (Int.min_le_right _ _), Int.le_trans (Int.le_max_right _ _) this.2⟩
  ·exact joinFrom_has l _ x hx
theorem zLi {l : List Kno} {x : Kno} (hx : x ∈ l) : (z5h l).1 ≤ x.l ∧ x.h ≤ (z5h l).2 := by
 cases l with
 | nil => exact absurd hx (by simp)
 | cons y l =>
  rcases List.mem_cons.mp hx with rfl | hx
  ·exact joinFrom_ends l (x.l, x.h)
  ·exact joinFrom_has l _ x hx
def Way.row (y : Way) (t n : Nat) : List Kno := (List.range' t n).map y.slot
def Way.kept (y : Way) (p : Int × Int) : Kno × Int :=
 if p.1 = p.2 ∧ (y.slot (p.1 + 16).toNat).k ≠ 0 then (y.slot (p.1 + 16).toNat, 0)
 else if z1f (y.row (p.1 + 16).toNat (p.2 - p.1 + 1).toNat) ≠ 0 then (kno0, z1f (y.row (p.1 + 16).toNat (p.2 - p.1 + 1).toNat))
 else (z15 (z5h (y.row (p.1 + 16).toNat (p.2 - p.1 + 1).toNat)).1 (z5h (y.row (p.1 + 16).toNat (p.2 - p.1 + 1).toNat)).2, 0)
theorem zPg {y : Way} {a : Abs} {p : Int × Int} {i : Int} (hk : y.Ok) (hy : y.Has a) (h0 : -16 ≤ p.1) (h1 : p.1 ≤ i) (h2 : i ≤ p.2) (h3 : p.2 ≤ -1) (h : (y.kept p).2 = 0) :
  (a.slot (i + 16).toNat).k ≠ 0 ∧ (y.kept p).1.Has (a.slot (i + 16).toNat) := by
 unfold Way.kept at h ⊢
 by_cases c1 : p.1 = p.2 ∧ (y.slot (p.1 + 16).toNat).k ≠ 0
 ·rw [if_pos c1] at h ⊢
  have e : i = p.1 := by omega
  rw [e]
  exact ⟨(hy.slot _ (by omega)).some (hk.slot _ (by omega)) c1.2, hy.slot _ (by omega)⟩
 rw [if_neg c1] at h ⊢
 by_cases c2 : z1f (y.row (p.1 + 16).toNat (p.2 - p.1 + 1).toNat) ≠ 0
 ·rw [if_pos c2] at h; exact absurd h c2
 rw [if_neg c2]
 have hm : y.slot (i + 16).toNat ∈ y.row (p.1 + 16).toNat (p.2 - p.1 + 1).toNat := List.mem_map.mpr ⟨(i + 16).toNat, List.mem_range'.mpr ⟨(i - p.1).toNat, by omega, by omega⟩, rfl⟩
 obtain ⟨-, w1, w2, w3⟩ := z4y (hy.slot (i + 16).toNat (by omega)) (firstBad_none (Classical.byContradiction c2) _ hm)
 have j := zLi hm
 exact ⟨by omega, Or.inr (Or.inl ⟨by show (1 : Int) ≤ 1; decide, by show (1 : Int) ≤ 4; decide, w1, Int.le_trans j.1 w2, Int.le_trans w3 j.2⟩)⟩
def Way.load (y : Way) (d s : Nat) (o : Int) : Int × Way :=
 if (z0l (y.reg s) o).2 ≠ 0 then ((z0l (y.reg s) o).2, y)
 else if (y.reg s).k = 3 then (if (y.kept (z0l (y.reg s) o).1).2 ≠ 0 then ((y.kept (z0l (y.reg s) o).1).2, y) else (0, y.putReg d (y.kept (z0l (y.reg s) o).1).1))
 else (0, y.putReg d (z15 (-9223372036854775808) 9223372036854775807))
theorem zP8 {y : Way} {a : Abs} {d s : Nat} {o : Int} (hk : y.Ok) (ha : a.Ok) (hy : y.Has a) (hs : s < 11) (ho : In64 o) (h : (y.load d s o).1 = 0) :
  (zI8 a d (a.reg s) o).1 = 0 ∧ (y.load d s o).2.Has (zI8 a d (a.reg s) o).2 := by
 unfold Way.load at h ⊢
 by_cases c1 : (z0l (y.reg s) o).2 ≠ 0
 ·rw [if_pos c1] at h; exact absurd h c1
 rw [if_neg c1] at h ⊢
 have c1' : (z0l (y.reg s) o).2 = 0 := Classical.byContradiction c1
 obtain ⟨r0, rk, rp, rt, b1, b2, m1, m2, r1⟩ := z7w (hk.reg s hs) ho (hy.reg s hs) c1'
 unfold zI8
 rw [if_neg (by rw [r0]; decide)]
 by_cases c2 : (y.reg s).k = 3
 ·rw [if_pos c2] at h ⊢
  rw [if_pos c2] at r1
  by_cases c3 : (y.kept (z0l (y.reg s) o).1).2 ≠ 0
  ·rw [if_pos c3] at h; exact absurd h c3
  rw [if_neg c3]
  have er : z1u (y.reg s).k = (-16, -1) := by rw [c2]; rfl
  rw [er] at m1 m2
  rw [rt] at c3 ⊢
  obtain ⟨n0, nh⟩ := zPg (i := wrap64 ((a.reg s).n + o)) hk hy m1 b1 b2 m2 (Classical.byContradiction c3)
  have ea : a.at (a.reg s) (z30 (a.reg s) o).1.toNat = a.slot (wrap64 ((a.reg s).n + o) + 16).toNat := by
   unfold Abs.at; rw [if_neg (by omega), if_pos (by omega), r1]
  rw [ea, if_neg n0]
  exact ⟨rfl, hy.putReg nh⟩
 ·rw [if_neg c2]
  rw [if_neg c2] at r1
  obtain ⟨n, en, hn⟩ : ∃ n, a.at (a.reg s) (z30 (a.reg s) o).1.toNat = numF n ∧ In64 n := by
   unfold Abs.at
   rw [r1]
   rcases rp with e | e | e
   ·have er : z1u (y.reg s).k = (0, 7) := by rw [e]; rfl
    rw [er] at m1 m2
    exact ⟨_, if_pos (by omega), ha.word _ (by omega)⟩
   ·exact absurd e c2
   ·have er : z1u (y.reg s).k = (0, 3) := by rw [e]; rfl
    rw [er] at m1 m2
    have := (ha.reg s hs).c0
    have := (ha.reg s hs).c3
    exact ⟨_, by rw [if_neg (by omega), if_neg (by omega)], ha.cel _ (by omega)⟩
  rw [en, if_neg (by show ¬ (1 : Int) = 0; decide)]
  exact ⟨rfl, hy.putReg (Kno.has_num hn.1 hn.2)⟩
def way0 : Way := ⟨fun i => if i = 1 then ⟨2, 0, 0⟩ else if i = 10 then ⟨3, 0, 0⟩ else kno0, fun _ => kno0⟩
end Go.Proofs.YteenhdoaminkeaaGreatDoor
namespace Go.Proofs.YteenhdoaminkeaaGreatDoor
open Go.ChangeShapes Go.WideShapes Go.ChangeAt Go.RowKit
abbrev Kept (B : Nat) (w w' : World) : Prop := w.grownBy w' (some B)
theorem z1q {w w1 : World} (hb : Below w.heap.size w w1) (B : Nat) : Kept B w w1 := ⟨hb.os, hb.tape, hb.output, hb.size, fun k hk _ => hb.block k hk⟩
theorem kept_set {w w1 : World} {B : Nat} (h : Kept B w w1) (i : Nat) (v : Value) : Kept B w (w1.setCell ⟨B, i, none⟩ v) :=
 ⟨h.os, h.tape, h.output, by show w.heap.size ≤ (w1.heap.modify B _).size; rw [Array.size_modify]; exact h.size, fun k hk hne => (Below.heap_setCell w1 ⟨B, i, none⟩ v k (fun e => hne (by rw [e]))).trans (h.block k hk hne)⟩
theorem z3g {w w1 : World} {B : Nat} (h : Kept B w w1) : Kept B w w1.drew := ⟨h.os, h.tape, h.output, h.size, h.block⟩
theorem z5q {w w1 w2 : World} {B : Nat} (h : Kept B w w1) (k : Kept B w1 w2) : Kept B w w2 :=
 ⟨k.os.trans h.os, k.tape.trans h.tape, k.output.trans h.output, Nat.le_trans h.size k.size, fun i hi hne => (k.block i (Nat.lt_of_lt_of_le hi h.size) hne).trans (h.block i hi hne)⟩
theorem z4q {W w1 : World} (hb : Below W.heap.size W w1) (b : Nat) : b < W.heap.size → (∀ o, w1.cell? ⟨b, o, none⟩ = W.cell? ⟨b, o, none⟩) ∧ (∀ o, w1.frozen? ⟨b, o, none⟩ = W.frozen? ⟨b, o, none⟩) ∧ b < w1.heap.size := fun h =>
 ⟨fun o => hb.cell (p := ⟨b, o, none⟩) h, fun o => by
  have e := hb.block b h
  unfold World.frozen?
  rw [e], Nat.lt_of_lt_of_le h hb.size⟩
theorem z00 (w : World) : w.drew.heap.size = w.heap.size := rfl
theorem z0y (w : World) (k : Nat) : (w.drewN k).heap.size = w.heap.size := rfl
theorem z0o (w : World) (a : Addr) (v : Value) : (w.setCell a v).heap.size = w.heap.size := by simp [World.setCell]
attribute [local simp] z00 z0y z0o
end Go.Proofs.YteenhdoaminkeaaGreatDoor
namespace Go.Proofs.YteenhdoaminkeaaGreatDoor
open Go.ChangeShapes Go.WideShapes Go.ChangeAt Go.RowKit
theorem zLh (B : Nat) (w : World) : Kept B w w := ⟨rfl, rfl, rfl, Nat.le_refl _, fun _ _ _ => rfl⟩
theorem z2w {w w1 : World} {B : Nat} (h : Kept B w w1) (o : Obj) : Kept B w (w1.alloc o) := z5q h (z1q ((bF _ _).alloc (Nat.le_refl _) _) B)
theorem z40 {w w1 : World} {B : Nat} (h : Kept B w w1) (a : Addr) (v : Value) (ha : w.heap.size ≤ a.block) : Kept B w (w1.setCell a v) :=
 ⟨h.os, h.tape, h.output, by show w.heap.size ≤ (w1.heap.modify _ _).size; rw [Array.size_modify]; exact h.size, fun k hk hne => (Below.heap_setCell w1 a v k (by omega)).trans (h.block k hk hne)⟩
theorem z7h {w w1 w2 : World} {B : Nat} (h : Kept B w w1) (hb : Below w1.heap.size w1 w2) : Kept B w w2 := z5q h (z1q hb B)
end Go.Proofs.YteenhdoaminkeaaGreatDoor
