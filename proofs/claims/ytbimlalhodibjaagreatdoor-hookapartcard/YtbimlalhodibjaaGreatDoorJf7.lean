/-
 Plain facts on bounds: what a code makes of two numbers that two bounds have is between; no program is named here. Conditions: the numbers are of 64 bits, and between the ends. A machine on plain numbers: what a step makes of registers, slots, words, cells and what was given out, and what comes of a list of steps; no program is named here. No conditions. A program that runs, as it lies in memory, over what else is made and written: small laws, each for one step of a world. No conditions. A step that asks, of a program that runs: how far it leads, or what is wrong; nothing that was there is changed. Conditions: numbers are of 64 bits. A Load, of a program that runs: what is in a register then, or what is wrong. Conditions: numbers are of 64 bits.
-/
import Derived.Test.YtbimlalhodibjaaGreatDoorJf6
set_option maxHeartbeats 40000000
open Go.Value renaming int → A
open Go.IntKind renaming i64 → F
open Go.RowKit.Below renaming alloc → bA, setCell → bS, drew → bD, refl → bF
set_option maxRecDepth 1000000
set_option linter.defProp false
set_option linter.unusedVariables false
set_option linter.unusedSimpArgs false
open Go.Ending renaming returned → rT
open Go.Value renaming pointer → pT
open Go.Proofs.Tryz renaming prog → tP
namespace Go.Proofs.YtbimlalhodibjaaGreatDoor
section
open Go.RowKit
theorem zKz {c x y : Int} (hc : 1 <= c /\ c <= 13) (px : -9223372036854775808 <= x) (qx : x <= 9223372036854775807) (py : -9223372036854775808 <= y) (qy : y <= 9223372036854775807) :
  -9223372036854775808 <= z0s c x y /\ z0s c x y <= 9223372036854775807 := by
 have h : c = 1 \/ c = 2 \/ c = 3 \/ c = 4 \/ c = 5 \/ c = 6 \/ c = 7 \/ c = 8 \/ c = 9 \/ c = 10 \/ c = 11 \/ c = 12 \/ c = 13 := by omega
 rcases h with rfl | rfl | rfl | rfl | rfl | rfl | rfl | rfl | rfl | rfl | rfl | rfl | rfl
 ·rw [zJq]; exact ⟨py, qy⟩
 ·rw [zJp]; exact z1p _
 ·rw [zJo]; exact z1p _
 ·rw [zJn]; exact z1p _
 ·by_cases hy : y = 0
  ·subst hy; rw [zEx]; decide
  ·rw [zJm x hy]; exact z1p _
 ·by_cases hy : y = 0
  ·subst hy; rw [zEw]; exact ⟨px, qx⟩
  ·rw [zJl x hy]; exact z1p _
 ·rw [zEv]; exact z1p _
 ·rw [zJk]; exact z1p _
 ·rw [zJj]; exact z1p _
 ·rw [zEz]; exact z1p _
 ·rw [z6k]; exact z1p _
 ·rw [z7x]
  have hp : (0 : Int) < 2 ^ sixBits y := Int.pow_pos (by decide)
  have h1 : x / 2 ^ sixBits y * 2 ^ sixBits y <= x := Int.ediv_mul_le x (by omega)
  have h2 := Int.lt_ediv_add_one_mul_self x hp
  generalize x / 2 ^ sixBits y = q at *
  generalize (2 : Int) ^ sixBits y = m at *
  constructor
  ·by_cases hq : -9223372036854775808 <= q
   ·exact hq
   ·have : (q + 1) * m <= (q + 1) * 1 := Int.mul_le_mul_of_nonpos_left (by omega) (by omega)
    omega
  ·by_cases hq : q <= 9223372036854775807
   ·exact hq
   ·have : q * 1 <= q * m := Int.mul_le_mul_of_nonneg_left (by omega) (by omega)
    omega
 ·rw [zEy]; exact z1p _
theorem z6z {k l h y : Int} (h1 : l <= y) (h2 : y <= h) : min (k * l) (k * h) <= k * y /\ k * y <= max (k * l) (k * h) := by
 by_cases hk : 0 <= k
 ·have a := Int.mul_le_mul_of_nonneg_left h1 hk
  have b := Int.mul_le_mul_of_nonneg_left h2 hk
  omega
 ·have a := Int.mul_le_mul_of_nonpos_left (by omega : k <= 0) h1
  have b := Int.mul_le_mul_of_nonpos_left (by omega : k <= 0) h2
  omega
theorem zIw {al ah bl bh x y : Int} (h1 : al <= x) (h2 : x <= ah) (h3 : bl <= y) (h4 : y <= bh) : zMz al ah bl bh <= x * y /\ x * y <= zN0 al ah bl bh := by
 have a := z6z (k := y) h1 h2
 have b := z6z (k := al) h3 h4
 have c := z6z (k := ah) h3 h4
 rw [Int.mul_comm y x, Int.mul_comm y al, Int.mul_comm y ah] at a
 unfold zMz zN0
 generalize al * y = p at *
 generalize ah * y = q at *
 generalize x * y = r at *
 omega
theorem z9p {u v n z : Int} (h1 : u <= n) (h2 : n <= v) (hz : z = wrap64 n) : (fit2 u v).1 <= z /\ z <= (fit2 u v).2 := by
 subst hz
 cases h : fits u && fits v
 ·rw [zEr h]; exact z1p _
 ·rw [z9o h]
  simp only [Bool.and_eq_true, z5k] at h
  rw [z0f (by omega) (by omega)]
  exact ⟨h1, h2⟩
theorem zJr {a x y : Int} (h0 : 0 <= x) (h1 : x <= a) (h2 : 0 < y) : 0 <= x / y /\ x / y <= a := by
 have l := Int.ediv_nonneg h0 (Int.le_of_lt h2)
 have g := Int.ediv_le_self y h0
 omega
theorem zUl {al ah bl bh x y : Int} (h0 : 0 <= al) (h1 : al <= x) (h2 : x <= ah) (h3 : 0 < bl) (h4 : bl <= y) (h5 : y <= bh) : al / bh <= x / y /\ x / y <= ah / bl := by
 obtain ⟨a, rfl⟩ := Int.eq_ofNat_of_zero_le h0
 obtain ⟨m, rfl⟩ := Int.eq_ofNat_of_zero_le (by omega : 0 <= x)
 obtain ⟨b, rfl⟩ := Int.eq_ofNat_of_zero_le (by omega : 0 <= ah)
 obtain ⟨c, rfl⟩ := Int.eq_ofNat_of_zero_le (by omega : 0 <= bl)
 obtain ⟨d, rfl⟩ := Int.eq_ofNat_of_zero_le (by omega : 0 <= y)
 obtain ⟨e, rfl⟩ := Int.eq_ofNat_of_zero_le (by omega : 0 <= bh)
 have k1 : a / e <= m / d := Nat.div_le_div (by omega) (by omega) (by omega)
 have k2 : m / d <= b / c := Nat.div_le_div (by omega) (by omega) (by omega)
 exact ⟨Int.ofNat_le.2 k1, Int.ofNat_le.2 k2⟩
theorem zKj {x y : Int} (h0 : 0 <= x) (h1 : x <= 9223372036854775807) (h2 : 0 < y) (h3 : y <= 9223372036854775807) : z0s 6 x y = x % y := by
 rw [zJl x (by omega), Int.natCast_emod, z3p h0 h1, z3p (by omega) h3]
 have l := Int.emod_nonneg x (by omega : y ≠ 0)
 have g := Int.emod_lt_of_pos x h2
 exact z0f (by omega) (by omega)
theorem zSc {x y a : Int} (h0 : 0 <= x) (h1 : x <= a) (h2 : a <= 9223372036854775807) : 0 <= wrap64 ((uns x &&& uns y : Nat) : Int) /\ wrap64 ((uns x &&& uns y : Nat) : Int) <= a := by
 have l : uns x &&& uns y <= uns x := Nat.and_le_left
 have e := z3p h0 (by omega)
 rw [z0f (by omega) (by omega)]
 omega
theorem z6n {x m : Int} (h0 : 0 <= x) (h1 : x <= m) : uns x < 2 ^ lenV m.toNat \/ 9223372036854775807 < x := by
 by_cases hx : x <= 9223372036854775807
 ·left
  have e := z3p h0 hx
  have l := zJ1 m.toNat
  omega
 ·right; omega
theorem zJf {m : Int} (h : m <= 9223372036854775807) : lenV m.toNat <= 63 := zJ0 (Nat.lt_of_lt_of_eq (show m.toNat < 9223372036854775808 by omega) (by decide))
theorem zWb {x y m : Int} (hx0 : 0 <= x) (hx : x <= m) (hy0 : 0 <= y) (hy : y <= m) (hm : m <= 9223372036854775807) : max x y <= wrap64 ((uns x ||| uns y : Nat) : Int) /\ wrap64 ((uns x ||| uns y : Nat) : Int) <= z56 m := by
 have a := (z6n hx0 hx).resolve_right (by omega)
 have b := (z6n hy0 hy).resolve_right (by omega)
 have c := Nat.or_lt_two_pow a b
 have d := zIu (zJf hm)
 have l1 : uns x <= uns x ||| uns y := Nat.left_le_or
 have l2 : uns y <= uns x ||| uns y := Nat.right_le_or
 have e1 := z3p hx0 (by omega)
 have e2 := z3p hy0 (by omega)
 unfold z56
 unfold ones at d ⊢
 have p : 0 < 2 ^ lenV m.toNat := Nat.two_pow_pos _
 generalize 2 ^ lenV m.toNat = P at *
 generalize uns x ||| uns y = z at *
 rw [z0f (by omega) (by omega)]
 omega
theorem zSf {x y m : Int} (hx0 : 0 <= x) (hx : x <= m) (hy0 : 0 <= y) (hy : y <= m) (hm : m <= 9223372036854775807) : 0 <= wrap64 ((uns x ^^^ uns y : Nat) : Int) /\ wrap64 ((uns x ^^^ uns y : Nat) : Int) <= z56 m := by
 have a := (z6n hx0 hx).resolve_right (by omega)
 have b := (z6n hy0 hy).resolve_right (by omega)
 have c := Nat.xor_lt_two_pow a b
 have d := zIu (zJf hm)
 unfold z56
 unfold ones at d ⊢
 have p : 0 < 2 ^ lenV m.toNat := Nat.two_pow_pos _
 generalize 2 ^ lenV m.toNat = P at *
 generalize uns x ^^^ uns y = z at *
 rw [z0f (by omega) (by omega)]
 omega
theorem z7t {a b : Int} (k : Nat) (h : a <= b) : a / 2 ^ k <= b / 2 ^ k := Int.ediv_le_ediv (Int.pow_pos (by decide)) h
theorem zJb {x : Int} (k : Nat) : (0 <= x -> 0 <= x / 2 ^ k /\ x / 2 ^ k <= x) /\ (x < 0 -> x <= x / 2 ^ k /\ x / 2 ^ k <= -1) := by
 have hp : (0 : Int) < 2 ^ k := Int.pow_pos (by decide)
 have h1 : x / 2 ^ k * 2 ^ k <= x := Int.ediv_mul_le x (by omega)
 have h2 := Int.lt_ediv_add_one_mul_self x hp
 generalize x / 2 ^ k = q at *
 generalize (2 : Int) ^ k = m at *
 constructor
 ·intro h
  have a : 0 <= q := by
   by_cases hq : 0 <= q
   ·exact hq
   ·have : (q + 1) * m <= (q + 1) * 1 := Int.mul_le_mul_of_nonpos_left (by omega) (by omega)
    omega
  have b : q * 1 <= q * m := Int.mul_le_mul_of_nonneg_left (by omega) a
  omega
 ·intro h
  have a : q <= -1 := by
   by_cases hq : q <= -1
   ·exact hq
   ·have : q * 1 <= q * m := Int.mul_le_mul_of_nonneg_left (by omega) (by omega)
    omega
  have b : (q + 1) * m <= (q + 1) * 1 := Int.mul_le_mul_of_nonpos_left (by omega) (by omega)
  omega
theorem zT6 {x : Int} (b : Int) (h : sixBits b ≠ 0) : 0 <= z0s 11 x b /\ z0s 11 x b <= 2 ^ (64 - sixBits b) - 1 := by
 have r := zK8 (b := b) h
 rw [z6k] at r ⊢
 have hb := z8e b
 have hx := zFg x
 have e : uns (-1) = 18446744073709551615 := by decide
 have l : uns x / 2 ^ sixBits b <= uns (-1) / 2 ^ sixBits b := Nat.div_le_div_right (by omega)
 have k : uns (-1) / 2 ^ sixBits b <= 9223372036854775807 := by
  rw [e]
  have : 2 ^ 1 <= 2 ^ sixBits b := Nat.pow_le_pow_right (by decide) (by omega)
  exact Nat.le_trans (Nat.div_le_div_left this (by decide)) (by decide)
 rw [<- r]
 generalize uns x / 2 ^ sixBits b = p at *
 generalize uns (-1) / 2 ^ sixBits b = q at *
 rw [z0f (by omega) (by omega), z0f (by omega) (by omega)]
 omega
theorem zBk {c al ah bl bh x y : Int} (hc : 1 <= c /\ c <= 13) (pal : -9223372036854775808 <= al) (qah : ah <= 9223372036854775807) (pbl : -9223372036854775808 <= bl) (qbh : bh <= 9223372036854775807)
  (h1 : al <= x) (h2 : x <= ah) (h3 : bl <= y) (h4 : y <= bh) : (bdV c al ah bl bh).1 <= z0s c x y /\ z0s c x y <= (bdV c al ah bl bh).2 := by
 have bd := zKz (x := x) (y := y) hc (by omega) (by omega) (by omega) (by omega)
 have h : c = 1 \/ c = 2 \/ c = 3 \/ c = 4 \/ c = 5 \/ c = 6 \/ c = 7 \/ c = 8 \/ c = 9 \/ c = 10 \/ c = 11 \/ c = 12 \/ c = 13 := by omega
 rcases h with rfl | rfl | rfl | rfl | rfl | rfl | rfl | rfl | rfl | rfl | rfl | rfl | rfl
 ·rw [zXs, zJq]; exact ⟨h3, h4⟩
 ·rw [zXr]; exact z9p (n := x + y) (by omega) (by omega) (zJp x y)
 ·rw [zXq]; exact z9p (n := x - y) (by omega) (by omega) (zJo x y)
 ·rw [zXp]
  split
  ·rename_i hs
   simp only [Bool.and_eq_true, z3y] at hs
   rw [zJn, z3h ((z3y x).2 (by omega)) ((z3y y).2 (by omega))]
   exact zIw h1 h2 h3 h4
  ·exact bd
 ·rw [zXo]
  split
  ·split
   ·rw [z9q (by omega) (by omega) (by omega) (by omega)]
    exact zUl (by omega) h1 h2 (by omega) h3 h4
   ·by_cases hy : y = 0
    ·subst hy; rw [zEx]; show (0 : Int) <= 0 /\ 0 <= ah; omega
    ·rw [z9q (by omega) (by omega) (by omega) (by omega)]
     exact zJr (by omega) h2 (by omega)
  ·exact bd
 ·rw [zXn]
  split
  ·split
   ·rw [zKj (by omega) (by omega) (by omega) (by omega)]
    have l := Int.emod_nonneg x (by omega : y ≠ 0)
    have g := Int.emod_lt_of_pos x (by omega : 0 < y)
    have m : x % y <= x := by
     by_cases hxy : x < y
     ·rw [Int.emod_eq_of_lt (by omega) hxy]; omega
     ·omega
    show 0 <= x % y /\ x % y <= min ah (bh - 1)
    omega
   ·by_cases hy : y = 0
    ·subst hy; rw [zEw]; show (0 : Int) <= x /\ x <= ah; omega
    ·rw [zKj (by omega) (by omega) (by omega) (by omega)]
     have l := Int.emod_nonneg x (by omega : y ≠ 0)
     have g := Int.emod_lt_of_pos x (by omega : 0 < y)
     have m : x % y <= x := by
      by_cases hxy : x < y
      ·rw [Int.emod_eq_of_lt (by omega) hxy]; omega
      ·omega
     show 0 <= x % y /\ x % y <= ah
     omega
  ·exact bd
 ·rw [zXm, zEv]
  rw [zEv] at bd
  split
  ·have a := zSc (y := y) (by omega : 0 <= x) h2 qah
   split
   ·have b := zSc (y := x) (by omega : 0 <= y) h4 qbh
    rw [Nat.and_comm] at b
    generalize wrap64 ((uns x &&& uns y : Nat) : Int) = z at *
    show 0 <= z /\ z <= min ah bh
    omega
   ·exact a
  ·split
   ·have b := zSc (y := x) (by omega : 0 <= y) h4 qbh
    rw [Nat.and_comm] at b
    exact b
   ·exact bd
 ·rw [zXl]
  split
  ·have a := zWb (m := max ah bh) (by omega : 0 <= x) (by omega) (by omega : 0 <= y) (by omega) (by omega)
   rw [zJk]
   refine ⟨?_, a.2⟩
   show max al bl <= _
   exact Int.le_trans (by omega) a.1
  ·exact bd
 ·rw [zXk]
  split
  ·rw [zJj]
   exact zSf (m := max ah bh) (by omega : 0 <= x) (by omega) (by omega : 0 <= y) (by omega) (by omega)
  ·exact bd
 ·rw [zS8]
  split
  ·obtain rfl : y = bl := by omega
   have hp : (0 : Int) <= 2 ^ sixBits y := Int.le_of_lt (Int.pow_pos (by decide))
   exact z9p (Int.mul_le_mul_of_nonneg_right h1 hp) (Int.mul_le_mul_of_nonneg_right h2 hp) (zEz x y)
  ·exact bd
 ·rw [zS7]
  split
  ·obtain rfl : y = bl := by omega
   split
   ·rw [zDt (by omega) (by omega) (by assumption)]; exact ⟨h1, h2⟩
   ·split
    ·rw [z9j (by omega) (by omega)]
     exact ⟨z7t _ h1, z7t _ h2⟩
    ·exact zT6 y (by assumption)
  ·split
   ·rw [z9j (by omega) (by omega)]
    have a := (zJb (x := x) (sixBits y)).1 (by omega)
    show 0 <= x / 2 ^ sixBits y /\ x / 2 ^ sixBits y <= ah
    omega
   ·exact bd
 ·rw [zS6, z7x]
  have a := zJb (x := x) (sixBits y)
  split
  ·obtain rfl : y = bl := by omega
   exact ⟨z7t _ h1, z7t _ h2⟩
  ·split
   ·show 0 <= x / 2 ^ sixBits y /\ x / 2 ^ sixBits y <= ah
    have := a.1 (by omega)
    omega
   ·split
    ·show al <= x / 2 ^ sixBits y /\ x / 2 ^ sixBits y <= -1
     have := a.2 (by omega)
     omega
    ·show al <= x / 2 ^ sixBits y /\ x / 2 ^ sixBits y <= ah
     by_cases hx : 0 <= x
     ·have := a.1 hx; omega
     ·have := a.2 (by omega); omega
 ·rw [zS5]; exact z9p (n := -x) (by omega) (by omega) (zEy x y)
def askF (c : Int) (a b : Val) (r : Bool) (o n : Int) : Int × Int :=
 if a.k = 0 \/ b.k = 0 then (0, 8)
 else if a.k = 1 /\ b.k = 1 then (if isV c a.n b.n then (o, 0) else (0, 0))
 else if (c ≠ 15 /\ c ≠ 16) \/ r = true \/ n ≠ 0 then (0, 1)
 else if c = 16 then (o, 0) else (0, 0)
section
variable {c ak an ac bk bn bc o n : Int} {r : Bool}
theorem askF_a (h : ak = 0) : askF c ⟨ak, an, ac⟩ ⟨bk, bn, bc⟩ r o n = (0, 8) := if_pos (Or.inl h)
theorem askF_b (h : bk = 0) : askF c ⟨ak, an, ac⟩ ⟨bk, bn, bc⟩ r o n = (0, 8) := if_pos (Or.inr h)
theorem zXy (ha : ak = 1) (hb : bk = 1) (h : isV c an bn = true) : askF c ⟨ak, an, ac⟩ ⟨bk, bn, bc⟩ r o n = (o, 0) := by
 unfold askF
 rw [if_neg (by show ¬ (ak = 0 \/ bk = 0); omega), if_pos ⟨ha, hb⟩]
 exact if_pos h
theorem zV1 (ha : ak = 1) (hb : bk = 1) (h : isV c an bn = false) : askF c ⟨ak, an, ac⟩ ⟨bk, bn, bc⟩ r o n = (0, 0) := by
 unfold askF
 rw [if_neg (by show ¬ (ak = 0 \/ bk = 0); omega), if_pos ⟨ha, hb⟩]
 exact if_neg (by rw [h]; decide)
theorem z3v (ha : ¬ ak = 0) (hb : ¬ bk = 0) (h : ¬ (ak = 1 /\ bk = 1)) (h2 : (c ≠ 15 /\ c ≠ 16) \/ r = true \/ n ≠ 0) : askF c ⟨ak, an, ac⟩ ⟨bk, bn, bc⟩ r o n = (0, 1) := by
 unfold askF
 rw [if_neg (by show ¬ (ak = 0 \/ bk = 0); omega), if_neg h, if_pos h2]
theorem zSa (ha : ¬ ak = 0) (hb : ¬ bk = 0) (h : ¬ (ak = 1 /\ bk = 1)) (hc : c = 16) (hn : n = 0) : askF c ⟨ak, an, ac⟩ ⟨bk, bn, bc⟩ false o n = (o, 0) := by
 unfold askF
 rw [if_neg (by show ¬ (ak = 0 \/ bk = 0); omega), if_neg h, if_neg (by simp [hc, hn]), if_pos hc]
theorem zSb (ha : ¬ ak = 0) (hb : ¬ bk = 0) (h : ¬ (ak = 1 /\ bk = 1)) (hc : c = 15) (hn : n = 0) : askF c ⟨ak, an, ac⟩ ⟨bk, bn, bc⟩ false o n = (0, 0) := by
 unfold askF
 rw [if_neg (by show ¬ (ak = 0 \/ bk = 0); omega), if_neg h, if_neg (by simp [hc, hn]), if_neg (by omega)]
end
structure Abs where
 reg : Nat -> Val
 slot : Nat -> Val
 word : Nat -> Int
 cel : Nat -> Int
 time : Int
 out : List Int
def z5s : Val := ⟨0, 0, 0⟩
def Abs.putReg (a : Abs) (d : Nat) (x : Val) : Abs := { a with reg := fun i => if i = d then x else a.reg i }
def Abs.putSlot (a : Abs) (t : Nat) (x : Val) : Abs := { a with slot := fun i => if i = t then x else a.slot i }
def Abs.putCel (a : Abs) (t : Nat) (n : Int) : Abs := { a with cel := fun i => if i = t then n else a.cel i }
def Abs.second (a : Abs) (s : Nat) (r : Bool) (n : Int) : Val := if r then a.reg s else numF n
def Abs.lose (a : Abs) : Abs := { a with reg := fun i => if 1 <= i /\ i <= 5 then z5s else a.reg i }
def Abs.give (a : Abs) (n : Int) : Abs := { a with out := if a.out.length < 50 then a.out ++ [n] else a.out }
def Abs.at (a : Abs) (p : Val) (t : Nat) : Val := if p.k = 2 then numF (a.word t) else if p.k = 3 then a.slot t else numF (a.cel (p.c.toNat * 4 + t))
def z45 (a : Abs) (d : Nat) (p : Val) (o : Int) : Int × Abs :=
 if (z14 p o).2 ≠ 0 then ((z14 p o).2, a)
 else if (a.at p (z14 p o).1.toNat).k = 0 then (8, a)
 else (0, a.putReg d (a.at p (z14 p o).1.toNat))
def z38 (a : Abs) (p v : Val) (o : Int) : Int × Abs :=
 if (z14 p o).2 ≠ 0 then ((z14 p o).2, a)
 else if p.k = 2 then (6, a)
 else if v.k = 0 then (8, a)
 else if p.k = 3 then (0, a.putSlot (z14 p o).1.toNat v)
 else if v.k ≠ 1 then (1, a)
 else (0, a.putCel (p.c.toNat * 4 + (z14 p o).1.toNat) v.n)
def z69 (a : Abs) (what : Int) : Int × Abs :=
 if what ≠ 2 /\ z2r (a.reg 1) ≠ 0 then (z2r (a.reg 1), a)
 else if what = 1 then (0, a.lose.putReg 0 (z7w (a.reg 1).n))
 else if what = 2 then (0, a.lose.putReg 0 (numF a.time))
 else (0, (a.lose.give (a.reg 1).n).putReg 0 (numF 0))
def doF (c d s : Int) (r : Bool) (o n : Int) (a : Abs) : Int × Int × Abs :=
 if 15 <= c /\ c <= 24 then ((askF c (a.reg d.toNat) (a.second s.toNat r n) r o n).1, (askF c (a.reg d.toNat) (a.second s.toNat r n) r o n).2, a)
 else if c = 14 then (o, 0, a)
 else if c = 25 then (0, z45 a d.toNat (a.reg s.toNat) o)
 else if c = 26 then (0, z38 a (a.reg d.toNat) (a.second s.toNat r n) o)
 else if c = 27 then (0, z69 a n)
 else (0, (z2q c (a.reg d.toNat) (a.second s.toNat r n)).2, a.putReg d.toNat (z2q c (a.reg d.toNat) (a.second s.toNat r n)).1)
abbrev End : Type := (Int × Nat) ⊕ (Int × Nat × Abs)
abbrev End.bad (e : Int) (q : Nat) : End := Sum.inl (e, q)
abbrev End.fine (n : Int) (k : Nat) (a : Abs) : End := Sum.inr (n, k, a)
def runN (C D S : Nat -> Int) (R : Nat -> Bool) (O N : Nat -> Int) (len : Nat) : Nat -> Nat -> Nat -> Abs -> End
 | 0, _, _, _ => End.bad 0 0
 | f + 1, pc, k, a =>
  if pc < len then
   if C pc = 28 then (if z2r (a.reg 0) = 0 then End.fine (a.reg 0).n (k + 1) a else End.bad (z2r (a.reg 0)) pc)
   else if (doF (C pc) (D pc) (S pc) (R pc) (O pc) (N pc) a).2.1 ≠ 0 then End.bad (doF (C pc) (D pc) (S pc) (R pc) (O pc) (N pc) a).2.1 pc
   else runN C D S R O N len f (pc + 1 + (doF (C pc) (D pc) (S pc) (R pc) (O pc) (N pc) a).1.toNat) (k + 1) (doF (C pc) (D pc) (S pc) (R pc) (O pc) (N pc) a).2.2
  else End.bad 0 0
def runF (C D S : Nat -> Int) (R : Nat -> Bool) (O N : Nat -> Int) (len pc k : Nat) (a : Abs) : End := runN C D S R O N len (len - pc) pc k a
theorem z5z (C D S : Nat -> Int) (R : Nat -> Bool) (O N : Nat -> Int) (len f pc k : Nat) (a : Abs) : runN C D S R O N len (f + 1) pc k a = if pc < len then
   if C pc = 28 then (if z2r (a.reg 0) = 0 then End.fine (a.reg 0).n (k + 1) a else End.bad (z2r (a.reg 0)) pc)
   else if (doF (C pc) (D pc) (S pc) (R pc) (O pc) (N pc) a).2.1 ≠ 0 then End.bad (doF (C pc) (D pc) (S pc) (R pc) (O pc) (N pc) a).2.1 pc
   else runN C D S R O N len f (pc + 1 + (doF (C pc) (D pc) (S pc) (R pc) (O pc) (N pc) a).1.toNat) (k + 1) (doF (C pc) (D pc) (S pc) (R pc) (O pc) (N pc) a).2.2
  else End.bad 0 0 := rfl
theorem zPa (C D S : Nat -> Int) (R : Nat -> Bool) (O N : Nat -> Int) (len : Nat) : ∀ (f g pc k : Nat) (a : Abs), len <= pc + f -> len <= pc + g -> runN C D S R O N len f pc k a = runN C D S R O N len g pc k a := by
 intro f
 induction f with
 | zero =>
  intro g pc k a h1 _
  cases g with
  | zero => rfl
  | succ g => rw [z5z, if_neg (by omega)]; rfl
 | succ f ih =>
  intro g pc k a h1 h2
  cases g with
  | zero => rw [z5z, if_neg (by omega)]; rfl
  | succ g =>
   rw [z5z, z5z, ih g _ _ _ (by omega) (by omega)]
theorem z8g (C D S : Nat -> Int) (R : Nat -> Bool) (O N : Nat -> Int) (len pc k : Nat) (a : Abs) : runF C D S R O N len pc k a = if pc < len then
   if C pc = 28 then (if z2r (a.reg 0) = 0 then End.fine (a.reg 0).n (k + 1) a else End.bad (z2r (a.reg 0)) pc)
   else if (doF (C pc) (D pc) (S pc) (R pc) (O pc) (N pc) a).2.1 ≠ 0 then End.bad (doF (C pc) (D pc) (S pc) (R pc) (O pc) (N pc) a).2.1 pc
   else runF C D S R O N len (pc + 1 + (doF (C pc) (D pc) (S pc) (R pc) (O pc) (N pc) a).1.toNat) (k + 1) (doF (C pc) (D pc) (S pc) (R pc) (O pc) (N pc) a).2.2
  else End.bad 0 0 := by
 by_cases h : pc < len
 ·obtain ⟨f, hf⟩ : ∃ f, len - pc = f + 1 := ⟨len - pc - 1, by omega⟩
  show runN C D S R O N len (len - pc) pc k a = _
  rw [hf, z5z, zPa C D S R O N len f (len - (pc + 1 + (doF (C pc) (D pc) (S pc) (R pc) (O pc) (N pc) a).1.toNat)) _ _ _ (by omega) (by omega)]
  rfl
 ·show runN C D S R O N len (len - pc) pc k a = _
  rw [if_neg h, show len - pc = 0 by omega]
  rfl
section
variable {C D S O N : Nat -> Int} {R : Nat -> Bool} {len pc k : Nat} {a : Abs}
theorem zAb (h : pc < len) (hc : C pc = 28) (hw : z2r (a.reg 0) = 0) : runF C D S R O N len pc k a = .fine (a.reg 0).n (k + 1) a := by
 rw [z8g, if_pos h, if_pos hc, if_pos hw]
theorem z7e (h : pc < len) (hc : C pc = 28) (hw : z2r (a.reg 0) ≠ 0) : runF C D S R O N len pc k a = .bad (z2r (a.reg 0)) pc := by
 rw [z8g, if_pos h, if_pos hc, if_neg hw]
theorem zK7 (h : pc < len) (hc : C pc ≠ 28) (hw : (doF (C pc) (D pc) (S pc) (R pc) (O pc) (N pc) a).2.1 ≠ 0) : runF C D S R O N len pc k a = .bad (doF (C pc) (D pc) (S pc) (R pc) (O pc) (N pc) a).2.1 pc := by
 rw [z8g, if_pos h, if_neg hc, if_pos hw]
theorem zI4 (h : pc < len) (hc : C pc ≠ 28) (hw : (doF (C pc) (D pc) (S pc) (R pc) (O pc) (N pc) a).2.1 = 0) :
  runF C D S R O N len pc k a = runF C D S R O N len (pc + 1 + (doF (C pc) (D pc) (S pc) (R pc) (O pc) (N pc) a).1.toNat) (k + 1) (doF (C pc) (D pc) (S pc) (R pc) (O pc) (N pc) a).2.2 := by
 rw [z8g, if_pos h, if_neg hc, if_neg (by rw [hw]; decide)]
end
def In64 (n : Int) : Prop := -9223372036854775808 <= n /\ n <= 9223372036854775807
structure Val.Ok (x : Val) : Prop where
 k0 : 0 <= x.k
 k4 : x.k <= 4
 n : In64 x.n
 c0 : 0 <= x.c
 c3 : x.c <= 3
structure Abs.Ok (a : Abs) : Prop where
 reg : ∀ i, i < 11 -> (a.reg i).Ok
 slot : ∀ i, i < 16 -> (a.slot i).Ok
 word : ∀ i, i < 8 -> In64 (a.word i)
 cel : ∀ i, i < 16 -> In64 (a.cel i)
 time : In64 a.time
 out : ∀ x, x ∈ a.out -> In64 x
 room : a.out.length <= 50
theorem z7m : z5s.Ok := ⟨by decide, by decide, ⟨by decide, by decide⟩, by decide, by decide⟩
theorem zCs {n : Int} (h : In64 n) : (numF n).Ok := ⟨show (0 : Int) <= 1 by decide, show (1 : Int) <= 4 by decide, h, show (0 : Int) <= 0 by decide, show (0 : Int) <= 3 by decide⟩
theorem Abs.Ok.putReg {a : Abs} (h : a.Ok) (d : Nat) {x : Val} (hx : x.Ok) : (a.putReg d x).Ok :=
 ⟨fun i hi => by show (if i = d then x else a.reg i).Ok; split; exact hx; exact h.reg i hi, h.slot, h.word, h.cel, h.time, h.out, h.room⟩
theorem Abs.Ok.putSlot {a : Abs} (h : a.Ok) (d : Nat) {x : Val} (hx : x.Ok) : (a.putSlot d x).Ok :=
 ⟨h.reg, fun i hi => by show (if i = d then x else a.slot i).Ok; split; exact hx; exact h.slot i hi, h.word, h.cel, h.time, h.out, h.room⟩
theorem Abs.Ok.putCel {a : Abs} (h : a.Ok) (d : Nat) {n : Int} (hx : In64 n) : (a.putCel d n).Ok :=
 ⟨h.reg, h.slot, h.word, fun i hi => by show In64 (if i = d then n else a.cel i); split; exact hx; exact h.cel i hi, h.time, h.out, h.room⟩
theorem Abs.Ok.lose {a : Abs} (h : a.Ok) : a.lose.Ok :=
 ⟨fun i hi => by show (if 1 <= i /\ i <= 5 then z5s else a.reg i).Ok; split; exact z7m; exact h.reg i hi, h.slot, h.word, h.cel, h.time, h.out, h.room⟩
theorem Abs.Ok.give {a : Abs} (h : a.Ok) {n : Int} (hn : In64 n) : (a.give n).Ok := by
 refine ⟨h.reg, h.slot, h.word, h.cel, h.time, ?_, ?_⟩
 ·intro x hx
  change x ∈ (if a.out.length < 50 then a.out ++ [n] else a.out) at hx
  split at hx
  ·rcases List.mem_append.1 hx with hx | hx
   ·exact h.out x hx
   ·rw [List.mem_singleton.1 hx]; exact hn
  ·exact h.out x hx
 ·show (if a.out.length < 50 then a.out ++ [n] else a.out).length <= 50
  split
  ·rw [List.length_append]; show a.out.length + 1 <= 50; omega
  ·exact h.room
theorem Abs.Ok.second {a : Abs} (h : a.Ok) {s : Nat} (hs : s < 11) (r : Bool) {n : Int} (hn : In64 n) : (a.second s r n).Ok := by
 unfold Abs.second; split; exact h.reg s hs; exact zCs hn
theorem zKb {p : Val} {o : Int} (h : (z14 p o).2 = 0) : 2 <= p.k \/ p.k < 0 := by
 unfold z14 at h
 by_cases h0 : p.k = 0
 ·rw [if_pos h0] at h; exact absurd h (by decide)
 by_cases h1 : p.k = 1
 ·rw [if_neg h0, if_pos h1] at h; exact absurd h (by decide)
 omega
theorem zE6 {p : Val} {o : Int} (h : (z14 p o).2 = 0) : 0 <= (z14 p o).1 /\ (z14 p o).1 < z28 p := by
 unfold z14 at h ⊢
 by_cases h0 : p.k = 0
 ·rw [if_pos h0] at h; exact absurd h (by decide)
 by_cases h1 : p.k = 1
 ·rw [if_neg h0, if_pos h1] at h; exact absurd h (by decide)
 rw [if_neg h0, if_neg h1] at h ⊢
 by_cases h2 : z3k p o < 0 \/ z28 p <= z3k p o
 ·rw [if_pos h2] at h; exact absurd h (by decide)
 ·rw [if_neg h2]; show 0 <= z3k p o /\ z3k p o < z28 p; omega
theorem Abs.Ok.at {a : Abs} (h : a.Ok) {p : Val} (hp : p.Ok) {o : Int} (hr : (z14 p o).2 = 0) : (a.at p (z14 p o).1.toNat).Ok := by
 have hb := zE6 hr
 unfold z28 at hb
 unfold Abs.at
 by_cases h2 : p.k = 2
 ·rw [if_pos h2] at hb ⊢; exact zCs (h.word _ (by omega))
 rw [if_neg h2] at hb ⊢
 by_cases h3 : p.k = 3
 ·rw [if_pos h3] at hb ⊢; exact h.slot _ (by omega)
 ·rw [if_neg h3] at hb ⊢; have := hp.c0; have := hp.c3; exact zCs (h.cel _ (by omega))
theorem zTy {a : Abs} (h : a.Ok) (d : Nat) {p : Val} (hp : p.Ok) (o : Int) : (z45 a d p o).2.Ok := by
 unfold z45
 by_cases hr : (z14 p o).2 = 0
 ·rw [if_neg (by simp [hr])]
  split
  ·exact h
  ·exact h.putReg d (h.at hp hr)
 ·rw [if_pos hr]; exact h
theorem zP1 {a : Abs} (h : a.Ok) (p : Val) {v : Val} (hv : v.Ok) (o : Int) : (z38 a p v o).2.Ok := by
 unfold z38
 split
 ·exact h
 split
 ·exact h
 split
 ·exact h
 split
 ·exact h.putSlot _ hv
 split
 ·exact h
 ·exact h.putCel _ hv.n
theorem zUe {n : Int} : (z7w n).Ok := by
 unfold z7w
 split
 ·exact zCs ⟨by decide, by decide⟩
 ·exact ⟨show (0 : Int) <= 4 by decide, show (4 : Int) <= 4 by decide, (⟨by decide, by decide⟩ : In64 0), by show 0 <= n; omega, by show n <= 3; omega⟩
theorem zUw {a : Abs} (h : a.Ok) (what : Int) : (z69 a what).2.Ok := by
 unfold z69
 split
 ·exact h
 split
 ·exact h.lose.putReg 0 zUe
 split
 ·exact h.lose.putReg 0 (zCs h.time)
 ·exact (h.lose.give (h.reg 1 (by decide)).n).putReg 0 (zCs ⟨by decide, by decide⟩)
theorem zQd {c : Int} (hc : 1 <= c /\ c <= 13) {a b : Val} (ha : a.Ok) (hb : b.Ok) : (z2q c a b).1.Ok := by
 have hd := zKz hc ha.n.1 ha.n.2 hb.n.1 hb.n.2
 unfold z2q
 split
 ·exact z7m
 split
 ·exact hb
 split
 ·exact ⟨ha.k0, ha.k4, hd, ha.c0, ha.c3⟩
 split
 ·exact ⟨hb.k0, hb.k4, hd, hb.c0, hb.c3⟩
 ·exact z7m
theorem zR9 {c d s : Int} {r : Bool} {o n : Int} {a : Abs} (h : a.Ok) (c1 : 1 <= c) (c2 : c <= 28) (hc : c ≠ 28) (d1 : 0 <= d) (d2 : d <= 10) (s1 : 0 <= s) (s2 : s <= 10) (hn : In64 n) : (doF c d s r o n a).2.2.Ok := by
 have hd : d.toNat < 11 := by omega
 have hs : s.toNat < 11 := by omega
 unfold doF
 by_cases h1 : 15 <= c /\ c <= 24
 ·rw [if_pos h1]; exact h
 rw [if_neg h1]
 by_cases h2 : c = 14
 ·rw [if_pos h2]; exact h
 rw [if_neg h2]
 by_cases h3 : c = 25
 ·rw [if_pos h3]; exact zTy h _ (h.reg _ hs) o
 rw [if_neg h3]
 by_cases h4 : c = 26
 ·rw [if_pos h4]; exact zP1 h _ (h.second hs r hn) o
 rw [if_neg h4]
 by_cases h5 : c = 27
 ·rw [if_pos h5]; exact zUw h n
 rw [if_neg h5]
 exact h.putReg _ (zQd (by omega) (h.reg _ hd) (h.second hs r hn))
end
section
open Go.ChangeShapes Go.WideShapes Go.ChangeAt Go.RowKit
theorem z09.alloc {w : World} {B : Nat} {m : Mac} (h : z09 w B m) (o : Obj) : z09 (w.alloc o) B m := h.later ((bF _ _).alloc (Nat.le_refl _) _)
theorem z09.drew {w : World} {B : Nat} {m : Mac} (h : z09 w B m) : z09 w.drew B m := h
theorem z09.off {w : World} {B : Nat} {m : Mac} (h : z09 w B m) (a : Addr) (v : Value) (hne : B ≠ a.block) : z09 (w.setCell a v) B m := (Below.heap_setCell w a v B hne).trans h
theorem z09.put3 {w : World} {B d : Nat} {m : Mac} (h : z09 w B m) (hd : d < 11) (k n c : Int) : z09 (((w.setCell ⟨B, 2 + d * 3, none⟩ (A F k)).setCell ⟨B, 2 + d * 3 + 1, none⟩ (A F n)).setCell ⟨B, 2 + d * 3 + 2, none⟩ (A F c)) B (m.putReg d ⟨k, n, c⟩) := h.putReg hd ⟨k, n, c⟩
theorem z6j {W w1 : World} (h : Below W.drew.heap.size W.drew w1) : Below W.heap.size W w1 := ((bF _ _).drew).trans h
theorem z1b (B : Nat) (w : World) : Kept B w w := ⟨rfl, rfl, rfl, Nat.le_refl _, fun _ _ _ => rfl⟩
theorem z0j {w w1 : World} {B : Nat} (h : Kept B w w1) (o : Obj) : Kept B w (w1.alloc o) := z1t h (z0e ((bF _ _).alloc (Nat.le_refl _) _) B)
theorem z17 {w w1 : World} {B : Nat} (h : Kept B w w1) (a : Addr) (v : Value) (ha : w.heap.size <= a.block) : Kept B w (w1.setCell a v) :=
 ⟨h.os, h.tape, h.output, by show w.heap.size <= (w1.heap.modify _ _).size; rw [Array.size_modify]; exact h.size, fun k hk hne => (Below.heap_setCell w1 a v k (by omega)).trans (h.block k hk hne)⟩
theorem z1w {w w1 w2 : World} {B : Nat} (h : Kept B w w1) (hb : Below w1.heap.size w1 w2) : Kept B w w2 := z1t h (z0e hb B)
theorem z4d {w w1 : World} {B : Nat} (h : Kept B w w1) (hB : B < w.heap.size) : Below B w w1 :=
 ⟨h.os, h.tape, h.output, h.size, fun k hk => h.block k (by omega) (fun e => by injection e with e; omega)⟩
def z1n (w : World) (B : Nat) (v : Value) (L : List Int) : Prop := w.ownsRow (B + 1) 2 1 v L.length (L.map (Value.int .i64))
theorem z1n.kept {w w1 : World} {B : Nat} {v : Value} {L : List Int} (h : z1n w B v L) (hk : Kept B w w1) : z1n w1 B v L := by
 obtain ⟨h1, h2⟩ := h
 refine ⟨h1, ?_⟩
 rcases h2 with h2 | ⟨g, cap, cur, hv, hg, hh, r⟩
 ·exact Or.inl h2
 ·exact Or.inr ⟨g, cap, cur, hv, hg, by rw [hk.block g (Array.getElem?_eq_some_iff.1 hh).1 (fun e => by injection e with e; omega)]; exact hh, r⟩
def Mac.abs (m : Mac) (L : List Int) : Abs := ⟨m.reg, m.slot, m.word, m.cel, m.time, L⟩
theorem Mac.cell_word (m : Mac) (i : Nat) (h : i < 8) : m.cell (83 + i) = A F (m.word i) := by
 unfold Mac.cell
 rw [if_neg (by omega), if_neg (by omega), if_neg (by omega), if_neg (by omega), if_pos (by omega), show 83 + i - 83 = i by omega]
theorem Mac.cell_cel (m : Mac) (i : Nat) (h : i < 16) : m.cell (91 + i) = A F (m.cel i) := by
 unfold Mac.cell
 rw [if_neg (by omega), if_neg (by omega), if_neg (by omega), if_neg (by omega), if_neg (by omega), if_pos (by omega), show 91 + i - 91 = i by omega]
def Mac.putSlot (m : Mac) (t : Nat) (x : Val) : Mac := { m with slot := fun i => if i = t then x else m.slot i }
def Mac.putCel (m : Mac) (t : Nat) (n : Int) : Mac := { m with cel := fun i => if i = t then n else m.cel i }
def Mac.setOut (m : Mac) (v : Value) : Mac := { m with out := v }
def Mac.setStep (m : Mac) (x : Int) : Mac := { m with step := x }
def Mac.setSteps (m : Mac) (x : Int) : Mac := { m with steps := x }
theorem Mac.cell_putSlot (m : Mac) (d : Nat) (hd : d < 16) (y : Val) (j : Nat) : (m.putSlot d y).cell j = if 35 + d * 3 <= j /\ j < 35 + d * 3 + 3 then z2z y (j - (35 + d * 3)) else m.cell j := by
 by_cases h : 35 + d * 3 <= j /\ j < 35 + d * 3 + 3
 ·rw [if_pos h]
  unfold Mac.cell
  rw [if_neg (by omega), if_neg (by omega), if_neg (by omega), if_pos (by omega), show (j - 35) / 3 = d by omega, show (j - 35) % 3 = j - (35 + d * 3) by omega]
  show z2z (if d = d then y else m.slot d) _ = _
  rw [if_pos rfl]
 ·rw [if_neg h]
  by_cases h35 : 35 <= j /\ j < 83
  ·unfold Mac.cell
   rw [if_neg (show ¬ j = 0 by omega), if_neg (show ¬ j = 1 by omega), if_neg (show ¬ j < 35 by omega), if_pos h35.2, if_neg (show ¬ j = 0 by omega), if_neg (show ¬ j = 1 by omega), if_neg (show ¬ j < 35 by omega), if_pos h35.2]
   show z2z (if (j - 35) / 3 = d then y else m.slot ((j - 35) / 3)) _ = _
   rw [if_neg (by omega)]
  ·by_cases h2 : j < 35
   ·unfold Mac.cell
    by_cases h0 : j = 0
    ·rw [if_pos h0, if_pos h0]; rfl
    by_cases h1 : j = 1
    ·rw [if_neg h0, if_pos h1, if_neg h0, if_pos h1]; rfl
    rw [if_neg h0, if_neg h1, if_pos h2, if_neg h0, if_neg h1, if_pos h2]; rfl
   ·unfold Mac.cell
    rw [if_neg (show ¬ j = 0 by omega), if_neg (show ¬ j = 1 by omega), if_neg (show ¬ j < 35 by omega), if_neg (show ¬ j < 83 by omega), if_neg (show ¬ j = 0 by omega), if_neg (show ¬ j = 1 by omega), if_neg (show ¬ j < 35 by omega), if_neg (show ¬ j < 83 by omega)]
    rfl
theorem Mac.cell_putCel (m : Mac) (d : Nat) (hd : d < 16) (y : Int) (j : Nat) : (m.putCel d y).cell j = if j = 91 + d then A F y else m.cell j := by
 by_cases h : j = 91 + d
 ·rw [if_pos h]
  unfold Mac.cell
  rw [if_neg (by omega), if_neg (by omega), if_neg (by omega), if_neg (by omega), if_neg (by omega), if_pos (by omega), show j - 91 = d by omega]
  show Value.int .i64 (if d = d then y else m.cel d) = _
  rw [if_pos rfl]
 ·rw [if_neg h]
  by_cases h91 : 91 <= j /\ j < 107
  ·unfold Mac.cell
   rw [if_neg (show ¬ j = 0 by omega), if_neg (show ¬ j = 1 by omega), if_neg (show ¬ j < 35 by omega), if_neg (show ¬ j < 83 by omega), if_neg (show ¬ j < 91 by omega), if_pos h91.2, if_neg (show ¬ j = 0 by omega), if_neg (show ¬ j = 1 by omega), if_neg (show ¬ j < 35 by omega), if_neg (show ¬ j < 83 by omega), if_neg (show ¬ j < 91 by omega), if_pos h91.2]
   show Value.int .i64 (if j - 91 = d then y else m.cel (j - 91)) = _
   rw [if_neg (by omega)]
  ·unfold Mac.cell
   by_cases h0 : j = 0
   ·rw [if_pos h0, if_pos h0]; rfl
   by_cases h1 : j = 1
   ·rw [if_neg h0, if_pos h1, if_neg h0, if_pos h1]; rfl
   by_cases h2 : j < 35
   ·rw [if_neg h0, if_neg h1, if_pos h2, if_neg h0, if_neg h1, if_pos h2]; rfl
   by_cases h3 : j < 83
   ·rw [if_neg h0, if_neg h1, if_neg h2, if_pos h3, if_neg h0, if_neg h1, if_neg h2, if_pos h3]; rfl
   by_cases h4 : j < 91
   ·rw [if_neg h0, if_neg h1, if_neg h2, if_neg h3, if_pos h4, if_neg h0, if_neg h1, if_neg h2, if_neg h3, if_pos h4]; rfl
   ·rw [if_neg h0, if_neg h1, if_neg h2, if_neg h3, if_neg h4, if_neg (show ¬ j < 107 by omega), if_neg h0, if_neg h1, if_neg h2, if_neg h3, if_neg h4, if_neg (show ¬ j < 107 by omega)]; rfl
theorem zA5 (m : Mac) (d : Nat) (hd : d < 16) (y z : Val) (i : Nat) (hi : i < 3) (h : ∀ j, j < 3 -> z2z z j = if j = i then z2z z i else z2z y j) : ∀ j, j < 109 -> (m.putSlot d z).cell j = if j = 35 + d * 3 + i then z2z z i else (m.putSlot d y).cell j := by
 intro j _
 rw [m.cell_putSlot d hd z j, m.cell_putSlot d hd y j]
 by_cases hin : 35 + d * 3 <= j /\ j < 35 + d * 3 + 3
 ·rw [if_pos hin, if_pos hin, h _ (by omega)]
  by_cases e : j = 35 + d * 3 + i
  ·rw [if_pos e, if_pos (by omega)]
  ·rw [if_neg e, if_neg (by omega)]
 ·rw [if_neg hin, if_neg hin, if_neg (by omega)]
theorem zP8 (m : Mac) (d : Nat) : m.putSlot d (m.slot d) = m := by
 unfold Mac.putSlot
 have : (fun i => if i = d then m.slot d else m.slot i) = m.slot := by
  funext i
  by_cases h : i = d
  ·rw [if_pos h, h]
  ·rw [if_neg h]
 rw [this]
theorem z09.slot3 {w : World} {B d : Nat} {m : Mac} (h : z09 w B m) (hd : d < 16) (k n c : Int) : z09 (((w.setCell ⟨B, 35 + d * 3, none⟩ (A F k)).setCell ⟨B, 35 + d * 3 + 1, none⟩ (A F n)).setCell ⟨B, 35 + d * 3 + 2, none⟩ (A F c)) B (m.putSlot d ⟨k, n, c⟩) := by
 have h1 : z09 (w.setCell ⟨B, 35 + d * 3, none⟩ (A F k)) B (m.putSlot d ⟨k, (m.slot d).n, (m.slot d).c⟩) := h.set _ (by omega) _ fun j hj => by
  have := zA5 m d hd (m.slot d) ⟨k, (m.slot d).n, (m.slot d).c⟩ 0 (by omega) (fun j hj => by rcases (show j = 0 \/ j = 1 \/ j = 2 by omega) with rfl | rfl | rfl <;> rfl) j hj
  rw [this, zP8 m d]; rfl
 have h2 : z09 ((w.setCell ⟨B, 35 + d * 3, none⟩ (A F k)).setCell ⟨B, 35 + d * 3 + 1, none⟩ (A F n)) B (m.putSlot d ⟨k, n, (m.slot d).c⟩) := h1.set _ (by omega) _ fun j hj =>
  zA5 m d hd ⟨k, (m.slot d).n, (m.slot d).c⟩ ⟨k, n, (m.slot d).c⟩ 1 (by omega) (fun j hj => by rcases (show j = 0 \/ j = 1 \/ j = 2 by omega) with rfl | rfl | rfl <;> rfl) j hj
 exact h2.set _ (by omega) _ fun j hj =>
  zA5 m d hd ⟨k, n, (m.slot d).c⟩ ⟨k, n, c⟩ 2 (by omega) (fun j hj => by rcases (show j = 0 \/ j = 1 \/ j = 2 by omega) with rfl | rfl | rfl <;> rfl) j hj
theorem z09.cel1 {w : World} {B d : Nat} {m : Mac} (h : z09 w B m) (hd : d < 16) (n : Int) : z09 (w.setCell ⟨B, 91 + d, none⟩ (A F n)) B (m.putCel d n) :=
 h.set _ (by omega) _ fun j _ => m.cell_putCel d hd n j
theorem z09.slot {w : World} {B d : Nat} {m : Mac} (h : z09 w B m) (hd : d < 16) : w.cell? ⟨B, 35 + d * 3, none⟩ = some (A F (m.slot d).k) /\ w.cell? ⟨B, 35 + d * 3 + 1, none⟩ = some (A F (m.slot d).n) /\ w.cell? ⟨B, 35 + d * 3 + 2, none⟩ = some (A F (m.slot d).c) :=
 ⟨by rw [h.at _ (by omega), (m.cell_slot d hd).1], by rw [h.at _ (by omega), (m.cell_slot d hd).2.1], by rw [h.at _ (by omega), (m.cell_slot d hd).2.2]⟩
theorem z09.word {w : World} {B d : Nat} {m : Mac} (h : z09 w B m) (hd : d < 8) : w.cell? ⟨B, 83 + d, none⟩ = some (A F (m.word d)) := by rw [h.at _ (by omega), m.cell_word d hd]
theorem z09.cel {w : World} {B d : Nat} {m : Mac} (h : z09 w B m) (hd : d < 16) : w.cell? ⟨B, 91 + d, none⟩ = some (A F (m.cel d)) := by rw [h.at _ (by omega), m.cell_cel d hd]
theorem z09.step {w : World} {B : Nat} {m : Mac} (h : z09 w B m) : w.cell? ⟨B, 0, none⟩ = some (A F m.step) := h.at 0 (by omega)
theorem z09.steps {w : World} {B : Nat} {m : Mac} (h : z09 w B m) : w.cell? ⟨B, 1, none⟩ = some (A F m.steps) := h.at 1 (by omega)
theorem z09.time {w : World} {B : Nat} {m : Mac} (h : z09 w B m) : w.cell? ⟨B, 107, none⟩ = some (A F m.time) := h.at 107 (by omega)
theorem z09.outv {w : World} {B : Nat} {m : Mac} (h : z09 w B m) : w.cell? ⟨B, 108, none⟩ = some m.out := h.at 108 (by omega)
theorem z09.putOut {w : World} {B : Nat} {m : Mac} (h : z09 w B m) (v : Value) : z09 (w.setCell ⟨B, 108, none⟩ v) B (m.setOut v) :=
 h.set 108 (by omega) v fun j hj => by
  by_cases e : j = 108
  ·rw [if_pos e, e]; rfl
  ·rw [if_neg e]
   unfold Mac.cell
   by_cases h0 : j = 0
   ·rw [if_pos h0, if_pos h0]; rfl
   by_cases h1 : j = 1
   ·rw [if_neg h0, if_pos h1, if_neg h0, if_pos h1]; rfl
   by_cases h2 : j < 35
   ·rw [if_neg h0, if_neg h1, if_pos h2, if_neg h0, if_neg h1, if_pos h2]; rfl
   by_cases h3 : j < 83
   ·rw [if_neg h0, if_neg h1, if_neg h2, if_pos h3, if_neg h0, if_neg h1, if_neg h2, if_pos h3]; rfl
   by_cases h4 : j < 91
   ·rw [if_neg h0, if_neg h1, if_neg h2, if_neg h3, if_pos h4, if_neg h0, if_neg h1, if_neg h2, if_neg h3, if_pos h4]; rfl
   by_cases h5 : j < 107
   ·rw [if_neg h0, if_neg h1, if_neg h2, if_neg h3, if_neg h4, if_pos h5, if_neg h0, if_neg h1, if_neg h2, if_neg h3, if_neg h4, if_pos h5]; rfl
   rw [if_neg h0, if_neg h1, if_neg h2, if_neg h3, if_neg h4, if_neg h5, if_pos (by omega), if_neg h0, if_neg h1, if_neg h2, if_neg h3, if_neg h4, if_neg h5, if_pos (by omega)]; rfl
theorem z09.putStep {w : World} {B : Nat} {m : Mac} (h : z09 w B m) (x : Int) : z09 (w.setCell ⟨B, 0, none⟩ (A F x)) B (m.setStep x) :=
 h.set 0 (by omega) _ fun j hj => by
  by_cases e : j = 0
  ·rw [if_pos e, e]; rfl
  ·rw [if_neg e]; unfold Mac.cell; rw [if_neg e, if_neg e]; rfl
theorem z09.putSteps {w : World} {B : Nat} {m : Mac} (h : z09 w B m) (x : Int) : z09 (w.setCell ⟨B, 1, none⟩ (A F x)) B (m.setSteps x) :=
 h.set 1 (by omega) _ fun j hj => by
  by_cases e : j = 1
  ·rw [if_pos e, e]; rfl
  ·rw [if_neg e]; unfold Mac.cell
   by_cases h0 : j = 0
   ·rw [if_pos h0, if_pos h0]; rfl
   ·rw [if_neg h0, if_neg e, if_neg h0, if_neg e]; rfl
end
section
open Go.ChangeShapes Go.WideShapes Go.ChangeAt Go.RowKit
attribute [local simp] z00 z0d z07
theorem zXw (B d s : Nat) (c o n : Int) (r : Bool) (m : Mac) (hd : d < 11) (hs : s < 11) (ak an ac bk bn bc : Int) (HA : Hid (m.reg d = ⟨ak, an, ac⟩)) (HB : Hid (m.second s r n = ⟨bk, bn, bc⟩)) (w : World) (hM : z09 w B m) :
  Calls tP 118 #[pT (some ⟨B, 0, none⟩), .agg #[A F c, A F d, A F s, .bool r, A F o, A F n]] w fun e w' => e = rT (.tuple #[A F (askF c ⟨ak, an, ac⟩ ⟨bk, bn, bc⟩ r o n).1, A F (askF c ⟨ak, an, ac⟩ ⟨bk, bn, bc⟩ r o n).2]) /\ Below w.heap.size w w' := by
 have hB := hM.lt
 have hF0 : Frm w.heap.size B c d s r o n m _ := Frm.start hM
 obtain ⟨p0, p1, p2, p3, p4, p5⟩ := hF0.cells
 obtain ⟨h0, h1, h2⟩ := hF0.mac.reg hd
 rw [HA.out] at h0 h1 h2
 have hd0 : (0 : Int) <= (d : Int) := by omega
 have hd1 : (d : Int) < 11 := by omega
 go_enter Tryz.func118, Tryz.ntmps118
 go_wp2_with fail
 go_cut [6, 7] (fun s6 s7 wx => ∃ L K : Nat, s6 = pT (some ⟨L, 0, none⟩) /\ s7 = pT (some ⟨K, 0, none⟩) /\ Below w.heap.size w wx /\ Frm w.heap.size B c d s r o n m wx /\ L < wx.heap.size /\ K < wx.heap.size /\ wx.cell? ⟨L, 0, none⟩ = some (A F ak) /\ wx.cell? ⟨L, 1, none⟩ = some (A F an) /\ wx.cell? ⟨L, 2, none⟩ = some (A F ac) /\ wx.cell? ⟨K, 0, none⟩ = some (A F bk) /\ wx.cell? ⟨K, 1, none⟩ = some (A F bn) /\ wx.cell? ⟨K, 2, none⟩ = some (A F bc))
 case first =>
  go_region_held3 (fun w' => w'.cell? ⟨w.heap.size, 0, none⟩ = some (A F c) /\ w'.cell? ⟨w.heap.size, 1, none⟩ = some (A F d) /\ w'.cell? ⟨w.heap.size, 2, none⟩ = some (A F s) /\ w'.cell? ⟨w.heap.size, 3, none⟩ = some (.bool r) /\ w'.cell? ⟨w.heap.size, 4, none⟩ = some (A F o) /\ w'.cell? ⟨w.heap.size, 5, none⟩ = some (A F n) /\ w'.cell? ⟨B, 2 + d * 3, none⟩ = some (A F ak) /\ w'.cell? ⟨B, 2 + d * 3 + 1, none⟩ = some (A F an) /\ w'.cell? ⟨B, 2 + d * 3 + 2, none⟩ = some (A F ac)) (first | (simp [go_sem]; done) | (simp [go_sem, *]; done) | go_keep) (first
   | (go_at_call 153; go_must (refine (z4y B s c d o n r m hs _ (Frm.mac (S := w.heap.size) (c := c) (d := d) (s := s) (r := r) (o := o) (n := n) (by repeat' first | exact hF0 | exact hF1 | exact hF2 | refine Frm.alloc ?_ _ | refine Frm.drew ?_ | refine Frm.drewN ?_ _ | refine Frm.set ?_ _ _ ?_ ?_ | (intro hh; simp at hh; done) | (intro hh; simp at hh; omega)))).mono ?_; rintro e w1 ⟨rfl, hb1⟩; rw [HB.out]; simp only [Val.v]; have hF1 : Frm w.heap.size B c d s r o n m w1 := Frm.later (by repeat' first | exact hF0 | exact hF1 | exact hF2 | refine Frm.alloc ?_ _ | refine Frm.drew ?_ | refine Frm.drewN ?_ _ | refine Frm.set ?_ _ _ ?_ ?_ | (intro hh; simp at hh; done) | (intro hh; simp at hh; omega)) hb1; have hbw1 : Below w.heap.size w w1 := (by ((refine Below.trans ?_ (hb1.mono ?_)) <;> repeat' first | exact bF _ _ | exact hbw1 | exact hbw2 | refine bA ?_ ?_ _ | refine bS ?_ ?_ _ | refine bD ?_ | refine below_drewN ?_ _ | (simp; done) | (simp; omega) | omega)); obtain ⟨v0, v1, v2, v3, v4, v5⟩ := hF1.cells; obtain ⟨i0, i1, i2⟩ := hF1.mac.reg hd; rw [HA.out] at i0 i1 i2; have hS1 := hF1.ltS; have hB1 := hF1.mac.lt; have v6 := z15 hb1 (w.heap.size + 1); (try simp [go_sem] at v6); have v7 := z15 hb1 (w.heap.size + 1 + 1); (try simp [go_sem] at v7))))
  all_goals (go_wp2_with fail; go_meet)
  all_goals refine ⟨_, _, rfl, rfl, ?_, ?_, ?_, ?_, ?_, ?_, ?_, ?_, ?_, ?_⟩
  all_goals clear HA HB p0 p1 p2 p3 p4 p5 h0 h1 h2 hF0
  all_goals first
   | (with_reducible refine bA ?_ ?_ _; (repeat' first | with_reducible (first | exact hbw1 | refine bA ?_ ?_ _ | refine bS ?_ ?_ _) | ((try dsimp only); omega) | (simp; done) | (simp; omega)); done)
   | (with_reducible refine bS ?_ ?_ _; (repeat' first | with_reducible (first | exact hbw1 | refine bA ?_ ?_ _ | refine bS ?_ ?_ _) | ((try dsimp only); omega) | (simp; done) | (simp; omega)); done)
   | (with_reducible refine Frm.alloc ?_ _; (repeat' first | with_reducible (first | exact hF1 | refine Frm.alloc ?_ _ | refine Frm.set ?_ _ _ ?_ ?_) | ((try dsimp only); omega) | (simp; done) | (simp; omega)); done)
   | (with_reducible refine Frm.set ?_ _ _ ?_ ?_; (repeat' first | with_reducible (first | exact hF1 | refine Frm.alloc ?_ _ | refine Frm.set ?_ _ _ ?_ ?_) | ((try dsimp only); omega) | (simp; done) | (simp; omega)); done)
   | (simp; done) | (simp; omega) | (simp [go_sem]; done) | (simp [go_sem, v6]; done) | (simp [go_sem, v7]; done) | (simp [go_sem, *]; done)
 case rest =>
  obtain ⟨L, K, rfl, rfl, hbw, hFx, hL, hK, l0, l1, l2, g0, g1, g2⟩ := hcut
  obtain ⟨v0, v1, v2, v3, v4, v5⟩ := hFx.cells
  have hSx := hFx.ltS
  clear p0 p1 p2 p3 p4 p5 h0 h1 h2 hF0 hFx HA HB hM
  by_cases ha : ak = 0
  ·have x0 : (ak == 0) = true := by simp; omega
   have HV : Hid (askF c ⟨ak, an, ac⟩ ⟨bk, bn, bc⟩ r o n = (0, 8)) := by
    show askF c ⟨ak, an, ac⟩ ⟨bk, bn, bc⟩ r o n = (0, 8)
    exact askF_a ha
   clear ha
   go_wp2
   all_goals go_ret2
   all_goals exact ⟨by rw [HV.out]; rfl, hbw⟩
  by_cases hb : bk = 0
  ·have x0 : (ak == 0) = false := by simp; omega
   have x1 : (bk == 0) = true := by simp; omega
   have HV : Hid (askF c ⟨ak, an, ac⟩ ⟨bk, bn, bc⟩ r o n = (0, 8)) := by
    show askF c ⟨ak, an, ac⟩ ⟨bk, bn, bc⟩ r o n = (0, 8)
    exact askF_b hb
   clear ha hb
   go_wp2
   all_goals go_ret2
   all_goals exact ⟨by rw [HV.out]; rfl, hbw⟩
  by_cases ha1 : ak = 1
  ·by_cases hb1 : bk = 1
   ·cases hi : isV c an bn
    ·skip
     have x0 : (ak == 0) = false := by simp; omega
     have x1 : (bk == 0) = false := by simp; omega
     have x2 : (ak == 1) = true := by simp; omega
     have x3 : (bk == 1) = true := by simp; omega
     have HV : Hid (askF c ⟨ak, an, ac⟩ ⟨bk, bn, bc⟩ r o n = (0, 0)) := by
      show askF c ⟨ak, an, ac⟩ ⟨bk, bn, bc⟩ r o n = (0, 0)
      exact zV1 ha1 hb1 hi
     have HI : Hid (isV c an bn = _) := hi
     clear ha hb ha1 hb1 hi
     go_wp2_with (first | (go_at_call 154; refine (zKl _ _ _ _).mono ?_; rintro e w1 ⟨rfl, rfl⟩; rw [HI.out]) | go_in)
     all_goals go_ret2
     all_goals exact ⟨by rw [HV.out]; rfl, hbw⟩
    ·skip
     have x0 : (ak == 0) = false := by simp; omega
     have x1 : (bk == 0) = false := by simp; omega
     have x2 : (ak == 1) = true := by simp; omega
     have x3 : (bk == 1) = true := by simp; omega
     have HV : Hid (askF c ⟨ak, an, ac⟩ ⟨bk, bn, bc⟩ r o n = (o, 0)) := by
      show askF c ⟨ak, an, ac⟩ ⟨bk, bn, bc⟩ r o n = (o, 0)
      exact zXy ha1 hb1 hi
     have HI : Hid (isV c an bn = _) := hi
     clear ha hb ha1 hb1 hi
     go_wp2_with (first | (go_at_call 154; refine (zKl _ _ _ _).mono ?_; rintro e w1 ⟨rfl, rfl⟩; rw [HI.out]) | go_in)
     all_goals go_ret2
     all_goals exact ⟨by rw [HV.out]; rfl, hbw⟩
   ·skip
    by_cases hj : c = 15
    ·cases r
     ·by_cases hn : n = 0
      ·skip
       have x0 : (ak == 0) = false := by simp; omega
       have x1 : (bk == 0) = false := by simp; omega
       have x2 : (ak == 1) = true := by simp; omega
       have x3 : (bk == 1) = false := by simp; omega
       have x4 : (c != 15) = false := by simp; omega
       have x5 : (c == 16) = false := by simp; omega
       have x6 : (n != 0) = false := by simp; omega
       have HV : Hid (askF c ⟨ak, an, ac⟩ ⟨bk, bn, bc⟩ false o n = (0, 0)) := by
        show askF c ⟨ak, an, ac⟩ ⟨bk, bn, bc⟩ false o n = (0, 0)
        exact zSb ha hb (by omega) hj hn
       clear ha ha1 hb hb1 hj hn
       go_wp2
       all_goals go_ret2
       all_goals exact ⟨by rw [HV.out]; rfl, hbw⟩
      ·skip
       have x0 : (ak == 0) = false := by simp; omega
       have x1 : (bk == 0) = false := by simp; omega
       have x2 : (ak == 1) = true := by simp; omega
       have x3 : (bk == 1) = false := by simp; omega
       have x4 : (c != 15) = false := by simp; omega
       have x5 : (n != 0) = true := by simp; omega
       have HV : Hid (askF c ⟨ak, an, ac⟩ ⟨bk, bn, bc⟩ false o n = (0, 1)) := by
        show askF c ⟨ak, an, ac⟩ ⟨bk, bn, bc⟩ false o n = (0, 1)
        exact z3v ha hb (by omega) (Or.inr (Or.inr hn))
       clear ha ha1 hb hb1 hj hn
       go_wp2
       all_goals go_ret2
       all_goals exact ⟨by rw [HV.out]; rfl, hbw⟩
     ·skip
      have x0 : (ak == 0) = false := by simp; omega
      have x1 : (bk == 0) = false := by simp; omega
      have x2 : (ak == 1) = true := by simp; omega
      have x3 : (bk == 1) = false := by simp; omega
      have x4 : (c != 15) = false := by simp; omega
      have HV : Hid (askF c ⟨ak, an, ac⟩ ⟨bk, bn, bc⟩ true o n = (0, 1)) := by
       show askF c ⟨ak, an, ac⟩ ⟨bk, bn, bc⟩ true o n = (0, 1)
       exact z3v ha hb (by omega) (Or.inr (Or.inl rfl))
      clear ha ha1 hb hb1 hj
      go_wp2
      all_goals go_ret2
      all_goals exact ⟨by rw [HV.out]; rfl, hbw⟩
    ·by_cases hk : c = 16
     ·cases r
      ·by_cases hn : n = 0
       ·skip
        have x0 : (ak == 0) = false := by simp; omega
        have x1 : (bk == 0) = false := by simp; omega
        have x2 : (ak == 1) = true := by simp; omega
        have x3 : (bk == 1) = false := by simp; omega
        have x4 : (c != 15) = true := by simp; omega
        have x5 : (c != 16) = false := by simp; omega
        have x6 : (c == 16) = true := by simp; omega
        have x7 : (n != 0) = false := by simp; omega
        have HV : Hid (askF c ⟨ak, an, ac⟩ ⟨bk, bn, bc⟩ false o n = (o, 0)) := by
         show askF c ⟨ak, an, ac⟩ ⟨bk, bn, bc⟩ false o n = (o, 0)
         exact zSa ha hb (by omega) hk hn
        clear ha ha1 hb hb1 hj hk hn
        go_wp2
        all_goals go_ret2
        all_goals exact ⟨by rw [HV.out]; rfl, hbw⟩
       ·skip
        have x0 : (ak == 0) = false := by simp; omega
        have x1 : (bk == 0) = false := by simp; omega
        have x2 : (ak == 1) = true := by simp; omega
        have x3 : (bk == 1) = false := by simp; omega
        have x4 : (c != 15) = true := by simp; omega
        have x5 : (c != 16) = false := by simp; omega
        have x6 : (n != 0) = true := by simp; omega
        have HV : Hid (askF c ⟨ak, an, ac⟩ ⟨bk, bn, bc⟩ false o n = (0, 1)) := by
         show askF c ⟨ak, an, ac⟩ ⟨bk, bn, bc⟩ false o n = (0, 1)
         exact z3v ha hb (by omega) (Or.inr (Or.inr hn))
        clear ha ha1 hb hb1 hj hk hn
        go_wp2
        all_goals go_ret2
        all_goals exact ⟨by rw [HV.out]; rfl, hbw⟩
      ·skip
       have x0 : (ak == 0) = false := by simp; omega
       have x1 : (bk == 0) = false := by simp; omega
       have x2 : (ak == 1) = true := by simp; omega
       have x3 : (bk == 1) = false := by simp; omega
       have x4 : (c != 15) = true := by simp; omega
       have x5 : (c != 16) = false := by simp; omega
       have HV : Hid (askF c ⟨ak, an, ac⟩ ⟨bk, bn, bc⟩ true o n = (0, 1)) := by
        show askF c ⟨ak, an, ac⟩ ⟨bk, bn, bc⟩ true o n = (0, 1)
        exact z3v ha hb (by omega) (Or.inr (Or.inl rfl))
       clear ha ha1 hb hb1 hj hk
       go_wp2
       all_goals go_ret2
       all_goals exact ⟨by rw [HV.out]; rfl, hbw⟩
     ·skip
      have x0 : (ak == 0) = false := by simp; omega
      have x1 : (bk == 0) = false := by simp; omega
      have x2 : (ak == 1) = true := by simp; omega
      have x3 : (bk == 1) = false := by simp; omega
      have x4 : (c != 15) = true := by simp; omega
      have x5 : (c != 16) = true := by simp; omega
      have HV : Hid (askF c ⟨ak, an, ac⟩ ⟨bk, bn, bc⟩ r o n = (0, 1)) := by
       show askF c ⟨ak, an, ac⟩ ⟨bk, bn, bc⟩ r o n = (0, 1)
       exact z3v ha hb (by omega) (Or.inl ⟨hj, hk⟩)
      clear ha ha1 hb hb1 hj hk
      go_wp2
      all_goals go_ret2
      all_goals exact ⟨by rw [HV.out]; rfl, hbw⟩
  ·skip
   by_cases hj : c = 15
   ·cases r
    ·by_cases hn : n = 0
     ·skip
      have x0 : (ak == 0) = false := by simp; omega
      have x1 : (bk == 0) = false := by simp; omega
      have x2 : (ak == 1) = false := by simp; omega
      have x3 : (c != 15) = false := by simp; omega
      have x4 : (c == 16) = false := by simp; omega
      have x5 : (n != 0) = false := by simp; omega
      have HV : Hid (askF c ⟨ak, an, ac⟩ ⟨bk, bn, bc⟩ false o n = (0, 0)) := by
       show askF c ⟨ak, an, ac⟩ ⟨bk, bn, bc⟩ false o n = (0, 0)
       exact zSb ha hb (by omega) hj hn
      clear ha ha1 hb hj hn
      go_wp2
      all_goals go_ret2
      all_goals exact ⟨by rw [HV.out]; rfl, hbw⟩
     ·skip
      have x0 : (ak == 0) = false := by simp; omega
      have x1 : (bk == 0) = false := by simp; omega
      have x2 : (ak == 1) = false := by simp; omega
      have x3 : (c != 15) = false := by simp; omega
      have x4 : (n != 0) = true := by simp; omega
      have HV : Hid (askF c ⟨ak, an, ac⟩ ⟨bk, bn, bc⟩ false o n = (0, 1)) := by
       show askF c ⟨ak, an, ac⟩ ⟨bk, bn, bc⟩ false o n = (0, 1)
       exact z3v ha hb (by omega) (Or.inr (Or.inr hn))
      clear ha ha1 hb hj hn
      go_wp2
      all_goals go_ret2
      all_goals exact ⟨by rw [HV.out]; rfl, hbw⟩
    ·skip
     have x0 : (ak == 0) = false := by simp; omega
     have x1 : (bk == 0) = false := by simp; omega
     have x2 : (ak == 1) = false := by simp; omega
     have x3 : (c != 15) = false := by simp; omega
     have HV : Hid (askF c ⟨ak, an, ac⟩ ⟨bk, bn, bc⟩ true o n = (0, 1)) := by
      show askF c ⟨ak, an, ac⟩ ⟨bk, bn, bc⟩ true o n = (0, 1)
      exact z3v ha hb (by omega) (Or.inr (Or.inl rfl))
     clear ha ha1 hb hj
     go_wp2
     all_goals go_ret2
     all_goals exact ⟨by rw [HV.out]; rfl, hbw⟩
   ·by_cases hk : c = 16
    ·cases r
     ·by_cases hn : n = 0
      ·skip
       have x0 : (ak == 0) = false := by simp; omega
       have x1 : (bk == 0) = false := by simp; omega
       have x2 : (ak == 1) = false := by simp; omega
       have x3 : (c != 15) = true := by simp; omega
       have x4 : (c != 16) = false := by simp; omega
       have x5 : (c == 16) = true := by simp; omega
       have x6 : (n != 0) = false := by simp; omega
       have HV : Hid (askF c ⟨ak, an, ac⟩ ⟨bk, bn, bc⟩ false o n = (o, 0)) := by
        show askF c ⟨ak, an, ac⟩ ⟨bk, bn, bc⟩ false o n = (o, 0)
        exact zSa ha hb (by omega) hk hn
       clear ha ha1 hb hj hk hn
       go_wp2
       all_goals go_ret2
       all_goals exact ⟨by rw [HV.out]; rfl, hbw⟩
      ·skip
       have x0 : (ak == 0) = false := by simp; omega
       have x1 : (bk == 0) = false := by simp; omega
       have x2 : (ak == 1) = false := by simp; omega
       have x3 : (c != 15) = true := by simp; omega
       have x4 : (c != 16) = false := by simp; omega
       have x5 : (n != 0) = true := by simp; omega
       have HV : Hid (askF c ⟨ak, an, ac⟩ ⟨bk, bn, bc⟩ false o n = (0, 1)) := by
        show askF c ⟨ak, an, ac⟩ ⟨bk, bn, bc⟩ false o n = (0, 1)
        exact z3v ha hb (by omega) (Or.inr (Or.inr hn))
       clear ha ha1 hb hj hk hn
       go_wp2
       all_goals go_ret2
       all_goals exact ⟨by rw [HV.out]; rfl, hbw⟩
     ·skip
      have x0 : (ak == 0) = false := by simp; omega
      have x1 : (bk == 0) = false := by simp; omega
      have x2 : (ak == 1) = false := by simp; omega
      have x3 : (c != 15) = true := by simp; omega
      have x4 : (c != 16) = false := by simp; omega
      have HV : Hid (askF c ⟨ak, an, ac⟩ ⟨bk, bn, bc⟩ true o n = (0, 1)) := by
       show askF c ⟨ak, an, ac⟩ ⟨bk, bn, bc⟩ true o n = (0, 1)
       exact z3v ha hb (by omega) (Or.inr (Or.inl rfl))
      clear ha ha1 hb hj hk
      go_wp2
      all_goals go_ret2
      all_goals exact ⟨by rw [HV.out]; rfl, hbw⟩
    ·skip
     have x0 : (ak == 0) = false := by simp; omega
     have x1 : (bk == 0) = false := by simp; omega
     have x2 : (ak == 1) = false := by simp; omega
     have x3 : (c != 15) = true := by simp; omega
     have x4 : (c != 16) = true := by simp; omega
     have HV : Hid (askF c ⟨ak, an, ac⟩ ⟨bk, bn, bc⟩ r o n = (0, 1)) := by
      show askF c ⟨ak, an, ac⟩ ⟨bk, bn, bc⟩ r o n = (0, 1)
      exact z3v ha hb (by omega) (Or.inl ⟨hj, hk⟩)
     clear ha ha1 hb hj hk
     go_wp2
     all_goals go_ret2
     all_goals exact ⟨by rw [HV.out]; rfl, hbw⟩
theorem zWo (B d s : Nat) (c o n : Int) (r : Bool) (m : Mac) (hd : d < 11) (hs : s < 11) (fk fn fc : Int) (HA : Hid (m.reg s = ⟨fk, fn, fc⟩)) (t E : Int) (HR : Hid (z14 ⟨fk, fn, fc⟩ o = (t, E))) (hE : (E != 0) = true) (w : World) (hM : z09 w B m) :
  Calls tP 119 #[pT (some ⟨B, 0, none⟩), .agg #[A F c, A F d, A F s, .bool r, A F o, A F n]] w fun e w' => e = rT (A F E) /\ Below w.heap.size w w' := by
 have hB := hM.lt
 have hF0 : Frm w.heap.size B c d s r o n m _ := Frm.start hM
 obtain ⟨p0, p1, p2, p3, p4, p5⟩ := hF0.cells
 obtain ⟨h0, h1, h2⟩ := hF0.mac.reg hs
 rw [HA.out] at h0 h1 h2
 have hs0 : (0 : Int) <= (s : Int) := by omega
 have hs1 : (s : Int) < 11 := by omega
 have hd0 : (0 : Int) <= (d : Int) := by omega
 have hd1 : (d : Int) < 11 := by omega
 go_enter Tryz.func119, Tryz.ntmps119
 go_wp2_with fail
 go_region
 all_goals go_wp2_with (first
  | (go_at_call 155; refine (z3z ⟨fk, fn, fc⟩ o _).mono ?_; rintro e w1 ⟨rfl, hb1⟩; rw [HR.out]; have hF1 : Frm w.heap.size B c d s r o n m w1 := Frm.later (by repeat' first | with_reducible (first | exact hF0 | exact hF1 | refine Frm.alloc ?_ _ | refine Frm.drew ?_) | with_reducible refine Frm.drewN ?_ _) hb1; have hbw : Below w.heap.size w w1 := (by ((refine Below.trans ?_ (hb1.mono ?_)) <;> repeat' first | with_reducible (first | exact bF _ _ | exact hbw | refine bA ?_ ?_ _ | refine bS ?_ ?_ _ | refine bD ?_ | refine below_drewN ?_ _) | (simp; done) | (simp; omega) | omega)); obtain ⟨v0, v1, v2, v3, v4, v5⟩ := hF1.cells; have v6 := z15 hb1 (w.heap.size + 1); (try simp [go_sem] at v6); have hS1 := hF1.ltS; have hB1 := hF1.mac.lt; have hne : B ≠ w1.heap.size := (by omega); have hne2 : w.heap.size ≠ w1.heap.size := (by omega))
  | go_in)
 all_goals go_ret
 all_goals exact ⟨rfl, hbw⟩
theorem zQf (B d s t : Nat) (c o n : Int) (r : Bool) (m : Mac) (hd : d < 11) (hs : s < 11) (fk fn fc : Int) (HA : Hid (m.reg s = ⟨fk, fn, fc⟩)) (ht : t < 8) (HR : Hid (z14 ⟨fk, fn, fc⟩ o = (((t : Nat) : Int), 0))) (hk : (fk == 2) = true) (w : World) (hM : z09 w B m) :
  Calls tP 119 #[pT (some ⟨B, 0, none⟩), .agg #[A F c, A F d, A F s, .bool r, A F o, A F n]] w fun e w' => e = rT (A F 0) /\ Kept B w w' /\ z09 w' B (m.putReg d ⟨1, m.word t, 0⟩) := by
 have hB := hM.lt
 have hF0 : Frm w.heap.size B c d s r o n m _ := Frm.start hM
 obtain ⟨p0, p1, p2, p3, p4, p5⟩ := hF0.cells
 obtain ⟨h0, h1, h2⟩ := hF0.mac.reg hs
 rw [HA.out] at h0 h1 h2
 have hs0 : (0 : Int) <= (s : Int) := by omega
 have hs1 : (s : Int) < 11 := by omega
 have hd0 : (0 : Int) <= (d : Int) := by omega
 have hd1 : (d : Int) < 11 := by omega
 have ht0 : (0 : Int) <= (t : Int) := by omega
 have ht1 : (t : Int) < 8 := by omega
 go_enter Tryz.func119, Tryz.ntmps119
 go_wp2_with fail
 go_region
 all_goals go_wp2_with (first
  | (go_at_call 155; refine (z3z ⟨fk, fn, fc⟩ o _).mono ?_; rintro e w1 ⟨rfl, hb1⟩; rw [HR.out]; have hF1 : Frm w.heap.size B c d s r o n m w1 := Frm.later (by repeat' first | with_reducible (first | exact hF0 | exact hF1 | refine Frm.alloc ?_ _ | refine Frm.drew ?_) | with_reducible refine Frm.drewN ?_ _) hb1; have hbw : Below w.heap.size w w1 := (by ((refine Below.trans ?_ (hb1.mono ?_)) <;> repeat' first | with_reducible (first | exact bF _ _ | exact hbw | refine bA ?_ ?_ _ | refine bS ?_ ?_ _ | refine bD ?_ | refine below_drewN ?_ _) | (simp; done) | (simp; omega) | omega)); obtain ⟨v0, v1, v2, v3, v4, v5⟩ := hF1.cells; have v6 := z15 hb1 (w.heap.size + 1); (try simp [go_sem] at v6); have hS1 := hF1.ltS; have hB1 := hF1.mac.lt; have hne : B ≠ w1.heap.size := (by omega); have hne2 : w.heap.size ≠ w1.heap.size := (by omega); have q0 := hF1.mac.word ht)
  | (go_at_call 156; refine (z6e (m.word t) _).mono ?_; rintro e w2 ⟨rfl, hb2⟩; simp only [Val.v, numF]; obtain ⟨a0, a1, a2, z0, z1, z2, hl⟩ := z9h hb2; have hF2 : Frm w.heap.size B c d s r o n m w2 := Frm.later (hF1.alloc _) hb2; obtain ⟨u0, u1, u2, u3, u4, u5⟩ := hF2.cells; obtain ⟨i0, i1, i2⟩ := hF2.mac.reg hd; have f0 := hF2.mac.frozen (2 + d * 3); have f1 := hF2.mac.frozen (2 + d * 3 + 1); have f2 := hF2.mac.frozen (2 + d * 3 + 2); have hS2 := hF2.ltS; have hB2 := hF2.mac.lt)
  | go_in)
 all_goals go_region
 all_goals go_wp2
 all_goals go_ret
 all_goals have HK : Kept B w w2 := z1w (z0j (z0e hbw B) _) hb2
 all_goals have HM := hF2.mac
 all_goals exact ⟨rfl, (by repeat' first | with_reducible (first | exact HK | refine z1c ?_ | refine kept_set ?_ _ _ | refine z17 ?_ _ _ ?_ | refine z0j ?_ _) | ((try dsimp only); omega)), (by repeat' first | with_reducible (first | exact HM | refine z09.drew ?_ | refine z09.put3 ?_ hd _ _ _ | refine z09.slot3 ?_ ht _ _ _ | refine z09.cel1 ?_ hct _ | refine z09.off ?_ _ _ ?_ | refine z09.alloc ?_ _) | ((try dsimp only); omega))⟩
theorem zQg (B d s t : Nat) (c o n : Int) (r : Bool) (m : Mac) (hd : d < 11) (hs : s < 11) (fk fn fc : Int) (HA : Hid (m.reg s = ⟨fk, fn, fc⟩)) (ht : t < 16) (HR : Hid (z14 ⟨fk, fn, fc⟩ o = (((t : Nat) : Int), 0))) (hk : (fk == 2) = false) (hk3 : (fk == 3) = true) (sk sn sc : Int) (HS : Hid (m.slot t = ⟨sk, sn, sc⟩)) (hsk : (sk == 0) = false) (w : World) (hM : z09 w B m) :
  Calls tP 119 #[pT (some ⟨B, 0, none⟩), .agg #[A F c, A F d, A F s, .bool r, A F o, A F n]] w fun e w' => e = rT (A F 0) /\ Kept B w w' /\ z09 w' B (m.putReg d ⟨sk, sn, sc⟩) := by
 have hB := hM.lt
 have hF0 : Frm w.heap.size B c d s r o n m _ := Frm.start hM
 obtain ⟨p0, p1, p2, p3, p4, p5⟩ := hF0.cells
 obtain ⟨h0, h1, h2⟩ := hF0.mac.reg hs
 rw [HA.out] at h0 h1 h2
 have hs0 : (0 : Int) <= (s : Int) := by omega
 have hs1 : (s : Int) < 11 := by omega
 have hd0 : (0 : Int) <= (d : Int) := by omega
 have hd1 : (d : Int) < 11 := by omega
 have ht0 : (0 : Int) <= (t : Int) := by omega
 have ht1 : (t : Int) < 16 := by omega
 go_enter Tryz.func119, Tryz.ntmps119
 go_wp2_with fail
 go_region
 all_goals go_wp2_with (first
  | (go_at_call 155; refine (z3z ⟨fk, fn, fc⟩ o _).mono ?_; rintro e w1 ⟨rfl, hb1⟩; rw [HR.out]; have hF1 : Frm w.heap.size B c d s r o n m w1 := Frm.later (by repeat' first | with_reducible (first | exact hF0 | exact hF1 | refine Frm.alloc ?_ _ | refine Frm.drew ?_) | with_reducible refine Frm.drewN ?_ _) hb1; have hbw : Below w.heap.size w w1 := (by ((refine Below.trans ?_ (hb1.mono ?_)) <;> repeat' first | with_reducible (first | exact bF _ _ | exact hbw | refine bA ?_ ?_ _ | refine bS ?_ ?_ _ | refine bD ?_ | refine below_drewN ?_ _) | (simp; done) | (simp; omega) | omega)); obtain ⟨v0, v1, v2, v3, v4, v5⟩ := hF1.cells; have v6 := z15 hb1 (w.heap.size + 1); (try simp [go_sem] at v6); have hS1 := hF1.ltS; have hB1 := hF1.mac.lt; have hne : B ≠ w1.heap.size := (by omega); have hne2 : w.heap.size ≠ w1.heap.size := (by omega); obtain ⟨q0, q1, q2⟩ := hF1.mac.slot ht; rw [HS.out] at q0 q1 q2; obtain ⟨i0, i1, i2⟩ := hF1.mac.reg hd; have f0 := hF1.mac.frozen (2 + d * 3); have f1 := hF1.mac.frozen (2 + d * 3 + 1); have f2 := hF1.mac.frozen (2 + d * 3 + 2))
  | go_in)
 all_goals go_region
 all_goals go_wp2
 all_goals go_ret
 all_goals have HK : Kept B w w1 := z0e hbw B
 all_goals have HM := hF1.mac
 all_goals exact ⟨rfl, (by repeat' first | with_reducible (first | exact HK | refine z1c ?_ | refine kept_set ?_ _ _ | refine z17 ?_ _ _ ?_ | refine z0j ?_ _) | ((try dsimp only); omega)), (by repeat' first | with_reducible (first | exact HM | refine z09.drew ?_ | refine z09.put3 ?_ hd _ _ _ | refine z09.slot3 ?_ ht _ _ _ | refine z09.cel1 ?_ hct _ | refine z09.off ?_ _ _ ?_ | refine z09.alloc ?_ _) | ((try dsimp only); omega))⟩
theorem zNb (B d s t : Nat) (c o n : Int) (r : Bool) (m : Mac) (hd : d < 11) (hs : s < 11) (fk fn fc : Int) (HA : Hid (m.reg s = ⟨fk, fn, fc⟩)) (ht : t < 16) (HR : Hid (z14 ⟨fk, fn, fc⟩ o = (((t : Nat) : Int), 0))) (hk : (fk == 2) = false) (hk3 : (fk == 3) = true) (sk sn sc : Int) (HS : Hid (m.slot t = ⟨sk, sn, sc⟩)) (hsk : (sk == 0) = true) (w : World) (hM : z09 w B m) :
  Calls tP 119 #[pT (some ⟨B, 0, none⟩), .agg #[A F c, A F d, A F s, .bool r, A F o, A F n]] w fun e w' => e = rT (A F 8) /\ Below w.heap.size w w' := by
 have hB := hM.lt
 have hF0 : Frm w.heap.size B c d s r o n m _ := Frm.start hM
 obtain ⟨p0, p1, p2, p3, p4, p5⟩ := hF0.cells
 obtain ⟨h0, h1, h2⟩ := hF0.mac.reg hs
 rw [HA.out] at h0 h1 h2
 have hs0 : (0 : Int) <= (s : Int) := by omega
 have hs1 : (s : Int) < 11 := by omega
 have hd0 : (0 : Int) <= (d : Int) := by omega
 have hd1 : (d : Int) < 11 := by omega
 have ht0 : (0 : Int) <= (t : Int) := by omega
 have ht1 : (t : Int) < 16 := by omega
 go_enter Tryz.func119, Tryz.ntmps119
 go_wp2_with fail
 go_region
 all_goals go_wp2_with (first
  | (go_at_call 155; refine (z3z ⟨fk, fn, fc⟩ o _).mono ?_; rintro e w1 ⟨rfl, hb1⟩; rw [HR.out]; have hF1 : Frm w.heap.size B c d s r o n m w1 := Frm.later (by repeat' first | with_reducible (first | exact hF0 | exact hF1 | refine Frm.alloc ?_ _ | refine Frm.drew ?_) | with_reducible refine Frm.drewN ?_ _) hb1; have hbw : Below w.heap.size w w1 := (by ((refine Below.trans ?_ (hb1.mono ?_)) <;> repeat' first | with_reducible (first | exact bF _ _ | exact hbw | refine bA ?_ ?_ _ | refine bS ?_ ?_ _ | refine bD ?_ | refine below_drewN ?_ _) | (simp; done) | (simp; omega) | omega)); obtain ⟨v0, v1, v2, v3, v4, v5⟩ := hF1.cells; have v6 := z15 hb1 (w.heap.size + 1); (try simp [go_sem] at v6); have hS1 := hF1.ltS; have hB1 := hF1.mac.lt; have hne : B ≠ w1.heap.size := (by omega); have hne2 : w.heap.size ≠ w1.heap.size := (by omega); obtain ⟨q0, q1, q2⟩ := hF1.mac.slot ht; rw [HS.out] at q0 q1 q2)
  | go_in)
 all_goals go_ret
 all_goals exact ⟨rfl, (by repeat' first | with_reducible (first | exact hbw | refine bA ?_ ?_ _ | refine bS ?_ ?_ _ | refine bD ?_) | ((try dsimp only); omega) | (simp; omega))⟩
theorem zQh (B d s t fcn : Nat) (c o n : Int) (r : Bool) (m : Mac) (hd : d < 11) (hs : s < 11) (fk fn : Int) (HA : Hid (m.reg s = ⟨fk, fn, (fcn : Int)⟩)) (hfc : fcn < 4) (ht : t < 4) (HR : Hid (z14 ⟨fk, fn, fcn⟩ o = (((t : Nat) : Int), 0))) (hk : (fk == 2) = false) (hk3 : (fk == 3) = false) (hk4 : (fk == 4) = true) (w : World) (hM : z09 w B m) :
  Calls tP 119 #[pT (some ⟨B, 0, none⟩), .agg #[A F c, A F d, A F s, .bool r, A F o, A F n]] w fun e w' => e = rT (A F 0) /\ Kept B w w' /\ z09 w' B (m.putReg d ⟨1, m.cel (fcn * 4 + t), 0⟩) := by
 have hB := hM.lt
 have hF0 : Frm w.heap.size B c d s r o n m _ := Frm.start hM
 obtain ⟨p0, p1, p2, p3, p4, p5⟩ := hF0.cells
 obtain ⟨h0, h1, h2⟩ := hF0.mac.reg hs
 rw [HA.out] at h0 h1 h2
 have hs0 : (0 : Int) <= (s : Int) := by omega
 have hs1 : (s : Int) < 11 := by omega
 have hd0 : (0 : Int) <= (d : Int) := by omega
 have hd1 : (d : Int) < 11 := by omega
 have ht0 : (0 : Int) <= (t : Int) := by omega
 have ht1 : (t : Int) < 4 := by omega
 have hc0 : (0 : Int) <= (fcn : Int) := by omega
 have hc1 : (fcn : Int) < 4 := by omega
 go_enter Tryz.func119, Tryz.ntmps119
 go_wp2_with fail
 go_region
 all_goals go_wp2_with (first
  | (go_at_call 155; refine (z3z ⟨fk, fn, (fcn : Int)⟩ o _).mono ?_; rintro e w1 ⟨rfl, hb1⟩; rw [HR.out]; have hF1 : Frm w.heap.size B c d s r o n m w1 := Frm.later (by repeat' first | with_reducible (first | exact hF0 | exact hF1 | refine Frm.alloc ?_ _ | refine Frm.drew ?_) | with_reducible refine Frm.drewN ?_ _) hb1; have hbw : Below w.heap.size w w1 := (by ((refine Below.trans ?_ (hb1.mono ?_)) <;> repeat' first | with_reducible (first | exact bF _ _ | exact hbw | refine bA ?_ ?_ _ | refine bS ?_ ?_ _ | refine bD ?_ | refine below_drewN ?_ _) | (simp; done) | (simp; omega) | omega)); obtain ⟨v0, v1, v2, v3, v4, v5⟩ := hF1.cells; have v6 := z15 hb1 (w.heap.size + 1); (try simp [go_sem] at v6); have hS1 := hF1.ltS; have hB1 := hF1.mac.lt; have hne : B ≠ w1.heap.size := (by omega); have hne2 : w.heap.size ≠ w1.heap.size := (by omega); have q0 : w1.cell? ⟨B, 91 + fcn * 4 + t, none⟩ = some (A F (m.cel (fcn * 4 + t))) := (by rw [Nat.add_assoc]; exact hF1.mac.cel (d := fcn * 4 + t) (by omega)); have q1 : w1.cell? ⟨w.heap.size + 1, 2, none⟩ = some (A F fcn) := (by rw [v6.1]; rfl))
  | (go_at_call 156; fail)
  | go_in)
 all_goals go_region_held3 (fun w' => w'.cell? ⟨w.heap.size + 1, 2, none⟩ = some (A F fcn) /\ w'.cell? ⟨B, 91 + fcn * 4 + t, none⟩ = some (A F (m.cel (fcn * 4 + t)))) (first | (simp [go_sem]; done) | (simp [go_sem, *]; done) | go_keep) (first
  | (go_at_call 156; go_must (refine (z6e (m.cel (fcn * 4 + t)) _).mono ?_; rintro e w2 ⟨rfl, hb2⟩; simp only [Val.v, numF]; have hb2 := z6j hb2; have hb12 := z6m hb2; have y0 : w2.cell? ⟨w.heap.size + 1, 2, none⟩ = some (A F fcn) := (hb12.cell (p := ⟨w.heap.size + 1, 2, none⟩) v6.2.2).trans q1; have y1 : w2.cell? ⟨B, 91 + fcn * 4 + t, none⟩ = some (A F (m.cel (fcn * 4 + t))) := (hb12.cell (p := ⟨B, 91 + fcn * 4 + t, none⟩) hB1).trans q0; obtain ⟨a0, a1, a2, z0, z1, z2, hl⟩ := z9h hb2; have hF2 : Frm w.heap.size B c d s r o n m w2 := Frm.later (hF1.alloc _) hb2; obtain ⟨u0, u1, u2, u3, u4, u5⟩ := hF2.cells; obtain ⟨i0, i1, i2⟩ := hF2.mac.reg hd; have f0 := hF2.mac.frozen (2 + d * 3); have f1 := hF2.mac.frozen (2 + d * 3 + 1); have f2 := hF2.mac.frozen (2 + d * 3 + 2); have hS2 := hF2.ltS; have hB2 := hF2.mac.lt)))
 all_goals go_wp2_with fail
 all_goals go_region
 all_goals go_wp2
 all_goals go_ret
 all_goals have HK : Kept B w w2 := z1w (z0e hbw B) hb12
 all_goals have HM := hF2.mac
 all_goals exact ⟨rfl, (by repeat' first | with_reducible (first | exact HK | refine z1c ?_ | refine kept_set ?_ _ _ | refine z17 ?_ _ _ ?_ | refine z0j ?_ _) | ((try dsimp only); omega)), (by repeat' first | with_reducible (first | exact HM | refine z09.drew ?_ | refine z09.put3 ?_ hd _ _ _ | refine z09.slot3 ?_ ht _ _ _ | refine z09.cel1 ?_ hct _ | refine z09.off ?_ _ _ ?_ | refine z09.alloc ?_ _) | ((try dsimp only); omega))⟩
end
end Go.Proofs.YtbimlalhodibjaaGreatDoor
