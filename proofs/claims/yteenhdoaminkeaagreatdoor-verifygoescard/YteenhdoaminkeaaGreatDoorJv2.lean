/-
 Plain facts on numbers of 64 bits: what the codes of package op make of two numbers, bit by bit, as one function on integers; no program is named here. No conditions. What each function of package op, and of the document's own answer to chapter 1, returns: as functions on integers; the world is as it was. Conditions: the arguments are numbers of 64 bits. Programs as they run: what a register has, as a plain triple, and what the small functions of package machine return of it; the world below is as it was. Conditions: numbers are of 64 bits. Plain facts on bounds: between which numbers is what a code makes of two numbers, and what is left of two bounds by what a code asks, as functions on integers; no program is named here. No conditions.
-/
import Derived.WalkKit
import Derived.Test.YteenhdoaminkeaaGreatDoorJv1
import Derived.Test.YteenhdoaminkeaaGreatDoorRows
import Derived.ProofKit
import Derived.OpenShut
import Derived.WalkLawsBesides
import Derived.BigCall
import Derived.BigGuardPart
set_option maxHeartbeats 40000000
open Go.Value renaming int → vI
open Go.IntKind renaming i64 → vK
set_option maxRecDepth 1000000
set_option linter.defProp false
set_option linter.unusedVariables false
set_option linter.unusedSimpArgs false
namespace Go.Proofs.YteenhdoaminkeaaGreatDoor
open Go.RowKit

def uns (a : Int) : Nat := (a % 18446744073709551616).toNat
theorem z1v (a : Int) : uns a < 18446744073709551616 := by unfold uns; omega
theorem z0w (a : Int) : IntKind.u64.wrap a = (uns a : Int) := by rw [IntKind.wrap_u64]; unfold uns; omega
theorem zFt (a : Int) : (uns a : Int) = a % 18446744073709551616 := by unfold uns; omega
theorem z83 {b : Int} (h0 : -9223372036854775808 ≤ b) (h1 : b ≤ 9223372036854775807) : uns b = 0 ↔ b = 0 := by unfold uns; omega
theorem z4v (n : Int) : wrap64 (n % 18446744073709551616) = wrap64 n := by unfold wrap64; omega
theorem z58 {m n : Int} (h : m % 18446744073709551616 = n % 18446744073709551616) : wrap64 m = wrap64 n := by
 rw [← z4v m, h, z4v]
theorem z3v (n : Int) : wrap64 (IntKind.u64.wrap n) = wrap64 n := by rw [IntKind.wrap_u64]; exact z4v n
theorem z0e {n : Int} (h0 : -9223372036854775808 ≤ n) (h1 : n ≤ 9223372036854775807) : wrap64 n = n := by unfold wrap64; omega
theorem z1s (n : Int) : -9223372036854775808 ≤ wrap64 n ∧ wrap64 n ≤ 9223372036854775807 := by unfold wrap64; omega
theorem zGv (a : Int) : wrap64 (uns a : Int) = wrap64 a := by rw [zFt]; exact z4v a

theorem z3n (a : Int) : (BitVec.ofInt 64 a).toNat = uns a := by
 rw [BitVec.toNat_ofInt]; rfl
theorem z7z (a b : Int) : bits .and .i64 a b = wrap64 ((uns a &&& uns b : Nat) : Int) := by
 show IntKind.i64.wrap ((BitVec.ofInt 64 a &&& BitVec.ofInt 64 b).toNat : Int) = _
 rw [BitVec.toNat_and, z3n, z3n, IntWalk.i64_left]
theorem zFn (a b : Int) : bits .or .i64 a b = wrap64 ((uns a ||| uns b : Nat) : Int) := by
 show IntKind.i64.wrap ((BitVec.ofInt 64 a ||| BitVec.ofInt 64 b).toNat : Int) = _
 rw [BitVec.toNat_or, z3n, z3n, IntWalk.i64_left]
theorem zDa (a b : Int) : bits .xor .i64 a b = wrap64 ((uns a ^^^ uns b : Nat) : Int) := by
 show IntKind.i64.wrap ((BitVec.ofInt 64 a ^^^ BitVec.ofInt 64 b).toNat : Int) = _
 rw [BitVec.toNat_xor, z3n, z3n, IntWalk.i64_left]
theorem z76 (b : Int) : bits .and .i64 b 63 = b % 64 := by
 rw [z7z]
 have e : uns b &&& uns 63 = uns b % 64 := by
  show uns b &&& 63 = _
  exact Nat.and_two_pow_sub_one_eq_mod (uns b) 6
 rw [e]
 unfold uns wrap64
 omega

def sixBits (b : Int) : Nat := (b % 64).toNat
theorem z19 (b : Int) : sixBits b < 64 := by unfold sixBits; omega
theorem z6a (b : Int) : uns b % 64 = sixBits b := by unfold sixBits uns; omega

def z0i (c a b : Int) : Int :=
 if c = 1 then b else if c = 2 then wrap64 (a + b) else if c = 3 then wrap64 (a - b) else if c = 4 then wrap64 (a * b)
 else if c = 5 then (if b = 0 then 0 else wrap64 ((uns a / uns b : Nat) : Int))
 else if c = 6 then (if b = 0 then a else wrap64 ((uns a % uns b : Nat) : Int))
 else if c = 7 then wrap64 ((uns a &&& uns b : Nat) : Int) else if c = 8 then wrap64 ((uns a ||| uns b : Nat) : Int)
 else if c = 9 then wrap64 ((uns a ^^^ uns b : Nat) : Int)
 else if c = 10 then wrap64 (a * 2 ^ sixBits b) else if c = 11 then wrap64 ((uns a / 2 ^ sixBits b : Nat) : Int)
 else if c = 12 then a / 2 ^ sixBits b else if c = 13 then wrap64 (-a) else 0

def isV (c a b : Int) : Bool :=
 if c = 15 then decide (a = b) else if c = 16 then !decide (a = b)
 else if c = 17 then decide (uns b < uns a) else if c = 18 then decide (uns b ≤ uns a)
 else if c = 19 then decide (uns a < uns b) else if c = 20 then decide (uns a ≤ uns b)
 else if c = 21 then decide (b < a) else if c = 22 then decide (b ≤ a)
 else if c = 23 then decide (a < b) else if c = 24 then decide (a ≤ b) else false

theorem zBn (a b : Int) : z0i 1 a b = b := by simp only [z0i, reduceIte, Int.reduceEq]
theorem zBm (a b : Int) : z0i 2 a b = wrap64 (a + b) := by simp only [z0i, reduceIte, Int.reduceEq]
theorem zBl (a b : Int) : z0i 3 a b = wrap64 (a - b) := by simp only [z0i, reduceIte, Int.reduceEq]
theorem zBk (a b : Int) : z0i 4 a b = wrap64 (a * b) := by simp only [z0i, reduceIte, Int.reduceEq]
theorem z9c (a b : Int) : z0i 7 a b = wrap64 ((uns a &&& uns b : Nat) : Int) := by simp only [z0i, reduceIte, Int.reduceEq]
theorem zBh (a b : Int) : z0i 8 a b = wrap64 ((uns a ||| uns b : Nat) : Int) := by simp only [z0i, reduceIte, Int.reduceEq]
theorem zBg (a b : Int) : z0i 9 a b = wrap64 ((uns a ^^^ uns b : Nat) : Int) := by simp only [z0i, reduceIte, Int.reduceEq]
theorem z1g (a b : Int) : z0i 10 a b = wrap64 (a * 2 ^ sixBits b) := by simp only [z0i, reduceIte, Int.reduceEq]
theorem z55 (a b : Int) : z0i 11 a b = wrap64 ((uns a / 2 ^ sixBits b : Nat) : Int) := by simp only [z0i, reduceIte, Int.reduceEq]
theorem z54 (a b : Int) : z0i 12 a b = a / 2 ^ sixBits b := by simp only [z0i, reduceIte, Int.reduceEq]
theorem z8d (a b : Int) : z0i 13 a b = wrap64 (-a) := by simp only [z0i, reduceIte, Int.reduceEq]
theorem zBj (a : Int) {b : Int} (h : b ≠ 0) : z0i 5 a b = wrap64 ((uns a / uns b : Nat) : Int) := by simp only [z0i, reduceIte, Int.reduceEq, if_neg h]
theorem z8c (a : Int) : z0i 5 a 0 = 0 := by simp only [z0i, reduceIte, Int.reduceEq]
theorem zBi (a : Int) {b : Int} (h : b ≠ 0) : z0i 6 a b = wrap64 ((uns a % uns b : Nat) : Int) := by simp only [z0i, reduceIte, Int.reduceEq, if_neg h]
theorem z8b (a : Int) : z0i 6 a 0 = a := by simp only [z0i, reduceIte, Int.reduceEq]
theorem zGh {c : Int} (a b : Int) (h : c < 1 ∨ 13 < c) : z0i c a b = 0 := by
 have e : ∀ k : Int, 1 ≤ k → k ≤ 13 → c ≠ k := fun k h1 h2 => by omega
 unfold z0i
 rw [if_neg (e 1 (by decide) (by decide)), if_neg (e 2 (by decide) (by decide)), if_neg (e 3 (by decide) (by decide)), if_neg (e 4 (by decide) (by decide)), if_neg (e 5 (by decide) (by decide)), if_neg (e 6 (by decide) (by decide)), if_neg (e 7 (by decide) (by decide)), if_neg (e 8 (by decide) (by decide)), if_neg (e 9 (by decide) (by decide)), if_neg (e 10 (by decide) (by decide)), if_neg (e 11 (by decide) (by decide)), if_neg (e 12 (by decide) (by decide)), if_neg (e 13 (by decide) (by decide))]
theorem zGb (a b : Int) : isV 15 a b = (decide (a = b)) := by simp only [isV, reduceIte, Int.reduceEq]
theorem zGa (a b : Int) : isV 16 a b = (!decide (a = b)) := by simp only [isV, reduceIte, Int.reduceEq]
theorem zG9 (a b : Int) : isV 17 a b = (decide (uns b < uns a)) := by simp only [isV, reduceIte, Int.reduceEq]
theorem zG8 (a b : Int) : isV 18 a b = (decide (uns b ≤ uns a)) := by simp only [isV, reduceIte, Int.reduceEq]
theorem zCw (a b : Int) : isV 19 a b = (decide (uns a < uns b)) := by simp only [isV, reduceIte, Int.reduceEq]
theorem zCv (a b : Int) : isV 20 a b = (decide (uns a ≤ uns b)) := by simp only [isV, reduceIte, Int.reduceEq]
theorem zG7 (a b : Int) : isV 21 a b = (decide (b < a)) := by simp only [isV, reduceIte, Int.reduceEq]
theorem zG6 (a b : Int) : isV 22 a b = (decide (b ≤ a)) := by simp only [isV, reduceIte, Int.reduceEq]
theorem zCu (a b : Int) : isV 23 a b = (decide (a < b)) := by simp only [isV, reduceIte, Int.reduceEq]
theorem zCt (a b : Int) : isV 24 a b = (decide (a ≤ b)) := by simp only [isV, reduceIte, Int.reduceEq]
theorem isV_no {c : Int} (a b : Int) (h : c < 15 ∨ 24 < c) : isV c a b = false := by
 have e : ∀ k : Int, 15 ≤ k → k ≤ 24 → c ≠ k := fun k h1 h2 => by omega
 unfold isV
 rw [if_neg (e 15 (by decide) (by decide)), if_neg (e 16 (by decide) (by decide)), if_neg (e 17 (by decide) (by decide)), if_neg (e 18 (by decide) (by decide)), if_neg (e 19 (by decide) (by decide)), if_neg (e 20 (by decide) (by decide)), if_neg (e 21 (by decide) (by decide)), if_neg (e 22 (by decide) (by decide)), if_neg (e 23 (by decide) (by decide)), if_neg (e 24 (by decide) (by decide))]

theorem shr_u (a b : Int) : wrap64 (IntKind.u64.wrap a / 2 ^ (b % 64).toNat) = wrap64 ((uns a / 2 ^ sixBits b : Nat) : Int) := by
 rw [z0w, Int.natCast_ediv, Int.natCast_pow]; rfl

def pw (j : Nat) : Nat := 2 ^ j % 18446744073709551616
theorem z3x {j : Nat} (h : j < 64) : pw j = 2 ^ j := by
 unfold pw; exact Nat.mod_eq_of_lt (Nat.lt_of_lt_of_le (Nat.pow_lt_pow_right (by decide) h) (by decide))
theorem zL0 (j : Nat) : pw (j + 1) = pw j * 2 % 18446744073709551616 := by
 unfold pw; rw [Nat.pow_succ, Nat.mod_mul_mod]
theorem z6b {j : Nat} (h : j < 64) : pw j ≤ 9223372036854775808 := by
 rw [z3x h]; exact Nat.pow_le_pow_right (n := 2) (i := j) (j := 63) (by decide) (by omega)
theorem z47 {j : Nat} (h : j < 64) : 0 < pw j := by rw [z3x h]; exact Nat.two_pow_pos j
theorem z31 {j : Nat} (h : j < 63) : pw j * 2 < 18446744073709551616 := by
 rw [z3x (by omega)]
 have := Nat.pow_le_pow_right (n := 2) (i := j) (j := 62) (by decide) (by omega)
 omega

def hi (x j : Nat) : Nat := x / 2 ^ j
def lo (x j : Nat) : Nat := x % 2 ^ j
theorem z7i (x : Nat) : hi x 0 = x := by simp [hi]
theorem zF3 (x : Nat) : lo x 0 = 0 := by simp [lo, Nat.mod_one]
theorem z21 (x j : Nat) : hi x (j + 1) = hi x j / 2 := by unfold hi; rw [Nat.pow_succ, Nat.div_div_eq_div_mul]
theorem zIf (x j : Nat) : hi x j ≤ x := Nat.div_le_self _ _
theorem zF4 (x j : Nat) : lo x (j + 1) = lo x j + hi x j % 2 * 2 ^ j := by
 unfold lo hi; rw [Nat.pow_succ, Nat.mod_mul, Nat.mul_comm (2 ^ j)]
theorem lo_lt {x j : Nat} : lo x j < 2 ^ j := Nat.mod_lt _ (Nat.two_pow_pos j)
theorem zLf {x : Nat} (h : x < 18446744073709551616) : lo x 64 = x := Nat.mod_eq_of_lt h
theorem z6w (x j : Nat) : hi x j % 2 = (x.testBit j).toNat := by
 unfold hi; rw [Nat.testBit_eq_decide_div_mod_eq]
 have := Nat.mod_two_eq_zero_or_one (x / 2 ^ j)
 rcases this with h | h <;> simp [h]
theorem hi_and (x y j : Nat) : hi (x &&& y) j % 2 = hi x j % 2 * (hi y j % 2) := by
 rw [z6w, z6w, z6w, Nat.testBit_and]; cases x.testBit j <;> cases y.testBit j <;> rfl
theorem hi_or (x y j : Nat) : hi (x ||| y) j % 2 = max (hi x j % 2) (hi y j % 2) := by
 rw [z6w, z6w, z6w, Nat.testBit_or]; cases x.testBit j <;> cases y.testBit j <;> rfl
theorem hi_xor (x y j : Nat) : hi (x ^^^ y) j % 2 = (hi x j % 2 + hi y j % 2) % 2 := by
 rw [z6w, z6w, z6w, Nat.testBit_xor]; cases x.testBit j <;> cases y.testBit j <;> rfl

def sh (a : Int) (j : Nat) : Int := a / 2 ^ j
theorem zJk (a : Int) : sh a 0 = a := by simp [sh]
theorem zBy (j : Nat) : (0 : Int) < 2 ^ j := Int.pow_pos (by decide)
theorem zJl (a : Int) (j : Nat) : sh a (j + 1) = sh a j / 2 := by
 unfold sh; rw [Int.pow_succ, Int.ediv_ediv_of_nonneg (Int.le_of_lt (zBy j))]
theorem sh_bd {a : Int} (h0 : -9223372036854775808 ≤ a) (h1 : a ≤ 9223372036854775807) : ∀ j, -9223372036854775808 ≤ sh a j ∧ sh a j ≤ 9223372036854775807
 | 0 => by rw [zJk]; exact ⟨h0, h1⟩
 | j + 1 => by have := sh_bd h0 h1 j; rw [zJl]; omega

def ones (j : Nat) : Nat := 2 ^ j - 1
theorem zL6 (j : Nat) : ones (j + 1) = ones j * 2 + 1 := by
 unfold ones; have := Nat.two_pow_pos j; rw [Nat.pow_succ]; omega
theorem zAx {j : Nat} (h : j ≤ 63) : ones j ≤ 9223372036854775807 := by
 unfold ones; have := Nat.pow_le_pow_right (n := 2) (i := j) (j := 63) (by decide) h; omega
def z4d (n : Int) : Int := (ones (lenV n.toNat) : Int)
theorem z9u {x : Int} (h : x % 2 = 0) : x.tdiv 2 = x / 2 := by
 rw [Int.tdiv_eq_ediv, if_pos (Or.inr (by omega))]; omega
theorem zBz {x : Int} (h : x < 0) (h2 : x % 2 = 1) : x.tdiv 2 = x / 2 + 1 := by
 rw [Int.tdiv_eq_ediv, if_neg (by omega)]; rfl
theorem zHf {x : Int} (h : x % 2 = 0) : x.tmod 2 = 0 := by
 have := Int.mul_tdiv_add_tmod x 2; rw [z9u h] at this; omega
theorem zJh {x : Int} (h : x < 0) (h2 : x % 2 = 1) : x.tmod 2 = -1 := by
 have := Int.mul_tdiv_add_tmod x 2; rw [zBz h h2] at this; omega
theorem zTe (m : Nat) (hl : lenV m ≤ 63) : wrap64 (IntKind.u64.wrap (IntKind.u64.wrap (2 ^ lenV m) - 1)) = z4d (m : Int) := by
 have e : ((2 : Int) ^ lenV m) = ((2 ^ lenV m : Nat) : Int) := by rw [Int.natCast_pow]; rfl
 have h1 := Nat.pow_le_pow_right (n := 2) (i := lenV m) (j := 63) (by decide) hl
 have h2 := Nat.two_pow_pos (lenV m)
 unfold z4d ones
 rw [Int.toNat_natCast, e, IntKind.wrap_u64, IntKind.wrap_u64]
 unfold wrap64
 omega
theorem z46 {j : Nat} (h : j < 63) : pw (j + 1) = pw j * 2 := by
 rw [zL0]; exact Nat.mod_eq_of_lt (z31 h)

theorem zBp {x y j : Nat} (hj : j < 64) {u v : Nat} (hu : hi x j % 2 = u) (hv : hi y j % 2 = v) : lo (x &&& y) (j + 1) = lo (x &&& y) j + u * v * pw j := by
 rw [zF4, hi_and, hu, hv, z3x hj]
theorem zGl {x y j : Nat} (hj : j < 64) {u v : Nat} (hu : hi x j % 2 = u) (hv : hi y j % 2 = v) : lo (x ||| y) (j + 1) = lo (x ||| y) j + max u v * pw j := by
 rw [zF4, hi_or, hu, hv, z3x hj]
theorem zBo {x y j : Nat} (hj : j < 64) {u v : Nat} (hu : hi x j % 2 = u) (hv : hi y j % 2 = v) : lo (x ^^^ y) (j + 1) = lo (x ^^^ y) j + (u + v) % 2 * pw j := by
 rw [zF4, hi_xor, hu, hv, z3x hj]
theorem zF5 {z j : Nat} (hj : j < 64) : lo z j + pw j < 18446744073709551616 := by
 rw [z3x hj]
 have a := lo_lt (x := z) (j := j)
 have b := Nat.pow_le_pow_right (n := 2) (i := j) (j := 63) (by decide) (by omega)
 omega
theorem zEd (j : Nat) : IntKind.u64.wrap ((pw j : Int) * 2) = (pw (j + 1) : Int) := by
 rw [zL0, IntKind.wrap_u64]; omega

theorem len_63 {n : Int} (h : n ≤ 9223372036854775807) : lenV n.toNat ≤ 63 := z8s (Nat.lt_of_lt_of_eq (show n.toNat < 9223372036854775808 by omega) (by decide))
theorem zPc {n : Int} {j : Nat} (h : ones j < n.toNat) : j + 1 ≤ lenV n.toNat := by
 have a := zBa n.toNat
 have b : 2 ^ j < 2 ^ lenV n.toNat := by unfold ones at h; omega
 exact (Nat.pow_lt_pow_iff_right (by decide : 1 < 2)).1 b
theorem zPb {n : Int} {j : Nat} (hj : j ≤ lenV n.toNat) (h : ¬ (ones j : Int) < n) : j = lenV n.toNat := by
 have a : n.toNat < 2 ^ j := by have := Nat.two_pow_pos j; unfold ones at h; omega
 have b := z8s a
 omega

theorem r_mov {b : Int} {Y : Nat} (h0 : -9223372036854775808 ≤ b) (h1 : b ≤ 9223372036854775807) (hb : IntKind.u64.wrap b = (Y : Int)) : wrap64 (Y : Int) = b := by
 rw [← hb, z3v, z0e h0 h1]
theorem r_add {a b : Int} {X Y : Nat} (ha : IntKind.u64.wrap a = (X : Int)) (hb : IntKind.u64.wrap b = (Y : Int)) : wrap64 (IntKind.u64.wrap ((X : Int) + Y)) = wrap64 (a + b) := by
 rw [z3v, ← ha, ← hb, IntKind.wrap_u64, IntKind.wrap_u64]; exact z58 (Int.add_emod _ _ _).symm
theorem r_sub {a b : Int} {X Y : Nat} (ha : IntKind.u64.wrap a = (X : Int)) (hb : IntKind.u64.wrap b = (Y : Int)) : wrap64 (IntKind.u64.wrap ((X : Int) - Y)) = wrap64 (a - b) := by
 rw [z3v, ← ha, ← hb, IntKind.wrap_u64, IntKind.wrap_u64]; exact z58 (Int.sub_emod _ _ _).symm
theorem r_mul {a b : Int} {X Y : Nat} (ha : IntKind.u64.wrap a = (X : Int)) (hb : IntKind.u64.wrap b = (Y : Int)) : wrap64 (IntKind.u64.wrap ((X : Int) * Y)) = wrap64 (a * b) := by
 rw [z3v, ← ha, ← hb, IntKind.wrap_u64, IntKind.wrap_u64]; exact z58 (Int.mul_emod _ _ _).symm
theorem r_neg {a : Int} {X : Nat} (ha : IntKind.u64.wrap a = (X : Int)) : wrap64 (IntKind.u64.wrap (-(X : Int))) = wrap64 (-a) := by
 rw [z3v, ← ha, IntKind.wrap_u64]; apply z58; omega
theorem r_lsh {a b : Int} {X Y : Nat} (ha : IntKind.u64.wrap a = (X : Int)) (hs : Y % 64 = sixBits b) : wrap64 (IntKind.u64.wrap ((X : Int) * (pw (Y % 64) : Int))) = wrap64 (a * 2 ^ sixBits b) := by
 rw [hs, z3x (z19 b), z3v, ← ha, IntKind.wrap_u64, Int.natCast_pow]
 apply z58
 rw [Int.mul_emod, Int.emod_emod, ← Int.mul_emod]; rfl
theorem r_rsh {b : Int} {X Y : Nat} (hs : Y % 64 = sixBits b) : wrap64 (IntKind.u64.wrap ((X : Int) / (pw (Y % 64) : Int))) = wrap64 ((X / 2 ^ sixBits b : Nat) : Int) := by
 rw [hs, z3x (z19 b), z3v, Int.natCast_ediv]
end Go.Proofs.YteenhdoaminkeaaGreatDoor
namespace Go.Proofs.YteenhdoaminkeaaGreatDoor
open Go.ChangeShapes Go.WideShapes Go.ChangeAt Go.RowKit

theorem z20 {a b : Int} (h : a = b) : Ending.returned (vI vK a) = .returned (vI vK b) := by rw [h]
theorem z6n {a b : Bool} (h : a = b) : Ending.returned (.bool a) = .returned (.bool b) := by rw [h]

theorem z57 (c : Int) (w : World) :
  Calls Tryz.prog 40 #[vI vK c] w fun e w' => e = .returned (.bool (decide (15 ≤ c) && decide (c ≤ 24))) ∧ w' = w := by
 by_cases h1 : 15 ≤ c
 ·go_enter Tryz.func40, Tryz.ntmps40
  go_wp2
  go_ret
  exact ⟨z6n (by simp [h1]), rfl⟩
 ·have h2 : decide (15 ≤ c) = false := by simpa using h1
  rw [h2, Bool.false_and]
  go_enter Tryz.func40, Tryz.ntmps40
  go_wp2
  go_ret
  exact ⟨rfl, rfl⟩
theorem does_7 (a b : Int) (w : World) : Calls Tryz.prog 96 #[vI vK 7, vI vK a, vI vK b] w fun e w' => e = .returned (vI vK (z0i 7 a b)) ∧ w' = w := by
 rw [z9c]
 go_enter Tryz.func96, Tryz.ntmps96
 go_wp2
 go_ret
 exact ⟨z20 (z7z a b), rfl⟩
theorem does_8 (a b : Int) (w : World) : Calls Tryz.prog 96 #[vI vK 8, vI vK a, vI vK b] w fun e w' => e = .returned (vI vK (z0i 8 a b)) ∧ w' = w := by
 rw [zBh]
 go_enter Tryz.func96, Tryz.ntmps96
 go_wp2
 go_ret
 exact ⟨z20 (zFn a b), rfl⟩
theorem does_9 (a b : Int) (w : World) : Calls Tryz.prog 96 #[vI vK 9, vI vK a, vI vK b] w fun e w' => e = .returned (vI vK (z0i 9 a b)) ∧ w' = w := by
 rw [zBg]
 go_enter Tryz.func96, Tryz.ntmps96
 go_wp2
 go_ret
 exact ⟨z20 (zDa a b), rfl⟩
theorem zTk (a b : Int) (w : World) : Calls Tryz.prog 96 #[vI vK 11, vI vK a, vI vK b] w fun e w' => e = .returned (vI vK (z0i 11 a b)) ∧ w' = w := by
 rw [z55]
 have e := z76 b
 have h0 : 0 ≤ b % 64 := Int.emod_nonneg _ (by decide)
 have h1 : b % 64 < 64 := Int.emod_lt_of_pos _ (by decide)
 go_enter Tryz.func96, Tryz.ntmps96
 go_wp2
 go_ret
 exact ⟨z20 (shr_u a b), rfl⟩
theorem z4b (a b : Int) (w : World) : (Calls Tryz.prog 96 #[vI vK 1, vI vK a, vI vK b] w fun e w' => e = .returned (vI vK (z0i 1 a b)) ∧ w' = w) ∧ (Calls Tryz.prog 96 #[vI vK 2, vI vK a, vI vK b] w fun e w' => e = .returned (vI vK (z0i 2 a b)) ∧ w' = w) ∧ (Calls Tryz.prog 96 #[vI vK 3, vI vK a, vI vK b] w fun e w' => e = .returned (vI vK (z0i 3 a b)) ∧ w' = w) ∧ (Calls Tryz.prog 96 #[vI vK 4, vI vK a, vI vK b] w fun e w' => e = .returned (vI vK (z0i 4 a b)) ∧ w' = w) ∧ (Calls Tryz.prog 96 #[vI vK 13, vI vK a, vI vK b] w fun e w' => e = .returned (vI vK (z0i 13 a b)) ∧ w' = w) ∧ (Calls Tryz.prog 96 #[vI vK 10, vI vK a, vI vK b] w fun e w' => e = .returned (vI vK (z0i 10 a b)) ∧ w' = w) ∧ (Calls Tryz.prog 96 #[vI vK 12, vI vK a, vI vK b] w fun e w' => e = .returned (vI vK (z0i 12 a b)) ∧ w' = w) := by
 refine ⟨?_, ?_, ?_, ?_, ?_, ?_, ?_⟩
 rw [zBn]
 rotate_left
 rw [zBm]
 rotate_left
 rw [zBl]
 rotate_left
 rw [zBk]
 rotate_left
 rw [z8d]
 rotate_left
 rw [z1g]
 have e := z76 b
 have h0 : 0 ≤ b % 64 := Int.emod_nonneg _ (by decide)
 have h1 : b % 64 < 64 := Int.emod_lt_of_pos _ (by decide)
 rotate_left
 rw [z54]
 have e := z76 b
 have h0 : 0 ≤ b % 64 := Int.emod_nonneg _ (by decide)
 have h1 : b % 64 < 64 := Int.emod_lt_of_pos _ (by decide)
 rotate_left
 all_goals
  go_enter Tryz.func96, Tryz.ntmps96
  go_wp2
  go_ret
  exact ⟨z20 rfl, rfl⟩
def does_1 := fun a b w => (@z4b a b w).1
def does_2 := fun a b w => (@z4b a b w).2.1
def does_3 := fun a b w => (@z4b a b w).2.2.1
def does_4 := fun a b w => (@z4b a b w).2.2.2.1
def zTi := fun a b w => (@z4b a b w).2.2.2.2.1
def zTl := fun a b w => (@z4b a b w).2.2.2.2.2.1
def zTj := fun a b w => (@z4b a b w).2.2.2.2.2.2
theorem does_5 (a b : Int) (h0 : -9223372036854775808 ≤ b) (h1 : b ≤ 9223372036854775807) (w : World) : Calls Tryz.prog 96 #[vI vK 5, vI vK a, vI vK b] w fun e w' => e = .returned (vI vK (z0i 5 a b)) ∧ w' = w := by
 by_cases hb : b = 0
 ·subst hb
  rw [z8c]
  go_enter Tryz.func96, Tryz.ntmps96
  go_wp2
  go_ret
  exact ⟨rfl, rfl⟩
 ·rw [zBj a hb]
  have ha := z0w a
  have hu := z0w b
  have l1 := z1v a
  have l2 := z1v b
  have hz : uns b ≠ 0 := fun e => hb ((z83 h0 h1).1 e)
  generalize uns a = X at ha l1 ⊢
  generalize uns b = Y at hu l2 hz ⊢
  go_enter Tryz.func96, Tryz.ntmps96
  go_wp2
  go_ret
  exact ⟨z20 (by rw [z3v, Int.natCast_ediv]), rfl⟩
theorem does_6 (a b : Int) (h0 : -9223372036854775808 ≤ b) (h1 : b ≤ 9223372036854775807) (w : World) : Calls Tryz.prog 96 #[vI vK 6, vI vK a, vI vK b] w fun e w' => e = .returned (vI vK (z0i 6 a b)) ∧ w' = w := by
 by_cases hb : b = 0
 ·subst hb
  rw [z8b]
  go_enter Tryz.func96, Tryz.ntmps96
  go_wp2
  go_ret
  exact ⟨rfl, rfl⟩
 ·rw [zBi a hb]
  have ha := z0w a
  have hu := z0w b
  have l1 := z1v a
  have l2 := z1v b
  have hz : uns b ≠ 0 := fun e => hb ((z83 h0 h1).1 e)
  generalize uns a = X at ha l1 ⊢
  generalize uns b = Y at hu l2 hz ⊢
  go_enter Tryz.func96, Tryz.ntmps96
  go_wp2
  go_ret
  exact ⟨z20 (by rw [Int.natCast_emod]), rfl⟩
theorem zTh (c a b : Int) (hc : c < 1 ∨ 13 < c) (w : World) : Calls Tryz.prog 96 #[vI vK c, vI vK a, vI vK b] w fun e w' => e = .returned (vI vK (z0i c a b)) ∧ w' = w := by
 rw [zGh a b hc]
 go_enter Tryz.func96, Tryz.ntmps96
 go_wp2
 go_ret
 exact ⟨rfl, rfl⟩
theorem z34 (a b : Int) (w : World) : (Calls Tryz.prog 100 #[vI vK 15, vI vK a, vI vK b] w fun e w' => e = .returned (.bool (isV 15 a b)) ∧ w' = w) ∧ (Calls Tryz.prog 100 #[vI vK 16, vI vK a, vI vK b] w fun e w' => e = .returned (.bool (isV 16 a b)) ∧ w' = w) ∧ (Calls Tryz.prog 100 #[vI vK 17, vI vK a, vI vK b] w fun e w' => e = .returned (.bool (isV 17 a b)) ∧ w' = w) ∧ (Calls Tryz.prog 100 #[vI vK 18, vI vK a, vI vK b] w fun e w' => e = .returned (.bool (isV 18 a b)) ∧ w' = w) ∧ (Calls Tryz.prog 100 #[vI vK 19, vI vK a, vI vK b] w fun e w' => e = .returned (.bool (isV 19 a b)) ∧ w' = w) ∧ (Calls Tryz.prog 100 #[vI vK 20, vI vK a, vI vK b] w fun e w' => e = .returned (.bool (isV 20 a b)) ∧ w' = w) ∧ (Calls Tryz.prog 100 #[vI vK 21, vI vK a, vI vK b] w fun e w' => e = .returned (.bool (isV 21 a b)) ∧ w' = w) ∧ (Calls Tryz.prog 100 #[vI vK 22, vI vK a, vI vK b] w fun e w' => e = .returned (.bool (isV 22 a b)) ∧ w' = w) ∧ (Calls Tryz.prog 100 #[vI vK 23, vI vK a, vI vK b] w fun e w' => e = .returned (.bool (isV 23 a b)) ∧ w' = w) ∧ (Calls Tryz.prog 100 #[vI vK 24, vI vK a, vI vK b] w fun e w' => e = .returned (.bool (isV 24 a b)) ∧ w' = w) := by
 refine ⟨?_, ?_, ?_, ?_, ?_, ?_, ?_, ?_, ?_, ?_⟩
 rw [zGb]
 rotate_left
 rw [zGa]
 rotate_left
 rw [zG9]
 rotate_left
 rw [zG8]
 rotate_left
 rw [zCw]
 rotate_left
 rw [zCv]
 rotate_left
 rw [zG7]
 rotate_left
 rw [zG6]
 rotate_left
 rw [zCu]
 rotate_left
 rw [zCt]
 rotate_left
 all_goals
  have ha := z0w a
  have hb := z0w b
 all_goals
  go_enter Tryz.func100, Tryz.ntmps100
  go_wp2
  go_ret
  refine ⟨z6n ?_, rfl⟩
  rfl
def is_15 := fun a b w => (@z34 a b w).1
def is_16 := fun a b w => (@z34 a b w).2.1
def is_17 := fun a b w => (@z34 a b w).2.2.1
def is_18 := fun a b w => (@z34 a b w).2.2.2.1
def is_19 := fun a b w => (@z34 a b w).2.2.2.2.1
def is_20 := fun a b w => (@z34 a b w).2.2.2.2.2.1
def is_21 := fun a b w => (@z34 a b w).2.2.2.2.2.2.1
def is_22 := fun a b w => (@z34 a b w).2.2.2.2.2.2.2.1
def is_23 := fun a b w => (@z34 a b w).2.2.2.2.2.2.2.2.1
def is_24 := fun a b w => (@z34 a b w).2.2.2.2.2.2.2.2.2
theorem is_no (c a b : Int) (hc : c < 15 ∨ 24 < c) (w : World) : Calls Tryz.prog 100 #[vI vK c, vI vK a, vI vK b] w fun e w' => e = .returned (.bool (isV c a b)) ∧ w' = w := by
 rw [isV_no a b hc]
 go_enter Tryz.func100, Tryz.ntmps100
 go_wp2
 go_ret
 exact ⟨rfl, rfl⟩
theorem z2y (c a b : Int) (k0 : -9223372036854775808 ≤ b) (k1 : b ≤ 9223372036854775807) (w : World) : Calls Tryz.prog 96 #[vI vK c, vI vK a, vI vK b] w fun e w' => e = .returned (vI vK (z0i c a b)) ∧ w' = w := by
 by_cases hc : c < 1 ∨ 13 < c
 ·exact zTh c a b hc w
 ·have h : c = 1 ∨ c = 2 ∨ c = 3 ∨ c = 4 ∨ c = 5 ∨ c = 6 ∨ c = 7 ∨ c = 8 ∨ c = 9 ∨ c = 10 ∨ c = 11 ∨ c = 12 ∨ c = 13 := by omega
  rcases h with rfl | rfl | rfl | rfl | rfl | rfl | rfl | rfl | rfl | rfl | rfl | rfl | rfl
  ·exact does_1 a b w
  ·exact does_2 a b w
  ·exact does_3 a b w
  ·exact does_4 a b w
  ·exact does_5 a b k0 k1 w
  ·exact does_6 a b k0 k1 w
  ·exact does_7 a b w
  ·exact does_8 a b w
  ·exact does_9 a b w
  ·exact zTl a b w
  ·exact zTk a b w
  ·exact zTj a b w
  ·exact zTi a b w
theorem zQo (c a b : Int) (w : World) : Calls Tryz.prog 100 #[vI vK c, vI vK a, vI vK b] w fun e w' => e = .returned (.bool (isV c a b)) ∧ w' = w := by
 by_cases hc : c < 15 ∨ 24 < c
 ·exact is_no c a b hc w
 ·have h : c = 15 ∨ c = 16 ∨ c = 17 ∨ c = 18 ∨ c = 19 ∨ c = 20 ∨ c = 21 ∨ c = 22 ∨ c = 23 ∨ c = 24 := by omega
  rcases h with rfl | rfl | rfl | rfl | rfl | rfl | rfl | rfl | rfl | rfl
  ·exact is_15 a b w
  ·exact is_16 a b w
  ·exact is_17 a b w
  ·exact is_18 a b w
  ·exact is_19 a b w
  ·exact is_20 a b w
  ·exact is_21 a b w
  ·exact is_22 a b w
  ·exact is_23 a b w
  ·exact is_24 a b w
theorem zGg (n : Int) (h0 : -9223372036854775808 ≤ n) (h1 : n ≤ 9223372036854775807) (w : World) : Calls Tryz.prog 97 #[vI vK n] w fun e w' => e = .returned (vI vK (z4d n)) ∧ w' = w := by
 by_cases hn : n ≤ 0
 ·have hd : z4d n = 0 := by
   unfold z4d
   rw [show n.toNat = 0 by omega]
   rfl
  rw [hd]
  go_enter Tryz.func97, Tryz.ntmps97
  go_wp2
  go_ret
  exact ⟨rfl, rfl⟩
 ·obtain ⟨m, rfl⟩ : ∃ m : Nat, n = (m : Int) := ⟨n.toNat, by omega⟩
  have hl : lenV m ≤ 63 := z8s (Nat.lt_of_lt_of_eq (show m < 9223372036854775808 by omega) (by decide))
  go_enter Tryz.func97, Tryz.ntmps97
  go_wp2_with (go_at_call 101; refine (len64 _ _ (by omega)).mono ?_; rintro e w' ⟨rfl, rfl⟩)
  go_ret
  exact ⟨z20 (zTe m hl), rfl⟩
structure Val where
 k : Int
 n : Int
 c : Int
def z82 (x : Val) : Int := if x.k = 0 then 8 else if x.k = 1 then 0 else 1
def numF (n : Int) : Val := ⟨1, n, 0⟩
def zD7 (n : Int) : Val := if n < 0 ∨ 4 ≤ n then ⟨1, 0, 0⟩ else ⟨4, 0, n⟩
def z6s (code : Int) (a b : Val) : Val × Int :=
 if b.k = 0 ∨ (a.k = 0 ∧ code ≠ 1) then (⟨0, 0, 0⟩, 8)
 else if code = 1 then (b, 0)
 else if b.k = 1 ∧ (a.k = 1 ∨ code = 2 ∨ code = 3) then (⟨a.k, z0i code a.n b.n, a.c⟩, 0)
 else if a.k = 1 ∧ code = 2 then (⟨b.k, z0i code a.n b.n, b.c⟩, 0)
 else (⟨0, 0, 0⟩, 1)
def z45 (x : Val) (off : Int) : Int := if x.k = 3 then wrap64 (wrap64 (x.n + off) + 16) else wrap64 (x.n + off)
def z3o (x : Val) : Int := if x.k = 2 then 8 else if x.k = 3 then 16 else 4
def z30 (x : Val) (off : Int) : Int × Int :=
 if x.k = 0 then (0, 8) else if x.k = 1 then (0, 1) else if z45 x off < 0 ∨ z3o x ≤ z45 x off then (0, 2) else (z45 x off, 0)
section
variable (code ak an ac bk bn bc : Int) (w : World)
end
section
variable (k n c off : Int) (w : World)
end
end Go.Proofs.YteenhdoaminkeaaGreatDoor
namespace Go.Proofs.YteenhdoaminkeaaGreatDoor
open Go.RowKit

def fits (n : Int) : Bool := decide (-9223372036854775808 ≤ n) && decide (n ≤ 9223372036854775807)
theorem z28 (n : Int) : fits n = true ↔ -9223372036854775808 ≤ n ∧ n ≤ 9223372036854775807 := by simp [fits]
theorem z9a (n : Int) : fits n = false ↔ n < -9223372036854775808 ∨ 9223372036854775807 < n := by
 rw [← Bool.not_eq_true, z28]; omega
def fit2 (x y : Int) : Int × Int := if fits x && fits y then (x, y) else (-9223372036854775808, 9223372036854775807)
theorem z4g {x y : Int} (h : (fits x && fits y) = true) : fit2 x y = (x, y) := by unfold fit2; rw [if_pos h]
theorem z4c {x y : Int} (h : (fits x && fits y) = false) : fit2 x y = (-9223372036854775808, 9223372036854775807) := by unfold fit2; rw [h]; rfl
theorem zL2 {a b : Int} (h0 : -9223372036854775808 ≤ a) (h1 : a ≤ 9223372036854775807) (h2 : -9223372036854775808 ≤ b) (h3 : b ≤ 9223372036854775807) :
  (decide (a ≤ wrap64 (a + b)) == decide (0 ≤ b)) = fits (a + b) := by
 rw [Bool.eq_iff_iff, z28, beq_iff_eq, Bool.eq_iff_iff, decide_eq_true_eq, decide_eq_true_eq]
 unfold wrap64
 omega
theorem zI7 {a b : Int} (h0 : -9223372036854775808 ≤ a) (h1 : a ≤ 9223372036854775807) (h2 : -9223372036854775808 ≤ b) (h3 : b ≤ 9223372036854775807) :
  (decide (wrap64 (a - b) ≤ a) == decide (0 ≤ b)) = fits (a - b) := by
 rw [Bool.eq_iff_iff, z28, beq_iff_eq, Bool.eq_iff_iff, decide_eq_true_eq, decide_eq_true_eq]
 unfold wrap64
 omega
theorem fit2_1 (u v : Int) : (if fits u && fits v then wrap64 u else -9223372036854775808) = (fit2 u v).1 := by
 cases h : fits u && fits v
 ·rw [z4c h]; rfl
 ·rw [z4g h]
  simp only [Bool.and_eq_true, z28] at h
  exact z0e h.1.1 h.1.2
theorem fit2_2 (u v : Int) : (if fits u && fits v then wrap64 v else 9223372036854775807) = (fit2 u v).2 := by
 cases h : fits u && fits v
 ·rw [z4c h]; rfl
 ·rw [z4g h]
  simp only [Bool.and_eq_true, z28] at h
  exact z0e h.2.1 h.2.2
theorem z1z {a : Int} {k : Nat} (hk : k < 64) : (wrap64 (a * 2 ^ k) / 2 ^ k == a) = fits (a * 2 ^ k) := by
 have hp : (0 : Int) < 2 ^ k := Int.pow_pos (by decide)
 have hd : ∃ q : Int, wrap64 (a * 2 ^ k) = q * 2 ^ k := by
  have e : wrap64 (a * 2 ^ k) = a * 2 ^ k - 18446744073709551616 * ((a * 2 ^ k + 9223372036854775808) / 18446744073709551616) := by unfold wrap64; omega
  have e2 : (18446744073709551616 : Int) = 2 ^ (64 - k) * 2 ^ k := by
   rw [← Int.pow_add, show 64 - k + k = 64 by omega]; rfl
  refine ⟨a - 2 ^ (64 - k) * ((a * 2 ^ k + 9223372036854775808) / 18446744073709551616), ?_⟩
  rw [e, Int.sub_mul, Int.mul_right_comm, ← e2]
 obtain ⟨q, hq⟩ := hd
 have hb := z1s (a * 2 ^ k)
 rw [Bool.eq_iff_iff, beq_iff_eq, z28]
 constructor
 ·intro h
  rw [hq, Int.mul_ediv_cancel _ (by omega)] at h
  rw [hq, h] at hb
  exact hb
 ·intro h
  rw [z0e h.1 h.2, Int.mul_ediv_cancel _ (by omega)]

def z1y (n : Int) : Bool := decide (-2147483648 ≤ n) && decide (n ≤ 2147483648)
theorem z2k (n : Int) : z1y n = true ↔ -2147483648 ≤ n ∧ n ≤ 2147483648 := by simp [z1y]
def zF1 (al ah bl bh : Int) : Int := min (min (min (al * bl) (al * bh)) (ah * bl)) (ah * bh)
def zF2 (al ah bl bh : Int) : Int := max (max (max (al * bl) (al * bh)) (ah * bl)) (ah * bh)
def bdV (c al ah bl bh : Int) : Int × Int :=
 if c = 1 then (bl, bh)
 else if c = 2 then fit2 (al + bl) (ah + bh)
 else if c = 3 then fit2 (al - bh) (ah - bl)
 else if c = 4 then (if z1y al && z1y ah && z1y bl && z1y bh then (zF1 al ah bl bh, zF2 al ah bl bh) else (-9223372036854775808, 9223372036854775807))
 else if c = 5 then (if 0 ≤ al ∧ 0 ≤ bl then (if 0 < bl then (al / bh, ah / bl) else (0, ah)) else (-9223372036854775808, 9223372036854775807))
 else if c = 6 then (if 0 ≤ al ∧ 0 ≤ bl then (if 0 < bl then (0, min ah (bh - 1)) else (0, ah)) else (-9223372036854775808, 9223372036854775807))
 else if c = 7 then (if 0 ≤ al then (if 0 ≤ bl then (0, min ah bh) else (0, ah)) else if 0 ≤ bl then (0, bh) else (-9223372036854775808, 9223372036854775807))
 else if c = 8 then (if 0 ≤ al ∧ 0 ≤ bl then (max al bl, z4d (max ah bh)) else (-9223372036854775808, 9223372036854775807))
 else if c = 9 then (if 0 ≤ al ∧ 0 ≤ bl then (0, z4d (max ah bh)) else (-9223372036854775808, 9223372036854775807))
 else if c = 10 then (if bl = bh then fit2 (al * 2 ^ sixBits bl) (ah * 2 ^ sixBits bl) else (-9223372036854775808, 9223372036854775807))
 else if c = 11 then (if bl = bh then (if sixBits bl = 0 then (al, ah) else if 0 ≤ al then (al / 2 ^ sixBits bl, ah / 2 ^ sixBits bl) else (0, 2 ^ (64 - sixBits bl) - 1)) else if 0 ≤ al then (0, ah) else (-9223372036854775808, 9223372036854775807))
 else if c = 12 then (if bl = bh then (al / 2 ^ sixBits bl, ah / 2 ^ sixBits bl) else if 0 ≤ al then (0, ah) else if ah < 0 then (al, -1) else (al, ah))
 else if c = 13 then fit2 (-ah) (-al)
 else (-9223372036854775808, 9223372036854775807)
theorem zQa (al ah bl bh : Int) : bdV 1 al ah bl bh = (bl, bh) := by simp only [bdV, reduceIte, Int.reduceEq]
theorem zIu (al ah bl bh : Int) : bdV 2 al ah bl bh = fit2 (al + bl) (ah + bh) := by simp only [bdV, reduceIte, Int.reduceEq]
theorem zQ9 (al ah bl bh : Int) : bdV 3 al ah bl bh = fit2 (al - bh) (ah - bl) := by simp only [bdV, reduceIte, Int.reduceEq]
theorem zQ8 (al ah bl bh : Int) : bdV 4 al ah bl bh = (if z1y al && z1y ah && z1y bl && z1y bh then (zF1 al ah bl bh, zF2 al ah bl bh) else (-9223372036854775808, 9223372036854775807)) := by simp only [bdV, reduceIte, Int.reduceEq]
theorem zQ7 (al ah bl bh : Int) : bdV 5 al ah bl bh = (if 0 ≤ al ∧ 0 ≤ bl then (if 0 < bl then (al / bh, ah / bl) else (0, ah)) else (-9223372036854775808, 9223372036854775807)) := by simp only [bdV, reduceIte, Int.reduceEq]
theorem zQ6 (al ah bl bh : Int) : bdV 6 al ah bl bh = (if 0 ≤ al ∧ 0 ≤ bl then (if 0 < bl then (0, min ah (bh - 1)) else (0, ah)) else (-9223372036854775808, 9223372036854775807)) := by simp only [bdV, reduceIte, Int.reduceEq]
theorem zQ5 (al ah bl bh : Int) : bdV 7 al ah bl bh = (if 0 ≤ al then (if 0 ≤ bl then (0, min ah bh) else (0, ah)) else if 0 ≤ bl then (0, bh) else (-9223372036854775808, 9223372036854775807)) := by simp only [bdV, reduceIte, Int.reduceEq]
theorem zQ4 (al ah bl bh : Int) : bdV 8 al ah bl bh = (if 0 ≤ al ∧ 0 ≤ bl then (max al bl, z4d (max ah bh)) else (-9223372036854775808, 9223372036854775807)) := by simp only [bdV, reduceIte, Int.reduceEq]
theorem zQ3 (al ah bl bh : Int) : bdV 9 al ah bl bh = (if 0 ≤ al ∧ 0 ≤ bl then (0, z4d (max ah bh)) else (-9223372036854775808, 9223372036854775807)) := by simp only [bdV, reduceIte, Int.reduceEq]
theorem zGt (al ah bl bh : Int) : bdV 10 al ah bl bh = (if bl = bh then fit2 (al * 2 ^ sixBits bl) (ah * 2 ^ sixBits bl) else (-9223372036854775808, 9223372036854775807)) := by simp only [bdV, reduceIte, Int.reduceEq]
theorem zGs (al ah bl bh : Int) : bdV 11 al ah bl bh = (if bl = bh then (if sixBits bl = 0 then (al, ah) else if 0 ≤ al then (al / 2 ^ sixBits bl, ah / 2 ^ sixBits bl) else (0, 2 ^ (64 - sixBits bl) - 1)) else if 0 ≤ al then (0, ah) else (-9223372036854775808, 9223372036854775807)) := by simp only [bdV, reduceIte, Int.reduceEq]
theorem zGr (al ah bl bh : Int) : bdV 12 al ah bl bh = (if bl = bh then (al / 2 ^ sixBits bl, ah / 2 ^ sixBits bl) else if 0 ≤ al then (0, ah) else if ah < 0 then (al, -1) else (al, ah)) := by simp only [bdV, reduceIte, Int.reduceEq]
theorem zGq (al ah bl bh : Int) : bdV 13 al ah bl bh = fit2 (-ah) (-al) := by simp only [bdV, reduceIte, Int.reduceEq]
theorem zQz {c : Int} (al ah bl bh : Int) (h : c < 1 ∨ 13 < c) : bdV c al ah bl bh = (-9223372036854775808, 9223372036854775807) := by
 have e : ∀ k : Int, 1 ≤ k → k ≤ 13 → c ≠ k := fun k h1 h2 => by omega
 unfold bdV
 rw [if_neg (e 1 (by decide) (by decide)), if_neg (e 2 (by decide) (by decide)), if_neg (e 3 (by decide) (by decide)), if_neg (e 4 (by decide) (by decide)), if_neg (e 5 (by decide) (by decide)), if_neg (e 6 (by decide) (by decide)), if_neg (e 7 (by decide) (by decide)), if_neg (e 8 (by decide) (by decide)), if_neg (e 9 (by decide) (by decide)), if_neg (e 10 (by decide) (by decide)), if_neg (e 11 (by decide) (by decide)), if_neg (e 12 (by decide) (by decide)), if_neg (e 13 (by decide) (by decide))]

theorem z3m {a : Int} (h0 : 0 ≤ a) (h1 : a ≤ 9223372036854775807) : (uns a : Int) = a := by rw [zFt]; omega
theorem z8e {a b : Int} (h0 : 0 ≤ a) (h1 : a ≤ 9223372036854775807) (h2 : 0 < b) (h3 : b ≤ 9223372036854775807) : z0i 5 a b = a / b := by
 rw [zBj a (by omega), Int.natCast_ediv, z3m h0 h1, z3m (by omega) h3]
 have l := Int.ediv_nonneg h0 (Int.le_of_lt h2)
 have g := Int.ediv_le_self b h0
 exact z0e (by omega) (by omega)
theorem z86 {a b : Int} (h0 : 0 ≤ a) (h1 : a ≤ 9223372036854775807) : z0i 11 a b = a / 2 ^ sixBits b := by
 have hp : (0 : Int) < 2 ^ sixBits b := Int.pow_pos (by decide)
 rw [z55, Int.natCast_ediv, z3m h0 h1, Int.natCast_pow]
 have l := Int.ediv_nonneg h0 (Int.le_of_lt hp)
 have g := Int.ediv_le_self (2 ^ sixBits b) h0
 exact z0e (Int.le_trans (by decide) l) (Int.le_trans g h1)
theorem zAh {a b : Int} (h0 : -9223372036854775808 ≤ a) (h1 : a ≤ 9223372036854775807) (h : sixBits b = 0) : z0i 11 a b = a := by
 rw [z55, h, Nat.pow_zero, Nat.div_one, zGv, z0e h0 h1]
theorem zAg {b : Int} (h : sixBits b ≠ 0) : z0i 11 (-1) b = 2 ^ (64 - sixBits b) - 1 := by
 have hb := z19 b
 rw [z55]
 generalize sixBits b = k at *
 have e : uns (-1) = 18446744073709551615 := by decide
 rw [e]
 have e2 : (18446744073709551616 : Nat) = 2 ^ (64 - k) * 2 ^ k := by rw [← Nat.pow_add, show 64 - k + k = 64 by omega]
 have hp : 0 < 2 ^ k := Nat.two_pow_pos k
 have e3 : 18446744073709551615 / 2 ^ k = 2 ^ (64 - k) - 1 := by
  have hq : 0 < 2 ^ (64 - k) := Nat.two_pow_pos _
  rw [show (18446744073709551615 : Nat) = 2 ^ k * (2 ^ (64 - k) - 1) + (2 ^ k - 1) by rw [Nat.mul_sub_one, Nat.mul_comm, ← e2]; have := Nat.le_mul_of_pos_left (2 ^ k) hq; omega, Nat.mul_add_div hp, Nat.div_eq_of_lt (by omega), Nat.add_zero]
 rw [e3]
 have hle : 2 ^ (64 - k) ≤ 2 ^ 63 := Nat.pow_le_pow_right (by decide) (by omega)
 have hq : 0 < 2 ^ (64 - k) := Nat.two_pow_pos _
 have e4 : ((2 ^ (64 - k) - 1 : Nat) : Int) = 2 ^ (64 - k) - 1 := by rw [Int.natCast_sub hq, Int.natCast_pow]; rfl
 rw [e4]
 have l1 : (2 : Int) ^ (64 - k) ≤ 9223372036854775808 := by
  have := Int.ofNat_le.2 hle
  rw [Int.natCast_pow] at this
  exact this
 have l2 : (1 : Int) ≤ 2 ^ (64 - k) := Int.pow_pos (by decide)
 exact z0e (by omega) (by omega)
theorem z4w (b : Int) : sixBits (b % 64) = sixBits b := by unfold sixBits; omega
theorem z2j {x y : Int} (hx : z1y x = true) (hy : z1y y = true) : wrap64 (x * y) = x * y := by
 rw [z2k] at hx hy
 have h1 : (x * y).natAbs = x.natAbs * y.natAbs := Int.natAbs_mul x y
 have h2 : x.natAbs * y.natAbs ≤ 2147483648 * 2147483648 := Nat.mul_le_mul (by omega) (by omega)
 exact z0e (by omega) (by omega)
end Go.Proofs.YteenhdoaminkeaaGreatDoor
