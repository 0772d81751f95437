/-
  Plain facts on numbers of 64 bits: what the codes of package op make of two numbers, bit by bit, as one function on integers; no program is named here. No conditions. What each function of package op, and of the document's own answer to chapter 1, returns: as functions on integers; the world is as it was. Conditions: the arguments are numbers of 64 bits. Programs as they run: what a register has, as a plain triple, and what the small functions of package machine return of it; the world below is as it was. Conditions: numbers are of 64 bits. A program that runs, as it lies in memory. Conditions: numbers are of 64 bits. The steps of a program that runs: what package machine's methods do to it; all else is as it was. Conditions: numbers are of 64 bits. Plain facts on bounds: between which numbers is what a code makes of two numbers, and what is left of two bounds by what a code asks, as functions on integers; no program is named here. No conditions. Plain facts on bounds: what a code makes of two numbers that two bounds have is between; no program is named here. Conditions: the numbers are of 64 bits, and between the ends.
-/
import Derived.WalkKit
import Derived.Test.YtednmkhdehlojaaGreatDoorJs1
import Derived.Test.YtednmkhdehlojaaGreatDoorRows
import Derived.ProofKit
import Derived.OpenShut
import Derived.WalkLawsBesides
import Derived.BigCall
import Derived.BigGuardPart
import Derived.RegionTactic
import Derived.Deep.RegionWith
import Derived.Deep.RegionHeld3
import Derived.Deep.DeepCutAuto
import Derived.Deep.DeepMust
import Derived.BigQuiet
import Derived.Deep.QuietTactic
open Go.Value renaming int → vI
open Go.IntKind renaming i64 → vK
open Go.RowKit.Below renaming alloc → bA, setCell → bS, drew → bD, refl → bF
set_option maxHeartbeats 4000000
set_option maxRecDepth 1000000
namespace Go.Proofs.YtednmkhdehlojaaGreatDoor
open Go.RowKit

def uns (a : Int) : Nat := (a % 18446744073709551616).toNat
theorem uns_lt (a : Int) : uns a < 18446744073709551616 := by unfold uns; omega
theorem uns_wrap (a : Int) : IntKind.u64.wrap a = (uns a : Int) := by rw [IntKind.wrap_u64]; unfold uns; omega
theorem uns_eq (a : Int) : (uns a : Int) = a % 18446744073709551616 := by unfold uns; omega
theorem uns_zero {b : Int} (h0 : -9223372036854775808 ≤ b) (h1 : b ≤ 9223372036854775807) : uns b = 0 ↔ b = 0 := by unfold uns; omega
theorem wrap64_emod (n : Int) : wrap64 (n % 18446744073709551616) = wrap64 n := by unfold wrap64; omega
theorem wrap64_u (n : Int) : wrap64 (IntKind.u64.wrap n) = wrap64 n := by rw [IntKind.wrap_u64]; exact wrap64_emod n
theorem wrap64_in {n : Int} (h0 : -9223372036854775808 ≤ n) (h1 : n ≤ 9223372036854775807) : wrap64 n = n := by unfold wrap64; omega
theorem wrap64_bd (n : Int) : -9223372036854775808 ≤ wrap64 n ∧ wrap64 n ≤ 9223372036854775807 := by unfold wrap64; omega
theorem wrap64_uns (a : Int) : wrap64 (uns a : Int) = wrap64 a := by rw [uns_eq]; exact wrap64_emod a

theorem ofInt_toNat (a : Int) : (BitVec.ofInt 64 a).toNat = uns a := by
  rw [BitVec.toNat_ofInt]; rfl
theorem bits_and_i64 (a b : Int) : bits .and .i64 a b = wrap64 ((uns a &&& uns b : Nat) : Int) := by
  show IntKind.i64.wrap ((BitVec.ofInt 64 a &&& BitVec.ofInt 64 b).toNat : Int) = _
  rw [BitVec.toNat_and, ofInt_toNat, ofInt_toNat, IntWalk.i64_left]
theorem bits_or_i64 (a b : Int) : bits .or .i64 a b = wrap64 ((uns a ||| uns b : Nat) : Int) := by
  show IntKind.i64.wrap ((BitVec.ofInt 64 a ||| BitVec.ofInt 64 b).toNat : Int) = _
  rw [BitVec.toNat_or, ofInt_toNat, ofInt_toNat, IntWalk.i64_left]
theorem bits_xor_i64 (a b : Int) : bits .xor .i64 a b = wrap64 ((uns a ^^^ uns b : Nat) : Int) := by
  show IntKind.i64.wrap ((BitVec.ofInt 64 a ^^^ BitVec.ofInt 64 b).toNat : Int) = _
  rw [BitVec.toNat_xor, ofInt_toNat, ofInt_toNat, IntWalk.i64_left]
theorem and63 (b : Int) : bits .and .i64 b 63 = b % 64 := by
  rw [bits_and_i64]
  have e : uns b &&& uns 63 = uns b % 64 := by
    show uns b &&& 63 = _
    exact Nat.and_two_pow_sub_one_eq_mod (uns b) 6
  rw [e]
  unfold uns wrap64
  omega

def sixBits (b : Int) : Nat := (b % 64).toNat
theorem sixBits_lt (b : Int) : sixBits b < 64 := by unfold sixBits; omega
def doesV (c a b : Int) : Int :=
  if c = 1 then b else if c = 2 then wrap64 (a + b) else if c = 3 then wrap64 (a - b) else if c = 4 then wrap64 (a * b)
  else if c = 5 then (if b = 0 then 0 else wrap64 ((uns a / uns b : Nat) : Int))
  else if c = 6 then (if b = 0 then a else wrap64 ((uns a % uns b : Nat) : Int))
  else if c = 7 then wrap64 ((uns a &&& uns b : Nat) : Int) else if c = 8 then wrap64 ((uns a ||| uns b : Nat) : Int)
  else if c = 9 then wrap64 ((uns a ^^^ uns b : Nat) : Int)
  else if c = 10 then wrap64 (a * 2 ^ sixBits b) else if c = 11 then wrap64 ((uns a / 2 ^ sixBits b : Nat) : Int)
  else if c = 12 then a / 2 ^ sixBits b else if c = 13 then wrap64 (-a) else 0

def isV (c a b : Int) : Bool :=
  if c = 15 then decide (a = b) else if c = 16 then !decide (a = b)
  else if c = 17 then decide (uns b < uns a) else if c = 18 then decide (uns b ≤ uns a)
  else if c = 19 then decide (uns a < uns b) else if c = 20 then decide (uns a ≤ uns b)
  else if c = 21 then decide (b < a) else if c = 22 then decide (b ≤ a)
  else if c = 23 then decide (a < b) else if c = 24 then decide (a ≤ b) else false

theorem doesV_1 (a b : Int) : doesV 1 a b = b := by simp only [doesV, reduceIte, Int.reduceEq]
theorem doesV_2 (a b : Int) : doesV 2 a b = wrap64 (a + b) := by simp only [doesV, reduceIte, Int.reduceEq]
theorem doesV_3 (a b : Int) : doesV 3 a b = wrap64 (a - b) := by simp only [doesV, reduceIte, Int.reduceEq]
theorem doesV_4 (a b : Int) : doesV 4 a b = wrap64 (a * b) := by simp only [doesV, reduceIte, Int.reduceEq]
theorem doesV_7 (a b : Int) : doesV 7 a b = wrap64 ((uns a &&& uns b : Nat) : Int) := by simp only [doesV, reduceIte, Int.reduceEq]
theorem doesV_8 (a b : Int) : doesV 8 a b = wrap64 ((uns a ||| uns b : Nat) : Int) := by simp only [doesV, reduceIte, Int.reduceEq]
theorem doesV_9 (a b : Int) : doesV 9 a b = wrap64 ((uns a ^^^ uns b : Nat) : Int) := by simp only [doesV, reduceIte, Int.reduceEq]
theorem doesV_10 (a b : Int) : doesV 10 a b = wrap64 (a * 2 ^ sixBits b) := by simp only [doesV, reduceIte, Int.reduceEq]
theorem doesV_11 (a b : Int) : doesV 11 a b = wrap64 ((uns a / 2 ^ sixBits b : Nat) : Int) := by simp only [doesV, reduceIte, Int.reduceEq]
theorem doesV_12 (a b : Int) : doesV 12 a b = a / 2 ^ sixBits b := by simp only [doesV, reduceIte, Int.reduceEq]
theorem doesV_13 (a b : Int) : doesV 13 a b = wrap64 (-a) := by simp only [doesV, reduceIte, Int.reduceEq]
theorem doesV_5 (a : Int) {b : Int} (h : b ≠ 0) : doesV 5 a b = wrap64 ((uns a / uns b : Nat) : Int) := by simp only [doesV, reduceIte, Int.reduceEq, if_neg h]
theorem doesV_5z (a : Int) : doesV 5 a 0 = 0 := by simp only [doesV, reduceIte, Int.reduceEq]
theorem doesV_6 (a : Int) {b : Int} (h : b ≠ 0) : doesV 6 a b = wrap64 ((uns a % uns b : Nat) : Int) := by simp only [doesV, reduceIte, Int.reduceEq, if_neg h]
theorem doesV_6z (a : Int) : doesV 6 a 0 = a := by simp only [doesV, reduceIte, Int.reduceEq]
theorem doesV_no {c : Int} (a b : Int) (h : c < 1 ∨ 13 < c) : doesV c a b = 0 := by
  have e : ∀ k : Int, 1 ≤ k → k ≤ 13 → c ≠ k := fun k h1 h2 => by omega
  unfold doesV
  rw [if_neg (e 1 (by decide) (by decide)), if_neg (e 2 (by decide) (by decide)), if_neg (e 3 (by decide) (by decide)), if_neg (e 4 (by decide) (by decide)), if_neg (e 5 (by decide) (by decide)), if_neg (e 6 (by decide) (by decide)), if_neg (e 7 (by decide) (by decide)), if_neg (e 8 (by decide) (by decide)), if_neg (e 9 (by decide) (by decide)), if_neg (e 10 (by decide) (by decide)), if_neg (e 11 (by decide) (by decide)), if_neg (e 12 (by decide) (by decide)), if_neg (e 13 (by decide) (by decide))]
theorem isV_15 (a b : Int) : isV 15 a b = (decide (a = b)) := by simp only [isV, reduceIte, Int.reduceEq]
theorem isV_16 (a b : Int) : isV 16 a b = (!decide (a = b)) := by simp only [isV, reduceIte, Int.reduceEq]
theorem isV_17 (a b : Int) : isV 17 a b = (decide (uns b < uns a)) := by simp only [isV, reduceIte, Int.reduceEq]
theorem isV_18 (a b : Int) : isV 18 a b = (decide (uns b ≤ uns a)) := by simp only [isV, reduceIte, Int.reduceEq]
theorem isV_19 (a b : Int) : isV 19 a b = (decide (uns a < uns b)) := by simp only [isV, reduceIte, Int.reduceEq]
theorem isV_20 (a b : Int) : isV 20 a b = (decide (uns a ≤ uns b)) := by simp only [isV, reduceIte, Int.reduceEq]
theorem isV_21 (a b : Int) : isV 21 a b = (decide (b < a)) := by simp only [isV, reduceIte, Int.reduceEq]
theorem isV_22 (a b : Int) : isV 22 a b = (decide (b ≤ a)) := by simp only [isV, reduceIte, Int.reduceEq]
theorem isV_23 (a b : Int) : isV 23 a b = (decide (a < b)) := by simp only [isV, reduceIte, Int.reduceEq]
theorem isV_24 (a b : Int) : isV 24 a b = (decide (a ≤ b)) := by simp only [isV, reduceIte, Int.reduceEq]
theorem isV_no {c : Int} (a b : Int) (h : c < 15 ∨ 24 < c) : isV c a b = false := by
  have e : ∀ k : Int, 15 ≤ k → k ≤ 24 → c ≠ k := fun k h1 h2 => by omega
  unfold isV
  rw [if_neg (e 15 (by decide) (by decide)), if_neg (e 16 (by decide) (by decide)), if_neg (e 17 (by decide) (by decide)), if_neg (e 18 (by decide) (by decide)), if_neg (e 19 (by decide) (by decide)), if_neg (e 20 (by decide) (by decide)), if_neg (e 21 (by decide) (by decide)), if_neg (e 22 (by decide) (by decide)), if_neg (e 23 (by decide) (by decide)), if_neg (e 24 (by decide) (by decide))]

theorem shr_u (a b : Int) : wrap64 (IntKind.u64.wrap a / 2 ^ (b % 64).toNat) = wrap64 ((uns a / 2 ^ sixBits b : Nat) : Int) := by
  rw [uns_wrap, Int.natCast_ediv, Int.natCast_pow]; rfl

def hi (x j : Nat) : Nat := x / 2 ^ j
def lo (x j : Nat) : Nat := x % 2 ^ j
def ones (j : Nat) : Nat := 2 ^ j - 1
theorem ones_lt {j : Nat} (h : j ≤ 63) : ones j ≤ 9223372036854775807 := by
  unfold ones; have := Nat.pow_le_pow_right (n := 2) (i := j) (j := 63) (by decide) h; omega
def fillV (n : Int) : Int := (ones (lenV n.toNat) : Int)
theorem fill_eq (m : Nat) (hl : lenV m ≤ 63) : wrap64 (IntKind.u64.wrap (IntKind.u64.wrap (2 ^ lenV m) - 1)) = fillV (m : Int) := by
  have e : ((2 : Int) ^ lenV m) = ((2 ^ lenV m : Nat) : Int) := by rw [Int.natCast_pow]; rfl
  have h1 := Nat.pow_le_pow_right (n := 2) (i := lenV m) (j := 63) (by decide) hl
  have h2 := Nat.two_pow_pos (lenV m)
  unfold fillV ones
  rw [Int.toNat_natCast, e, IntKind.wrap_u64, IntKind.wrap_u64]
  unfold wrap64
  omega
end Go.Proofs.YtednmkhdehlojaaGreatDoor
namespace Go.Proofs.YtednmkhdehlojaaGreatDoor
open Go.ChangeShapes Go.WideShapes Go.ChangeAt Go.RowKit

theorem ret_i64 {a b : Int} (h : a = b) : Ending.returned (vI vK a) = .returned (vI vK b) := by rw [h]
theorem ret_bool {a b : Bool} (h : a = b) : Ending.returned (.bool a) = .returned (.bool b) := by rw [h]

theorem asks_any (c : Int) (w : World) :
    Calls Tryz.prog 89 #[vI vK c] w fun e w' => e = .returned (.bool (decide (15 ≤ c) && decide (c ≤ 24))) ∧ w' = w := by
  by_cases h1 : 15 ≤ c
  · go_enter Tryz.func89, Tryz.ntmps89
    go_wp2
    go_ret
    exact ⟨ret_bool (by simp [h1]), rfl⟩
  · have h2 : decide (15 ≤ c) = false := by simpa using h1
    rw [h2, Bool.false_and]
    go_enter Tryz.func89, Tryz.ntmps89
    go_wp2
    go_ret
    exact ⟨rfl, rfl⟩
theorem does_1 (a b : Int) (w : World) : Calls Tryz.prog 185 #[vI vK 1, vI vK a, vI vK b] w fun e w' => e = .returned (vI vK (doesV 1 a b)) ∧ w' = w := by
  rw [doesV_1]
  go_enter Tryz.func185, Tryz.ntmps185
  go_wp2
  go_ret
  exact ⟨ret_i64 rfl, rfl⟩
theorem does_2 (a b : Int) (w : World) : Calls Tryz.prog 185 #[vI vK 2, vI vK a, vI vK b] w fun e w' => e = .returned (vI vK (doesV 2 a b)) ∧ w' = w := by
  rw [doesV_2]
  go_enter Tryz.func185, Tryz.ntmps185
  go_wp2
  go_ret
  exact ⟨ret_i64 rfl, rfl⟩
theorem does_3 (a b : Int) (w : World) : Calls Tryz.prog 185 #[vI vK 3, vI vK a, vI vK b] w fun e w' => e = .returned (vI vK (doesV 3 a b)) ∧ w' = w := by
  rw [doesV_3]
  go_enter Tryz.func185, Tryz.ntmps185
  go_wp2
  go_ret
  exact ⟨ret_i64 rfl, rfl⟩
theorem does_4 (a b : Int) (w : World) : Calls Tryz.prog 185 #[vI vK 4, vI vK a, vI vK b] w fun e w' => e = .returned (vI vK (doesV 4 a b)) ∧ w' = w := by
  rw [doesV_4]
  go_enter Tryz.func185, Tryz.ntmps185
  go_wp2
  go_ret
  exact ⟨ret_i64 rfl, rfl⟩
theorem does_13 (a b : Int) (w : World) : Calls Tryz.prog 185 #[vI vK 13, vI vK a, vI vK b] w fun e w' => e = .returned (vI vK (doesV 13 a b)) ∧ w' = w := by
  rw [doesV_13]
  go_enter Tryz.func185, Tryz.ntmps185
  go_wp2
  go_ret
  exact ⟨ret_i64 rfl, rfl⟩
theorem does_7 (a b : Int) (w : World) : Calls Tryz.prog 185 #[vI vK 7, vI vK a, vI vK b] w fun e w' => e = .returned (vI vK (doesV 7 a b)) ∧ w' = w := by
  rw [doesV_7]
  go_enter Tryz.func185, Tryz.ntmps185
  go_wp2
  go_ret
  exact ⟨ret_i64 (bits_and_i64 a b), rfl⟩
theorem does_8 (a b : Int) (w : World) : Calls Tryz.prog 185 #[vI vK 8, vI vK a, vI vK b] w fun e w' => e = .returned (vI vK (doesV 8 a b)) ∧ w' = w := by
  rw [doesV_8]
  go_enter Tryz.func185, Tryz.ntmps185
  go_wp2
  go_ret
  exact ⟨ret_i64 (bits_or_i64 a b), rfl⟩
theorem does_9 (a b : Int) (w : World) : Calls Tryz.prog 185 #[vI vK 9, vI vK a, vI vK b] w fun e w' => e = .returned (vI vK (doesV 9 a b)) ∧ w' = w := by
  rw [doesV_9]
  go_enter Tryz.func185, Tryz.ntmps185
  go_wp2
  go_ret
  exact ⟨ret_i64 (bits_xor_i64 a b), rfl⟩
theorem does_10 (a b : Int) (w : World) : Calls Tryz.prog 185 #[vI vK 10, vI vK a, vI vK b] w fun e w' => e = .returned (vI vK (doesV 10 a b)) ∧ w' = w := by
  rw [doesV_10]
  have e := and63 b
  have h0 : 0 ≤ b % 64 := Int.emod_nonneg _ (by decide)
  have h1 : b % 64 < 64 := Int.emod_lt_of_pos _ (by decide)
  go_enter Tryz.func185, Tryz.ntmps185
  go_wp2
  go_ret
  exact ⟨ret_i64 rfl, rfl⟩
theorem does_11 (a b : Int) (w : World) : Calls Tryz.prog 185 #[vI vK 11, vI vK a, vI vK b] w fun e w' => e = .returned (vI vK (doesV 11 a b)) ∧ w' = w := by
  rw [doesV_11]
  have e := and63 b
  have h0 : 0 ≤ b % 64 := Int.emod_nonneg _ (by decide)
  have h1 : b % 64 < 64 := Int.emod_lt_of_pos _ (by decide)
  go_enter Tryz.func185, Tryz.ntmps185
  go_wp2
  go_ret
  exact ⟨ret_i64 (shr_u a b), rfl⟩
theorem does_12 (a b : Int) (w : World) : Calls Tryz.prog 185 #[vI vK 12, vI vK a, vI vK b] w fun e w' => e = .returned (vI vK (doesV 12 a b)) ∧ w' = w := by
  rw [doesV_12]
  have e := and63 b
  have h0 : 0 ≤ b % 64 := Int.emod_nonneg _ (by decide)
  have h1 : b % 64 < 64 := Int.emod_lt_of_pos _ (by decide)
  go_enter Tryz.func185, Tryz.ntmps185
  go_wp2
  go_ret
  exact ⟨ret_i64 rfl, rfl⟩
theorem does_5 (a b : Int) (h0 : -9223372036854775808 ≤ b) (h1 : b ≤ 9223372036854775807) (w : World) : Calls Tryz.prog 185 #[vI vK 5, vI vK a, vI vK b] w fun e w' => e = .returned (vI vK (doesV 5 a b)) ∧ w' = w := by
  by_cases hb : b = 0
  · subst hb
    rw [doesV_5z]
    go_enter Tryz.func185, Tryz.ntmps185
    go_wp2
    go_ret
    exact ⟨rfl, rfl⟩
  · rw [doesV_5 a hb]
    have ha := uns_wrap a
    have hu := uns_wrap b
    have l1 := uns_lt a
    have l2 := uns_lt b
    have hz : uns b ≠ 0 := fun e => hb ((uns_zero h0 h1).1 e)
    generalize uns a = X at ha l1 ⊢
    generalize uns b = Y at hu l2 hz ⊢
    go_enter Tryz.func185, Tryz.ntmps185
    go_wp2
    go_ret
    exact ⟨ret_i64 (by rw [wrap64_u, Int.natCast_ediv]), rfl⟩
theorem does_6 (a b : Int) (h0 : -9223372036854775808 ≤ b) (h1 : b ≤ 9223372036854775807) (w : World) : Calls Tryz.prog 185 #[vI vK 6, vI vK a, vI vK b] w fun e w' => e = .returned (vI vK (doesV 6 a b)) ∧ w' = w := by
  by_cases hb : b = 0
  · subst hb
    rw [doesV_6z]
    go_enter Tryz.func185, Tryz.ntmps185
    go_wp2
    go_ret
    exact ⟨rfl, rfl⟩
  · rw [doesV_6 a hb]
    have ha := uns_wrap a
    have hu := uns_wrap b
    have l1 := uns_lt a
    have l2 := uns_lt b
    have hz : uns b ≠ 0 := fun e => hb ((uns_zero h0 h1).1 e)
    generalize uns a = X at ha l1 ⊢
    generalize uns b = Y at hu l2 hz ⊢
    go_enter Tryz.func185, Tryz.ntmps185
    go_wp2
    go_ret
    exact ⟨ret_i64 (by rw [Int.natCast_emod]), rfl⟩
theorem does_no (c a b : Int) (hc : c < 1 ∨ 13 < c) (w : World) : Calls Tryz.prog 185 #[vI vK c, vI vK a, vI vK b] w fun e w' => e = .returned (vI vK (doesV c a b)) ∧ w' = w := by
  rw [doesV_no a b hc]
  go_enter Tryz.func185, Tryz.ntmps185
  go_wp2
  go_ret
  exact ⟨rfl, rfl⟩
theorem is_15 (a b : Int) (w : World) : Calls Tryz.prog 155 #[vI vK 15, vI vK a, vI vK b] w fun e w' => e = .returned (.bool (isV 15 a b)) ∧ w' = w := by
  rw [isV_15]
  have ha := uns_wrap a
  have hb := uns_wrap b
  go_enter Tryz.func155, Tryz.ntmps155
  go_wp2
  go_ret
  refine ⟨ret_bool ?_, rfl⟩
  rfl
theorem is_16 (a b : Int) (w : World) : Calls Tryz.prog 155 #[vI vK 16, vI vK a, vI vK b] w fun e w' => e = .returned (.bool (isV 16 a b)) ∧ w' = w := by
  rw [isV_16]
  have ha := uns_wrap a
  have hb := uns_wrap b
  go_enter Tryz.func155, Tryz.ntmps155
  go_wp2
  go_ret
  refine ⟨ret_bool ?_, rfl⟩
  rfl
theorem is_17 (a b : Int) (w : World) : Calls Tryz.prog 155 #[vI vK 17, vI vK a, vI vK b] w fun e w' => e = .returned (.bool (isV 17 a b)) ∧ w' = w := by
  rw [isV_17]
  have ha := uns_wrap a
  have hb := uns_wrap b
  go_enter Tryz.func155, Tryz.ntmps155
  go_wp2
  go_ret
  refine ⟨ret_bool ?_, rfl⟩
  rfl
theorem is_18 (a b : Int) (w : World) : Calls Tryz.prog 155 #[vI vK 18, vI vK a, vI vK b] w fun e w' => e = .returned (.bool (isV 18 a b)) ∧ w' = w := by
  rw [isV_18]
  have ha := uns_wrap a
  have hb := uns_wrap b
  go_enter Tryz.func155, Tryz.ntmps155
  go_wp2
  go_ret
  refine ⟨ret_bool ?_, rfl⟩
  rfl
theorem is_19 (a b : Int) (w : World) : Calls Tryz.prog 155 #[vI vK 19, vI vK a, vI vK b] w fun e w' => e = .returned (.bool (isV 19 a b)) ∧ w' = w := by
  rw [isV_19]
  have ha := uns_wrap a
  have hb := uns_wrap b
  go_enter Tryz.func155, Tryz.ntmps155
  go_wp2
  go_ret
  refine ⟨ret_bool ?_, rfl⟩
  rfl
theorem is_20 (a b : Int) (w : World) : Calls Tryz.prog 155 #[vI vK 20, vI vK a, vI vK b] w fun e w' => e = .returned (.bool (isV 20 a b)) ∧ w' = w := by
  rw [isV_20]
  have ha := uns_wrap a
  have hb := uns_wrap b
  go_enter Tryz.func155, Tryz.ntmps155
  go_wp2
  go_ret
  refine ⟨ret_bool ?_, rfl⟩
  rfl
theorem is_21 (a b : Int) (w : World) : Calls Tryz.prog 155 #[vI vK 21, vI vK a, vI vK b] w fun e w' => e = .returned (.bool (isV 21 a b)) ∧ w' = w := by
  rw [isV_21]
  have ha := uns_wrap a
  have hb := uns_wrap b
  go_enter Tryz.func155, Tryz.ntmps155
  go_wp2
  go_ret
  refine ⟨ret_bool ?_, rfl⟩
  rfl
theorem is_22 (a b : Int) (w : World) : Calls Tryz.prog 155 #[vI vK 22, vI vK a, vI vK b] w fun e w' => e = .returned (.bool (isV 22 a b)) ∧ w' = w := by
  rw [isV_22]
  have ha := uns_wrap a
  have hb := uns_wrap b
  go_enter Tryz.func155, Tryz.ntmps155
  go_wp2
  go_ret
  refine ⟨ret_bool ?_, rfl⟩
  rfl
theorem is_23 (a b : Int) (w : World) : Calls Tryz.prog 155 #[vI vK 23, vI vK a, vI vK b] w fun e w' => e = .returned (.bool (isV 23 a b)) ∧ w' = w := by
  rw [isV_23]
  have ha := uns_wrap a
  have hb := uns_wrap b
  go_enter Tryz.func155, Tryz.ntmps155
  go_wp2
  go_ret
  refine ⟨ret_bool ?_, rfl⟩
  rfl
theorem is_24 (a b : Int) (w : World) : Calls Tryz.prog 155 #[vI vK 24, vI vK a, vI vK b] w fun e w' => e = .returned (.bool (isV 24 a b)) ∧ w' = w := by
  rw [isV_24]
  have ha := uns_wrap a
  have hb := uns_wrap b
  go_enter Tryz.func155, Tryz.ntmps155
  go_wp2
  go_ret
  refine ⟨ret_bool ?_, rfl⟩
  rfl
theorem is_no (c a b : Int) (hc : c < 15 ∨ 24 < c) (w : World) : Calls Tryz.prog 155 #[vI vK c, vI vK a, vI vK b] w fun e w' => e = .returned (.bool (isV c a b)) ∧ w' = w := by
  rw [isV_no a b hc]
  go_enter Tryz.func155, Tryz.ntmps155
  go_wp2
  go_ret
  exact ⟨rfl, rfl⟩
theorem does_any (c a b : Int) (k0 : -9223372036854775808 ≤ b) (k1 : b ≤ 9223372036854775807) (w : World) : Calls Tryz.prog 185 #[vI vK c, vI vK a, vI vK b] w fun e w' => e = .returned (vI vK (doesV c a b)) ∧ w' = w := by
  by_cases hc : c < 1 ∨ 13 < c
  · exact does_no c a b hc w
  · have h : c = 1 ∨ c = 2 ∨ c = 3 ∨ c = 4 ∨ c = 5 ∨ c = 6 ∨ c = 7 ∨ c = 8 ∨ c = 9 ∨ c = 10 ∨ c = 11 ∨ c = 12 ∨ c = 13 := by omega
    rcases h with rfl | rfl | rfl | rfl | rfl | rfl | rfl | rfl | rfl | rfl | rfl | rfl | rfl
    · exact does_1 a b w
    · exact does_2 a b w
    · exact does_3 a b w
    · exact does_4 a b w
    · exact does_5 a b k0 k1 w
    · exact does_6 a b k0 k1 w
    · exact does_7 a b w
    · exact does_8 a b w
    · exact does_9 a b w
    · exact does_10 a b w
    · exact does_11 a b w
    · exact does_12 a b w
    · exact does_13 a b w
theorem is_any (c a b : Int) (w : World) : Calls Tryz.prog 155 #[vI vK c, vI vK a, vI vK b] w fun e w' => e = .returned (.bool (isV c a b)) ∧ w' = w := by
  by_cases hc : c < 15 ∨ 24 < c
  · exact is_no c a b hc w
  · have h : c = 15 ∨ c = 16 ∨ c = 17 ∨ c = 18 ∨ c = 19 ∨ c = 20 ∨ c = 21 ∨ c = 22 ∨ c = 23 ∨ c = 24 := by omega
    rcases h with rfl | rfl | rfl | rfl | rfl | rfl | rfl | rfl | rfl | rfl
    · exact is_15 a b w
    · exact is_16 a b w
    · exact is_17 a b w
    · exact is_18 a b w
    · exact is_19 a b w
    · exact is_20 a b w
    · exact is_21 a b w
    · exact is_22 a b w
    · exact is_23 a b w
    · exact is_24 a b w
theorem fill_any (n : Int) (h0 : -9223372036854775808 ≤ n) (h1 : n ≤ 9223372036854775807) (w : World) : Calls Tryz.prog 219 #[vI vK n] w fun e w' => e = .returned (vI vK (fillV n)) ∧ w' = w := by
  by_cases hn : n ≤ 0
  · have hd : fillV n = 0 := by
      unfold fillV
      rw [show n.toNat = 0 by omega]
      rfl
    rw [hd]
    go_enter Tryz.func219, Tryz.ntmps219
    go_wp2
    go_ret
    exact ⟨rfl, rfl⟩
  · obtain ⟨m, rfl⟩ : ∃ m : Nat, n = (m : Int) := ⟨n.toNat, by omega⟩
    have hl : lenV m ≤ 63 := lenV_le (Nat.lt_of_lt_of_eq (show m < 9223372036854775808 by omega) (by decide))
    go_enter Tryz.func219, Tryz.ntmps219
    go_wp2_with (go_at_call 210; refine (len64 _ _ (by omega)).mono ?_; rintro e w' ⟨rfl, rfl⟩)
    go_ret
    exact ⟨ret_i64 (fill_eq m hl), rfl⟩
structure Val where
  k : Int
  n : Int
  c : Int
def Val.v (x : Val) : Value := .agg #[vI vK x.k, vI vK x.n, vI vK x.c]
def wantF (x : Val) : Int := if x.k = 0 then 8 else if x.k = 1 then 0 else 1
def numF (n : Int) : Val := ⟨1, n, 0⟩
def foundF (n : Int) : Val := if n < 0 ∨ 4 ≤ n then ⟨1, 0, 0⟩ else ⟨4, 0, n⟩
def makesF (code : Int) (a b : Val) : Val × Int :=
  if b.k = 0 ∨ (a.k = 0 ∧ code ≠ 1) then (⟨0, 0, 0⟩, 8)
  else if code = 1 then (b, 0)
  else if b.k = 1 ∧ (a.k = 1 ∨ code = 2 ∨ code = 3) then (⟨a.k, doesV code a.n b.n, a.c⟩, 0)
  else if a.k = 1 ∧ code = 2 then (⟨b.k, doesV code a.n b.n, b.c⟩, 0)
  else (⟨0, 0, 0⟩, 1)
def reachTo (x : Val) (off : Int) : Int := if x.k = 3 then wrap64 (wrap64 (x.n + off) + 16) else wrap64 (x.n + off)
def reachMax (x : Val) : Int := if x.k = 2 then 8 else if x.k = 3 then 16 else 4
def reachF (x : Val) (off : Int) : Int × Int :=
  if x.k = 0 then (0, 8) else if x.k = 1 then (0, 1) else if reachTo x off < 0 ∨ reachMax x ≤ reachTo x off then (0, 2) else (reachTo x off, 0)
theorem zero_box {w w1 : World} {t : TypeId} (h : Below (w.alloc (.cells #[vI vK 0, vI vK 0, vI vK 0] t)).heap.size (w.alloc (.cells #[vI vK 0, vI vK 0, vI vK 0] t)) w1) :
    w1.cell? ⟨w.heap.size, 0, none⟩ = some (vI vK 0) ∧ w1.cell? ⟨w.heap.size, 1, none⟩ = some (vI vK 0) ∧ w1.cell? ⟨w.heap.size, 2, none⟩ = some (vI vK 0) ∧ w1.frozen? ⟨w.heap.size, 0, none⟩ = false ∧ w1.frozen? ⟨w.heap.size, 1, none⟩ = false ∧ w1.frozen? ⟨w.heap.size, 2, none⟩ = false ∧ w.heap.size < w1.heap.size := by
  have e : w1.heap[w.heap.size]? = some (.cells #[vI vK 0, vI vK 0, vI vK 0] t (0, 0)) := by
    rw [h.block w.heap.size (by simp)]
    show (w.heap.push _)[w.heap.size]? = _
    simp
  have hs := h.size
  simp at hs
  exact ⟨by simp [World.cell?, e], by simp [World.cell?, e], by simp [World.cell?, e], by simp [World.frozen?, e], by simp [World.frozen?, e], by simp [World.frozen?, e], by omega⟩
theorem below_zero {w w1 : World} {o : Obj} (h : Below (w.alloc o).heap.size (w.alloc o) w1) : Below w.heap.size w w1 := ((bF _ _).alloc (Nat.le_refl _) _).trans (h.mono (by simp))
theorem mnum_any (n : Int) (w : World) : Calls Tryz.prog 157 #[vI vK n] w fun e w' => e = .returned (numF n).v ∧ Below w.heap.size w w' := by
  go_enter Tryz.func157, Tryz.ntmps157
  go_wp2
  exact bodyPost_ret (v := (numF n).v) (by simp [results, Tryz.results157, go_sem, numF, Val.v]) rfl ⟨rfl, (bF _ _).alloc (Nat.le_refl _) _⟩
theorem want_any (k n c : Int) (w : World) : Calls Tryz.prog 76 #[.agg #[vI vK k, vI vK n, vI vK c]] w fun e w' => e = .returned (vI vK (wantF ⟨k, n, c⟩)) ∧ Below w.heap.size w w' := by
  by_cases h0 : k = 0
  · have x0 : (k == 0) = true := by simpa using h0
    have HV : Hid (wantF ⟨k, n, c⟩ = 8) := if_pos h0
    clear h0
    go_enter Tryz.func76, Tryz.ntmps76
    go_wp2
    go_ret
    exact ⟨by rw [HV.out]; rfl, (bF _ _).alloc (Nat.le_refl _) _⟩
  · have x0 : (k == 0) = false := by simpa using h0
    by_cases h1 : k = 1
    · have x1 : (k == 1) = true := by simpa using h1
      have HV : Hid (wantF ⟨k, n, c⟩ = 0) := by
        show wantF ⟨k, n, c⟩ = 0
        unfold wantF
        rw [if_neg h0, if_pos h1]
      clear h0 h1
      go_enter Tryz.func76, Tryz.ntmps76
      go_wp2
      go_ret
      exact ⟨by rw [HV.out]; rfl, (bF _ _).alloc (Nat.le_refl _) _⟩
    · have x1 : (k == 1) = false := by simpa using h1
      have HV : Hid (wantF ⟨k, n, c⟩ = 1) := by
        show wantF ⟨k, n, c⟩ = 1
        unfold wantF
        rw [if_neg h0, if_neg h1]
      clear h0 h1
      go_enter Tryz.func76, Tryz.ntmps76
      go_wp2
      go_ret
      exact ⟨by rw [HV.out]; rfl, (bF _ _).alloc (Nat.le_refl _) _⟩
theorem found_low (n : Int) (w : World) (x0 : decide (n < 0) = true) : Calls Tryz.prog 158 #[vI vK n] w fun e w' => e = .returned (.agg #[vI vK 1, vI vK 0, vI vK 0]) ∧ Below w.heap.size w w' := by
  go_enter Tryz.func158, Tryz.ntmps158
  go_wp2_with (first
    | (go_at_call 157; refine (mnum_any 0 _).mono ?_; rintro e w1 ⟨rfl, hb1⟩; simp only [Val.v, numF]; obtain ⟨q0, q1, q2, z0, z1, z2, hl⟩ := zero_box hb1)
    | go_in)
  exact bodyPost_ret (v := .agg #[vI vK 1, vI vK 0, vI vK 0]) (by simp [results, Tryz.results158, go_sem, q0, q1, q2]) rfl ⟨rfl, (((below_zero hb1).setCell (Nat.le_refl _) _).setCell (Nat.le_refl _) _).setCell (Nat.le_refl _) _⟩
theorem found_high (n : Int) (w : World) (x0 : decide (n < 0) = false) (x1 : decide (4 ≤ n) = true) : Calls Tryz.prog 158 #[vI vK n] w fun e w' => e = .returned (.agg #[vI vK 1, vI vK 0, vI vK 0]) ∧ Below w.heap.size w w' := by
  go_enter Tryz.func158, Tryz.ntmps158
  go_wp2_with (first
    | (go_at_call 157; refine (mnum_any 0 _).mono ?_; rintro e w1 ⟨rfl, hb1⟩; simp only [Val.v, numF]; obtain ⟨q0, q1, q2, z0, z1, z2, hl⟩ := zero_box hb1)
    | go_in)
  exact bodyPost_ret (v := .agg #[vI vK 1, vI vK 0, vI vK 0]) (by simp [results, Tryz.results158, go_sem, q0, q1, q2]) rfl ⟨rfl, (((below_zero hb1).setCell (Nat.le_refl _) _).setCell (Nat.le_refl _) _).setCell (Nat.le_refl _) _⟩
theorem found_in (n : Int) (w : World) (x0 : decide (n < 0) = false) (x1 : decide (4 ≤ n) = false) : Calls Tryz.prog 158 #[vI vK n] w fun e w' => e = .returned (.agg #[vI vK 4, vI vK 0, vI vK n]) ∧ Below w.heap.size w w' := by
  go_enter Tryz.func158, Tryz.ntmps158
  go_wp2
  exact bodyPost_ret (v := .agg #[vI vK 4, vI vK 0, vI vK n]) (by simp [results, Tryz.results158, go_sem]) rfl ⟨rfl, (bF _ _).alloc (Nat.le_refl _) _⟩
section
variable (code ak an ac bk bn bc : Int) (w : World)
theorem makes_bk0 (x0 : (bk == 0) = true) : Calls Tryz.prog 160 #[vI vK code, .agg #[vI vK ak, vI vK an, vI vK ac], .agg #[vI vK bk, vI vK bn, vI vK bc]] w fun e w' => e = .returned (.tuple #[.agg #[vI vK 0, vI vK 0, vI vK 0], vI vK 8]) ∧ Below w.heap.size w w' := by
  go_enter Tryz.func160, Tryz.ntmps160
  go_wp2
  exact bodyPost_ret (v := .tuple #[.agg #[vI vK 0, vI vK 0, vI vK 0], vI vK 8]) (by simp [results, Tryz.results160, go_sem]) rfl ⟨rfl, ((((bF _ _).alloc (Nat.le_refl _) _).alloc (by simp) _).alloc (by simp; omega) _)⟩
theorem makes_ak0 (x0 : (bk == 0) = false) (x1 : (ak == 0) = true) (x2 : (code != 1) = true) : Calls Tryz.prog 160 #[vI vK code, .agg #[vI vK ak, vI vK an, vI vK ac], .agg #[vI vK bk, vI vK bn, vI vK bc]] w fun e w' => e = .returned (.tuple #[.agg #[vI vK 0, vI vK 0, vI vK 0], vI vK 8]) ∧ Below w.heap.size w w' := by
  go_enter Tryz.func160, Tryz.ntmps160
  go_wp2
  exact bodyPost_ret (v := .tuple #[.agg #[vI vK 0, vI vK 0, vI vK 0], vI vK 8]) (by simp [results, Tryz.results160, go_sem]) rfl ⟨rfl, ((((bF _ _).alloc (Nat.le_refl _) _).alloc (by simp) _).alloc (by simp; omega) _)⟩
theorem makes_mova (x0 : (bk == 0) = false) (x1 : (ak == 0) = true) (x2 : (code == 1) = true) (x3 : (code != 1) = false) : Calls Tryz.prog 160 #[vI vK code, .agg #[vI vK ak, vI vK an, vI vK ac], .agg #[vI vK bk, vI vK bn, vI vK bc]] w fun e w' => e = .returned (.tuple #[.agg #[vI vK bk, vI vK bn, vI vK bc], vI vK 0]) ∧ Below w.heap.size w w' := by
  go_enter Tryz.func160, Tryz.ntmps160
  go_wp2
  exact bodyPost_ret (v := .tuple #[.agg #[vI vK bk, vI vK bn, vI vK bc], vI vK 0]) (by simp [results, Tryz.results160, go_sem]) rfl ⟨rfl, ((((bF _ _).alloc (Nat.le_refl _) _).alloc (by simp) _).alloc (by simp; omega) _)⟩
theorem makes_movb (x0 : (bk == 0) = false) (x1 : (ak == 0) = false) (x2 : (code == 1) = true) : Calls Tryz.prog 160 #[vI vK code, .agg #[vI vK ak, vI vK an, vI vK ac], .agg #[vI vK bk, vI vK bn, vI vK bc]] w fun e w' => e = .returned (.tuple #[.agg #[vI vK bk, vI vK bn, vI vK bc], vI vK 0]) ∧ Below w.heap.size w w' := by
  go_enter Tryz.func160, Tryz.ntmps160
  go_wp2
  exact bodyPost_ret (v := .tuple #[.agg #[vI vK bk, vI vK bn, vI vK bc], vI vK 0]) (by simp [results, Tryz.results160, go_sem]) rfl ⟨rfl, ((((bF _ _).alloc (Nat.le_refl _) _).alloc (by simp) _).alloc (by simp; omega) _)⟩
theorem makes_nums (k0 : -9223372036854775808 ≤ bn) (k1 : bn ≤ 9223372036854775807) (x0 : (bk == 0) = false) (x1 : (ak == 0) = false) (x2 : (code == 1) = false) (x3 : (bk == 1) = true) (x4 : (ak == 1) = true) : Calls Tryz.prog 160 #[vI vK code, .agg #[vI vK ak, vI vK an, vI vK ac], .agg #[vI vK bk, vI vK bn, vI vK bc]] w fun e w' => e = .returned (.tuple #[.agg #[vI vK ak, vI vK (doesV code an bn), vI vK ac], vI vK 0]) ∧ Below w.heap.size w w' := by
  go_enter Tryz.func160, Tryz.ntmps160
  go_wp2_with (first
    | (go_at_call 185; refine (does_any _ _ _ k0 k1 _).mono ?_; rintro e w1 ⟨rfl, rfl⟩)
    | go_in)
  exact bodyPost_ret (v := .tuple #[.agg #[vI vK ak, vI vK (doesV code an bn), vI vK ac], vI vK 0]) (by simp [results, Tryz.results160, go_sem]) rfl ⟨rfl, ((((bF _ _).alloc (Nat.le_refl _) _).alloc (by simp) _).alloc (by simp; omega) _)⟩
theorem makes_padd (k0 : -9223372036854775808 ≤ bn) (k1 : bn ≤ 9223372036854775807) (x0 : (bk == 0) = false) (x1 : (ak == 0) = false) (x2 : (code == 1) = false) (x3 : (bk == 1) = true) (x4 : (ak == 1) = false) (x5 : (code == 2) = true) : Calls Tryz.prog 160 #[vI vK code, .agg #[vI vK ak, vI vK an, vI vK ac], .agg #[vI vK bk, vI vK bn, vI vK bc]] w fun e w' => e = .returned (.tuple #[.agg #[vI vK ak, vI vK (doesV code an bn), vI vK ac], vI vK 0]) ∧ Below w.heap.size w w' := by
  go_enter Tryz.func160, Tryz.ntmps160
  go_wp2_with (first
    | (go_at_call 185; refine (does_any _ _ _ k0 k1 _).mono ?_; rintro e w1 ⟨rfl, rfl⟩)
    | go_in)
  exact bodyPost_ret (v := .tuple #[.agg #[vI vK ak, vI vK (doesV code an bn), vI vK ac], vI vK 0]) (by simp [results, Tryz.results160, go_sem]) rfl ⟨rfl, ((((bF _ _).alloc (Nat.le_refl _) _).alloc (by simp) _).alloc (by simp; omega) _)⟩
theorem makes_psub (k0 : -9223372036854775808 ≤ bn) (k1 : bn ≤ 9223372036854775807) (x0 : (bk == 0) = false) (x1 : (ak == 0) = false) (x2 : (code == 1) = false) (x3 : (bk == 1) = true) (x4 : (ak == 1) = false) (x5 : (code == 2) = false) (x6 : (code == 3) = true) : Calls Tryz.prog 160 #[vI vK code, .agg #[vI vK ak, vI vK an, vI vK ac], .agg #[vI vK bk, vI vK bn, vI vK bc]] w fun e w' => e = .returned (.tuple #[.agg #[vI vK ak, vI vK (doesV code an bn), vI vK ac], vI vK 0]) ∧ Below w.heap.size w w' := by
  go_enter Tryz.func160, Tryz.ntmps160
  go_wp2_with (first
    | (go_at_call 185; refine (does_any _ _ _ k0 k1 _).mono ?_; rintro e w1 ⟨rfl, rfl⟩)
    | go_in)
  exact bodyPost_ret (v := .tuple #[.agg #[vI vK ak, vI vK (doesV code an bn), vI vK ac], vI vK 0]) (by simp [results, Tryz.results160, go_sem]) rfl ⟨rfl, ((((bF _ _).alloc (Nat.le_refl _) _).alloc (by simp) _).alloc (by simp; omega) _)⟩
theorem makes_pno (x0 : (bk == 0) = false) (x1 : (ak == 0) = false) (x2 : (code == 1) = false) (x3 : (bk == 1) = true) (x4 : (ak == 1) = false) (x5 : (code == 2) = false) (x6 : (code == 3) = false) : Calls Tryz.prog 160 #[vI vK code, .agg #[vI vK ak, vI vK an, vI vK ac], .agg #[vI vK bk, vI vK bn, vI vK bc]] w fun e w' => e = .returned (.tuple #[.agg #[vI vK 0, vI vK 0, vI vK 0], vI vK 1]) ∧ Below w.heap.size w w' := by
  go_enter Tryz.func160, Tryz.ntmps160
  go_wp2
  exact bodyPost_ret (v := .tuple #[.agg #[vI vK 0, vI vK 0, vI vK 0], vI vK 1]) (by simp [results, Tryz.results160, go_sem]) rfl ⟨rfl, ((((bF _ _).alloc (Nat.le_refl _) _).alloc (by simp) _).alloc (by simp; omega) _)⟩
theorem makes_nadd (k0 : -9223372036854775808 ≤ bn) (k1 : bn ≤ 9223372036854775807) (x0 : (bk == 0) = false) (x1 : (ak == 0) = false) (x2 : (code == 1) = false) (x3 : (bk == 1) = false) (x4 : (ak == 1) = true) (x5 : (code == 2) = true) : Calls Tryz.prog 160 #[vI vK code, .agg #[vI vK ak, vI vK an, vI vK ac], .agg #[vI vK bk, vI vK bn, vI vK bc]] w fun e w' => e = .returned (.tuple #[.agg #[vI vK bk, vI vK (doesV code an bn), vI vK bc], vI vK 0]) ∧ Below w.heap.size w w' := by
  go_enter Tryz.func160, Tryz.ntmps160
  go_wp2_with (first
    | (go_at_call 185; refine (does_any _ _ _ k0 k1 _).mono ?_; rintro e w1 ⟨rfl, rfl⟩)
    | go_in)
  exact bodyPost_ret (v := .tuple #[.agg #[vI vK bk, vI vK (doesV code an bn), vI vK bc], vI vK 0]) (by simp [results, Tryz.results160, go_sem]) rfl ⟨rfl, ((((bF _ _).alloc (Nat.le_refl _) _).alloc (by simp) _).alloc (by simp; omega) _)⟩
theorem makes_nno (x0 : (bk == 0) = false) (x1 : (ak == 0) = false) (x2 : (code == 1) = false) (x3 : (bk == 1) = false) (x4 : (ak == 1) = true) (x5 : (code == 2) = false) : Calls Tryz.prog 160 #[vI vK code, .agg #[vI vK ak, vI vK an, vI vK ac], .agg #[vI vK bk, vI vK bn, vI vK bc]] w fun e w' => e = .returned (.tuple #[.agg #[vI vK 0, vI vK 0, vI vK 0], vI vK 1]) ∧ Below w.heap.size w w' := by
  go_enter Tryz.func160, Tryz.ntmps160
  go_wp2
  exact bodyPost_ret (v := .tuple #[.agg #[vI vK 0, vI vK 0, vI vK 0], vI vK 1]) (by simp [results, Tryz.results160, go_sem]) rfl ⟨rfl, ((((bF _ _).alloc (Nat.le_refl _) _).alloc (by simp) _).alloc (by simp; omega) _)⟩
theorem makes_two (x0 : (bk == 0) = false) (x1 : (ak == 0) = false) (x2 : (code == 1) = false) (x3 : (bk == 1) = false) (x4 : (ak == 1) = false) : Calls Tryz.prog 160 #[vI vK code, .agg #[vI vK ak, vI vK an, vI vK ac], .agg #[vI vK bk, vI vK bn, vI vK bc]] w fun e w' => e = .returned (.tuple #[.agg #[vI vK 0, vI vK 0, vI vK 0], vI vK 1]) ∧ Below w.heap.size w w' := by
  go_enter Tryz.func160, Tryz.ntmps160
  go_wp2
  exact bodyPost_ret (v := .tuple #[.agg #[vI vK 0, vI vK 0, vI vK 0], vI vK 1]) (by simp [results, Tryz.results160, go_sem]) rfl ⟨rfl, ((((bF _ _).alloc (Nat.le_refl _) _).alloc (by simp) _).alloc (by simp; omega) _)⟩
end
section
variable (k n c off : Int) (w : World)
theorem reach_none (x0 : (k == 0) = true) : Calls Tryz.prog 156 #[.agg #[vI vK k, vI vK n, vI vK c], vI vK off] w fun e w' => e = .returned (.tuple #[vI vK 0, vI vK 8]) ∧ Below w.heap.size w w' := by
  go_enter Tryz.func156, Tryz.ntmps156
  go_wp2
  go_ret2
  exact ⟨rfl, (bF _ _).alloc (Nat.le_refl _) _⟩
theorem reach_num (x0 : (k == 0) = false) (x1 : (k == 1) = true) : Calls Tryz.prog 156 #[.agg #[vI vK k, vI vK n, vI vK c], vI vK off] w fun e w' => e = .returned (.tuple #[vI vK 0, vI vK 1]) ∧ Below w.heap.size w w' := by
  go_enter Tryz.func156, Tryz.ntmps156
  go_wp2
  go_ret2
  exact ⟨rfl, (bF _ _).alloc (Nat.le_refl _) _⟩
theorem reach_told_low (x0 : (k == 0) = false) (x1 : (k == 1) = false) (x2 : (k == 2) = true) (x3 : (decide (wrap64 (n + off) < 0)) = true) : Calls Tryz.prog 156 #[.agg #[vI vK k, vI vK n, vI vK c], vI vK off] w fun e w' => e = .returned (.tuple #[vI vK 0, vI vK 2]) ∧ Below w.heap.size w w' := by
  go_enter Tryz.func156, Tryz.ntmps156
  go_wp2
  go_ret2
  exact ⟨rfl, (bF _ _).alloc (Nat.le_refl _) _⟩
theorem reach_told_high (x0 : (k == 0) = false) (x1 : (k == 1) = false) (x2 : (k == 2) = true) (x3 : (decide (wrap64 (n + off) < 0)) = false) (x4 : (decide (8 ≤ wrap64 (n + off))) = true) : Calls Tryz.prog 156 #[.agg #[vI vK k, vI vK n, vI vK c], vI vK off] w fun e w' => e = .returned (.tuple #[vI vK 0, vI vK 2]) ∧ Below w.heap.size w w' := by
  go_enter Tryz.func156, Tryz.ntmps156
  go_wp2
  go_ret2
  exact ⟨rfl, (bF _ _).alloc (Nat.le_refl _) _⟩
theorem reach_told_in (x0 : (k == 0) = false) (x1 : (k == 1) = false) (x2 : (k == 2) = true) (x3 : (decide (wrap64 (n + off) < 0)) = false) (x4 : (decide (8 ≤ wrap64 (n + off))) = false) : Calls Tryz.prog 156 #[.agg #[vI vK k, vI vK n, vI vK c], vI vK off] w fun e w' => e = .returned (.tuple #[vI vK (wrap64 (n + off)), vI vK 0]) ∧ Below w.heap.size w w' := by
  go_enter Tryz.func156, Tryz.ntmps156
  go_wp2
  go_ret2
  exact ⟨rfl, (bF _ _).alloc (Nat.le_refl _) _⟩
theorem reach_frame_low (x0 : (k == 0) = false) (x1 : (k == 1) = false) (x2 : (k == 2) = false) (x3 : (k == 3) = true) (x4 : (decide (wrap64 (wrap64 (n + off) + 16) < 0)) = true) : Calls Tryz.prog 156 #[.agg #[vI vK k, vI vK n, vI vK c], vI vK off] w fun e w' => e = .returned (.tuple #[vI vK 0, vI vK 2]) ∧ Below w.heap.size w w' := by
  go_enter Tryz.func156, Tryz.ntmps156
  go_wp2
  go_ret2
  exact ⟨rfl, (bF _ _).alloc (Nat.le_refl _) _⟩
theorem reach_frame_high (x0 : (k == 0) = false) (x1 : (k == 1) = false) (x2 : (k == 2) = false) (x3 : (k == 3) = true) (x4 : (decide (wrap64 (wrap64 (n + off) + 16) < 0)) = false) (x5 : (decide (16 ≤ wrap64 (wrap64 (n + off) + 16))) = true) : Calls Tryz.prog 156 #[.agg #[vI vK k, vI vK n, vI vK c], vI vK off] w fun e w' => e = .returned (.tuple #[vI vK 0, vI vK 2]) ∧ Below w.heap.size w w' := by
  go_enter Tryz.func156, Tryz.ntmps156
  go_wp2
  go_ret2
  exact ⟨rfl, (bF _ _).alloc (Nat.le_refl _) _⟩
theorem reach_frame_in (x0 : (k == 0) = false) (x1 : (k == 1) = false) (x2 : (k == 2) = false) (x3 : (k == 3) = true) (x4 : (decide (wrap64 (wrap64 (n + off) + 16) < 0)) = false) (x5 : (decide (16 ≤ wrap64 (wrap64 (n + off) + 16))) = false) : Calls Tryz.prog 156 #[.agg #[vI vK k, vI vK n, vI vK c], vI vK off] w fun e w' => e = .returned (.tuple #[vI vK (wrap64 (wrap64 (n + off) + 16)), vI vK 0]) ∧ Below w.heap.size w w' := by
  go_enter Tryz.func156, Tryz.ntmps156
  go_wp2
  go_ret2
  exact ⟨rfl, (bF _ _).alloc (Nat.le_refl _) _⟩
theorem reach_cell_low (x0 : (k == 0) = false) (x1 : (k == 1) = false) (x2 : (k == 2) = false) (x3 : (k == 3) = false) (x4 : (decide (wrap64 (n + off) < 0)) = true) : Calls Tryz.prog 156 #[.agg #[vI vK k, vI vK n, vI vK c], vI vK off] w fun e w' => e = .returned (.tuple #[vI vK 0, vI vK 2]) ∧ Below w.heap.size w w' := by
  go_enter Tryz.func156, Tryz.ntmps156
  go_wp2
  go_ret2
  exact ⟨rfl, (bF _ _).alloc (Nat.le_refl _) _⟩
theorem reach_cell_high (x0 : (k == 0) = false) (x1 : (k == 1) = false) (x2 : (k == 2) = false) (x3 : (k == 3) = false) (x4 : (decide (wrap64 (n + off) < 0)) = false) (x5 : (decide (4 ≤ wrap64 (n + off))) = true) : Calls Tryz.prog 156 #[.agg #[vI vK k, vI vK n, vI vK c], vI vK off] w fun e w' => e = .returned (.tuple #[vI vK 0, vI vK 2]) ∧ Below w.heap.size w w' := by
  go_enter Tryz.func156, Tryz.ntmps156
  go_wp2
  go_ret2
  exact ⟨rfl, (bF _ _).alloc (Nat.le_refl _) _⟩
theorem reach_cell_in (x0 : (k == 0) = false) (x1 : (k == 1) = false) (x2 : (k == 2) = false) (x3 : (k == 3) = false) (x4 : (decide (wrap64 (n + off) < 0)) = false) (x5 : (decide (4 ≤ wrap64 (n + off))) = false) : Calls Tryz.prog 156 #[.agg #[vI vK k, vI vK n, vI vK c], vI vK off] w fun e w' => e = .returned (.tuple #[vI vK (wrap64 (n + off)), vI vK 0]) ∧ Below w.heap.size w w' := by
  go_enter Tryz.func156, Tryz.ntmps156
  go_wp2
  go_ret2
  exact ⟨rfl, (bF _ _).alloc (Nat.le_refl _) _⟩
end
end Go.Proofs.YtednmkhdehlojaaGreatDoor
namespace Go.Proofs.YtednmkhdehlojaaGreatDoor
open Go.ChangeShapes Go.WideShapes Go.ChangeAt Go.RowKit
structure Mac where
  step : Int
  steps : Int
  reg : Nat → Val
  slot : Nat → Val
  word : Nat → Int
  cel : Nat → Int
  time : Int
  out : Value
def valCell (x : Val) (j : Nat) : Value := if j = 0 then vI vK x.k else if j = 1 then vI vK x.n else vI vK x.c
def Mac.cell (m : Mac) (i : Nat) : Value :=
  if i = 0 then vI vK m.step else if i = 1 then vI vK m.steps
  else if i < 35 then valCell (m.reg ((i - 2) / 3)) ((i - 2) % 3)
  else if i < 83 then valCell (m.slot ((i - 35) / 3)) ((i - 35) % 3)
  else if i < 91 then vI vK (m.word (i - 83))
  else if i < 107 then vI vK (m.cel (i - 91))
  else if i = 107 then vI vK m.time else m.out
def MacAt (w : World) (B : Nat) (m : Mac) : Prop := w.heap[B]? = some (.cells (Array.ofFn (n := 109) fun i => m.cell i.1) 108 (0, 0))
theorem MacAt.lt {w : World} {B : Nat} {m : Mac} (h : MacAt w B m) : B < w.heap.size := (Array.getElem?_eq_some_iff.1 h).1
theorem MacAt.at {w : World} {B : Nat} {m : Mac} (h : MacAt w B m) (i : Nat) (hi : i < 109) : w.cell? ⟨B, i, none⟩ = some (m.cell i) := by
  have h' : w.heap[B]? = some (.cells (Array.ofFn (n := 109) fun i => m.cell i.1) 108 (0, 0)) := h
  simp [World.cell?, h', hi]
theorem MacAt.frozen {w : World} {B : Nat} {m : Mac} (h : MacAt w B m) (i : Nat) : w.frozen? ⟨B, i, none⟩ = false := by
  have h' : w.heap[B]? = some (.cells (Array.ofFn (n := 109) fun i => m.cell i.1) 108 (0, 0)) := h
  simp [World.frozen?, h']
theorem MacAt.later {w w1 : World} {B : Nat} {m : Mac} (h : MacAt w B m) (hb : Below w.heap.size w w1) : MacAt w1 B m := (hb.block B h.lt).trans h
theorem MacAt.set {w : World} {B : Nat} {m m' : Mac} (h : MacAt w B m) (i : Nat) (_ : i < 109) (v : Value) (he : ∀ j, j < 109 → m'.cell j = if j = i then v else m.cell j) : MacAt (w.setCell ⟨B, i, none⟩ v) B m' := by
  have h' : w.heap[B]? = some (.cells (Array.ofFn (n := 109) fun i => m.cell i.1) 108 (0, 0)) := h
  have e : (Array.ofFn (n := 109) fun i => m.cell i.1).setIfInBounds i v = Array.ofFn (n := 109) fun i => m'.cell i.1 := by
    apply Array.ext
    · simp
    · intro j h1 h2
      have h3 : j < 109 := by simpa using h2
      rw [Array.getElem_setIfInBounds (by simpa using h3), Array.getElem_ofFn, Array.getElem_ofFn]
      show (if i = j then v else m.cell j) = m'.cell j
      rw [he j h3]
      by_cases hj : i = j
      · rw [if_pos hj, if_pos hj.symm]
      · rw [if_neg hj, if_neg (fun e => hj e.symm)]
  unfold MacAt
  rw [← e]
  simp [World.setCell, Array.getElem?_modify, h']
theorem Mac.cell_reg (m : Mac) (d : Nat) (hd : d < 11) : m.cell (2 + d * 3) = vI vK (m.reg d).k ∧ m.cell (2 + d * 3 + 1) = vI vK (m.reg d).n ∧ m.cell (2 + d * 3 + 2) = vI vK (m.reg d).c := by
  refine ⟨?_, ?_, ?_⟩
  · unfold Mac.cell
    rw [if_neg (by omega), if_neg (by omega), if_pos (by omega), show (2 + d * 3 - 2) / 3 = d by omega, show (2 + d * 3 - 2) % 3 = 0 by omega]; rfl
  · unfold Mac.cell
    rw [if_neg (by omega), if_neg (by omega), if_pos (by omega), show (2 + d * 3 + 1 - 2) / 3 = d by omega, show (2 + d * 3 + 1 - 2) % 3 = 1 by omega]; rfl
  · unfold Mac.cell
    rw [if_neg (by omega), if_neg (by omega), if_pos (by omega), show (2 + d * 3 + 2 - 2) / 3 = d by omega, show (2 + d * 3 + 2 - 2) % 3 = 2 by omega]; rfl
theorem Mac.cell_slot (m : Mac) (d : Nat) (hd : d < 16) : m.cell (35 + d * 3) = vI vK (m.slot d).k ∧ m.cell (35 + d * 3 + 1) = vI vK (m.slot d).n ∧ m.cell (35 + d * 3 + 2) = vI vK (m.slot d).c := by
  refine ⟨?_, ?_, ?_⟩
  · unfold Mac.cell
    rw [if_neg (by omega), if_neg (by omega), if_neg (by omega), if_pos (by omega), show (35 + d * 3 - 35) / 3 = d by omega, show (35 + d * 3 - 35) % 3 = 0 by omega]; rfl
  · unfold Mac.cell
    rw [if_neg (by omega), if_neg (by omega), if_neg (by omega), if_pos (by omega), show (35 + d * 3 + 1 - 35) / 3 = d by omega, show (35 + d * 3 + 1 - 35) % 3 = 1 by omega]; rfl
  · unfold Mac.cell
    rw [if_neg (by omega), if_neg (by omega), if_neg (by omega), if_pos (by omega), show (35 + d * 3 + 2 - 35) / 3 = d by omega, show (35 + d * 3 + 2 - 35) % 3 = 2 by omega]; rfl
theorem MacAt.reg {w : World} {B d : Nat} {m : Mac} (h : MacAt w B m) (hd : d < 11) : w.cell? ⟨B, 2 + d * 3, none⟩ = some (vI vK (m.reg d).k) ∧ w.cell? ⟨B, 2 + d * 3 + 1, none⟩ = some (vI vK (m.reg d).n) ∧ w.cell? ⟨B, 2 + d * 3 + 2, none⟩ = some (vI vK (m.reg d).c) :=
  ⟨by rw [h.at _ (by omega), (m.cell_reg d hd).1], by rw [h.at _ (by omega), (m.cell_reg d hd).2.1], by rw [h.at _ (by omega), (m.cell_reg d hd).2.2]⟩
def Mac.putReg (m : Mac) (d : Nat) (x : Val) : Mac := { m with reg := fun i => if i = d then x else m.reg i }
theorem Mac.cell_put (m : Mac) (d : Nat) (hd : d < 11) (y : Val) (j : Nat) : (m.putReg d y).cell j = if 2 + d * 3 ≤ j ∧ j < 2 + d * 3 + 3 then valCell y (j - (2 + d * 3)) else m.cell j := by
  by_cases h : 2 + d * 3 ≤ j ∧ j < 2 + d * 3 + 3
  · rw [if_pos h]
    unfold Mac.cell
    rw [if_neg (by omega), if_neg (by omega), if_pos (by omega), show (j - 2) / 3 = d by omega, show (j - 2) % 3 = j - (2 + d * 3) by omega]
    show valCell (if d = d then y else m.reg d) _ = _
    rw [if_pos rfl]
  · rw [if_neg h]
    by_cases h35 : 2 ≤ j ∧ j < 35
    · unfold Mac.cell
      rw [if_neg (show ¬ j = 0 by omega), if_neg (show ¬ j = 1 by omega), if_pos h35.2, if_neg (show ¬ j = 0 by omega), if_neg (show ¬ j = 1 by omega), if_pos h35.2]
      show valCell (if (j - 2) / 3 = d then y else m.reg ((j - 2) / 3)) _ = _
      rw [if_neg (by omega)]
    · by_cases h2 : j < 2
      · rcases (show j = 0 ∨ j = 1 by omega) with rfl | rfl <;> rfl
      · unfold Mac.cell
        rw [if_neg (show ¬ j = 0 by omega), if_neg (show ¬ j = 1 by omega), if_neg (show ¬ j < 35 by omega), if_neg (show ¬ j = 0 by omega), if_neg (show ¬ j = 1 by omega), if_neg (show ¬ j < 35 by omega)]
        rfl
theorem put_part (m : Mac) (d : Nat) (hd : d < 11) (y z : Val) (i : Nat) (hi : i < 3) (h : ∀ j, j < 3 → valCell z j = if j = i then valCell z i else valCell y j) : ∀ j, j < 109 → (m.putReg d z).cell j = if j = 2 + d * 3 + i then valCell z i else (m.putReg d y).cell j := by
  intro j _
  rw [m.cell_put d hd z j, m.cell_put d hd y j]
  by_cases hin : 2 + d * 3 ≤ j ∧ j < 2 + d * 3 + 3
  · rw [if_pos hin, if_pos hin, h _ (by omega)]
    by_cases e : j = 2 + d * 3 + i
    · rw [if_pos e, if_pos (by omega)]
    · rw [if_neg e, if_neg (by omega)]
  · rw [if_neg hin, if_neg hin, if_neg (by omega)]
theorem put_same (m : Mac) (d : Nat) : ∀ j, (m.putReg d (m.reg d)).cell j = m.cell j := by
  intro j
  have e : m.putReg d (m.reg d) = m := by
    unfold Mac.putReg
    have : (fun i => if i = d then m.reg d else m.reg i) = m.reg := by
      funext i
      by_cases h : i = d
      · rw [if_pos h, h]
      · rw [if_neg h]
    rw [this]
  rw [e]
theorem MacAt.putReg {w : World} {B d : Nat} {m : Mac} (h : MacAt w B m) (hd : d < 11) (x : Val) : MacAt (((w.setCell ⟨B, 2 + d * 3, none⟩ (vI vK x.k)).setCell ⟨B, 2 + d * 3 + 1, none⟩ (vI vK x.n)).setCell ⟨B, 2 + d * 3 + 2, none⟩ (vI vK x.c)) B (m.putReg d x) := by
  have h1 : MacAt (w.setCell ⟨B, 2 + d * 3, none⟩ (vI vK x.k)) B (m.putReg d ⟨x.k, (m.reg d).n, (m.reg d).c⟩) := h.set _ (by omega) _ fun j hj => by
    have := put_part m d hd (m.reg d) ⟨x.k, (m.reg d).n, (m.reg d).c⟩ 0 (by omega) (fun j hj => by rcases (show j = 0 ∨ j = 1 ∨ j = 2 by omega) with rfl | rfl | rfl <;> rfl) j hj
    rw [this, put_same m d]; rfl
  have h2 : MacAt ((w.setCell ⟨B, 2 + d * 3, none⟩ (vI vK x.k)).setCell ⟨B, 2 + d * 3 + 1, none⟩ (vI vK x.n)) B (m.putReg d ⟨x.k, x.n, (m.reg d).c⟩) := h1.set _ (by omega) _ fun j hj =>
    put_part m d hd ⟨x.k, (m.reg d).n, (m.reg d).c⟩ ⟨x.k, x.n, (m.reg d).c⟩ 1 (by omega) (fun j hj => by rcases (show j = 0 ∨ j = 1 ∨ j = 2 by omega) with rfl | rfl | rfl <;> rfl) j hj
  exact h2.set _ (by omega) _ fun j hj =>
    put_part m d hd ⟨x.k, x.n, (m.reg d).c⟩ x 2 (by omega) (fun j hj => by rcases (show j = 0 ∨ j = 1 ∨ j = 2 by omega) with rfl | rfl | rfl <;> rfl) j hj
theorem second_reg (B d : Nat) (c a o n : Int) (m : Mac) (hd : d < 11) (w : World) (hM : MacAt w B m) :
    Calls Tryz.prog 154 #[.pointer (some ⟨B, 0, none⟩), .agg #[vI vK c, vI vK a, vI vK d, .bool true, vI vK o, vI vK n]] w fun e w' => e = .returned (m.reg d).v ∧ Below w.heap.size w w' := by
  have hB := hM.lt
  obtain ⟨h0, h1, h2⟩ := hM.reg hd
  go_enter Tryz.func154, Tryz.ntmps154
  go_wp2
  go_region
  all_goals go_wp2
  all_goals exact bodyPost_ret (v := (m.reg d).v) (by simp [results, Tryz.results154, go_sem, Val.v]) rfl ⟨rfl, (((bF _ _).alloc (Nat.le_refl _) _).alloc (by simp) _).drew⟩
theorem second_num (B : Nat) (c a s o n : Int) (w : World) :
    Calls Tryz.prog 154 #[.pointer (some ⟨B, 0, none⟩), .agg #[vI vK c, vI vK a, vI vK s, .bool false, vI vK o, vI vK n]] w fun e w' => e = .returned (numF n).v ∧ Below w.heap.size w w' := by
  go_enter Tryz.func154, Tryz.ntmps154
  go_wp2_with (first
    | (go_at_call 157; refine (mnum_any n _).mono ?_; rintro e w1 ⟨rfl, hb1⟩; simp only [Val.v, numF]; obtain ⟨q0, q1, q2, z0, z1, z2, hl⟩ := zero_box hb1; simp only [World.size_alloc] at q0 q1 q2 z0 z1 z2 hl)
    | go_in)
  exact bodyPost_ret (v := (numF n).v) (by simp [results, Tryz.results154, go_sem, Val.v, numF, q0, q1, q2]) rfl
    ⟨rfl, ((((((bF _ _).alloc (Nat.le_refl _) _).alloc (by simp) _).trans (hb1.mono (by simp; omega))).setCell (by show w.heap.size ≤ w.heap.size + 1; omega) _).setCell (by show w.heap.size ≤ w.heap.size + 1; omega) _).setCell (by show w.heap.size ≤ w.heap.size + 1; omega) _⟩
def Mac.second (m : Mac) (s : Nat) (r : Bool) (n : Int) : Val := if r then m.reg s else numF n
theorem second_any (B s : Nat) (c a o n : Int) (r : Bool) (m : Mac) (hs : s < 11) (w : World) (hM : MacAt w B m) :
    Calls Tryz.prog 154 #[.pointer (some ⟨B, 0, none⟩), .agg #[vI vK c, vI vK a, vI vK s, .bool r, vI vK o, vI vK n]] w fun e w' => e = .returned (m.second s r n).v ∧ Below w.heap.size w w' := by
  cases r with
  | true => exact second_reg B s c a o n m hs w hM
  | false => exact second_num B c a s o n w
theorem makes_any (code : Int) (a b : Val) (k0 : -9223372036854775808 ≤ b.n) (k1 : b.n ≤ 9223372036854775807) (w : World) :
    Calls Tryz.prog 160 #[vI vK code, a.v, b.v] w fun e w' => e = .returned (.tuple #[(makesF code a b).1.v, vI vK (makesF code a b).2]) ∧ Below w.heap.size w w' := by
  obtain ⟨ak, an, ac⟩ := a
  obtain ⟨bk, bn, bc⟩ := b
  unfold makesF Val.v
  by_cases h0 : bk = 0
  · rw [if_pos (Or.inl h0)]; exact makes_bk0 code ak an ac bk bn bc w (by simpa using h0)
  by_cases h1 : ak = 0
  · by_cases h2 : code = 1
    · rw [if_neg (by simp [h0, h2]), if_pos h2]; exact makes_mova code ak an ac bk bn bc w (by simpa using h0) (by simpa using h1) (by simpa using h2) (by simp [h2])
    · rw [if_pos (Or.inr ⟨h1, h2⟩)]; exact makes_ak0 code ak an ac bk bn bc w (by simpa using h0) (by simpa using h1) (by simpa using h2)
  by_cases h2 : code = 1
  · rw [if_neg (by simp [h0, h1]), if_pos h2]; exact makes_movb code ak an ac bk bn bc w (by simpa using h0) (by simpa using h1) (by simpa using h2)
  rw [if_neg (by simp [h0, h1]), if_neg h2]
  by_cases h3 : bk = 1
  · by_cases h4 : ak = 1
    · rw [if_pos ⟨h3, Or.inl h4⟩]; exact makes_nums code ak an ac bk bn bc w k0 k1 (by simpa using h0) (by simpa using h1) (by simpa using h2) (by simpa using h3) (by simpa using h4)
    · by_cases h5 : code = 2
      · rw [if_pos ⟨h3, Or.inr (Or.inl h5)⟩]; exact makes_padd code ak an ac bk bn bc w k0 k1 (by simpa using h0) (by simpa using h1) (by simpa using h2) (by simpa using h3) (by simpa using h4) (by simpa using h5)
      · by_cases h6 : code = 3
        · rw [if_pos ⟨h3, Or.inr (Or.inr h6)⟩]; exact makes_psub code ak an ac bk bn bc w k0 k1 (by simpa using h0) (by simpa using h1) (by simpa using h2) (by simpa using h3) (by simpa using h4) (by simpa using h5) (by simpa using h6)
        · rw [if_neg (by simp [h4, h5, h6]), if_neg (by simp [h4])]; exact makes_pno code ak an ac bk bn bc w (by simpa using h0) (by simpa using h1) (by simpa using h2) (by simpa using h3) (by simpa using h4) (by simpa using h5) (by simpa using h6)
  · rw [if_neg (by simp [h3])]
    by_cases h4 : ak = 1
    · by_cases h5 : code = 2
      · rw [if_pos ⟨h4, h5⟩]; exact makes_nadd code ak an ac bk bn bc w k0 k1 (by simpa using h0) (by simpa using h1) (by simpa using h2) (by simpa using h3) (by simpa using h4) (by simpa using h5)
      · rw [if_neg (by simp [h5])]; exact makes_nno code ak an ac bk bn bc w (by simpa using h0) (by simpa using h1) (by simpa using h2) (by simpa using h3) (by simpa using h4) (by simpa using h5)
    · rw [if_neg (by simp [h4])]; exact makes_two code ak an ac bk bn bc w (by simpa using h0) (by simpa using h1) (by simpa using h2) (by simpa using h3) (by simpa using h4)
theorem reach_any (x : Val) (off : Int) (w : World) :
    Calls Tryz.prog 156 #[x.v, vI vK off] w fun e w' => e = .returned (.tuple #[vI vK (reachF x off).1, vI vK (reachF x off).2]) ∧ Below w.heap.size w w' := by
  obtain ⟨k, n, c⟩ := x
  unfold reachF Val.v
  by_cases h0 : k = 0
  · rw [if_pos h0]; exact reach_none k n c off w (by simpa using h0)
  by_cases h1 : k = 1
  · rw [if_neg h0, if_pos h1]; exact reach_num k n c off w (by simpa using h0) (by simpa using h1)
  rw [if_neg h0, if_neg h1]
  by_cases h2 : k = 2
  · have e1 : reachTo ⟨k, n, c⟩ off = wrap64 (n + off) := if_neg (by show ¬ k = 3; omega)
    have e2 : reachMax ⟨k, n, c⟩ = 8 := if_pos h2
    rw [e1, e2]
    by_cases l : wrap64 (n + off) < 0
    · rw [if_pos (Or.inl l)]; exact reach_told_low k n c off w (by simpa using h0) (by simpa using h1) (by simpa using h2) (by simpa using l)
    · by_cases g : 8 ≤ wrap64 (n + off)
      · rw [if_pos (Or.inr g)]; exact reach_told_high k n c off w (by simpa using h0) (by simpa using h1) (by simpa using h2) (by simpa using l) (by simpa using g)
      · rw [if_neg (by omega)]; exact reach_told_in k n c off w (by simpa using h0) (by simpa using h1) (by simpa using h2) (by simpa using l) (by simpa using g)
  by_cases h3 : k = 3
  · have e1 : reachTo ⟨k, n, c⟩ off = wrap64 (wrap64 (n + off) + 16) := if_pos h3
    have e2 : reachMax ⟨k, n, c⟩ = 16 := by unfold reachMax; rw [if_neg h2, if_pos h3]
    rw [e1, e2]
    by_cases l : wrap64 (wrap64 (n + off) + 16) < 0
    · rw [if_pos (Or.inl l)]; exact reach_frame_low k n c off w (by simpa using h0) (by simpa using h1) (by simpa using h2) (by simpa using h3) (by simpa using l)
    · by_cases g : 16 ≤ wrap64 (wrap64 (n + off) + 16)
      · rw [if_pos (Or.inr g)]; exact reach_frame_high k n c off w (by simpa using h0) (by simpa using h1) (by simpa using h2) (by simpa using h3) (by simpa using l) (by simpa using g)
      · rw [if_neg (by omega)]; exact reach_frame_in k n c off w (by simpa using h0) (by simpa using h1) (by simpa using h2) (by simpa using h3) (by simpa using l) (by simpa using g)
  have e1 : reachTo ⟨k, n, c⟩ off = wrap64 (n + off) := if_neg h3
  have e2 : reachMax ⟨k, n, c⟩ = 4 := by unfold reachMax; rw [if_neg h2, if_neg h3]
  rw [e1, e2]
  by_cases l : wrap64 (n + off) < 0
  · rw [if_pos (Or.inl l)]; exact reach_cell_low k n c off w (by simpa using h0) (by simpa using h1) (by simpa using h2) (by simpa using h3) (by simpa using l)
  · by_cases g : 4 ≤ wrap64 (n + off)
    · rw [if_pos (Or.inr g)]; exact reach_cell_high k n c off w (by simpa using h0) (by simpa using h1) (by simpa using h2) (by simpa using h3) (by simpa using l) (by simpa using g)
    · rw [if_neg (by omega)]; exact reach_cell_in k n c off w (by simpa using h0) (by simpa using h1) (by simpa using h2) (by simpa using h3) (by simpa using l) (by simpa using g)
theorem found_any (n : Int) (w : World) : Calls Tryz.prog 158 #[vI vK n] w fun e w' => e = .returned (foundF n).v ∧ Below w.heap.size w w' := by
  unfold foundF
  by_cases l : n < 0
  · rw [if_pos (Or.inl l)]; exact found_low n w (by simpa using l)
  · by_cases g : 4 ≤ n
    · rw [if_pos (Or.inr g)]; exact found_high n w (by simpa using l) (by simpa using g)
    · rw [if_neg (by omega)]; exact found_in n w (by simpa using l) (by simpa using g)
abbrev Kept (B : Nat) (w w' : World) : Prop := w.grownBy w' (some B)
theorem kept_below {w w1 : World} (hb : Below w.heap.size w w1) (B : Nat) : Kept B w w1 := ⟨hb.os, hb.tape, hb.output, hb.size, fun k hk _ => hb.block k hk⟩
theorem kept_set {w w1 : World} {B : Nat} (h : Kept B w w1) (i : Nat) (v : Value) : Kept B w (w1.setCell ⟨B, i, none⟩ v) :=
  ⟨h.os, h.tape, h.output, by show w.heap.size ≤ (w1.heap.modify B _).size; rw [Array.size_modify]; exact h.size, fun k hk hne => (Below.heap_setCell w1 ⟨B, i, none⟩ v k (fun e => hne (by rw [e]))).trans (h.block k hk hne)⟩
theorem kept_drew {w w1 : World} {B : Nat} (h : Kept B w w1) : Kept B w w1.drew := ⟨h.os, h.tape, h.output, h.size, h.block⟩
theorem kept_trans {w w1 w2 : World} {B : Nat} (h : Kept B w w1) (k : Kept B w1 w2) : Kept B w w2 :=
  ⟨k.os.trans h.os, k.tape.trans h.tape, k.output.trans h.output, Nat.le_trans h.size k.size, fun i hi hne => (k.block i (Nat.lt_of_lt_of_le hi h.size) hne).trans (h.block i hi hne)⟩
theorem later_box {W w1 : World} (hb : Below W.heap.size W w1) (b : Nat) : b < W.heap.size → (∀ o, w1.cell? ⟨b, o, none⟩ = W.cell? ⟨b, o, none⟩) ∧ (∀ o, w1.frozen? ⟨b, o, none⟩ = W.frozen? ⟨b, o, none⟩) ∧ b < w1.heap.size := fun h =>
  ⟨fun o => hb.cell (p := ⟨b, o, none⟩) h, fun o => by
    have e := hb.block b h
    unfold World.frozen?
    rw [e], Nat.lt_of_lt_of_le h hb.size⟩
theorem drew_size (w : World) : w.drew.heap.size = w.heap.size := rfl
theorem drewN_size (w : World) (k : Nat) : (w.drewN k).heap.size = w.heap.size := rfl
theorem setCell_size (w : World) (a : Addr) (v : Value) : (w.setCell a v).heap.size = w.heap.size := by simp [World.setCell]
attribute [local simp] drew_size drewN_size setCell_size
structure Frm (S B : Nat) (c d s : Int) (r : Bool) (o n : Int) (m : Mac) (w : World) : Prop where
  box : w.heap[S]? = some (.cells #[vI vK c, vI vK d, vI vK s, .bool r, vI vK o, vI vK n] 49 (0, 0))
  mac : MacAt w B m
theorem Frm.ltS {S B : Nat} {c d s o n : Int} {r : Bool} {m : Mac} {w : World} (h : Frm S B c d s r o n m w) : S < w.heap.size := (Array.getElem?_eq_some_iff.1 h.box).1
theorem Frm.later {S B : Nat} {c d s o n : Int} {r : Bool} {m : Mac} {w w1 : World} (h : Frm S B c d s r o n m w) (hb : Below w.heap.size w w1) : Frm S B c d s r o n m w1 := ⟨(hb.block S h.ltS).trans h.box, h.mac.later hb⟩
theorem Frm.alloc {S B : Nat} {c d s o n : Int} {r : Bool} {m : Mac} {w : World} (h : Frm S B c d s r o n m w) (x : Obj) : Frm S B c d s r o n m (w.alloc x) := h.later ((bF _ _).alloc (Nat.le_refl _) _)
theorem Frm.drew {S B : Nat} {c d s o n : Int} {r : Bool} {m : Mac} {w : World} (h : Frm S B c d s r o n m w) : Frm S B c d s r o n m w.drew := ⟨h.box, h.mac⟩
theorem Frm.drewN {S B : Nat} {c d s o n : Int} {r : Bool} {m : Mac} {w : World} (h : Frm S B c d s r o n m w) (k : Nat) : Frm S B c d s r o n m (w.drewN k) := ⟨h.box, h.mac⟩
theorem Frm.set {S B : Nat} {c d s o n : Int} {r : Bool} {m : Mac} {w : World} (h : Frm S B c d s r o n m w) (a : Addr) (v : Value) (h1 : S ≠ a.block) (h2 : B ≠ a.block) : Frm S B c d s r o n m (w.setCell a v) :=
  ⟨(Below.heap_setCell w a v S h1).trans h.box, (Below.heap_setCell w a v B h2).trans h.mac⟩
theorem Frm.cells {S B : Nat} {c d s o n : Int} {r : Bool} {m : Mac} {w : World} (h : Frm S B c d s r o n m w) : w.cell? ⟨S, 0, none⟩ = some (vI vK c) ∧ w.cell? ⟨S, 1, none⟩ = some (vI vK d) ∧ w.cell? ⟨S, 2, none⟩ = some (vI vK s) ∧ w.cell? ⟨S, 3, none⟩ = some (.bool r) ∧ w.cell? ⟨S, 4, none⟩ = some (vI vK o) ∧ w.cell? ⟨S, 5, none⟩ = some (vI vK n) := by
  have e := h.box
  exact ⟨by simp [World.cell?, e], by simp [World.cell?, e], by simp [World.cell?, e], by simp [World.cell?, e], by simp [World.cell?, e], by simp [World.cell?, e]⟩
theorem Frm.start {B : Nat} {c d s o n : Int} {r : Bool} {m : Mac} {w : World} (h : MacAt w B m) : Frm w.heap.size B c d s r o n m (w.alloc (.cells #[vI vK c, vI vK d, vI vK s, .bool r, vI vK o, vI vK n] 49)) :=
  ⟨by show (w.heap.push _)[w.heap.size]? = _; simp, h.later ((bF _ _).alloc (Nat.le_refl _) _)⟩
theorem change_any (B d s : Nat) (c o n : Int) (r : Bool) (m : Mac) (hd : d < 11) (hs : s < 11) (k0 : -9223372036854775808 ≤ (m.second s r n).n) (k1 : (m.second s r n).n ≤ 9223372036854775807) (mk mn mc E : Int) (HE : Hid (makesF c (m.reg d) (m.second s r n) = (⟨mk, mn, mc⟩, E))) (w : World) (hM : MacAt w B m) :
    Calls Tryz.prog 121 #[.pointer (some ⟨B, 0, none⟩), .agg #[vI vK c, vI vK d, vI vK s, .bool r, vI vK o, vI vK n]] w fun e w' =>
      e = .returned (vI vK E) ∧ Kept B w w' ∧ MacAt w' B (m.putReg d ⟨mk, mn, mc⟩) := by
  have hB := hM.lt
  have hF0 : Frm w.heap.size B c d s r o n m _ := Frm.start hM
  obtain ⟨p0, p1, p2, p3, p4, p5⟩ := hF0.cells
  obtain ⟨h0, h1, h2⟩ := hF0.mac.reg hd
  have hd0 : (0 : Int) ≤ (d : Int) := by omega
  have hd1 : (d : Int) < 11 := by omega
  go_enter Tryz.func121, Tryz.ntmps121
  go_wp2_with fail
  go_cut [5, 6] (fun s5 s6 wx => ∃ L : Nat, s5 = .pointer (some ⟨L, 0, none⟩) ∧ s6 = vI vK E ∧ Below w.heap.size w wx ∧ Frm w.heap.size B c d s r o n m wx ∧ L < wx.heap.size ∧ wx.cell? ⟨L, 0, none⟩ = some (vI vK mk) ∧ wx.cell? ⟨L, 1, none⟩ = some (vI vK mn) ∧ wx.cell? ⟨L, 2, none⟩ = some (vI vK mc))
  case first =>
    go_region_held3 (fun w' => w'.cell? ⟨w.heap.size, 0, none⟩ = some (vI vK c) ∧ w'.cell? ⟨w.heap.size, 1, none⟩ = some (vI vK d) ∧ w'.cell? ⟨w.heap.size, 2, none⟩ = some (vI vK s) ∧ w'.cell? ⟨w.heap.size, 3, none⟩ = some (.bool r) ∧ w'.cell? ⟨w.heap.size, 4, none⟩ = some (vI vK o) ∧ w'.cell? ⟨w.heap.size, 5, none⟩ = some (vI vK n) ∧ w'.cell? ⟨B, 2 + d * 3, none⟩ = some (vI vK (m.reg d).k) ∧ w'.cell? ⟨B, 2 + d * 3 + 1, none⟩ = some (vI vK (m.reg d).n) ∧ w'.cell? ⟨B, 2 + d * 3 + 2, none⟩ = some (vI vK (m.reg d).c)) (first | (simp [go_sem]; done) | (simp [go_sem, *]; done) | go_keep) (first
      | (go_at_call 154; go_must (refine (second_any B s c d o n r m hs _ (Frm.mac (S := w.heap.size) (c := c) (d := d) (s := s) (r := r) (o := o) (n := n) (by repeat' first | exact hF0 | exact hF1 | exact hF2 | refine Frm.alloc ?_ _ | refine Frm.drew ?_ | refine Frm.drewN ?_ _))).mono ?_; rintro e w1 ⟨rfl, hb1⟩; have hF1 : Frm w.heap.size B c d s r o n m w1 := Frm.later (by repeat' first | exact hF0 | exact hF1 | exact hF2 | refine Frm.alloc ?_ _ | refine Frm.drew ?_ | refine Frm.drewN ?_ _) hb1; have hbw1 : Below w.heap.size w w1 := (by ((refine Below.trans ?_ (hb1.mono ?_)) <;> repeat' first | exact bF _ _ | exact hbw1 | exact hbw2 | refine bA ?_ ?_ _ | refine bS ?_ ?_ _ | refine bD ?_ | refine below_drewN ?_ _ | (simp; done) | (simp; omega) | omega)); obtain ⟨v0, v1, v2, v3, v4, v5⟩ := hF1.cells; obtain ⟨i0, i1, i2⟩ := hF1.mac.reg hd; have hS1 := hF1.ltS; have hB1 := hF1.mac.lt; have v6 := later_box hb1 (w.heap.size + 1); (try simp [go_sem] at v6)))
      | (go_at_call 160; go_must (refine (makes_any c (m.reg d) (m.second s r n) k0 k1 _).mono ?_; rintro e w2 ⟨rfl, hb2⟩; rw [HE.out]; simp only [Val.v]; have hF2 : Frm w.heap.size B c d s r o n m w2 := Frm.later (by repeat' first | exact hF0 | exact hF1 | exact hF2 | refine Frm.alloc ?_ _ | refine Frm.drew ?_ | refine Frm.drewN ?_ _) hb2; have hbw2 : Below w.heap.size w w2 := (by ((refine Below.trans ?_ (hb2.mono ?_)) <;> repeat' first | exact bF _ _ | exact hbw1 | exact hbw2 | refine bA ?_ ?_ _ | refine bS ?_ ?_ _ | refine bD ?_ | refine below_drewN ?_ _ | (simp; done) | (simp; omega) | omega)); obtain ⟨v0, v1, v2, v3, v4, v5⟩ := hF2.cells; obtain ⟨i0, i1, i2⟩ := hF2.mac.reg hd; have hS2 := hF2.ltS; have hB2 := hF2.mac.lt; have v7 := later_box hb2 w1.heap.size; have v8 := later_box hb2 (w.heap.size + 1); (try simp [go_sem] at v7); (try simp [go_sem, *] at v8))))
    all_goals (go_wp2_with fail; go_meet)
    all_goals refine ⟨_, rfl, rfl, by repeat' first | exact bF _ _ | exact hbw1 | exact hbw2 | refine bA ?_ ?_ _ | refine bS ?_ ?_ _ | refine bD ?_ | refine below_drewN ?_ _ | (simp; done) | (simp; omega) | omega, by repeat' first | exact hF2 | refine Frm.alloc ?_ _ | refine Frm.drew ?_ | refine Frm.drewN ?_ _ | refine Frm.set ?_ _ _ ?_ ?_ | (intro hh; simp at hh; done) | (intro hh; simp at hh; omega), ?_, ?_, ?_, ?_⟩
    all_goals first | (simp; done) | (simp; omega) | (simp [go_sem, *]; done) | skip
  case rest =>
    obtain ⟨L, rfl, rfl, hbw, hFx, hL, l0, l1, l2⟩ := hcut
    obtain ⟨v0, v1, v2, v3, v4, v5⟩ := hFx.cells
    obtain ⟨i0, i1, i2⟩ := hFx.mac.reg hd
    have hSx := hFx.ltS
    have hBx := hFx.mac.lt
    have f0 := hFx.mac.frozen (2 + d * 3)
    have f1 := hFx.mac.frozen (2 + d * 3 + 1)
    have f2 := hFx.mac.frozen (2 + d * 3 + 2)
    have HK := kept_below hbw B
    go_wp2_with fail
    go_region
    all_goals go_wp2
    all_goals go_ret
    all_goals exact ⟨rfl, by repeat' first | exact HK | refine kept_set ?_ _ _ | refine kept_drew ?_, (hFx.mac.putReg hd ⟨mk, mn, mc⟩ :)⟩
end Go.Proofs.YtednmkhdehlojaaGreatDoor
namespace Go.Proofs.YtednmkhdehlojaaGreatDoor
open Go.RowKit

def fits (n : Int) : Bool := decide (-9223372036854775808 ≤ n) && decide (n ≤ 9223372036854775807)
theorem fits_iff (n : Int) : fits n = true ↔ -9223372036854775808 ≤ n ∧ n ≤ 9223372036854775807 := by simp [fits]
def fit2 (x y : Int) : Int × Int := if fits x && fits y then (x, y) else (-9223372036854775808, 9223372036854775807)
theorem fit2_yes {x y : Int} (h : (fits x && fits y) = true) : fit2 x y = (x, y) := by unfold fit2; rw [if_pos h]
theorem fit2_no {x y : Int} (h : (fits x && fits y) = false) : fit2 x y = (-9223372036854775808, 9223372036854775807) := by unfold fit2; rw [h]; rfl
theorem plus_fits {a b : Int} (h0 : -9223372036854775808 ≤ a) (h1 : a ≤ 9223372036854775807) (h2 : -9223372036854775808 ≤ b) (h3 : b ≤ 9223372036854775807) :
    (decide (a ≤ wrap64 (a + b)) == decide (0 ≤ b)) = fits (a + b) := by
  rw [Bool.eq_iff_iff, fits_iff, beq_iff_eq, Bool.eq_iff_iff, decide_eq_true_eq, decide_eq_true_eq]
  unfold wrap64
  omega
theorem minus_fits {a b : Int} (h0 : -9223372036854775808 ≤ a) (h1 : a ≤ 9223372036854775807) (h2 : -9223372036854775808 ≤ b) (h3 : b ≤ 9223372036854775807) :
    (decide (wrap64 (a - b) ≤ a) == decide (0 ≤ b)) = fits (a - b) := by
  rw [Bool.eq_iff_iff, fits_iff, beq_iff_eq, Bool.eq_iff_iff, decide_eq_true_eq, decide_eq_true_eq]
  unfold wrap64
  omega
theorem fit2_1 (u v : Int) : (if fits u && fits v then wrap64 u else -9223372036854775808) = (fit2 u v).1 := by
  cases h : fits u && fits v
  · rw [fit2_no h]; rfl
  · rw [fit2_yes h]
    simp only [Bool.and_eq_true, fits_iff] at h
    exact wrap64_in h.1.1 h.1.2
theorem fit2_2 (u v : Int) : (if fits u && fits v then wrap64 v else 9223372036854775807) = (fit2 u v).2 := by
  cases h : fits u && fits v
  · rw [fit2_no h]; rfl
  · rw [fit2_yes h]
    simp only [Bool.and_eq_true, fits_iff] at h
    exact wrap64_in h.2.1 h.2.2
theorem back_fits {a : Int} {k : Nat} (hk : k < 64) : (wrap64 (a * 2 ^ k) / 2 ^ k == a) = fits (a * 2 ^ k) := by
  have hp : (0 : Int) < 2 ^ k := Int.pow_pos (by decide)
  have hd : ∃ q : Int, wrap64 (a * 2 ^ k) = q * 2 ^ k := by
    have e : wrap64 (a * 2 ^ k) = a * 2 ^ k - 18446744073709551616 * ((a * 2 ^ k + 9223372036854775808) / 18446744073709551616) := by unfold wrap64; omega
    have e2 : (18446744073709551616 : Int) = 2 ^ (64 - k) * 2 ^ k := by
      rw [← Int.pow_add, show 64 - k + k = 64 by omega]; rfl
    refine ⟨a - 2 ^ (64 - k) * ((a * 2 ^ k + 9223372036854775808) / 18446744073709551616), ?_⟩
    rw [e, Int.sub_mul, Int.mul_right_comm, ← e2]
  obtain ⟨q, hq⟩ := hd
  have hb := wrap64_bd (a * 2 ^ k)
  rw [Bool.eq_iff_iff, beq_iff_eq, fits_iff]
  constructor
  · intro h
    rw [hq, Int.mul_ediv_cancel _ (by omega)] at h
    rw [hq, h] at hb
    exact hb
  · intro h
    rw [wrap64_in h.1 h.2, Int.mul_ediv_cancel _ (by omega)]

def smallB (n : Int) : Bool := decide (-2147483648 ≤ n) && decide (n ≤ 2147483648)
theorem small_iff (n : Int) : smallB n = true ↔ -2147483648 ≤ n ∧ n ≤ 2147483648 := by simp [smallB]
def mulLo (al ah bl bh : Int) : Int := min (min (min (al * bl) (al * bh)) (ah * bl)) (ah * bh)
def mulHi (al ah bl bh : Int) : Int := max (max (max (al * bl) (al * bh)) (ah * bl)) (ah * bh)
def bdV (c al ah bl bh : Int) : Int × Int :=
  if c = 1 then (bl, bh)
  else if c = 2 then fit2 (al + bl) (ah + bh)
  else if c = 3 then fit2 (al - bh) (ah - bl)
  else if c = 4 then (if smallB al && smallB ah && smallB bl && smallB bh then (mulLo al ah bl bh, mulHi al ah bl bh) else (-9223372036854775808, 9223372036854775807))
  else if c = 5 then (if 0 ≤ al ∧ 0 ≤ bl then (if 0 < bl then (al / bh, ah / bl) else (0, ah)) else (-9223372036854775808, 9223372036854775807))
  else if c = 6 then (if 0 ≤ al ∧ 0 ≤ bl then (if 0 < bl then (0, min ah (bh - 1)) else (0, ah)) else (-9223372036854775808, 9223372036854775807))
  else if c = 7 then (if 0 ≤ al then (if 0 ≤ bl then (0, min ah bh) else (0, ah)) else if 0 ≤ bl then (0, bh) else (-9223372036854775808, 9223372036854775807))
  else if c = 8 then (if 0 ≤ al ∧ 0 ≤ bl then (max al bl, fillV (max ah bh)) else (-9223372036854775808, 9223372036854775807))
  else if c = 9 then (if 0 ≤ al ∧ 0 ≤ bl then (0, fillV (max ah bh)) else (-9223372036854775808, 9223372036854775807))
  else if c = 10 then (if bl = bh then fit2 (al * 2 ^ sixBits bl) (ah * 2 ^ sixBits bl) else (-9223372036854775808, 9223372036854775807))
  else if c = 11 then (if bl = bh then (if sixBits bl = 0 then (al, ah) else if 0 ≤ al then (al / 2 ^ sixBits bl, ah / 2 ^ sixBits bl) else (0, 2 ^ (64 - sixBits bl) - 1)) else if 0 ≤ al then (0, ah) else (-9223372036854775808, 9223372036854775807))
  else if c = 12 then (if bl = bh then (al / 2 ^ sixBits bl, ah / 2 ^ sixBits bl) else if 0 ≤ al then (0, ah) else if ah < 0 then (al, -1) else (al, ah))
  else if c = 13 then fit2 (-ah) (-al)
  else (-9223372036854775808, 9223372036854775807)
theorem bdV_1 (al ah bl bh : Int) : bdV 1 al ah bl bh = (bl, bh) := by simp only [bdV, reduceIte, Int.reduceEq]
theorem bdV_2 (al ah bl bh : Int) : bdV 2 al ah bl bh = fit2 (al + bl) (ah + bh) := by simp only [bdV, reduceIte, Int.reduceEq]
theorem bdV_3 (al ah bl bh : Int) : bdV 3 al ah bl bh = fit2 (al - bh) (ah - bl) := by simp only [bdV, reduceIte, Int.reduceEq]
theorem bdV_4 (al ah bl bh : Int) : bdV 4 al ah bl bh = (if smallB al && smallB ah && smallB bl && smallB bh then (mulLo al ah bl bh, mulHi al ah bl bh) else (-9223372036854775808, 9223372036854775807)) := by simp only [bdV, reduceIte, Int.reduceEq]
theorem bdV_5 (al ah bl bh : Int) : bdV 5 al ah bl bh = (if 0 ≤ al ∧ 0 ≤ bl then (if 0 < bl then (al / bh, ah / bl) else (0, ah)) else (-9223372036854775808, 9223372036854775807)) := by simp only [bdV, reduceIte, Int.reduceEq]
theorem bdV_6 (al ah bl bh : Int) : bdV 6 al ah bl bh = (if 0 ≤ al ∧ 0 ≤ bl then (if 0 < bl then (0, min ah (bh - 1)) else (0, ah)) else (-9223372036854775808, 9223372036854775807)) := by simp only [bdV, reduceIte, Int.reduceEq]
theorem bdV_7 (al ah bl bh : Int) : bdV 7 al ah bl bh = (if 0 ≤ al then (if 0 ≤ bl then (0, min ah bh) else (0, ah)) else if 0 ≤ bl then (0, bh) else (-9223372036854775808, 9223372036854775807)) := by simp only [bdV, reduceIte, Int.reduceEq]
theorem bdV_8 (al ah bl bh : Int) : bdV 8 al ah bl bh = (if 0 ≤ al ∧ 0 ≤ bl then (max al bl, fillV (max ah bh)) else (-9223372036854775808, 9223372036854775807)) := by simp only [bdV, reduceIte, Int.reduceEq]
theorem bdV_9 (al ah bl bh : Int) : bdV 9 al ah bl bh = (if 0 ≤ al ∧ 0 ≤ bl then (0, fillV (max ah bh)) else (-9223372036854775808, 9223372036854775807)) := by simp only [bdV, reduceIte, Int.reduceEq]
theorem bdV_10 (al ah bl bh : Int) : bdV 10 al ah bl bh = (if bl = bh then fit2 (al * 2 ^ sixBits bl) (ah * 2 ^ sixBits bl) else (-9223372036854775808, 9223372036854775807)) := by simp only [bdV, reduceIte, Int.reduceEq]
theorem bdV_11 (al ah bl bh : Int) : bdV 11 al ah bl bh = (if bl = bh then (if sixBits bl = 0 then (al, ah) else if 0 ≤ al then (al / 2 ^ sixBits bl, ah / 2 ^ sixBits bl) else (0, 2 ^ (64 - sixBits bl) - 1)) else if 0 ≤ al then (0, ah) else (-9223372036854775808, 9223372036854775807)) := by simp only [bdV, reduceIte, Int.reduceEq]
theorem bdV_12 (al ah bl bh : Int) : bdV 12 al ah bl bh = (if bl = bh then (al / 2 ^ sixBits bl, ah / 2 ^ sixBits bl) else if 0 ≤ al then (0, ah) else if ah < 0 then (al, -1) else (al, ah)) := by simp only [bdV, reduceIte, Int.reduceEq]
theorem bdV_13 (al ah bl bh : Int) : bdV 13 al ah bl bh = fit2 (-ah) (-al) := by simp only [bdV, reduceIte, Int.reduceEq]
theorem bdV_no {c : Int} (al ah bl bh : Int) (h : c < 1 ∨ 13 < c) : bdV c al ah bl bh = (-9223372036854775808, 9223372036854775807) := by
  have e : ∀ k : Int, 1 ≤ k → k ≤ 13 → c ≠ k := fun k h1 h2 => by omega
  unfold bdV
  rw [if_neg (e 1 (by decide) (by decide)), if_neg (e 2 (by decide) (by decide)), if_neg (e 3 (by decide) (by decide)), if_neg (e 4 (by decide) (by decide)), if_neg (e 5 (by decide) (by decide)), if_neg (e 6 (by decide) (by decide)), if_neg (e 7 (by decide) (by decide)), if_neg (e 8 (by decide) (by decide)), if_neg (e 9 (by decide) (by decide)), if_neg (e 10 (by decide) (by decide)), if_neg (e 11 (by decide) (by decide)), if_neg (e 12 (by decide) (by decide)), if_neg (e 13 (by decide) (by decide))]

theorem uns_pos {a : Int} (h0 : 0 ≤ a) (h1 : a ≤ 9223372036854775807) : (uns a : Int) = a := by rw [uns_eq]; omega
theorem div_ends {a b : Int} (h0 : 0 ≤ a) (h1 : a ≤ 9223372036854775807) (h2 : 0 < b) (h3 : b ≤ 9223372036854775807) : doesV 5 a b = a / b := by
  rw [doesV_5 a (by omega), Int.natCast_ediv, uns_pos h0 h1, uns_pos (by omega) h3]
  have l := Int.ediv_nonneg h0 (Int.le_of_lt h2)
  have g := Int.ediv_le_self b h0
  exact wrap64_in (by omega) (by omega)
theorem rsh_ends {a b : Int} (h0 : 0 ≤ a) (h1 : a ≤ 9223372036854775807) : doesV 11 a b = a / 2 ^ sixBits b := by
  have hp : (0 : Int) < 2 ^ sixBits b := Int.pow_pos (by decide)
  rw [doesV_11, Int.natCast_ediv, uns_pos h0 h1, Int.natCast_pow]
  have l := Int.ediv_nonneg h0 (Int.le_of_lt hp)
  have g := Int.ediv_le_self (2 ^ sixBits b) h0
  exact wrap64_in (Int.le_trans (by decide) l) (Int.le_trans g h1)
theorem rsh_none {a b : Int} (h0 : -9223372036854775808 ≤ a) (h1 : a ≤ 9223372036854775807) (h : sixBits b = 0) : doesV 11 a b = a := by
  rw [doesV_11, h, Nat.pow_zero, Nat.div_one, wrap64_uns, wrap64_in h0 h1]
theorem rsh_ones {b : Int} (h : sixBits b ≠ 0) : doesV 11 (-1) b = 2 ^ (64 - sixBits b) - 1 := by
  have hb := sixBits_lt b
  rw [doesV_11]
  generalize sixBits b = k at *
  have e : uns (-1) = 18446744073709551615 := by decide
  rw [e]
  have e2 : (18446744073709551616 : Nat) = 2 ^ (64 - k) * 2 ^ k := by rw [← Nat.pow_add, show 64 - k + k = 64 by omega]
  have hp : 0 < 2 ^ k := Nat.two_pow_pos k
  have e3 : 18446744073709551615 / 2 ^ k = 2 ^ (64 - k) - 1 := by
    have hq : 0 < 2 ^ (64 - k) := Nat.two_pow_pos _
    rw [show (18446744073709551615 : Nat) = 2 ^ k * (2 ^ (64 - k) - 1) + (2 ^ k - 1) by rw [Nat.mul_sub_one, Nat.mul_comm, ← e2]; have := Nat.le_mul_of_pos_left (2 ^ k) hq; omega, Nat.mul_add_div hp, Nat.div_eq_of_lt (by omega), Nat.add_zero]
  rw [e3]
  have hle : 2 ^ (64 - k) ≤ 2 ^ 63 := Nat.pow_le_pow_right (by decide) (by omega)
  have hq : 0 < 2 ^ (64 - k) := Nat.two_pow_pos _
  have e4 : ((2 ^ (64 - k) - 1 : Nat) : Int) = 2 ^ (64 - k) - 1 := by rw [Int.natCast_sub hq, Int.natCast_pow]; rfl
  rw [e4]
  have l1 : (2 : Int) ^ (64 - k) ≤ 9223372036854775808 := by
    have := Int.ofNat_le.2 hle
    rw [Int.natCast_pow] at this
    exact this
  have l2 : (1 : Int) ≤ 2 ^ (64 - k) := Int.pow_pos (by decide)
  exact wrap64_in (by omega) (by omega)
theorem sixBits_mod (b : Int) : sixBits (b % 64) = sixBits b := by unfold sixBits; omega
theorem small_mul {x y : Int} (hx : smallB x = true) (hy : smallB y = true) : wrap64 (x * y) = x * y := by
  rw [small_iff] at hx hy
  have h1 : (x * y).natAbs = x.natAbs * y.natAbs := Int.natAbs_mul x y
  have h2 : x.natAbs * y.natAbs ≤ 2147483648 * 2147483648 := Nat.mul_le_mul (by omega) (by omega)
  exact wrap64_in (by omega) (by omega)

theorem doesV_bd {c x y : Int} (hc : 1 ≤ c ∧ c ≤ 13) (px : -9223372036854775808 ≤ x) (qx : x ≤ 9223372036854775807) (py : -9223372036854775808 ≤ y) (qy : y ≤ 9223372036854775807) :
    -9223372036854775808 ≤ doesV c x y ∧ doesV c x y ≤ 9223372036854775807 := by
  have h : c = 1 ∨ c = 2 ∨ c = 3 ∨ c = 4 ∨ c = 5 ∨ c = 6 ∨ c = 7 ∨ c = 8 ∨ c = 9 ∨ c = 10 ∨ c = 11 ∨ c = 12 ∨ c = 13 := by omega
  rcases h with rfl | rfl | rfl | rfl | rfl | rfl | rfl | rfl | rfl | rfl | rfl | rfl | rfl
  · rw [doesV_1]; exact ⟨py, qy⟩
  · rw [doesV_2]; exact wrap64_bd _
  · rw [doesV_3]; exact wrap64_bd _
  · rw [doesV_4]; exact wrap64_bd _
  · by_cases hy : y = 0
    · subst hy; rw [doesV_5z]; decide
    · rw [doesV_5 x hy]; exact wrap64_bd _
  · by_cases hy : y = 0
    · subst hy; rw [doesV_6z]; exact ⟨px, qx⟩
    · rw [doesV_6 x hy]; exact wrap64_bd _
  · rw [doesV_7]; exact wrap64_bd _
  · rw [doesV_8]; exact wrap64_bd _
  · rw [doesV_9]; exact wrap64_bd _
  · rw [doesV_10]; exact wrap64_bd _
  · rw [doesV_11]; exact wrap64_bd _
  · rw [doesV_12]
    have hp : (0 : Int) < 2 ^ sixBits y := Int.pow_pos (by decide)
    have h1 : x / 2 ^ sixBits y * 2 ^ sixBits y ≤ x := Int.ediv_mul_le x (by omega)
    have h2 := Int.lt_ediv_add_one_mul_self x hp
    generalize x / 2 ^ sixBits y = q at *
    generalize (2 : Int) ^ sixBits y = m at *
    constructor
    · by_cases hq : -9223372036854775808 ≤ q
      · exact hq
      · have : (q + 1) * m ≤ (q + 1) * 1 := Int.mul_le_mul_of_nonpos_left (by omega) (by omega)
        omega
    · by_cases hq : q ≤ 9223372036854775807
      · exact hq
      · have : q * 1 ≤ q * m := Int.mul_le_mul_of_nonneg_left (by omega) (by omega)
        omega
  · rw [doesV_13]; exact wrap64_bd _

theorem lin_between {k l h y : Int} (h1 : l ≤ y) (h2 : y ≤ h) : min (k * l) (k * h) ≤ k * y ∧ k * y ≤ max (k * l) (k * h) := by
  by_cases hk : 0 ≤ k
  · have a := Int.mul_le_mul_of_nonneg_left h1 hk
    have b := Int.mul_le_mul_of_nonneg_left h2 hk
    omega
  · have a := Int.mul_le_mul_of_nonpos_left (by omega : k ≤ 0) h1
    have b := Int.mul_le_mul_of_nonpos_left (by omega : k ≤ 0) h2
    omega
theorem mul_between {al ah bl bh x y : Int} (h1 : al ≤ x) (h2 : x ≤ ah) (h3 : bl ≤ y) (h4 : y ≤ bh) : mulLo al ah bl bh ≤ x * y ∧ x * y ≤ mulHi al ah bl bh := by
  have a := lin_between (k := y) h1 h2
  have b := lin_between (k := al) h3 h4
  have c := lin_between (k := ah) h3 h4
  rw [Int.mul_comm y x, Int.mul_comm y al, Int.mul_comm y ah] at a
  unfold mulLo mulHi
  generalize al * y = p at *
  generalize ah * y = q at *
  generalize x * y = r at *
  omega
theorem fit2_has {u v n z : Int} (h1 : u ≤ n) (h2 : n ≤ v) (hz : z = wrap64 n) : (fit2 u v).1 ≤ z ∧ z ≤ (fit2 u v).2 := by
  subst hz
  cases h : fits u && fits v
  · rw [fit2_no h]; exact wrap64_bd _
  · rw [fit2_yes h]
    simp only [Bool.and_eq_true, fits_iff] at h
    rw [wrap64_in (by omega) (by omega)]
    exact ⟨h1, h2⟩
theorem div_between {a x y : Int} (h0 : 0 ≤ x) (h1 : x ≤ a) (h2 : 0 < y) : 0 ≤ x / y ∧ x / y ≤ a := by
  have l := Int.ediv_nonneg h0 (Int.le_of_lt h2)
  have g := Int.ediv_le_self y h0
  omega
theorem div_mono {al ah bl bh x y : Int} (h0 : 0 ≤ al) (h1 : al ≤ x) (h2 : x ≤ ah) (h3 : 0 < bl) (h4 : bl ≤ y) (h5 : y ≤ bh) : al / bh ≤ x / y ∧ x / y ≤ ah / bl := by
  obtain ⟨a, rfl⟩ := Int.eq_ofNat_of_zero_le h0
  obtain ⟨m, rfl⟩ := Int.eq_ofNat_of_zero_le (by omega : 0 ≤ x)
  obtain ⟨b, rfl⟩ := Int.eq_ofNat_of_zero_le (by omega : 0 ≤ ah)
  obtain ⟨c, rfl⟩ := Int.eq_ofNat_of_zero_le (by omega : 0 ≤ bl)
  obtain ⟨d, rfl⟩ := Int.eq_ofNat_of_zero_le (by omega : 0 ≤ y)
  obtain ⟨e, rfl⟩ := Int.eq_ofNat_of_zero_le (by omega : 0 ≤ bh)
  have k1 : a / e ≤ m / d := Nat.div_le_div (by omega) (by omega) (by omega)
  have k2 : m / d ≤ b / c := Nat.div_le_div (by omega) (by omega) (by omega)
  exact ⟨Int.ofNat_le.2 k1, Int.ofNat_le.2 k2⟩
theorem mod_ends {x y : Int} (h0 : 0 ≤ x) (h1 : x ≤ 9223372036854775807) (h2 : 0 < y) (h3 : y ≤ 9223372036854775807) : doesV 6 x y = x % y := by
  rw [doesV_6 x (by omega), Int.natCast_emod, uns_pos h0 h1, uns_pos (by omega) h3]
  have l := Int.emod_nonneg x (by omega : y ≠ 0)
  have g := Int.emod_lt_of_pos x h2
  exact wrap64_in (by omega) (by omega)
theorem and_le {x y a : Int} (h0 : 0 ≤ x) (h1 : x ≤ a) (h2 : a ≤ 9223372036854775807) : 0 ≤ wrap64 ((uns x &&& uns y : Nat) : Int) ∧ wrap64 ((uns x &&& uns y : Nat) : Int) ≤ a := by
  have l : uns x &&& uns y ≤ uns x := Nat.and_le_left
  have e := uns_pos h0 (by omega)
  rw [wrap64_in (by omega) (by omega)]
  omega
theorem below_fill {x m : Int} (h0 : 0 ≤ x) (h1 : x ≤ m) : uns x < 2 ^ lenV m.toNat ∨ 9223372036854775807 < x := by
  by_cases hx : x ≤ 9223372036854775807
  · left
    have e := uns_pos h0 hx
    have l := lenV_hi m.toNat
    omega
  · right; omega
theorem fill_le {m : Int} (h : m ≤ 9223372036854775807) : lenV m.toNat ≤ 63 := lenV_le (Nat.lt_of_lt_of_eq (show m.toNat < 9223372036854775808 by omega) (by decide))
theorem or_fill {x y m : Int} (hx0 : 0 ≤ x) (hx : x ≤ m) (hy0 : 0 ≤ y) (hy : y ≤ m) (hm : m ≤ 9223372036854775807) : max x y ≤ wrap64 ((uns x ||| uns y : Nat) : Int) ∧ wrap64 ((uns x ||| uns y : Nat) : Int) ≤ fillV m := by
  have a := (below_fill hx0 hx).resolve_right (by omega)
  have b := (below_fill hy0 hy).resolve_right (by omega)
  have c := Nat.or_lt_two_pow a b
  have d := ones_lt (fill_le hm)
  have l1 : uns x ≤ uns x ||| uns y := Nat.left_le_or
  have l2 : uns y ≤ uns x ||| uns y := Nat.right_le_or
  have e1 := uns_pos hx0 (by omega)
  have e2 := uns_pos hy0 (by omega)
  unfold fillV
  unfold ones at d ⊢
  have p : 0 < 2 ^ lenV m.toNat := Nat.two_pow_pos _
  generalize 2 ^ lenV m.toNat = P at *
  generalize uns x ||| uns y = z at *
  rw [wrap64_in (by omega) (by omega)]
  omega
theorem xor_fill {x y m : Int} (hx0 : 0 ≤ x) (hx : x ≤ m) (hy0 : 0 ≤ y) (hy : y ≤ m) (hm : m ≤ 9223372036854775807) : 0 ≤ wrap64 ((uns x ^^^ uns y : Nat) : Int) ∧ wrap64 ((uns x ^^^ uns y : Nat) : Int) ≤ fillV m := by
  have a := (below_fill hx0 hx).resolve_right (by omega)
  have b := (below_fill hy0 hy).resolve_right (by omega)
  have c := Nat.xor_lt_two_pow a b
  have d := ones_lt (fill_le hm)
  unfold fillV
  unfold ones at d ⊢
  have p : 0 < 2 ^ lenV m.toNat := Nat.two_pow_pos _
  generalize 2 ^ lenV m.toNat = P at *
  generalize uns x ^^^ uns y = z at *
  rw [wrap64_in (by omega) (by omega)]
  omega
theorem half_mono {a b : Int} (k : Nat) (h : a ≤ b) : a / 2 ^ k ≤ b / 2 ^ k := Int.ediv_le_ediv (Int.pow_pos (by decide)) h
theorem half_bd {x : Int} (k : Nat) : (0 ≤ x → 0 ≤ x / 2 ^ k ∧ x / 2 ^ k ≤ x) ∧ (x < 0 → x ≤ x / 2 ^ k ∧ x / 2 ^ k ≤ -1) := by
  have hp : (0 : Int) < 2 ^ k := Int.pow_pos (by decide)
  have h1 : x / 2 ^ k * 2 ^ k ≤ x := Int.ediv_mul_le x (by omega)
  have h2 := Int.lt_ediv_add_one_mul_self x hp
  generalize x / 2 ^ k = q at *
  generalize (2 : Int) ^ k = m at *
  constructor
  · intro h
    have a : 0 ≤ q := by
      by_cases hq : 0 ≤ q
      · exact hq
      · have : (q + 1) * m ≤ (q + 1) * 1 := Int.mul_le_mul_of_nonpos_left (by omega) (by omega)
        omega
    have b : q * 1 ≤ q * m := Int.mul_le_mul_of_nonneg_left (by omega) a
    omega
  · intro h
    have a : q ≤ -1 := by
      by_cases hq : q ≤ -1
      · exact hq
      · have : q * 1 ≤ q * m := Int.mul_le_mul_of_nonneg_left (by omega) (by omega)
        omega
    have b : (q + 1) * m ≤ (q + 1) * 1 := Int.mul_le_mul_of_nonpos_left (by omega) (by omega)
    omega
theorem rsh_most {x : Int} (b : Int) (h : sixBits b ≠ 0) : 0 ≤ doesV 11 x b ∧ doesV 11 x b ≤ 2 ^ (64 - sixBits b) - 1 := by
  have r := rsh_ones (b := b) h
  rw [doesV_11] at r ⊢
  have hb := sixBits_lt b
  have hx := uns_lt x
  have e : uns (-1) = 18446744073709551615 := by decide
  have l : uns x / 2 ^ sixBits b ≤ uns (-1) / 2 ^ sixBits b := Nat.div_le_div_right (by omega)
  have k : uns (-1) / 2 ^ sixBits b ≤ 9223372036854775807 := by
    rw [e]
    have : 2 ^ 1 ≤ 2 ^ sixBits b := Nat.pow_le_pow_right (by decide) (by omega)
    exact Nat.le_trans (Nat.div_le_div_left this (by decide)) (by decide)
  rw [← r]
  generalize uns x / 2 ^ sixBits b = p at *
  generalize uns (-1) / 2 ^ sixBits b = q at *
  rw [wrap64_in (by omega) (by omega), wrap64_in (by omega) (by omega)]
  omega

theorem bdV_has {c al ah bl bh x y : Int} (hc : 1 ≤ c ∧ c ≤ 13) (pal : -9223372036854775808 ≤ al) (qah : ah ≤ 9223372036854775807) (pbl : -9223372036854775808 ≤ bl) (qbh : bh ≤ 9223372036854775807)
    (h1 : al ≤ x) (h2 : x ≤ ah) (h3 : bl ≤ y) (h4 : y ≤ bh) : (bdV c al ah bl bh).1 ≤ doesV c x y ∧ doesV c x y ≤ (bdV c al ah bl bh).2 := by
  have bd := doesV_bd (x := x) (y := y) hc (by omega) (by omega) (by omega) (by omega)
  have h : c = 1 ∨ c = 2 ∨ c = 3 ∨ c = 4 ∨ c = 5 ∨ c = 6 ∨ c = 7 ∨ c = 8 ∨ c = 9 ∨ c = 10 ∨ c = 11 ∨ c = 12 ∨ c = 13 := by omega
  rcases h with rfl | rfl | rfl | rfl | rfl | rfl | rfl | rfl | rfl | rfl | rfl | rfl | rfl
  · rw [bdV_1, doesV_1]; exact ⟨h3, h4⟩
  · rw [bdV_2]; exact fit2_has (n := x + y) (by omega) (by omega) (doesV_2 x y)
  · rw [bdV_3]; exact fit2_has (n := x - y) (by omega) (by omega) (doesV_3 x y)
  · rw [bdV_4]
    split
    · rename_i hs
      simp only [Bool.and_eq_true, small_iff] at hs
      rw [doesV_4, small_mul ((small_iff x).2 (by omega)) ((small_iff y).2 (by omega))]
      exact mul_between h1 h2 h3 h4
    · exact bd
  · rw [bdV_5]
    split
    · split
      · rw [div_ends (by omega) (by omega) (by omega) (by omega)]
        exact div_mono (by omega) h1 h2 (by omega) h3 h4
      · by_cases hy : y = 0
        · subst hy; rw [doesV_5z]; show (0 : Int) ≤ 0 ∧ 0 ≤ ah; omega
        · rw [div_ends (by omega) (by omega) (by omega) (by omega)]
          exact div_between (by omega) h2 (by omega)
    · exact bd
  · rw [bdV_6]
    split
    · split
      · rw [mod_ends (by omega) (by omega) (by omega) (by omega)]
        have l := Int.emod_nonneg x (by omega : y ≠ 0)
        have g := Int.emod_lt_of_pos x (by omega : 0 < y)
        have m : x % y ≤ x := by
          by_cases hxy : x < y
          · rw [Int.emod_eq_of_lt (by omega) hxy]; omega
          · omega
        show 0 ≤ x % y ∧ x % y ≤ min ah (bh - 1)
        omega
      · by_cases hy : y = 0
        · subst hy; rw [doesV_6z]; show (0 : Int) ≤ x ∧ x ≤ ah; omega
        · rw [mod_ends (by omega) (by omega) (by omega) (by omega)]
          have l := Int.emod_nonneg x (by omega : y ≠ 0)
          have g := Int.emod_lt_of_pos x (by omega : 0 < y)
          have m : x % y ≤ x := by
            by_cases hxy : x < y
            · rw [Int.emod_eq_of_lt (by omega) hxy]; omega
            · omega
          show 0 ≤ x % y ∧ x % y ≤ ah
          omega
    · exact bd
  · rw [bdV_7, doesV_7]
    rw [doesV_7] at bd
    split
    · have a := and_le (y := y) (by omega : 0 ≤ x) h2 qah
      split
      · have b := and_le (y := x) (by omega : 0 ≤ y) h4 qbh
        rw [Nat.and_comm] at b
        generalize wrap64 ((uns x &&& uns y : Nat) : Int) = z at *
        show 0 ≤ z ∧ z ≤ min ah bh
        omega
      · exact a
    · split
      · have b := and_le (y := x) (by omega : 0 ≤ y) h4 qbh
        rw [Nat.and_comm] at b
        exact b
      · exact bd
  · rw [bdV_8]
    split
    · have a := or_fill (m := max ah bh) (by omega : 0 ≤ x) (by omega) (by omega : 0 ≤ y) (by omega) (by omega)
      rw [doesV_8]
      refine ⟨?_, a.2⟩
      show max al bl ≤ _
      exact Int.le_trans (by omega) a.1
    · exact bd
  · rw [bdV_9]
    split
    · rw [doesV_9]
      exact xor_fill (m := max ah bh) (by omega : 0 ≤ x) (by omega) (by omega : 0 ≤ y) (by omega) (by omega)
    · exact bd
  · rw [bdV_10]
    split
    · obtain rfl : y = bl := by omega
      have hp : (0 : Int) ≤ 2 ^ sixBits y := Int.le_of_lt (Int.pow_pos (by decide))
      exact fit2_has (Int.mul_le_mul_of_nonneg_right h1 hp) (Int.mul_le_mul_of_nonneg_right h2 hp) (doesV_10 x y)
    · exact bd
  · rw [bdV_11]
    split
    · obtain rfl : y = bl := by omega
      split
      · rw [rsh_none (by omega) (by omega) (by assumption)]; exact ⟨h1, h2⟩
      · split
        · rw [rsh_ends (by omega) (by omega)]
          exact ⟨half_mono _ h1, half_mono _ h2⟩
        · exact rsh_most y (by assumption)
    · split
      · rw [rsh_ends (by omega) (by omega)]
        have a := (half_bd (x := x) (sixBits y)).1 (by omega)
        show 0 ≤ x / 2 ^ sixBits y ∧ x / 2 ^ sixBits y ≤ ah
        omega
      · exact bd
  · rw [bdV_12, doesV_12]
    have a := half_bd (x := x) (sixBits y)
    split
    · obtain rfl : y = bl := by omega
      exact ⟨half_mono _ h1, half_mono _ h2⟩
    · split
      · show 0 ≤ x / 2 ^ sixBits y ∧ x / 2 ^ sixBits y ≤ ah
        have := a.1 (by omega)
        omega
      · split
        · show al ≤ x / 2 ^ sixBits y ∧ x / 2 ^ sixBits y ≤ -1
          have := a.2 (by omega)
          omega
        · show al ≤ x / 2 ^ sixBits y ∧ x / 2 ^ sixBits y ≤ ah
          by_cases hx : 0 ≤ x
          · have := a.1 hx; omega
          · have := a.2 (by omega); omega
  · rw [bdV_13]; exact fit2_has (n := -x) (by omega) (by omega) (doesV_13 x y)
end Go.Proofs.YtednmkhdehlojaaGreatDoor
