/-
  Plain facts on numbers of 64 bits: what the codes of package op make of two numbers, bit by bit, as one function on integers; no program is named here. No conditions. What each function of package op, and of the document's own answer to chapter 1, returns: as functions on integers; the world is as it was. Conditions: the arguments are numbers of 64 bits. Programs as they run: what a register has, as a plain triple, and what the small functions of package machine return of it; the world below is as it was. Conditions: numbers are of 64 bits. Plain facts on bounds: between which numbers is what a code makes of two numbers, and what is left of two bounds by what a code asks, as functions on integers; no program is named here. No conditions. Plain facts on bounds: what a code makes of two numbers that two bounds have is between; no program is named here. Conditions: the numbers are of 64 bits, and between the ends. A machine on plain numbers: what a step makes of registers, slots, words, cells and what was given out, and what comes of a list of steps; no program is named here. No conditions. What is known of a value, on plain numbers: its kind, and between which ends it is; what a verifier makes of two such, and where a place may lead: what a machine makes of values of which that is known goes well, and what is known of it then holds. No program is named here. Conditions: the ends are of 64 bits. A way of a verifier, on plain numbers: what is known of registers and slots; what a step that asks nothing makes of it, and that a machine of which that is known goes on well. No program is named here. Conditions: the ends are of 64 bits; the step is right. A way of a verifier, on plain numbers: stores, calls and what a code makes: a machine of which what is known is so goes on well. No program is named here. Conditions: the ends are of 64 bits; the step is right. What the functions of package bound return: as functions on integers; the world below is as it was. Conditions: the ends are numbers of 64 bits, the low end not above the high one.
-/
import Derived.WalkKit
import Derived.Test.YtednmkhdehlojaaGreatDoorJd1
import Derived.Test.YtednmkhdehlojaaGreatDoorRows
import Derived.ProofKit
import Derived.OpenShut
import Derived.WalkLawsBesides
import Derived.BigCall
import Derived.BigGuardPart
import Derived.LoopN
open Go.Value renaming int → vI
open Go.IntKind renaming i64 → vK
open Go.RowKit.Below renaming alloc → bA, setCell → bS, drew → bD, refl → bF
set_option maxHeartbeats 4000000
set_option maxRecDepth 1000000
namespace Go.Proofs.YtednmkhdehlojaaGreatDoor
open Go.RowKit

def uns (a : Int) : Nat := (a % 18446744073709551616).toNat
theorem uns_lt (a : Int) : uns a < 18446744073709551616 := by unfold uns; omega
theorem uns_wrap (a : Int) : IntKind.u64.wrap a = (uns a : Int) := by rw [IntKind.wrap_u64]; unfold uns; omega
theorem uns_eq (a : Int) : (uns a : Int) = a % 18446744073709551616 := by unfold uns; omega
theorem uns_zero {b : Int} (h0 : -9223372036854775808 ≤ b) (h1 : b ≤ 9223372036854775807) : uns b = 0 ↔ b = 0 := by unfold uns; omega
theorem wrap64_emod (n : Int) : wrap64 (n % 18446744073709551616) = wrap64 n := by unfold wrap64; omega
theorem wrap64_u (n : Int) : wrap64 (IntKind.u64.wrap n) = wrap64 n := by rw [IntKind.wrap_u64]; exact wrap64_emod n
theorem wrap64_in {n : Int} (h0 : -9223372036854775808 ≤ n) (h1 : n ≤ 9223372036854775807) : wrap64 n = n := by unfold wrap64; omega
theorem wrap64_bd (n : Int) : -9223372036854775808 ≤ wrap64 n ∧ wrap64 n ≤ 9223372036854775807 := by unfold wrap64; omega
theorem wrap64_uns (a : Int) : wrap64 (uns a : Int) = wrap64 a := by rw [uns_eq]; exact wrap64_emod a

theorem ofInt_toNat (a : Int) : (BitVec.ofInt 64 a).toNat = uns a := by
  rw [BitVec.toNat_ofInt]; rfl
theorem bits_and_i64 (a b : Int) : bits .and .i64 a b = wrap64 ((uns a &&& uns b : Nat) : Int) := by
  show IntKind.i64.wrap ((BitVec.ofInt 64 a &&& BitVec.ofInt 64 b).toNat : Int) = _
  rw [BitVec.toNat_and, ofInt_toNat, ofInt_toNat, IntWalk.i64_left]
theorem bits_or_i64 (a b : Int) : bits .or .i64 a b = wrap64 ((uns a ||| uns b : Nat) : Int) := by
  show IntKind.i64.wrap ((BitVec.ofInt 64 a ||| BitVec.ofInt 64 b).toNat : Int) = _
  rw [BitVec.toNat_or, ofInt_toNat, ofInt_toNat, IntWalk.i64_left]
theorem bits_xor_i64 (a b : Int) : bits .xor .i64 a b = wrap64 ((uns a ^^^ uns b : Nat) : Int) := by
  show IntKind.i64.wrap ((BitVec.ofInt 64 a ^^^ BitVec.ofInt 64 b).toNat : Int) = _
  rw [BitVec.toNat_xor, ofInt_toNat, ofInt_toNat, IntWalk.i64_left]
theorem and63 (b : Int) : bits .and .i64 b 63 = b % 64 := by
  rw [bits_and_i64]
  have e : uns b &&& uns 63 = uns b % 64 := by
    show uns b &&& 63 = _
    exact Nat.and_two_pow_sub_one_eq_mod (uns b) 6
  rw [e]
  unfold uns wrap64
  omega

def sixBits (b : Int) : Nat := (b % 64).toNat
theorem sixBits_lt (b : Int) : sixBits b < 64 := by unfold sixBits; omega
def doesV (c a b : Int) : Int :=
  if c = 1 then b else if c = 2 then wrap64 (a + b) else if c = 3 then wrap64 (a - b) else if c = 4 then wrap64 (a * b)
  else if c = 5 then (if b = 0 then 0 else wrap64 ((uns a / uns b : Nat) : Int))
  else if c = 6 then (if b = 0 then a else wrap64 ((uns a % uns b : Nat) : Int))
  else if c = 7 then wrap64 ((uns a &&& uns b : Nat) : Int) else if c = 8 then wrap64 ((uns a ||| uns b : Nat) : Int)
  else if c = 9 then wrap64 ((uns a ^^^ uns b : Nat) : Int)
  else if c = 10 then wrap64 (a * 2 ^ sixBits b) else if c = 11 then wrap64 ((uns a / 2 ^ sixBits b : Nat) : Int)
  else if c = 12 then a / 2 ^ sixBits b else if c = 13 then wrap64 (-a) else 0

def isV (c a b : Int) : Bool :=
  if c = 15 then decide (a = b) else if c = 16 then !decide (a = b)
  else if c = 17 then decide (uns b < uns a) else if c = 18 then decide (uns b ≤ uns a)
  else if c = 19 then decide (uns a < uns b) else if c = 20 then decide (uns a ≤ uns b)
  else if c = 21 then decide (b < a) else if c = 22 then decide (b ≤ a)
  else if c = 23 then decide (a < b) else if c = 24 then decide (a ≤ b) else false

theorem doesV_1 (a b : Int) : doesV 1 a b = b := by simp only [doesV, reduceIte, Int.reduceEq]
theorem doesV_2 (a b : Int) : doesV 2 a b = wrap64 (a + b) := by simp only [doesV, reduceIte, Int.reduceEq]
theorem doesV_3 (a b : Int) : doesV 3 a b = wrap64 (a - b) := by simp only [doesV, reduceIte, Int.reduceEq]
theorem doesV_4 (a b : Int) : doesV 4 a b = wrap64 (a * b) := by simp only [doesV, reduceIte, Int.reduceEq]
theorem doesV_7 (a b : Int) : doesV 7 a b = wrap64 ((uns a &&& uns b : Nat) : Int) := by simp only [doesV, reduceIte, Int.reduceEq]
theorem doesV_8 (a b : Int) : doesV 8 a b = wrap64 ((uns a ||| uns b : Nat) : Int) := by simp only [doesV, reduceIte, Int.reduceEq]
theorem doesV_9 (a b : Int) : doesV 9 a b = wrap64 ((uns a ^^^ uns b : Nat) : Int) := by simp only [doesV, reduceIte, Int.reduceEq]
theorem doesV_10 (a b : Int) : doesV 10 a b = wrap64 (a * 2 ^ sixBits b) := by simp only [doesV, reduceIte, Int.reduceEq]
theorem doesV_11 (a b : Int) : doesV 11 a b = wrap64 ((uns a / 2 ^ sixBits b : Nat) : Int) := by simp only [doesV, reduceIte, Int.reduceEq]
theorem doesV_12 (a b : Int) : doesV 12 a b = a / 2 ^ sixBits b := by simp only [doesV, reduceIte, Int.reduceEq]
theorem doesV_13 (a b : Int) : doesV 13 a b = wrap64 (-a) := by simp only [doesV, reduceIte, Int.reduceEq]
theorem doesV_5 (a : Int) {b : Int} (h : b ≠ 0) : doesV 5 a b = wrap64 ((uns a / uns b : Nat) : Int) := by simp only [doesV, reduceIte, Int.reduceEq, if_neg h]
theorem doesV_5z (a : Int) : doesV 5 a 0 = 0 := by simp only [doesV, reduceIte, Int.reduceEq]
theorem doesV_6 (a : Int) {b : Int} (h : b ≠ 0) : doesV 6 a b = wrap64 ((uns a % uns b : Nat) : Int) := by simp only [doesV, reduceIte, Int.reduceEq, if_neg h]
theorem doesV_6z (a : Int) : doesV 6 a 0 = a := by simp only [doesV, reduceIte, Int.reduceEq]
theorem doesV_no {c : Int} (a b : Int) (h : c < 1 ∨ 13 < c) : doesV c a b = 0 := by
  have e : ∀ k : Int, 1 ≤ k → k ≤ 13 → c ≠ k := fun k h1 h2 => by omega
  unfold doesV
  rw [if_neg (e 1 (by decide) (by decide)), if_neg (e 2 (by decide) (by decide)), if_neg (e 3 (by decide) (by decide)), if_neg (e 4 (by decide) (by decide)), if_neg (e 5 (by decide) (by decide)), if_neg (e 6 (by decide) (by decide)), if_neg (e 7 (by decide) (by decide)), if_neg (e 8 (by decide) (by decide)), if_neg (e 9 (by decide) (by decide)), if_neg (e 10 (by decide) (by decide)), if_neg (e 11 (by decide) (by decide)), if_neg (e 12 (by decide) (by decide)), if_neg (e 13 (by decide) (by decide))]
theorem isV_15 (a b : Int) : isV 15 a b = (decide (a = b)) := by simp only [isV, reduceIte, Int.reduceEq]
theorem isV_16 (a b : Int) : isV 16 a b = (!decide (a = b)) := by simp only [isV, reduceIte, Int.reduceEq]
theorem isV_17 (a b : Int) : isV 17 a b = (decide (uns b < uns a)) := by simp only [isV, reduceIte, Int.reduceEq]
theorem isV_18 (a b : Int) : isV 18 a b = (decide (uns b ≤ uns a)) := by simp only [isV, reduceIte, Int.reduceEq]
theorem isV_19 (a b : Int) : isV 19 a b = (decide (uns a < uns b)) := by simp only [isV, reduceIte, Int.reduceEq]
theorem isV_20 (a b : Int) : isV 20 a b = (decide (uns a ≤ uns b)) := by simp only [isV, reduceIte, Int.reduceEq]
theorem isV_21 (a b : Int) : isV 21 a b = (decide (b < a)) := by simp only [isV, reduceIte, Int.reduceEq]
theorem isV_22 (a b : Int) : isV 22 a b = (decide (b ≤ a)) := by simp only [isV, reduceIte, Int.reduceEq]
theorem isV_23 (a b : Int) : isV 23 a b = (decide (a < b)) := by simp only [isV, reduceIte, Int.reduceEq]
theorem isV_24 (a b : Int) : isV 24 a b = (decide (a ≤ b)) := by simp only [isV, reduceIte, Int.reduceEq]
theorem isV_no {c : Int} (a b : Int) (h : c < 15 ∨ 24 < c) : isV c a b = false := by
  have e : ∀ k : Int, 15 ≤ k → k ≤ 24 → c ≠ k := fun k h1 h2 => by omega
  unfold isV
  rw [if_neg (e 15 (by decide) (by decide)), if_neg (e 16 (by decide) (by decide)), if_neg (e 17 (by decide) (by decide)), if_neg (e 18 (by decide) (by decide)), if_neg (e 19 (by decide) (by decide)), if_neg (e 20 (by decide) (by decide)), if_neg (e 21 (by decide) (by decide)), if_neg (e 22 (by decide) (by decide)), if_neg (e 23 (by decide) (by decide)), if_neg (e 24 (by decide) (by decide))]

theorem shr_u (a b : Int) : wrap64 (IntKind.u64.wrap a / 2 ^ (b % 64).toNat) = wrap64 ((uns a / 2 ^ sixBits b : Nat) : Int) := by
  rw [uns_wrap, Int.natCast_ediv, Int.natCast_pow]; rfl

def hi (x j : Nat) : Nat := x / 2 ^ j
def lo (x j : Nat) : Nat := x % 2 ^ j
def sh (a : Int) (j : Nat) : Int := a / 2 ^ j
def ones (j : Nat) : Nat := 2 ^ j - 1
theorem ones_lt {j : Nat} (h : j ≤ 63) : ones j ≤ 9223372036854775807 := by
  unfold ones; have := Nat.pow_le_pow_right (n := 2) (i := j) (j := 63) (by decide) h; omega
def fillV (n : Int) : Int := (ones (lenV n.toNat) : Int)
theorem fill_eq (m : Nat) (hl : lenV m ≤ 63) : wrap64 (IntKind.u64.wrap (IntKind.u64.wrap (2 ^ lenV m) - 1)) = fillV (m : Int) := by
  have e : ((2 : Int) ^ lenV m) = ((2 ^ lenV m : Nat) : Int) := by rw [Int.natCast_pow]; rfl
  have h1 := Nat.pow_le_pow_right (n := 2) (i := lenV m) (j := 63) (by decide) hl
  have h2 := Nat.two_pow_pos (lenV m)
  unfold fillV ones
  rw [Int.toNat_natCast, e, IntKind.wrap_u64, IntKind.wrap_u64]
  unfold wrap64
  omega
end Go.Proofs.YtednmkhdehlojaaGreatDoor
namespace Go.Proofs.YtednmkhdehlojaaGreatDoor
open Go.ChangeShapes Go.WideShapes Go.ChangeAt Go.RowKit

theorem ret_i64 {a b : Int} (h : a = b) : Ending.returned (vI vK a) = .returned (vI vK b) := by rw [h]
theorem ret_bool {a b : Bool} (h : a = b) : Ending.returned (.bool a) = .returned (.bool b) := by rw [h]

theorem asks_any (c : Int) (w : World) :
    Calls Tryz.prog 89 #[vI vK c] w fun e w' => e = .returned (.bool (decide (15 ≤ c) && decide (c ≤ 24))) ∧ w' = w := by
  by_cases h1 : 15 ≤ c
  · go_enter Tryz.func89, Tryz.ntmps89
    go_wp2
    go_ret
    exact ⟨ret_bool (by simp [h1]), rfl⟩
  · have h2 : decide (15 ≤ c) = false := by simpa using h1
    rw [h2, Bool.false_and]
    go_enter Tryz.func89, Tryz.ntmps89
    go_wp2
    go_ret
    exact ⟨rfl, rfl⟩
theorem does_1 (a b : Int) (w : World) : Calls Tryz.prog 185 #[vI vK 1, vI vK a, vI vK b] w fun e w' => e = .returned (vI vK (doesV 1 a b)) ∧ w' = w := by
  rw [doesV_1]
  go_enter Tryz.func185, Tryz.ntmps185
  go_wp2
  go_ret
  exact ⟨ret_i64 rfl, rfl⟩
theorem does_2 (a b : Int) (w : World) : Calls Tryz.prog 185 #[vI vK 2, vI vK a, vI vK b] w fun e w' => e = .returned (vI vK (doesV 2 a b)) ∧ w' = w := by
  rw [doesV_2]
  go_enter Tryz.func185, Tryz.ntmps185
  go_wp2
  go_ret
  exact ⟨ret_i64 rfl, rfl⟩
theorem does_3 (a b : Int) (w : World) : Calls Tryz.prog 185 #[vI vK 3, vI vK a, vI vK b] w fun e w' => e = .returned (vI vK (doesV 3 a b)) ∧ w' = w := by
  rw [doesV_3]
  go_enter Tryz.func185, Tryz.ntmps185
  go_wp2
  go_ret
  exact ⟨ret_i64 rfl, rfl⟩
theorem does_4 (a b : Int) (w : World) : Calls Tryz.prog 185 #[vI vK 4, vI vK a, vI vK b] w fun e w' => e = .returned (vI vK (doesV 4 a b)) ∧ w' = w := by
  rw [doesV_4]
  go_enter Tryz.func185, Tryz.ntmps185
  go_wp2
  go_ret
  exact ⟨ret_i64 rfl, rfl⟩
theorem does_13 (a b : Int) (w : World) : Calls Tryz.prog 185 #[vI vK 13, vI vK a, vI vK b] w fun e w' => e = .returned (vI vK (doesV 13 a b)) ∧ w' = w := by
  rw [doesV_13]
  go_enter Tryz.func185, Tryz.ntmps185
  go_wp2
  go_ret
  exact ⟨ret_i64 rfl, rfl⟩
theorem does_7 (a b : Int) (w : World) : Calls Tryz.prog 185 #[vI vK 7, vI vK a, vI vK b] w fun e w' => e = .returned (vI vK (doesV 7 a b)) ∧ w' = w := by
  rw [doesV_7]
  go_enter Tryz.func185, Tryz.ntmps185
  go_wp2
  go_ret
  exact ⟨ret_i64 (bits_and_i64 a b), rfl⟩
theorem does_8 (a b : Int) (w : World) : Calls Tryz.prog 185 #[vI vK 8, vI vK a, vI vK b] w fun e w' => e = .returned (vI vK (doesV 8 a b)) ∧ w' = w := by
  rw [doesV_8]
  go_enter Tryz.func185, Tryz.ntmps185
  go_wp2
  go_ret
  exact ⟨ret_i64 (bits_or_i64 a b), rfl⟩
theorem does_9 (a b : Int) (w : World) : Calls Tryz.prog 185 #[vI vK 9, vI vK a, vI vK b] w fun e w' => e = .returned (vI vK (doesV 9 a b)) ∧ w' = w := by
  rw [doesV_9]
  go_enter Tryz.func185, Tryz.ntmps185
  go_wp2
  go_ret
  exact ⟨ret_i64 (bits_xor_i64 a b), rfl⟩
theorem does_10 (a b : Int) (w : World) : Calls Tryz.prog 185 #[vI vK 10, vI vK a, vI vK b] w fun e w' => e = .returned (vI vK (doesV 10 a b)) ∧ w' = w := by
  rw [doesV_10]
  have e := and63 b
  have h0 : 0 ≤ b % 64 := Int.emod_nonneg _ (by decide)
  have h1 : b % 64 < 64 := Int.emod_lt_of_pos _ (by decide)
  go_enter Tryz.func185, Tryz.ntmps185
  go_wp2
  go_ret
  exact ⟨ret_i64 rfl, rfl⟩
theorem does_11 (a b : Int) (w : World) : Calls Tryz.prog 185 #[vI vK 11, vI vK a, vI vK b] w fun e w' => e = .returned (vI vK (doesV 11 a b)) ∧ w' = w := by
  rw [doesV_11]
  have e := and63 b
  have h0 : 0 ≤ b % 64 := Int.emod_nonneg _ (by decide)
  have h1 : b % 64 < 64 := Int.emod_lt_of_pos _ (by decide)
  go_enter Tryz.func185, Tryz.ntmps185
  go_wp2
  go_ret
  exact ⟨ret_i64 (shr_u a b), rfl⟩
theorem does_12 (a b : Int) (w : World) : Calls Tryz.prog 185 #[vI vK 12, vI vK a, vI vK b] w fun e w' => e = .returned (vI vK (doesV 12 a b)) ∧ w' = w := by
  rw [doesV_12]
  have e := and63 b
  have h0 : 0 ≤ b % 64 := Int.emod_nonneg _ (by decide)
  have h1 : b % 64 < 64 := Int.emod_lt_of_pos _ (by decide)
  go_enter Tryz.func185, Tryz.ntmps185
  go_wp2
  go_ret
  exact ⟨ret_i64 rfl, rfl⟩
theorem does_5 (a b : Int) (h0 : -9223372036854775808 ≤ b) (h1 : b ≤ 9223372036854775807) (w : World) : Calls Tryz.prog 185 #[vI vK 5, vI vK a, vI vK b] w fun e w' => e = .returned (vI vK (doesV 5 a b)) ∧ w' = w := by
  by_cases hb : b = 0
  · subst hb
    rw [doesV_5z]
    go_enter Tryz.func185, Tryz.ntmps185
    go_wp2
    go_ret
    exact ⟨rfl, rfl⟩
  · rw [doesV_5 a hb]
    have ha := uns_wrap a
    have hu := uns_wrap b
    have l1 := uns_lt a
    have l2 := uns_lt b
    have hz : uns b ≠ 0 := fun e => hb ((uns_zero h0 h1).1 e)
    generalize uns a = X at ha l1 ⊢
    generalize uns b = Y at hu l2 hz ⊢
    go_enter Tryz.func185, Tryz.ntmps185
    go_wp2
    go_ret
    exact ⟨ret_i64 (by rw [wrap64_u, Int.natCast_ediv]), rfl⟩
theorem does_6 (a b : Int) (h0 : -9223372036854775808 ≤ b) (h1 : b ≤ 9223372036854775807) (w : World) : Calls Tryz.prog 185 #[vI vK 6, vI vK a, vI vK b] w fun e w' => e = .returned (vI vK (doesV 6 a b)) ∧ w' = w := by
  by_cases hb : b = 0
  · subst hb
    rw [doesV_6z]
    go_enter Tryz.func185, Tryz.ntmps185
    go_wp2
    go_ret
    exact ⟨rfl, rfl⟩
  · rw [doesV_6 a hb]
    have ha := uns_wrap a
    have hu := uns_wrap b
    have l1 := uns_lt a
    have l2 := uns_lt b
    have hz : uns b ≠ 0 := fun e => hb ((uns_zero h0 h1).1 e)
    generalize uns a = X at ha l1 ⊢
    generalize uns b = Y at hu l2 hz ⊢
    go_enter Tryz.func185, Tryz.ntmps185
    go_wp2
    go_ret
    exact ⟨ret_i64 (by rw [Int.natCast_emod]), rfl⟩
theorem does_no (c a b : Int) (hc : c < 1 ∨ 13 < c) (w : World) : Calls Tryz.prog 185 #[vI vK c, vI vK a, vI vK b] w fun e w' => e = .returned (vI vK (doesV c a b)) ∧ w' = w := by
  rw [doesV_no a b hc]
  go_enter Tryz.func185, Tryz.ntmps185
  go_wp2
  go_ret
  exact ⟨rfl, rfl⟩
theorem is_15 (a b : Int) (w : World) : Calls Tryz.prog 155 #[vI vK 15, vI vK a, vI vK b] w fun e w' => e = .returned (.bool (isV 15 a b)) ∧ w' = w := by
  rw [isV_15]
  have ha := uns_wrap a
  have hb := uns_wrap b
  go_enter Tryz.func155, Tryz.ntmps155
  go_wp2
  go_ret
  refine ⟨ret_bool ?_, rfl⟩
  rfl
theorem is_16 (a b : Int) (w : World) : Calls Tryz.prog 155 #[vI vK 16, vI vK a, vI vK b] w fun e w' => e = .returned (.bool (isV 16 a b)) ∧ w' = w := by
  rw [isV_16]
  have ha := uns_wrap a
  have hb := uns_wrap b
  go_enter Tryz.func155, Tryz.ntmps155
  go_wp2
  go_ret
  refine ⟨ret_bool ?_, rfl⟩
  rfl
theorem is_17 (a b : Int) (w : World) : Calls Tryz.prog 155 #[vI vK 17, vI vK a, vI vK b] w fun e w' => e = .returned (.bool (isV 17 a b)) ∧ w' = w := by
  rw [isV_17]
  have ha := uns_wrap a
  have hb := uns_wrap b
  go_enter Tryz.func155, Tryz.ntmps155
  go_wp2
  go_ret
  refine ⟨ret_bool ?_, rfl⟩
  rfl
theorem is_18 (a b : Int) (w : World) : Calls Tryz.prog 155 #[vI vK 18, vI vK a, vI vK b] w fun e w' => e = .returned (.bool (isV 18 a b)) ∧ w' = w := by
  rw [isV_18]
  have ha := uns_wrap a
  have hb := uns_wrap b
  go_enter Tryz.func155, Tryz.ntmps155
  go_wp2
  go_ret
  refine ⟨ret_bool ?_, rfl⟩
  rfl
theorem is_19 (a b : Int) (w : World) : Calls Tryz.prog 155 #[vI vK 19, vI vK a, vI vK b] w fun e w' => e = .returned (.bool (isV 19 a b)) ∧ w' = w := by
  rw [isV_19]
  have ha := uns_wrap a
  have hb := uns_wrap b
  go_enter Tryz.func155, Tryz.ntmps155
  go_wp2
  go_ret
  refine ⟨ret_bool ?_, rfl⟩
  rfl
theorem is_20 (a b : Int) (w : World) : Calls Tryz.prog 155 #[vI vK 20, vI vK a, vI vK b] w fun e w' => e = .returned (.bool (isV 20 a b)) ∧ w' = w := by
  rw [isV_20]
  have ha := uns_wrap a
  have hb := uns_wrap b
  go_enter Tryz.func155, Tryz.ntmps155
  go_wp2
  go_ret
  refine ⟨ret_bool ?_, rfl⟩
  rfl
theorem is_21 (a b : Int) (w : World) : Calls Tryz.prog 155 #[vI vK 21, vI vK a, vI vK b] w fun e w' => e = .returned (.bool (isV 21 a b)) ∧ w' = w := by
  rw [isV_21]
  have ha := uns_wrap a
  have hb := uns_wrap b
  go_enter Tryz.func155, Tryz.ntmps155
  go_wp2
  go_ret
  refine ⟨ret_bool ?_, rfl⟩
  rfl
theorem is_22 (a b : Int) (w : World) : Calls Tryz.prog 155 #[vI vK 22, vI vK a, vI vK b] w fun e w' => e = .returned (.bool (isV 22 a b)) ∧ w' = w := by
  rw [isV_22]
  have ha := uns_wrap a
  have hb := uns_wrap b
  go_enter Tryz.func155, Tryz.ntmps155
  go_wp2
  go_ret
  refine ⟨ret_bool ?_, rfl⟩
  rfl
theorem is_23 (a b : Int) (w : World) : Calls Tryz.prog 155 #[vI vK 23, vI vK a, vI vK b] w fun e w' => e = .returned (.bool (isV 23 a b)) ∧ w' = w := by
  rw [isV_23]
  have ha := uns_wrap a
  have hb := uns_wrap b
  go_enter Tryz.func155, Tryz.ntmps155
  go_wp2
  go_ret
  refine ⟨ret_bool ?_, rfl⟩
  rfl
theorem is_24 (a b : Int) (w : World) : Calls Tryz.prog 155 #[vI vK 24, vI vK a, vI vK b] w fun e w' => e = .returned (.bool (isV 24 a b)) ∧ w' = w := by
  rw [isV_24]
  have ha := uns_wrap a
  have hb := uns_wrap b
  go_enter Tryz.func155, Tryz.ntmps155
  go_wp2
  go_ret
  refine ⟨ret_bool ?_, rfl⟩
  rfl
theorem is_no (c a b : Int) (hc : c < 15 ∨ 24 < c) (w : World) : Calls Tryz.prog 155 #[vI vK c, vI vK a, vI vK b] w fun e w' => e = .returned (.bool (isV c a b)) ∧ w' = w := by
  rw [isV_no a b hc]
  go_enter Tryz.func155, Tryz.ntmps155
  go_wp2
  go_ret
  exact ⟨rfl, rfl⟩
theorem does_any (c a b : Int) (k0 : -9223372036854775808 ≤ b) (k1 : b ≤ 9223372036854775807) (w : World) : Calls Tryz.prog 185 #[vI vK c, vI vK a, vI vK b] w fun e w' => e = .returned (vI vK (doesV c a b)) ∧ w' = w := by
  by_cases hc : c < 1 ∨ 13 < c
  · exact does_no c a b hc w
  · have h : c = 1 ∨ c = 2 ∨ c = 3 ∨ c = 4 ∨ c = 5 ∨ c = 6 ∨ c = 7 ∨ c = 8 ∨ c = 9 ∨ c = 10 ∨ c = 11 ∨ c = 12 ∨ c = 13 := by omega
    rcases h with rfl | rfl | rfl | rfl | rfl | rfl | rfl | rfl | rfl | rfl | rfl | rfl | rfl
    · exact does_1 a b w
    · exact does_2 a b w
    · exact does_3 a b w
    · exact does_4 a b w
    · exact does_5 a b k0 k1 w
    · exact does_6 a b k0 k1 w
    · exact does_7 a b w
    · exact does_8 a b w
    · exact does_9 a b w
    · exact does_10 a b w
    · exact does_11 a b w
    · exact does_12 a b w
    · exact does_13 a b w
theorem is_any (c a b : Int) (w : World) : Calls Tryz.prog 155 #[vI vK c, vI vK a, vI vK b] w fun e w' => e = .returned (.bool (isV c a b)) ∧ w' = w := by
  by_cases hc : c < 15 ∨ 24 < c
  · exact is_no c a b hc w
  · have h : c = 15 ∨ c = 16 ∨ c = 17 ∨ c = 18 ∨ c = 19 ∨ c = 20 ∨ c = 21 ∨ c = 22 ∨ c = 23 ∨ c = 24 := by omega
    rcases h with rfl | rfl | rfl | rfl | rfl | rfl | rfl | rfl | rfl | rfl
    · exact is_15 a b w
    · exact is_16 a b w
    · exact is_17 a b w
    · exact is_18 a b w
    · exact is_19 a b w
    · exact is_20 a b w
    · exact is_21 a b w
    · exact is_22 a b w
    · exact is_23 a b w
    · exact is_24 a b w
theorem fill_any (n : Int) (h0 : -9223372036854775808 ≤ n) (h1 : n ≤ 9223372036854775807) (w : World) : Calls Tryz.prog 219 #[vI vK n] w fun e w' => e = .returned (vI vK (fillV n)) ∧ w' = w := by
  by_cases hn : n ≤ 0
  · have hd : fillV n = 0 := by
      unfold fillV
      rw [show n.toNat = 0 by omega]
      rfl
    rw [hd]
    go_enter Tryz.func219, Tryz.ntmps219
    go_wp2
    go_ret
    exact ⟨rfl, rfl⟩
  · obtain ⟨m, rfl⟩ : ∃ m : Nat, n = (m : Int) := ⟨n.toNat, by omega⟩
    have hl : lenV m ≤ 63 := lenV_le (Nat.lt_of_lt_of_eq (show m < 9223372036854775808 by omega) (by decide))
    go_enter Tryz.func219, Tryz.ntmps219
    go_wp2_with (go_at_call 210; refine (len64 _ _ (by omega)).mono ?_; rintro e w' ⟨rfl, rfl⟩)
    go_ret
    exact ⟨ret_i64 (fill_eq m hl), rfl⟩
structure Val where
  k : Int
  n : Int
  c : Int
section
variable (code ak an ac bk bn bc : Int) (w : World)
end
section
variable (k n c off : Int) (w : World)
end
end Go.Proofs.YtednmkhdehlojaaGreatDoor
namespace Go.Proofs.YtednmkhdehlojaaGreatDoor
open Go.RowKit

def fits (n : Int) : Bool := decide (-9223372036854775808 ≤ n) && decide (n ≤ 9223372036854775807)
theorem fits_iff (n : Int) : fits n = true ↔ -9223372036854775808 ≤ n ∧ n ≤ 9223372036854775807 := by simp [fits]
def fit2 (x y : Int) : Int × Int := if fits x && fits y then (x, y) else (-9223372036854775808, 9223372036854775807)
theorem fit2_yes {x y : Int} (h : (fits x && fits y) = true) : fit2 x y = (x, y) := by unfold fit2; rw [if_pos h]
theorem fit2_no {x y : Int} (h : (fits x && fits y) = false) : fit2 x y = (-9223372036854775808, 9223372036854775807) := by unfold fit2; rw [h]; rfl
theorem plus_fits {a b : Int} (h0 : -9223372036854775808 ≤ a) (h1 : a ≤ 9223372036854775807) (h2 : -9223372036854775808 ≤ b) (h3 : b ≤ 9223372036854775807) :
    (decide (a ≤ wrap64 (a + b)) == decide (0 ≤ b)) = fits (a + b) := by
  rw [Bool.eq_iff_iff, fits_iff, beq_iff_eq, Bool.eq_iff_iff, decide_eq_true_eq, decide_eq_true_eq]
  unfold wrap64
  omega
theorem minus_fits {a b : Int} (h0 : -9223372036854775808 ≤ a) (h1 : a ≤ 9223372036854775807) (h2 : -9223372036854775808 ≤ b) (h3 : b ≤ 9223372036854775807) :
    (decide (wrap64 (a - b) ≤ a) == decide (0 ≤ b)) = fits (a - b) := by
  rw [Bool.eq_iff_iff, fits_iff, beq_iff_eq, Bool.eq_iff_iff, decide_eq_true_eq, decide_eq_true_eq]
  unfold wrap64
  omega
theorem fit2_1 (u v : Int) : (if fits u && fits v then wrap64 u else -9223372036854775808) = (fit2 u v).1 := by
  cases h : fits u && fits v
  · rw [fit2_no h]; rfl
  · rw [fit2_yes h]
    simp only [Bool.and_eq_true, fits_iff] at h
    exact wrap64_in h.1.1 h.1.2
theorem fit2_2 (u v : Int) : (if fits u && fits v then wrap64 v else 9223372036854775807) = (fit2 u v).2 := by
  cases h : fits u && fits v
  · rw [fit2_no h]; rfl
  · rw [fit2_yes h]
    simp only [Bool.and_eq_true, fits_iff] at h
    exact wrap64_in h.2.1 h.2.2
theorem back_fits {a : Int} {k : Nat} (hk : k < 64) : (wrap64 (a * 2 ^ k) / 2 ^ k == a) = fits (a * 2 ^ k) := by
  have hp : (0 : Int) < 2 ^ k := Int.pow_pos (by decide)
  have hd : ∃ q : Int, wrap64 (a * 2 ^ k) = q * 2 ^ k := by
    have e : wrap64 (a * 2 ^ k) = a * 2 ^ k - 18446744073709551616 * ((a * 2 ^ k + 9223372036854775808) / 18446744073709551616) := by unfold wrap64; omega
    have e2 : (18446744073709551616 : Int) = 2 ^ (64 - k) * 2 ^ k := by
      rw [← Int.pow_add, show 64 - k + k = 64 by omega]; rfl
    refine ⟨a - 2 ^ (64 - k) * ((a * 2 ^ k + 9223372036854775808) / 18446744073709551616), ?_⟩
    rw [e, Int.sub_mul, Int.mul_right_comm, ← e2]
  obtain ⟨q, hq⟩ := hd
  have hb := wrap64_bd (a * 2 ^ k)
  rw [Bool.eq_iff_iff, beq_iff_eq, fits_iff]
  constructor
  · intro h
    rw [hq, Int.mul_ediv_cancel _ (by omega)] at h
    rw [hq, h] at hb
    exact hb
  · intro h
    rw [wrap64_in h.1 h.2, Int.mul_ediv_cancel _ (by omega)]

def smallB (n : Int) : Bool := decide (-2147483648 ≤ n) && decide (n ≤ 2147483648)
theorem small_iff (n : Int) : smallB n = true ↔ -2147483648 ≤ n ∧ n ≤ 2147483648 := by simp [smallB]
def mulLo (al ah bl bh : Int) : Int := min (min (min (al * bl) (al * bh)) (ah * bl)) (ah * bh)
def mulHi (al ah bl bh : Int) : Int := max (max (max (al * bl) (al * bh)) (ah * bl)) (ah * bh)
def bdV (c al ah bl bh : Int) : Int × Int :=
  if c = 1 then (bl, bh)
  else if c = 2 then fit2 (al + bl) (ah + bh)
  else if c = 3 then fit2 (al - bh) (ah - bl)
  else if c = 4 then (if smallB al && smallB ah && smallB bl && smallB bh then (mulLo al ah bl bh, mulHi al ah bl bh) else (-9223372036854775808, 9223372036854775807))
  else if c = 5 then (if 0 ≤ al ∧ 0 ≤ bl then (if 0 < bl then (al / bh, ah / bl) else (0, ah)) else (-9223372036854775808, 9223372036854775807))
  else if c = 6 then (if 0 ≤ al ∧ 0 ≤ bl then (if 0 < bl then (0, min ah (bh - 1)) else (0, ah)) else (-9223372036854775808, 9223372036854775807))
  else if c = 7 then (if 0 ≤ al then (if 0 ≤ bl then (0, min ah bh) else (0, ah)) else if 0 ≤ bl then (0, bh) else (-9223372036854775808, 9223372036854775807))
  else if c = 8 then (if 0 ≤ al ∧ 0 ≤ bl then (max al bl, fillV (max ah bh)) else (-9223372036854775808, 9223372036854775807))
  else if c = 9 then (if 0 ≤ al ∧ 0 ≤ bl then (0, fillV (max ah bh)) else (-9223372036854775808, 9223372036854775807))
  else if c = 10 then (if bl = bh then fit2 (al * 2 ^ sixBits bl) (ah * 2 ^ sixBits bl) else (-9223372036854775808, 9223372036854775807))
  else if c = 11 then (if bl = bh then (if sixBits bl = 0 then (al, ah) else if 0 ≤ al then (al / 2 ^ sixBits bl, ah / 2 ^ sixBits bl) else (0, 2 ^ (64 - sixBits bl) - 1)) else if 0 ≤ al then (0, ah) else (-9223372036854775808, 9223372036854775807))
  else if c = 12 then (if bl = bh then (al / 2 ^ sixBits bl, ah / 2 ^ sixBits bl) else if 0 ≤ al then (0, ah) else if ah < 0 then (al, -1) else (al, ah))
  else if c = 13 then fit2 (-ah) (-al)
  else (-9223372036854775808, 9223372036854775807)
theorem bdV_1 (al ah bl bh : Int) : bdV 1 al ah bl bh = (bl, bh) := by simp only [bdV, reduceIte, Int.reduceEq]
theorem bdV_2 (al ah bl bh : Int) : bdV 2 al ah bl bh = fit2 (al + bl) (ah + bh) := by simp only [bdV, reduceIte, Int.reduceEq]
theorem bdV_3 (al ah bl bh : Int) : bdV 3 al ah bl bh = fit2 (al - bh) (ah - bl) := by simp only [bdV, reduceIte, Int.reduceEq]
theorem bdV_4 (al ah bl bh : Int) : bdV 4 al ah bl bh = (if smallB al && smallB ah && smallB bl && smallB bh then (mulLo al ah bl bh, mulHi al ah bl bh) else (-9223372036854775808, 9223372036854775807)) := by simp only [bdV, reduceIte, Int.reduceEq]
theorem bdV_5 (al ah bl bh : Int) : bdV 5 al ah bl bh = (if 0 ≤ al ∧ 0 ≤ bl then (if 0 < bl then (al / bh, ah / bl) else (0, ah)) else (-9223372036854775808, 9223372036854775807)) := by simp only [bdV, reduceIte, Int.reduceEq]
theorem bdV_6 (al ah bl bh : Int) : bdV 6 al ah bl bh = (if 0 ≤ al ∧ 0 ≤ bl then (if 0 < bl then (0, min ah (bh - 1)) else (0, ah)) else (-9223372036854775808, 9223372036854775807)) := by simp only [bdV, reduceIte, Int.reduceEq]
theorem bdV_7 (al ah bl bh : Int) : bdV 7 al ah bl bh = (if 0 ≤ al then (if 0 ≤ bl then (0, min ah bh) else (0, ah)) else if 0 ≤ bl then (0, bh) else (-9223372036854775808, 9223372036854775807)) := by simp only [bdV, reduceIte, Int.reduceEq]
theorem bdV_8 (al ah bl bh : Int) : bdV 8 al ah bl bh = (if 0 ≤ al ∧ 0 ≤ bl then (max al bl, fillV (max ah bh)) else (-9223372036854775808, 9223372036854775807)) := by simp only [bdV, reduceIte, Int.reduceEq]
theorem bdV_9 (al ah bl bh : Int) : bdV 9 al ah bl bh = (if 0 ≤ al ∧ 0 ≤ bl then (0, fillV (max ah bh)) else (-9223372036854775808, 9223372036854775807)) := by simp only [bdV, reduceIte, Int.reduceEq]
theorem bdV_10 (al ah bl bh : Int) : bdV 10 al ah bl bh = (if bl = bh then fit2 (al * 2 ^ sixBits bl) (ah * 2 ^ sixBits bl) else (-9223372036854775808, 9223372036854775807)) := by simp only [bdV, reduceIte, Int.reduceEq]
theorem bdV_11 (al ah bl bh : Int) : bdV 11 al ah bl bh = (if bl = bh then (if sixBits bl = 0 then (al, ah) else if 0 ≤ al then (al / 2 ^ sixBits bl, ah / 2 ^ sixBits bl) else (0, 2 ^ (64 - sixBits bl) - 1)) else if 0 ≤ al then (0, ah) else (-9223372036854775808, 9223372036854775807)) := by simp only [bdV, reduceIte, Int.reduceEq]
theorem bdV_12 (al ah bl bh : Int) : bdV 12 al ah bl bh = (if bl = bh then (al / 2 ^ sixBits bl, ah / 2 ^ sixBits bl) else if 0 ≤ al then (0, ah) else if ah < 0 then (al, -1) else (al, ah)) := by simp only [bdV, reduceIte, Int.reduceEq]
theorem bdV_13 (al ah bl bh : Int) : bdV 13 al ah bl bh = fit2 (-ah) (-al) := by simp only [bdV, reduceIte, Int.reduceEq]
theorem bdV_no {c : Int} (al ah bl bh : Int) (h : c < 1 ∨ 13 < c) : bdV c al ah bl bh = (-9223372036854775808, 9223372036854775807) := by
  have e : ∀ k : Int, 1 ≤ k → k ≤ 13 → c ≠ k := fun k h1 h2 => by omega
  unfold bdV
  rw [if_neg (e 1 (by decide) (by decide)), if_neg (e 2 (by decide) (by decide)), if_neg (e 3 (by decide) (by decide)), if_neg (e 4 (by decide) (by decide)), if_neg (e 5 (by decide) (by decide)), if_neg (e 6 (by decide) (by decide)), if_neg (e 7 (by decide) (by decide)), if_neg (e 8 (by decide) (by decide)), if_neg (e 9 (by decide) (by decide)), if_neg (e 10 (by decide) (by decide)), if_neg (e 11 (by decide) (by decide)), if_neg (e 12 (by decide) (by decide)), if_neg (e 13 (by decide) (by decide))]

theorem uns_pos {a : Int} (h0 : 0 ≤ a) (h1 : a ≤ 9223372036854775807) : (uns a : Int) = a := by rw [uns_eq]; omega
theorem div_ends {a b : Int} (h0 : 0 ≤ a) (h1 : a ≤ 9223372036854775807) (h2 : 0 < b) (h3 : b ≤ 9223372036854775807) : doesV 5 a b = a / b := by
  rw [doesV_5 a (by omega), Int.natCast_ediv, uns_pos h0 h1, uns_pos (by omega) h3]
  have l := Int.ediv_nonneg h0 (Int.le_of_lt h2)
  have g := Int.ediv_le_self b h0
  exact wrap64_in (by omega) (by omega)
theorem rsh_ends {a b : Int} (h0 : 0 ≤ a) (h1 : a ≤ 9223372036854775807) : doesV 11 a b = a / 2 ^ sixBits b := by
  have hp : (0 : Int) < 2 ^ sixBits b := Int.pow_pos (by decide)
  rw [doesV_11, Int.natCast_ediv, uns_pos h0 h1, Int.natCast_pow]
  have l := Int.ediv_nonneg h0 (Int.le_of_lt hp)
  have g := Int.ediv_le_self (2 ^ sixBits b) h0
  exact wrap64_in (Int.le_trans (by decide) l) (Int.le_trans g h1)
theorem rsh_none {a b : Int} (h0 : -9223372036854775808 ≤ a) (h1 : a ≤ 9223372036854775807) (h : sixBits b = 0) : doesV 11 a b = a := by
  rw [doesV_11, h, Nat.pow_zero, Nat.div_one, wrap64_uns, wrap64_in h0 h1]
theorem rsh_ones {b : Int} (h : sixBits b ≠ 0) : doesV 11 (-1) b = 2 ^ (64 - sixBits b) - 1 := by
  have hb := sixBits_lt b
  rw [doesV_11]
  generalize sixBits b = k at *
  have e : uns (-1) = 18446744073709551615 := by decide
  rw [e]
  have e2 : (18446744073709551616 : Nat) = 2 ^ (64 - k) * 2 ^ k := by rw [← Nat.pow_add, show 64 - k + k = 64 by omega]
  have hp : 0 < 2 ^ k := Nat.two_pow_pos k
  have e3 : 18446744073709551615 / 2 ^ k = 2 ^ (64 - k) - 1 := by
    have hq : 0 < 2 ^ (64 - k) := Nat.two_pow_pos _
    rw [show (18446744073709551615 : Nat) = 2 ^ k * (2 ^ (64 - k) - 1) + (2 ^ k - 1) by rw [Nat.mul_sub_one, Nat.mul_comm, ← e2]; have := Nat.le_mul_of_pos_left (2 ^ k) hq; omega, Nat.mul_add_div hp, Nat.div_eq_of_lt (by omega), Nat.add_zero]
  rw [e3]
  have hle : 2 ^ (64 - k) ≤ 2 ^ 63 := Nat.pow_le_pow_right (by decide) (by omega)
  have hq : 0 < 2 ^ (64 - k) := Nat.two_pow_pos _
  have e4 : ((2 ^ (64 - k) - 1 : Nat) : Int) = 2 ^ (64 - k) - 1 := by rw [Int.natCast_sub hq, Int.natCast_pow]; rfl
  rw [e4]
  have l1 : (2 : Int) ^ (64 - k) ≤ 9223372036854775808 := by
    have := Int.ofNat_le.2 hle
    rw [Int.natCast_pow] at this
    exact this
  have l2 : (1 : Int) ≤ 2 ^ (64 - k) := Int.pow_pos (by decide)
  exact wrap64_in (by omega) (by omega)
theorem sixBits_mod (b : Int) : sixBits (b % 64) = sixBits b := by unfold sixBits; omega
theorem small_mul {x y : Int} (hx : smallB x = true) (hy : smallB y = true) : wrap64 (x * y) = x * y := by
  rw [small_iff] at hx hy
  have h1 : (x * y).natAbs = x.natAbs * y.natAbs := Int.natAbs_mul x y
  have h2 : x.natAbs * y.natAbs ≤ 2147483648 * 2147483648 := Nat.mul_le_mul (by omega) (by omega)
  exact wrap64_in (by omega) (by omega)

theorem doesV_bd {c x y : Int} (hc : 1 ≤ c ∧ c ≤ 13) (px : -9223372036854775808 ≤ x) (qx : x ≤ 9223372036854775807) (py : -9223372036854775808 ≤ y) (qy : y ≤ 9223372036854775807) :
    -9223372036854775808 ≤ doesV c x y ∧ doesV c x y ≤ 9223372036854775807 := by
  have h : c = 1 ∨ c = 2 ∨ c = 3 ∨ c = 4 ∨ c = 5 ∨ c = 6 ∨ c = 7 ∨ c = 8 ∨ c = 9 ∨ c = 10 ∨ c = 11 ∨ c = 12 ∨ c = 13 := by omega
  rcases h with rfl | rfl | rfl | rfl | rfl | rfl | rfl | rfl | rfl | rfl | rfl | rfl | rfl
  · rw [doesV_1]; exact ⟨py, qy⟩
  · rw [doesV_2]; exact wrap64_bd _
  · rw [doesV_3]; exact wrap64_bd _
  · rw [doesV_4]; exact wrap64_bd _
  · by_cases hy : y = 0
    · subst hy; rw [doesV_5z]; decide
    · rw [doesV_5 x hy]; exact wrap64_bd _
  · by_cases hy : y = 0
    · subst hy; rw [doesV_6z]; exact ⟨px, qx⟩
    · rw [doesV_6 x hy]; exact wrap64_bd _
  · rw [doesV_7]; exact wrap64_bd _
  · rw [doesV_8]; exact wrap64_bd _
  · rw [doesV_9]; exact wrap64_bd _
  · rw [doesV_10]; exact wrap64_bd _
  · rw [doesV_11]; exact wrap64_bd _
  · rw [doesV_12]
    have hp : (0 : Int) < 2 ^ sixBits y := Int.pow_pos (by decide)
    have h1 : x / 2 ^ sixBits y * 2 ^ sixBits y ≤ x := Int.ediv_mul_le x (by omega)
    have h2 := Int.lt_ediv_add_one_mul_self x hp
    generalize x / 2 ^ sixBits y = q at *
    generalize (2 : Int) ^ sixBits y = m at *
    constructor
    · by_cases hq : -9223372036854775808 ≤ q
      · exact hq
      · have : (q + 1) * m ≤ (q + 1) * 1 := Int.mul_le_mul_of_nonpos_left (by omega) (by omega)
        omega
    · by_cases hq : q ≤ 9223372036854775807
      · exact hq
      · have : q * 1 ≤ q * m := Int.mul_le_mul_of_nonneg_left (by omega) (by omega)
        omega
  · rw [doesV_13]; exact wrap64_bd _

theorem lin_between {k l h y : Int} (h1 : l ≤ y) (h2 : y ≤ h) : min (k * l) (k * h) ≤ k * y ∧ k * y ≤ max (k * l) (k * h) := by
  by_cases hk : 0 ≤ k
  · have a := Int.mul_le_mul_of_nonneg_left h1 hk
    have b := Int.mul_le_mul_of_nonneg_left h2 hk
    omega
  · have a := Int.mul_le_mul_of_nonpos_left (by omega : k ≤ 0) h1
    have b := Int.mul_le_mul_of_nonpos_left (by omega : k ≤ 0) h2
    omega
theorem mul_between {al ah bl bh x y : Int} (h1 : al ≤ x) (h2 : x ≤ ah) (h3 : bl ≤ y) (h4 : y ≤ bh) : mulLo al ah bl bh ≤ x * y ∧ x * y ≤ mulHi al ah bl bh := by
  have a := lin_between (k := y) h1 h2
  have b := lin_between (k := al) h3 h4
  have c := lin_between (k := ah) h3 h4
  rw [Int.mul_comm y x, Int.mul_comm y al, Int.mul_comm y ah] at a
  unfold mulLo mulHi
  generalize al * y = p at *
  generalize ah * y = q at *
  generalize x * y = r at *
  omega
theorem fit2_has {u v n z : Int} (h1 : u ≤ n) (h2 : n ≤ v) (hz : z = wrap64 n) : (fit2 u v).1 ≤ z ∧ z ≤ (fit2 u v).2 := by
  subst hz
  cases h : fits u && fits v
  · rw [fit2_no h]; exact wrap64_bd _
  · rw [fit2_yes h]
    simp only [Bool.and_eq_true, fits_iff] at h
    rw [wrap64_in (by omega) (by omega)]
    exact ⟨h1, h2⟩
theorem div_between {a x y : Int} (h0 : 0 ≤ x) (h1 : x ≤ a) (h2 : 0 < y) : 0 ≤ x / y ∧ x / y ≤ a := by
  have l := Int.ediv_nonneg h0 (Int.le_of_lt h2)
  have g := Int.ediv_le_self y h0
  omega
theorem div_mono {al ah bl bh x y : Int} (h0 : 0 ≤ al) (h1 : al ≤ x) (h2 : x ≤ ah) (h3 : 0 < bl) (h4 : bl ≤ y) (h5 : y ≤ bh) : al / bh ≤ x / y ∧ x / y ≤ ah / bl := by
  obtain ⟨a, rfl⟩ := Int.eq_ofNat_of_zero_le h0
  obtain ⟨m, rfl⟩ := Int.eq_ofNat_of_zero_le (by omega : 0 ≤ x)
  obtain ⟨b, rfl⟩ := Int.eq_ofNat_of_zero_le (by omega : 0 ≤ ah)
  obtain ⟨c, rfl⟩ := Int.eq_ofNat_of_zero_le (by omega : 0 ≤ bl)
  obtain ⟨d, rfl⟩ := Int.eq_ofNat_of_zero_le (by omega : 0 ≤ y)
  obtain ⟨e, rfl⟩ := Int.eq_ofNat_of_zero_le (by omega : 0 ≤ bh)
  have k1 : a / e ≤ m / d := Nat.div_le_div (by omega) (by omega) (by omega)
  have k2 : m / d ≤ b / c := Nat.div_le_div (by omega) (by omega) (by omega)
  exact ⟨Int.ofNat_le.2 k1, Int.ofNat_le.2 k2⟩
theorem mod_ends {x y : Int} (h0 : 0 ≤ x) (h1 : x ≤ 9223372036854775807) (h2 : 0 < y) (h3 : y ≤ 9223372036854775807) : doesV 6 x y = x % y := by
  rw [doesV_6 x (by omega), Int.natCast_emod, uns_pos h0 h1, uns_pos (by omega) h3]
  have l := Int.emod_nonneg x (by omega : y ≠ 0)
  have g := Int.emod_lt_of_pos x h2
  exact wrap64_in (by omega) (by omega)
theorem and_le {x y a : Int} (h0 : 0 ≤ x) (h1 : x ≤ a) (h2 : a ≤ 9223372036854775807) : 0 ≤ wrap64 ((uns x &&& uns y : Nat) : Int) ∧ wrap64 ((uns x &&& uns y : Nat) : Int) ≤ a := by
  have l : uns x &&& uns y ≤ uns x := Nat.and_le_left
  have e := uns_pos h0 (by omega)
  rw [wrap64_in (by omega) (by omega)]
  omega
theorem below_fill {x m : Int} (h0 : 0 ≤ x) (h1 : x ≤ m) : uns x < 2 ^ lenV m.toNat ∨ 9223372036854775807 < x := by
  by_cases hx : x ≤ 9223372036854775807
  · left
    have e := uns_pos h0 hx
    have l := lenV_hi m.toNat
    omega
  · right; omega
theorem fill_le {m : Int} (h : m ≤ 9223372036854775807) : lenV m.toNat ≤ 63 := lenV_le (Nat.lt_of_lt_of_eq (show m.toNat < 9223372036854775808 by omega) (by decide))
theorem or_fill {x y m : Int} (hx0 : 0 ≤ x) (hx : x ≤ m) (hy0 : 0 ≤ y) (hy : y ≤ m) (hm : m ≤ 9223372036854775807) : max x y ≤ wrap64 ((uns x ||| uns y : Nat) : Int) ∧ wrap64 ((uns x ||| uns y : Nat) : Int) ≤ fillV m := by
  have a := (below_fill hx0 hx).resolve_right (by omega)
  have b := (below_fill hy0 hy).resolve_right (by omega)
  have c := Nat.or_lt_two_pow a b
  have d := ones_lt (fill_le hm)
  have l1 : uns x ≤ uns x ||| uns y := Nat.left_le_or
  have l2 : uns y ≤ uns x ||| uns y := Nat.right_le_or
  have e1 := uns_pos hx0 (by omega)
  have e2 := uns_pos hy0 (by omega)
  unfold fillV
  unfold ones at d ⊢
  have p : 0 < 2 ^ lenV m.toNat := Nat.two_pow_pos _
  generalize 2 ^ lenV m.toNat = P at *
  generalize uns x ||| uns y = z at *
  rw [wrap64_in (by omega) (by omega)]
  omega
theorem xor_fill {x y m : Int} (hx0 : 0 ≤ x) (hx : x ≤ m) (hy0 : 0 ≤ y) (hy : y ≤ m) (hm : m ≤ 9223372036854775807) : 0 ≤ wrap64 ((uns x ^^^ uns y : Nat) : Int) ∧ wrap64 ((uns x ^^^ uns y : Nat) : Int) ≤ fillV m := by
  have a := (below_fill hx0 hx).resolve_right (by omega)
  have b := (below_fill hy0 hy).resolve_right (by omega)
  have c := Nat.xor_lt_two_pow a b
  have d := ones_lt (fill_le hm)
  unfold fillV
  unfold ones at d ⊢
  have p : 0 < 2 ^ lenV m.toNat := Nat.two_pow_pos _
  generalize 2 ^ lenV m.toNat = P at *
  generalize uns x ^^^ uns y = z at *
  rw [wrap64_in (by omega) (by omega)]
  omega
theorem half_mono {a b : Int} (k : Nat) (h : a ≤ b) : a / 2 ^ k ≤ b / 2 ^ k := Int.ediv_le_ediv (Int.pow_pos (by decide)) h
theorem half_bd {x : Int} (k : Nat) : (0 ≤ x → 0 ≤ x / 2 ^ k ∧ x / 2 ^ k ≤ x) ∧ (x < 0 → x ≤ x / 2 ^ k ∧ x / 2 ^ k ≤ -1) := by
  have hp : (0 : Int) < 2 ^ k := Int.pow_pos (by decide)
  have h1 : x / 2 ^ k * 2 ^ k ≤ x := Int.ediv_mul_le x (by omega)
  have h2 := Int.lt_ediv_add_one_mul_self x hp
  generalize x / 2 ^ k = q at *
  generalize (2 : Int) ^ k = m at *
  constructor
  · intro h
    have a : 0 ≤ q := by
      by_cases hq : 0 ≤ q
      · exact hq
      · have : (q + 1) * m ≤ (q + 1) * 1 := Int.mul_le_mul_of_nonpos_left (by omega) (by omega)
        omega
    have b : q * 1 ≤ q * m := Int.mul_le_mul_of_nonneg_left (by omega) a
    omega
  · intro h
    have a : q ≤ -1 := by
      by_cases hq : q ≤ -1
      · exact hq
      · have : q * 1 ≤ q * m := Int.mul_le_mul_of_nonneg_left (by omega) (by omega)
        omega
    have b : (q + 1) * m ≤ (q + 1) * 1 := Int.mul_le_mul_of_nonpos_left (by omega) (by omega)
    omega
theorem rsh_most {x : Int} (b : Int) (h : sixBits b ≠ 0) : 0 ≤ doesV 11 x b ∧ doesV 11 x b ≤ 2 ^ (64 - sixBits b) - 1 := by
  have r := rsh_ones (b := b) h
  rw [doesV_11] at r ⊢
  have hb := sixBits_lt b
  have hx := uns_lt x
  have e : uns (-1) = 18446744073709551615 := by decide
  have l : uns x / 2 ^ sixBits b ≤ uns (-1) / 2 ^ sixBits b := Nat.div_le_div_right (by omega)
  have k : uns (-1) / 2 ^ sixBits b ≤ 9223372036854775807 := by
    rw [e]
    have : 2 ^ 1 ≤ 2 ^ sixBits b := Nat.pow_le_pow_right (by decide) (by omega)
    exact Nat.le_trans (Nat.div_le_div_left this (by decide)) (by decide)
  rw [← r]
  generalize uns x / 2 ^ sixBits b = p at *
  generalize uns (-1) / 2 ^ sixBits b = q at *
  rw [wrap64_in (by omega) (by omega), wrap64_in (by omega) (by omega)]
  omega

theorem bdV_has {c al ah bl bh x y : Int} (hc : 1 ≤ c ∧ c ≤ 13) (pal : -9223372036854775808 ≤ al) (qah : ah ≤ 9223372036854775807) (pbl : -9223372036854775808 ≤ bl) (qbh : bh ≤ 9223372036854775807)
    (h1 : al ≤ x) (h2 : x ≤ ah) (h3 : bl ≤ y) (h4 : y ≤ bh) : (bdV c al ah bl bh).1 ≤ doesV c x y ∧ doesV c x y ≤ (bdV c al ah bl bh).2 := by
  have bd := doesV_bd (x := x) (y := y) hc (by omega) (by omega) (by omega) (by omega)
  have h : c = 1 ∨ c = 2 ∨ c = 3 ∨ c = 4 ∨ c = 5 ∨ c = 6 ∨ c = 7 ∨ c = 8 ∨ c = 9 ∨ c = 10 ∨ c = 11 ∨ c = 12 ∨ c = 13 := by omega
  rcases h with rfl | rfl | rfl | rfl | rfl | rfl | rfl | rfl | rfl | rfl | rfl | rfl | rfl
  · rw [bdV_1, doesV_1]; exact ⟨h3, h4⟩
  · rw [bdV_2]; exact fit2_has (n := x + y) (by omega) (by omega) (doesV_2 x y)
  · rw [bdV_3]; exact fit2_has (n := x - y) (by omega) (by omega) (doesV_3 x y)
  · rw [bdV_4]
    split
    · rename_i hs
      simp only [Bool.and_eq_true, small_iff] at hs
      rw [doesV_4, small_mul ((small_iff x).2 (by omega)) ((small_iff y).2 (by omega))]
      exact mul_between h1 h2 h3 h4
    · exact bd
  · rw [bdV_5]
    split
    · split
      · rw [div_ends (by omega) (by omega) (by omega) (by omega)]
        exact div_mono (by omega) h1 h2 (by omega) h3 h4
      · by_cases hy : y = 0
        · subst hy; rw [doesV_5z]; show (0 : Int) ≤ 0 ∧ 0 ≤ ah; omega
        · rw [div_ends (by omega) (by omega) (by omega) (by omega)]
          exact div_between (by omega) h2 (by omega)
    · exact bd
  · rw [bdV_6]
    split
    · split
      · rw [mod_ends (by omega) (by omega) (by omega) (by omega)]
        have l := Int.emod_nonneg x (by omega : y ≠ 0)
        have g := Int.emod_lt_of_pos x (by omega : 0 < y)
        have m : x % y ≤ x := by
          by_cases hxy : x < y
          · rw [Int.emod_eq_of_lt (by omega) hxy]; omega
          · omega
        show 0 ≤ x % y ∧ x % y ≤ min ah (bh - 1)
        omega
      · by_cases hy : y = 0
        · subst hy; rw [doesV_6z]; show (0 : Int) ≤ x ∧ x ≤ ah; omega
        · rw [mod_ends (by omega) (by omega) (by omega) (by omega)]
          have l := Int.emod_nonneg x (by omega : y ≠ 0)
          have g := Int.emod_lt_of_pos x (by omega : 0 < y)
          have m : x % y ≤ x := by
            by_cases hxy : x < y
            · rw [Int.emod_eq_of_lt (by omega) hxy]; omega
            · omega
          show 0 ≤ x % y ∧ x % y ≤ ah
          omega
    · exact bd
  · rw [bdV_7, doesV_7]
    rw [doesV_7] at bd
    split
    · have a := and_le (y := y) (by omega : 0 ≤ x) h2 qah
      split
      · have b := and_le (y := x) (by omega : 0 ≤ y) h4 qbh
        rw [Nat.and_comm] at b
        generalize wrap64 ((uns x &&& uns y : Nat) : Int) = z at *
        show 0 ≤ z ∧ z ≤ min ah bh
        omega
      · exact a
    · split
      · have b := and_le (y := x) (by omega : 0 ≤ y) h4 qbh
        rw [Nat.and_comm] at b
        exact b
      · exact bd
  · rw [bdV_8]
    split
    · have a := or_fill (m := max ah bh) (by omega : 0 ≤ x) (by omega) (by omega : 0 ≤ y) (by omega) (by omega)
      rw [doesV_8]
      refine ⟨?_, a.2⟩
      show max al bl ≤ _
      exact Int.le_trans (by omega) a.1
    · exact bd
  · rw [bdV_9]
    split
    · rw [doesV_9]
      exact xor_fill (m := max ah bh) (by omega : 0 ≤ x) (by omega) (by omega : 0 ≤ y) (by omega) (by omega)
    · exact bd
  · rw [bdV_10]
    split
    · obtain rfl : y = bl := by omega
      have hp : (0 : Int) ≤ 2 ^ sixBits y := Int.le_of_lt (Int.pow_pos (by decide))
      exact fit2_has (Int.mul_le_mul_of_nonneg_right h1 hp) (Int.mul_le_mul_of_nonneg_right h2 hp) (doesV_10 x y)
    · exact bd
  · rw [bdV_11]
    split
    · obtain rfl : y = bl := by omega
      split
      · rw [rsh_none (by omega) (by omega) (by assumption)]; exact ⟨h1, h2⟩
      · split
        · rw [rsh_ends (by omega) (by omega)]
          exact ⟨half_mono _ h1, half_mono _ h2⟩
        · exact rsh_most y (by assumption)
    · split
      · rw [rsh_ends (by omega) (by omega)]
        have a := (half_bd (x := x) (sixBits y)).1 (by omega)
        show 0 ≤ x / 2 ^ sixBits y ∧ x / 2 ^ sixBits y ≤ ah
        omega
      · exact bd
  · rw [bdV_12, doesV_12]
    have a := half_bd (x := x) (sixBits y)
    split
    · obtain rfl : y = bl := by omega
      exact ⟨half_mono _ h1, half_mono _ h2⟩
    · split
      · show 0 ≤ x / 2 ^ sixBits y ∧ x / 2 ^ sixBits y ≤ ah
        have := a.1 (by omega)
        omega
      · split
        · show al ≤ x / 2 ^ sixBits y ∧ x / 2 ^ sixBits y ≤ -1
          have := a.2 (by omega)
          omega
        · show al ≤ x / 2 ^ sixBits y ∧ x / 2 ^ sixBits y ≤ ah
          by_cases hx : 0 ≤ x
          · have := a.1 hx; omega
          · have := a.2 (by omega); omega
  · rw [bdV_13]; exact fit2_has (n := -x) (by omega) (by omega) (doesV_13 x y)
section
variable {c ak an ac bk bn bc o n : Int} {r : Bool}
end

structure Abs where
  reg : Nat → Val
  slot : Nat → Val
  word : Nat → Int
  cel : Nat → Int
  time : Int
  out : List Int
def none0 : Val := ⟨0, 0, 0⟩
section
variable {C D S O N : Nat → Int} {R : Nat → Bool} {len pc k : Nat} {a : Abs}
end
def In64 (n : Int) : Prop := -9223372036854775808 ≤ n ∧ n ≤ 9223372036854775807
end Go.Proofs.YtednmkhdehlojaaGreatDoor
namespace Go.Proofs.YtednmkhdehlojaaGreatDoor
open Go.RowKit
structure Kno where
  k : Int
  l : Int
  h : Int
def Kno.Ok (x : Kno) : Prop := 0 ≤ x.k ∧ x.k ≤ 5 ∧ In64 x.l ∧ In64 x.h ∧ x.l ≤ x.h
def kno0 : Kno := ⟨0, 0, 0⟩
def knoNum (l h : Int) : Kno := ⟨1, l, h⟩
def knoWant (x : Kno) : Int := if x.k = 0 then 8 else if x.k = 1 then 0 else 1
def knoFurther (k : Int) (b : Int × Int) : Kno × Int := if b.1 = -9223372036854775808 ∧ b.2 = 9223372036854775807 then (kno0, 2) else (⟨k, b.1, b.2⟩, 0)
def knoMakes (c : Int) (a b : Kno) : Kno × Int :=
  if b.k = 0 ∨ (a.k = 0 ∧ c ≠ 1) then (kno0, 8)
  else if c = 1 then (b, 0)
  else if a.k = 1 ∧ b.k = 1 then (knoNum (bdV c a.l a.h b.l b.h).1 (bdV c a.l a.h b.l b.h).2, 0)
  else if (a.k = 2 ∨ a.k = 3 ∨ a.k = 4) ∧ b.k = 1 ∧ (c = 2 ∨ c = 3) then knoFurther a.k (bdV c a.l a.h b.l b.h)
  else if a.k = 1 ∧ (b.k = 2 ∨ b.k = 3 ∨ b.k = 4) ∧ c = 2 then knoFurther b.k (bdV c a.l a.h b.l b.h)
  else (kno0, 1)
def knoRoom (k : Int) : Int × Int := if k = 2 then (0, 7) else if k = 3 then (-16, -1) else (0, 3)
def knoTo (x : Kno) (o : Int) : Int × Int := bdV 2 x.l x.h o o
def knoReach (x : Kno) (o : Int) : (Int × Int) × Int :=
  if x.k = 0 then ((0, 0), 8)
  else if x.k = 1 ∨ x.k = 5 then ((0, 0), 1)
  else if (knoTo x o).1 < (knoRoom x.k).1 ∨ (knoRoom x.k).2 < (knoTo x o).2 then ((0, 0), 2)
  else (knoTo x o, 0)
structure Way where
  reg : Nat → Kno
  slot : Nat → Kno
def Way.putReg (y : Way) (d : Nat) (x : Kno) : Way := { y with reg := fun i => if i = d then x else y.reg i }
def Way.putSlot (y : Way) (t : Nat) (x : Kno) : Way := { y with slot := fun i => if i = t then x else y.slot i }
def Way.second (y : Way) (s : Nat) (r : Bool) (n : Int) : Kno := if r then y.reg s else knoNum n n
def Way.lose (y : Way) : Way := { y with reg := fun i => if 1 ≤ i ∧ i ≤ 5 then kno0 else y.reg i }
structure Way.Ok (y : Way) : Prop where
  reg : ∀ i, i < 11 → (y.reg i).Ok
  slot : ∀ i, i < 16 → (y.slot i).Ok
def firstBad : List Kno → Int
  | [] => 0
  | x :: l => if knoWant x = 0 then firstBad l else knoWant x
def joinFrom : Int × Int → List Kno → Int × Int
  | p, [] => p
  | p, x :: l => joinFrom (min p.1 x.l, max p.2 x.h) l
def joinL : List Kno → Int × Int
  | [] => (0, 0)
  | x :: l => joinFrom (x.l, x.h) l
def Way.row (y : Way) (t n : Nat) : List Kno := (List.range' t n).map y.slot
def Way.kept (y : Way) (p : Int × Int) : Kno × Int :=
  if p.1 = p.2 ∧ (y.slot (p.1 + 16).toNat).k ≠ 0 then (y.slot (p.1 + 16).toNat, 0)
  else if firstBad (y.row (p.1 + 16).toNat (p.2 - p.1 + 1).toNat) ≠ 0 then (kno0, firstBad (y.row (p.1 + 16).toNat (p.2 - p.1 + 1).toNat))
  else (knoNum (joinL (y.row (p.1 + 16).toNat (p.2 - p.1 + 1).toNat)).1 (joinL (y.row (p.1 + 16).toNat (p.2 - p.1 + 1).toNat)).2, 0)
def Way.load (y : Way) (d s : Nat) (o : Int) : Int × Way :=
  if (knoReach (y.reg s) o).2 ≠ 0 then ((knoReach (y.reg s) o).2, y)
  else if (y.reg s).k = 3 then (if (y.kept (knoReach (y.reg s) o).1).2 ≠ 0 then ((y.kept (knoReach (y.reg s) o).1).2, y) else (0, y.putReg d (y.kept (knoReach (y.reg s) o).1).1))
  else (0, y.putReg d (knoNum (-9223372036854775808) 9223372036854775807))
def way0 : Way := ⟨fun i => if i = 1 then ⟨2, 0, 0⟩ else if i = 10 then ⟨3, 0, 0⟩ else kno0, fun _ => kno0⟩
def Way.store (y : Way) (p v : Kno) (o : Int) : Int × Way :=
  if (knoReach p o).2 ≠ 0 then ((knoReach p o).2, y)
  else if p.k = 2 then (6, y)
  else if v.k = 0 then (8, y)
  else if p.k = 4 then (knoWant v, y)
  else if (knoReach p o).1.1 ≠ (knoReach p o).1.2 then (2, y)
  else (0, y.putSlot ((knoReach p o).1.1 + 16).toNat v)
def Way.call (y : Way) (what : Int) : Int × Way :=
  if (what = 1 ∨ what = 3) ∧ knoWant (y.reg 1) ≠ 0 then (knoWant (y.reg 1), y)
  else if what = 1 then (0, y.lose.putReg 0 ⟨5, 0, 0⟩)
  else if what = 2 then (0, y.lose.putReg 0 (knoNum (-9223372036854775808) 9223372036854775807))
  else (0, y.lose.putReg 0 (knoNum 0 0))
def Way.change (y : Way) (c : Int) (d s : Nat) (r : Bool) (n : Int) : Int × Way :=
  if (knoMakes c (y.reg d) (y.second s r n)).2 = 0 then (0, y.putReg d (knoMakes c (y.reg d) (y.second s r n)).1) else ((knoMakes c (y.reg d) (y.second s r n)).2, y)
theorem second_ok {y : Way} {s : Nat} {r : Bool} {n : Int} (hk : y.Ok) (hs : s < 11) (hn : In64 n) : (y.second s r n).Ok := by
  cases r
  · exact ⟨by show (0 : Int) ≤ 1; decide, by show (1 : Int) ≤ 5; decide, hn, hn, Int.le_refl _⟩
  · exact hk.reg s hs
end Go.Proofs.YtednmkhdehlojaaGreatDoor
namespace Go.Proofs.YtednmkhdehlojaaGreatDoor
open Go.ChangeShapes Go.WideShapes Go.ChangeAt Go.RowKit

theorem drew_size (w : World) : w.drew.heap.size = w.heap.size := rfl
theorem old_cells {W w1 : World} (hb : Below W.heap.size W w1) : (∀ b o, b < W.heap.size → w1.cell? ⟨b, o, none⟩ = W.cell? ⟨b, o, none⟩) ∧ (∀ b o, b < W.heap.size → w1.frozen? ⟨b, o, none⟩ = W.frozen? ⟨b, o, none⟩) :=
  ⟨fun b o h => hb.cell (p := ⟨b, o, none⟩) h, fun b o h => hb.frozen (p := ⟨b, o, none⟩) h⟩
theorem all_is  (w : World) : Calls Tryz.prog 151 #[] w fun e w' => e = .returned (.agg #[vI vK (-9223372036854775808), vI vK 9223372036854775807]) ∧ Below w.heap.size w w' := by
  go_enter Tryz.func151, Tryz.ntmps151
  go_wp2
  exact bodyPost_ret (v := .agg #[vI vK (-9223372036854775808), vI vK 9223372036854775807]) (by simp [results, Tryz.results151, go_sem]) rfl ⟨rfl, by repeat' first | exact bF _ _ | refine bA ?_ ?_ _ | refine bS ?_ ?_ _ | refine bD ?_ | (simp; done) | (simp; omega) | (simp [drew_size]; done) | (simp [drew_size]; omega) | omega⟩
theorem one_is (n : Int) (w : World) : Calls Tryz.prog 37 #[vI vK n] w fun e w' => e = .returned (.agg #[vI vK n, vI vK n]) ∧ Below w.heap.size w w' := by
  go_enter Tryz.func37, Tryz.ntmps37
  go_wp2
  exact bodyPost_ret (v := .agg #[vI vK n, vI vK n]) (by simp [results, Tryz.results37, go_sem]) rfl ⟨rfl, by repeat' first | exact bF _ _ | refine bA ?_ ?_ _ | refine bS ?_ ?_ _ | refine bD ?_ | (simp; done) | (simp; omega) | (simp [drew_size]; done) | (simp [drew_size]; omega) | omega⟩
theorem join_is (al ah bl bh : Int) (w : World) : Calls Tryz.prog 67 #[.agg #[vI vK al, vI vK ah], .agg #[vI vK bl, vI vK bh]] w fun e w' => e = .returned (.agg #[vI vK (min al bl), vI vK (max ah bh)]) ∧ Below w.heap.size w w' := by
  go_enter Tryz.func67, Tryz.ntmps67
  go_wp2
  exact bodyPost_ret (v := .agg #[vI vK (min al bl), vI vK (max ah bh)]) (by simp [results, Tryz.results67, go_sem]) rfl ⟨rfl, by repeat' first | exact bF _ _ | refine bA ?_ ?_ _ | refine bS ?_ ?_ _ | refine bD ?_ | (simp; done) | (simp; omega) | (simp [drew_size]; done) | (simp [drew_size]; omega) | omega⟩
theorem idx_end0 (x y : Int) (p q : Bool) (w : World) : (Instr.index 285 (.agg #[vI vK x, .bool p, vI vK y, .bool q]) (vI vK 0)).run Tryz.prog w = .ok (.agg #[vI vK x, .bool p]) w := by kernel_rfl
theorem idx_end1 (x y : Int) (p q : Bool) (w : World) : (Instr.index 285 (.agg #[vI vK x, .bool p, vI vK y, .bool q]) (vI vK 1)).run Tryz.prog w = .ok (.agg #[vI vK y, .bool q]) w := by kernel_rfl
theorem between_yes (x y : Int) (w : World) : Calls Tryz.prog 199 #[.agg #[vI vK x, .bool true, vI vK y, .bool true]] w fun e w' => e = .returned (.agg #[vI vK x, vI vK y]) ∧ Below w.heap.size w w' := by
  have i0 := idx_end0 x y true true
  have i1 := idx_end1 x y true true
  go_enter Tryz.func199, Tryz.ntmps199
  go_wp2
  refine wp_loop_rounds 3 ?_
  repeat any_goals (rw [rounds_succ]; go_wp2)
  exact bodyPost_ret (v := .agg #[vI vK x, vI vK y]) (by simp [results, Tryz.results199, go_sem]) rfl ⟨rfl, by repeat' first | exact bF _ _ | refine bA ?_ ?_ _ | refine bS ?_ ?_ _ | refine bD ?_ | (simp; done) | (simp; omega) | (simp [drew_size]; done) | (simp [drew_size]; omega) | omega⟩
theorem between_no (x y : Int) (p q : Bool) (h : (p && q) = false) (w : World) : Calls Tryz.prog 199 #[.agg #[vI vK x, .bool p, vI vK y, .bool q]] w fun e w' => e = .returned (.agg #[vI vK (-9223372036854775808), vI vK 9223372036854775807]) ∧ Below w.heap.size w w' := by
  have i0 := idx_end0 x y p q
  have i1 := idx_end1 x y p q
  cases p
  · go_enter Tryz.func199, Tryz.ntmps199
    go_wp2
    refine wp_loop_rounds 3 ?_
    repeat any_goals (rw [rounds_succ]; go_wp2_with (go_at_call 151; refine (all_is _).mono ?_; rintro e w1 ⟨rfl, hb1⟩; obtain ⟨hcl1, hfr1⟩ := old_cells hb1; have hs1 := hb1.size; (try simp only [drew_size] at hs1); (try simp at hs1); have hbw1 : Below w.heap.size w w1 := by ((refine Below.trans ?_ (hb1.mono ?_)) <;> repeat' first | exact bF _ _ | refine bA ?_ ?_ _ | refine bS ?_ ?_ _ | refine bD ?_ | (simp; done) | (simp; omega) | (simp [drew_size]; done) | (simp [drew_size]; omega) | omega)))
    exact bodyPost_ret (v := .agg #[vI vK (-9223372036854775808), vI vK 9223372036854775807]) (by simp [results, Tryz.results199, go_sem, hcl1]) rfl ⟨rfl, by repeat' first | exact bF _ _ | exact hbw1 | refine bA ?_ ?_ _ | refine bS ?_ ?_ _ | refine bD ?_ | (simp; done) | (simp; omega) | (simp [drew_size]; done) | (simp [drew_size]; omega) | omega⟩
  · have hq : q = false := by simpa using h
    subst hq
    go_enter Tryz.func199, Tryz.ntmps199
    go_wp2
    refine wp_loop_rounds 3 ?_
    repeat any_goals (rw [rounds_succ]; go_wp2_with (go_at_call 151; refine (all_is _).mono ?_; rintro e w1 ⟨rfl, hb1⟩; obtain ⟨hcl1, hfr1⟩ := old_cells hb1; have hs1 := hb1.size; (try simp only [drew_size] at hs1); (try simp at hs1); have hbw1 : Below w.heap.size w w1 := by ((refine Below.trans ?_ (hb1.mono ?_)) <;> repeat' first | exact bF _ _ | refine bA ?_ ?_ _ | refine bS ?_ ?_ _ | refine bD ?_ | (simp; done) | (simp; omega) | (simp [drew_size]; done) | (simp [drew_size]; omega) | omega)))
    exact bodyPost_ret (v := .agg #[vI vK (-9223372036854775808), vI vK 9223372036854775807]) (by simp [results, Tryz.results199, go_sem, hcl1]) rfl ⟨rfl, by repeat' first | exact bF _ _ | exact hbw1 | refine bA ?_ ?_ _ | refine bS ?_ ?_ _ | refine bD ?_ | (simp; done) | (simp; omega) | (simp [drew_size]; done) | (simp [drew_size]; omega) | omega⟩
theorem between_is (x y : Int) (p q : Bool) (w : World) : Calls Tryz.prog 199 #[.agg #[vI vK x, .bool p, vI vK y, .bool q]] w fun e w' => e = .returned (.agg #[vI vK (if p && q then x else -9223372036854775808), vI vK (if p && q then y else 9223372036854775807)]) ∧ Below w.heap.size w w' := by
  cases h : p && q
  · exact between_no x y p q h w
  · simp only [Bool.and_eq_true] at h
    obtain ⟨rfl, rfl⟩ := h
    exact between_yes x y w
end Go.Proofs.YtednmkhdehlojaaGreatDoor
