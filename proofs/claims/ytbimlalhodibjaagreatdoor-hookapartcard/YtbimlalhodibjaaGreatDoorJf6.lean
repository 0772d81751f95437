/-
 Plain facts on numbers of 64 bits: what the codes of package op make of two numbers, bit by bit, as one function on integers; no program is named here. No conditions. What each function of package op, and of the document's own answer to chapter 1, returns: as functions on integers; the world is as it was. Conditions: the arguments are numbers of 64 bits. Programs as they run: what a register has, as a plain triple, and what the small functions of package machine return of it; the world below is as it was. Conditions: numbers are of 64 bits. A program that runs, as it lies in memory. Conditions: numbers are of 64 bits. The steps of a program that runs: what package machine's methods do to it; all else is as it was. Conditions: numbers are of 64 bits. Plain facts on bounds: between which numbers is what a code makes of two numbers, and what is left of two bounds by what a code asks, as functions on integers; no program is named here. No conditions.
-/
import Derived.WalkKit
import Derived.Test.YtbimlalhodibjaaGreatDoorJf5
import Derived.Test.YtbimlalhodibjaaGreatDoorRows
import Derived.ProofKit
import Derived.OpenShut
import Derived.WalkLawsBesides
import Derived.Test.YtbimlalhodibjaaGreatDoorJf1
import Derived.BigCall
import Derived.BigGuardPart
import Derived.RegionTactic
import Derived.Deep.RegionWith
import Derived.Deep.RegionHeld3
import Derived.Deep.DeepCutAuto
import Derived.Deep.DeepMust
import Derived.BigQuiet
import Derived.Deep.QuietTactic
set_option maxHeartbeats 40000000
open Go.Value renaming int → A
open Go.IntKind renaming i64 → C
open Go.RowKit.Below renaming alloc → bA, setCell → bS, drew → bD, refl → bF
set_option maxRecDepth 1000000
set_option linter.defProp false
set_option linter.unusedVariables false
set_option linter.unusedSimpArgs false
open Go.Ending renaming returned → rT
open Go.Value renaming pointer → pT
open Go.Obj renaming cells → cT
open Go.Proofs.Tryz renaming prog → tP
namespace Go.Proofs.YtbimlalhodibjaaGreatDoor
section
open Go.RowKit
def uns (a : Int) : Nat := (a % 18446744073709551616).toNat
theorem zFg (a : Int) : uns a < 18446744073709551616 := by unfold uns; omega
theorem z5b (a : Int) : IntKind.u64.wrap a = (uns a : Int) := by rw [IntKind.wrap_u64]; unfold uns; omega
theorem zK5 (a : Int) : (uns a : Int) = a % 18446744073709551616 := by unfold uns; omega
theorem zK4 {b : Int} (h0 : -9223372036854775808 <= b) (h1 : b <= 9223372036854775807) : uns b = 0 ↔ b = 0 := by unfold uns; omega
theorem z9r (n : Int) : wrap64 (n % 18446744073709551616) = wrap64 n := by unfold wrap64; omega
theorem zSg (n : Int) : wrap64 (IntKind.u64.wrap n) = wrap64 n := by rw [IntKind.wrap_u64]; exact z9r n
theorem z0f {n : Int} (h0 : -9223372036854775808 <= n) (h1 : n <= 9223372036854775807) : wrap64 n = n := by unfold wrap64; omega
theorem z1p (n : Int) : -9223372036854775808 <= wrap64 n /\ wrap64 n <= 9223372036854775807 := by unfold wrap64; omega
theorem zLh (a : Int) : wrap64 (uns a : Int) = wrap64 a := by rw [zK5]; exact z9r a
theorem z3s (a : Int) : (BitVec.ofInt 64 a).toNat = uns a := by
 rw [BitVec.toNat_ofInt]; rfl
theorem z9c (a b : Int) : bits .and .i64 a b = wrap64 ((uns a &&& uns b : Nat) : Int) := by
 show IntKind.i64.wrap ((BitVec.ofInt 64 a &&& BitVec.ofInt 64 b).toNat : Int) = _
 rw [BitVec.toNat_and, z3s, z3s, IntWalk.i64_left]
theorem zJx (a b : Int) : bits .or .i64 a b = wrap64 ((uns a ||| uns b : Nat) : Int) := by
 show IntKind.i64.wrap ((BitVec.ofInt 64 a ||| BitVec.ofInt 64 b).toNat : Int) = _
 rw [BitVec.toNat_or, z3s, z3s, IntWalk.i64_left]
theorem zHe (a b : Int) : bits .xor .i64 a b = wrap64 ((uns a ^^^ uns b : Nat) : Int) := by
 show IntKind.i64.wrap ((BitVec.ofInt 64 a ^^^ BitVec.ofInt 64 b).toNat : Int) = _
 rw [BitVec.toNat_xor, z3s, z3s, IntWalk.i64_left]
theorem zO8 (b : Int) : bits .and .i64 b 63 = b % 64 := by
 rw [z9c]
 have e : uns b &&& uns 63 = uns b % 64 := by
  show uns b &&& 63 = _
  exact Nat.and_two_pow_sub_one_eq_mod (uns b) 6
 rw [e]
 unfold uns wrap64
 omega
def sixBits (b : Int) : Nat := (b % 64).toNat
theorem z8e (b : Int) : sixBits b < 64 := by unfold sixBits; omega
def z0s (c a b : Int) : Int :=
 if c = 1 then b else if c = 2 then wrap64 (a + b) else if c = 3 then wrap64 (a - b) else if c = 4 then wrap64 (a * b)
 else if c = 5 then (if b = 0 then 0 else wrap64 ((uns a / uns b : Nat) : Int))
 else if c = 6 then (if b = 0 then a else wrap64 ((uns a % uns b : Nat) : Int))
 else if c = 7 then wrap64 ((uns a &&& uns b : Nat) : Int) else if c = 8 then wrap64 ((uns a ||| uns b : Nat) : Int)
 else if c = 9 then wrap64 ((uns a ^^^ uns b : Nat) : Int)
 else if c = 10 then wrap64 (a * 2 ^ sixBits b) else if c = 11 then wrap64 ((uns a / 2 ^ sixBits b : Nat) : Int)
 else if c = 12 then a / 2 ^ sixBits b else if c = 13 then wrap64 (-a) else 0
def isV (c a b : Int) : Bool :=
 if c = 15 then decide (a = b) else if c = 16 then !decide (a = b)
 else if c = 17 then decide (uns b < uns a) else if c = 18 then decide (uns b <= uns a)
 else if c = 19 then decide (uns a < uns b) else if c = 20 then decide (uns a <= uns b)
 else if c = 21 then decide (b < a) else if c = 22 then decide (b <= a)
 else if c = 23 then decide (a < b) else if c = 24 then decide (a <= b) else false
theorem zJq (a b : Int) : z0s 1 a b = b := by simp only [z0s, reduceIte, Int.reduceEq]
theorem zJp (a b : Int) : z0s 2 a b = wrap64 (a + b) := by simp only [z0s, reduceIte, Int.reduceEq]
theorem zJo (a b : Int) : z0s 3 a b = wrap64 (a - b) := by simp only [z0s, reduceIte, Int.reduceEq]
theorem zJn (a b : Int) : z0s 4 a b = wrap64 (a * b) := by simp only [z0s, reduceIte, Int.reduceEq]
theorem zEv (a b : Int) : z0s 7 a b = wrap64 ((uns a &&& uns b : Nat) : Int) := by simp only [z0s, reduceIte, Int.reduceEq]
theorem zJk (a b : Int) : z0s 8 a b = wrap64 ((uns a ||| uns b : Nat) : Int) := by simp only [z0s, reduceIte, Int.reduceEq]
theorem zJj (a b : Int) : z0s 9 a b = wrap64 ((uns a ^^^ uns b : Nat) : Int) := by simp only [z0s, reduceIte, Int.reduceEq]
theorem zEz (a b : Int) : z0s 10 a b = wrap64 (a * 2 ^ sixBits b) := by simp only [z0s, reduceIte, Int.reduceEq]
theorem z6k (a b : Int) : z0s 11 a b = wrap64 ((uns a / 2 ^ sixBits b : Nat) : Int) := by simp only [z0s, reduceIte, Int.reduceEq]
theorem z7x (a b : Int) : z0s 12 a b = a / 2 ^ sixBits b := by simp only [z0s, reduceIte, Int.reduceEq]
theorem zEy (a b : Int) : z0s 13 a b = wrap64 (-a) := by simp only [z0s, reduceIte, Int.reduceEq]
theorem zJm (a : Int) {b : Int} (h : b ≠ 0) : z0s 5 a b = wrap64 ((uns a / uns b : Nat) : Int) := by simp only [z0s, reduceIte, Int.reduceEq, if_neg h]
theorem zEx (a : Int) : z0s 5 a 0 = 0 := by simp only [z0s, reduceIte, Int.reduceEq]
theorem zJl (a : Int) {b : Int} (h : b ≠ 0) : z0s 6 a b = wrap64 ((uns a % uns b : Nat) : Int) := by simp only [z0s, reduceIte, Int.reduceEq, if_neg h]
theorem zEw (a : Int) : z0s 6 a 0 = a := by simp only [z0s, reduceIte, Int.reduceEq]
theorem zUi {c : Int} (a b : Int) (h : c < 1 \/ 13 < c) : z0s c a b = 0 := by
 have e : ∀ k : Int, 1 <= k -> k <= 13 -> c ≠ k := fun k h1 h2 => by omega
 unfold z0s
 rw [if_neg (e 1 (by decide) (by decide)), if_neg (e 2 (by decide) (by decide)), if_neg (e 3 (by decide) (by decide)), if_neg (e 4 (by decide) (by decide)), if_neg (e 5 (by decide) (by decide)), if_neg (e 6 (by decide) (by decide)), if_neg (e 7 (by decide) (by decide)), if_neg (e 8 (by decide) (by decide)), if_neg (e 9 (by decide) (by decide)), if_neg (e 10 (by decide) (by decide)), if_neg (e 11 (by decide) (by decide)), if_neg (e 12 (by decide) (by decide)), if_neg (e 13 (by decide) (by decide))]
theorem zKr (a b : Int) : isV 15 a b = (decide (a = b)) := by simp only [isV, reduceIte, Int.reduceEq]
theorem zKq (a b : Int) : isV 16 a b = (!decide (a = b)) := by simp only [isV, reduceIte, Int.reduceEq]
theorem zKp (a b : Int) : isV 17 a b = (decide (uns b < uns a)) := by simp only [isV, reduceIte, Int.reduceEq]
theorem zKo (a b : Int) : isV 18 a b = (decide (uns b <= uns a)) := by simp only [isV, reduceIte, Int.reduceEq]
theorem zGk (a b : Int) : isV 19 a b = (decide (uns a < uns b)) := by simp only [isV, reduceIte, Int.reduceEq]
theorem zGj (a b : Int) : isV 20 a b = (decide (uns a <= uns b)) := by simp only [isV, reduceIte, Int.reduceEq]
theorem zKn (a b : Int) : isV 21 a b = (decide (b < a)) := by simp only [isV, reduceIte, Int.reduceEq]
theorem zKm (a b : Int) : isV 22 a b = (decide (b <= a)) := by simp only [isV, reduceIte, Int.reduceEq]
theorem zGi (a b : Int) : isV 23 a b = (decide (a < b)) := by simp only [isV, reduceIte, Int.reduceEq]
theorem zGh (a b : Int) : isV 24 a b = (decide (a <= b)) := by simp only [isV, reduceIte, Int.reduceEq]
theorem isV_no {c : Int} (a b : Int) (h : c < 15 \/ 24 < c) : isV c a b = false := by
 have e : ∀ k : Int, 15 <= k -> k <= 24 -> c ≠ k := fun k h1 h2 => by omega
 unfold isV
 rw [if_neg (e 15 (by decide) (by decide)), if_neg (e 16 (by decide) (by decide)), if_neg (e 17 (by decide) (by decide)), if_neg (e 18 (by decide) (by decide)), if_neg (e 19 (by decide) (by decide)), if_neg (e 20 (by decide) (by decide)), if_neg (e 21 (by decide) (by decide)), if_neg (e 22 (by decide) (by decide)), if_neg (e 23 (by decide) (by decide)), if_neg (e 24 (by decide) (by decide))]
theorem shr_u (a b : Int) : wrap64 (IntKind.u64.wrap a / 2 ^ (b % 64).toNat) = wrap64 ((uns a / 2 ^ sixBits b : Nat) : Int) := by
 rw [z5b, Int.natCast_ediv, Int.natCast_pow]; rfl
def hi (x j : Nat) : Nat := x / 2 ^ j
def lo (x j : Nat) : Nat := x % 2 ^ j
def sh (a : Int) (j : Nat) : Int := a / 2 ^ j
def ones (j : Nat) : Nat := 2 ^ j - 1
theorem zIu {j : Nat} (h : j <= 63) : ones j <= 9223372036854775807 := by
 unfold ones; have := Nat.pow_le_pow_right (n := 2) (i := j) (j := 63) (by decide) h; omega
def z56 (n : Int) : Int := (ones (lenV n.toNat) : Int)
theorem zWx (m : Nat) (hl : lenV m <= 63) : wrap64 (IntKind.u64.wrap (IntKind.u64.wrap (2 ^ lenV m) - 1)) = z56 (m : Int) := by
 have e : ((2 : Int) ^ lenV m) = ((2 ^ lenV m : Nat) : Int) := by rw [Int.natCast_pow]; rfl
 have h1 := Nat.pow_le_pow_right (n := 2) (i := lenV m) (j := 63) (by decide) hl
 have h2 := Nat.two_pow_pos (lenV m)
 unfold z56 ones
 rw [Int.toNat_natCast, e, IntKind.wrap_u64, IntKind.wrap_u64]
 unfold wrap64
 omega
end
section
open Go.ChangeShapes Go.WideShapes Go.ChangeAt Go.RowKit
theorem z61 {a b : Int} (h : a = b) : Ending.returned (A C a) = rT (A C b) := by rw [h]
theorem z2y (c : Int) (w : World) :
  Calls tP 90 #[A C c] w fun e w' => e = rT (.bool (decide (15 <= c) && decide (c <= 24))) /\ w' = w := by
 by_cases h1 : 15 <= c
 ·go_enter Tryz.func90, Tryz.ntmps90
  go_wp2
  go_ret
  exact ⟨z7h (by simp [h1]), rfl⟩
 ·have h2 : decide (15 <= c) = false := by simpa using h1
  rw [h2, Bool.false_and]
  go_enter Tryz.func90, Tryz.ntmps90
  go_wp2
  go_ret
  exact ⟨rfl, rfl⟩
theorem does_7 (a b : Int) (w : World) : Calls tP 181 #[A C 7, A C a, A C b] w fun e w' => e = rT (A C (z0s 7 a b)) /\ w' = w := by
 rw [zEv]
 go_enter Tryz.func181, Tryz.ntmps181
 go_wp2
 go_ret
 exact ⟨z61 (z9c a b), rfl⟩
theorem does_8 (a b : Int) (w : World) : Calls tP 181 #[A C 8, A C a, A C b] w fun e w' => e = rT (A C (z0s 8 a b)) /\ w' = w := by
 rw [zJk]
 go_enter Tryz.func181, Tryz.ntmps181
 go_wp2
 go_ret
 exact ⟨z61 (zJx a b), rfl⟩
theorem does_9 (a b : Int) (w : World) : Calls tP 181 #[A C 9, A C a, A C b] w fun e w' => e = rT (A C (z0s 9 a b)) /\ w' = w := by
 rw [zJj]
 go_enter Tryz.func181, Tryz.ntmps181
 go_wp2
 go_ret
 exact ⟨z61 (zHe a b), rfl⟩
theorem zX3 (a b : Int) (w : World) : Calls tP 181 #[A C 11, A C a, A C b] w fun e w' => e = rT (A C (z0s 11 a b)) /\ w' = w := by
 rw [z6k]
 have e := zO8 b
 have h0 : 0 <= b % 64 := Int.emod_nonneg _ (by decide)
 have h1 : b % 64 < 64 := Int.emod_lt_of_pos _ (by decide)
 go_enter Tryz.func181, Tryz.ntmps181
 go_wp2
 go_ret
 exact ⟨z61 (shr_u a b), rfl⟩
theorem z4i (a b : Int) (w : World) : (Calls tP 181 #[A C 1, A C a, A C b] w fun e w' => e = rT (A C (z0s 1 a b)) /\ w' = w) /\ (Calls tP 181 #[A C 2, A C a, A C b] w fun e w' => e = rT (A C (z0s 2 a b)) /\ w' = w) /\ (Calls tP 181 #[A C 3, A C a, A C b] w fun e w' => e = rT (A C (z0s 3 a b)) /\ w' = w) /\ (Calls tP 181 #[A C 4, A C a, A C b] w fun e w' => e = rT (A C (z0s 4 a b)) /\ w' = w) /\ (Calls tP 181 #[A C 13, A C a, A C b] w fun e w' => e = rT (A C (z0s 13 a b)) /\ w' = w) /\ (Calls tP 181 #[A C 10, A C a, A C b] w fun e w' => e = rT (A C (z0s 10 a b)) /\ w' = w) /\ (Calls tP 181 #[A C 12, A C a, A C b] w fun e w' => e = rT (A C (z0s 12 a b)) /\ w' = w) := by
 refine ⟨?_, ?_, ?_, ?_, ?_, ?_, ?_⟩
 rw [zJq]
 rotate_left
 rw [zJp]
 rotate_left
 rw [zJo]
 rotate_left
 rw [zJn]
 rotate_left
 rw [zEy]
 rotate_left
 rw [zEz]
 have e := zO8 b
 have h0 : 0 <= b % 64 := Int.emod_nonneg _ (by decide)
 have h1 : b % 64 < 64 := Int.emod_lt_of_pos _ (by decide)
 rotate_left
 rw [z7x]
 have e := zO8 b
 have h0 : 0 <= b % 64 := Int.emod_nonneg _ (by decide)
 have h1 : b % 64 < 64 := Int.emod_lt_of_pos _ (by decide)
 rotate_left
 all_goals
  go_enter Tryz.func181, Tryz.ntmps181
  go_wp2
  go_ret
  exact ⟨z61 rfl, rfl⟩
def does_1 := fun a b w => (@z4i a b w).1
def does_2 := fun a b w => (@z4i a b w).2.1
def does_3 := fun a b w => (@z4i a b w).2.2.1
def does_4 := fun a b w => (@z4i a b w).2.2.2.1
def zX1 := fun a b w => (@z4i a b w).2.2.2.2.1
def zX4 := fun a b w => (@z4i a b w).2.2.2.2.2.1
def zX2 := fun a b w => (@z4i a b w).2.2.2.2.2.2
theorem does_5 (a b : Int) (h0 : -9223372036854775808 <= b) (h1 : b <= 9223372036854775807) (w : World) : Calls tP 181 #[A C 5, A C a, A C b] w fun e w' => e = rT (A C (z0s 5 a b)) /\ w' = w := by
 by_cases hb : b = 0
 ·subst hb
  rw [zEx]
  go_enter Tryz.func181, Tryz.ntmps181
  go_wp2
  go_ret
  exact ⟨rfl, rfl⟩
 ·rw [zJm a hb]
  have ha := z5b a
  have hu := z5b b
  have l1 := zFg a
  have l2 := zFg b
  have hz : uns b ≠ 0 := fun e => hb ((zK4 h0 h1).1 e)
  generalize uns a = X at ha l1 ⊢
  generalize uns b = Y at hu l2 hz ⊢
  go_enter Tryz.func181, Tryz.ntmps181
  go_wp2
  go_ret
  exact ⟨z61 (by rw [zSg, Int.natCast_ediv]), rfl⟩
theorem does_6 (a b : Int) (h0 : -9223372036854775808 <= b) (h1 : b <= 9223372036854775807) (w : World) : Calls tP 181 #[A C 6, A C a, A C b] w fun e w' => e = rT (A C (z0s 6 a b)) /\ w' = w := by
 by_cases hb : b = 0
 ·subst hb
  rw [zEw]
  go_enter Tryz.func181, Tryz.ntmps181
  go_wp2
  go_ret
  exact ⟨rfl, rfl⟩
 ·rw [zJl a hb]
  have ha := z5b a
  have hu := z5b b
  have l1 := zFg a
  have l2 := zFg b
  have hz : uns b ≠ 0 := fun e => hb ((zK4 h0 h1).1 e)
  generalize uns a = X at ha l1 ⊢
  generalize uns b = Y at hu l2 hz ⊢
  go_enter Tryz.func181, Tryz.ntmps181
  go_wp2
  go_ret
  exact ⟨z61 (by rw [Int.natCast_emod]), rfl⟩
theorem zX0 (c a b : Int) (hc : c < 1 \/ 13 < c) (w : World) : Calls tP 181 #[A C c, A C a, A C b] w fun e w' => e = rT (A C (z0s c a b)) /\ w' = w := by
 rw [zUi a b hc]
 go_enter Tryz.func181, Tryz.ntmps181
 go_wp2
 go_ret
 exact ⟨rfl, rfl⟩
theorem z30 (a b : Int) (w : World) : (Calls tP 154 #[A C 15, A C a, A C b] w fun e w' => e = rT (.bool (isV 15 a b)) /\ w' = w) /\ (Calls tP 154 #[A C 16, A C a, A C b] w fun e w' => e = rT (.bool (isV 16 a b)) /\ w' = w) /\ (Calls tP 154 #[A C 17, A C a, A C b] w fun e w' => e = rT (.bool (isV 17 a b)) /\ w' = w) /\ (Calls tP 154 #[A C 18, A C a, A C b] w fun e w' => e = rT (.bool (isV 18 a b)) /\ w' = w) /\ (Calls tP 154 #[A C 19, A C a, A C b] w fun e w' => e = rT (.bool (isV 19 a b)) /\ w' = w) /\ (Calls tP 154 #[A C 20, A C a, A C b] w fun e w' => e = rT (.bool (isV 20 a b)) /\ w' = w) /\ (Calls tP 154 #[A C 21, A C a, A C b] w fun e w' => e = rT (.bool (isV 21 a b)) /\ w' = w) /\ (Calls tP 154 #[A C 22, A C a, A C b] w fun e w' => e = rT (.bool (isV 22 a b)) /\ w' = w) /\ (Calls tP 154 #[A C 23, A C a, A C b] w fun e w' => e = rT (.bool (isV 23 a b)) /\ w' = w) /\ (Calls tP 154 #[A C 24, A C a, A C b] w fun e w' => e = rT (.bool (isV 24 a b)) /\ w' = w) := by
 refine ⟨?_, ?_, ?_, ?_, ?_, ?_, ?_, ?_, ?_, ?_⟩
 rw [zKr]
 rotate_left
 rw [zKq]
 rotate_left
 rw [zKp]
 rotate_left
 rw [zKo]
 rotate_left
 rw [zGk]
 rotate_left
 rw [zGj]
 rotate_left
 rw [zKn]
 rotate_left
 rw [zKm]
 rotate_left
 rw [zGi]
 rotate_left
 rw [zGh]
 rotate_left
 all_goals
  have ha := z5b a
  have hb := z5b b
 all_goals
  go_enter Tryz.func154, Tryz.ntmps154
  go_wp2
  go_ret
  refine ⟨z7h ?_, rfl⟩
  rfl
def is_15 := fun a b w => (@z30 a b w).1
def is_16 := fun a b w => (@z30 a b w).2.1
def is_17 := fun a b w => (@z30 a b w).2.2.1
def is_18 := fun a b w => (@z30 a b w).2.2.2.1
def is_19 := fun a b w => (@z30 a b w).2.2.2.2.1
def is_20 := fun a b w => (@z30 a b w).2.2.2.2.2.1
def is_21 := fun a b w => (@z30 a b w).2.2.2.2.2.2.1
def is_22 := fun a b w => (@z30 a b w).2.2.2.2.2.2.2.1
def is_23 := fun a b w => (@z30 a b w).2.2.2.2.2.2.2.2.1
def is_24 := fun a b w => (@z30 a b w).2.2.2.2.2.2.2.2.2
theorem is_no (c a b : Int) (hc : c < 15 \/ 24 < c) (w : World) : Calls tP 154 #[A C c, A C a, A C b] w fun e w' => e = rT (.bool (isV c a b)) /\ w' = w := by
 rw [isV_no a b hc]
 go_enter Tryz.func154, Tryz.ntmps154
 go_wp2
 go_ret
 exact ⟨rfl, rfl⟩
theorem z2c (c a b : Int) (k0 : -9223372036854775808 <= b) (k1 : b <= 9223372036854775807) (w : World) : Calls tP 181 #[A C c, A C a, A C b] w fun e w' => e = rT (A C (z0s c a b)) /\ w' = w := by
 by_cases hc : c < 1 \/ 13 < c
 ·exact zX0 c a b hc w
 ·have h : c = 1 \/ c = 2 \/ c = 3 \/ c = 4 \/ c = 5 \/ c = 6 \/ c = 7 \/ c = 8 \/ c = 9 \/ c = 10 \/ c = 11 \/ c = 12 \/ c = 13 := by omega
  rcases h with rfl | rfl | rfl | rfl | rfl | rfl | rfl | rfl | rfl | rfl | rfl | rfl | rfl
  ·exact does_1 a b w
  ·exact does_2 a b w
  ·exact does_3 a b w
  ·exact does_4 a b w
  ·exact does_5 a b k0 k1 w
  ·exact does_6 a b k0 k1 w
  ·exact does_7 a b w
  ·exact does_8 a b w
  ·exact does_9 a b w
  ·exact zX4 a b w
  ·exact zX3 a b w
  ·exact zX2 a b w
  ·exact zX1 a b w
theorem zKl (c a b : Int) (w : World) : Calls tP 154 #[A C c, A C a, A C b] w fun e w' => e = rT (.bool (isV c a b)) /\ w' = w := by
 by_cases hc : c < 15 \/ 24 < c
 ·exact is_no c a b hc w
 ·have h : c = 15 \/ c = 16 \/ c = 17 \/ c = 18 \/ c = 19 \/ c = 20 \/ c = 21 \/ c = 22 \/ c = 23 \/ c = 24 := by omega
  rcases h with rfl | rfl | rfl | rfl | rfl | rfl | rfl | rfl | rfl | rfl
  ·exact is_15 a b w
  ·exact is_16 a b w
  ·exact is_17 a b w
  ·exact is_18 a b w
  ·exact is_19 a b w
  ·exact is_20 a b w
  ·exact is_21 a b w
  ·exact is_22 a b w
  ·exact is_23 a b w
  ·exact is_24 a b w
theorem zKy (n : Int) (h0 : -9223372036854775808 <= n) (h1 : n <= 9223372036854775807) (w : World) : Calls tP 220 #[A C n] w fun e w' => e = rT (A C (z56 n)) /\ w' = w := by
 by_cases hn : n <= 0
 ·have hd : z56 n = 0 := by
   unfold z56
   rw [show n.toNat = 0 by omega]
   rfl
  rw [hd]
  go_enter Tryz.func220, Tryz.ntmps220
  go_wp2
  go_ret
  exact ⟨rfl, rfl⟩
 ·obtain ⟨m, rfl⟩ : ∃ m : Nat, n = (m : Int) := ⟨n.toNat, by omega⟩
  have hl : lenV m <= 63 := zJ0 (Nat.lt_of_lt_of_eq (show m < 9223372036854775808 by omega) (by decide))
  go_enter Tryz.func220, Tryz.ntmps220
  go_wp2_with (go_at_call 223; refine (len64 _ _ (by omega)).mono ?_; rintro e w' ⟨rfl, rfl⟩)
  go_ret
  exact ⟨z61 (zWx m hl), rfl⟩
structure Val where
 k : Int
 n : Int
 c : Int
def Val.v (x : Val) : Value := .agg #[A C x.k, A C x.n, A C x.c]
def z2r (x : Val) : Int := if x.k = 0 then 8 else if x.k = 1 then 0 else 1
def numF (n : Int) : Val := ⟨1, n, 0⟩
def z7w (n : Int) : Val := if n < 0 \/ 4 <= n then ⟨1, 0, 0⟩ else ⟨4, 0, n⟩
def z2q (code : Int) (a b : Val) : Val × Int :=
 if b.k = 0 \/ (a.k = 0 /\ code ≠ 1) then (⟨0, 0, 0⟩, 8)
 else if code = 1 then (b, 0)
 else if b.k = 1 /\ (a.k = 1 \/ code = 2 \/ code = 3) then (⟨a.k, z0s code a.n b.n, a.c⟩, 0)
 else if a.k = 1 /\ code = 2 then (⟨b.k, z0s code a.n b.n, b.c⟩, 0)
 else (⟨0, 0, 0⟩, 1)
def z3k (x : Val) (off : Int) : Int := if x.k = 3 then wrap64 (wrap64 (x.n + off) + 16) else wrap64 (x.n + off)
def z28 (x : Val) : Int := if x.k = 2 then 8 else if x.k = 3 then 16 else 4
def z14 (x : Val) (off : Int) : Int × Int :=
 if x.k = 0 then (0, 8) else if x.k = 1 then (0, 1) else if z3k x off < 0 \/ z28 x <= z3k x off then (0, 2) else (z3k x off, 0)
theorem z9h {w w1 : World} {t : TypeId} (h : Below (w.alloc (cT #[A C 0, A C 0, A C 0] t)).heap.size (w.alloc (cT #[A C 0, A C 0, A C 0] t)) w1) :
  w1.cell? ⟨w.heap.size, 0, none⟩ = some (A C 0) /\ w1.cell? ⟨w.heap.size, 1, none⟩ = some (A C 0) /\ w1.cell? ⟨w.heap.size, 2, none⟩ = some (A C 0) /\ w1.frozen? ⟨w.heap.size, 0, none⟩ = false /\ w1.frozen? ⟨w.heap.size, 1, none⟩ = false /\ w1.frozen? ⟨w.heap.size, 2, none⟩ = false /\ w.heap.size < w1.heap.size := by
 have e : w1.heap[w.heap.size]? = some (cT #[A C 0, A C 0, A C 0] t (0, 0)) := by
  rw [h.block w.heap.size (by simp)]
  show (w.heap.push _)[w.heap.size]? = _
  simp
 have hs := h.size
 simp at hs
 exact ⟨by simp [World.cell?, e], by simp [World.cell?, e], by simp [World.cell?, e], by simp [World.frozen?, e], by simp [World.frozen?, e], by simp [World.frozen?, e], by omega⟩
theorem z6m {w w1 : World} {o : Obj} (h : Below (w.alloc o).heap.size (w.alloc o) w1) : Below w.heap.size w w1 := ((bF _ _).alloc (Nat.le_refl _) _).trans (h.mono (by simp))
theorem z6e (n : Int) (w : World) : Calls tP 156 #[A C n] w fun e w' => e = rT (numF n).v /\ Below w.heap.size w w' := by
 go_enter Tryz.func156, Tryz.ntmps156
 go_wp2
 exact bodyPost_ret (v := (numF n).v) (by simp [results, Tryz.results156, go_sem, numF, Val.v]) rfl ⟨rfl, (bF _ _).alloc (Nat.le_refl _) _⟩
theorem zDm (k n c : Int) (w : World) : Calls tP 79 #[.agg #[A C k, A C n, A C c]] w fun e w' => e = rT (A C (z2r ⟨k, n, c⟩)) /\ Below w.heap.size w w' := by
 by_cases h0 : k = 0
 ·have x0 : (k == 0) = true := by simpa using h0
  have HV : Hid (z2r ⟨k, n, c⟩ = 8) := if_pos h0
  clear h0
  go_enter Tryz.func79, Tryz.ntmps79
  go_wp2
  go_ret
  exact ⟨by rw [HV.out]; rfl, (bF _ _).alloc (Nat.le_refl _) _⟩
 ·have x0 : (k == 0) = false := by simpa using h0
  by_cases h1 : k = 1
  ·have x1 : (k == 1) = true := by simpa using h1
   have HV : Hid (z2r ⟨k, n, c⟩ = 0) := by
    show z2r ⟨k, n, c⟩ = 0
    unfold z2r
    rw [if_neg h0, if_pos h1]
   clear h0 h1
   go_enter Tryz.func79, Tryz.ntmps79
   go_wp2
   go_ret
   exact ⟨by rw [HV.out]; rfl, (bF _ _).alloc (Nat.le_refl _) _⟩
  ·have x1 : (k == 1) = false := by simpa using h1
   have HV : Hid (z2r ⟨k, n, c⟩ = 1) := by
    show z2r ⟨k, n, c⟩ = 1
    unfold z2r
    rw [if_neg h0, if_neg h1]
   clear h0 h1
   go_enter Tryz.func79, Tryz.ntmps79
   go_wp2
   go_ret
   exact ⟨by rw [HV.out]; rfl, (bF _ _).alloc (Nat.le_refl _) _⟩
theorem zVl (n : Int) (w : World) : (∀ (x0 : decide (n < 0) = true), Calls tP 157 #[A C n] w fun e w' => e = rT (.agg #[A C 1, A C 0, A C 0]) /\ Below w.heap.size w w') /\ (∀ (x0 : decide (n < 0) = false) (x1 : decide (4 <= n) = true), Calls tP 157 #[A C n] w fun e w' => e = rT (.agg #[A C 1, A C 0, A C 0]) /\ Below w.heap.size w w') := by
 refine ⟨?_, ?_⟩
 intro x0
 rotate_left
 intro x0 x1
 rotate_left
 all_goals
  go_enter Tryz.func157, Tryz.ntmps157
  go_wp2_with (first
   | (go_at_call 156; refine (z6e 0 _).mono ?_; rintro e w1 ⟨rfl, hb1⟩; simp only [Val.v, numF]; obtain ⟨q0, q1, q2, z0, z1, z2, hl⟩ := z9h hb1)
   | go_in)
  exact bodyPost_ret (v := .agg #[A C 1, A C 0, A C 0]) (by simp [results, Tryz.results157, go_sem, q0, q1, q2]) rfl ⟨rfl, (((z6m hb1).setCell (Nat.le_refl _) _).setCell (Nat.le_refl _) _).setCell (Nat.le_refl _) _⟩
def zQv := fun n w => (@zVl n w).1
def zNr := fun n w => (@zVl n w).2
theorem zUf (n : Int) (w : World) (x0 : decide (n < 0) = false) (x1 : decide (4 <= n) = false) : Calls tP 157 #[A C n] w fun e w' => e = rT (.agg #[A C 4, A C 0, A C n]) /\ Below w.heap.size w w' := by
 go_enter Tryz.func157, Tryz.ntmps157
 go_wp2
 exact bodyPost_ret (v := .agg #[A C 4, A C 0, A C n]) (by simp [results, Tryz.results157, go_sem]) rfl ⟨rfl, (bF _ _).alloc (Nat.le_refl _) _⟩
section
variable (code ak an ac bk bn bc : Int) (w : World)
theorem zQa (x0 : (bk == 0) = true) : Calls tP 159 #[A C code, .agg #[A C ak, A C an, A C ac], .agg #[A C bk, A C bn, A C bc]] w fun e w' => e = rT (.tuple #[.agg #[A C 0, A C 0, A C 0], A C 8]) /\ Below w.heap.size w w' := by
 go_enter Tryz.func159, Tryz.ntmps159
 go_wp2
 exact bodyPost_ret (v := .tuple #[.agg #[A C 0, A C 0, A C 0], A C 8]) (by simp [results, Tryz.results159, go_sem]) rfl ⟨rfl, ((((bF _ _).alloc (Nat.le_refl _) _).alloc (by simp) _).alloc (by simp; omega) _)⟩
theorem zQc (x0 : (bk == 0) = false) (x1 : (ak == 0) = true) (x2 : (code != 1) = true) : Calls tP 159 #[A C code, .agg #[A C ak, A C an, A C ac], .agg #[A C bk, A C bn, A C bc]] w fun e w' => e = rT (.tuple #[.agg #[A C 0, A C 0, A C 0], A C 8]) /\ Below w.heap.size w w' := by
 go_enter Tryz.func159, Tryz.ntmps159
 go_wp2
 exact bodyPost_ret (v := .tuple #[.agg #[A C 0, A C 0, A C 0], A C 8]) (by simp [results, Tryz.results159, go_sem]) rfl ⟨rfl, ((((bF _ _).alloc (Nat.le_refl _) _).alloc (by simp) _).alloc (by simp; omega) _)⟩
theorem zN7 (x0 : (bk == 0) = false) (x1 : (ak == 0) = true) (x2 : (code == 1) = true) (x3 : (code != 1) = false) : Calls tP 159 #[A C code, .agg #[A C ak, A C an, A C ac], .agg #[A C bk, A C bn, A C bc]] w fun e w' => e = rT (.tuple #[.agg #[A C bk, A C bn, A C bc], A C 0]) /\ Below w.heap.size w w' := by
 go_enter Tryz.func159, Tryz.ntmps159
 go_wp2
 exact bodyPost_ret (v := .tuple #[.agg #[A C bk, A C bn, A C bc], A C 0]) (by simp [results, Tryz.results159, go_sem]) rfl ⟨rfl, ((((bF _ _).alloc (Nat.le_refl _) _).alloc (by simp) _).alloc (by simp; omega) _)⟩
theorem zN6 (x0 : (bk == 0) = false) (x1 : (ak == 0) = false) (x2 : (code == 1) = true) : Calls tP 159 #[A C code, .agg #[A C ak, A C an, A C ac], .agg #[A C bk, A C bn, A C bc]] w fun e w' => e = rT (.tuple #[.agg #[A C bk, A C bn, A C bc], A C 0]) /\ Below w.heap.size w w' := by
 go_enter Tryz.func159, Tryz.ntmps159
 go_wp2
 exact bodyPost_ret (v := .tuple #[.agg #[A C bk, A C bn, A C bc], A C 0]) (by simp [results, Tryz.results159, go_sem]) rfl ⟨rfl, ((((bF _ _).alloc (Nat.le_refl _) _).alloc (by simp) _).alloc (by simp; omega) _)⟩
theorem zN4 (k0 : -9223372036854775808 <= bn) (k1 : bn <= 9223372036854775807) (x0 : (bk == 0) = false) (x1 : (ak == 0) = false) (x2 : (code == 1) = false) (x3 : (bk == 1) = true) (x4 : (ak == 1) = true) : Calls tP 159 #[A C code, .agg #[A C ak, A C an, A C ac], .agg #[A C bk, A C bn, A C bc]] w fun e w' => e = rT (.tuple #[.agg #[A C ak, A C (z0s code an bn), A C ac], A C 0]) /\ Below w.heap.size w w' := by
 go_enter Tryz.func159, Tryz.ntmps159
 go_wp2_with (first
  | (go_at_call 181; refine (z2c _ _ _ k0 k1 _).mono ?_; rintro e w1 ⟨rfl, rfl⟩)
  | go_in)
 exact bodyPost_ret (v := .tuple #[.agg #[A C ak, A C (z0s code an bn), A C ac], A C 0]) (by simp [results, Tryz.results159, go_sem]) rfl ⟨rfl, ((((bF _ _).alloc (Nat.le_refl _) _).alloc (by simp) _).alloc (by simp; omega) _)⟩
theorem zN3 (k0 : -9223372036854775808 <= bn) (k1 : bn <= 9223372036854775807) (x0 : (bk == 0) = false) (x1 : (ak == 0) = false) (x2 : (code == 1) = false) (x3 : (bk == 1) = true) (x4 : (ak == 1) = false) (x5 : (code == 2) = true) : Calls tP 159 #[A C code, .agg #[A C ak, A C an, A C ac], .agg #[A C bk, A C bn, A C bc]] w fun e w' => e = rT (.tuple #[.agg #[A C ak, A C (z0s code an bn), A C ac], A C 0]) /\ Below w.heap.size w w' := by
 go_enter Tryz.func159, Tryz.ntmps159
 go_wp2_with (first
  | (go_at_call 181; refine (z2c _ _ _ k0 k1 _).mono ?_; rintro e w1 ⟨rfl, rfl⟩)
  | go_in)
 exact bodyPost_ret (v := .tuple #[.agg #[A C ak, A C (z0s code an bn), A C ac], A C 0]) (by simp [results, Tryz.results159, go_sem]) rfl ⟨rfl, ((((bF _ _).alloc (Nat.le_refl _) _).alloc (by simp) _).alloc (by simp; omega) _)⟩
theorem zN2 (k0 : -9223372036854775808 <= bn) (k1 : bn <= 9223372036854775807) (x0 : (bk == 0) = false) (x1 : (ak == 0) = false) (x2 : (code == 1) = false) (x3 : (bk == 1) = true) (x4 : (ak == 1) = false) (x5 : (code == 2) = false) (x6 : (code == 3) = true) : Calls tP 159 #[A C code, .agg #[A C ak, A C an, A C ac], .agg #[A C bk, A C bn, A C bc]] w fun e w' => e = rT (.tuple #[.agg #[A C ak, A C (z0s code an bn), A C ac], A C 0]) /\ Below w.heap.size w w' := by
 go_enter Tryz.func159, Tryz.ntmps159
 go_wp2_with (first
  | (go_at_call 181; refine (z2c _ _ _ k0 k1 _).mono ?_; rintro e w1 ⟨rfl, rfl⟩)
  | go_in)
 exact bodyPost_ret (v := .tuple #[.agg #[A C ak, A C (z0s code an bn), A C ac], A C 0]) (by simp [results, Tryz.results159, go_sem]) rfl ⟨rfl, ((((bF _ _).alloc (Nat.le_refl _) _).alloc (by simp) _).alloc (by simp; omega) _)⟩
theorem zQ8 (x0 : (bk == 0) = false) (x1 : (ak == 0) = false) (x2 : (code == 1) = false) (x3 : (bk == 1) = true) (x4 : (ak == 1) = false) (x5 : (code == 2) = false) (x6 : (code == 3) = false) : Calls tP 159 #[A C code, .agg #[A C ak, A C an, A C ac], .agg #[A C bk, A C bn, A C bc]] w fun e w' => e = rT (.tuple #[.agg #[A C 0, A C 0, A C 0], A C 1]) /\ Below w.heap.size w w' := by
 go_enter Tryz.func159, Tryz.ntmps159
 go_wp2
 exact bodyPost_ret (v := .tuple #[.agg #[A C 0, A C 0, A C 0], A C 1]) (by simp [results, Tryz.results159, go_sem]) rfl ⟨rfl, ((((bF _ _).alloc (Nat.le_refl _) _).alloc (by simp) _).alloc (by simp; omega) _)⟩
theorem zN5 (k0 : -9223372036854775808 <= bn) (k1 : bn <= 9223372036854775807) (x0 : (bk == 0) = false) (x1 : (ak == 0) = false) (x2 : (code == 1) = false) (x3 : (bk == 1) = false) (x4 : (ak == 1) = true) (x5 : (code == 2) = true) : Calls tP 159 #[A C code, .agg #[A C ak, A C an, A C ac], .agg #[A C bk, A C bn, A C bc]] w fun e w' => e = rT (.tuple #[.agg #[A C bk, A C (z0s code an bn), A C bc], A C 0]) /\ Below w.heap.size w w' := by
 go_enter Tryz.func159, Tryz.ntmps159
 go_wp2_with (first
  | (go_at_call 181; refine (z2c _ _ _ k0 k1 _).mono ?_; rintro e w1 ⟨rfl, rfl⟩)
  | go_in)
 exact bodyPost_ret (v := .tuple #[.agg #[A C bk, A C (z0s code an bn), A C bc], A C 0]) (by simp [results, Tryz.results159, go_sem]) rfl ⟨rfl, ((((bF _ _).alloc (Nat.le_refl _) _).alloc (by simp) _).alloc (by simp; omega) _)⟩
theorem zQ9 (x0 : (bk == 0) = false) (x1 : (ak == 0) = false) (x2 : (code == 1) = false) (x3 : (bk == 1) = false) (x4 : (ak == 1) = true) (x5 : (code == 2) = false) : Calls tP 159 #[A C code, .agg #[A C ak, A C an, A C ac], .agg #[A C bk, A C bn, A C bc]] w fun e w' => e = rT (.tuple #[.agg #[A C 0, A C 0, A C 0], A C 1]) /\ Below w.heap.size w w' := by
 go_enter Tryz.func159, Tryz.ntmps159
 go_wp2
 exact bodyPost_ret (v := .tuple #[.agg #[A C 0, A C 0, A C 0], A C 1]) (by simp [results, Tryz.results159, go_sem]) rfl ⟨rfl, ((((bF _ _).alloc (Nat.le_refl _) _).alloc (by simp) _).alloc (by simp; omega) _)⟩
theorem zQ7 (x0 : (bk == 0) = false) (x1 : (ak == 0) = false) (x2 : (code == 1) = false) (x3 : (bk == 1) = false) (x4 : (ak == 1) = false) : Calls tP 159 #[A C code, .agg #[A C ak, A C an, A C ac], .agg #[A C bk, A C bn, A C bc]] w fun e w' => e = rT (.tuple #[.agg #[A C 0, A C 0, A C 0], A C 1]) /\ Below w.heap.size w w' := by
 go_enter Tryz.func159, Tryz.ntmps159
 go_wp2
 exact bodyPost_ret (v := .tuple #[.agg #[A C 0, A C 0, A C 0], A C 1]) (by simp [results, Tryz.results159, go_sem]) rfl ⟨rfl, ((((bF _ _).alloc (Nat.le_refl _) _).alloc (by simp) _).alloc (by simp; omega) _)⟩
end
section
variable (k n c off : Int) (w : World)
theorem zMh (x0 : (k == 0) = true) : Calls tP 155 #[.agg #[A C k, A C n, A C c], A C off] w fun e w' => e = rT (.tuple #[A C 0, A C 8]) /\ Below w.heap.size w w' := by
 go_enter Tryz.func155, Tryz.ntmps155
 go_wp2
 go_ret2
 exact ⟨rfl, (bF _ _).alloc (Nat.le_refl _) _⟩
theorem zPc (x0 : (k == 0) = false) (x1 : (k == 1) = true) : Calls tP 155 #[.agg #[A C k, A C n, A C c], A C off] w fun e w' => e = rT (.tuple #[A C 0, A C 1]) /\ Below w.heap.size w w' := by
 go_enter Tryz.func155, Tryz.ntmps155
 go_wp2
 go_ret2
 exact ⟨rfl, (bF _ _).alloc (Nat.le_refl _) _⟩
theorem zBn (x0 : (k == 0) = false) (x1 : (k == 1) = false) (x2 : (k == 2) = true) (x3 : (decide (wrap64 (n + off) < 0)) = true) : Calls tP 155 #[.agg #[A C k, A C n, A C c], A C off] w fun e w' => e = rT (.tuple #[A C 0, A C 2]) /\ Below w.heap.size w w' := by
 go_enter Tryz.func155, Tryz.ntmps155
 go_wp2
 go_ret2
 exact ⟨rfl, (bF _ _).alloc (Nat.le_refl _) _⟩
theorem zAd (x0 : (k == 0) = false) (x1 : (k == 1) = false) (x2 : (k == 2) = true) (x3 : (decide (wrap64 (n + off) < 0)) = false) (x4 : (decide (8 <= wrap64 (n + off))) = true) : Calls tP 155 #[.agg #[A C k, A C n, A C c], A C off] w fun e w' => e = rT (.tuple #[A C 0, A C 2]) /\ Below w.heap.size w w' := by
 go_enter Tryz.func155, Tryz.ntmps155
 go_wp2
 go_ret2
 exact ⟨rfl, (bF _ _).alloc (Nat.le_refl _) _⟩
theorem zE4 (x0 : (k == 0) = false) (x1 : (k == 1) = false) (x2 : (k == 2) = true) (x3 : (decide (wrap64 (n + off) < 0)) = false) (x4 : (decide (8 <= wrap64 (n + off))) = false) : Calls tP 155 #[.agg #[A C k, A C n, A C c], A C off] w fun e w' => e = rT (.tuple #[A C (wrap64 (n + off)), A C 0]) /\ Below w.heap.size w w' := by
 go_enter Tryz.func155, Tryz.ntmps155
 go_wp2
 go_ret2
 exact ⟨rfl, (bF _ _).alloc (Nat.le_refl _) _⟩
theorem zAe (x0 : (k == 0) = false) (x1 : (k == 1) = false) (x2 : (k == 2) = false) (x3 : (k == 3) = true) (x4 : (decide (wrap64 (wrap64 (n + off) + 16) < 0)) = true) : Calls tP 155 #[.agg #[A C k, A C n, A C c], A C off] w fun e w' => e = rT (.tuple #[A C 0, A C 2]) /\ Below w.heap.size w w' := by
 go_enter Tryz.func155, Tryz.ntmps155
 go_wp2
 go_ret2
 exact ⟨rfl, (bF _ _).alloc (Nat.le_refl _) _⟩
theorem z9f (x0 : (k == 0) = false) (x1 : (k == 1) = false) (x2 : (k == 2) = false) (x3 : (k == 3) = true) (x4 : (decide (wrap64 (wrap64 (n + off) + 16) < 0)) = false) (x5 : (decide (16 <= wrap64 (wrap64 (n + off) + 16))) = true) : Calls tP 155 #[.agg #[A C k, A C n, A C c], A C off] w fun e w' => e = rT (.tuple #[A C 0, A C 2]) /\ Below w.heap.size w w' := by
 go_enter Tryz.func155, Tryz.ntmps155
 go_wp2
 go_ret2
 exact ⟨rfl, (bF _ _).alloc (Nat.le_refl _) _⟩
theorem zBo (x0 : (k == 0) = false) (x1 : (k == 1) = false) (x2 : (k == 2) = false) (x3 : (k == 3) = true) (x4 : (decide (wrap64 (wrap64 (n + off) + 16) < 0)) = false) (x5 : (decide (16 <= wrap64 (wrap64 (n + off) + 16))) = false) : Calls tP 155 #[.agg #[A C k, A C n, A C c], A C off] w fun e w' => e = rT (.tuple #[A C (wrap64 (wrap64 (n + off) + 16)), A C 0]) /\ Below w.heap.size w w' := by
 go_enter Tryz.func155, Tryz.ntmps155
 go_wp2
 go_ret2
 exact ⟨rfl, (bF _ _).alloc (Nat.le_refl _) _⟩
theorem zBp (x0 : (k == 0) = false) (x1 : (k == 1) = false) (x2 : (k == 2) = false) (x3 : (k == 3) = false) (x4 : (decide (wrap64 (n + off) < 0)) = true) : Calls tP 155 #[.agg #[A C k, A C n, A C c], A C off] w fun e w' => e = rT (.tuple #[A C 0, A C 2]) /\ Below w.heap.size w w' := by
 go_enter Tryz.func155, Tryz.ntmps155
 go_wp2
 go_ret2
 exact ⟨rfl, (bF _ _).alloc (Nat.le_refl _) _⟩
theorem zAf (x0 : (k == 0) = false) (x1 : (k == 1) = false) (x2 : (k == 2) = false) (x3 : (k == 3) = false) (x4 : (decide (wrap64 (n + off) < 0)) = false) (x5 : (decide (4 <= wrap64 (n + off))) = true) : Calls tP 155 #[.agg #[A C k, A C n, A C c], A C off] w fun e w' => e = rT (.tuple #[A C 0, A C 2]) /\ Below w.heap.size w w' := by
 go_enter Tryz.func155, Tryz.ntmps155
 go_wp2
 go_ret2
 exact ⟨rfl, (bF _ _).alloc (Nat.le_refl _) _⟩
theorem zE5 (x0 : (k == 0) = false) (x1 : (k == 1) = false) (x2 : (k == 2) = false) (x3 : (k == 3) = false) (x4 : (decide (wrap64 (n + off) < 0)) = false) (x5 : (decide (4 <= wrap64 (n + off))) = false) : Calls tP 155 #[.agg #[A C k, A C n, A C c], A C off] w fun e w' => e = rT (.tuple #[A C (wrap64 (n + off)), A C 0]) /\ Below w.heap.size w w' := by
 go_enter Tryz.func155, Tryz.ntmps155
 go_wp2
 go_ret2
 exact ⟨rfl, (bF _ _).alloc (Nat.le_refl _) _⟩
end
end
section
open Go.ChangeShapes Go.WideShapes Go.ChangeAt Go.RowKit
structure Mac where
 step : Int
 steps : Int
 reg : Nat -> Val
 slot : Nat -> Val
 word : Nat -> Int
 cel : Nat -> Int
 time : Int
 out : Value
def z2z (x : Val) (j : Nat) : Value := if j = 0 then A C x.k else if j = 1 then A C x.n else A C x.c
def Mac.cell (m : Mac) (i : Nat) : Value :=
 if i = 0 then A C m.step else if i = 1 then A C m.steps
 else if i < 35 then z2z (m.reg ((i - 2) / 3)) ((i - 2) % 3)
 else if i < 83 then z2z (m.slot ((i - 35) / 3)) ((i - 35) % 3)
 else if i < 91 then A C (m.word (i - 83))
 else if i < 107 then A C (m.cel (i - 91))
 else if i = 107 then A C m.time else m.out
def z09 (w : World) (B : Nat) (m : Mac) : Prop := w.heap[B]? = some (cT (Array.ofFn (n := 109) fun i => m.cell i.1) 182 (0, 0))
theorem z09.lt {w : World} {B : Nat} {m : Mac} (h : z09 w B m) : B < w.heap.size := (Array.getElem?_eq_some_iff.1 h).1
theorem z09.at {w : World} {B : Nat} {m : Mac} (h : z09 w B m) (i : Nat) (hi : i < 109) : w.cell? ⟨B, i, none⟩ = some (m.cell i) := by
 have h' : w.heap[B]? = some (cT (Array.ofFn (n := 109) fun i => m.cell i.1) 182 (0, 0)) := h
 simp [World.cell?, h', hi]
theorem z09.frozen {w : World} {B : Nat} {m : Mac} (h : z09 w B m) (i : Nat) : w.frozen? ⟨B, i, none⟩ = false := by
 have h' : w.heap[B]? = some (cT (Array.ofFn (n := 109) fun i => m.cell i.1) 182 (0, 0)) := h
 simp [World.frozen?, h']
theorem z09.later {w w1 : World} {B : Nat} {m : Mac} (h : z09 w B m) (hb : Below w.heap.size w w1) : z09 w1 B m := (hb.block B h.lt).trans h
theorem z09.set {w : World} {B : Nat} {m m' : Mac} (h : z09 w B m) (i : Nat) (_ : i < 109) (v : Value) (he : ∀ j, j < 109 -> m'.cell j = if j = i then v else m.cell j) : z09 (w.setCell ⟨B, i, none⟩ v) B m' := by
 have h' : w.heap[B]? = some (cT (Array.ofFn (n := 109) fun i => m.cell i.1) 182 (0, 0)) := h
 have e : (Array.ofFn (n := 109) fun i => m.cell i.1).setIfInBounds i v = Array.ofFn (n := 109) fun i => m'.cell i.1 := by
  apply Array.ext
  ·simp
  ·intro j h1 h2
   have h3 : j < 109 := by simpa using h2
   rw [Array.getElem_setIfInBounds (by simpa using h3), Array.getElem_ofFn, Array.getElem_ofFn]
   show (if i = j then v else m.cell j) = m'.cell j
   rw [he j h3]
   by_cases hj : i = j
   ·rw [if_pos hj, if_pos hj.symm]
   ·rw [if_neg hj, if_neg (fun e => hj e.symm)]
 unfold z09
 rw [<- e]
 simp [World.setCell, Array.getElem?_modify, h']
theorem Mac.cell_reg (m : Mac) (d : Nat) (hd : d < 11) : m.cell (2 + d * 3) = A C (m.reg d).k /\ m.cell (2 + d * 3 + 1) = A C (m.reg d).n /\ m.cell (2 + d * 3 + 2) = A C (m.reg d).c := by
 refine ⟨?_, ?_, ?_⟩
 ·unfold Mac.cell
  rw [if_neg (by omega), if_neg (by omega), if_pos (by omega), show (2 + d * 3 - 2) / 3 = d by omega, show (2 + d * 3 - 2) % 3 = 0 by omega]; rfl
 ·unfold Mac.cell
  rw [if_neg (by omega), if_neg (by omega), if_pos (by omega), show (2 + d * 3 + 1 - 2) / 3 = d by omega, show (2 + d * 3 + 1 - 2) % 3 = 1 by omega]; rfl
 ·unfold Mac.cell
  rw [if_neg (by omega), if_neg (by omega), if_pos (by omega), show (2 + d * 3 + 2 - 2) / 3 = d by omega, show (2 + d * 3 + 2 - 2) % 3 = 2 by omega]; rfl
theorem Mac.cell_slot (m : Mac) (d : Nat) (hd : d < 16) : m.cell (35 + d * 3) = A C (m.slot d).k /\ m.cell (35 + d * 3 + 1) = A C (m.slot d).n /\ m.cell (35 + d * 3 + 2) = A C (m.slot d).c := by
 refine ⟨?_, ?_, ?_⟩
 ·unfold Mac.cell
  rw [if_neg (by omega), if_neg (by omega), if_neg (by omega), if_pos (by omega), show (35 + d * 3 - 35) / 3 = d by omega, show (35 + d * 3 - 35) % 3 = 0 by omega]; rfl
 ·unfold Mac.cell
  rw [if_neg (by omega), if_neg (by omega), if_neg (by omega), if_pos (by omega), show (35 + d * 3 + 1 - 35) / 3 = d by omega, show (35 + d * 3 + 1 - 35) % 3 = 1 by omega]; rfl
 ·unfold Mac.cell
  rw [if_neg (by omega), if_neg (by omega), if_neg (by omega), if_pos (by omega), show (35 + d * 3 + 2 - 35) / 3 = d by omega, show (35 + d * 3 + 2 - 35) % 3 = 2 by omega]; rfl
theorem z09.reg {w : World} {B d : Nat} {m : Mac} (h : z09 w B m) (hd : d < 11) : w.cell? ⟨B, 2 + d * 3, none⟩ = some (A C (m.reg d).k) /\ w.cell? ⟨B, 2 + d * 3 + 1, none⟩ = some (A C (m.reg d).n) /\ w.cell? ⟨B, 2 + d * 3 + 2, none⟩ = some (A C (m.reg d).c) :=
 ⟨by rw [h.at _ (by omega), (m.cell_reg d hd).1], by rw [h.at _ (by omega), (m.cell_reg d hd).2.1], by rw [h.at _ (by omega), (m.cell_reg d hd).2.2]⟩
def Mac.putReg (m : Mac) (d : Nat) (x : Val) : Mac := { m with reg := fun i => if i = d then x else m.reg i }
theorem Mac.cell_put (m : Mac) (d : Nat) (hd : d < 11) (y : Val) (j : Nat) : (m.putReg d y).cell j = if 2 + d * 3 <= j /\ j < 2 + d * 3 + 3 then z2z y (j - (2 + d * 3)) else m.cell j := by
 by_cases h : 2 + d * 3 <= j /\ j < 2 + d * 3 + 3
 ·rw [if_pos h]
  unfold Mac.cell
  rw [if_neg (by omega), if_neg (by omega), if_pos (by omega), show (j - 2) / 3 = d by omega, show (j - 2) % 3 = j - (2 + d * 3) by omega]
  show z2z (if d = d then y else m.reg d) _ = _
  rw [if_pos rfl]
 ·rw [if_neg h]
  by_cases h35 : 2 <= j /\ j < 35
  ·unfold Mac.cell
   rw [if_neg (show ¬ j = 0 by omega), if_neg (show ¬ j = 1 by omega), if_pos h35.2, if_neg (show ¬ j = 0 by omega), if_neg (show ¬ j = 1 by omega), if_pos h35.2]
   show z2z (if (j - 2) / 3 = d then y else m.reg ((j - 2) / 3)) _ = _
   rw [if_neg (by omega)]
  ·by_cases h2 : j < 2
   ·rcases (show j = 0 \/ j = 1 by omega) with rfl | rfl <;> rfl
   ·unfold Mac.cell
    rw [if_neg (show ¬ j = 0 by omega), if_neg (show ¬ j = 1 by omega), if_neg (show ¬ j < 35 by omega), if_neg (show ¬ j = 0 by omega), if_neg (show ¬ j = 1 by omega), if_neg (show ¬ j < 35 by omega)]
    rfl
theorem zE7 (m : Mac) (d : Nat) (hd : d < 11) (y z : Val) (i : Nat) (hi : i < 3) (h : ∀ j, j < 3 -> z2z z j = if j = i then z2z z i else z2z y j) : ∀ j, j < 109 -> (m.putReg d z).cell j = if j = 2 + d * 3 + i then z2z z i else (m.putReg d y).cell j := by
 intro j _
 rw [m.cell_put d hd z j, m.cell_put d hd y j]
 by_cases hin : 2 + d * 3 <= j /\ j < 2 + d * 3 + 3
 ·rw [if_pos hin, if_pos hin, h _ (by omega)]
  by_cases e : j = 2 + d * 3 + i
  ·rw [if_pos e, if_pos (by omega)]
  ·rw [if_neg e, if_neg (by omega)]
 ·rw [if_neg hin, if_neg hin, if_neg (by omega)]
theorem zTi (m : Mac) (d : Nat) : ∀ j, (m.putReg d (m.reg d)).cell j = m.cell j := by
 intro j
 have e : m.putReg d (m.reg d) = m := by
  unfold Mac.putReg
  have : (fun i => if i = d then m.reg d else m.reg i) = m.reg := by
   funext i
   by_cases h : i = d
   ·rw [if_pos h, h]
   ·rw [if_neg h]
  rw [this]
 rw [e]
theorem z09.putReg {w : World} {B d : Nat} {m : Mac} (h : z09 w B m) (hd : d < 11) (x : Val) : z09 (((w.setCell ⟨B, 2 + d * 3, none⟩ (A C x.k)).setCell ⟨B, 2 + d * 3 + 1, none⟩ (A C x.n)).setCell ⟨B, 2 + d * 3 + 2, none⟩ (A C x.c)) B (m.putReg d x) := by
 have h1 : z09 (w.setCell ⟨B, 2 + d * 3, none⟩ (A C x.k)) B (m.putReg d ⟨x.k, (m.reg d).n, (m.reg d).c⟩) := h.set _ (by omega) _ fun j hj => by
  have := zE7 m d hd (m.reg d) ⟨x.k, (m.reg d).n, (m.reg d).c⟩ 0 (by omega) (fun j hj => by rcases (show j = 0 \/ j = 1 \/ j = 2 by omega) with rfl | rfl | rfl <;> rfl) j hj
  rw [this, zTi m d]; rfl
 have h2 : z09 ((w.setCell ⟨B, 2 + d * 3, none⟩ (A C x.k)).setCell ⟨B, 2 + d * 3 + 1, none⟩ (A C x.n)) B (m.putReg d ⟨x.k, x.n, (m.reg d).c⟩) := h1.set _ (by omega) _ fun j hj =>
  zE7 m d hd ⟨x.k, (m.reg d).n, (m.reg d).c⟩ ⟨x.k, x.n, (m.reg d).c⟩ 1 (by omega) (fun j hj => by rcases (show j = 0 \/ j = 1 \/ j = 2 by omega) with rfl | rfl | rfl <;> rfl) j hj
 exact h2.set _ (by omega) _ fun j hj =>
  zE7 m d hd ⟨x.k, x.n, (m.reg d).c⟩ x 2 (by omega) (fun j hj => by rcases (show j = 0 \/ j = 1 \/ j = 2 by omega) with rfl | rfl | rfl <;> rfl) j hj
theorem zMc (B d : Nat) (c a o n : Int) (m : Mac) (hd : d < 11) (w : World) (hM : z09 w B m) :
  Calls tP 153 #[pT (some ⟨B, 0, none⟩), .agg #[A C c, A C a, A C d, .bool true, A C o, A C n]] w fun e w' => e = rT (m.reg d).v /\ Below w.heap.size w w' := by
 have hB := hM.lt
 obtain ⟨h0, h1, h2⟩ := hM.reg hd
 go_enter Tryz.func153, Tryz.ntmps153
 go_wp2
 go_region
 all_goals go_wp2
 all_goals exact bodyPost_ret (v := (m.reg d).v) (by simp [results, Tryz.results153, go_sem, Val.v]) rfl ⟨rfl, (((bF _ _).alloc (Nat.le_refl _) _).alloc (by simp) _).drew⟩
theorem zMd (B : Nat) (c a s o n : Int) (w : World) :
  Calls tP 153 #[pT (some ⟨B, 0, none⟩), .agg #[A C c, A C a, A C s, .bool false, A C o, A C n]] w fun e w' => e = rT (numF n).v /\ Below w.heap.size w w' := by
 go_enter Tryz.func153, Tryz.ntmps153
 go_wp2_with (first
  | (go_at_call 156; refine (z6e n _).mono ?_; rintro e w1 ⟨rfl, hb1⟩; simp only [Val.v, numF]; obtain ⟨q0, q1, q2, z0, z1, z2, hl⟩ := z9h hb1; simp only [World.size_alloc] at q0 q1 q2 z0 z1 z2 hl)
  | go_in)
 exact bodyPost_ret (v := (numF n).v) (by simp [results, Tryz.results153, go_sem, Val.v, numF, q0, q1, q2]) rfl
  ⟨rfl, ((((((bF _ _).alloc (Nat.le_refl _) _).alloc (by simp) _).trans (hb1.mono (by simp; omega))).setCell (by show w.heap.size <= w.heap.size + 1; omega) _).setCell (by show w.heap.size <= w.heap.size + 1; omega) _).setCell (by show w.heap.size <= w.heap.size + 1; omega) _⟩
def Mac.second (m : Mac) (s : Nat) (r : Bool) (n : Int) : Val := if r then m.reg s else numF n
theorem z4y (B s : Nat) (c a o n : Int) (r : Bool) (m : Mac) (hs : s < 11) (w : World) (hM : z09 w B m) :
  Calls tP 153 #[pT (some ⟨B, 0, none⟩), .agg #[A C c, A C a, A C s, .bool r, A C o, A C n]] w fun e w' => e = rT (m.second s r n).v /\ Below w.heap.size w w' := by
 cases r with
 | true => exact zMc B s c a o n m hs w hM
 | false => exact zMd B c a s o n w
theorem zQb (code : Int) (a b : Val) (k0 : -9223372036854775808 <= b.n) (k1 : b.n <= 9223372036854775807) (w : World) :
  Calls tP 159 #[A C code, a.v, b.v] w fun e w' => e = rT (.tuple #[(z2q code a b).1.v, A C (z2q code a b).2]) /\ Below w.heap.size w w' := by
 obtain ⟨ak, an, ac⟩ := a
 obtain ⟨bk, bn, bc⟩ := b
 unfold z2q Val.v
 by_cases h0 : bk = 0
 ·rw [if_pos (Or.inl h0)]; exact zQa code ak an ac bk bn bc w (by simpa using h0)
 by_cases h1 : ak = 0
 ·by_cases h2 : code = 1
  ·rw [if_neg (by simp [h0, h2]), if_pos h2]; exact zN7 code ak an ac bk bn bc w (by simpa using h0) (by simpa using h1) (by simpa using h2) (by simp [h2])
  ·rw [if_pos (Or.inr ⟨h1, h2⟩)]; exact zQc code ak an ac bk bn bc w (by simpa using h0) (by simpa using h1) (by simpa using h2)
 by_cases h2 : code = 1
 ·rw [if_neg (by simp [h0, h1]), if_pos h2]; exact zN6 code ak an ac bk bn bc w (by simpa using h0) (by simpa using h1) (by simpa using h2)
 rw [if_neg (by simp [h0, h1]), if_neg h2]
 by_cases h3 : bk = 1
 ·by_cases h4 : ak = 1
  ·rw [if_pos ⟨h3, Or.inl h4⟩]; exact zN4 code ak an ac bk bn bc w k0 k1 (by simpa using h0) (by simpa using h1) (by simpa using h2) (by simpa using h3) (by simpa using h4)
  ·by_cases h5 : code = 2
   ·rw [if_pos ⟨h3, Or.inr (Or.inl h5)⟩]; exact zN3 code ak an ac bk bn bc w k0 k1 (by simpa using h0) (by simpa using h1) (by simpa using h2) (by simpa using h3) (by simpa using h4) (by simpa using h5)
   ·by_cases h6 : code = 3
    ·rw [if_pos ⟨h3, Or.inr (Or.inr h6)⟩]; exact zN2 code ak an ac bk bn bc w k0 k1 (by simpa using h0) (by simpa using h1) (by simpa using h2) (by simpa using h3) (by simpa using h4) (by simpa using h5) (by simpa using h6)
    ·rw [if_neg (by simp [h4, h5, h6]), if_neg (by simp [h4])]; exact zQ8 code ak an ac bk bn bc w (by simpa using h0) (by simpa using h1) (by simpa using h2) (by simpa using h3) (by simpa using h4) (by simpa using h5) (by simpa using h6)
 ·rw [if_neg (by simp [h3])]
  by_cases h4 : ak = 1
  ·by_cases h5 : code = 2
   ·rw [if_pos ⟨h4, h5⟩]; exact zN5 code ak an ac bk bn bc w k0 k1 (by simpa using h0) (by simpa using h1) (by simpa using h2) (by simpa using h3) (by simpa using h4) (by simpa using h5)
   ·rw [if_neg (by simp [h5])]; exact zQ9 code ak an ac bk bn bc w (by simpa using h0) (by simpa using h1) (by simpa using h2) (by simpa using h3) (by simpa using h4) (by simpa using h5)
  ·rw [if_neg (by simp [h4])]; exact zQ7 code ak an ac bk bn bc w (by simpa using h0) (by simpa using h1) (by simpa using h2) (by simpa using h3) (by simpa using h4)
theorem z3z (x : Val) (off : Int) (w : World) :
  Calls tP 155 #[x.v, A C off] w fun e w' => e = rT (.tuple #[A C (z14 x off).1, A C (z14 x off).2]) /\ Below w.heap.size w w' := by
 obtain ⟨k, n, c⟩ := x
 unfold z14 Val.v
 by_cases h0 : k = 0
 ·rw [if_pos h0]; exact zMh k n c off w (by simpa using h0)
 by_cases h1 : k = 1
 ·rw [if_neg h0, if_pos h1]; exact zPc k n c off w (by simpa using h0) (by simpa using h1)
 rw [if_neg h0, if_neg h1]
 by_cases h2 : k = 2
 ·have e1 : z3k ⟨k, n, c⟩ off = wrap64 (n + off) := if_neg (by show ¬ k = 3; omega)
  have e2 : z28 ⟨k, n, c⟩ = 8 := if_pos h2
  rw [e1, e2]
  by_cases l : wrap64 (n + off) < 0
  ·rw [if_pos (Or.inl l)]; exact zBn k n c off w (by simpa using h0) (by simpa using h1) (by simpa using h2) (by simpa using l)
  ·by_cases g : 8 <= wrap64 (n + off)
   ·rw [if_pos (Or.inr g)]; exact zAd k n c off w (by simpa using h0) (by simpa using h1) (by simpa using h2) (by simpa using l) (by simpa using g)
   ·rw [if_neg (by omega)]; exact zE4 k n c off w (by simpa using h0) (by simpa using h1) (by simpa using h2) (by simpa using l) (by simpa using g)
 by_cases h3 : k = 3
 ·have e1 : z3k ⟨k, n, c⟩ off = wrap64 (wrap64 (n + off) + 16) := if_pos h3
  have e2 : z28 ⟨k, n, c⟩ = 16 := by unfold z28; rw [if_neg h2, if_pos h3]
  rw [e1, e2]
  by_cases l : wrap64 (wrap64 (n + off) + 16) < 0
  ·rw [if_pos (Or.inl l)]; exact zAe k n c off w (by simpa using h0) (by simpa using h1) (by simpa using h2) (by simpa using h3) (by simpa using l)
  ·by_cases g : 16 <= wrap64 (wrap64 (n + off) + 16)
   ·rw [if_pos (Or.inr g)]; exact z9f k n c off w (by simpa using h0) (by simpa using h1) (by simpa using h2) (by simpa using h3) (by simpa using l) (by simpa using g)
   ·rw [if_neg (by omega)]; exact zBo k n c off w (by simpa using h0) (by simpa using h1) (by simpa using h2) (by simpa using h3) (by simpa using l) (by simpa using g)
 have e1 : z3k ⟨k, n, c⟩ off = wrap64 (n + off) := if_neg h3
 have e2 : z28 ⟨k, n, c⟩ = 4 := by unfold z28; rw [if_neg h2, if_neg h3]
 rw [e1, e2]
 by_cases l : wrap64 (n + off) < 0
 ·rw [if_pos (Or.inl l)]; exact zBp k n c off w (by simpa using h0) (by simpa using h1) (by simpa using h2) (by simpa using h3) (by simpa using l)
 ·by_cases g : 4 <= wrap64 (n + off)
  ·rw [if_pos (Or.inr g)]; exact zAf k n c off w (by simpa using h0) (by simpa using h1) (by simpa using h2) (by simpa using h3) (by simpa using l) (by simpa using g)
  ·rw [if_neg (by omega)]; exact zE5 k n c off w (by simpa using h0) (by simpa using h1) (by simpa using h2) (by simpa using h3) (by simpa using l) (by simpa using g)
theorem zQw (n : Int) (w : World) : Calls tP 157 #[A C n] w fun e w' => e = rT (z7w n).v /\ Below w.heap.size w w' := by
 unfold z7w
 by_cases l : n < 0
 ·rw [if_pos (Or.inl l)]; exact zQv n w (by simpa using l)
 ·by_cases g : 4 <= n
  ·rw [if_pos (Or.inr g)]; exact zNr n w (by simpa using l) (by simpa using g)
  ·rw [if_neg (by omega)]; exact zUf n w (by simpa using l) (by simpa using g)
abbrev Kept (B : Nat) (w w' : World) : Prop := w.grownBy w' (some B)
theorem z0e {w w1 : World} (hb : Below w.heap.size w w1) (B : Nat) : Kept B w w1 := ⟨hb.os, hb.tape, hb.output, hb.size, fun k hk _ => hb.block k hk⟩
theorem kept_set {w w1 : World} {B : Nat} (h : Kept B w w1) (i : Nat) (v : Value) : Kept B w (w1.setCell ⟨B, i, none⟩ v) :=
 ⟨h.os, h.tape, h.output, by show w.heap.size <= (w1.heap.modify B _).size; rw [Array.size_modify]; exact h.size, fun k hk hne => (Below.heap_setCell w1 ⟨B, i, none⟩ v k (fun e => hne (by rw [e]))).trans (h.block k hk hne)⟩
theorem z1c {w w1 : World} {B : Nat} (h : Kept B w w1) : Kept B w w1.drew := ⟨h.os, h.tape, h.output, h.size, h.block⟩
theorem z1t {w w1 w2 : World} {B : Nat} (h : Kept B w w1) (k : Kept B w1 w2) : Kept B w w2 :=
 ⟨k.os.trans h.os, k.tape.trans h.tape, k.output.trans h.output, Nat.le_trans h.size k.size, fun i hi hne => (k.block i (Nat.lt_of_lt_of_le hi h.size) hne).trans (h.block i hi hne)⟩
theorem z15 {W w1 : World} (hb : Below W.heap.size W w1) (b : Nat) : b < W.heap.size -> (∀ o, w1.cell? ⟨b, o, none⟩ = W.cell? ⟨b, o, none⟩) /\ (∀ o, w1.frozen? ⟨b, o, none⟩ = W.frozen? ⟨b, o, none⟩) /\ b < w1.heap.size := fun h =>
 ⟨fun o => hb.cell (p := ⟨b, o, none⟩) h, fun o => by
  have e := hb.block b h
  unfold World.frozen?
  rw [e], Nat.lt_of_lt_of_le h hb.size⟩
theorem z00 (w : World) : w.drew.heap.size = w.heap.size := rfl
theorem z0d (w : World) (k : Nat) : (w.drewN k).heap.size = w.heap.size := rfl
theorem z07 (w : World) (a : Addr) (v : Value) : (w.setCell a v).heap.size = w.heap.size := by simp [World.setCell]
attribute [local simp] z00 z0d z07
structure Frm (S B : Nat) (c d s : Int) (r : Bool) (o n : Int) (m : Mac) (w : World) : Prop where
 box : w.heap[S]? = some (cT #[A C c, A C d, A C s, .bool r, A C o, A C n] 80 (0, 0))
 mac : z09 w B m
theorem Frm.ltS {S B : Nat} {c d s o n : Int} {r : Bool} {m : Mac} {w : World} (h : Frm S B c d s r o n m w) : S < w.heap.size := (Array.getElem?_eq_some_iff.1 h.box).1
theorem Frm.later {S B : Nat} {c d s o n : Int} {r : Bool} {m : Mac} {w w1 : World} (h : Frm S B c d s r o n m w) (hb : Below w.heap.size w w1) : Frm S B c d s r o n m w1 := ⟨(hb.block S h.ltS).trans h.box, h.mac.later hb⟩
theorem Frm.alloc {S B : Nat} {c d s o n : Int} {r : Bool} {m : Mac} {w : World} (h : Frm S B c d s r o n m w) (x : Obj) : Frm S B c d s r o n m (w.alloc x) := h.later ((bF _ _).alloc (Nat.le_refl _) _)
theorem Frm.drew {S B : Nat} {c d s o n : Int} {r : Bool} {m : Mac} {w : World} (h : Frm S B c d s r o n m w) : Frm S B c d s r o n m w.drew := ⟨h.box, h.mac⟩
theorem Frm.drewN {S B : Nat} {c d s o n : Int} {r : Bool} {m : Mac} {w : World} (h : Frm S B c d s r o n m w) (k : Nat) : Frm S B c d s r o n m (w.drewN k) := ⟨h.box, h.mac⟩
theorem Frm.set {S B : Nat} {c d s o n : Int} {r : Bool} {m : Mac} {w : World} (h : Frm S B c d s r o n m w) (a : Addr) (v : Value) (h1 : S ≠ a.block) (h2 : B ≠ a.block) : Frm S B c d s r o n m (w.setCell a v) :=
 ⟨(Below.heap_setCell w a v S h1).trans h.box, (Below.heap_setCell w a v B h2).trans h.mac⟩
theorem Frm.cells {S B : Nat} {c d s o n : Int} {r : Bool} {m : Mac} {w : World} (h : Frm S B c d s r o n m w) : w.cell? ⟨S, 0, none⟩ = some (A C c) /\ w.cell? ⟨S, 1, none⟩ = some (A C d) /\ w.cell? ⟨S, 2, none⟩ = some (A C s) /\ w.cell? ⟨S, 3, none⟩ = some (.bool r) /\ w.cell? ⟨S, 4, none⟩ = some (A C o) /\ w.cell? ⟨S, 5, none⟩ = some (A C n) := by
 have e := h.box
 exact ⟨by simp [World.cell?, e], by simp [World.cell?, e], by simp [World.cell?, e], by simp [World.cell?, e], by simp [World.cell?, e], by simp [World.cell?, e]⟩
theorem Frm.start {B : Nat} {c d s o n : Int} {r : Bool} {m : Mac} {w : World} (h : z09 w B m) : Frm w.heap.size B c d s r o n m (w.alloc (cT #[A C c, A C d, A C s, .bool r, A C o, A C n] 80)) :=
 ⟨by show (w.heap.push _)[w.heap.size]? = _; simp, h.later ((bF _ _).alloc (Nat.le_refl _) _)⟩
theorem zNz (B d s : Nat) (c o n : Int) (r : Bool) (m : Mac) (hd : d < 11) (hs : s < 11) (k0 : -9223372036854775808 <= (m.second s r n).n) (k1 : (m.second s r n).n <= 9223372036854775807) (mk mn mc E : Int) (HE : Hid (z2q c (m.reg d) (m.second s r n) = (⟨mk, mn, mc⟩, E))) (w : World) (hM : z09 w B m) :
  Calls tP 122 #[pT (some ⟨B, 0, none⟩), .agg #[A C c, A C d, A C s, .bool r, A C o, A C n]] w fun e w' =>
   e = rT (A C E) /\ Kept B w w' /\ z09 w' B (m.putReg d ⟨mk, mn, mc⟩) := by
 have hB := hM.lt
 have hF0 : Frm w.heap.size B c d s r o n m _ := Frm.start hM
 obtain ⟨p0, p1, p2, p3, p4, p5⟩ := hF0.cells
 obtain ⟨h0, h1, h2⟩ := hF0.mac.reg hd
 have hd0 : (0 : Int) <= (d : Int) := by omega
 have hd1 : (d : Int) < 11 := by omega
 go_enter Tryz.func122, Tryz.ntmps122
 go_wp2_with fail
 go_cut [5, 6] (fun s5 s6 wx => ∃ L : Nat, s5 = pT (some ⟨L, 0, none⟩) /\ s6 = A C E /\ Below w.heap.size w wx /\ Frm w.heap.size B c d s r o n m wx /\ L < wx.heap.size /\ wx.cell? ⟨L, 0, none⟩ = some (A C mk) /\ wx.cell? ⟨L, 1, none⟩ = some (A C mn) /\ wx.cell? ⟨L, 2, none⟩ = some (A C mc))
 case first =>
  go_region_held3 (fun w' => w'.cell? ⟨w.heap.size, 0, none⟩ = some (A C c) /\ w'.cell? ⟨w.heap.size, 1, none⟩ = some (A C d) /\ w'.cell? ⟨w.heap.size, 2, none⟩ = some (A C s) /\ w'.cell? ⟨w.heap.size, 3, none⟩ = some (.bool r) /\ w'.cell? ⟨w.heap.size, 4, none⟩ = some (A C o) /\ w'.cell? ⟨w.heap.size, 5, none⟩ = some (A C n) /\ w'.cell? ⟨B, 2 + d * 3, none⟩ = some (A C (m.reg d).k) /\ w'.cell? ⟨B, 2 + d * 3 + 1, none⟩ = some (A C (m.reg d).n) /\ w'.cell? ⟨B, 2 + d * 3 + 2, none⟩ = some (A C (m.reg d).c)) (first | (simp [go_sem]; done) | (simp [go_sem, *]; done) | go_keep) (first
   | (go_at_call 153; go_must (refine (z4y B s c d o n r m hs _ (Frm.mac (S := w.heap.size) (c := c) (d := d) (s := s) (r := r) (o := o) (n := n) (by repeat' first | exact hF0 | exact hF1 | exact hF2 | refine Frm.alloc ?_ _ | refine Frm.drew ?_ | refine Frm.drewN ?_ _))).mono ?_; rintro e w1 ⟨rfl, hb1⟩; have hF1 : Frm w.heap.size B c d s r o n m w1 := Frm.later (by repeat' first | exact hF0 | exact hF1 | exact hF2 | refine Frm.alloc ?_ _ | refine Frm.drew ?_ | refine Frm.drewN ?_ _) hb1; have hbw1 : Below w.heap.size w w1 := (by ((refine Below.trans ?_ (hb1.mono ?_)) <;> repeat' first | exact bF _ _ | exact hbw1 | exact hbw2 | refine bA ?_ ?_ _ | refine bS ?_ ?_ _ | refine bD ?_ | refine below_drewN ?_ _ | (simp; done) | (simp; omega) | omega)); obtain ⟨v0, v1, v2, v3, v4, v5⟩ := hF1.cells; obtain ⟨i0, i1, i2⟩ := hF1.mac.reg hd; have hS1 := hF1.ltS; have hB1 := hF1.mac.lt; have v6 := z15 hb1 (w.heap.size + 1); (try simp [go_sem] at v6)))
   | (go_at_call 159; go_must (refine (zQb c (m.reg d) (m.second s r n) k0 k1 _).mono ?_; rintro e w2 ⟨rfl, hb2⟩; rw [HE.out]; simp only [Val.v]; have hF2 : Frm w.heap.size B c d s r o n m w2 := Frm.later (by repeat' first | exact hF0 | exact hF1 | exact hF2 | refine Frm.alloc ?_ _ | refine Frm.drew ?_ | refine Frm.drewN ?_ _) hb2; have hbw2 : Below w.heap.size w w2 := (by ((refine Below.trans ?_ (hb2.mono ?_)) <;> repeat' first | exact bF _ _ | exact hbw1 | exact hbw2 | refine bA ?_ ?_ _ | refine bS ?_ ?_ _ | refine bD ?_ | refine below_drewN ?_ _ | (simp; done) | (simp; omega) | omega)); obtain ⟨v0, v1, v2, v3, v4, v5⟩ := hF2.cells; obtain ⟨i0, i1, i2⟩ := hF2.mac.reg hd; have hS2 := hF2.ltS; have hB2 := hF2.mac.lt; have v7 := z15 hb2 w1.heap.size; have v8 := z15 hb2 (w.heap.size + 1); (try simp [go_sem] at v7); (try simp [go_sem, *] at v8))))
  all_goals (go_wp2_with fail; go_meet)
  all_goals refine ⟨_, rfl, rfl, by repeat' first | exact bF _ _ | exact hbw1 | exact hbw2 | refine bA ?_ ?_ _ | refine bS ?_ ?_ _ | refine bD ?_ | refine below_drewN ?_ _ | (simp; done) | (simp; omega) | omega, by repeat' first | exact hF2 | refine Frm.alloc ?_ _ | refine Frm.drew ?_ | refine Frm.drewN ?_ _ | refine Frm.set ?_ _ _ ?_ ?_ | (intro hh; simp at hh; done) | (intro hh; simp at hh; omega), ?_, ?_, ?_, ?_⟩
  all_goals first | (simp; done) | (simp; omega) | (simp [go_sem, *]; done) | skip
 case rest =>
  obtain ⟨L, rfl, rfl, hbw, hFx, hL, l0, l1, l2⟩ := hcut
  obtain ⟨v0, v1, v2, v3, v4, v5⟩ := hFx.cells
  obtain ⟨i0, i1, i2⟩ := hFx.mac.reg hd
  have hSx := hFx.ltS
  have hBx := hFx.mac.lt
  have f0 := hFx.mac.frozen (2 + d * 3)
  have f1 := hFx.mac.frozen (2 + d * 3 + 1)
  have f2 := hFx.mac.frozen (2 + d * 3 + 2)
  have HK := z0e hbw B
  go_wp2_with fail
  go_region
  all_goals go_wp2
  all_goals go_ret
  all_goals exact ⟨rfl, by repeat' first | exact HK | refine kept_set ?_ _ _ | refine z1c ?_, (hFx.mac.putReg hd ⟨mk, mn, mc⟩ :)⟩
end
section
open Go.RowKit
def fits (n : Int) : Bool := decide (-9223372036854775808 <= n) && decide (n <= 9223372036854775807)
theorem z5k (n : Int) : fits n = true ↔ -9223372036854775808 <= n /\ n <= 9223372036854775807 := by simp [fits]
def fit2 (x y : Int) : Int × Int := if fits x && fits y then (x, y) else (-9223372036854775808, 9223372036854775807)
theorem z9o {x y : Int} (h : (fits x && fits y) = true) : fit2 x y = (x, y) := by unfold fit2; rw [if_pos h]
theorem zEr {x y : Int} (h : (fits x && fits y) = false) : fit2 x y = (-9223372036854775808, 9223372036854775807) := by unfold fit2; rw [h]; rfl
theorem zPf {a b : Int} (h0 : -9223372036854775808 <= a) (h1 : a <= 9223372036854775807) (h2 : -9223372036854775808 <= b) (h3 : b <= 9223372036854775807) :
  (decide (a <= wrap64 (a + b)) == decide (0 <= b)) = fits (a + b) := by
 rw [Bool.eq_iff_iff, z5k, beq_iff_eq, Bool.eq_iff_iff, decide_eq_true_eq, decide_eq_true_eq]
 unfold wrap64
 omega
theorem zN1 {a b : Int} (h0 : -9223372036854775808 <= a) (h1 : a <= 9223372036854775807) (h2 : -9223372036854775808 <= b) (h3 : b <= 9223372036854775807) :
  (decide (wrap64 (a - b) <= a) == decide (0 <= b)) = fits (a - b) := by
 rw [Bool.eq_iff_iff, z5k, beq_iff_eq, Bool.eq_iff_iff, decide_eq_true_eq, decide_eq_true_eq]
 unfold wrap64
 omega
theorem fit2_1 (u v : Int) : (if fits u && fits v then wrap64 u else -9223372036854775808) = (fit2 u v).1 := by
 cases h : fits u && fits v
 ·rw [zEr h]; rfl
 ·rw [z9o h]
  simp only [Bool.and_eq_true, z5k] at h
  exact z0f h.1.1 h.1.2
theorem fit2_2 (u v : Int) : (if fits u && fits v then wrap64 v else 9223372036854775807) = (fit2 u v).2 := by
 cases h : fits u && fits v
 ·rw [zEr h]; rfl
 ·rw [z9o h]
  simp only [Bool.and_eq_true, z5k] at h
  exact z0f h.2.1 h.2.2
theorem zS9 {a : Int} {k : Nat} (hk : k < 64) : (wrap64 (a * 2 ^ k) / 2 ^ k == a) = fits (a * 2 ^ k) := by
 have hp : (0 : Int) < 2 ^ k := Int.pow_pos (by decide)
 have hd : ∃ q : Int, wrap64 (a * 2 ^ k) = q * 2 ^ k := by
  have e : wrap64 (a * 2 ^ k) = a * 2 ^ k - 18446744073709551616 * ((a * 2 ^ k + 9223372036854775808) / 18446744073709551616) := by unfold wrap64; omega
  have e2 : (18446744073709551616 : Int) = 2 ^ (64 - k) * 2 ^ k := by
   rw [<- Int.pow_add, show 64 - k + k = 64 by omega]; rfl
  refine ⟨a - 2 ^ (64 - k) * ((a * 2 ^ k + 9223372036854775808) / 18446744073709551616), ?_⟩
  rw [e, Int.sub_mul, Int.mul_right_comm, <- e2]
 obtain ⟨q, hq⟩ := hd
 have hb := z1p (a * 2 ^ k)
 rw [Bool.eq_iff_iff, beq_iff_eq, z5k]
 constructor
 ·intro h
  rw [hq, Int.mul_ediv_cancel _ (by omega)] at h
  rw [hq, h] at hb
  exact hb
 ·intro h
  rw [z0f h.1 h.2, Int.mul_ediv_cancel _ (by omega)]
def z2g (n : Int) : Bool := decide (-2147483648 <= n) && decide (n <= 2147483648)
theorem z3y (n : Int) : z2g n = true ↔ -2147483648 <= n /\ n <= 2147483648 := by simp [z2g]
def zMz (al ah bl bh : Int) : Int := min (min (min (al * bl) (al * bh)) (ah * bl)) (ah * bh)
def zN0 (al ah bl bh : Int) : Int := max (max (max (al * bl) (al * bh)) (ah * bl)) (ah * bh)
def bdV (c al ah bl bh : Int) : Int × Int :=
 if c = 1 then (bl, bh)
 else if c = 2 then fit2 (al + bl) (ah + bh)
 else if c = 3 then fit2 (al - bh) (ah - bl)
 else if c = 4 then (if z2g al && z2g ah && z2g bl && z2g bh then (zMz al ah bl bh, zN0 al ah bl bh) else (-9223372036854775808, 9223372036854775807))
 else if c = 5 then (if 0 <= al /\ 0 <= bl then (if 0 < bl then (al / bh, ah / bl) else (0, ah)) else (-9223372036854775808, 9223372036854775807))
 else if c = 6 then (if 0 <= al /\ 0 <= bl then (if 0 < bl then (0, min ah (bh - 1)) else (0, ah)) else (-9223372036854775808, 9223372036854775807))
 else if c = 7 then (if 0 <= al then (if 0 <= bl then (0, min ah bh) else (0, ah)) else if 0 <= bl then (0, bh) else (-9223372036854775808, 9223372036854775807))
 else if c = 8 then (if 0 <= al /\ 0 <= bl then (max al bl, z56 (max ah bh)) else (-9223372036854775808, 9223372036854775807))
 else if c = 9 then (if 0 <= al /\ 0 <= bl then (0, z56 (max ah bh)) else (-9223372036854775808, 9223372036854775807))
 else if c = 10 then (if bl = bh then fit2 (al * 2 ^ sixBits bl) (ah * 2 ^ sixBits bl) else (-9223372036854775808, 9223372036854775807))
 else if c = 11 then (if bl = bh then (if sixBits bl = 0 then (al, ah) else if 0 <= al then (al / 2 ^ sixBits bl, ah / 2 ^ sixBits bl) else (0, 2 ^ (64 - sixBits bl) - 1)) else if 0 <= al then (0, ah) else (-9223372036854775808, 9223372036854775807))
 else if c = 12 then (if bl = bh then (al / 2 ^ sixBits bl, ah / 2 ^ sixBits bl) else if 0 <= al then (0, ah) else if ah < 0 then (al, -1) else (al, ah))
 else if c = 13 then fit2 (-ah) (-al)
 else (-9223372036854775808, 9223372036854775807)
theorem zXs (al ah bl bh : Int) : bdV 1 al ah bl bh = (bl, bh) := by simp only [bdV, reduceIte, Int.reduceEq]
theorem zXr (al ah bl bh : Int) : bdV 2 al ah bl bh = fit2 (al + bl) (ah + bh) := by simp only [bdV, reduceIte, Int.reduceEq]
theorem zXq (al ah bl bh : Int) : bdV 3 al ah bl bh = fit2 (al - bh) (ah - bl) := by simp only [bdV, reduceIte, Int.reduceEq]
theorem zXp (al ah bl bh : Int) : bdV 4 al ah bl bh = (if z2g al && z2g ah && z2g bl && z2g bh then (zMz al ah bl bh, zN0 al ah bl bh) else (-9223372036854775808, 9223372036854775807)) := by simp only [bdV, reduceIte, Int.reduceEq]
theorem zXo (al ah bl bh : Int) : bdV 5 al ah bl bh = (if 0 <= al /\ 0 <= bl then (if 0 < bl then (al / bh, ah / bl) else (0, ah)) else (-9223372036854775808, 9223372036854775807)) := by simp only [bdV, reduceIte, Int.reduceEq]
theorem zXn (al ah bl bh : Int) : bdV 6 al ah bl bh = (if 0 <= al /\ 0 <= bl then (if 0 < bl then (0, min ah (bh - 1)) else (0, ah)) else (-9223372036854775808, 9223372036854775807)) := by simp only [bdV, reduceIte, Int.reduceEq]
theorem zXm (al ah bl bh : Int) : bdV 7 al ah bl bh = (if 0 <= al then (if 0 <= bl then (0, min ah bh) else (0, ah)) else if 0 <= bl then (0, bh) else (-9223372036854775808, 9223372036854775807)) := by simp only [bdV, reduceIte, Int.reduceEq]
theorem zXl (al ah bl bh : Int) : bdV 8 al ah bl bh = (if 0 <= al /\ 0 <= bl then (max al bl, z56 (max ah bh)) else (-9223372036854775808, 9223372036854775807)) := by simp only [bdV, reduceIte, Int.reduceEq]
theorem zXk (al ah bl bh : Int) : bdV 9 al ah bl bh = (if 0 <= al /\ 0 <= bl then (0, z56 (max ah bh)) else (-9223372036854775808, 9223372036854775807)) := by simp only [bdV, reduceIte, Int.reduceEq]
theorem zS8 (al ah bl bh : Int) : bdV 10 al ah bl bh = (if bl = bh then fit2 (al * 2 ^ sixBits bl) (ah * 2 ^ sixBits bl) else (-9223372036854775808, 9223372036854775807)) := by simp only [bdV, reduceIte, Int.reduceEq]
theorem zS7 (al ah bl bh : Int) : bdV 11 al ah bl bh = (if bl = bh then (if sixBits bl = 0 then (al, ah) else if 0 <= al then (al / 2 ^ sixBits bl, ah / 2 ^ sixBits bl) else (0, 2 ^ (64 - sixBits bl) - 1)) else if 0 <= al then (0, ah) else (-9223372036854775808, 9223372036854775807)) := by simp only [bdV, reduceIte, Int.reduceEq]
theorem zS6 (al ah bl bh : Int) : bdV 12 al ah bl bh = (if bl = bh then (al / 2 ^ sixBits bl, ah / 2 ^ sixBits bl) else if 0 <= al then (0, ah) else if ah < 0 then (al, -1) else (al, ah)) := by simp only [bdV, reduceIte, Int.reduceEq]
theorem zS5 (al ah bl bh : Int) : bdV 13 al ah bl bh = fit2 (-ah) (-al) := by simp only [bdV, reduceIte, Int.reduceEq]
theorem bdV_no {c : Int} (al ah bl bh : Int) (h : c < 1 \/ 13 < c) : bdV c al ah bl bh = (-9223372036854775808, 9223372036854775807) := by
 have e : ∀ k : Int, 1 <= k -> k <= 13 -> c ≠ k := fun k h1 h2 => by omega
 unfold bdV
 rw [if_neg (e 1 (by decide) (by decide)), if_neg (e 2 (by decide) (by decide)), if_neg (e 3 (by decide) (by decide)), if_neg (e 4 (by decide) (by decide)), if_neg (e 5 (by decide) (by decide)), if_neg (e 6 (by decide) (by decide)), if_neg (e 7 (by decide) (by decide)), if_neg (e 8 (by decide) (by decide)), if_neg (e 9 (by decide) (by decide)), if_neg (e 10 (by decide) (by decide)), if_neg (e 11 (by decide) (by decide)), if_neg (e 12 (by decide) (by decide)), if_neg (e 13 (by decide) (by decide))]
theorem z3p {a : Int} (h0 : 0 <= a) (h1 : a <= 9223372036854775807) : (uns a : Int) = a := by rw [zK5]; omega
theorem z9q {a b : Int} (h0 : 0 <= a) (h1 : a <= 9223372036854775807) (h2 : 0 < b) (h3 : b <= 9223372036854775807) : z0s 5 a b = a / b := by
 rw [zJm a (by omega), Int.natCast_ediv, z3p h0 h1, z3p (by omega) h3]
 have l := Int.ediv_nonneg h0 (Int.le_of_lt h2)
 have g := Int.ediv_le_self b h0
 exact z0f (by omega) (by omega)
theorem z9j {a b : Int} (h0 : 0 <= a) (h1 : a <= 9223372036854775807) : z0s 11 a b = a / 2 ^ sixBits b := by
 have hp : (0 : Int) < 2 ^ sixBits b := Int.pow_pos (by decide)
 rw [z6k, Int.natCast_ediv, z3p h0 h1, Int.natCast_pow]
 have l := Int.ediv_nonneg h0 (Int.le_of_lt hp)
 have g := Int.ediv_le_self (2 ^ sixBits b) h0
 exact z0f (Int.le_trans (by decide) l) (Int.le_trans g h1)
theorem zDt {a b : Int} (h0 : -9223372036854775808 <= a) (h1 : a <= 9223372036854775807) (h : sixBits b = 0) : z0s 11 a b = a := by
 rw [z6k, h, Nat.pow_zero, Nat.div_one, zLh, z0f h0 h1]
theorem zK8 {b : Int} (h : sixBits b ≠ 0) : z0s 11 (-1) b = 2 ^ (64 - sixBits b) - 1 := by
 have hb := z8e b
 rw [z6k]
 generalize sixBits b = k at *
 have e : uns (-1) = 18446744073709551615 := by decide
 rw [e]
 have e2 : (18446744073709551616 : Nat) = 2 ^ (64 - k) * 2 ^ k := by rw [<- Nat.pow_add, show 64 - k + k = 64 by omega]
 have hp : 0 < 2 ^ k := Nat.two_pow_pos k
 have e3 : 18446744073709551615 / 2 ^ k = 2 ^ (64 - k) - 1 := by
  have hq : 0 < 2 ^ (64 - k) := Nat.two_pow_pos _
  rw [show (18446744073709551615 : Nat) = 2 ^ k * (2 ^ (64 - k) - 1) + (2 ^ k - 1) by rw [Nat.mul_sub_one, Nat.mul_comm, <- e2]; have := Nat.le_mul_of_pos_left (2 ^ k) hq; omega, Nat.mul_add_div hp, Nat.div_eq_of_lt (by omega), Nat.add_zero]
 rw [e3]
 have hle : 2 ^ (64 - k) <= 2 ^ 63 := Nat.pow_le_pow_right (by decide) (by omega)
 have hq : 0 < 2 ^ (64 - k) := Nat.two_pow_pos _
 have e4 : ((2 ^ (64 - k) - 1 : Nat) : Int) = 2 ^ (64 - k) - 1 := by rw [Int.natCast_sub hq, Int.natCast_pow]; rfl
 rw [e4]
 have l1 : (2 : Int) ^ (64 - k) <= 9223372036854775808 := by
  have := Int.ofNat_le.2 hle
  rw [Int.natCast_pow] at this
  exact this
 have l2 : (1 : Int) <= 2 ^ (64 - k) := Int.pow_pos (by decide)
 exact z0f (by omega) (by omega)
theorem zI0 (b : Int) : sixBits (b % 64) = sixBits b := by unfold sixBits; omega
theorem z3h {x y : Int} (hx : z2g x = true) (hy : z2g y = true) : wrap64 (x * y) = x * y := by
 rw [z3y] at hx hy
 have h1 : (x * y).natAbs = x.natAbs * y.natAbs := Int.natAbs_mul x y
 have h2 : x.natAbs * y.natAbs <= 2147483648 * 2147483648 := Nat.mul_le_mul (by omega) (by omega)
 exact z0f (by omega) (by omega)
end
end Go.Proofs.YtbimlalhodibjaaGreatDoor
