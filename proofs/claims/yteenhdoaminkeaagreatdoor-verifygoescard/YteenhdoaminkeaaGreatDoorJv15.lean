/-
 A way of a verifier, on plain numbers: which ways lead on from a step that asks: a machine of which what is known is so goes one of them. No program is named here. Conditions: the ends are of 64 bits; the step is right. What is wrong with a step, as a function on its six fields: what op.wrong and op.hasMore return, and what the document's own answer returns; the world below is as it was. Conditions: none on the fields. What op.wrong and the document's own wrong return at every step: the same function on the six fields and on how many steps stand behind; the world below is as it was. Conditions: none.
-/
import Derived.Test.YteenhdoaminkeaaGreatDoorJv13
import Derived.Test.YteenhdoaminkeaaGreatDoorJv14
import Derived.Test.YteenhdoaminkeaaGreatDoorRows
import Derived.WalkKit
import Derived.ProofKit
import Derived.OpenShut
import Derived.WalkLawsBesides
import Derived.BigCall
import Derived.BigGuardPart
import Derived.Test.YteenhdoaminkeaaGreatDoorJv2
import Derived.Test.YteenhdoaminkeaaGreatDoorJv4
set_option maxHeartbeats 40000000
open Go.Value renaming int → vI
open Go.IntKind renaming i64 → vK
open Go.RowKit.Below renaming alloc → bA, setCell → bS, drew → bD, refl → bF
set_option maxRecDepth 1000000
set_option linter.defProp false
set_option linter.unusedVariables false
set_option linter.unusedSimpArgs false
namespace Go.Proofs.YteenhdoaminkeaaGreatDoor
open Go.RowKit
def Way.narrow (y : Way) (c : Int) (d s : Nat) (r : Bool) (n : Int) : Bool × Way :=
 if (narV c (y.reg d).l (y.reg d).h (y.second s r n).l (y.second s r n).h).2.2 = false then (false, y)
 else if r = true ∧ s = d then (true, y)
 else if r = true then (true, (y.putReg d (z15 (narV c (y.reg d).l (y.reg d).h (y.second s r n).l (y.second s r n).h).1.1 (narV c (y.reg d).l (y.reg d).h (y.second s r n).l (y.second s r n).h).1.2)).putReg s (z15 (narV c (y.reg d).l (y.reg d).h (y.second s r n).l (y.second s r n).h).2.1.1 (narV c (y.reg d).l (y.reg d).h (y.second s r n).l (y.second s r n).h).2.1.2))
 else (true, y.putReg d (z15 (narV c (y.reg d).l (y.reg d).h (y.second s r n).l (y.second s r n).h).1.1 (narV c (y.reg d).l (y.reg d).h (y.second s r n).l (y.second s r n).h).1.2))
theorem Way.Has.know {y : Way} {a : Abs} {d : Nat} {x : Kno} (h : y.Has a) (hx : x.Has (a.reg d)) : (y.putReg d x).Has a :=
 ⟨fun i hi => by
  show (if i = d then x else y.reg i).Has (a.reg i)
  by_cases e : i = d
  ·rw [if_pos e, e]; exact hx
  ·rw [if_neg e]; exact h.reg i hi, h.slot⟩
theorem Kno.has_one {v : Val} {l h : Int} (hk : v.k = 1) (h1 : l ≤ v.n) (h2 : v.n ≤ h) : (z15 l h).Has v := Or.inr (Or.inl ⟨by show (1 : Int) ≤ 1; decide, by show (1 : Int) ≤ 4; decide, hk, h1, h2⟩)
theorem zA0 {y : Way} {a : Abs} {c : Int} {d s : Nat} {r : Bool} {n : Int} (hk : y.Ok) (hy : y.Has a) (hc : 15 ≤ c ∧ c ≤ 24) (hd : d < 11) (hs : s < 11) (hn : In64 n)
  (k1 : (y.reg d).k = 1) (k2 : (y.second s r n).k = 1) (h : isV c (a.reg d).n (a.second s r n).n = true) : (y.narrow c d s r n).1 = true ∧ (y.narrow c d s r n).2.Has a := by
 obtain ⟨e1, e2, e3⟩ := (hy.reg d hd).same (by omega) (by omega)
 obtain ⟨f1, f2, f3⟩ := (hy.second (r := r) (n := n) hs).same (by omega) (by omega)
 have o1 := hk.reg d hd
 have o2 := z2u (r := r) (n := n) hk hs hn
 obtain ⟨t, b1, b2⟩ := (zG0 hc o1.2.2.1.1 o1.2.2.2.1.2 o2.2.2.1.1 o2.2.2.2.1.2 e2 e3 f2 f3).1 h
 unfold Way.narrow
 rw [if_neg (by rw [t]; decide)]
 by_cases c1 : r = true ∧ s = d
 ·rw [if_pos c1]; exact ⟨rfl, hy⟩
 rw [if_neg c1]
 by_cases c2 : r = true
 ·rw [if_pos c2]
  refine ⟨rfl, (hy.know (Kno.has_one (by omega) b1.1 b1.2)).know ?_⟩
  have e : a.second s r n = a.reg s := if_pos c2
  rw [← e]
  exact Kno.has_one (by omega) b2.1 b2.2
 ·rw [if_neg c2]
  exact ⟨rfl, hy.know (Kno.has_one (by omega) b1.1 b1.2)⟩
def Way.askNumbers (y : Way) (c : Int) (d s : Nat) (r : Bool) (o n : Int) : List (Int × Way) :=
 (if (y.narrow (oppV c) d s r n).1 = true then [(0, (y.narrow (oppV c) d s r n).2)] else []) ++ (if (y.narrow c d s r n).1 = true then [(o, (y.narrow c d s r n).2)] else [])
def Way.askPlace (y : Way) (c : Int) (d : Nat) (o : Int) : List (Int × Way) :=
 if (y.reg d).k ≠ 5 then [(if c = 16 then o else 0, y)] else [(if c = 16 then 0 else o, y.putReg d (z15 0 0)), (if c = 16 then o else 0, y.putReg d ⟨4, 0, 0⟩)]
def Way.ask (y : Way) (c : Int) (d s : Nat) (r : Bool) (o n : Int) : List (Int × Way) × Int :=
 if (y.reg d).k = 0 ∨ (y.second s r n).k = 0 then ([], 8)
 else if (y.reg d).k = 1 ∧ (y.second s r n).k = 1 then (y.askNumbers c d s r o n, 0)
 else if (c ≠ 15 ∧ c ≠ 16) ∨ r = true ∨ n ≠ 0 then ([], 1)
 else (y.askPlace c d o, 0)
theorem zU8 {y : Way} {a : Abs} {c : Int} {d s : Nat} {r : Bool} {o n : Int} (hk : y.Ok) (hy : y.Has a) (hc : 15 ≤ c ∧ c ≤ 24) (hd : d < 11) (hs : s < 11) (hn : In64 n) (h : (y.ask c d s r o n).2 = 0) :
  (askF c (a.reg d) (a.second s r n) r o n).2 = 0 ∧ ∃ y', ((askF c (a.reg d) (a.second s r n) r o n).1, y') ∈ (y.ask c d s r o n).1 ∧ y'.Has a := by
 unfold Way.ask at h ⊢
 by_cases c1 : (y.reg d).k = 0 ∨ (y.second s r n).k = 0
 ·rw [if_pos c1] at h; exact absurd h (by decide)
 rw [if_neg c1] at h ⊢
 have n1 : (a.reg d).k ≠ 0 := (hy.reg d hd).some (hk.reg d hd) fun e => c1 (Or.inl e)
 have n2 : (a.second s r n).k ≠ 0 := (hy.second hs).some (z2u hk hs hn) fun e => c1 (Or.inr e)
 unfold askF
 rw [if_neg fun e => e.elim n1 n2]
 by_cases c2 : (y.reg d).k = 1 ∧ (y.second s r n).k = 1
 ·rw [if_pos c2]
  obtain ⟨e1, -, -⟩ := (hy.reg d hd).same (by omega) (by omega)
  obtain ⟨f1, -, -⟩ := (hy.second (r := r) (n := n) hs).same (by omega) (by omega)
  rw [if_pos ⟨by omega, by omega⟩]
  unfold Way.askNumbers
  by_cases q : isV c (a.reg d).n (a.second s r n).n = true
  ·obtain ⟨g1, g2⟩ := zA0 hk hy hc hd hs hn c2.1 c2.2 q
   rw [if_pos q, if_pos g1]
   exact ⟨rfl, _, List.mem_append_right _ (List.mem_singleton.mpr rfl), g2⟩
  ·obtain ⟨p1, -, p2, p3⟩ := zCh (x := (a.reg d).n) (y := (a.second s r n).n) hc
   have q' : isV (oppV c) (a.reg d).n (a.second s r n).n = true := by
    cases z : isV (oppV c) (a.reg d).n (a.second s r n).n
    ·have q0 : isV c (a.reg d).n (a.second s r n).n = false := by cases t : isV c (a.reg d).n (a.second s r n).n with | false => rfl | true => exact absurd t q
     rw [z, q0] at p1; exact absurd p1 (by decide)
    ·rfl
   obtain ⟨g1, g2⟩ := zA0 hk hy ⟨p2, p3⟩ hd hs hn c2.1 c2.2 q'
   rw [if_neg q, if_pos g1]
   exact ⟨rfl, _, List.mem_append_left _ (List.mem_singleton.mpr rfl), g2⟩
 rw [if_neg c2] at h ⊢
 by_cases c3 : (c ≠ 15 ∧ c ≠ 16) ∨ r = true ∨ n ≠ 0
 ·rw [if_pos c3] at h; exact absurd h (by decide)
 have eW : (if (c ≠ 15 ∧ c ≠ 16) ∨ r = true ∨ n ≠ 0 then (([] : List (Int × Way)), (1 : Int)) else (y.askPlace c d o, 0)) = (y.askPlace c d o, 0) := if_neg c3
 have eA : (if (c ≠ 15 ∧ c ≠ 16) ∨ r = true ∨ n ≠ 0 then ((0 : Int), (1 : Int)) else if c = 16 then (o, 0) else (0, 0)) = if c = 16 then (o, 0) else (0, 0) := if_neg c3
 rw [eW, eA]
 have r0 : r = false := by cases r <;> simp_all
 have s1 : (y.second s r n).k = 1 := by rw [r0]; rfl
 have v1 : (a.second s r n).k = 1 := by rw [r0]; rfl
 have v0 : (a.second s r n).n = 0 := by rw [r0]; show n = 0; omega
 have k5 := (hk.reg d hd).2.1
 unfold Way.askPlace
 by_cases c4 : (y.reg d).k ≠ 5
 ·rw [if_pos c4]
  obtain ⟨e1, -, -⟩ := (hy.reg d hd).same (by have := (hk.reg d hd).1; omega) (by omega)
  rw [if_neg (show ¬ ((a.reg d).k = 1 ∧ (a.second s r n).k = 1) by omega)]
  by_cases c5 : c = 16
  ·rw [if_pos c5, if_pos c5]; exact ⟨rfl, _, List.mem_singleton.mpr rfl, hy⟩
  ·rw [if_neg c5, if_neg c5]; exact ⟨rfl, _, List.mem_singleton.mpr rfl, hy⟩
 rw [if_neg c4]
 rcases hy.reg d hd with e | e | ⟨-, en, ek⟩
 ·omega
 ·omega
 rcases ek with ek | ek
 ·rw [if_pos (show (a.reg d).k = 1 ∧ (a.second s r n).k = 1 from ⟨ek, v1⟩), en, v0]
  have hz := hy.know (d := d) (x := z15 0 0) (Kno.has_one ek (by omega) (by omega))
  by_cases c5 : c = 16
  ·subst c5
   exact ⟨rfl, _, mcS, hz⟩
  ·have c6 : c = 15 := by omega
   subst c6
   exact ⟨rfl, _, mcS, hz⟩
 ·rw [if_neg (show ¬ ((a.reg d).k = 1 ∧ (a.second s r n).k = 1) by omega)]
  have hz : (y.putReg d ⟨4, 0, 0⟩).Has a := hy.know (Or.inr (Or.inl ⟨by show (1 : Int) ≤ 4; decide, by show (4 : Int) ≤ 4; decide, ek, by show (0 : Int) ≤ _; omega, by show _ ≤ (0 : Int); omega⟩))
  by_cases c5 : c = 16
  ·subst c5
   exact ⟨rfl, _, mcO _ (List.mem_singleton.mpr rfl), hz⟩
  ·have c6 : c = 15 := by omega
   subst c6
   exact ⟨rfl, _, mcO _ (List.mem_singleton.mpr rfl), hz⟩
end Go.Proofs.YteenhdoaminkeaaGreatDoor
namespace Go.Proofs.YteenhdoaminkeaaGreatDoor
open Go.ChangeShapes Go.WideShapes Go.ChangeAt Go.RowKit

theorem zAk {k : IntKind} {a b : Int} (h : a = b) : Ending.returned (.int k a) = .returned (.int k b) := by rw [h]

def moreV (c d s : Int) (r : Bool) (o n : Int) : Bool :=
 if 1 ≤ c ∧ c ≤ 12 then (if r then o != 0 || n != 0 else s != 0 || o != 0)
 else if 15 ≤ c ∧ c ≤ 24 then (if r then n != 0 else s != 0)
 else if c = 13 then s != 0 || r || o != 0 || n != 0
 else if c = 14 then d != 0 || s != 0 || r || n != 0
 else if c = 25 then r || n != 0
 else if c = 26 then (if r then n != 0 else s != 0)
 else if c = 27 then d != 0 || s != 0 || r || o != 0
 else d != 0 || s != 0 || r || o != 0 || n != 0
def z1i (c d s : Int) (r : Bool) (o n : Int) : Int :=
 if c < 1 ∨ 28 < c then 3
 else if d < 0 ∨ 10 < d ∨ s < 0 ∨ 10 < s then 2
 else if ((1 ≤ c ∧ c ≤ 13) ∨ c = 25) ∧ d = 10 then 6
 else if moreV c d s r o n = true ∨ (c = 27 ∧ n ≠ 1 ∧ n ≠ 2 ∧ n ≠ 3) then 1 else 0
def z3s (c d s : Int) (r : Bool) (o n b : Int) : Int :=
 if z1i c d s r o n ≠ 0 then z1i c d s r o n
 else if (c = 14 ∨ (15 ≤ c ∧ c ≤ 24)) ∧ (o < 0 ∨ b ≤ o) then 10
 else if b = 0 ∧ c ≠ 28 then 8 else 0

theorem z4f  : (∀ (c d s o n : Int) (h1 : 1 ≤ c) (h2 : c ≤ 12) (w : World), Calls Tryz.prog 36 #[.agg #[vI vK c, vI vK d, vI vK s, .bool true, vI vK o, vI vK n]] w fun e w' => e = .returned (.bool (o != 0 || n != 0)) ∧ Below w.heap.size w w') ∧ (∀ (c d s o n : Int) (h1 : 1 ≤ c) (h2 : c ≤ 12) (w : World), Calls Tryz.prog 36 #[.agg #[vI vK c, vI vK d, vI vK s, .bool false, vI vK o, vI vK n]] w fun e w' => e = .returned (.bool (s != 0 || o != 0)) ∧ Below w.heap.size w w') ∧ (∀ (c d s o n : Int) (h1 : 15 ≤ c) (h2 : c ≤ 24) (w : World), Calls Tryz.prog 36 #[.agg #[vI vK c, vI vK d, vI vK s, .bool true, vI vK o, vI vK n]] w fun e w' => e = .returned (.bool (n != 0)) ∧ Below w.heap.size w w') ∧ (∀ (c d s o n : Int) (h1 : 15 ≤ c) (h2 : c ≤ 24) (w : World), Calls Tryz.prog 36 #[.agg #[vI vK c, vI vK d, vI vK s, .bool false, vI vK o, vI vK n]] w fun e w' => e = .returned (.bool (s != 0)) ∧ Below w.heap.size w w') ∧ (∀ (d s o n : Int) (w : World), Calls Tryz.prog 36 #[.agg #[vI vK 13, vI vK d, vI vK s, .bool true, vI vK o, vI vK n]] w fun e w' => e = .returned (.bool (s != 0 || true || o != 0 || n != 0)) ∧ Below w.heap.size w w') ∧ (∀ (d s o n : Int) (w : World), Calls Tryz.prog 36 #[.agg #[vI vK 13, vI vK d, vI vK s, .bool false, vI vK o, vI vK n]] w fun e w' => e = .returned (.bool (s != 0 || false || o != 0 || n != 0)) ∧ Below w.heap.size w w') ∧ (∀ (d s o n : Int) (w : World), Calls Tryz.prog 36 #[.agg #[vI vK 14, vI vK d, vI vK s, .bool true, vI vK o, vI vK n]] w fun e w' => e = .returned (.bool (d != 0 || s != 0 || true || n != 0)) ∧ Below w.heap.size w w') ∧ (∀ (d s o n : Int) (w : World), Calls Tryz.prog 36 #[.agg #[vI vK 14, vI vK d, vI vK s, .bool false, vI vK o, vI vK n]] w fun e w' => e = .returned (.bool (d != 0 || s != 0 || false || n != 0)) ∧ Below w.heap.size w w') ∧ (∀ (d s o n : Int) (w : World), Calls Tryz.prog 36 #[.agg #[vI vK 25, vI vK d, vI vK s, .bool true, vI vK o, vI vK n]] w fun e w' => e = .returned (.bool (true || n != 0)) ∧ Below w.heap.size w w') ∧ (∀ (d s o n : Int) (w : World), Calls Tryz.prog 36 #[.agg #[vI vK 25, vI vK d, vI vK s, .bool false, vI vK o, vI vK n]] w fun e w' => e = .returned (.bool (false || n != 0)) ∧ Below w.heap.size w w') ∧ (∀ (d s o n : Int) (w : World), Calls Tryz.prog 36 #[.agg #[vI vK 26, vI vK d, vI vK s, .bool true, vI vK o, vI vK n]] w fun e w' => e = .returned (.bool (n != 0)) ∧ Below w.heap.size w w') ∧ (∀ (d s o n : Int) (w : World), Calls Tryz.prog 36 #[.agg #[vI vK 26, vI vK d, vI vK s, .bool false, vI vK o, vI vK n]] w fun e w' => e = .returned (.bool (s != 0)) ∧ Below w.heap.size w w') ∧ (∀ (d s o n : Int) (w : World), Calls Tryz.prog 36 #[.agg #[vI vK 27, vI vK d, vI vK s, .bool true, vI vK o, vI vK n]] w fun e w' => e = .returned (.bool (d != 0 || s != 0 || true || o != 0)) ∧ Below w.heap.size w w') ∧ (∀ (d s o n : Int) (w : World), Calls Tryz.prog 36 #[.agg #[vI vK 27, vI vK d, vI vK s, .bool false, vI vK o, vI vK n]] w fun e w' => e = .returned (.bool (d != 0 || s != 0 || false || o != 0)) ∧ Below w.heap.size w w') := by
 refine ⟨?_, ?_, ?_, ?_, ?_, ?_, ?_, ?_, ?_, ?_, ?_, ?_, ?_, ?_⟩
 intro c d s o n h1 h2 w
 have e13 : (c == 13) = false := by simp; omega
 have e14 : (c == 14) = false := by simp; omega
 have e25 : (c == 25) = false := by simp; omega
 have e26 : (c == 26) = false := by simp; omega
 have e27 : (c == 27) = false := by simp; omega
 have e28 : (c == 28) = false := by simp; omega
 rotate_left
 intro c d s o n h1 h2 w
 have e13 : (c == 13) = false := by simp; omega
 have e14 : (c == 14) = false := by simp; omega
 have e25 : (c == 25) = false := by simp; omega
 have e26 : (c == 26) = false := by simp; omega
 have e27 : (c == 27) = false := by simp; omega
 have e28 : (c == 28) = false := by simp; omega
 rotate_left
 intro c d s o n h1 h2 w
 have e13 : (c == 13) = false := by simp; omega
 have e14 : (c == 14) = false := by simp; omega
 have e25 : (c == 25) = false := by simp; omega
 have e26 : (c == 26) = false := by simp; omega
 have e27 : (c == 27) = false := by simp; omega
 have e28 : (c == 28) = false := by simp; omega
 have g1 : 1 ≤ c := by omega
 have g2 : decide (c ≤ 12) = false := by simp; omega
 rotate_left
 intro c d s o n h1 h2 w
 have e13 : (c == 13) = false := by simp; omega
 have e14 : (c == 14) = false := by simp; omega
 have e25 : (c == 25) = false := by simp; omega
 have e26 : (c == 26) = false := by simp; omega
 have e27 : (c == 27) = false := by simp; omega
 have e28 : (c == 28) = false := by simp; omega
 have g1 : 1 ≤ c := by omega
 have g2 : decide (c ≤ 12) = false := by simp; omega
 rotate_left
 intro d s o n w
 rotate_left
 intro d s o n w
 rotate_left
 intro d s o n w
 rotate_left
 intro d s o n w
 rotate_left
 intro d s o n w
 rotate_left
 intro d s o n w
 rotate_left
 intro d s o n w
 rotate_left
 intro d s o n w
 rotate_left
 intro d s o n w
 rotate_left
 intro d s o n w
 rotate_left
 all_goals
  go_enter Tryz.func36, Tryz.ntmps36
  go_wp2
  all_goals
   go_ret
   exact ⟨z6n (by simp [*]), (bF _ _).alloc (Nat.le_refl _) _⟩
def zB0 := z4f.1
def z9i := z4f.2.1
def zB7 := z4f.2.2.1
def z9p := z4f.2.2.2.1
def zB6 := z4f.2.2.2.2.1
def z9o := z4f.2.2.2.2.2.1
def zB5 := z4f.2.2.2.2.2.2.1
def z9n := z4f.2.2.2.2.2.2.2.1
def zB4 := z4f.2.2.2.2.2.2.2.2.1
def z9m := z4f.2.2.2.2.2.2.2.2.2.1
def zB3 := z4f.2.2.2.2.2.2.2.2.2.2.1
def z9l := z4f.2.2.2.2.2.2.2.2.2.2.2.1
def zB2 := z4f.2.2.2.2.2.2.2.2.2.2.2.2.1
def z9k := z4f.2.2.2.2.2.2.2.2.2.2.2.2.2
theorem zQu (d s o n : Int) (w : World) : (Calls Tryz.prog 36 #[.agg #[vI vK 28, vI vK d, vI vK s, .bool true, vI vK o, vI vK n]] w fun e w' => e = .returned (.bool (d != 0 || s != 0 || true || o != 0 || n != 0)) ∧ Below w.heap.size w w') ∧ (Calls Tryz.prog 36 #[.agg #[vI vK 28, vI vK d, vI vK s, .bool false, vI vK o, vI vK n]] w fun e w' => e = .returned (.bool (d != 0 || s != 0 || false || o != 0 || n != 0)) ∧ Below w.heap.size w w') := by
 refine ⟨?_, ?_⟩
 all_goals
  go_enter Tryz.func36, Tryz.ntmps36
  go_wp2
  all_goals
   go_ret
   exact ⟨z6n (by simp [*]), (bF _ _).alloc (Nat.le_refl _) _⟩
def zB1 := fun d s o n w => (@zQu d s o n w).1
def z9j := fun d s o n w => (@zQu d s o n w).2
theorem zB8 (c d s : Int) (r : Bool) (o n : Int) (h1 : 1 ≤ c) (h2 : c ≤ 28) (w : World) :
  Calls Tryz.prog 36 #[.agg #[vI vK c, vI vK d, vI vK s, .bool r, vI vK o, vI vK n]] w fun e w' => e = .returned (.bool (moreV c d s r o n)) ∧ Below w.heap.size w w' := by
 have hc : (1 ≤ c ∧ c ≤ 12) ∨ (15 ≤ c ∧ c ≤ 24) ∨ c = 13 ∨ c = 14 ∨ c = 25 ∨ c = 26 ∨ c = 27 ∨ c = 28 := by omega
 rcases hc with ⟨a1, a2⟩ | ⟨a1, a2⟩ | rfl | rfl | rfl | rfl | rfl | rfl
 ·have e : moreV c d s r o n = (if r then o != 0 || n != 0 else s != 0 || o != 0) := by unfold moreV; rw [if_pos ⟨a1, a2⟩]
  rw [e]; cases r
  ·exact z9i c d s o n a1 a2 w
  ·exact zB0 c d s o n a1 a2 w
 ·have e : moreV c d s r o n = (if r then n != 0 else s != 0) := by unfold moreV; rw [if_neg (by omega), if_pos ⟨a1, a2⟩]
  rw [e]; cases r
  ·exact z9p c d s o n a1 a2 w
  ·exact zB7 c d s o n a1 a2 w
 ·cases r
  ·exact z9o d s o n w
  ·exact zB6 d s o n w
 ·cases r
  ·exact z9n d s o n w
  ·exact zB5 d s o n w
 ·cases r
  ·exact z9m d s o n w
  ·exact zB4 d s o n w
 ·cases r
  ·exact z9l d s o n w
  ·exact zB3 d s o n w
 ·cases r
  ·exact z9k d s o n w
  ·exact zB2 d s o n w
 ·cases r
  ·exact z9j d s o n w
  ·exact zB1 d s o n w
def bit (b : Bool) : Int := if b then 1 else 0
def endV (b : Int) : Int := if b = 0 then 8 else 0
def zLg (o b : Int) : Int := if o < 0 then 10 else if b ≤ o then 10 else endV b
theorem z3u  : (∀ (c d s o n : Int) (r : Bool) (h : c < 1) (w : World), Calls Tryz.prog 17 #[.agg #[vI vK c, vI vK d, vI vK s, .bool r, vI vK o, vI vK n]] w fun e w' => e = .returned (vI vK 3) ∧ Below w.heap.size w w') ∧ (∀ (c d s o n : Int) (r : Bool) (h : 28 < c) (w : World), Calls Tryz.prog 17 #[.agg #[vI vK c, vI vK d, vI vK s, .bool r, vI vK o, vI vK n]] w fun e w' => e = .returned (vI vK 3) ∧ Below w.heap.size w w') ∧ (∀ (c d s o n : Int) (r : Bool) (h1 : 1 ≤ c) (h2 : c ≤ 28) (h : d < 0) (w : World), Calls Tryz.prog 17 #[.agg #[vI vK c, vI vK d, vI vK s, .bool r, vI vK o, vI vK n]] w fun e w' => e = .returned (vI vK 2) ∧ Below w.heap.size w w') ∧ (∀ (c d s o n : Int) (r : Bool) (h1 : 1 ≤ c) (h2 : c ≤ 28) (h : 10 < d) (w : World), Calls Tryz.prog 17 #[.agg #[vI vK c, vI vK d, vI vK s, .bool r, vI vK o, vI vK n]] w fun e w' => e = .returned (vI vK 2) ∧ Below w.heap.size w w') ∧ (∀ (c d s o n : Int) (r : Bool) (h1 : 1 ≤ c) (h2 : c ≤ 28) (d1 : 0 ≤ d) (d2 : d ≤ 10) (h : s < 0) (w : World), Calls Tryz.prog 17 #[.agg #[vI vK c, vI vK d, vI vK s, .bool r, vI vK o, vI vK n]] w fun e w' => e = .returned (vI vK 2) ∧ Below w.heap.size w w') ∧ (∀ (c d s o n : Int) (r : Bool) (h1 : 1 ≤ c) (h2 : c ≤ 28) (d1 : 0 ≤ d) (d2 : d ≤ 10) (h : 10 < s) (w : World), Calls Tryz.prog 17 #[.agg #[vI vK c, vI vK d, vI vK s, .bool r, vI vK o, vI vK n]] w fun e w' => e = .returned (vI vK 2) ∧ Below w.heap.size w w') ∧ (∀ (c s o n : Int) (r : Bool) (h1 : 1 ≤ c) (h2 : c ≤ 13) (s1 : 0 ≤ s) (s2 : s ≤ 10) (w : World), Calls Tryz.prog 17 #[.agg #[vI vK c, vI vK 10, vI vK s, .bool r, vI vK o, vI vK n]] w fun e w' => e = .returned (vI vK 6) ∧ Below w.heap.size w w') ∧ (∀ (s o n : Int) (r : Bool) (s1 : 0 ≤ s) (s2 : s ≤ 10) (w : World), Calls Tryz.prog 17 #[.agg #[vI vK 25, vI vK 10, vI vK s, .bool r, vI vK o, vI vK n]] w fun e w' => e = .returned (vI vK 6) ∧ Below w.heap.size w w') := by
 refine ⟨?_, ?_, ?_, ?_, ?_, ?_, ?_, ?_⟩
 intro c d s o n r h w
 rotate_left
 intro c d s o n r h w
 have z0 : decide (1 ≤ c) = true := by simp; omega
 have z1 : decide (c ≤ 28) = false := by simp; omega
 rotate_left
 intro c d s o n r h1 h2 h w
 have z0 : decide (0 ≤ d) = false := by simp; omega
 rotate_left
 intro c d s o n r h1 h2 h w
 have z0 : decide (0 ≤ d) = true := by simp; omega
 have z1 : decide (d ≤ 10) = false := by simp; omega
 rotate_left
 intro c d s o n r h1 h2 d1 d2 h w
 have z0 : decide (0 ≤ s) = false := by simp; omega
 rotate_left
 intro c d s o n r h1 h2 d1 d2 h w
 have z0 : decide (0 ≤ s) = true := by simp; omega
 have z1 : decide (s ≤ 10) = false := by simp; omega
 rotate_left
 intro c s o n r h1 h2 s1 s2 w
 have z0 : decide (1 ≤ c) = true := by simp; omega
 have z1 : decide (c ≤ 28) = true := by simp; omega
 have z2 : decide (c ≤ 13) = true := by simp; omega
 rotate_left
 intro s o n r s1 s2 w
 rotate_left
 all_goals
  go_enter Tryz.func17, Tryz.ntmps17
  go_wp2
  all_goals
   go_ret
   exact ⟨rfl, (by repeat (first | exact bF _ _ | refine bA ?_ (by simp) _))⟩
def zNq := z3u.1
def zNr := z3u.2.1
def zNo := z3u.2.2.1
def zNp := z3u.2.2.2.1
def zNm := z3u.2.2.2.2.1
def zNn := z3u.2.2.2.2.2.1
def zS4 := z3u.2.2.2.2.2.2.1
def zJv := z3u.2.2.2.2.2.2.2
theorem z3t  : (∀ (c d s o n b : Int) (r : Bool) (h : c < 1) (w : World), Calls Tryz.prog 24 #[.agg #[vI vK c, vI vK d, vI vK s, .bool r, vI vK o, vI vK n], vI vK b, .func (Fn.func 23) #[] #[]] w fun e w' => e = .returned (vI vK 3) ∧ Below w.heap.size w w') ∧ (∀ (c d s o n b : Int) (r : Bool) (h : 28 < c) (w : World), Calls Tryz.prog 24 #[.agg #[vI vK c, vI vK d, vI vK s, .bool r, vI vK o, vI vK n], vI vK b, .func (Fn.func 23) #[] #[]] w fun e w' => e = .returned (vI vK 3) ∧ Below w.heap.size w w') ∧ (∀ (c d s o n b : Int) (r : Bool) (h1 : 1 ≤ c) (h2 : c ≤ 28) (h : d < 0) (w : World), Calls Tryz.prog 24 #[.agg #[vI vK c, vI vK d, vI vK s, .bool r, vI vK o, vI vK n], vI vK b, .func (Fn.func 23) #[] #[]] w fun e w' => e = .returned (vI vK 2) ∧ Below w.heap.size w w') ∧ (∀ (c d s o n b : Int) (r : Bool) (h1 : 1 ≤ c) (h2 : c ≤ 28) (h : 10 < d) (w : World), Calls Tryz.prog 24 #[.agg #[vI vK c, vI vK d, vI vK s, .bool r, vI vK o, vI vK n], vI vK b, .func (Fn.func 23) #[] #[]] w fun e w' => e = .returned (vI vK 2) ∧ Below w.heap.size w w') ∧ (∀ (c d s o n b : Int) (r : Bool) (h1 : 1 ≤ c) (h2 : c ≤ 28) (d1 : 0 ≤ d) (d2 : d ≤ 10) (h : s < 0) (w : World), Calls Tryz.prog 24 #[.agg #[vI vK c, vI vK d, vI vK s, .bool r, vI vK o, vI vK n], vI vK b, .func (Fn.func 23) #[] #[]] w fun e w' => e = .returned (vI vK 2) ∧ Below w.heap.size w w') ∧ (∀ (c d s o n b : Int) (r : Bool) (h1 : 1 ≤ c) (h2 : c ≤ 28) (d1 : 0 ≤ d) (d2 : d ≤ 10) (h : 10 < s) (w : World), Calls Tryz.prog 24 #[.agg #[vI vK c, vI vK d, vI vK s, .bool r, vI vK o, vI vK n], vI vK b, .func (Fn.func 23) #[] #[]] w fun e w' => e = .returned (vI vK 2) ∧ Below w.heap.size w w') ∧ (∀ (c s o n b : Int) (r : Bool) (h1 : 1 ≤ c) (h2 : c ≤ 13) (s1 : 0 ≤ s) (s2 : s ≤ 10) (w : World), Calls Tryz.prog 24 #[.agg #[vI vK c, vI vK 10, vI vK s, .bool r, vI vK o, vI vK n], vI vK b, .func (Fn.func 23) #[] #[]] w fun e w' => e = .returned (vI vK 6) ∧ Below w.heap.size w w') ∧ (∀ (s o n b : Int) (r : Bool) (s1 : 0 ≤ s) (s2 : s ≤ 10) (w : World), Calls Tryz.prog 24 #[.agg #[vI vK 25, vI vK 10, vI vK s, .bool r, vI vK o, vI vK n], vI vK b, .func (Fn.func 23) #[] #[]] w fun e w' => e = .returned (vI vK 6) ∧ Below w.heap.size w w') := by
 refine ⟨?_, ?_, ?_, ?_, ?_, ?_, ?_, ?_⟩
 intro c d s o n b r h w
 have z0 : decide (c < 1) = true := by simp; omega
 rotate_left
 intro c d s o n b r h w
 have z0 : decide (c < 1) = false := by simp; omega
 have z1 : decide (28 < c) = true := by simp; omega
 rotate_left
 intro c d s o n b r h1 h2 h w
 have z0 : decide (c < 1) = false := by simp; omega
 have z1 : decide (28 < c) = false := by simp; omega
 have z2 : decide (0 ≤ d) = false := by simp; omega
 rotate_left
 intro c d s o n b r h1 h2 h w
 have z0 : decide (c < 1) = false := by simp; omega
 have z1 : decide (28 < c) = false := by simp; omega
 have z2 : decide (0 ≤ d) = true := by simp; omega
 have z3 : decide (d < 11) = false := by simp; omega
 rotate_left
 intro c d s o n b r h1 h2 d1 d2 h w
 have z0 : decide (c < 1) = false := by simp; omega
 have z1 : decide (28 < c) = false := by simp; omega
 have z2 : decide (0 ≤ d) = true := by simp; omega
 have z3 : decide (d < 11) = true := by simp; omega
 have z4 : decide (0 ≤ s) = false := by simp; omega
 rotate_left
 intro c d s o n b r h1 h2 d1 d2 h w
 have z0 : decide (c < 1) = false := by simp; omega
 have z1 : decide (28 < c) = false := by simp; omega
 have z2 : decide (0 ≤ d) = true := by simp; omega
 have z3 : decide (d < 11) = true := by simp; omega
 have z4 : decide (0 ≤ s) = true := by simp; omega
 have z5 : decide (s < 11) = false := by simp; omega
 rotate_left
 intro c s o n b r h1 h2 s1 s2 w
 have z0 : decide (c < 1) = false := by simp; omega
 have z1 : decide (28 < c) = false := by simp; omega
 have z2 : decide (0 ≤ s) = true := by simp; omega
 have z3 : decide (s < 11) = true := by simp; omega
 have z4 : decide (1 ≤ c) = true := by simp; omega
 have z5 : decide (c ≤ 13) = true := by simp; omega
 rotate_left
 intro s o n b r s1 s2 w
 have z0 : decide (0 ≤ s) = true := by simp; omega
 have z1 : decide (s < 11) = true := by simp; omega
 rotate_left
 all_goals
  go_enter Tryz.func24, Tryz.ntmps24
  go_wp2
  all_goals
   go_ret
   exact ⟨rfl, (by repeat (first | exact bF _ _ | refine bA ?_ (by simp) _))⟩
def zT1 := z3t.1
def zT2 := z3t.2.1
def zSz := z3t.2.2.1
def zT0 := z3t.2.2.2.1
def zSx := z3t.2.2.2.2.1
def zSy := z3t.2.2.2.2.2.1
def op_top := z3t.2.2.2.2.2.2.1
def zP2 := z3t.2.2.2.2.2.2.2
theorem z2f  : (∀ (c d s o n : Int) (h1 : 1 ≤ c) (h2 : c ≤ 12) (d1 : 0 ≤ d) (d2 : d ≤ 10) (s1 : 0 ≤ s) (s2 : s ≤ 10) (dt : d ≠ 10) (w : World), Calls Tryz.prog 17 #[.agg #[vI vK c, vI vK d, vI vK s, .bool true, vI vK o, vI vK n]] w fun e w' => e = .returned (vI vK (bit (o != 0 || n != 0))) ∧ Below w.heap.size w w') ∧ (∀ (c d s o n : Int) (h1 : 1 ≤ c) (h2 : c ≤ 12) (d1 : 0 ≤ d) (d2 : d ≤ 10) (s1 : 0 ≤ s) (s2 : s ≤ 10) (dt : d ≠ 10) (w : World), Calls Tryz.prog 17 #[.agg #[vI vK c, vI vK d, vI vK s, .bool false, vI vK o, vI vK n]] w fun e w' => e = .returned (vI vK (bit (s != 0 || o != 0))) ∧ Below w.heap.size w w') ∧ (∀ (c d s o n : Int) (h1 : 15 ≤ c) (h2 : c ≤ 24) (d1 : 0 ≤ d) (d2 : d ≤ 10) (s1 : 0 ≤ s) (s2 : s ≤ 10) (w : World), Calls Tryz.prog 17 #[.agg #[vI vK c, vI vK d, vI vK s, .bool true, vI vK o, vI vK n]] w fun e w' => e = .returned (vI vK (bit (n != 0))) ∧ Below w.heap.size w w') ∧ (∀ (c d s o n : Int) (h1 : 15 ≤ c) (h2 : c ≤ 24) (d1 : 0 ≤ d) (d2 : d ≤ 10) (s1 : 0 ≤ s) (s2 : s ≤ 10) (w : World), Calls Tryz.prog 17 #[.agg #[vI vK c, vI vK d, vI vK s, .bool false, vI vK o, vI vK n]] w fun e w' => e = .returned (vI vK (bit (s != 0))) ∧ Below w.heap.size w w') ∧ (∀ (d s o n : Int) (d1 : 0 ≤ d) (d2 : d ≤ 10) (s1 : 0 ≤ s) (s2 : s ≤ 10) (dt : d ≠ 10) (w : World), Calls Tryz.prog 17 #[.agg #[vI vK 13, vI vK d, vI vK s, .bool true, vI vK o, vI vK n]] w fun e w' => e = .returned (vI vK (bit (s != 0 || true || o != 0 || n != 0))) ∧ Below w.heap.size w w') ∧ (∀ (d s o n : Int) (d1 : 0 ≤ d) (d2 : d ≤ 10) (s1 : 0 ≤ s) (s2 : s ≤ 10) (dt : d ≠ 10) (w : World), Calls Tryz.prog 17 #[.agg #[vI vK 13, vI vK d, vI vK s, .bool false, vI vK o, vI vK n]] w fun e w' => e = .returned (vI vK (bit (s != 0 || false || o != 0 || n != 0))) ∧ Below w.heap.size w w') ∧ (∀ (d s o n : Int) (d1 : 0 ≤ d) (d2 : d ≤ 10) (s1 : 0 ≤ s) (s2 : s ≤ 10) (w : World), Calls Tryz.prog 17 #[.agg #[vI vK 14, vI vK d, vI vK s, .bool true, vI vK o, vI vK n]] w fun e w' => e = .returned (vI vK (bit (d != 0 || s != 0 || true || n != 0))) ∧ Below w.heap.size w w') ∧ (∀ (d s o n : Int) (d1 : 0 ≤ d) (d2 : d ≤ 10) (s1 : 0 ≤ s) (s2 : s ≤ 10) (w : World), Calls Tryz.prog 17 #[.agg #[vI vK 14, vI vK d, vI vK s, .bool false, vI vK o, vI vK n]] w fun e w' => e = .returned (vI vK (bit (d != 0 || s != 0 || false || n != 0))) ∧ Below w.heap.size w w') ∧ (∀ (d s o n : Int) (d1 : 0 ≤ d) (d2 : d ≤ 10) (s1 : 0 ≤ s) (s2 : s ≤ 10) (dt : d ≠ 10) (w : World), Calls Tryz.prog 17 #[.agg #[vI vK 25, vI vK d, vI vK s, .bool true, vI vK o, vI vK n]] w fun e w' => e = .returned (vI vK (bit (true || n != 0))) ∧ Below w.heap.size w w') ∧ (∀ (d s o n : Int) (d1 : 0 ≤ d) (d2 : d ≤ 10) (s1 : 0 ≤ s) (s2 : s ≤ 10) (dt : d ≠ 10) (w : World), Calls Tryz.prog 17 #[.agg #[vI vK 25, vI vK d, vI vK s, .bool false, vI vK o, vI vK n]] w fun e w' => e = .returned (vI vK (bit (false || n != 0))) ∧ Below w.heap.size w w') ∧ (∀ (d s o n : Int) (d1 : 0 ≤ d) (d2 : d ≤ 10) (s1 : 0 ≤ s) (s2 : s ≤ 10) (w : World), Calls Tryz.prog 17 #[.agg #[vI vK 26, vI vK d, vI vK s, .bool true, vI vK o, vI vK n]] w fun e w' => e = .returned (vI vK (bit (n != 0))) ∧ Below w.heap.size w w') ∧ (∀ (d s o n : Int) (d1 : 0 ≤ d) (d2 : d ≤ 10) (s1 : 0 ≤ s) (s2 : s ≤ 10) (w : World), Calls Tryz.prog 17 #[.agg #[vI vK 26, vI vK d, vI vK s, .bool false, vI vK o, vI vK n]] w fun e w' => e = .returned (vI vK (bit (s != 0))) ∧ Below w.heap.size w w') ∧ (∀ (d s o n : Int) (d1 : 0 ≤ d) (d2 : d ≤ 10) (s1 : 0 ≤ s) (s2 : s ≤ 10) (w : World), Calls Tryz.prog 17 #[.agg #[vI vK 27, vI vK d, vI vK s, .bool true, vI vK o, vI vK n]] w fun e w' => e = .returned (vI vK (bit (d != 0 || s != 0 || true || o != 0 || (n != 1 && (n != 2 && n != 3))))) ∧ Below w.heap.size w w') ∧ (∀ (d s o n : Int) (d1 : 0 ≤ d) (d2 : d ≤ 10) (s1 : 0 ≤ s) (s2 : s ≤ 10) (w : World), Calls Tryz.prog 17 #[.agg #[vI vK 27, vI vK d, vI vK s, .bool false, vI vK o, vI vK n]] w fun e w' => e = .returned (vI vK (bit (d != 0 || s != 0 || false || o != 0 || (n != 1 && (n != 2 && n != 3))))) ∧ Below w.heap.size w w') := by
 refine ⟨?_, ?_, ?_, ?_, ?_, ?_, ?_, ?_, ?_, ?_, ?_, ?_, ?_, ?_⟩
 intro c d s o n h1 h2 d1 d2 s1 s2 dt w
 have e13 : (c == 13) = false := by simp; omega
 have e14 : (c == 14) = false := by simp; omega
 have e25 : (c == 25) = false := by simp; omega
 have e26 : (c == 26) = false := by simp; omega
 have e27 : (c == 27) = false := by simp; omega
 have e28 : (c == 28) = false := by simp; omega
 have z0 : decide (1 ≤ c) = true := by simp; omega
 have z1 : decide (c ≤ 28) = true := by simp; omega
 have z2 : decide (c ≤ 13) = true := by simp; omega
 have z3 : decide (c ≤ 12) = true := by simp; omega
 have z4 : decide (15 ≤ c) = false := by simp; omega
 have e10 : (d == 10) = false := by simpa using dt
 rotate_left
 intro c d s o n h1 h2 d1 d2 s1 s2 dt w
 have e13 : (c == 13) = false := by simp; omega
 have e14 : (c == 14) = false := by simp; omega
 have e25 : (c == 25) = false := by simp; omega
 have e26 : (c == 26) = false := by simp; omega
 have e27 : (c == 27) = false := by simp; omega
 have e28 : (c == 28) = false := by simp; omega
 have z0 : decide (1 ≤ c) = true := by simp; omega
 have z1 : decide (c ≤ 28) = true := by simp; omega
 have z2 : decide (c ≤ 13) = true := by simp; omega
 have z3 : decide (c ≤ 12) = true := by simp; omega
 have z4 : decide (15 ≤ c) = false := by simp; omega
 have e10 : (d == 10) = false := by simpa using dt
 rotate_left
 intro c d s o n h1 h2 d1 d2 s1 s2 w
 have e13 : (c == 13) = false := by simp; omega
 have e14 : (c == 14) = false := by simp; omega
 have e25 : (c == 25) = false := by simp; omega
 have e26 : (c == 26) = false := by simp; omega
 have e27 : (c == 27) = false := by simp; omega
 have e28 : (c == 28) = false := by simp; omega
 have z0 : decide (1 ≤ c) = true := by simp; omega
 have z1 : decide (c ≤ 28) = true := by simp; omega
 have z2 : decide (c ≤ 13) = false := by simp; omega
 have z3 : decide (c ≤ 12) = false := by simp; omega
 have z4 : decide (15 ≤ c) = true := by simp; omega
 have z5 : decide (c ≤ 24) = true := by simp; omega
 rotate_left
 intro c d s o n h1 h2 d1 d2 s1 s2 w
 have e13 : (c == 13) = false := by simp; omega
 have e14 : (c == 14) = false := by simp; omega
 have e25 : (c == 25) = false := by simp; omega
 have e26 : (c == 26) = false := by simp; omega
 have e27 : (c == 27) = false := by simp; omega
 have e28 : (c == 28) = false := by simp; omega
 have z0 : decide (1 ≤ c) = true := by simp; omega
 have z1 : decide (c ≤ 28) = true := by simp; omega
 have z2 : decide (c ≤ 13) = false := by simp; omega
 have z3 : decide (c ≤ 12) = false := by simp; omega
 have z4 : decide (15 ≤ c) = true := by simp; omega
 have z5 : decide (c ≤ 24) = true := by simp; omega
 rotate_left
 intro d s o n d1 d2 s1 s2 dt w
 have e10 : (d == 10) = false := by simpa using dt
 rotate_left
 intro d s o n d1 d2 s1 s2 dt w
 have e10 : (d == 10) = false := by simpa using dt
 rotate_left
 intro d s o n d1 d2 s1 s2 w
 rotate_left
 intro d s o n d1 d2 s1 s2 w
 rotate_left
 intro d s o n d1 d2 s1 s2 dt w
 have e10 : (d == 10) = false := by simpa using dt
 rotate_left
 intro d s o n d1 d2 s1 s2 dt w
 have e10 : (d == 10) = false := by simpa using dt
 rotate_left
 intro d s o n d1 d2 s1 s2 w
 rotate_left
 intro d s o n d1 d2 s1 s2 w
 rotate_left
 intro d s o n d1 d2 s1 s2 w
 rotate_left
 intro d s o n d1 d2 s1 s2 w
 rotate_left
 all_goals
  go_enter Tryz.func17, Tryz.ntmps17
  go_wp2
  all_goals
   go_ret
   exact ⟨zAk (by simp [bit, *]), (by repeat (first | exact bF _ _ | refine bA ?_ (by simp) _))⟩
def zC7 := z2f.1
def zAm := z2f.2.1
def zCe := z2f.2.2.1
def zAt := z2f.2.2.2.1
def zCd := z2f.2.2.2.2.1
def zAs := z2f.2.2.2.2.2.1
def zCc := z2f.2.2.2.2.2.2.1
def zAr := z2f.2.2.2.2.2.2.2.1
def zCb := z2f.2.2.2.2.2.2.2.2.1
def zAq := z2f.2.2.2.2.2.2.2.2.2.1
def zCa := z2f.2.2.2.2.2.2.2.2.2.2.1
def zAp := z2f.2.2.2.2.2.2.2.2.2.2.2.1
def zC9 := z2f.2.2.2.2.2.2.2.2.2.2.2.2.1
def zAo := z2f.2.2.2.2.2.2.2.2.2.2.2.2.2
theorem zD0 (d s o n : Int) (d1 : 0 ≤ d) (d2 : d ≤ 10) (s1 : 0 ≤ s) (s2 : s ≤ 10) (w : World) : (Calls Tryz.prog 17 #[.agg #[vI vK 28, vI vK d, vI vK s, .bool true, vI vK o, vI vK n]] w fun e w' => e = .returned (vI vK (bit (d != 0 || s != 0 || true || o != 0 || n != 0))) ∧ Below w.heap.size w w') ∧ (Calls Tryz.prog 17 #[.agg #[vI vK 28, vI vK d, vI vK s, .bool false, vI vK o, vI vK n]] w fun e w' => e = .returned (vI vK (bit (d != 0 || s != 0 || false || o != 0 || n != 0))) ∧ Below w.heap.size w w') := by
 refine ⟨?_, ?_⟩
 all_goals
  go_enter Tryz.func17, Tryz.ntmps17
  go_wp2
  all_goals
   go_ret
   exact ⟨zAk (by simp [bit, *]), (by repeat (first | exact bF _ _ | refine bA ?_ (by simp) _))⟩
def zC8 := fun d s o n d1 d2 s1 s2 w => (@zD0 d s o n d1 d2 s1 s2 w).1
def zAn := fun d s o n d1 d2 s1 s2 w => (@zD0 d s o n d1 d2 s1 s2 w).2
theorem zCz  : (∀ (c d s o n b : Int) (r : Bool) (h1 : 15 ≤ c) (h2 : c ≤ 24) (d1 : 0 ≤ d) (d2 : d ≤ 10) (s1 : 0 ≤ s) (s2 : s ≤ 10) (hm : moreV c d s r o n = false) (w : World), Calls Tryz.prog 24 #[.agg #[vI vK c, vI vK d, vI vK s, .bool r, vI vK o, vI vK n], vI vK b, .func (Fn.func 23) #[] #[]] w fun e w' => e = .returned (vI vK (zLg o b)) ∧ Below w.heap.size w w') ∧ (∀ (d s o n b : Int) (r : Bool) (d1 : 0 ≤ d) (d2 : d ≤ 10) (s1 : 0 ≤ s) (s2 : s ≤ 10) (hm : moreV 14 d s r o n = false) (w : World), Calls Tryz.prog 24 #[.agg #[vI vK 14, vI vK d, vI vK s, .bool r, vI vK o, vI vK n], vI vK b, .func (Fn.func 23) #[] #[]] w fun e w' => e = .returned (vI vK (zLg o b)) ∧ Below w.heap.size w w') := by
 refine ⟨?_, ?_⟩
 intro c d s o n b r h1 h2 d1 d2 s1 s2 hm w
 have e14 : (c == 14) = false := by simp; omega
 have e25 : (c == 25) = false := by simp; omega
 have e26 : (c == 26) = false := by simp; omega
 have e27 : (c == 27) = false := by simp; omega
 have e28 : (c == 28) = false := by simp; omega
 rotate_left
 intro d s o n b r d1 d2 s1 s2 hm w
 rotate_left
 all_goals
  have z0 : decide (0 ≤ d) = true := by simp; omega
  have z1 : decide (d < 11) = true := by simp; omega
  have z2 : decide (0 ≤ s) = true := by simp; omega
  have z3 : decide (s < 11) = true := by simp; omega
 have z4 : decide (c < 1) = false := by simp; omega
 have z5 : decide (28 < c) = false := by simp; omega
 have z6 : decide (1 ≤ c) = true := by simp; omega
 have z7 : decide (c ≤ 13) = false := by simp; omega
 have z8 : decide (15 ≤ c) = true := by simp; omega
 have z9 : decide (c ≤ 24) = true := by simp; omega
 rotate_left
 rotate_left
 all_goals
  go_enter Tryz.func24, Tryz.ntmps24
  go_wp2_with (first | (go_at_call 36; refine (zB8 _ _ _ _ _ _ (by omega) (by omega) _).mono ?_; rw [hm]; rintro e w1 ⟨rfl, hb⟩; obtain ⟨hcl, hfr⟩ := z09 hb) | go_in)
  all_goals
   go_ret
   exact ⟨zAk (by unfold zLg endV; (repeat' split) <;> omega), (((bF _ _).alloc (Nat.le_refl _) _).trans (hb.mono (by simp)))⟩
def zI6 := zCz.1
def zI5 := zCz.2
theorem z4s  : (∀ (c d s o n b : Int) (r : Bool) (h1 : 1 ≤ c) (h2 : c ≤ 13) (d1 : 0 ≤ d) (d2 : d ≤ 10) (s1 : 0 ≤ s) (s2 : s ≤ 10) (dt : d ≠ 10) (hm : moreV c d s r o n = false) (w : World), Calls Tryz.prog 24 #[.agg #[vI vK c, vI vK d, vI vK s, .bool r, vI vK o, vI vK n], vI vK b, .func (Fn.func 23) #[] #[]] w fun e w' => e = .returned (vI vK (endV b)) ∧ Below w.heap.size w w') ∧ (∀ (d s o n b : Int) (r : Bool) (d1 : 0 ≤ d) (d2 : d ≤ 10) (s1 : 0 ≤ s) (s2 : s ≤ 10) (dt : d ≠ 10) (hm : moreV 25 d s r o n = false) (w : World), Calls Tryz.prog 24 #[.agg #[vI vK 25, vI vK d, vI vK s, .bool r, vI vK o, vI vK n], vI vK b, .func (Fn.func 23) #[] #[]] w fun e w' => e = .returned (vI vK (endV b)) ∧ Below w.heap.size w w') ∧ (∀ (d s o n b : Int) (r : Bool) (d1 : 0 ≤ d) (d2 : d ≤ 10) (s1 : 0 ≤ s) (s2 : s ≤ 10) (hm : moreV 26 d s r o n = false) (w : World), Calls Tryz.prog 24 #[.agg #[vI vK 26, vI vK d, vI vK s, .bool r, vI vK o, vI vK n], vI vK b, .func (Fn.func 23) #[] #[]] w fun e w' => e = .returned (vI vK (endV b)) ∧ Below w.heap.size w w') ∧ (∀ (d s o n b : Int) (r : Bool) (d1 : 0 ≤ d) (d2 : d ≤ 10) (s1 : 0 ≤ s) (s2 : s ≤ 10) (hm : moreV 27 d s r o n = false) (n1 : (n == 1) = true) (w : World), Calls Tryz.prog 24 #[.agg #[vI vK 27, vI vK d, vI vK s, .bool r, vI vK o, vI vK n], vI vK b, .func (Fn.func 23) #[] #[]] w fun e w' => e = .returned (vI vK (endV b)) ∧ Below w.heap.size w w') ∧ (∀ (d s o n b : Int) (r : Bool) (d1 : 0 ≤ d) (d2 : d ≤ 10) (s1 : 0 ≤ s) (s2 : s ≤ 10) (hm : moreV 27 d s r o n = false) (n1 : (n == 1) = false) (n2 : (n == 2) = true) (w : World), Calls Tryz.prog 24 #[.agg #[vI vK 27, vI vK d, vI vK s, .bool r, vI vK o, vI vK n], vI vK b, .func (Fn.func 23) #[] #[]] w fun e w' => e = .returned (vI vK (endV b)) ∧ Below w.heap.size w w') ∧ (∀ (d s o n b : Int) (r : Bool) (d1 : 0 ≤ d) (d2 : d ≤ 10) (s1 : 0 ≤ s) (s2 : s ≤ 10) (hm : moreV 27 d s r o n = false) (n1 : (n == 1) = false) (n2 : (n == 2) = false) (n3 : (n == 3) = true) (w : World), Calls Tryz.prog 24 #[.agg #[vI vK 27, vI vK d, vI vK s, .bool r, vI vK o, vI vK n], vI vK b, .func (Fn.func 23) #[] #[]] w fun e w' => e = .returned (vI vK (endV b)) ∧ Below w.heap.size w w') := by
 refine ⟨?_, ?_, ?_, ?_, ?_, ?_⟩
 intro c d s o n b r h1 h2 d1 d2 s1 s2 dt hm w
 have e14 : (c == 14) = false := by simp; omega
 have e25 : (c == 25) = false := by simp; omega
 have e26 : (c == 26) = false := by simp; omega
 have e27 : (c == 27) = false := by simp; omega
 have e28 : (c == 28) = false := by simp; omega
 have e10 : (d == 10) = false := by simpa using dt
 rotate_left
 intro d s o n b r d1 d2 s1 s2 dt hm w
 have e10 : (d == 10) = false := by simpa using dt
 rotate_left
 intro d s o n b r d1 d2 s1 s2 hm w
 rotate_left
 intro d s o n b r d1 d2 s1 s2 hm n1 w
 rotate_left
 intro d s o n b r d1 d2 s1 s2 hm n1 n2 w
 rotate_left
 intro d s o n b r d1 d2 s1 s2 hm n1 n2 n3 w
 rotate_left
 all_goals
  have z0 : decide (0 ≤ d) = true := by simp; omega
  have z1 : decide (d < 11) = true := by simp; omega
  have z2 : decide (0 ≤ s) = true := by simp; omega
  have z3 : decide (s < 11) = true := by simp; omega
 have z4 : decide (c < 1) = false := by simp; omega
 have z5 : decide (28 < c) = false := by simp; omega
 have z6 : decide (1 ≤ c) = true := by simp; omega
 have z7 : decide (c ≤ 13) = true := by simp; omega
 have z8 : decide (15 ≤ c) = false := by simp; omega
 rotate_left
 rotate_left
 rotate_left
 rotate_left
 rotate_left
 rotate_left
 all_goals
  go_enter Tryz.func24, Tryz.ntmps24
  go_wp2_with (first | (go_at_call 36; refine (zB8 _ _ _ _ _ _ (by omega) (by omega) _).mono ?_; rw [hm]; rintro e w1 ⟨rfl, hb⟩; obtain ⟨hcl, hfr⟩ := z09 hb) | go_in)
  all_goals
   go_ret
   exact ⟨zAk (by simp [endV, *]), (((bF _ _).alloc (Nat.le_refl _) _).trans (hb.mono (by simp)))⟩
def zI0 := z4s.1
def zI4 := z4s.2.1
def zI3 := z4s.2.2.1
def zEp := z4s.2.2.2.1
def zEo := z4s.2.2.2.2.1
def zEn := z4s.2.2.2.2.2
theorem z3i  : (∀ (c d s o n b : Int) (r : Bool) (h1 : 1 ≤ c) (h2 : c ≤ 13) (d1 : 0 ≤ d) (d2 : d ≤ 10) (s1 : 0 ≤ s) (s2 : s ≤ 10) (dt : d ≠ 10) (hm : moreV c d s r o n = true) (w : World), Calls Tryz.prog 24 #[.agg #[vI vK c, vI vK d, vI vK s, .bool r, vI vK o, vI vK n], vI vK b, .func (Fn.func 23) #[] #[]] w fun e w' => e = .returned (vI vK 1) ∧ Below w.heap.size w w') ∧ (∀ (c d s o n b : Int) (r : Bool) (h1 : 15 ≤ c) (h2 : c ≤ 24) (d1 : 0 ≤ d) (d2 : d ≤ 10) (s1 : 0 ≤ s) (s2 : s ≤ 10) (hm : moreV c d s r o n = true) (w : World), Calls Tryz.prog 24 #[.agg #[vI vK c, vI vK d, vI vK s, .bool r, vI vK o, vI vK n], vI vK b, .func (Fn.func 23) #[] #[]] w fun e w' => e = .returned (vI vK 1) ∧ Below w.heap.size w w') ∧ (∀ (d s o n b : Int) (r : Bool) (d1 : 0 ≤ d) (d2 : d ≤ 10) (s1 : 0 ≤ s) (s2 : s ≤ 10) (hm : moreV 14 d s r o n = true) (w : World), Calls Tryz.prog 24 #[.agg #[vI vK 14, vI vK d, vI vK s, .bool r, vI vK o, vI vK n], vI vK b, .func (Fn.func 23) #[] #[]] w fun e w' => e = .returned (vI vK 1) ∧ Below w.heap.size w w') ∧ (∀ (d s o n b : Int) (r : Bool) (d1 : 0 ≤ d) (d2 : d ≤ 10) (s1 : 0 ≤ s) (s2 : s ≤ 10) (dt : d ≠ 10) (hm : moreV 25 d s r o n = true) (w : World), Calls Tryz.prog 24 #[.agg #[vI vK 25, vI vK d, vI vK s, .bool r, vI vK o, vI vK n], vI vK b, .func (Fn.func 23) #[] #[]] w fun e w' => e = .returned (vI vK 1) ∧ Below w.heap.size w w') ∧ (∀ (d s o n b : Int) (r : Bool) (d1 : 0 ≤ d) (d2 : d ≤ 10) (s1 : 0 ≤ s) (s2 : s ≤ 10) (hm : moreV 26 d s r o n = true) (w : World), Calls Tryz.prog 24 #[.agg #[vI vK 26, vI vK d, vI vK s, .bool r, vI vK o, vI vK n], vI vK b, .func (Fn.func 23) #[] #[]] w fun e w' => e = .returned (vI vK 1) ∧ Below w.heap.size w w') ∧ (∀ (d s o n b : Int) (r : Bool) (d1 : 0 ≤ d) (d2 : d ≤ 10) (s1 : 0 ≤ s) (s2 : s ≤ 10) (hm : moreV 27 d s r o n = true) (w : World), Calls Tryz.prog 24 #[.agg #[vI vK 27, vI vK d, vI vK s, .bool r, vI vK o, vI vK n], vI vK b, .func (Fn.func 23) #[] #[]] w fun e w' => e = .returned (vI vK 1) ∧ Below w.heap.size w w') ∧ (∀ (d s o n b : Int) (r : Bool) (d1 : 0 ≤ d) (d2 : d ≤ 10) (s1 : 0 ≤ s) (s2 : s ≤ 10) (hm : moreV 27 d s r o n = false) (n1 : (n == 1) = false) (n2 : (n == 2) = false) (n3 : (n == 3) = false) (w : World), Calls Tryz.prog 24 #[.agg #[vI vK 27, vI vK d, vI vK s, .bool r, vI vK o, vI vK n], vI vK b, .func (Fn.func 23) #[] #[]] w fun e w' => e = .returned (vI vK 1) ∧ Below w.heap.size w w') ∧ (∀ (d s o n b : Int) (r : Bool) (d1 : 0 ≤ d) (d2 : d ≤ 10) (s1 : 0 ≤ s) (s2 : s ≤ 10) (hm : moreV 28 d s r o n = true) (w : World), Calls Tryz.prog 24 #[.agg #[vI vK 28, vI vK d, vI vK s, .bool r, vI vK o, vI vK n], vI vK b, .func (Fn.func 23) #[] #[]] w fun e w' => e = .returned (vI vK 1) ∧ Below w.heap.size w w') ∧ (∀ (d s o n b : Int) (r : Bool) (d1 : 0 ≤ d) (d2 : d ≤ 10) (s1 : 0 ≤ s) (s2 : s ≤ 10) (hm : moreV 28 d s r o n = false) (w : World), Calls Tryz.prog 24 #[.agg #[vI vK 28, vI vK d, vI vK s, .bool r, vI vK o, vI vK n], vI vK b, .func (Fn.func 23) #[] #[]] w fun e w' => e = .returned (vI vK 0) ∧ Below w.heap.size w w') := by
 refine ⟨?_, ?_, ?_, ?_, ?_, ?_, ?_, ?_, ?_⟩
 intro c d s o n b r h1 h2 d1 d2 s1 s2 dt hm w
 have e14 : (c == 14) = false := by simp; omega
 have e25 : (c == 25) = false := by simp; omega
 have e26 : (c == 26) = false := by simp; omega
 have e27 : (c == 27) = false := by simp; omega
 have e28 : (c == 28) = false := by simp; omega
 have e10 : (d == 10) = false := by simpa using dt
 rotate_left
 intro c d s o n b r h1 h2 d1 d2 s1 s2 hm w
 have e14 : (c == 14) = false := by simp; omega
 have e25 : (c == 25) = false := by simp; omega
 have e26 : (c == 26) = false := by simp; omega
 have e27 : (c == 27) = false := by simp; omega
 have e28 : (c == 28) = false := by simp; omega
 rotate_left
 intro d s o n b r d1 d2 s1 s2 hm w
 rotate_left
 intro d s o n b r d1 d2 s1 s2 dt hm w
 have e10 : (d == 10) = false := by simpa using dt
 rotate_left
 intro d s o n b r d1 d2 s1 s2 hm w
 rotate_left
 intro d s o n b r d1 d2 s1 s2 hm w
 rotate_left
 intro d s o n b r d1 d2 s1 s2 hm n1 n2 n3 w
 rotate_left
 intro d s o n b r d1 d2 s1 s2 hm w
 rotate_left
 intro d s o n b r d1 d2 s1 s2 hm w
 rotate_left
 all_goals
  have z0 : decide (0 ≤ d) = true := by simp; omega
  have z1 : decide (d < 11) = true := by simp; omega
  have z2 : decide (0 ≤ s) = true := by simp; omega
  have z3 : decide (s < 11) = true := by simp; omega
 have z4 : decide (c < 1) = false := by simp; omega
 have z5 : decide (28 < c) = false := by simp; omega
 have z6 : decide (1 ≤ c) = true := by simp; omega
 have z7 : decide (c ≤ 13) = true := by simp; omega
 have z8 : decide (15 ≤ c) = false := by simp; omega
 rotate_left
 have z4 : decide (c < 1) = false := by simp; omega
 have z5 : decide (28 < c) = false := by simp; omega
 have z6 : decide (1 ≤ c) = true := by simp; omega
 have z7 : decide (c ≤ 13) = false := by simp; omega
 have z8 : decide (15 ≤ c) = true := by simp; omega
 have z9 : decide (c ≤ 24) = true := by simp; omega
 rotate_left
 rotate_left
 rotate_left
 rotate_left
 rotate_left
 rotate_left
 rotate_left
 rotate_left
 all_goals
  go_enter Tryz.func24, Tryz.ntmps24
  go_wp2_with (first | (go_at_call 36; refine (zB8 _ _ _ _ _ _ (by omega) (by omega) _).mono ?_; rw [hm]; rintro e w1 ⟨rfl, hb⟩; obtain ⟨hcl, hfr⟩ := z09 hb) | go_in)
  all_goals
   go_ret
   exact ⟨rfl, (((bF _ _).alloc (Nat.le_refl _) _).trans (hb.mono (by simp)))⟩
def zEk := z3i.1
def zEt := z3i.2.1
def zEs := z3i.2.2.1
def zEr := z3i.2.2.2.1
def zEq := z3i.2.2.2.2.1
def zEm := z3i.2.2.2.2.2.1
def zI2 := z3i.2.2.2.2.2.2.1
def zEl := z3i.2.2.2.2.2.2.2.1
def zI1 := z3i.2.2.2.2.2.2.2.2
end Go.Proofs.YteenhdoaminkeaaGreatDoor
