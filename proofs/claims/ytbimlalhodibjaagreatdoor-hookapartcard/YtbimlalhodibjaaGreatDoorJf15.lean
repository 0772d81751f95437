/-
 A way of a verifier, on plain numbers: which ways lead on from a step that asks: a machine of which what is known is so goes one of them. No program is named here. Conditions: the ends are of 64 bits; the step is right. A way of a verifier, on plain numbers: which ways lead on from a step: a machine of which what is known is so goes one of them; and all ways of a list of steps, each wholly ahead of the next one: where none goes wrong, a machine ends well, with a number that is between the ends of one way. No program is named here. Conditions: the ends are of 64 bits; the steps are right. All ways of a list of right steps, on plain numbers: where none goes wrong, a machine of which what is known at a step is so ends well from there, behind at least one step and not more than there are, with a number that is between the ends of one way. No program is named here. Conditions: the steps are right; what is known has ends of 64 bits on all ways (lk). What is known stays with ends of 64 bits, in order, behind every look of a verifier, on plain numbers. No program is named here. Conditions: the step is right. What package verify's makes, second and change do. Conditions: the ends are of 64 bits, in order. What package verify's joined returns: the least bound that has all that others have. Conditions: the list's cells hold them.
-/
import Derived.Test.YtbimlalhodibjaaGreatDoorJf13
import Derived.Test.YtbimlalhodibjaaGreatDoorJf14
import Derived.Test.YtbimlalhodibjaaGreatDoorJf8
import Derived.LoopN
set_option maxHeartbeats 40000000
open Go.Value renaming int → A
open Go.IntKind renaming i64 → F
open Go.RowKit.Below renaming alloc → bA, setCell → bS, drew → bD, refl → bF
set_option maxRecDepth 1000000
set_option linter.defProp false
set_option linter.unusedVariables false
set_option linter.unusedSimpArgs false
open Go.Ending renaming returned → rT
open Go.Value renaming pointer → pT
open Go.Obj renaming cells → cT
open Go.Proofs.Tryz renaming prog → tP
open List renaming take_succ_cons → lQ, take_zero → lX, drop_succ_cons → lY, drop_zero → lZ, length_nil → lJ
namespace Go.Proofs.YtbimlalhodibjaaGreatDoor
section
open Go.RowKit
def Way.narrow (y : Way) (c : Int) (d s : Nat) (r : Bool) (n : Int) : Bool × Way :=
 if (narV c (y.reg d).l (y.reg d).h (y.second s r n).l (y.second s r n).h).2.2 = false then (false, y)
 else if r = true /\ s = d then (true, y)
 else if r = true then (true, (y.putReg d (z1d (narV c (y.reg d).l (y.reg d).h (y.second s r n).l (y.second s r n).h).1.1 (narV c (y.reg d).l (y.reg d).h (y.second s r n).l (y.second s r n).h).1.2)).putReg s (z1d (narV c (y.reg d).l (y.reg d).h (y.second s r n).l (y.second s r n).h).2.1.1 (narV c (y.reg d).l (y.reg d).h (y.second s r n).l (y.second s r n).h).2.1.2))
 else (true, y.putReg d (z1d (narV c (y.reg d).l (y.reg d).h (y.second s r n).l (y.second s r n).h).1.1 (narV c (y.reg d).l (y.reg d).h (y.second s r n).l (y.second s r n).h).1.2))
theorem Way.Has.know {y : Way} {a : Abs} {d : Nat} {x : Kno} (h : y.Has a) (hx : x.Has (a.reg d)) : (y.putReg d x).Has a :=
 ⟨fun i hi => by
  show (if i = d then x else y.reg i).Has (a.reg i)
  by_cases e : i = d
  ·rw [if_pos e, e]; exact hx
  ·rw [if_neg e]; exact h.reg i hi, h.slot⟩
theorem Kno.has_one {v : Val} {l h : Int} (hk : v.k = 1) (h1 : l <= v.n) (h2 : v.n <= h) : (z1d l h).Has v := Or.inr (Or.inl ⟨by show (1 : Int) <= 1; decide, by show (1 : Int) <= 4; decide, hk, h1, h2⟩)
theorem zCu {y : Way} {a : Abs} {c : Int} {d s : Nat} {r : Bool} {n : Int} (hk : y.Ok) (hy : y.Has a) (hc : 15 <= c /\ c <= 24) (hd : d < 11) (hs : s < 11) (hn : In64 n)
  (k1 : (y.reg d).k = 1) (k2 : (y.second s r n).k = 1) (h : isV c (a.reg d).n (a.second s r n).n = true) : (y.narrow c d s r n).1 = true /\ (y.narrow c d s r n).2.Has a := by
 obtain ⟨e1, e2, e3⟩ := (hy.reg d hd).same (by omega) (by omega)
 obtain ⟨f1, f2, f3⟩ := (hy.second (r := r) (n := n) hs).same (by omega) (by omega)
 have o1 := hk.reg d hd
 have o2 := z3j (r := r) (n := n) hk hs hn
 obtain ⟨t, b1, b2⟩ := (zKg hc o1.2.2.1.1 o1.2.2.2.1.2 o2.2.2.1.1 o2.2.2.2.1.2 e2 e3 f2 f3).1 h
 unfold Way.narrow
 rw [if_neg (by rw [t]; decide)]
 by_cases c1 : r = true /\ s = d
 ·rw [if_pos c1]; exact ⟨rfl, hy⟩
 rw [if_neg c1]
 by_cases c2 : r = true
 ·rw [if_pos c2]
  refine ⟨rfl, (hy.know (Kno.has_one (by omega) b1.1 b1.2)).know ?_⟩
  have e : a.second s r n = a.reg s := if_pos c2
  rw [<- e]
  exact Kno.has_one (by omega) b2.1 b2.2
 ·rw [if_neg c2]
  exact ⟨rfl, hy.know (Kno.has_one (by omega) b1.1 b1.2)⟩
def Way.askNumbers (y : Way) (c : Int) (d s : Nat) (r : Bool) (o n : Int) : List (Int × Way) :=
 (if (y.narrow (oppV c) d s r n).1 = true then [(0, (y.narrow (oppV c) d s r n).2)] else []) ++ (if (y.narrow c d s r n).1 = true then [(o, (y.narrow c d s r n).2)] else [])
def Way.askPlace (y : Way) (c : Int) (d : Nat) (o : Int) : List (Int × Way) :=
 if (y.reg d).k ≠ 5 then [(if c = 16 then o else 0, y)] else [(if c = 16 then 0 else o, y.putReg d (z1d 0 0)), (if c = 16 then o else 0, y.putReg d ⟨4, 0, 0⟩)]
def Way.ask (y : Way) (c : Int) (d s : Nat) (r : Bool) (o n : Int) : List (Int × Way) × Int :=
 if (y.reg d).k = 0 \/ (y.second s r n).k = 0 then ([], 8)
 else if (y.reg d).k = 1 /\ (y.second s r n).k = 1 then (y.askNumbers c d s r o n, 0)
 else if (c ≠ 15 /\ c ≠ 16) \/ r = true \/ n ≠ 0 then ([], 1)
 else (y.askPlace c d o, 0)
theorem zXv {y : Way} {a : Abs} {c : Int} {d s : Nat} {r : Bool} {o n : Int} (hk : y.Ok) (hy : y.Has a) (hc : 15 <= c /\ c <= 24) (hd : d < 11) (hs : s < 11) (hn : In64 n) (h : (y.ask c d s r o n).2 = 0) :
  (askF c (a.reg d) (a.second s r n) r o n).2 = 0 /\ ∃ y', ((askF c (a.reg d) (a.second s r n) r o n).1, y') ∈ (y.ask c d s r o n).1 /\ y'.Has a := by
 unfold Way.ask at h ⊢
 by_cases c1 : (y.reg d).k = 0 \/ (y.second s r n).k = 0
 ·rw [if_pos c1] at h; exact absurd h (by decide)
 rw [if_neg c1] at h ⊢
 have n1 : (a.reg d).k ≠ 0 := (hy.reg d hd).some (hk.reg d hd) fun e => c1 (Or.inl e)
 have n2 : (a.second s r n).k ≠ 0 := (hy.second hs).some (z3j hk hs hn) fun e => c1 (Or.inr e)
 unfold askF
 rw [if_neg fun e => e.elim n1 n2]
 by_cases c2 : (y.reg d).k = 1 /\ (y.second s r n).k = 1
 ·rw [if_pos c2]
  obtain ⟨e1, -, -⟩ := (hy.reg d hd).same (by omega) (by omega)
  obtain ⟨f1, -, -⟩ := (hy.second (r := r) (n := n) hs).same (by omega) (by omega)
  rw [if_pos ⟨by omega, by omega⟩]
  unfold Way.askNumbers
  by_cases q : isV c (a.reg d).n (a.second s r n).n = true
  ·obtain ⟨g1, g2⟩ := zCu hk hy hc hd hs hn c2.1 c2.2 q
   rw [if_pos q, if_pos g1]
   exact ⟨rfl, _, List.mem_append_right _ (List.mem_singleton.mpr rfl), g2⟩
  ·obtain ⟨p1, -, p2, p3⟩ := zG4 (x := (a.reg d).n) (y := (a.second s r n).n) hc
   have q' : isV (oppV c) (a.reg d).n (a.second s r n).n = true := by
    cases z : isV (oppV c) (a.reg d).n (a.second s r n).n
    ·have q0 : isV c (a.reg d).n (a.second s r n).n = false := by cases t : isV c (a.reg d).n (a.second s r n).n with | false => rfl | true => exact absurd t q
     rw [z, q0] at p1; exact absurd p1 (by decide)
    ·rfl
   obtain ⟨g1, g2⟩ := zCu hk hy ⟨p2, p3⟩ hd hs hn c2.1 c2.2 q'
   rw [if_neg q, if_pos g1]
   exact ⟨rfl, _, List.mem_append_left _ (List.mem_singleton.mpr rfl), g2⟩
 rw [if_neg c2] at h ⊢
 by_cases c3 : (c ≠ 15 /\ c ≠ 16) \/ r = true \/ n ≠ 0
 ·rw [if_pos c3] at h; exact absurd h (by decide)
 have eW : (if (c ≠ 15 /\ c ≠ 16) \/ r = true \/ n ≠ 0 then (([] : List (Int × Way)), (1 : Int)) else (y.askPlace c d o, 0)) = (y.askPlace c d o, 0) := if_neg c3
 have eA : (if (c ≠ 15 /\ c ≠ 16) \/ r = true \/ n ≠ 0 then ((0 : Int), (1 : Int)) else if c = 16 then (o, 0) else (0, 0)) = if c = 16 then (o, 0) else (0, 0) := if_neg c3
 rw [eW, eA]
 have r0 : r = false := by cases r <;> simp_all
 have s1 : (y.second s r n).k = 1 := by rw [r0]; rfl
 have v1 : (a.second s r n).k = 1 := by rw [r0]; rfl
 have v0 : (a.second s r n).n = 0 := by rw [r0]; show n = 0; omega
 have k5 := (hk.reg d hd).2.1
 unfold Way.askPlace
 by_cases c4 : (y.reg d).k ≠ 5
 ·rw [if_pos c4]
  obtain ⟨e1, -, -⟩ := (hy.reg d hd).same (by have := (hk.reg d hd).1; omega) (by omega)
  rw [if_neg (show ¬ ((a.reg d).k = 1 /\ (a.second s r n).k = 1) by omega)]
  by_cases c5 : c = 16
  ·rw [if_pos c5, if_pos c5]; exact ⟨rfl, _, List.mem_singleton.mpr rfl, hy⟩
  ·rw [if_neg c5, if_neg c5]; exact ⟨rfl, _, List.mem_singleton.mpr rfl, hy⟩
 rw [if_neg c4]
 rcases hy.reg d hd with e | e | ⟨-, en, ek⟩
 ·omega
 ·omega
 rcases ek with ek | ek
 ·rw [if_pos (show (a.reg d).k = 1 /\ (a.second s r n).k = 1 from ⟨ek, v1⟩), en, v0]
  have hz := hy.know (d := d) (x := z1d 0 0) (Kno.has_one ek (by omega) (by omega))
  by_cases c5 : c = 16
  ·subst c5
   exact ⟨rfl, _, mcS, hz⟩
  ·have c6 : c = 15 := by omega
   subst c6
   exact ⟨rfl, _, mcS, hz⟩
 ·rw [if_neg (show ¬ ((a.reg d).k = 1 /\ (a.second s r n).k = 1) by omega)]
  have hz : (y.putReg d ⟨4, 0, 0⟩).Has a := hy.know (Or.inr (Or.inl ⟨by show (1 : Int) <= 4; decide, by show (4 : Int) <= 4; decide, ek, by show (0 : Int) <= _; omega, by show _ <= (0 : Int); omega⟩))
  by_cases c5 : c = 16
  ·subst c5
   exact ⟨rfl, _, mcO _ (List.mem_singleton.mpr rfl), hz⟩
  ·have c6 : c = 15 := by omega
   subst c6
   exact ⟨rfl, _, mcO _ (List.mem_singleton.mpr rfl), hz⟩
def Way.look (y : Way) (c : Int) (d s : Nat) (r : Bool) (o n : Int) : List (Int × Way) × Int :=
 if 15 <= c /\ c <= 24 then y.ask c d s r o n
 else if c = 14 then ([(o, y)], 0)
 else if c = 28 then ([], z0w (y.reg 0))
 else if c = 25 then (if (y.load d s o).1 = 0 then ([(0, (y.load d s o).2)], 0) else ([], (y.load d s o).1))
 else if c = 26 then (if (y.store (y.reg d) (y.second s r n) o).1 = 0 then ([(0, (y.store (y.reg d) (y.second s r n) o).2)], 0) else ([], (y.store (y.reg d) (y.second s r n) o).1))
 else if c = 27 then (if (y.call n).1 = 0 then ([(0, (y.call n).2)], 0) else ([], (y.call n).1))
 else (if (y.change c d s r n).1 = 0 then ([(0, (y.change c d s r n).2)], 0) else ([], (y.change c d s r n).1))
theorem zTt {y : Way} {a : Abs} {c d s : Int} {r : Bool} {o n : Int} (hk : y.Ok) (ha : a.Ok) (hy : y.Has a) (hc : 1 <= c /\ c <= 27) (hd : d.toNat < 11) (hs : s.toNat < 11) (ho : In64 o) (hn : In64 n) (hw : c = 27 -> n = 1 \/ n = 2 \/ n = 3)
  (h : (y.look c d.toNat s.toNat r o n).2 = 0) : (doF c d s r o n a).2.1 = 0 /\ ∃ y', ((doF c d s r o n a).1, y') ∈ (y.look c d.toNat s.toNat r o n).1 /\ y'.Has (doF c d s r o n a).2.2 := by
 unfold Way.look at h ⊢
 unfold doF
 by_cases c1 : 15 <= c /\ c <= 24
 ·rw [if_pos c1] at h ⊢
  rw [if_pos c1]
  exact zXv hk hy c1 hd hs hn h
 rw [if_neg c1] at h ⊢
 rw [if_neg c1]
 by_cases c2 : c = 14
 ·rw [if_pos c2, if_pos c2]
  exact ⟨rfl, y, List.mem_singleton.mpr rfl, hy⟩
 rw [if_neg c2] at h ⊢
 rw [if_neg c2]
 rw [if_neg (show ¬ c = 28 by omega)] at h ⊢
 by_cases c3 : c = 25
 ·rw [if_pos c3] at h ⊢
  rw [if_pos c3]
  by_cases z : (y.load d.toNat s.toNat o).1 = 0
  ·rw [if_pos z]
   obtain ⟨g1, g2⟩ := zTw hk ha hy hs ho z
   exact ⟨g1, _, List.mem_singleton.mpr rfl, g2⟩
  ·rw [if_neg z] at h; exact absurd h z
 rw [if_neg c3] at h ⊢
 rw [if_neg c3]
 by_cases c4 : c = 26
 ·rw [if_pos c4] at h ⊢
  rw [if_pos c4]
  by_cases z : (y.store (y.reg d.toNat) (y.second s.toNat r n) o).1 = 0
  ·rw [if_pos z]
   obtain ⟨g1, g2⟩ := zOy hy (hk.reg _ hd) (z3j hk hs hn) (hy.reg _ hd) (hy.second hs) ho z
   exact ⟨g1, _, List.mem_singleton.mpr rfl, g2⟩
  ·rw [if_neg z] at h; exact absurd h z
 rw [if_neg c4] at h ⊢
 rw [if_neg c4]
 by_cases c5 : c = 27
 ·rw [if_pos c5] at h ⊢
  rw [if_pos c5]
  by_cases z : (y.call n).1 = 0
  ·rw [if_pos z]
   obtain ⟨g1, g2⟩ := zUu ha hy (hw c5) z
   exact ⟨g1, _, List.mem_singleton.mpr rfl, g2⟩
  ·rw [if_neg z] at h; exact absurd h z
 rw [if_neg c5] at h ⊢
 rw [if_neg c5]
 by_cases z : (y.change c d.toNat s.toNat r n).1 = 0
 ·rw [if_pos z]
  obtain ⟨g1, g2⟩ := zNy hk hy ⟨by omega, by omega⟩ hd hs hn z
  exact ⟨g1, _, List.mem_singleton.mpr rfl, g2⟩
 ·rw [if_neg z] at h; exact absurd h z
def goF (C D S : Nat -> Int) (R : Nat -> Bool) (O N : Nat -> Int) : Nat -> List (Nat × Way) -> List Kno -> (Int × Nat) ⊕ List Kno
 | _, [], ends => .inr ends
 | 0, x :: _, _ => .inl (4, x.1)
 | f + 1, x :: st, ends =>
  if (x.2.look (C x.1) (D x.1).toNat (S x.1).toNat (R x.1) (O x.1) (N x.1)).2 ≠ 0 then .inl ((x.2.look (C x.1) (D x.1).toNat (S x.1).toNat (R x.1) (O x.1) (N x.1)).2, x.1)
  else goF C D S R O N f ((x.2.look (C x.1) (D x.1).toNat (S x.1).toNat (R x.1) (O x.1) (N x.1)).1.map (fun z => (x.1 + 1 + z.1.toNat, z.2)) ++ st) (if C x.1 = 28 then ends ++ [x.2.reg 0] else ends)
theorem zV0 {y : Way} {c : Int} {d s : Nat} {r : Bool} {o n : Int} : ∀ z, z ∈ (y.ask c d s r o n).1 -> z.1 = 0 \/ z.1 = o := by
 intro z hz
 unfold Way.ask at hz
 split at hz
 ·exact absurd hz (by simp)
 split at hz
 ·unfold Way.askNumbers at hz
  rcases List.mem_append.mp hz with hz | hz
  ·split at hz
   ·rw [List.mem_singleton.mp hz]; exact Or.inl rfl
   ·exact absurd hz (by simp)
  ·split at hz
   ·rw [List.mem_singleton.mp hz]; exact Or.inr rfl
   ·exact absurd hz (by simp)
 split at hz
 ·exact absurd hz (by simp)
 ·unfold Way.askPlace at hz
  split at hz
  ·rw [List.mem_singleton.mp hz]
   by_cases e : c = 16
   ·exact Or.inr (if_pos e)
   ·exact Or.inl (if_neg e)
  ·rcases List.mem_cons.mp hz with hz | hz
   ·rw [hz]
    by_cases e : c = 16
    ·exact Or.inl (if_pos e)
    ·exact Or.inr (if_neg e)
   ·rw [List.mem_singleton.mp hz]
    by_cases e : c = 16
    ·exact Or.inr (if_pos e)
    ·exact Or.inl (if_neg e)
theorem zGa {y : Way} {c : Int} {d s : Nat} {r : Bool} {o n : Int} : ∀ z, z ∈ (y.look c d s r o n).1 -> c ≠ 28 /\ (z.1 = 0 \/ (z.1 = o /\ (c = 14 \/ (15 <= c /\ c <= 24)))) := by
 intro z hz
 unfold Way.look at hz
 by_cases c1 : 15 <= c /\ c <= 24
 ·rw [if_pos c1] at hz
  exact ⟨by omega, (zV0 z hz).elim Or.inl fun e => Or.inr ⟨e, Or.inr c1⟩⟩
 rw [if_neg c1] at hz
 by_cases c2 : c = 14
 ·rw [if_pos c2] at hz
  rw [List.mem_singleton.mp hz]
  exact ⟨by omega, Or.inr ⟨rfl, Or.inl c2⟩⟩
 rw [if_neg c2] at hz
 by_cases c3 : c = 28
 ·rw [if_pos c3] at hz; exact absurd hz (by simp)
 rw [if_neg c3] at hz
 refine ⟨c3, Or.inl ?_⟩
 split at hz
 ·split at hz
  ·rw [List.mem_singleton.mp hz]
  ·exact absurd hz (by simp)
 split at hz
 ·split at hz
  ·rw [List.mem_singleton.mp hz]
  ·exact absurd hz (by simp)
 split at hz
 ·split at hz
  ·rw [List.mem_singleton.mp hz]
  ·exact absurd hz (by simp)
 ·split at hz
  ·rw [List.mem_singleton.mp hz]
  ·exact absurd hz (by simp)
theorem go_sound {C D S : Nat -> Int} {R : Nat -> Bool} {O N : Nat -> Int} {len : Nat} (hr : ∀ i, i < len -> zK1 (C i) (D i) (S i) (R i) (O i) (N i) len i) (hf : ∀ i, i < len -> In64 (O i) /\ In64 (N i))
  (lk : ∀ i, i < len -> ∀ y : Way, y.Ok -> ∀ z, z ∈ (y.look (C i) (D i).toNat (S i).toNat (R i) (O i) (N i)).1 -> z.2.Ok) :
  ∀ (f : Nat) (st : List (Nat × Way)) (ends E : List Kno), goF C D S R O N f st ends = .inr E -> (∀ x, x ∈ st -> x.1 < len /\ x.2.Ok) ->
   (∀ b, b ∈ ends -> b ∈ E) /\ ∀ x, x ∈ st -> ∀ (a : Abs) (k : Nat), a.Ok -> x.2.Has a ->
    ∃ n k' a', runF C D S R O N len x.1 k a = .fine n k' a' /\ k + 1 <= k' /\ k' + x.1 <= k + len /\ ∃ b, b ∈ E /\ b.l <= n /\ n <= b.h := by
 intro f
 induction f with
 | zero =>
  intro st ends E h _
  cases st with
  | nil => rw [goF] at h; cases h; exact ⟨fun b hb => hb, fun x hx => absurd hx (by simp)⟩
  | cons x st => rw [goF] at h; exact absurd h (by simp)
 | succ f ih =>
  intro st ends E h hst
  cases st with
  | nil => rw [goF] at h; cases h; exact ⟨fun b hb => hb, fun x hx => absurd hx (by simp)⟩
  | cons x st =>
   obtain ⟨hx1, hx2⟩ := hst x mcS
   have r := hr x.1 hx1
   have hfx := hf x.1 hx1
   rw [goF] at h
   by_cases h0 : (x.2.look (C x.1) (D x.1).toNat (S x.1).toNat (R x.1) (O x.1) (N x.1)).2 ≠ 0
   ·rw [if_pos h0] at h; exact absurd h (by simp)
   rw [if_neg h0] at h
   have h0' := Classical.byContradiction h0
   obtain ⟨i1, i2⟩ := ih _ _ E h (fun z hz => by
    rcases List.mem_append.mp hz with hz | hz
    ·obtain ⟨u, hu, rfl⟩ := List.mem_map.mp hz
     obtain ⟨u1, u2⟩ := zGa u hu
     have hl := r.last u1
     refine ⟨?_, lk x.1 hx1 x.2 hx2 u hu⟩
     show x.1 + 1 + u.1.toNat < len
     rcases u2 with u2 | ⟨u2, u3⟩
     ·omega
     ·have := r.lead u3; omega
    ·exact hst z (mcO _ hz))
   refine ⟨fun b hb => i1 b (by split; exact List.mem_append_left _ hb; exact hb), fun z hz a k ha hz2 => ?_⟩
   rcases List.mem_cons.mp hz with rfl | hz
   ·by_cases hc : C z.1 = 28
    ·have hw : z0w (z.2.reg 0) = 0 := by
      have e := h0'
      unfold Way.look at e
      rw [if_neg (by omega), if_neg (by omega), if_pos hc] at e
      exact e
     obtain ⟨w0, -, w2, w3⟩ := z5j (hz2.reg 0 (by decide)) hw
     exact ⟨_, _, _, zAb hx1 hc w0, by omega, by omega, z.2.reg 0, i1 _ (by rw [if_pos hc]; exact List.mem_append_right _ (List.mem_singleton.mpr rfl)), w2, w3⟩
    ·have c2 := r.c2
     have d1 := r.d1
     have d2 := r.d2
     have s1 := r.s1
     have s2 := r.s2
     obtain ⟨g1, y', g2, g3⟩ := zTt hx2 ha hz2 ⟨r.c1, by omega⟩ (by omega) (by omega) hfx.1 hfx.2 r.call h0'
     have ok := zR9 ha r.c1 r.c2 hc r.d1 r.d2 r.s1 r.s2 hfx.2 (r := R z.1) (o := O z.1)
     obtain ⟨n, k', a', e1, e2, e3, e4⟩ := i2 (z.1 + 1 + (doF (C z.1) (D z.1) (S z.1) (R z.1) (O z.1) (N z.1) a).1.toNat, y') (List.mem_append_left _ (List.mem_map.mpr ⟨_, g2, rfl⟩)) _ (k + 1) ok g3
     have e3' : k' + (z.1 + 1 + (doF (C z.1) (D z.1) (S z.1) (R z.1) (O z.1) (N z.1) a).1.toNat) <= k + 1 + len := e3
     exact ⟨n, k', a', (zI4 hx1 hc g1).trans e1, by omega, by omega, e4⟩
   ·exact i2 z (List.mem_append_right _ hz) a k ha hz2
theorem zR5 {m : Int} (h : m <= 9223372036854775807) : z56 m <= 9223372036854775807 := by
 have d := zIu (zJf h)
 unfold z56
 omega
theorem zEq (u v : Int) : -9223372036854775808 <= (fit2 u v).1 /\ (fit2 u v).2 <= 9223372036854775807 := by
 cases h : fits u && fits v
 ·rw [zEr h]; decide
 ·rw [z9o h]
  simp only [Bool.and_eq_true, z5k] at h
  exact ⟨h.1.1, h.2.2⟩
theorem pow_lo {k : Nat} (hk : k ≠ 0) (h : k < 64) : (2 : Int) ^ (64 - k) - 1 <= 9223372036854775807 := by
 have hle : 2 ^ (64 - k) <= 2 ^ 63 := Nat.pow_le_pow_right (by decide) (by omega)
 have := Int.ofNat_le.2 hle
 rw [Int.natCast_pow] at this
 have e : ((2 ^ 63 : Nat) : Int) = 9223372036854775808 := by decide
 rw [e] at this
 have e2 : ((2 : Nat) : Int) = 2 := rfl
 rw [e2] at this
 omega
theorem zEl {x : Int} (k : Nat) (h : In64 x) : In64 (x / 2 ^ k) := by
 have a := zJb (x := x) k
 unfold In64 at h ⊢
 by_cases hx : 0 <= x
 ·have := a.1 hx; omega
 ·have := a.2 (by omega); omega
theorem zXj {c al ah bl bh : Int} (hc : 1 <= c /\ c <= 13) (a1 : In64 al) (a2 : In64 ah) (ha : al <= ah) (b1 : In64 bl) (b2 : In64 bh) (hb : bl <= bh) :
  -9223372036854775808 <= (bdV c al ah bl bh).1 /\ (bdV c al ah bl bh).2 <= 9223372036854775807 := by
 have all : -9223372036854775808 <= ((-9223372036854775808, 9223372036854775807) : Int × Int).1 /\ ((-9223372036854775808, 9223372036854775807) : Int × Int).2 <= 9223372036854775807 := by decide
 have h : c = 1 \/ c = 2 \/ c = 3 \/ c = 4 \/ c = 5 \/ c = 6 \/ c = 7 \/ c = 8 \/ c = 9 \/ c = 10 \/ c = 11 \/ c = 12 \/ c = 13 := by omega
 have ua1 := a1.1
 have ua2 := a2.2
 have ub1 := b1.1
 have ub2 := b2.2
 rcases h with rfl | rfl | rfl | rfl | rfl | rfl | rfl | rfl | rfl | rfl | rfl | rfl | rfl
 ·rw [zXs]; exact ⟨ub1, ub2⟩
 ·rw [zXr]; exact zEq _ _
 ·rw [zXq]; exact zEq _ _
 ·rw [zXp]
  split
  ·rename_i hs
   simp only [Bool.and_eq_true] at hs
   obtain ⟨⟨⟨s1, s2⟩, s3⟩, s4⟩ := hs
   have m1 := z1p (al * bl)
   have m2 := z1p (al * bh)
   have m3 := z1p (ah * bl)
   have m4 := z1p (ah * bh)
   rw [z3h s1 s3] at m1
   rw [z3h s1 s4] at m2
   rw [z3h s2 s3] at m3
   rw [z3h s2 s4] at m4
   show -9223372036854775808 <= zMz al ah bl bh /\ zN0 al ah bl bh <= 9223372036854775807
   unfold zMz zN0
   generalize al * bl = p at *
   generalize al * bh = q at *
   generalize ah * bl = r at *
   generalize ah * bh = t at *
   omega
  ·exact all
 ·rw [zXo]
  split
  ·split
   ·have l := Int.ediv_nonneg (by omega : 0 <= al) (by omega : 0 <= bh)
    have g := Int.ediv_le_self bl (by omega : 0 <= ah)
    show -9223372036854775808 <= al / bh /\ ah / bl <= 9223372036854775807
    omega
   ·show -9223372036854775808 <= (0 : Int) /\ ah <= 9223372036854775807
    omega
  ·exact all
 ·rw [zXn]
  split
  ·split
   ·show -9223372036854775808 <= (0 : Int) /\ min ah (bh - 1) <= 9223372036854775807
    omega
   ·show -9223372036854775808 <= (0 : Int) /\ ah <= 9223372036854775807
    omega
  ·exact all
 ·rw [zXm]
  split
  ·split
   ·show -9223372036854775808 <= (0 : Int) /\ min ah bh <= 9223372036854775807
    omega
   ·show -9223372036854775808 <= (0 : Int) /\ ah <= 9223372036854775807
    omega
  ·split
   ·show -9223372036854775808 <= (0 : Int) /\ bh <= 9223372036854775807
    omega
   ·exact all
 ·rw [zXl]
  split
  ·have f := zR5 (m := max ah bh) (by omega)
   refine ⟨?_, f⟩
   show -9223372036854775808 <= max al bl
   omega
  ·exact all
 ·rw [zXk]
  split
  ·have f := zR5 (m := max ah bh) (by omega)
   exact ⟨by show -9223372036854775808 <= (0 : Int); decide, f⟩
  ·exact all
 ·rw [zS8]
  split
  ·exact zEq _ _
  ·exact all
 ·rw [zS7]
  split
  ·split
   ·exact ⟨ua1, ua2⟩
   ·split
    ·exact ⟨(zEl _ a1).1, (zEl _ a2).2⟩
    ·exact ⟨by show -9223372036854775808 <= (0 : Int); decide, pow_lo (by assumption) (z8e _)⟩
  ·split
   ·exact ⟨by show -9223372036854775808 <= (0 : Int); decide, ua2⟩
   ·exact all
 ·rw [zS6]
  split
  ·exact ⟨(zEl _ a1).1, (zEl _ a2).2⟩
  ·split
   ·exact ⟨by show -9223372036854775808 <= (0 : Int); decide, ua2⟩
   ·split
    ·exact ⟨ua1, by show (-1 : Int) <= 9223372036854775807; decide⟩
    ·exact ⟨ua1, ua2⟩
 ·rw [zS5]; exact zEq _ _
theorem zVq {c al ah bl bh : Int} (hc : 1 <= c /\ c <= 13) (a1 : In64 al) (a2 : In64 ah) (ha : al <= ah) (b1 : In64 bl) (b2 : In64 bh) (hb : bl <= bh) :
  In64 (bdV c al ah bl bh).1 /\ In64 (bdV c al ah bl bh).2 /\ (bdV c al ah bl bh).1 <= (bdV c al ah bl bh).2 := by
 have l := zXj hc a1 a2 ha b1 b2 hb
 have h := zBk (x := al) (y := bl) hc a1.1 a2.2 b1.1 b2.2 (Int.le_refl _) ha (Int.le_refl _) hb
 unfold In64
 omega
theorem z72 : kno0.Ok := ⟨by decide, by decide, ⟨by decide, by decide⟩, ⟨by decide, by decide⟩, by decide⟩
theorem z54 {l h : Int} (h1 : In64 l) (h2 : In64 h) (h3 : l <= h) : (z1d l h).Ok := ⟨by show (0 : Int) <= 1; decide, by show (1 : Int) <= 5; decide, h1, h2, h3⟩
theorem zGf : (z1d (-9223372036854775808) 9223372036854775807).Ok := z54 ⟨by decide, by decide⟩ ⟨by decide, by decide⟩ (by decide)
theorem zGd {n : Int} (h : In64 n) : (z1d n n).Ok := z54 h h (Int.le_refl _)
theorem z7q {k : Int} {b : Int × Int} (k0 : 0 <= k) (k5 : k <= 5) (h1 : In64 b.1) (h2 : In64 b.2) (h3 : b.1 <= b.2) : (z1m k b).1.Ok := by
 unfold z1m
 split
 ·exact z72
 ·exact ⟨k0, k5, h1, h2, h3⟩
theorem zJ2 {c : Int} {a b : Kno} (hc : 1 <= c /\ c <= 13) (ka : a.Ok) (kb : b.Ok) : (z2x c a b).1.Ok := by
 obtain ⟨x1, x2, x3⟩ := zVq hc ka.2.2.1 ka.2.2.2.1 ka.2.2.2.2 kb.2.2.1 kb.2.2.2.1 kb.2.2.2.2
 unfold z2x
 split
 ·exact z72
 split
 ·exact kb
 split
 ·exact z54 x1 x2 x3
 split
 ·exact z7q ka.1 ka.2.1 x1 x2 x3
 split
 ·exact z7q kb.1 kb.2.1 x1 x2 x3
 ·exact z72
theorem Way.Ok.putReg {y : Way} (h : y.Ok) (d : Nat) {x : Kno} (hx : x.Ok) : (y.putReg d x).Ok :=
 ⟨fun i hi => by show (if i = d then x else y.reg i).Ok; split; exact hx; exact h.reg i hi, h.slot⟩
theorem Way.Ok.putSlot {y : Way} (h : y.Ok) (d : Nat) {x : Kno} (hx : x.Ok) : (y.putSlot d x).Ok :=
 ⟨h.reg, fun i hi => by show (if i = d then x else y.slot i).Ok; split; exact hx; exact h.slot i hi⟩
theorem Way.Ok.lose {y : Way} (h : y.Ok) : y.lose.Ok :=
 ⟨fun i hi => by show (if 1 <= i /\ i <= 5 then kno0 else y.reg i).Ok; split; exact z72; exact h.reg i hi, h.slot⟩
theorem zAy : ∀ (l : List Kno) (p : Int × Int), (∀ x, x ∈ l -> x.Ok) -> In64 p.1 -> In64 p.2 -> p.1 <= p.2 -> In64 (z22 p l).1 /\ In64 (z22 p l).2 /\ (z22 p l).1 <= (z22 p l).2
 | [], _, _, h1, h2, h3 => ⟨h1, h2, h3⟩
 | x :: l, p, hl, h1, h2, h3 => by
  rw [z22]
  have hx := hl x mcS
  have k1 := hx.2.2.1
  have k2 := hx.2.2.2.1
  have k3 := hx.2.2.2.2
  refine zAy l _ (fun z hz => hl z (mcO _ hz)) ?_ ?_ ?_
  ·show In64 (min p.1 x.l)
   unfold In64 at *; omega
  ·show In64 (max p.2 x.h)
   unfold In64 at *; omega
  ·show min p.1 x.l <= max p.2 x.h
   omega
theorem zU4 {l : List Kno} (hl : ∀ x, x ∈ l -> x.Ok) : In64 (z62 l).1 /\ In64 (z62 l).2 /\ (z62 l).1 <= (z62 l).2 := by
 cases l with
 | nil => exact ⟨⟨by decide, by decide⟩, ⟨by decide, by decide⟩, by decide⟩
 | cons x l =>
  have hx := hl x mcS
  exact zAy l _ (fun z hz => hl z (mcO _ hz)) hx.2.2.1 hx.2.2.2.1 hx.2.2.2.2
theorem zWq {y : Way} {p : Int × Int} (hk : y.Ok) (h0 : -16 <= p.1) (h3 : p.2 <= -1) (h : p.1 <= p.2) : (y.kept p).1.Ok := by
 unfold Way.kept
 split
 ·exact hk.slot _ (by omega)
 split
 ·exact z72
 ·have hj := zU4 (l := y.row (p.1 + 16).toNat (p.2 - p.1 + 1).toNat) (fun x hx => by
   obtain ⟨i, hi, rfl⟩ := List.mem_map.mp hx
   obtain ⟨j, hj, e⟩ := List.mem_range'.mp hi
   exact hk.slot _ (by omega))
  exact z54 hj.1 hj.2.1 hj.2.2
theorem zEj {x : Kno} {o : Int} (hx : x.Ok) (ho : In64 o) : (z52 x o).1 <= (z52 x o).2 := (zVq ⟨by decide, by decide⟩ hx.2.2.1 hx.2.2.2.1 hx.2.2.2.2 ho ho (Int.le_refl _)).2.2
theorem z71 {x : Kno} {o : Int} (h : (z0y x o).2 = 0) : (x.k ≠ 0 /\ x.k ≠ 1 /\ x.k ≠ 5) /\ (z0y x o).1 = z52 x o /\ (z23 x.k).1 <= (z52 x o).1 /\ (z52 x o).2 <= (z23 x.k).2 := by
 unfold z0y at h ⊢
 by_cases h0 : x.k = 0
 ·rw [if_pos h0] at h; exact absurd h (by decide)
 rw [if_neg h0] at h ⊢
 by_cases h1 : x.k = 1 \/ x.k = 5
 ·rw [if_pos h1] at h; exact absurd h (by decide)
 rw [if_neg h1] at h ⊢
 by_cases h2 : (z52 x o).1 < (z23 x.k).1 \/ (z23 x.k).2 < (z52 x o).2
 ·rw [if_pos h2] at h; exact absurd h (by decide)
 rw [if_neg h2]
 exact ⟨by omega, rfl, by omega, by omega⟩
theorem zWn {y : Way} {d s : Nat} {o : Int} (hk : y.Ok) (hs : s < 11) (ho : In64 o) : (y.load d s o).2.Ok := by
 unfold Way.load
 split
 ·exact hk
 rename_i h
 have h' := Classical.byContradiction h
 split
 ·rename_i h3
  split
  ·exact hk
  ·obtain ⟨-, e, r1, r2⟩ := z71 h'
   rw [h3] at r1 r2
   rw [e]
   exact hk.putReg d (zWq hk r1 r2 (zEj (hk.reg s hs) ho))
 ·exact hk.putReg d zGf
theorem zT0 {y : Way} {p v : Kno} {o : Int} (hk : y.Ok) (hv : v.Ok) : (y.store p v o).2.Ok := by
 unfold Way.store
 split
 ·exact hk
 split
 ·exact hk
 split
 ·exact hk
 split
 ·exact hk
 split
 ·exact hk
 ·exact hk.putSlot _ hv
theorem zXc {y : Way} {what : Int} (hk : y.Ok) : (y.call what).2.Ok := by
 unfold Way.call
 split
 ·exact hk
 split
 ·exact hk.lose.putReg 0 ⟨by show (0 : Int) <= 5; decide, by show (5 : Int) <= 5; decide, ⟨by show -9223372036854775808 <= (0 : Int); decide, by show (0 : Int) <= 9223372036854775807; decide⟩, ⟨by show -9223372036854775808 <= (0 : Int); decide, by show (0 : Int) <= 9223372036854775807; decide⟩, by show (0 : Int) <= 0; decide⟩
 split
 ·exact hk.lose.putReg 0 zGf
 ·exact hk.lose.putReg 0 (zGd ⟨by decide, by decide⟩)
theorem zRh {y : Way} {c : Int} {d s : Nat} {r : Bool} {n : Int} (hk : y.Ok) (hc : 1 <= c /\ c <= 13) (hd : d < 11) (hs : s < 11) (hn : In64 n) : (y.change c d s r n).2.Ok := by
 unfold Way.change
 split
 ·exact hk.putReg d (zJ2 hc (hk.reg d hd) (z3j hk hs hn))
 ·exact hk
theorem zG9 {y : Way} {c : Int} {d s : Nat} {r : Bool} {n : Int} (hk : y.Ok) (hc : 15 <= c /\ c <= 24) (hd : d < 11) (hs : s < 11) (hn : In64 n) : (y.narrow c d s r n).2.Ok := by
 have o1 := hk.reg d hd
 have o2 := z3j (r := r) (n := n) hk hs hn
 have nl := (zKg (x := (y.reg d).l) (y := (y.second s r n).l) hc o1.2.2.1.1 o1.2.2.2.1.2 o2.2.2.1.1 o2.2.2.2.1.2 (Int.le_refl _) o1.2.2.2.2 (Int.le_refl _) o2.2.2.2.2).2
 unfold Way.narrow
 split
 ·exact hk
 rename_i h
 obtain ⟨n1, n2, n3, n4, n5, n6⟩ := nl (by cases e : (narV c (y.reg d).l (y.reg d).h (y.second s r n).l (y.second s r n).h).2.2 with | false => exact absurd e h | true => rfl)
 have q1 := o1.2.2.1
 have q2 := o1.2.2.2.1
 have q3 := o2.2.2.1
 have q4 := o2.2.2.2.1
 generalize narV c (y.reg d).l (y.reg d).h (y.second s r n).l (y.second s r n).h = z at *
 unfold In64 at q1 q2 q3 q4
 have w1 : (z1d z.1.1 z.1.2).Ok := z54 ⟨by omega, by omega⟩ ⟨by omega, by omega⟩ n1
 have w2 : (z1d z.2.1.1 z.2.1.2).Ok := z54 ⟨by omega, by omega⟩ ⟨by omega, by omega⟩ n2
 split
 ·exact hk
 split
 ·exact (hk.putReg d w1).putReg s w2
 ·exact hk.putReg d w1
theorem ask_ok {y : Way} {c : Int} {d s : Nat} {r : Bool} {o n : Int} (hk : y.Ok) (hc : 15 <= c /\ c <= 24) (hd : d < 11) (hs : s < 11) (hn : In64 n) : ∀ z, z ∈ (y.ask c d s r o n).1 -> z.2.Ok := by
 intro z hz
 unfold Way.ask at hz
 split at hz
 ·exact absurd hz (by simp)
 split at hz
 ·unfold Way.askNumbers at hz
  have ho := zG4 (x := 0) (y := 0) hc
  rcases List.mem_append.mp hz with hz | hz
  ·split at hz
   ·rw [List.mem_singleton.mp hz]; exact zG9 hk ho.2.2 hd hs hn
   ·exact absurd hz (by simp)
  ·split at hz
   ·rw [List.mem_singleton.mp hz]; exact zG9 hk hc hd hs hn
   ·exact absurd hz (by simp)
 split at hz
 ·exact absurd hz (by simp)
 ·unfold Way.askPlace at hz
  split at hz
  ·rw [List.mem_singleton.mp hz]; exact hk
  ·rcases List.mem_cons.mp hz with hz | hz
   ·rw [hz]; exact hk.putReg d (zGd ⟨by decide, by decide⟩)
   ·rw [List.mem_singleton.mp hz]
    exact hk.putReg d ⟨by show (0 : Int) <= 4; decide, by show (4 : Int) <= 5; decide, ⟨by show -9223372036854775808 <= (0 : Int); decide, by show (0 : Int) <= 9223372036854775807; decide⟩, ⟨by show -9223372036854775808 <= (0 : Int); decide, by show (0 : Int) <= 9223372036854775807; decide⟩, by show (0 : Int) <= 0; decide⟩
theorem zQe {y : Way} {c : Int} {d s : Nat} {r : Bool} {o n : Int} (hk : y.Ok) (c1 : 1 <= c) (c2 : c <= 28) (hd : d < 11) (hs : s < 11) (ho : In64 o) (hn : In64 n) : ∀ z, z ∈ (y.look c d s r o n).1 -> z.2.Ok := by
 intro z hz
 unfold Way.look at hz
 by_cases h1 : 15 <= c /\ c <= 24
 ·rw [if_pos h1] at hz; exact ask_ok hk h1 hd hs hn z hz
 rw [if_neg h1] at hz
 by_cases h2 : c = 14
 ·rw [if_pos h2] at hz; rw [List.mem_singleton.mp hz]; exact hk
 rw [if_neg h2] at hz
 by_cases h3 : c = 28
 ·rw [if_pos h3] at hz; exact absurd hz (by simp)
 rw [if_neg h3] at hz
 by_cases h4 : c = 25
 ·rw [if_pos h4] at hz
  split at hz
  ·rw [List.mem_singleton.mp hz]; exact zWn hk hs ho
  ·exact absurd hz (by simp)
 rw [if_neg h4] at hz
 by_cases h5 : c = 26
 ·rw [if_pos h5] at hz
  split at hz
  ·rw [List.mem_singleton.mp hz]; exact zT0 hk (z3j hk hs hn)
  ·exact absurd hz (by simp)
 rw [if_neg h5] at hz
 by_cases h6 : c = 27
 ·rw [if_pos h6] at hz
  split at hz
  ·rw [List.mem_singleton.mp hz]; exact zXc hk
  ·exact absurd hz (by simp)
 rw [if_neg h6] at hz
 split at hz
 ·rw [List.mem_singleton.mp hz]; exact zRh hk ⟨by omega, by omega⟩ hd hs hn
 ·exact absurd hz (by simp)
theorem zOe : way0.Ok := by
 refine ⟨fun i _ => ?_, fun _ _ => z72⟩
 show (if i = 1 then (⟨2, 0, 0⟩ : Kno) else if i = 10 then ⟨3, 0, 0⟩ else kno0).Ok
 split
 ·exact ⟨by decide, by decide, ⟨by decide, by decide⟩, ⟨by decide, by decide⟩, by decide⟩
 split
 ·exact ⟨by decide, by decide, ⟨by decide, by decide⟩, ⟨by decide, by decide⟩, by decide⟩
 ·exact z72
theorem go_from_start {C D S : Nat -> Int} {R : Nat -> Bool} {O N : Nat -> Int} {len f : Nat} {E : List Kno} (hr : ∀ i, i < len -> zK1 (C i) (D i) (S i) (R i) (O i) (N i) len i) (hf : ∀ i, i < len -> In64 (O i) /\ In64 (N i)) (h0 : 0 < len)
  (h : goF C D S R O N f [(0, way0)] [] = .inr E) (a : Abs) (ha : a.Ok) (hy : way0.Has a) :
  ∃ n k a', runF C D S R O N len 0 0 a = .fine n k a' /\ 1 <= k /\ k <= len /\ ∃ b, b ∈ E /\ b.l <= n /\ n <= b.h := by
 obtain ⟨-, g⟩ := go_sound hr hf (fun i hi y hy z hz => by
  have r := hr i hi
  have d1 := r.d1
  have d2 := r.d2
  have s1 := r.s1
  have s2 := r.s2
  exact zQe hy r.c1 r.c2 (by omega) (by omega) (hf i hi).1 (hf i hi).2 z hz) f _ _ E h (fun x hx => by rw [List.mem_singleton.mp hx]; exact ⟨h0, zOe⟩)
 obtain ⟨n, k, a', e1, e2, e3, e4⟩ := g (0, way0) (List.mem_singleton.mpr rfl) a 0 ha hy
 exact ⟨n, k, a', e1, by omega, by have : k + 0 <= 0 + len := e3; omega, e4⟩
end
section
open Go.ChangeShapes Go.WideShapes Go.ChangeAt Go.RowKit
attribute [local simp] z00 z0d z07
theorem zLm (code : Int) (a b : Kno) (ka : a.Ok) (kb : b.Ok) (w : World) : Calls tP 143 #[A F code, a.v, b.v] w fun e w' => e = rT (.tuple #[(z2x code a b).1.v, A F (z2x code a b).2]) /\ Below w.heap.size w w' := by
 obtain ⟨ak, al, ah⟩ := a
 obtain ⟨bk, bl, bh⟩ := b
 have HD := fun W : World => zS4 code al ah bl bh ka.2.2.1.1 ka.2.2.1.2 ka.2.2.2.1.1 ka.2.2.2.1.2 kb.2.2.1.1 kb.2.2.1.2 kb.2.2.2.1.1 kb.2.2.2.1.2 ka.2.2.2.2 kb.2.2.2.2 W
 unfold z2x
 have tb : ∀ {x y : Int}, ¬ x = y -> (x == y) = false := fun h => by simpa using h
 have tt : ∀ {x y : Int}, x = y -> (x == y) = true := fun h => by simpa using h
 by_cases h0 : bk = 0
 ·rw [if_pos (Or.inl h0)]; exact vmk_b0 code ak al ah bk bl bh (tt h0) w
 by_cases h1 : ak = 0
 ·by_cases h2 : code = 1
  ·rw [if_neg (by simp [h0, h2]), if_pos h2]; exact zSs code ak al ah bk bl bh (tb h0) (tt h1) (by simp [h2]) (tt h2) w
  ·rw [if_pos (Or.inr ⟨h1, h2⟩)]; exact vmk_a0 code ak al ah bk bl bh (tb h0) (tt h1) (by simpa using h2) w
 by_cases h2 : code = 1
 ·rw [if_neg (by simp [h0, h1]), if_pos h2]; exact zSr code ak al ah bk bl bh (tb h0) (tb h1) (tt h2) w
 rw [if_neg (by simp [h0, h1]), if_neg h2]
 generalize bdV code al ah bl bh = t at *
 obtain ⟨dl, dh⟩ := t
 have pf : ∀ {k : Int}, ¬ (k = 2 \/ k = 3 \/ k = 4) -> z1k k = false := fun {k} h => by
  cases e : z1k k
  ·rfl
  ·exact absurd ((z3b k).1 e) h
 by_cases h3 : ak = 1
 ·have pa : z1k ak = false := pf (by omega)
  by_cases h4 : bk = 1
  ·rw [if_pos ⟨h3, h4⟩]; exact zSp code ak al ah bk bl bh dl dh HD (tb h0) (tb h1) (tb h2) (tt h3) (tt h4) w
  ·rw [if_neg (fun e => h4 e.2), if_neg (by show ¬ ((ak = 2 \/ ak = 3 \/ ak = 4) /\ bk = 1 /\ (code = 2 \/ code = 3)); omega)]
   by_cases h5 : bk = 2 \/ bk = 3 \/ bk = 4
   ·by_cases h6 : code = 2
    ·rw [if_pos ⟨h3, h5, h6⟩]
     rcases hF : z1m bk (dl, dh) with ⟨⟨gk, gl, gh⟩, E⟩
     exact zSq code ak al ah bk bl bh dl dh HD gk gl gh E hF pa ((z3b bk).2 h5) (tb h0) (tb h1) (tb h2) (tt h3) (tb h4) (tt h6) w
    ·rw [if_neg (fun e => h6 e.2.2)]; exact zVv code ak al ah bk bl bh pa ((z3b bk).2 h5) (tb h0) (tb h1) (tb h2) (tt h3) (tb h4) (tb h6) w
   ·rw [if_neg (fun e => h5 e.2.1)]; exact vmk_nb code ak al ah bk bl bh pa (pf h5) (tb h0) (tb h1) (tb h2) (tt h3) (tb h4) w
 ·rw [if_neg (fun e => h3 e.1)]
  by_cases h5 : ak = 2 \/ ak = 3 \/ ak = 4
  ·have pa := (z3b ak).2 h5
   by_cases h4 : bk = 1
   ·by_cases h6 : code = 2
    ·rw [if_pos ⟨h5, h4, Or.inl h6⟩]
     rcases hF : z1m ak (dl, dh) with ⟨⟨gk, gl, gh⟩, E⟩
     exact zSo code ak al ah bk bl bh dl dh HD gk gl gh E hF pa (tb h0) (tb h1) (tb h2) (tb h3) (tt h4) (tt h6) w
    ·by_cases h7 : code = 3
     ·rw [if_pos ⟨h5, h4, Or.inr h7⟩]
      rcases hF : z1m ak (dl, dh) with ⟨⟨gk, gl, gh⟩, E⟩
      exact zSn code ak al ah bk bl bh dl dh HD gk gl gh E hF pa (tb h0) (tb h1) (tb h2) (tb h3) (tt h4) (tb h6) (tt h7) w
     ·rw [if_neg (fun e => e.2.2.elim h6 h7), if_neg (fun e => h3 e.1)]; exact zVu code ak al ah bk bl bh pa (tb h0) (tb h1) (tb h2) (tb h3) (tt h4) (tb h6) (tb h7) w
   ·rw [if_neg (fun e => h4 e.2.1), if_neg (fun e => h3 e.1)]; exact vmk_pb code ak al ah bk bl bh pa (tb h0) (tb h1) (tb h2) (tb h3) (tb h4) w
  ·rw [if_neg (fun e => h5 e.1), if_neg (fun e => h3 e.1)]; exact vmk_m code ak al ah bk bl bh (pf h5) (tb h0) (tb h1) (tb h2) (tb h3) w
theorem zHn (B s : Nat) (c d o n p : Int) (y : Way) (hs : s < 11) (w : World) (hW : z04 w B p y) :
  Calls tP 136 #[pT (some ⟨B, 0, none⟩), .agg #[A F c, A F d, A F s, .bool true, A F o, A F n]] w fun e w' => e = rT (y.reg s).v /\ Below w.heap.size w w' := by
 have hK0 : Blk w [(w.heap.size, cT #[A F c, A F d, A F s, .bool true, A F o, A F n] 80 (0, 0)), (w.heap.size + 1, cT #[A F 0, A F 0, A F 0] 201 (0, 0)), (B, cT (z05 p y) 205 (0, 0))] _ := (((Blk.nil (((bF _ _).alloc (Nat.le_refl _) _).alloc (by simp) _)).cons ((hW.alloc _).alloc _)).cons (heap_alloc2_new w (cT #[A F c, A F d, A F s, .bool true, A F o, A F n] 80) (cT #[A F 0, A F 0, A F 0] 201))).cons (by rw [Below.heap_alloc _ _ _ (by simp)]; exact heap_alloc_new _ _)
 have hB := hW.lt
 have hs0 : (0 : Int) <= (s : Int) := by omega
 have hs1 : (s : Int) < 11 := by omega
 go_enter Tryz.func136, Tryz.ntmps136
 have hC := hK0
 obtain ⟨p0, p1, p2, p3, p4, p5, ltS⟩ := row6 (hC.2 _ mcS); obtain ⟨z0, z1, z2, zf0, zf1, zf2, zlt⟩ := row3 (hC.2 _ (mcO _ mcS)); have yW : z04 _ B _ _ := (hC.2 _ (mcO _ (mcO _ mcS))); have ylt := yW.lt; obtain ⟨i0, i1, i2⟩ := yW.reg hs
 go_wp2_with fail
 clear p0 p1 p2 p3 p4 p5 ltS z0 z1 z2 zf0 zf1 zf2 zlt yW ylt i0 i1 i2 hC
 refine z0l (C := Blk w [(w.heap.size, cT #[A F c, A F d, A F s, .bool true, A F o, A F n] 80 (0, 0)), (w.heap.size + 1, cT #[A F 0, A F 0, A F 0] 201 (0, 0)), (B, cT (z05 p y) 205 (0, 0))]) (n0 := w.heap.size) 7 [] [] (by kernel_rfl) (by kernel_rfl) (fun d _ _ _ _ h => by cases d <;> exact h) (Blk.stable _ _) (Blk.room0 _ _) hK0.drew trivial ?_
 simp only [lQ, lX, lY, lZ, lJ, Nat.reduceAdd]
 repeat (first
  | (refine z0i (by rfl) ?_; simp only [Act.put, siA, scZ, scS])
  | (refine z0a (by rfl) (v := ?_) ?_ ?_; rotate_left; (intro w2 hC; obtain ⟨p0, p1, p2, p3, p4, p5, ltS⟩ := row6 (hC.2 _ mcS); obtain ⟨z0, z1, z2, zf0, zf1, zf2, zlt⟩ := row3 (hC.2 _ (mcO _ mcS)); have yW : z04 _ B _ _ := (hC.2 _ (mcO _ (mcO _ mcS))); have ylt := yW.lt; obtain ⟨i0, i1, i2⟩ := yW.reg hs; go_simp; try with_reducible rfl); simp only [Act.put, siA, scZ, scS]))
 refine z0r ?_
 intro w3 hC hB3
 obtain ⟨p0, p1, p2, p3, p4, p5, ltS⟩ := row6 (hC.2 _ mcS); obtain ⟨z0, z1, z2, zf0, zf1, zf2, zlt⟩ := row3 (hC.2 _ (mcO _ mcS)); have yW : z04 _ B _ _ := (hC.2 _ (mcO _ (mcO _ mcS))); have ylt := yW.lt; obtain ⟨i0, i1, i2⟩ := yW.reg hs
 have hbw := hC.1
 go_wp2_with fail
 exact bodyPost_ret (v := (y.reg s).v) (by simp [results, Tryz.results136, go_sem, Kno.v, *]) rfl ⟨rfl, (by repeat' first | with_reducible (first | exact hbw | exact bF _ _ | refine bA ?_ ?_ _ | refine bS ?_ ?_ _ | refine bD ?_) | ((try dsimp only); omega) | (simp; done) | (simp; omega))⟩
theorem zHo (B : Nat) (c d s o n : Int) (w : World) :
  Calls tP 136 #[pT (some ⟨B, 0, none⟩), .agg #[A F c, A F d, A F s, .bool false, A F o, A F n]] w fun e w' => e = rT (z1d n n).v /\ Below w.heap.size w w' := by
 have hK0 : Blk w [(w.heap.size, cT #[A F c, A F d, A F s, .bool false, A F o, A F n] 80 (0, 0)), (w.heap.size + 1, cT #[A F 0, A F 0, A F 0] 201 (0, 0))] _ := ((Blk.nil (((bF _ _).alloc (Nat.le_refl _) _).alloc (by simp) _)).cons (heap_alloc2_new w (cT #[A F c, A F d, A F s, .bool false, A F o, A F n] 80) (cT #[A F 0, A F 0, A F 0] 201))).cons (by rw [Below.heap_alloc _ _ _ (by simp)]; exact heap_alloc_new _ _)
 go_enter Tryz.func136, Tryz.ntmps136
 go_wp2_with (first
  | (go_at_call 100; go_must (refine (z2p _ _).mono ?_; rintro e w1 ⟨rfl, hb1⟩; have hK1 := hK0.later hb1))
  | (go_at_call 140; go_must (refine (z1g _ _ _).mono ?_; rintro e w2 ⟨rfl, hb2⟩; simp only [Kno.v, z1d]; have hK2 := hK1.later hb2; have hbw := hK2.1; obtain ⟨z0, z1, z2, zf0, zf1, zf2, zlt⟩ := row3 (hK2.2 _ (mcO _ mcS))))
  | fail)
 exact bodyPost_ret (v := (z1d n n).v) (by simp [results, Tryz.results136, go_sem, Kno.v, z1d, *]) rfl ⟨rfl, (by repeat' first | with_reducible (first | exact hbw | exact bF _ _ | refine bA ?_ ?_ _ | refine bS ?_ ?_ _ | refine bD ?_ | refine z06 ?_ ?_ _) | ((try dsimp only); omega) | (simp; done) | (simp; omega))⟩
theorem z2d (B s : Nat) (c d o n : Int) (r : Bool) (p : Int) (y : Way) (hs : s < 11) (w : World) (hW : z04 w B p y) :
  Calls tP 136 #[pT (some ⟨B, 0, none⟩), .agg #[A F c, A F d, A F s, .bool r, A F o, A F n]] w fun e w' => e = rT (y.second s r n).v /\ Below w.heap.size w w' := by
 cases r with
 | true => exact zHn B s c d o n p y hs w hW
 | false => exact zHo B c d s o n w
theorem zLv (B d s : Nat) (c o n p : Int) (r : Bool) (y : Way) (hd : d < 11) (hs : s < 11) (mk ml mh E : Int) (HM : Hid (∀ W : World, Calls tP 143 #[A F c, .agg #[A F (y.reg d).k, A F (y.reg d).l, A F (y.reg d).h], (y.second s r n).v] W fun e w' => e = rT (.tuple #[.agg #[A F mk, A F ml, A F mh], A F E]) /\ Below W.heap.size W w')) (hE : (E == 0) = false) (w : World) (hW : z04 w B p y) :
  Calls tP 107 #[pT (some ⟨B, 0, none⟩), .agg #[A F c, A F d, A F s, .bool r, A F o, A F n]] w fun e w' => e = rT (A F E) /\ Below w.heap.size w w' := by
 have hK0 : Blk w [(w.heap.size, cT #[A F c, A F d, A F s, .bool r, A F o, A F n] 80 (0, 0)), (B, cT (z05 p y) 205 (0, 0))] _ := ((Blk.nil ((bF _ _).alloc (Nat.le_refl _) _)).cons (hW.alloc _)).cons (heap_alloc_new w (cT #[A F c, A F d, A F s, .bool r, A F o, A F n] 80))
 have hB := hW.lt
 have hs0 : (0 : Int) <= (s : Int) := by omega
 have hs1 : (s : Int) < 11 := by omega
 have hd0 : (0 : Int) <= (d : Int) := by omega
 have hd1 : (d : Int) < 11 := by omega
 go_enter Tryz.func107, Tryz.ntmps107
 go_wp2_with fail
 refine z0l (C := Blk w [(w.heap.size, cT #[A F c, A F d, A F s, .bool r, A F o, A F n] 80 (0, 0)), (B, cT (z05 p y) 205 (0, 0))]) (n0 := w.heap.size + 1) 16 [15] [cT #[A F 0, A F 0, A F 0] 201 (0, 0)] (by kernel_rfl) (by kernel_rfl) (fun d _ _ _ _ h => by cases d <;> exact h) (Blk.stable _ _) (Blk.room w mcS) hK0.drew ⟨⟨rfl, fun a w2 hC => by go_simp; try rfl⟩, trivial⟩ ?_
 simp only [lQ, lX, lY, lZ, List.length_cons, lJ, Nat.reduceAdd]
 repeat (first
  | (refine z0i (by rfl) ?_; simp only [Act.put, siA, scZ, scS])
  | (refine z0a (by rfl) (v := ?_) ?_ ?_; rotate_left; (intro w2 hC; obtain ⟨p0, p1, p2, p3, p4, p5, ltS⟩ := row6 (hC.2 _ mcS); have yW : z04 _ B _ _ := (hC.2 _ (mcO _ mcS)); have ylt := yW.lt; obtain ⟨i0, i1, i2⟩ := yW.reg hd; go_simp; try with_reducible rfl); simp only [Act.put, siA, scZ, scS])
  | (refine z0v (by rfl) ?_; apply Exists.intro; refine ⟨fun w2 hC => ?_, ?_⟩; (obtain ⟨p0, p1, p2, p3, p4, p5, ltS⟩ := row6 (hC.2 _ mcS); have yW : z04 _ B _ _ := (hC.2 _ (mcO _ mcS)); have ylt := yW.lt; obtain ⟨i0, i1, i2⟩ := yW.reg hd; go_simp; apply z16; first | (go_at_call 136; exact z2d B s c d o n r p y hs w2 yW) | (go_at_call 143; exact HM.out w2)); simp only [Act.put, siA, scZ, scS]))
 refine z0r ?_
 intro L h5 g5 w3 hC hB3
 have bL := hB3 L _ (FB.at_new _ _ _)
 obtain ⟨l0, l1, l2, lf0, lf1, lf2, llt⟩ := row3 bL
 obtain ⟨p0, p1, p2, p3, p4, p5, ltS⟩ := row6 (hC.2 _ mcS); have yW : z04 _ B _ _ := (hC.2 _ (mcO _ mcS)); have ylt := yW.lt; obtain ⟨i0, i1, i2⟩ := yW.reg hd
 have hbw := hC.1
 have n1 : w.heap.size ≠ L := by omega
 have n2 : B ≠ L := by omega
 simp only [z5f]
 go_wp2_with fail
 go_ret
 exact ⟨rfl, (by repeat' first | with_reducible (first | exact hbw | exact bF _ _ | refine bA ?_ ?_ _ | refine bS ?_ ?_ _ | refine bD ?_ | refine z06 ?_ ?_ _) | ((try dsimp only); omega) | (simp; done) | (simp; omega))⟩
theorem zHw (B d s : Nat) (c o n p : Int) (r : Bool) (y : Way) (hd : d < 11) (hs : s < 11) (mk ml mh E : Int) (HM : Hid (∀ W : World, Calls tP 143 #[A F c, .agg #[A F (y.reg d).k, A F (y.reg d).l, A F (y.reg d).h], (y.second s r n).v] W fun e w' => e = rT (.tuple #[.agg #[A F mk, A F ml, A F mh], A F E]) /\ Below W.heap.size W w')) (hE : (E == 0) = true) (w : World) (hW : z04 w B p y) :
  Calls tP 107 #[pT (some ⟨B, 0, none⟩), .agg #[A F c, A F d, A F s, .bool r, A F o, A F n]] w fun e w' => e = rT (A F 0) /\ Kept B w w' /\ z04 w' B p (y.putReg d ⟨mk, ml, mh⟩) := by
 have hK0 : Blk w [(w.heap.size, cT #[A F c, A F d, A F s, .bool r, A F o, A F n] 80 (0, 0)), (B, cT (z05 p y) 205 (0, 0))] _ := ((Blk.nil ((bF _ _).alloc (Nat.le_refl _) _)).cons (hW.alloc _)).cons (heap_alloc_new w (cT #[A F c, A F d, A F s, .bool r, A F o, A F n] 80))
 have hB := hW.lt
 have hs0 : (0 : Int) <= (s : Int) := by omega
 have hs1 : (s : Int) < 11 := by omega
 have hd0 : (0 : Int) <= (d : Int) := by omega
 have hd1 : (d : Int) < 11 := by omega
 go_enter Tryz.func107, Tryz.ntmps107
 go_wp2_with fail
 refine z0l (C := Blk w [(w.heap.size, cT #[A F c, A F d, A F s, .bool r, A F o, A F n] 80 (0, 0)), (B, cT (z05 p y) 205 (0, 0))]) (n0 := w.heap.size + 1) 16 [15] [cT #[A F 0, A F 0, A F 0] 201 (0, 0)] (by kernel_rfl) (by kernel_rfl) (fun d _ _ _ _ h => by cases d <;> exact h) (Blk.stable _ _) (Blk.room w mcS) hK0.drew ⟨⟨rfl, fun a w2 hC => by go_simp; try rfl⟩, trivial⟩ ?_
 simp only [lQ, lX, lY, lZ, List.length_cons, lJ, Nat.reduceAdd]
 repeat (first
  | (refine z0i (by rfl) ?_; simp only [Act.put, siA, scZ, scS])
  | (refine z0a (by rfl) (v := ?_) ?_ ?_; rotate_left; (intro w2 hC; obtain ⟨p0, p1, p2, p3, p4, p5, ltS⟩ := row6 (hC.2 _ mcS); have yW : z04 _ B _ _ := (hC.2 _ (mcO _ mcS)); have ylt := yW.lt; obtain ⟨i0, i1, i2⟩ := yW.reg hd; go_simp; try with_reducible rfl); simp only [Act.put, siA, scZ, scS])
  | (refine z0v (by rfl) ?_; apply Exists.intro; refine ⟨fun w2 hC => ?_, ?_⟩; (obtain ⟨p0, p1, p2, p3, p4, p5, ltS⟩ := row6 (hC.2 _ mcS); have yW : z04 _ B _ _ := (hC.2 _ (mcO _ mcS)); have ylt := yW.lt; obtain ⟨i0, i1, i2⟩ := yW.reg hd; go_simp; apply z16; first | (go_at_call 136; exact z2d B s c d o n r p y hs w2 yW) | (go_at_call 143; exact HM.out w2)); simp only [Act.put, siA, scZ, scS]))
 refine z0r ?_
 intro L h5 g5 w3 hC hB3
 have bL := hB3 L _ (FB.at_new _ _ _)
 obtain ⟨l0, l1, l2, lf0, lf1, lf2, llt⟩ := row3 bL
 obtain ⟨p0, p1, p2, p3, p4, p5, ltS⟩ := row6 (hC.2 _ mcS); have yW : z04 _ B _ _ := (hC.2 _ (mcO _ mcS)); have ylt := yW.lt; obtain ⟨i0, i1, i2⟩ := yW.reg hd
 have hbw := hC.1
 have n1 : w.heap.size ≠ L := by omega
 have n2 : B ≠ L := by omega
 simp only [z5f]
 go_wp2_with fail
 have hK3 : Blk w [(w.heap.size, cT #[A F c, A F d, A F s, .bool r, A F o, A F n] 80 (0, 0)), (B, cT (z05 p y) 205 (0, 0)), (L, cT #[A F mk, A F ml, A F mh] 201 (0, 0))] _ := (((Blk.nil (by repeat' first | with_reducible (first | exact hbw | exact bF _ _ | refine bA ?_ ?_ _ | refine bS ?_ ?_ _ | refine bD ?_ | refine z06 ?_ ?_ _) | ((try dsimp only); omega) | (simp; done) | (simp; omega))).cons (put3 bL)).cons (off3 (hC.2 _ (mcO _ mcS)) n2)).cons (off3 (hC.2 _ mcS) n1)
 clear l0 l1 l2 lf0 lf1 lf2 llt p0 p1 p2 p3 p4 p5 ltS yW ylt i0 i1 i2 hC hbw bL hB3
 refine z0l (C := Blk w [(w.heap.size, cT #[A F c, A F d, A F s, .bool r, A F o, A F n] 80 (0, 0)), (B, cT (z05 p y) 205 (0, 0)), (L, cT #[A F mk, A F ml, A F mh] 201 (0, 0))]) (n0 := w.heap.size) 7 [] [] (by kernel_rfl) (by kernel_rfl) (fun d _ _ _ _ h => by cases d <;> exact h) (Blk.stable _ _) (Blk.room0 _ _) hK3.drew trivial ?_
 simp only [lQ, lX, lY, lZ, lJ, Nat.reduceAdd]
 repeat (first
  | (refine z0i (by rfl) ?_; simp only [Act.put, siA, scZ, scS])
  | (refine z0a (by rfl) (v := ?_) ?_ ?_; rotate_left; (intro w2 hC; obtain ⟨p0, p1, p2, p3, p4, p5, ltS⟩ := row6 (hC.2 _ mcS); have yW : z04 _ B _ _ := (hC.2 _ (mcO _ mcS)); have ylt := yW.lt; obtain ⟨i0, i1, i2⟩ := yW.reg hd; obtain ⟨l0, l1, l2, lf0, lf1, lf2, llt⟩ := row3 (hC.2 _ (mcO _ (mcO _ mcS))); go_simp; try with_reducible rfl); simp only [Act.put, siA, scZ, scS]))
 refine z0r ?_
 intro w4 hC hB4
 obtain ⟨p0, p1, p2, p3, p4, p5, ltS⟩ := row6 (hC.2 _ mcS); have yW : z04 _ B _ _ := (hC.2 _ (mcO _ mcS)); have ylt := yW.lt; obtain ⟨i0, i1, i2⟩ := yW.reg hd; obtain ⟨l0, l1, l2, lf0, lf1, lf2, llt⟩ := row3 (hC.2 _ (mcO _ (mcO _ mcS)))
 have if0 := yW.frozen (1 + d * 3); have if1 := yW.frozen (1 + d * 3 + 1); have if2 := yW.frozen (1 + d * 3 + 2)
 have HK := z0e hC.1 B
 go_wp2_with fail
 go_ret
 exact ⟨by have := eq_of_beq hE; subst this; rfl, (by repeat' first | with_reducible (first | exact HK | refine z1c ?_ | refine kept_set ?_ _ _ | refine z17 ?_ _ _ ?_ | refine z0j ?_ _) | ((try dsimp only); omega) | (simp; omega)), yW.reg3 hd mk ml mh⟩
theorem zHx {B d s : Nat} {c o n p : Int} {r : Bool} {y : Way} (hd : d < 11) (hs : s < 11) (hy : y.Ok) (hn : In64 n) {w : World} (hW : z04 w B p y) :
  Calls tP 107 #[pT (some ⟨B, 0, none⟩), .agg #[A F c, A F d, A F s, .bool r, A F o, A F n]] w fun e w' => e = rT (A F (y.change c d s r n).1) /\ Kept B w w' /\ z04 w' B p (y.change c d s r n).2 := by
 have HM := fun W : World => zLm c (y.reg d) (y.second s r n) (hy.reg d hd) (z3j hy hs hn) W
 unfold Way.change
 rcases e : z2x c (y.reg d) (y.second s r n) with ⟨⟨mk, ml, mh⟩, E⟩
 rw [e] at HM
 by_cases h : E = 0
 ·rw [if_pos h]
  exact zHw B d s c o n p r y hd hs mk ml mh E HM (by simpa using h) w hW
 ·rw [if_neg h]
  exact (zLv B d s c o n p r y hd hs mk ml mh E HM (by simpa using h) w hW).mono fun e w' ⟨h1, h2⟩ => ⟨h1, z0e h2 B, hW.later h2⟩
def z1e (f : Nat -> Int × Int) : Nat -> Int × Int
 | 0 => (0, 0)
 | k + 1 => if k = 0 then f 0 else (min (z1e f k).1 (f k).1, max (z1e f k).2 (f k).2)
theorem zCz (f : Nat -> Int × Int) : z1e f 1 = f 0 := if_pos rfl
theorem z73 (f : Nat -> Int × Int) {k : Nat} (h : k ≠ 0) : z1e f (k + 1) = (min (z1e f k).1 (f k).1, max (z1e f k).2 (f k).2) := if_neg h
theorem z6g (p : Option Addr) (cap : Nat) (w : World) : Calls tP 52 #[.slice p 0 cap] w fun e w' => e = rT (.agg #[A F 0, A F 0]) /\ Below w.heap.size w w' := by
 go_enter Tryz.func52, Tryz.ntmps52
 go_wp2_with fail
 refine wp_loop_rounds 1 ?_
 rw [rounds_succ]
 go_wp2_with fail
 exact bodyPost_ret (v := .agg #[A F 0, A F 0]) (by simp [results, Tryz.results52, go_sem]) rfl ⟨rfl, (by repeat' first | with_reducible (first | exact bF _ _ | refine bA ?_ ?_ _ | refine bS ?_ ?_ _ | refine bD ?_ | refine z06 ?_ ?_ _) | ((try dsimp only); omega) | (simp; done) | (simp; omega))⟩
theorem zAx (g n cap : Nat) (f : Nat -> Int × Int) (h1 : 1 <= n) (h2 : n <= 1000000) (w : World) (hg : g < w.heap.size) (hc : ∀ i, i < n -> w.cell? ⟨g, i * 2, none⟩ = some (A F (f i).1) /\ w.cell? ⟨g, i * 2 + 1, none⟩ = some (A F (f i).2)) :
  Calls tP 52 #[.slice (some ⟨g, 0, none⟩) n cap] w fun e w' => e = rT (.agg #[A F (z1e f n).1, A F (z1e f n).2]) /\ Below w.heap.size w w' := by
 have HC : Hid (∀ i, i < n -> w.cell? ⟨g, i * 2, none⟩ = some (A F (f i).1) /\ w.cell? ⟨g, i * 2 + 1, none⟩ = some (A F (f i).2)) := hc
 have hK0 : Blk w [(w.heap.size, cT #[A F 0, A F 0] 122 (0, 0)), (w.heap.size + 1, cT #[A F (z1e f 0).1, A F (z1e f 0).2] 122 (0, 0))] _ := ((Blk.nil (((bF _ _).alloc (Nat.le_refl _) _).alloc (by simp) _)).cons (heap_alloc2_new w (cT #[A F 0, A F 0] 122) (cT #[A F 0, A F 0] 122))).cons (by rw [Below.heap_alloc _ _ _ (by simp)]; exact heap_alloc_new _ _)
 have HK0 : Hid (Blk w [(w.heap.size, cT #[A F 0, A F 0] 122 (0, 0)), (w.heap.size + 1, cT #[A F (z1e f 0).1, A F (z1e f 0).2] 122 (0, 0))] _) := hK0
 clear hc hK0
 go_enter Tryz.func52, Tryz.ntmps52
 go_wp2_with fail
 go_loopw [8] (fun i wr => ∃ k : Nat, i = A F k /\ k <= n /\ Hid (Blk w [(w.heap.size, cT #[A F 0, A F 0] 122 (0, 0)), (w.heap.size + 1, cT #[A F (z1e f k).1, A F (z1e f k).2] 122 (0, 0))] wr)) (fun i _ => n - (intOf i).toNat)
 case atStart => exact ⟨0, rfl, by omega, HK0.out⟩
 case round =>
  obtain ⟨k, rfl, hk, H⟩ := hrel
  have hK := H.out
  clear HK0
  have hk0 : (0 : Int) <= (k : Int) := by omega
  by_cases hlt : k < n
  ·have hlt' : (k : Int) < (n : Int) := by omega
   have c0 := (hK.1.cell (p := ⟨g, k * 2, none⟩) hg).trans (HC.out k hlt).1
   have c1 := (hK.1.cell (p := ⟨g, k * 2 + 1, none⟩) hg).trans (HC.out k hlt).2
   have hg2 := Nat.lt_of_lt_of_le hg hK.1.size
   obtain ⟨r0, r1, rf0, rf1, rlt⟩ := row2 (hK.2 _ mcS); obtain ⟨a0, a1, af0, af1, alt⟩ := row2 (hK.2 _ (mcO _ mcS))
   by_cases hz : k = 0
   ·subst hz
    simp only [Nat.zero_mul, Nat.zero_add] at c0 c1
    go_wp2_with (first
     | (go_at_call 71; go_must (refine (z34 _ _ _ _ _).mono ?_; rintro e w2 ⟨rfl, hb2⟩; have hK2 := Blk.later (Blk.later (((Blk.nil ((hK.1.setCell (by show _ <= w.heap.size + 1; omega) _).setCell (by show _ <= w.heap.size + 1; omega) _)).cons (put2 (hK.2 _ (mcO _ mcS)))).cons (off2 (hK.2 _ mcS) (by omega))) ((bF _ _).alloc (Nat.le_refl _) _)) hb2; clear r0 r1 rf0 rf1 rlt a0 a1 af0 af1 alt; obtain ⟨r0, r1, rf0, rf1, rlt⟩ := row2 (hK2.2 _ mcS); obtain ⟨a0, a1, af0, af1, alt⟩ := row2 (hK2.2 _ (mcO _ mcS))))
     | fail)
    go_roundw
    case rel => exact ⟨1, by go_num, by omega, by rw [zCz]; exact ((Blk.nil ((hK2.1.setCell (by show _ <= w.heap.size + 1; omega) _).setCell (by show _ <= w.heap.size + 1; omega) _)).cons (put2 (hK2.2 _ (mcO _ mcS)))).cons (off2 (hK2.2 _ mcS) (by omega))⟩
    case measure => simp [intOf]; omega
   ·have hz' : ((k : Int) == 0) = false := by simpa using hz
    go_wp2_with (first
     | (go_at_call 71; go_must (refine (z34 _ _ _ _ _).mono ?_; rintro e w2 ⟨rfl, hb2⟩; have hK2 := Blk.later (hK.later ((bF _ _).alloc (Nat.le_refl _) _)) hb2; clear r0 r1 rf0 rf1 rlt a0 a1 af0 af1 alt; obtain ⟨r0, r1, rf0, rf1, rlt⟩ := row2 (hK2.2 _ mcS); obtain ⟨a0, a1, af0, af1, alt⟩ := row2 (hK2.2 _ (mcO _ mcS))))
     | fail)
    go_roundw
    case rel => exact ⟨k + 1, by go_num, by omega, by rw [z73 f hz]; exact ((Blk.nil ((hK2.1.setCell (by show _ <= w.heap.size + 1; omega) _).setCell (by show _ <= w.heap.size + 1; omega) _)).cons (put2 (hK2.2 _ (mcO _ mcS)))).cons (off2 (hK2.2 _ mcS) (by omega))⟩
    case measure => simp [intOf]; omega
  ·obtain rfl : k = n := by omega
   obtain ⟨r0, r1, rf0, rf1, rlt⟩ := row2 (hK.2 _ mcS); obtain ⟨a0, a1, af0, af1, alt⟩ := row2 (hK.2 _ (mcO _ mcS))
   have hbw := hK.1
   go_wp2_with fail
   exact bodyPost_ret (v := .agg #[A F (z1e f k).1, A F (z1e f k).2]) (by simp [results, Tryz.results52, go_sem, *]) rfl ⟨rfl, (by repeat' first | with_reducible (first | exact hbw | exact bF _ _ | refine bA ?_ ?_ _ | refine bS ?_ ?_ _ | refine bD ?_ | refine z06 ?_ ?_ _) | ((try dsimp only); omega) | (simp; done) | (simp; omega))⟩
end
end Go.Proofs.YtbimlalhodibjaaGreatDoor
