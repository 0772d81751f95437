/-
 gatehouselaw.VerifyGoes returns true at every list of steps. Conditions: the document's variable of all numbers and errors.errorType are as they are laid; numbers are of 64 bits.
-/
import Derived.Test.YteenhdoaminkeaaGreatDoorJv30
import Derived.Test.YteenhdoaminkeaaGreatDoorJv32
import Derived.Test.YteenhdoaminkeaaGreatDoorJv31
set_option maxHeartbeats 40000000
open Go.Value renaming int → vI
open Go.IntKind renaming i64 → vK
open Go.RowKit.Below renaming alloc → bA, setCell → bS, drew → bD, refl → bF
set_option maxRecDepth 1000000
set_option linter.defProp false
set_option linter.unusedVariables false
set_option linter.unusedSimpArgs false
namespace Go.Proofs.YteenhdoaminkeaaGreatDoor
open Go.ChangeShapes Go.WideShapes Go.ChangeAt Go.RowKit
attribute [local simp] z00 z0y z0o
theorem zH8 (a : Option Addr) (len cap : Nat) (h : 300 < len) (w : World) : Calls Tryz.prog 3 #[.slice a len cap] w fun e w' => e = .returned (.bool true) ∧ Below w.heap.size w w' := by
 have z : decide (300 < (len : Int)) = true := by simp; omega
 go_enter Tryz.func3, Tryz.ntmps3
 go_wp2
 go_ret
 exact ⟨rfl, bF _ _⟩
theorem z6j (a : Option Addr) (len cap : Nat) (h0 : len ≤ 300) (w : World) (er p x y : Int)
  (HREF : Hid (∀ W : World, Below w.heap.size w W → Calls Tryz.prog 4 #[.slice a len cap] W fun e w' => e = .returned (.tuple #[.agg #[vI vK x, vI vK y], .agg #[vI vK er, vI vK p]]) ∧ Below W.heap.size W w'))
  (HVER : Hid (∀ W : World, Below w.heap.size w W → Calls Tryz.prog 5 #[.slice a len cap] W fun e w' => ∃ I, e = .returned (.tuple #[.agg #[vI vK x, vI vK y], I]) ∧ Below W.heap.size W w' ∧ ∀ W' : World, Below w'.heap.size w' W' → Calls Tryz.prog 6 #[I, .agg #[vI vK er, vI vK p]] W' fun e w'' => e = .returned (.bool true) ∧ Below W'.heap.size W' w'')) :
  Calls Tryz.prog 3 #[.slice a len cap] w fun e w' => e = .returned (.bool true) ∧ Below w.heap.size w w' := by
 have z : decide (300 < (len : Int)) = false := by simp; omega
 go_enter Tryz.func3, Tryz.ntmps3
 go_wp2_with (first
  | (go_at_call 4; go_must (refine (HREF.out _ (bF _ _)).mono ?_; rintro e w1 ⟨rfl, hb1⟩; have hK1 : Blk w [(w1.heap.size, .cells #[vI vK x, vI vK y] 24 (0, 0)), (w1.heap.size + 1, .cells #[vI vK er, vI vK p] 27 (0, 0))] ((w1.alloc (.cells #[vI vK x, vI vK y] 24)).alloc (.cells #[vI vK er, vI vK p] 27)) := (((Blk.nil ((hb1.alloc hb1.size _).alloc (by have := hb1.size; simp; omega) _)).cons (heap_alloc2_new w1 _ _)).cons (by rw [Below.heap_alloc _ _ _ (by simp)]; exact heap_alloc_new _ _))))
  | (go_at_call 5; go_must (refine (HVER.out _ hK1.1).mono ?_; rintro e w2 ⟨I, rfl, hb2, his⟩; have HIS : Hid (∀ W' : World, Below w2.heap.size w2 W' → Calls Tryz.prog 6 #[I, .agg #[vI vK er, vI vK p]] W' fun e w'' => e = .returned (.bool true) ∧ Below W'.heap.size W' w'') := his; clear his; have hK2 := hK1.later hb2; have hK3 := (hK2.later ((bF _ _).alloc (Nat.le_refl _) (.cells #[vI vK x, vI vK y] 30))).cons (heap_alloc_new w2 (.cells #[vI vK x, vI vK y] 30)); obtain ⟨f0, f1, -, -, flt⟩ := row2 (hK2.2 _ (mcO _ mcS))))
  | (go_at_call 6; go_must (refine (HIS.out _ ((bF _ _).alloc (Nat.le_refl _) _)).mono ?_; rintro e w4 ⟨rfl, hb4⟩; have hK4 := hK3.later hb4; obtain ⟨a0, a1, -, -, alt⟩ := row2 (hK4.2 _ mcS); obtain ⟨b0, b1, -, -, blt⟩ := row2 (hK4.2 _ (mcO _ mcS))))
  | fail)
 go_ret
 exact ⟨rfl, hK4.1⟩
theorem zTc {C D S : Nat → Int} {R : Nat → Bool} {O N : Nat → Int} {er : Int} {q : Nat} : ∀ {f : Nat} {st : List (Nat × Way)} {es : List Kno}, goF C D S R O N f st es = .inl (er, q) → (er != 0) = true := by
 intro f
 induction f with
 | zero =>
  intro st es h
  cases st with
  | nil => rw [goF] at h; cases h
  | cons x st => rw [goF] at h; cases h; rfl
 | succ f ih =>
  intro st es h
  cases st with
  | nil => rw [goF] at h; cases h
  | cons x st =>
   rw [goF] at h
   by_cases h0 : (x.2.look (C x.1) (D x.1).toNat (S x.1).toNat (R x.1) (O x.1) (N x.1)).2 ≠ 0
   ·rw [if_pos h0] at h
    injection h with h
    injection h with h1 h2
    rw [← h1]
    simpa using h0
   ·rw [if_neg h0] at h
    exact ih h
theorem zPt {C D S : Nat → Int} {R : Nat → Bool} {O N : Nat → Int} {E : List Kno} : ∀ {f : Nat} {st : List (Nat × Way)} {es : List Kno}, goF C D S R O N f st es = .inr E → E.length ≤ es.length + f := by
 intro f
 induction f with
 | zero =>
  intro st es h
  cases st with
  | nil => rw [goF] at h; cases h; omega
  | cons x st => rw [goF] at h; cases h
 | succ f ih =>
  intro st es h
  cases st with
  | nil => rw [goF] at h; cases h; omega
  | cons x st =>
   rw [goF] at h
   by_cases h0 : (x.2.look (C x.1) (D x.1).toNat (S x.1).toNat (R x.1) (O x.1) (N x.1)).2 ≠ 0
   ·rw [if_pos h0] at h; cases h
   ·rw [if_neg h0] at h
    have := ih h
    split at this
    ·rw [List.length_append] at this; simp at this; omega
    ·omega
theorem zTb {C D S : Nat → Int} {R : Nat → Bool} {O N : Nat → Int} {E : List Kno} (h : goF C D S R O N 4000 [(0, way0)] [] = .inr E) : E.length ≤ 4000 := by
 have := zPt h
 simpa using this
def abs0 : Abs := ⟨fun i => if i = 1 then ⟨2, 0, 0⟩ else if i = 10 then ⟨3, 0, 0⟩ else zCl, fun _ => zCl, fun _ => 0, fun _ => 0, 0, []⟩
theorem zDb : In64 0 := ⟨by decide, by decide⟩
theorem zUa : abs0.Ok := by
 refine ⟨fun i _ => ?_, fun _ _ => z6p, fun _ _ => zDb, fun _ _ => zDb, zDb, fun x hx => absurd hx (by simp [abs0]), by decide⟩
 show (if i = 1 then (⟨2, 0, 0⟩ : Val) else if i = 10 then ⟨3, 0, 0⟩ else zCl).Ok
 split
 ·exact ⟨by decide, by decide, ⟨by decide, by decide⟩, by decide, by decide⟩
 split
 ·exact ⟨by decide, by decide, ⟨by decide, by decide⟩, by decide, by decide⟩
 ·exact z6p
theorem zQj : way0.Has abs0 := by
 refine ⟨fun i _ => ?_, fun _ _ => Or.inl rfl⟩
 show (if i = 1 then (⟨2, 0, 0⟩ : Kno) else if i = 10 then ⟨3, 0, 0⟩ else kno0).Has (if i = 1 then (⟨2, 0, 0⟩ : Val) else if i = 10 then ⟨3, 0, 0⟩ else zCl)
 by_cases h1 : i = 1
 ·rw [if_pos h1, if_pos h1]; exact Or.inr (Or.inl ⟨by decide, by decide, rfl, by decide, by decide⟩)
 rw [if_neg h1, if_neg h1]
 by_cases h2 : i = 10
 ·rw [if_pos h2, if_pos h2]; exact Or.inr (Or.inl ⟨by decide, by decide, rfl, by decide, by decide⟩)
 rw [if_neg h2, if_neg h2]
 exact Or.inl rfl
def zGu (w : World) (a : Option Addr) (len : Nat) : Prop :=
 len = 0 ∨ ∃ (bk off : Nat) (C D S O N : Nat → Int) (R : Nat → Bool), a = some ⟨bk, off, none⟩ ∧ bk < w.heap.size ∧ z33 w bk off len C D S R O N ∧ (∀ i, i < len → In64 (O i)) ∧ ∀ i, i < len → In64 (N i)
theorem zM3 {C D S : Nat → Int} {R : Nat → Bool} {O N : Nat → Int} {len f : Nat} {es : List Kno} (hr : ∀ i, i < len → z9q (C i) (D i) (S i) (R i) (O i) (N i) len i) (hf : ∀ i, i < len → In64 (O i) ∧ In64 (N i)) (h0 : 0 < len) (h : goF C D S R O N f [(0, way0)] [] = .inr es) : 1 ≤ es.length := by
 obtain ⟨n, k, a', -, -, -, b, hb, -⟩ := go_from_start hr hf h0 h abs0 zUa zQj
 exact List.length_pos_of_mem hb
theorem zJ5 (a : Option Addr) (len cap : Nat) (w : World) (hs : zGu w a len) (hg : z23 w) (hA : z0a w) :
  Calls Tryz.prog 3 #[.slice a len cap] w fun e w' => e = .returned (.bool true) ∧ Below w.heap.size w w' := by
 by_cases k1 : 300 < len
 ·exact zH8 a len cap k1 w
 by_cases k2 : len < 1 ∨ 200 < len
 ·refine z6j a len cap (by omega) w 4 (-1) 0 0 (fun W hW => ?_) (fun W hW => ?_)
  ·exact zFv _ _ _ W 4 (-1) rfl (fun W' _ => z9g a len cap k2 W')
  ·exact (zBx a len cap k2 W).mono fun e w' h => ⟨_, h.1, h.2, fun W' hW' => zPi 4 W' ((hg.later hW).later (h.2.trans (hW'.mono h.2.size)))⟩
 rcases hs with h0 | ⟨bk, off, C, D, S, O, N, R, rfl, hbk, hst, hO, hN⟩
 ·omega
 have hbk' : ∀ W, Below w.heap.size w W → bk < W.heap.size := fun W hW => Nat.lt_of_lt_of_le hbk hW.size
 rcases first_fault (z0r len C D S R O N) len with h | ⟨i, hi, hno, hf⟩
 ·have hr : ∀ i, i < len → z9q (C i) (D i) (S i) (R i) (O i) (N i) len i := fun i hi => zAi (h i hi)
  have hf : ∀ i, i < len → In64 (O i) ∧ In64 (N i) := fun i hi => ⟨hO i hi, hN i hi⟩
  have HC : ∀ W, Below w.heap.size w W → ∀ W' : World, Below W.heap.size W W' → Calls Tryz.prog 7 #[(.slice (some ⟨bk, off, none⟩) len cap)] W' fun e w' => e = .returned (.agg #[vI vK 0, vI vK (-1)]) ∧ Below W'.heap.size W' w' := fun W hW W' hW' =>
   zAu h ((hst.later hW hbk).later hW' (hbk' W hW)) (by omega) (by omega) (Nat.lt_of_lt_of_le (hbk' W hW) hW'.size)
  have HGO : ∀ (W : World) (Bl : Nat), Below w.heap.size w W → w.heap.size < Bl → Bl < W.heap.size → z1j W Bl W.heap.size (.slice (some ⟨bk, off, none⟩) len cap) 4000 (.slice none 0 0) [] →
    Calls Tryz.prog 9 #[.pointer (some ⟨Bl, 0, none⟩), .agg (z04 way0), vI vK 0] W fun e w' => ∃ v, e = .returned v ∧ ∃ er i, v = .agg #[vI vK er, vI vK i] ∧ Kp Bl (.slice none 0 0) W w' ∧ GoP C D S R O N (.slice (some ⟨bk, off, none⟩) len cap) Bl W.heap.size W 4000 0 way0 (.slice none 0 0) [] er i w' := fun W Bl hW hB1 hB2 hL =>
   zPr (by omega) hr hf 4000 4000 (Nat.le_refl _) W _ _ way0 0 ⟨hst.later hW hbk, hbk' W hW, by omega, hA.later hW, by have := hA.1; omega, Nat.lt_of_lt_of_le hA.1 hW.size, Nat.le_refl _⟩ hL zDe (by omega)
  cases hX : goF C D S R O N 4000 [(0, way0)] [] with
  | inl xx =>
   obtain ⟨er, q⟩ := xx
   have her : (er != 0) = true := zTc hX
   refine z6j _ len cap (by omega) w er (q : Int) 0 0 (fun W hW => ?_) (fun W hW => ?_)
   ·refine zNe _ _ _ W er (q : Int) her (HC W hW) (fun W' Bl hW' b1 b2 hL => ?_)
    refine (HGO W' Bl (hW.trans (hW'.mono hW.size)) (by have := hW.size; omega) b2 hL).mono fun e w' hh => ?_
    obtain ⟨v, g1, e', i', g2, g3, g4⟩ := hh
    refine ⟨v, g1, ?_, g3⟩
    rcases g4 with ⟨k1, j, rfl, k3⟩ | ⟨k1, E', f', es', k2, k3, k4, k5⟩
    ·have e1 := (k3 []).symm.trans hX
     injection e1 with e1
     injection e1 with e1 e2
     rw [g2, e1, e2]
    ·have e1 := (k5 []).symm.trans hX
     rw [zFh] at e1
     cases e1
   ·exact (zH9 bk off len cap C D S O N R W (by omega) (by omega) (hbk' W hW) (hst.later hW hbk) h hf er q hX).mono fun e w' ⟨p, he, hb, _, hpl, c0, c1⟩ => ⟨_, he, hb, fun W' hW' => is_at er (q : Int) p W' ((hg.later hW).later (hb.trans (hW'.mono hb.size))) ((hW'.cell (p := ⟨p, 0, none⟩) hpl).trans c0) ((hW'.cell (p := ⟨p, 1, none⟩) hpl).trans c1) (Nat.lt_of_lt_of_le hpl hW'.size)⟩
  | inr es =>
   have hes := zM3 hr hf (by omega) hX
   refine z6j _ len cap (by omega) w 0 (-1) (z0z (z53 es) es.length).1 (z0z (z53 es) es.length).2 (fun W hW => ?_) (fun W hW => ?_)
   ·refine zJm _ _ _ W es hes (zTb hX) (HC W hW) (fun W' Bl hW' b1 b2 hL => ?_)
    refine (HGO W' Bl (hW.trans (hW'.mono hW.size)) (by have := hW.size; omega) b2 hL).mono fun e w' hh => ?_
    obtain ⟨v, g1, e', i', g2, g3, g4⟩ := hh
    rcases g4 with ⟨k1, j, k2, k3⟩ | ⟨k1, E', f', es', k2, k3, k4, k5⟩
    ·have e1 := (k3 []).symm.trans hX
     cases e1
    ·have e1 := (k5 []).symm.trans hX
     rw [zFh] at e1
     injection e1 with e1
     subst e1
     obtain rfl : e' = 0 := by simpa using k1
     exact ⟨v, g1, i', g2, g3, E', f', k3⟩
   ·exact (zDq bk off len cap C D S O N R W (by omega) (by omega) (hbk' W hW) (hst.later hW hbk) h hf es hX).mono fun e w' hh => ⟨_, hh.1, hh.2, fun W' _ => is_nil W'⟩
 ·refine z6j _ len cap (by omega) w (z0r len C D S R O N i) (i : Int) 0 0 (fun W hW => ?_) (fun W hW => ?_)
  ·exact zFv _ _ _ W _ _ (by simpa using hf) (fun W' hW' => zCf hi hno hf ((hst.later hW hbk).later hW' (hbk' W hW)) (by omega) (by omega) (Nat.lt_of_lt_of_le (hbk' W hW) hW'.size))
  ·exact (zBw bk off len cap C D S O N R W (by omega) (by omega) (hbk' W hW) (hst.later hW hbk) i hi hno hf).mono fun e w' ⟨p, he, hb, _, hpl, c0, c1⟩ => ⟨_, he, hb, fun W' hW' => is_at _ _ p W' ((hg.later hW).later (hb.trans (hW'.mono hb.size))) ((hW'.cell (p := ⟨p, 0, none⟩) hpl).trans c0) ((hW'.cell (p := ⟨p, 1, none⟩) hpl).trans c1) (Nat.lt_of_lt_of_le hpl hW'.size)⟩
end Go.Proofs.YteenhdoaminkeaaGreatDoor
