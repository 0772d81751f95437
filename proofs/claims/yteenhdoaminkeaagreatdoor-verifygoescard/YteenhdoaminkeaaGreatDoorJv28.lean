/-
 The document's goes and both, by how many looks are left: the first thing that may go wrong, or all that the ways end with, is what goF comes to. Conditions: the steps are right and of 64 bits; the document's variable of all numbers is as it is laid.
-/
import Derived.Test.YteenhdoaminkeaaGreatDoorJv25
import Derived.Test.YteenhdoaminkeaaGreatDoorJv27
import Derived.Test.YteenhdoaminkeaaGreatDoorJv17
import Derived.Test.YteenhdoaminkeaaGreatDoorJv16
set_option maxHeartbeats 40000000
open Go.Value renaming int → vI
open Go.IntKind renaming i64 → vK
set_option maxRecDepth 1000000
set_option linter.defProp false
set_option linter.unusedVariables false
set_option linter.unusedSimpArgs false
namespace Go.Proofs.YteenhdoaminkeaaGreatDoor
open Go.ChangeShapes Go.WideShapes Go.ChangeAt Go.RowKit
structure Deep (W : World) (bk off len Bl base : Nat) (C D S : Nat → Int) (R : Nat → Bool) (O N : Nat → Int) : Prop where
 st : z33 W bk off len C D S R O N
 low : bk < base
 ne : bk ≠ Bl
 all : z0a W
 allNe : 0 ≠ Bl
 allLt : 0 < base
 room : base ≤ W.heap.size
def GoP (C D S : Nat → Int) (R : Nat → Bool) (O N : Nat → Int) (l : Value) (Bl base : Nat) (W : World) (F pc : Nat) (y : Way) (E : Value) (es : List Kno) (er i : Int) (w' : World) : Prop :=
 ((er != 0) = true ∧ ∃ j : Nat, i = (j : Int) ∧ ∀ st, goF C D S R O N F ((pc, y) :: st) es = .inl (er, j)) ∨
 ((er != 0) = false ∧ ∃ E' f' es', f' < F ∧ z1j w' Bl base l f' E' es' ∧ z0x W E E' ∧ ∀ st, goF C D S R O N F ((pc, y) :: st) es = goF C D S R O N f' st es')
def z67 (C D S : Nat → Int) (R : Nat → Bool) (O N : Nat → Int) (bk off len cap Bl base f : Nat) : Prop :=
 ∀ (W : World) (E : Value) (es : List Kno) (y : Way) (pc : Nat), Deep W bk off len Bl base C D S R O N → z1j W Bl base (.slice (some ⟨bk, off, none⟩) len cap) f E es → y.Ok → pc < len →
  Calls Tryz.prog 9 #[.pointer (some ⟨Bl, 0, none⟩), .agg (z04 y), vI vK (pc : Int)] W fun e w' => ∃ v, e = .returned v ∧ ∃ er i, v = .agg #[vI vK er, vI vK i] ∧ Kp Bl E W w' ∧ GoP C D S R O N (.slice (some ⟨bk, off, none⟩) len cap) Bl base W f pc y E es er i w'
def zR0 (C D S : Nat → Int) (R : Nat → Bool) (O N : Nat → Int) (bk off len cap Bl base f : Nat) : Prop :=
 ∀ (W : World) (E : Value) (es : List Kno) (y : Way) (pc : Nat), Deep W bk off len Bl base C D S R O N → z1j W Bl base (.slice (some ⟨bk, off, none⟩) len cap) f E es → y.Ok → pc < len → 15 ≤ C pc → C pc ≤ 24 →
  Calls Tryz.prog 19 #[.pointer (some ⟨Bl, 0, none⟩), .agg (z04 y), vI vK (pc : Int), .agg #[.int .u8 (kD (y.second (S pc).toNat (R pc) (N pc)).k), vI vK (y.second (S pc).toNat (R pc) (N pc)).l, vI vK (y.second (S pc).toNat (R pc) (N pc)).h]] W fun e w' => ∃ v, e = .returned v ∧ ∃ er i, v = .agg #[vI vK er, vI vK i] ∧ Kp Bl E W w' ∧ GoP C D S R O N (.slice (some ⟨bk, off, none⟩) len cap) Bl base W (f + 1) pc y E es er i w'
section
variable {C D S : Nat → Int} {R : Nat → Bool} {O N : Nat → Int} {bk off len cap Bl base : Nat} {W W' wX w1 w' : World} {E E' : Value} {es : List Kno} {y y' : Way} {pc pc' f F : Nat} {l : Value}
theorem Deep.on (h : Deep W bk off len Bl base C D S R O N) (hs : W.heap.size ≤ W'.heap.size) (hb : ∀ k, k < base → k ≠ Bl → W'.heap[k]? = W.heap[k]?) : Deep W' bk off len Bl base C D S R O N := by
 have e := fun o => World.cell?_of_block (a := ⟨bk, o, none⟩) (hb bk h.low h.ne)
 have g := fun o => World.cell?_of_block (a := ⟨0, o, none⟩) (hb _ h.allLt h.allNe)
 refine ⟨fun i hi => ?_, h.low, h.ne, ⟨Nat.lt_of_lt_of_le h.all.1 hs, (g _).trans h.all.2.1, (g _).trans h.all.2.2⟩, h.allNe, h.allLt, Nat.le_trans h.room hs⟩
 obtain ⟨a, b, c, d, k, m⟩ := h.st i hi
 exact ⟨(e _).trans a, (e _).trans b, (e _).trans c, (e _).trans d, (e _).trans k, (e _).trans m⟩
theorem Deep.later (h : Deep W bk off len Bl base C D S R O N) (hb : Below W.heap.size W W') : Deep W' bk off len Bl base C D S R O N :=
 h.on hb.size fun k hk _ => hb.block k (Nat.lt_of_lt_of_le hk h.room)
theorem Deep.kp (h : Deep W bk off len Bl base C D S R O N) (hl : z1j W Bl base l f E es) (hk : Kp Bl E W W') : Deep W' bk off len Bl base C D S R O N :=
 h.on hk.size fun k hk' hne => hk.2 k (Nat.lt_of_lt_of_le hk' h.room) hne fun e => by have := (hl.row k e.symm).1; omega
theorem Deep.less (h : Deep W bk off len Bl base C D S R O N) (v : Value) : Deep (W.setCell ⟨Bl, 1, none⟩ v) bk off len Bl base C D S R O N :=
 h.on (by simp) fun k _ hne => heap_setCell_other _ _ _ _ hne
theorem Deep.only {Bx : Nat} (h : Deep W bk off len Bl base C D S R O N) (ho : z24 Bx W W') (hB : base ≤ Bx) : Deep W' bk off len Bl base C D S R O N :=
 h.on ho.1.size fun k hk _ => ho.2.2 k (by omega)
theorem z7d (h : z0x wX E E') (hs : W.heap.size ≤ wX.heap.size) : z0x W E E' := h.elim Or.inl fun ⟨k, h1, h2⟩ => Or.inr ⟨k, h1, Nat.le_trans hs h2⟩
theorem z8k {Bx : Nat} (h : z0x wX E E') (hE : some Bx ≠ E.ownBlock) (hs : Bx < wX.heap.size) : some Bx ≠ E'.ownBlock := by
 rcases h with h | ⟨k, h1, h2⟩
 ·rw [h]; exact hE
 ·rw [h1]; intro e; injection e with e; omega
theorem z1j.not_row {Bx : Nat} (h : z1j W Bl base l f E es) (hB : W.heap.size ≤ Bx) : some Bx ≠ E.ownBlock := fun e => by have := (h.row Bx e.symm).2; omega
theorem GoP.shift {Bx : Nat} {er i : Int} (hl : z1j W Bl base l F E es) (hB : W.heap.size ≤ Bx) (hs : Bx < wX.heap.size) (hf : f ≤ F) (hst : ∀ st, goF C D S R O N F ((pc, y) :: st) es = goF C D S R O N f ((pc', y') :: st) es)
  (h : GoP C D S R O N l Bl base wX f pc' y' E es er i w1) (ho : z24 Bx w1 w') : GoP C D S R O N l Bl base W F pc y E es er i w' := by
 rcases h with ⟨h1, j, h2, h3⟩ | ⟨h1, E', f', es', h2, h3, h4, h5⟩
 ·exact Or.inl ⟨h1, j, h2, fun st => (hst st).trans (h3 st)⟩
 ·exact Or.inr ⟨h1, E', f', es', by omega, z5g h3 ho (by have := hl.blt; omega) (z8k h4 (hl.not_row hB) hs), z7d h4 (by omega), fun st => (hst st).trans (h5 st)⟩
theorem z67.next (h : z67 C D S R O N bk off len cap Bl base f) (hD : Deep W bk off len Bl base C D S R O N) (hl : z1j W Bl base (.slice (some ⟨bk, off, none⟩) len cap) (f + 1) E es) (hy : y'.Ok) (hpc : pc' < len) (p : Int) (hp : p = (pc' : Int)) :
  ∀ wX : World, Below (W.setCell ⟨Bl, 1, none⟩ (vI vK (f : Int))).heap.size (W.setCell ⟨Bl, 1, none⟩ (vI vK (f : Int))) wX → W.heap.size + 1 < wX.heap.size →
   Calls Tryz.prog 9 #[.pointer (some ⟨Bl, 0, none⟩), .agg (z04 y'), vI vK p] wX fun e w' => ∃ v, e = .returned v ∧ ∃ er i, v = .agg #[vI vK er, vI vK i] ∧ Kp Bl E wX w' ∧ ∃ wX : World, W.heap.size + 1 < wX.heap.size ∧ GoP C D S R O N (.slice (some ⟨bk, off, none⟩) len cap) Bl base wX f pc' y' E es er i w' := by
 intro wX hb hs
 subst hp
 refine (h wX E es y' pc' ((hD.less _).later hb) (hl.less.later hb) hy hpc).mono fun e w' hh => ?_
 obtain ⟨v, h1, er, i, h2, h3, h4⟩ := hh
 exact ⟨v, h1, er, i, h2, h3, wX, hs, h4⟩
theorem zFg {st : List (Nat × Way)} {o' : Int} (h : y.look (C pc) (D pc).toNat (S pc).toNat (R pc) (O pc) (N pc) = ([(o', y')], 0)) (h28 : C pc ≠ 28) : goF C D S R O N (f + 1) ((pc, y) :: st) es = goF C D S R O N f ((pc + 1 + o'.toNat, y') :: st) es := by
 rw [goF, h, if_neg (by simp), if_neg h28]; rfl
theorem zTd {st : List (Nat × Way)} {er : Int} {z : List (Int × Way)} (h : y.look (C pc) (D pc).toNat (S pc).toNat (R pc) (O pc) (N pc) = (z, er)) (he : er ≠ 0) : goF C D S R O N (f + 1) ((pc, y) :: st) es = .inl (er, pc) := by
 rw [goF, h, if_pos he]
theorem z5i {o' : Int} {e : Ending} (hl : z1j W Bl base l (f + 1) E es) (h28 : C pc ≠ 28) (hk : y.look (C pc) (D pc).toNat (S pc).toNat (R pc) (O pc) (N pc) = ([(o', y')], 0)) (hp : pc' = pc + 1 + o'.toNat)
  (h : ∃ er i, e = .returned (.agg #[vI vK er, vI vK i]) ∧ Kp Bl E W w' ∧ ∃ w1, (∃ wX : World, W.heap.size + 1 < wX.heap.size ∧ GoP C D S R O N l Bl base wX f pc' y' E es er i w1) ∧ z24 (W.heap.size + 1) w1 w') :
  ∃ v, e = .returned v ∧ ∃ er i, v = .agg #[vI vK er, vI vK i] ∧ Kp Bl E W w' ∧ GoP C D S R O N l Bl base W (f + 1) pc y E es er i w' := by
 obtain ⟨er, i, h1, h2, w1, ⟨wX, h3, h4⟩, h5⟩ := h
 subst hp
 exact ⟨_, h1, er, i, rfl, h2, GoP.shift hl (by omega) h3 (by omega) (fun st => zFg hk h28) h4 h5⟩
theorem z3h {er : Int} {z : List (Int × Way)} {e : Ending} (hk : y.look (C pc) (D pc).toNat (S pc).toNat (R pc) (O pc) (N pc) = (z, er)) (he : er ≠ 0) (h : e = .returned (.agg #[vI vK er, vI vK (pc : Int)]) ∧ Kp Bl E W w') :
  ∃ v, e = .returned v ∧ ∃ er i, v = .agg #[vI vK er, vI vK i] ∧ Kp Bl E W w' ∧ GoP C D S R O N l Bl base W (f + 1) pc y E es er i w' :=
 ⟨_, h.1, er, pc, rfl, h.2, Or.inl ⟨by simpa using he, pc, rfl, fun st => zTd hk he⟩⟩
end
theorem zB9 (y : Way) (x : Kno) : (y.putReg 0 x).lose = y.lose.putReg 0 x := by
 unfold Way.lose Way.putReg
 congr 1
 funext i
 dsimp only
 by_cases h : i = 0
 ·rw [if_neg (by omega), if_pos h, if_pos h]
 ·rw [if_neg h, if_neg h]
theorem zFa {x : Kno} (_ : x.Ok) (hk : x.k = 1) : (kD x.k == 110) = true ∧ (kD x.k == 0) = false ∧ (kD x.k != 110) = false := by rw [hk]; exact ⟨rfl, rfl, rfl⟩
theorem zIa {x : Kno} (_ : x.Ok) (hk : x.k = 0) : (kD x.k == 110) = false ∧ (kD x.k == 0) = true ∧ (kD x.k != 110) = true := by rw [hk]; exact ⟨rfl, rfl, rfl⟩
theorem zF9 {x : Kno} (h : x.Ok) (h0 : x.k ≠ 0) (h1 : x.k ≠ 1) : (kD x.k == 110) = false ∧ (kD x.k == 0) = false ∧ (kD x.k != 110) = true := by
 have a := h.1
 have b := h.2.1
 rcases (show x.k = 2 ∨ x.k = 3 ∨ x.k = 4 ∨ x.k = 5 by omega) with e | e | e | e <;> (rw [e]; exact ⟨rfl, rfl, rfl⟩)

theorem zLj {C D S : Nat → Int} {R : Nat → Bool} {O N : Nat → Int} {bk off len cap Bl base : Nat} : z67 C D S R O N bk off len cap Bl base 0 := by
 intro W E es y pc hD hL hy hpc
 refine (zIj bk off len cap Bl base E es y pc W hL).mono fun e w' h => ?_
 exact ⟨_, h.1, 4, pc, rfl, h.2, Or.inl ⟨by decide, pc, rfl, fun st => by rw [goF]⟩⟩
theorem zLl {C D S : Nat → Int} {R : Nat → Bool} {O N : Nat → Int} {bk off len cap Bl base f : Nat} (hlen : len ≤ 200) (hr : ∀ i, i < len → z9q (C i) (D i) (S i) (R i) (O i) (N i) len i) (hf : ∀ i, i < len → In64 (O i) ∧ In64 (N i)) (GF : z67 C D S R O N bk off len cap Bl base f) (BF : zR0 C D S R O N bk off len cap Bl base f) : z67 C D S R O N bk off len cap Bl base (f + 1) := by
 intro W E es y pc hD hL hy hpc
 have rt := hr pc hpc
 obtain ⟨iO, iN⟩ := hf pc hpc
 have d0 := rt.d1
 have s0 := rt.s1
 have hd : (D pc).toNat < 11 := by have := rt.d2; omega
 have hs : (S pc).toNat < 11 := by have := rt.s2; omega
 have HA : z0a W ∧ 0 ≠ Bl := ⟨hD.all, hD.allNe⟩
 have HST : (W.cell? ⟨bk, off + pc * 6, none⟩ = some (vI vK (C pc)) ∧ W.cell? ⟨bk, off + pc * 6 + 1, none⟩ = some (vI vK ((D pc).toNat : Int)) ∧ W.cell? ⟨bk, off + pc * 6 + 2, none⟩ = some (vI vK ((S pc).toNat : Int)) ∧ W.cell? ⟨bk, off + pc * 6 + 3, none⟩ = some (.bool (R pc)) ∧ W.cell? ⟨bk, off + pc * 6 + 4, none⟩ = some (vI vK (O pc)) ∧ W.cell? ⟨bk, off + pc * 6 + 5, none⟩ = some (vI vK (N pc))) ∧ bk < W.heap.size ∧ bk ≠ Bl := by
  rw [Int.toNat_of_nonneg d0, Int.toNat_of_nonneg s0]
  exact ⟨hD.st pc hpc, Nat.lt_of_lt_of_le hD.low hD.room, hD.ne⟩
 have kd := hy.reg _ hd
 have ks := hy.reg _ hs
 have k0 := hy.reg 0 (by decide)
 have k1 := hy.reg 1 (by decide)
 have k2 : (y.second (S pc).toNat (R pc) (N pc)).Ok := z2u hy hs iN
 have lst : C pc ≠ 28 → pc + 1 < len := fun h => by have := rt.last h; omega
 by_cases c28 : C pc = 28
 ·have x28 : (C pc == 28) = true := by simpa using c28
  have hlk : y.look (C pc) (D pc).toNat (S pc).toNat (R pc) (O pc) (N pc) = ([], z0f (y.reg 0)) := by
   unfold Way.look
   rw [if_neg (by omega), if_neg (by omega), if_pos c28]
  by_cases z0 : (y.reg 0).k = 0
  ·obtain ⟨a1, a2, -⟩ := zIa k0 z0
   refine (zIn _ _ _ _ _ _ _ _ _ y pc (C pc) (O pc) (N pc) _ _ (R pc) W hL HST hpc hlen hd hs HA x28 a2 a1).mono fun e w' h => ?_
   exact z3h (hlk.trans (by unfold z0f; rw [if_pos z0])) (by decide) h
  by_cases z1 : (y.reg 0).k = 1
  ·obtain ⟨a1, a2, -⟩ := zFa k0 z1
   refine (zLq _ _ _ _ _ _ _ _ _ y pc (C pc) (O pc) (N pc) _ _ (R pc) W hL HST hpc hlen hd hs HA hD.room x28 a1).mono fun e w' h => ?_
   obtain ⟨h1, h2, E', h3, h4⟩ := h
   refine ⟨_, h1, 0, -1, rfl, h2, Or.inr ⟨by decide, E', f, es ++ [y.reg 0], by omega, h3, h4, fun st => ?_⟩⟩
   have hw : z0f (y.reg 0) = 0 := by unfold z0f; rw [if_neg z0, if_pos z1]
   rw [goF, hlk]
   dsimp only
   rw [hw, if_neg (by simp), if_pos c28]
   rfl
  ·obtain ⟨a1, a2, -⟩ := zF9 k0 z0 z1
   refine (zIm _ _ _ _ _ _ _ _ _ y pc (C pc) (O pc) (N pc) _ _ (R pc) W hL HST hpc hlen hd hs HA x28 a2 a1).mono fun e w' h => ?_
   exact z3h (hlk.trans (by unfold z0f; rw [if_neg z0, if_neg z1])) (by decide) h
 have x28 : (C pc == 28) = false := by simpa using c28
 have hnx := lst c28
 by_cases c14 : C pc = 14
 ·have x14 : (C pc == 14) = true := by simpa using c14
  obtain ⟨o0, o1⟩ := rt.lead (Or.inl c14)
  have hlk : y.look (C pc) (D pc).toNat (S pc).toNat (R pc) (O pc) (N pc) = ([(O pc, y)], 0) := by
   unfold Way.look
   rw [if_neg (by omega), if_pos c14]
  refine (zLo _ _ _ _ _ _ _ _ _ y pc (C pc) (O pc) (N pc) _ _ (R pc) W hL HST hpc hlen hd hs HA x28 x14 (pc + 1 + (O pc).toNat) (by rw [z0e (by omega) (by omega)]; omega) _ (GF.next hD hL hy (pc' := pc + 1 + (O pc).toNat) (by omega) _ rfl)).mono fun e w' h => z5i hL c28 hlk rfl h
 have x14 : (C pc == 14) = false := by simpa using c14
 by_cases cq : 15 ≤ C pc ∧ C pc ≤ 24
 ·have HQ : (decide (15 ≤ C pc) && decide (C pc ≤ 24)) = true := by simpa using cq
  refine (zPq _ _ _ _ _ _ _ _ _ y pc (C pc) (O pc) (N pc) _ _ (R pc) W hL HST hpc hlen hd hs HA x28 x14 HQ (fun er i w1 => ∃ wX : World, W.heap.size + 1 < wX.heap.size ∧ GoP C D S R O N (.slice (some ⟨bk, off, none⟩) len cap) Bl base wX (f + 1) pc y E es er i w1) (fun wX hb hz => ?_)).mono fun e w' h => ?_
  ·refine (BF wX E es y pc ((hD.less _).later hb) (hL.less.later hb) hy hpc cq.1 cq.2).mono fun e w' hh => ?_
   obtain ⟨v, h1, er, i, h2, h3, h4⟩ := hh
   exact ⟨v, h1, er, i, h2, h3, wX, hz, h4⟩
  ·obtain ⟨er, i, h1, h2, w1, ⟨wX, h3, h4⟩, h5⟩ := h
   exact ⟨_, h1, er, i, rfl, h2, GoP.shift hL (by omega) h3 (by omega) (fun st => rfl) h4 h5⟩
 have HQ : (decide (15 ≤ C pc) && decide (C pc ≤ 24)) = false := by
  by_cases h : 15 ≤ C pc
  ·have : ¬ C pc ≤ 24 := fun z => cq ⟨h, z⟩
   simp [this]
  ·simp [h]
 have hp1 : pc + 1 = pc + 1 + (0 : Int).toNat := rfl
 by_cases c25 : C pc = 25
 ·have x25 : (C pc == 25) = true := by simpa using c25
  have hlk : y.look (C pc) (D pc).toNat (S pc).toNat (R pc) (O pc) (N pc) = (if (y.load (D pc).toNat (S pc).toNat (O pc)).1 = 0 then ([(0, (y.load (D pc).toNat (S pc).toNat (O pc)).2)], 0) else ([], (y.load (D pc).toNat (S pc).toNat (O pc)).1)) := by
   unfold Way.look
   rw [if_neg cq, if_neg c14, if_neg c28, if_pos c25]
  have HLD := fun (wX : World) (hX : z0a wX) => zHl y (y.reg (S pc).toNat) (O pc) hy ks iO wX hX
  have hok := zLe (d := (D pc).toNat) hy hs iO
  by_cases z : (ldV y (y.reg (S pc).toNat) (O pc)).2 = 0
  ·have hc : y.load (D pc).toNat (S pc).toNat (O pc) = (0, y.putReg (D pc).toNat (ldV y (y.reg (S pc).toNat) (O pc)).1) := by rw [zG2, if_neg (fun h => h z)]
   rw [hc] at hlk hok
   rw [if_pos rfl] at hlk
   exact (zLn _ _ _ _ _ _ _ _ _ y pc (C pc) (O pc) (N pc) _ _ (R pc) W hL HST hpc hlen hd hs HA x28 x14 HQ x25 _ _ _ _ HLD (by simpa using z) _ (GF.next hD hL hok hnx _ rfl)).mono fun e w' h => z5i hL c28 hlk hp1 h
  ·have hc : y.load (D pc).toNat (S pc).toNat (O pc) = ((ldV y (y.reg (S pc).toNat) (O pc)).2, y) := by rw [zG2, if_pos z]
   rw [hc, if_neg z] at hlk
   exact (zIi _ _ _ _ _ _ _ _ _ y pc (C pc) (O pc) (N pc) _ _ (R pc) W hL HST hpc hlen hd hs HA x28 x14 HQ x25 _ _ _ _ HLD (by simpa using z)).mono fun e w' h => z3h hlk z h
 have x25 : (C pc == 25) = false := by simpa using c25
 by_cases c26 : C pc = 26
 ·have x26 : (C pc == 26) = true := by simpa using c26
  have hlk : y.look (C pc) (D pc).toNat (S pc).toNat (R pc) (O pc) (N pc) = (if (y.store (y.reg (D pc).toNat) (y.second (S pc).toNat (R pc) (N pc)) (O pc)).1 = 0 then ([(0, (y.store (y.reg (D pc).toNat) (y.second (S pc).toNat (R pc) (N pc)) (O pc)).2)], 0) else ([], (y.store (y.reg (D pc).toNat) (y.second (S pc).toNat (R pc) (N pc)) (O pc)).1)) := by
   unfold Way.look
   rw [if_neg cq, if_neg c14, if_neg c28, if_neg c25, if_pos c26]
  have HFU := fun (wX : World) (hX : z0a wX) => z8l (y.reg (D pc).toNat) (O pc) kd iO wX hX
  by_cases z : (z0l (y.reg (D pc).toNat) (O pc)).2 = 0
  ·have z0 : ((z0l (y.reg (D pc).toNat) (O pc)).2 == 0) = true := by simpa using z
   have z0' : ((z0l (y.reg (D pc).toNat) (O pc)).2 != 0) = false := by simpa using z
   obtain ⟨nk, er, r1, r2⟩ := z48 z
   have q0 := kd.1
   have q5 := kd.2.1
   have hst : y.store (y.reg (D pc).toNat) (y.second (S pc).toNat (R pc) (N pc)) (O pc) = (if (y.reg (D pc).toNat).k = 2 then (6, y) else if (y.second (S pc).toNat (R pc) (N pc)).k = 0 then (8, y) else if (y.reg (D pc).toNat).k = 4 then (z0f (y.second (S pc).toNat (R pc) (N pc)), y) else if (furB (y.reg (D pc).toNat) (O pc)).1 ≠ (furB (y.reg (D pc).toNat) (O pc)).2 then (2, y) else (0, y.putSlot ((furB (y.reg (D pc).toNat) (O pc)).1 + 16).toNat (y.second (S pc).toNat (R pc) (N pc)))) := by
    unfold Way.store furB
    rw [if_neg (fun h => h z), if_pos z]
   have eB : furB (y.reg (D pc).toNat) (O pc) = z3z (y.reg (D pc).toNat) (O pc) := by unfold furB; rw [if_pos z, er]
   by_cases t2 : (y.reg (D pc).toNat).k = 2
   ·have hc : y.store (y.reg (D pc).toNat) (y.second (S pc).toNat (R pc) (N pc)) (O pc) = (6, y) := by rw [hst, if_pos t2]
    rw [hc, if_neg (show ¬ (6 : Int) = 0 by decide)] at hlk
    exact (zPn _ _ _ _ _ _ _ _ _ y pc (C pc) (O pc) (N pc) _ _ (R pc) W hL HST hpc hlen hd hs HA x28 x14 HQ x25 x26 _ _ _ HFU z0 z0' (by rw [t2]; rfl)).mono fun e w' h => z3h (er := 6) hlk (by decide) h
   rw [if_neg t2] at hst
   have z1 : (kD (y.reg (D pc).toNat).k == 116) = false := by
    rcases (show (y.reg (D pc).toNat).k = 3 ∨ (y.reg (D pc).toNat).k = 4 by omega) with e | e <;> (rw [e]; rfl)
   by_cases u0 : (y.second (S pc).toNat (R pc) (N pc)).k = 0
   ·rw [if_pos u0] at hst
    rw [hst, if_neg (show ¬ (8 : Int) = 0 by decide)] at hlk
    exact (zPm _ _ _ _ _ _ _ _ _ y pc (C pc) (O pc) (N pc) _ _ (R pc) W hL HST hpc hlen hd hs HA x28 x14 HQ x25 x26 _ _ _ HFU z0 z0' z1 (zIa k2 u0).2.1).mono fun e w' h => z3h (er := 8) hlk (by decide) h
   rw [if_neg u0] at hst
   have z2 : (kD (y.second (S pc).toNat (R pc) (N pc)).k == 0) = false := by rw [kD_0 k2.1 k2.2.1]; simpa using u0
   by_cases t4 : (y.reg (D pc).toNat).k = 4
   ·rw [if_pos t4] at hst
    have z3 : (kD (y.reg (D pc).toNat).k == 99) = true := by rw [t4]; rfl
    by_cases u1 : (y.second (S pc).toNat (R pc) (N pc)).k = 1
    ·have hw : z0f (y.second (S pc).toNat (R pc) (N pc)) = 0 := by unfold z0f; rw [if_neg u0, if_pos u1]
     rw [hw] at hst
     rw [hst, if_pos rfl] at hlk
     exact (zPl _ _ _ _ _ _ _ _ _ y pc (C pc) (O pc) (N pc) _ _ (R pc) W hL HST hpc hlen hd hs HA x28 x14 HQ x25 x26 _ _ _ HFU z0 z0' z1 z2 z3 (zFa k2 u1).2.2 (by rw [t4]; rfl) _ (GF.next hD hL hy hnx _ rfl)).mono fun e w' h => z5i hL c28 hlk hp1 h
    ·have hw : z0f (y.second (S pc).toNat (R pc) (N pc)) = 1 := by unfold z0f; rw [if_neg u0, if_neg u1]
     rw [hw] at hst
     rw [hst, if_neg (show ¬ (1 : Int) = 0 by decide)] at hlk
     exact (zPp _ _ _ _ _ _ _ _ _ y pc (C pc) (O pc) (N pc) _ _ (R pc) W hL HST hpc hlen hd hs HA x28 x14 HQ x25 x26 _ _ _ HFU z0 z0' z1 z2 z3 (zF9 k2 u0 u1).2.2).mono fun e w' h => z3h (er := 1) hlk (by decide) h
   rw [if_neg t4] at hst
   have t3 : (y.reg (D pc).toNat).k = 3 := by omega
   have z3 : (kD (y.reg (D pc).toNat).k == 99) = false := by rw [t3]; rfl
   have z5 : (kD (y.reg (D pc).toNat).k == 102) = true := by rw [t3]; rfl
   have eR : z1u (y.reg (D pc).toNat).k = (-16, -1) := by rw [t3]; rfl
   rw [eR] at r1 r2
   have hle := z6t kd iO
   rw [← eB] at r1 r2 hle
   by_cases t : (furB (y.reg (D pc).toNat) (O pc)).1 = (furB (y.reg (D pc).toNat) (O pc)).2
   ·rw [if_neg (fun h => h t)] at hst
    rw [hst, if_pos rfl] at hlk
    have l1 : -16 ≤ (furB (y.reg (D pc).toNat) (O pc)).1 := r1
    have l2 : (furB (y.reg (D pc).toNat) (O pc)).2 ≤ -1 := r2
    exact (zPj _ _ _ _ _ _ _ _ _ y pc (C pc) (O pc) (N pc) _ _ (R pc) W hL HST hpc hlen hd hs HA (11 + ((furB (y.reg (D pc).toNat) (O pc)).1 + 16).toNat) (by omega) x28 x14 HQ x25 x26 _ _ _ HFU z0 z0' z1 z2 z3 z5 (by simpa using t) (by rw [IntWalk.i64_left, z0e (by omega) (by omega)]; omega) _ (GF.next hD hL (by rw [z8n]; exact hy.putSlot _ k2) hnx _ rfl)).mono fun e w' h => z5i hL c28 (by rw [z8n]; exact hlk) hp1 h
   ·rw [if_pos t] at hst
    rw [hst, if_neg (show ¬ (2 : Int) = 0 by decide)] at hlk
    exact (zPo _ _ _ _ _ _ _ _ _ y pc (C pc) (O pc) (N pc) _ _ (R pc) W hL HST hpc hlen hd hs HA x28 x14 HQ x25 x26 _ _ _ HFU z0 z0' z1 z2 z3 z5 (by simpa using t)).mono fun e w' h => z3h (er := 2) hlk (by decide) h
  ·have hst : y.store (y.reg (D pc).toNat) (y.second (S pc).toNat (R pc) (N pc)) (O pc) = ((z0l (y.reg (D pc).toNat) (O pc)).2, y) := by
    unfold Way.store
    rw [if_pos z]
   rw [hst, if_neg z] at hlk
   exact (zPk _ _ _ _ _ _ _ _ _ y pc (C pc) (O pc) (N pc) _ _ (R pc) W hL HST hpc hlen hd hs HA x28 x14 HQ x25 x26 _ _ _ HFU (by simpa using z) (by simpa using z)).mono fun e w' h => z3h hlk z h
 have x26 : (C pc == 26) = false := by simpa using c26
 by_cases c27 : C pc = 27
 ·have x27 : (C pc == 27) = true := by simpa using c27
  have hlk : y.look (C pc) (D pc).toNat (S pc).toNat (R pc) (O pc) (N pc) = (if (y.call (N pc)).1 = 0 then ([(0, (y.call (N pc)).2)], 0) else ([], (y.call (N pc)).1)) := by
   unfold Way.look
   rw [if_neg cq, if_neg c14, if_neg c28, if_neg c25, if_neg c26, if_pos c27]
  have hok := zMa (what := N pc) hy
  rcases rt.call c27 with n1 | n2 | n3
  ·have z2 : (N pc != 2) = true := by rw [n1]; rfl
   have z1 : (N pc == 1) = true := by rw [n1]; rfl
   by_cases u0 : (y.reg 1).k = 0
   ·have hw : z0f (y.reg 1) = 8 := by unfold z0f; rw [if_pos u0]
    have hc : y.call (N pc) = (8, y) := by unfold Way.call; rw [hw, if_pos ⟨Or.inl n1, by decide⟩]
    rw [hc, if_neg (show ¬ (8 : Int) = 0 by decide)] at hlk
    obtain ⟨a1, a2, a3⟩ := zIa k1 u0
    exact (zIk _ _ _ _ _ _ _ _ _ y pc (C pc) (O pc) (N pc) _ _ (R pc) W hL HST hpc hlen hd hs HA x28 x14 HQ x25 x26 x27 z2 z1 a3 a2).mono fun e w' h => z3h (er := 8) hlk (by decide) h
   by_cases u1 : (y.reg 1).k = 1
   ·have hw : z0f (y.reg 1) = 0 := by unfold z0f; rw [if_neg u0, if_pos u1]
    have hc : y.call (N pc) = (0, (y.putReg 0 ⟨5, 0, 0⟩).lose) := by unfold Way.call; rw [hw, if_neg (fun h => h.2 rfl), if_pos n1, zB9]
    rw [hc] at hlk hok
    rw [if_pos rfl] at hlk
    exact (zLp _ _ _ _ _ _ _ _ _ y pc (C pc) (O pc) (N pc) _ _ (R pc) W hL HST hpc hlen hd hs HA x28 x14 HQ x25 x26 x27 z2 z1 (zFa k1 u1).2.2 _ (GF.next hD hL hok hnx _ rfl)).mono fun e w' h => z5i hL c28 hlk hp1 h
   ·have hw : z0f (y.reg 1) = 1 := by unfold z0f; rw [if_neg u0, if_neg u1]
    have hc : y.call (N pc) = (1, y) := by unfold Way.call; rw [hw, if_pos ⟨Or.inl n1, by decide⟩]
    rw [hc, if_neg (show ¬ (1 : Int) = 0 by decide)] at hlk
    obtain ⟨a1, a2, a3⟩ := zF9 k1 u0 u1
    exact (zIl _ _ _ _ _ _ _ _ _ y pc (C pc) (O pc) (N pc) _ _ (R pc) W hL HST hpc hlen hd hs HA x28 x14 HQ x25 x26 x27 z2 z1 a3 a2).mono fun e w' h => z3h (er := 1) hlk (by decide) h
  ·have hc : y.call (N pc) = (0, (y.putReg 0 ⟨1, -9223372036854775808, 9223372036854775807⟩).lose) := by unfold Way.call; rw [if_neg (by omega), if_neg (by omega), if_pos n2, zB9]; rfl
   rw [hc] at hlk hok
   rw [if_pos rfl] at hlk
   exact (zLk _ _ _ _ _ _ _ _ _ y pc (C pc) (O pc) (N pc) _ _ (R pc) W hL HST hpc hlen hd hs HA x28 x14 HQ x25 x26 x27 (by rw [n2]; rfl) (by rw [n2]; rfl) (by rw [n2]; rfl) _ (GF.next hD hL hok hnx _ rfl)).mono fun e w' h => z5i hL c28 hlk hp1 h
  ·have z2 : (N pc != 2) = true := by rw [n3]; rfl
   have z1 : (N pc == 1) = false := by rw [n3]; rfl
   have z3 : (N pc == 3) = true := by rw [n3]; rfl
   by_cases u0 : (y.reg 1).k = 0
   ·have hw : z0f (y.reg 1) = 8 := by unfold z0f; rw [if_pos u0]
    have hc : y.call (N pc) = (8, y) := by unfold Way.call; rw [hw, if_pos ⟨Or.inr n3, by decide⟩]
    rw [hc, if_neg (show ¬ (8 : Int) = 0 by decide)] at hlk
    obtain ⟨a1, a2, a3⟩ := zIa k1 u0
    exact (zIo _ _ _ _ _ _ _ _ _ y pc (C pc) (O pc) (N pc) _ _ (R pc) W hL HST hpc hlen hd hs HA x28 x14 HQ x25 x26 x27 z2 z1 z3 a3 a2).mono fun e w' h => z3h (er := 8) hlk (by decide) h
   by_cases u1 : (y.reg 1).k = 1
   ·have hw : z0f (y.reg 1) = 0 := by unfold z0f; rw [if_neg u0, if_pos u1]
    have hc : y.call (N pc) = (0, (y.putReg 0 ⟨1, 0, 0⟩).lose) := by unfold Way.call; rw [hw, if_neg (fun h => h.2 rfl), if_neg (by omega), if_neg (by omega), zB9]; rfl
    rw [hc] at hlk hok
    rw [if_pos rfl] at hlk
    exact (zLr _ _ _ _ _ _ _ _ _ y pc (C pc) (O pc) (N pc) _ _ (R pc) W hL HST hpc hlen hd hs HA x28 x14 HQ x25 x26 x27 z2 z1 z3 (zFa k1 u1).2.2 _ (GF.next hD hL hok hnx _ rfl)).mono fun e w' h => z5i hL c28 hlk hp1 h
   ·have hw : z0f (y.reg 1) = 1 := by unfold z0f; rw [if_neg u0, if_neg u1]
    have hc : y.call (N pc) = (1, y) := by unfold Way.call; rw [hw, if_pos ⟨Or.inr n3, by decide⟩]
    rw [hc, if_neg (show ¬ (1 : Int) = 0 by decide)] at hlk
    obtain ⟨a1, a2, a3⟩ := zF9 k1 u0 u1
    exact (zIp _ _ _ _ _ _ _ _ _ y pc (C pc) (O pc) (N pc) _ _ (R pc) W hL HST hpc hlen hd hs HA x28 x14 HQ x25 x26 x27 z2 z1 z3 a3 a2).mono fun e w' h => z3h (er := 1) hlk (by decide) h
 have x27 : (C pc == 27) = false := by simpa using c27
 have c1 := rt.c1
 have c2 := rt.c2
 have c13 : 1 ≤ C pc ∧ C pc ≤ 13 := by omega
 have hlk : y.look (C pc) (D pc).toNat (S pc).toNat (R pc) (O pc) (N pc) = (if (y.change (C pc) (D pc).toNat (S pc).toNat (R pc) (N pc)).1 = 0 then ([(0, (y.change (C pc) (D pc).toNat (S pc).toNat (R pc) (N pc)).2)], 0) else ([], (y.change (C pc) (D pc).toNat (S pc).toNat (R pc) (N pc)).1)) := by
  unfold Way.look
  rw [if_neg cq, if_neg c14, if_neg c28, if_neg c25, if_neg c26, if_neg c27]
 have HCB := fun (wX : World) (hX : z0a wX) => zK9 (C pc) (y.reg (D pc).toNat) (y.second (S pc).toNat (R pc) (N pc)) kd k2 wX hX
 have hok := zD9 hy c13 hd hs iN (r := R pc)
 unfold Way.change at hlk hok
 by_cases z : (z2e (C pc) (y.reg (D pc).toNat) (y.second (S pc).toNat (R pc) (N pc))).2 = 0
 ·rw [if_pos z] at hlk hok
  rw [if_pos rfl] at hlk
  exact (zLm _ _ _ _ _ _ _ _ _ y pc (C pc) (O pc) (N pc) _ _ (R pc) W hL HST hpc hlen hd hs HA x28 x14 HQ x25 x26 x27 _ _ _ _ HCB (by simpa using z) _ (GF.next hD hL hok hnx _ rfl)).mono fun e w' h => z5i hL c28 hlk hp1 h
 ·rw [if_neg z, if_neg z] at hlk
  exact (zIh _ _ _ _ _ _ _ _ _ y pc (C pc) (O pc) (N pc) _ _ (R pc) W hL HST hpc hlen hd hs HA x28 x14 HQ x25 x26 x27 _ _ _ _ HCB (by simpa using z)).mono fun e w' h => z3h hlk z h
end Go.Proofs.YteenhdoaminkeaaGreatDoor
