/-
 The document's both, and with it goes, by how many looks are left. Conditions: the steps are right and of 64 bits; the document's variable of all numbers is as it is laid.
-/
import Derived.Test.YteenhdoaminkeaaGreatDoorJv28
import Derived.Test.YteenhdoaminkeaaGreatDoorJv29
set_option maxHeartbeats 40000000
open Go.Value renaming int → vI
open Go.IntKind renaming i64 → vK
open Go.RowKit.Below renaming alloc → bA, setCell → bS, drew → bD, refl → bF
set_option maxRecDepth 1000000
set_option linter.defProp false
set_option linter.unusedVariables false
set_option linter.unusedSimpArgs false
namespace Go.Proofs.YteenhdoaminkeaaGreatDoor
open Go.ChangeShapes Go.WideShapes Go.ChangeAt Go.RowKit
section
variable {C D S : Nat → Int} {R : Nat → Bool} {O N : Nat → Int} {bk off len cap Bl base : Nat} {W W' wX w1 w' : World} {E E' : Value} {es : List Kno} {y y' : Way} {pc pc' f F : Nat} {l : Value}
theorem z67.more (h : z67 C D S R O N bk off len cap Bl base f) (hD : Deep W bk off len Bl base C D S R O N) (hl : z1j W Bl base (.slice (some ⟨bk, off, none⟩) len cap) f E es) (hy : y'.Ok) (hpc : pc' < len) (p : Int) (hp : p = (pc' : Int)) (hb : Below W.heap.size W wX) :
  Calls Tryz.prog 9 #[.pointer (some ⟨Bl, 0, none⟩), .agg (z04 y'), vI vK p] wX fun e w' => ∃ v, e = .returned v ∧ ∃ er i, v = .agg #[vI vK er, vI vK i] ∧ Kp Bl E wX w' ∧ GoP C D S R O N (.slice (some ⟨bk, off, none⟩) len cap) Bl base wX f pc' y' E es er i w' := by
 subst hp
 exact h wX E es y' pc' (hD.later hb) (hl.later hb) hy hpc
theorem z7m {er : Int} {z : List (Int × Way)} {e : Ending} (hk : y.look (C pc) (D pc).toNat (S pc).toNat (R pc) (O pc) (N pc) = (z, er)) (he : er ≠ 0) (h : e = .returned (.agg #[vI vK er, vI vK (pc : Int)]) ∧ Kp Bl E W w') :
  ∃ v, e = .returned v ∧ ∃ er i, v = .agg #[vI vK er, vI vK i] ∧ Kp Bl E W w' ∧ GoP C D S R O N l Bl base W (f + 1) pc y E es er i w' := z3h hk he h
theorem zMb {o' : Int} {e : Ending} (hl : z1j W Bl base l f E es) (h28 : C pc ≠ 28) (hk : y.look (C pc) (D pc).toNat (S pc).toNat (R pc) (O pc) (N pc) = ([(o', y')], 0)) (hp : pc' = pc + 1 + o'.toNat)
  (h : ∃ er i, e = .returned (.agg #[vI vK er, vI vK i]) ∧ Kp Bl E W w' ∧ ∃ w1, (∃ wX : World, W.heap.size + 1 + 1 < wX.heap.size ∧ GoP C D S R O N l Bl base wX f pc' y' E es er i w1) ∧ z24 (W.heap.size + 1 + 1) w1 w') :
  ∃ v, e = .returned v ∧ ∃ er i, v = .agg #[vI vK er, vI vK i] ∧ Kp Bl E W w' ∧ GoP C D S R O N l Bl base W (f + 1) pc y E es er i w' := by
 obtain ⟨er, i, h1, h2, w1, ⟨wX, h3, h4⟩, h5⟩ := h
 subst hp
 refine ⟨_, h1, er, i, rfl, h2, ?_⟩
 rcases h4 with ⟨g1, j, g2, g3⟩ | ⟨g1, E', f', es', g2, g3, g4, g5⟩
 ·exact Or.inl ⟨g1, j, g2, fun st => (zFg hk h28).trans (g3 st)⟩
 ·exact Or.inr ⟨g1, E', f', es', by omega, z5g g3 h5 (by have := hl.blt; omega) (z8k g4 (hl.not_row (by omega)) h3), z7d g4 (by omega), fun st => (zFg hk h28).trans (g5 st)⟩
end
def Left (C D S : Nat → Int) (R : Nat → Bool) (O N : Nat → Int) (l : Value) (bk off len Bl base : Nat) (W : World) (f pc : Nat) (y : Way) (es : List Kno) (rest : List (Nat × Way)) (E' : Value) (w : World) : Prop :=
 ∃ f' es', f' ≤ f ∧ z1j w Bl base l f' E' es' ∧ Deep w bk off len Bl base C D S R O N ∧ some (W.heap.size + 1 + 1) ≠ E'.ownBlock ∧ W.heap.size + 1 + 1 < w.heap.size ∧ ∀ st, goF C D S R O N (f + 1) ((pc, y) :: st) es = goF C D S R O N f' (rest ++ st) es'
section
variable {C D S : Nat → Int} {R : Nat → Bool} {O N : Nat → Int} {bk off len cap Bl base : Nat} {W wX w w1 w' : World} {E E' : Value} {es : List Kno} {y y' : Way} {pc pc' f : Nat} {l : Value} {rest : List (Nat × Way)}
theorem Left.later (h : Left C D S R O N l bk off len Bl base W f pc y es rest E w) (hb : Below w.heap.size w w') : Left C D S R O N l bk off len Bl base W f pc y es rest E w' := by
 obtain ⟨f', es', h1, h2, h3, h4, h5, h6⟩ := h
 exact ⟨f', es', h1, h2.later hb, h3.later hb, h4, Nat.lt_of_lt_of_le h5 hb.size, h6⟩
theorem Left.go (h : Left C D S R O N (.slice (some ⟨bk, off, none⟩) len cap) bk off len Bl base W f pc y es ((pc', y') :: rest) E w) (hg : ∀ f', f' ≤ f → z67 C D S R O N bk off len cap Bl base f') (hy : y'.Ok) (hpc : pc' < len) (p : Int) (hp : p = (pc' : Int)) (hb : Below w.heap.size w wX) :
  Calls Tryz.prog 9 #[.pointer (some ⟨Bl, 0, none⟩), .agg (z04 y'), vI vK p] wX fun e w' => ∃ v, e = .returned v ∧ ∃ er i, v = .agg #[vI vK er, vI vK i] ∧ Kp Bl E wX w' ∧
   (((er != 0) = true ∧ ∃ j : Nat, i = (j : Int) ∧ ∀ st, goF C D S R O N (f + 1) ((pc, y) :: st) es = .inl (er, j)) ∨ ((er != 0) = false ∧ ∃ E', z0x wX E E' ∧ Left C D S R O N (.slice (some ⟨bk, off, none⟩) len cap) bk off len Bl base W f pc y es rest E' w')) := by
 obtain ⟨f', es', h1, h2, h3, h4, h5, h6⟩ := h
 refine ((hg f' h1).more h3 h2 hy hpc p hp hb).mono fun e w' hh => ?_
 obtain ⟨v, g1, er, i, g2, g3, g4⟩ := hh
 refine ⟨v, g1, er, i, g2, g3, ?_⟩
 have hs := Nat.lt_of_lt_of_le h5 hb.size
 rcases g4 with ⟨k1, j, k2, k3⟩ | ⟨k1, E', f2, es2, k2, k3, k4, k5⟩
 ·exact Or.inl ⟨k1, j, k2, fun st => (h6 st).trans (k3 _)⟩
 ·exact Or.inr ⟨k1, E', k4, f2, es2, by omega, k3, (h3.later hb).kp (h2.later hb) g3, z8k k4 h4 hs, Nat.lt_of_lt_of_le hs g3.size, fun st => (h6 st).trans (k5 _)⟩
theorem Left.end {i : Int} (h : Left C D S R O N l bk off len Bl base W f pc y es [] E' w1) (hB : Bl < W.heap.size) (hr : z0x W E E') (ho : z24 (W.heap.size + 1 + 1) w1 w') : GoP C D S R O N l Bl base W (f + 1) pc y E es 0 i w' := by
 obtain ⟨f', es', h1, h2, h3, h4, h5, h6⟩ := h
 exact Or.inr ⟨rfl, E', f', es', by omega, z5g h2 ho (by omega) h4, hr, fun st => h6 st⟩
end
theorem zFp {y : Way} {c o n : Int} {d s : Nat} {r : Bool} (h : (y.reg d).k = 1 ∧ (y.second s r n).k = 1) : y.ask c d s r o n = (y.askNumbers c d s r o n, 0) := by
 unfold Way.ask
 rw [if_neg (by omega), if_pos h]

def nwL (y : Way) (c : Int) (d s : Nat) (r : Bool) (n : Int) (p : Nat) : List (Nat × Way) := if (y.narrow c d s r n).1 = true then [(p, (y.narrow c d s r n).2)] else []
def z5y (y : Way) (c : Int) (d s : Nat) (r : Bool) (n : Int) (p0 p1 : Nat) (q : Nat) : List (Nat × Way) := if q = 0 then nwL y (oppV c) d s r n p0 ++ nwL y c d s r n p1 else if q = 1 then nwL y c d s r n p1 else []
theorem z5o (y : Way) (c : Int) (d s : Nat) (r : Bool) (n : Int) : (y.narrow c d s r n).1 = (narV c (y.reg d).l (y.reg d).h (y.second s r n).l (y.second s r n).h).2.2 := by
 unfold Way.narrow
 by_cases h : (narV c (y.reg d).l (y.reg d).h (y.second s r n).l (y.second s r n).h).2.2 = false
 ·rw [if_pos h, h]
 ·rw [if_neg h]
  have h' : (narV c (y.reg d).l (y.reg d).h (y.second s r n).l (y.second s r n).h).2.2 = true := by simpa using h
  rw [h']
  split
  ·rfl
  split <;> rfl
theorem zE6 {y : Way} {c n : Int} {d s : Nat} {r : Bool} {p0 p1 q : Nat} (hq : q < 2) (h : (y.narrow (cd (oppV c) c q) d s r n).1 = true) : z5y y c d s r n p0 p1 q = ((if q = 0 then p0 else p1), (y.narrow (cd (oppV c) c q) d s r n).2) :: z5y y c d s r n p0 p1 (q + 1) := by
 rcases (show q = 0 ∨ q = 1 by omega) with rfl | rfl
 ·have h' : (y.narrow (oppV c) d s r n).1 = true := h
  show nwL y (oppV c) d s r n p0 ++ nwL y c d s r n p1 = _
  unfold nwL
  rw [if_pos h']
  rfl
 ·have h' : (y.narrow c d s r n).1 = true := h
  show nwL y c d s r n p1 = _
  unfold nwL
  rw [if_pos h']
  rfl
theorem zNl {y : Way} {c n : Int} {d s : Nat} {r : Bool} {p0 p1 q : Nat} (hq : q < 2) (h : (y.narrow (cd (oppV c) c q) d s r n).1 = false) : z5y y c d s r n p0 p1 q = z5y y c d s r n p0 p1 (q + 1) := by
 rcases (show q = 0 ∨ q = 1 by omega) with rfl | rfl
 ·have h' : (y.narrow (oppV c) d s r n).1 = false := h
  show nwL y (oppV c) d s r n p0 ++ nwL y c d s r n p1 = nwL y c d s r n p1
  unfold nwL
  rw [if_neg (by rw [h']; decide)]
  rfl
 ·have h' : (y.narrow c d s r n).1 = false := h
  show nwL y c d s r n p1 = []
  unfold nwL
  rw [if_neg (by rw [h']; decide)]
theorem opp_in {c : Int} (h : 15 ≤ c ∧ c ≤ 24) : 15 ≤ oppV c ∧ oppV c ≤ 24 := by
 rcases (show c = 15 ∨ c = 16 ∨ c = 17 ∨ c = 18 ∨ c = 19 ∨ c = 20 ∨ c = 21 ∨ c = 22 ∨ c = 23 ∨ c = 24 by omega) with e | e | e | e | e | e | e | e | e | e <;> (rw [e]; exact ⟨by decide, by decide⟩)
theorem zFx {y : Way} {d : Nat} {a b : Int} (hd : d < 11) (hk : (y.reg d).k = 1) : y.putAll d ⟨(y.all d).k, a, b⟩ = y.putReg d (z15 a b) := by
 rw [z25 hd, z22 hd, hk]; rfl
theorem zL1 {y : Way} {d s : Nat} {a b u v : Int} (hd : d < 11) (hs : s < 11) (hne : s ≠ d) (hk : (y.reg d).k = 1) (hk2 : (y.reg s).k = 1) : (y.putAll d ⟨(y.all d).k, a, b⟩).putAll s ⟨((y.putAll d ⟨(y.all d).k, a, b⟩).all s).k, u, v⟩ = (y.putReg d (z15 a b)).putReg s (z15 u v) := by
 rw [zFx hd hk, z25 hs, z22 hs]
 have e : ((y.putReg d (z15 a b)).reg s).k = 1 := by
  show (if s = d then z15 a b else y.reg s).k = 1
  rw [if_neg hne, hk2]
 rw [e]; rfl
theorem zQ2 {C D S : Nat → Int} {R : Nat → Bool} {O N : Nat → Int} {bk off len cap Bl base f : Nat} (hlen : len ≤ 200) (hr : ∀ i, i < len → z9q (C i) (D i) (S i) (R i) (O i) (N i) len i) (hf : ∀ i, i < len → In64 (O i) ∧ In64 (N i)) (GL : ∀ f', f' ≤ f → z67 C D S R O N bk off len cap Bl base f') : zR0 C D S R O N bk off len cap Bl base f := by
 intro W E es y pc hD hL hy hpc q1 q2
 have rt := hr pc hpc
 obtain ⟨iO, iN⟩ := hf pc hpc
 have d0 := rt.d1
 have s0 := rt.s1
 have hd : (D pc).toNat < 11 := by have := rt.d2; omega
 have hs : (S pc).toNat < 11 := by have := rt.s2; omega
 have HST : (W.cell? ⟨bk, off + pc * 6, none⟩ = some (vI vK (C pc)) ∧ W.cell? ⟨bk, off + pc * 6 + 1, none⟩ = some (vI vK ((D pc).toNat : Int)) ∧ W.cell? ⟨bk, off + pc * 6 + 2, none⟩ = some (vI vK ((S pc).toNat : Int)) ∧ W.cell? ⟨bk, off + pc * 6 + 3, none⟩ = some (.bool (R pc)) ∧ W.cell? ⟨bk, off + pc * 6 + 4, none⟩ = some (vI vK (O pc)) ∧ W.cell? ⟨bk, off + pc * 6 + 5, none⟩ = some (vI vK (N pc))) ∧ bk < W.heap.size := by
  rw [Int.toNat_of_nonneg d0, Int.toNat_of_nonneg s0]
  exact ⟨hD.st pc hpc, Nat.lt_of_lt_of_le hD.low hD.room⟩
 have kd := hy.reg _ hd
 have ks := hy.reg _ hs
 have k2 : (y.second (S pc).toNat (R pc) (N pc)).Ok := z2u hy hs iN
 have c28 : C pc ≠ 28 := by omega
 have hnx : pc + 1 < len := by have := rt.last c28; omega
 obtain ⟨o0, o1⟩ := rt.lead (Or.inr ⟨q1, q2⟩)
 have hoo : pc + 1 + (O pc).toNat < len := by omega
 have e3 : wrap64 ((pc : Int) + 1 + O pc) = ((pc + 1 + (O pc).toNat : Nat) : Int) := by rw [z0e (by omega) (by omega)]; omega
 have hlk : y.look (C pc) (D pc).toNat (S pc).toNat (R pc) (O pc) (N pc) = y.ask (C pc) (D pc).toNat (S pc).toNat (R pc) (O pc) (N pc) := by
  unfold Way.look
  rw [if_pos ⟨q1, q2⟩]
 have hlt := hL.blt
 by_cases u0 : (y.reg (D pc).toNat).k = 0
 ·have hk : y.look (C pc) (D pc).toNat (S pc).toNat (R pc) (O pc) (N pc) = ([], 8) := hlk.trans (by unfold Way.ask; rw [if_pos (Or.inl u0)])
  exact (zTu _ _ _ _ _ _ _ _ _ y pc (C pc) (O pc) (N pc) _ _ (R pc) _ _ _ W hL HST hpc hlen hd hs (zIa kd u0).2.1).mono fun e w' h => z7m hk (by decide) h
 have z1 : (kD (y.reg (D pc).toNat).k == 0) = false := by rw [kD_0 kd.1 kd.2.1]; simpa using u0
 by_cases v0 : (y.second (S pc).toNat (R pc) (N pc)).k = 0
 ·have hk : y.look (C pc) (D pc).toNat (S pc).toNat (R pc) (O pc) (N pc) = ([], 8) := hlk.trans (by unfold Way.ask; rw [if_pos (Or.inr v0)])
  exact (zTt _ _ _ _ _ _ _ _ _ y pc (C pc) (O pc) (N pc) _ _ (R pc) _ _ _ W hL HST hpc hlen hd hs z1 (zIa k2 v0).2.1).mono fun e w' h => z7m hk (by decide) h
 have z2 : (kD (y.second (S pc).toNat (R pc) (N pc)).k == 0) = false := by rw [kD_0 k2.1 k2.2.1]; simpa using v0
 by_cases nn : (y.reg (D pc).toNat).k = 1 ∧ (y.second (S pc).toNat (R pc) (N pc)).k = 1
 ·rw [zFp nn] at hlk
  have z3 := (zFa kd nn.1).1
  have z4 := (zFa k2 nn.2).1
  have HV0 : ∀ w, Below W.heap.size W w → W.heap.size + 1 + 1 < w.heap.size → Left C D S R O N (.slice (some ⟨bk, off, none⟩) len cap) bk off len Bl base W f pc y es (z5y y (C pc) (D pc).toNat (S pc).toNat (R pc) (N pc) (pc + 1) (pc + 1 + (O pc).toNat) 0) E w := fun w hb hz => by
   refine ⟨f, es, Nat.le_refl _, hL.later hb, hD.later hb, hL.not_row (by omega), hz, fun st => ?_⟩
   rw [goF, hlk, if_neg (by simp), if_neg c28]
   dsimp only
   congr 1
   congr 1
   unfold Way.askNumbers
   show _ = nwL _ _ _ _ _ _ _ ++ nwL _ _ _ _ _ _ _
   unfold nwL
   rw [List.map_append]
   congr 1
   ·by_cases g : (y.narrow (oppV (C pc)) (D pc).toNat (S pc).toNat (R pc) (N pc)).1 = true
    ·rw [if_pos g, if_pos g]; rfl
    ·rw [if_neg g, if_neg g]; rfl
   ·by_cases g : (y.narrow (C pc) (D pc).toNat (S pc).toNat (R pc) (N pc)).1 = true
    ·rw [if_pos g, if_pos g]; rfl
    ·rw [if_neg g, if_neg g]; rfl
  have HVL : ∀ (q : Nat) (Eq : Value) (w w' : World), Left C D S R O N (.slice (some ⟨bk, off, none⟩) len cap) bk off len Bl base W f pc y es (z5y y (C pc) (D pc).toNat (S pc).toNat (R pc) (N pc) (pc + 1) (pc + 1 + (O pc).toNat) q) Eq w → Below w.heap.size w w' → Left C D S R O N (.slice (some ⟨bk, off, none⟩) len cap) bk off len Bl base W f pc y es (z5y y (C pc) (D pc).toNat (S pc).toNat (R pc) (N pc) (pc + 1) (pc + 1 + (O pc).toNat) q) Eq w' := fun q Eq w w' h hb => h.later hb
  have HVN : ∀ (q : Nat) (Eq : Value) (w w' : World), q < 2 → (narV (cd (oppV (C pc)) (C pc) q) (y.reg (D pc).toNat).l (y.reg (D pc).toNat).h (y.second (S pc).toNat (R pc) (N pc)).l (y.second (S pc).toNat (R pc) (N pc)).h).2.2 = false → Left C D S R O N (.slice (some ⟨bk, off, none⟩) len cap) bk off len Bl base W f pc y es (z5y y (C pc) (D pc).toNat (S pc).toNat (R pc) (N pc) (pc + 1) (pc + 1 + (O pc).toNat) q) Eq w → Below w.heap.size w w' → Left C D S R O N (.slice (some ⟨bk, off, none⟩) len cap) bk off len Bl base W f pc y es (z5y y (C pc) (D pc).toNat (S pc).toNat (R pc) (N pc) (pc + 1) (pc + 1 + (O pc).toNat) (q + 1)) Eq w' := fun q Eq w w' hq hn h hb => by
   rw [zNl hq (by rw [z5o]; exact hn)] at h
   exact h.later hb
  have HOP := fun w : World => zRg (C pc) ⟨q1, q2⟩ w
  have HNR := fun (cq : Int) (w : World) => zHj cq (y.reg (D pc).toNat).l (y.reg (D pc).toNat).h (y.second (S pc).toNat (R pc) (N pc)).l (y.second (S pc).toNat (R pc) (N pc)).h kd.2.2.1.1 kd.2.2.1.2 kd.2.2.2.1.1 kd.2.2.2.1.2 k2.2.2.1.1 k2.2.2.1.2 k2.2.2.2.1.1 k2.2.2.2.1.2 kd.2.2.2.2 k2.2.2.2.2 w
  have HPC : ∀ q : Nat, q < 2 → ∃ mq : Int, wrap64 ((q : Int) * O pc) = mq ∧ wrap64 ((pc : Int) + 1 + mq) = ((if q = 0 then pc + 1 else pc + 1 + (O pc).toNat : Nat) : Int) := fun q hq => by
   rcases (show q = 0 ∨ q = 1 by omega) with rfl | rfl
   ·exact ⟨0, by simp [wrap64], by rw [z0e (by omega) (by omega), if_pos rfl]; omega⟩
   ·refine ⟨O pc, ?_, ?_⟩
    ·rw [show ((1 : Nat) : Int) * O pc = O pc by simp, z0e iO.1 iO.2]
    ·rw [if_neg (by decide)]; exact e3
  have HC : ∀ q, q < 2 → 15 ≤ cd (oppV (C pc)) (C pc) q ∧ cd (oppV (C pc)) (C pc) q ≤ 24 := fun q hq => by
   unfold cd
   split
   ·exact opp_in ⟨q1, q2⟩
   ·exact ⟨q1, q2⟩
  have HPL : ∀ q, q < 2 → (if q = 0 then pc + 1 else pc + 1 + (O pc).toNat) < len := fun q hq => by split <;> omega
  have fin : ∀ {e : Ending} {w' : World}, (∃ er i, e = .returned (.agg #[vI vK er, vI vK i]) ∧ Kp Bl E W w' ∧ (((er != 0) = true ∧ ∃ j : Nat, i = (j : Int) ∧ ∀ st, goF C D S R O N (f + 1) ((pc, y) :: st) es = .inl (er, j)) ∨ (er = 0 ∧ ∃ Eq, z0x W E Eq ∧ ∃ w1, Left C D S R O N (.slice (some ⟨bk, off, none⟩) len cap) bk off len Bl base W f pc y es (z5y y (C pc) (D pc).toNat (S pc).toNat (R pc) (N pc) (pc + 1) (pc + 1 + (O pc).toNat) 2) Eq w1 ∧ z24 (W.heap.size + 1 + 1) w1 w'))) →
    ∃ v, e = .returned v ∧ ∃ er i, v = .agg #[vI vK er, vI vK i] ∧ Kp Bl E W w' ∧ GoP C D S R O N (.slice (some ⟨bk, off, none⟩) len cap) Bl base W (f + 1) pc y E es er i w' := fun {e w'} h => by
   obtain ⟨er, i, g1, g2, g3⟩ := h
   refine ⟨_, g1, er, i, rfl, g2, ?_⟩
   rcases g3 with g3 | ⟨rfl, Eq, g4, w1, g5, g6⟩
   ·exact Or.inl g3
   ·exact Left.end g5 hlt g4 g6
  by_cases hR : R pc = true
  ·have hse : (y.second (S pc).toNat (R pc) (N pc)) = y.reg (S pc).toNat := by unfold Way.second; rw [hR, if_pos rfl]
   by_cases hsd : (S pc).toNat = (D pc).toNat
   ·have hsel : ∀ q, q < 2 → (narV (cd (oppV (C pc)) (C pc) q) (y.reg (D pc).toNat).l (y.reg (D pc).toNat).h (y.second (S pc).toNat (R pc) (N pc)).l (y.second (S pc).toNat (R pc) (N pc)).h).2.2 = true → (y.narrow (cd (oppV (C pc)) (C pc) q) (D pc).toNat (S pc).toNat (R pc) (N pc)).2 = y := fun q hq hn => by
     unfold Way.narrow
     rw [if_neg (by rw [hn]; decide), if_pos ⟨hR, hsd⟩]
    have HG : ∀ (q : Nat) (Eq : Value) (w wX : World), q < 2 → (narV (cd (oppV (C pc)) (C pc) q) (y.reg (D pc).toNat).l (y.reg (D pc).toNat).h (y.second (S pc).toNat (R pc) (N pc)).l (y.second (S pc).toNat (R pc) (N pc)).h).2.2 = true → Left C D S R O N (.slice (some ⟨bk, off, none⟩) len cap) bk off len Bl base W f pc y es (z5y y (C pc) (D pc).toNat (S pc).toNat (R pc) (N pc) (pc + 1) (pc + 1 + (O pc).toNat) q) Eq w → Below w.heap.size w wX → _ := fun q Eq w wX hq hn h hb => by
     rw [zE6 hq (by rw [z5o]; exact hn), hsel q hq hn] at h
     exact h.go GL hy (HPL q hq) _ rfl hb
    exact (zTr _ _ _ _ _ _ _ _ _ y pc (C pc) (O pc) (N pc) _ _ (R pc) _ _ _ W hL HST hpc hlen hd hs z1 z2 z3 z4 hR (by rw [hsd]; simp) (oppV (C pc)) HOP _ _ _ _ _ HNR (fun q Eq w => Left C D S R O N (.slice (some ⟨bk, off, none⟩) len cap) bk off len Bl base W f pc y es (z5y y (C pc) (D pc).toNat (S pc).toNat (R pc) (N pc) (pc + 1) (pc + 1 + (O pc).toNat) q) Eq w) HV0 HVL HVN (fun q => if q = 0 then pc + 1 else pc + 1 + (O pc).toNat) HPC (fun er i => ∃ j : Nat, i = (j : Int) ∧ ∀ st, goF C D S R O N (f + 1) ((pc, y) :: st) es = .inl (er, j)) HG).mono fun e w' h => fin h
   ·have ns : (y.reg (S pc).toNat).k = 1 := by rw [← hse]; exact nn.2
    have hsel : ∀ q, q < 2 → (narV (cd (oppV (C pc)) (C pc) q) (y.reg (D pc).toNat).l (y.reg (D pc).toNat).h (y.second (S pc).toNat (R pc) (N pc)).l (y.second (S pc).toNat (R pc) (N pc)).h).2.2 = true → (y.narrow (cd (oppV (C pc)) (C pc) q) (D pc).toNat (S pc).toNat (R pc) (N pc)).2 = (y.putAll (D pc).toNat ⟨(y.all (D pc).toNat).k, (narV (cd (oppV (C pc)) (C pc) q) (y.reg (D pc).toNat).l (y.reg (D pc).toNat).h (y.second (S pc).toNat (R pc) (N pc)).l (y.second (S pc).toNat (R pc) (N pc)).h).1.1, (narV (cd (oppV (C pc)) (C pc) q) (y.reg (D pc).toNat).l (y.reg (D pc).toNat).h (y.second (S pc).toNat (R pc) (N pc)).l (y.second (S pc).toNat (R pc) (N pc)).h).1.2⟩).putAll (S pc).toNat ⟨((y.putAll (D pc).toNat ⟨(y.all (D pc).toNat).k, (narV (cd (oppV (C pc)) (C pc) q) (y.reg (D pc).toNat).l (y.reg (D pc).toNat).h (y.second (S pc).toNat (R pc) (N pc)).l (y.second (S pc).toNat (R pc) (N pc)).h).1.1, (narV (cd (oppV (C pc)) (C pc) q) (y.reg (D pc).toNat).l (y.reg (D pc).toNat).h (y.second (S pc).toNat (R pc) (N pc)).l (y.second (S pc).toNat (R pc) (N pc)).h).1.2⟩).all (S pc).toNat).k, (narV (cd (oppV (C pc)) (C pc) q) (y.reg (D pc).toNat).l (y.reg (D pc).toNat).h (y.second (S pc).toNat (R pc) (N pc)).l (y.second (S pc).toNat (R pc) (N pc)).h).2.1.1, (narV (cd (oppV (C pc)) (C pc) q) (y.reg (D pc).toNat).l (y.reg (D pc).toNat).h (y.second (S pc).toNat (R pc) (N pc)).l (y.second (S pc).toNat (R pc) (N pc)).h).2.1.2⟩ := fun q hq hn => by
     rw [zL1 hd hs hsd nn.1 ns]
     unfold Way.narrow
     rw [if_neg (by rw [hn]; decide), if_neg (fun z => hsd z.2), if_pos hR]
    have HG : ∀ (q : Nat) (Eq : Value) (w wX : World), q < 2 → (narV (cd (oppV (C pc)) (C pc) q) (y.reg (D pc).toNat).l (y.reg (D pc).toNat).h (y.second (S pc).toNat (R pc) (N pc)).l (y.second (S pc).toNat (R pc) (N pc)).h).2.2 = true → Left C D S R O N (.slice (some ⟨bk, off, none⟩) len cap) bk off len Bl base W f pc y es (z5y y (C pc) (D pc).toNat (S pc).toNat (R pc) (N pc) (pc + 1) (pc + 1 + (O pc).toNat) q) Eq w → Below w.heap.size w wX → _ := fun q Eq w wX hq hn h hb => by
     rw [zE6 hq (by rw [z5o]; exact hn), hsel q hq hn] at h
     exact h.go GL (by rw [← hsel q hq hn]; exact z6q hy (HC q hq) hd hs iN) (HPL q hq) _ rfl hb
    exact (zTq _ _ _ _ _ _ _ _ _ y pc (C pc) (O pc) (N pc) _ _ (R pc) _ _ _ W hL HST hpc hlen hd hs z1 z2 z3 z4 hR (by simp; omega) (oppV (C pc)) HOP _ _ _ _ _ HNR (fun q Eq w => Left C D S R O N (.slice (some ⟨bk, off, none⟩) len cap) bk off len Bl base W f pc y es (z5y y (C pc) (D pc).toNat (S pc).toNat (R pc) (N pc) (pc + 1) (pc + 1 + (O pc).toNat) q) Eq w) HV0 HVL HVN (fun q => if q = 0 then pc + 1 else pc + 1 + (O pc).toNat) HPC (fun er i => ∃ j : Nat, i = (j : Int) ∧ ∀ st, goF C D S R O N (f + 1) ((pc, y) :: st) es = .inl (er, j)) HG).mono fun e w' h => fin h
  ·have hRf : R pc = false := by simpa using hR
   have hsel : ∀ q, q < 2 → (narV (cd (oppV (C pc)) (C pc) q) (y.reg (D pc).toNat).l (y.reg (D pc).toNat).h (y.second (S pc).toNat (R pc) (N pc)).l (y.second (S pc).toNat (R pc) (N pc)).h).2.2 = true → (y.narrow (cd (oppV (C pc)) (C pc) q) (D pc).toNat (S pc).toNat (R pc) (N pc)).2 = y.putAll (D pc).toNat ⟨(y.all (D pc).toNat).k, (narV (cd (oppV (C pc)) (C pc) q) (y.reg (D pc).toNat).l (y.reg (D pc).toNat).h (y.second (S pc).toNat (R pc) (N pc)).l (y.second (S pc).toNat (R pc) (N pc)).h).1.1, (narV (cd (oppV (C pc)) (C pc) q) (y.reg (D pc).toNat).l (y.reg (D pc).toNat).h (y.second (S pc).toNat (R pc) (N pc)).l (y.second (S pc).toNat (R pc) (N pc)).h).1.2⟩ := fun q hq hn => by
    rw [zFx hd nn.1]
    unfold Way.narrow
    rw [if_neg (by rw [hn]; decide), if_neg (by rw [hRf]; simp), if_neg (by rw [hRf]; simp)]
   have HG : ∀ (q : Nat) (Eq : Value) (w wX : World), q < 2 → (narV (cd (oppV (C pc)) (C pc) q) (y.reg (D pc).toNat).l (y.reg (D pc).toNat).h (y.second (S pc).toNat (R pc) (N pc)).l (y.second (S pc).toNat (R pc) (N pc)).h).2.2 = true → Left C D S R O N (.slice (some ⟨bk, off, none⟩) len cap) bk off len Bl base W f pc y es (z5y y (C pc) (D pc).toNat (S pc).toNat (R pc) (N pc) (pc + 1) (pc + 1 + (O pc).toNat) q) Eq w → Below w.heap.size w wX → _ := fun q Eq w wX hq hn h hb => by
    rw [zE6 hq (by rw [z5o]; exact hn), hsel q hq hn] at h
    exact h.go GL (by rw [← hsel q hq hn]; exact z6q hy (HC q hq) hd hs iN) (HPL q hq) _ rfl hb
   exact (zTs _ _ _ _ _ _ _ _ _ y pc (C pc) (O pc) (N pc) _ _ (R pc) _ _ _ W hL HST hpc hlen hd hs z1 z2 z3 z4 hRf (oppV (C pc)) HOP _ _ _ _ _ HNR (fun q Eq w => Left C D S R O N (.slice (some ⟨bk, off, none⟩) len cap) bk off len Bl base W f pc y es (z5y y (C pc) (D pc).toNat (S pc).toNat (R pc) (N pc) (pc + 1) (pc + 1 + (O pc).toNat) q) Eq w) HV0 HVL HVN (fun q => if q = 0 then pc + 1 else pc + 1 + (O pc).toNat) HPC (fun er i => ∃ j : Nat, i = (j : Int) ∧ ∀ st, goF C D S R O N (f + 1) ((pc, y) :: st) es = .inl (er, j)) HG).mono fun e w' h => fin h
 have hlk0 : y.ask (C pc) (D pc).toNat (S pc).toNat (R pc) (O pc) (N pc) = (if (C pc ≠ 15 ∧ C pc ≠ 16) ∨ R pc = true ∨ N pc ≠ 0 then ([], 1) else (y.askPlace (C pc) (D pc).toNat (O pc), 0)) := by
  unfold Way.ask
  rw [if_neg (by omega), if_neg nn]
 rw [hlk0] at hlk
 by_cases hR : R pc = true
 ·rw [if_pos (Or.inr (Or.inl hR))] at hlk
  by_cases u1 : (y.reg (D pc).toNat).k = 1
  ·exact (zTv _ _ _ _ _ _ _ _ _ y pc (C pc) (O pc) (N pc) _ _ (R pc) _ _ _ W hL HST hpc hlen hd hs z1 z2 (zFa kd u1).1 (zF9 k2 v0 (fun z => nn ⟨u1, z⟩)).1 hR).mono fun e w' h => z7m hlk (by decide) h
  ·exact (zTy _ _ _ _ _ _ _ _ _ y pc (C pc) (O pc) (N pc) _ _ (R pc) _ _ _ W hL HST hpc hlen hd hs z1 z2 (zF9 kd u0 u1).1 hR).mono fun e w' h => z7m hlk (by decide) h
 have hR' : R pc = false := by simpa using hR
 have hse : (y.second (S pc).toNat (R pc) (N pc)).k = 1 := by unfold Way.second; rw [hR', if_neg (by decide)]; rfl
 have u1 : (y.reg (D pc).toNat).k ≠ 1 := fun z => nn ⟨z, hse⟩
 have z3 := (zF9 kd u0 u1).1
 by_cases hN : N pc = 0
 ·have z5 : (N pc != 0) = false := by simpa using hN
  by_cases hc : C pc = 15 ∨ C pc = 16
  ·rw [if_neg (fun z => by rcases z with z | z | z; omega; (rw [hR'] at z; cases z); exact z hN)] at hlk
   unfold Way.askPlace at hlk
   by_cases u5 : (y.reg (D pc).toNat).k = 5
   ·have z9 : (kD (y.reg (D pc).toNat).k == 109) = true := by rw [u5]; rfl
    rw [if_neg (fun z => z u5)] at hlk
    have o1 := hy.putReg (D pc).toNat (z8t (n := 0) ⟨by decide, by decide⟩)
    have o2 : (y.putReg (D pc).toNat ⟨4, 0, 0⟩).Ok := hy.putReg (D pc).toNat ⟨by decide, by decide, ⟨by decide, by decide⟩, ⟨by decide, by decide⟩, by decide⟩
    have HG2 : ∀ (p2 : Nat) (p : Int), p2 < len → p = (p2 : Int) → ∀ (E' : Value) (w9 u wX : World), Left C D S R O N (.slice (some ⟨bk, off, none⟩) len cap) bk off len Bl base W f pc y es [(p2, y.putReg (D pc).toNat ⟨4, 0, 0⟩)] E' w9 → Below w9.heap.size w9 u → z24 W.heap.size u wX → z07 u W.heap.size (y.putReg (D pc).toNat ⟨1, 0, 0⟩) → Kp Bl E W wX →
      Calls Tryz.prog 9 #[.pointer (some ⟨Bl, 0, none⟩), .agg (z04 (y.putReg (D pc).toNat ⟨4, 0, 0⟩)), vI vK p] wX fun e w' => ∃ v, e = .returned v ∧ ∃ er i, v = .agg #[vI vK er, vI vK i] ∧ Kp Bl E' wX w' ∧ (((er != 0) = true ∧ ∃ j : Nat, i = (j : Int) ∧ ∀ st, goF C D S R O N (f + 1) ((pc, y) :: st) es = .inl (er, j)) ∨ ((er != 0) = false ∧ ∃ E'', z0x W E' E'' ∧ Left C D S R O N (.slice (some ⟨bk, off, none⟩) len cap) bk off len Bl base W f pc y es [] E'' w')) := fun p2 p hp2 hp E' w9 u wX hl hb ho hm hk => by
     have hu := hl.later hb
     have hx : Left C D S R O N (.slice (some ⟨bk, off, none⟩) len cap) bk off len Bl base W f pc y es [(p2, y.putReg (D pc).toNat ⟨4, 0, 0⟩)] E' wX := by
      obtain ⟨f', es', h1, h2, h3, h4, h5, h6⟩ := hu
      exact ⟨f', es', h1, z5g h2 ho (by omega) (zJr hm (by decide) h2), h3.only ho hD.room, h4, by rw [ho.2.1]; exact h5, h6⟩
     refine (hx.go GL o2 hp2 p hp (bF _ _)).mono fun e w' hh => ?_
     obtain ⟨v, g1, er, i, g2, g3, g4⟩ := hh
     exact ⟨v, g1, er, i, g2, g3, g4.imp id fun ⟨a, E'', b, c⟩ => ⟨a, E'', z7d b hk.size, c⟩⟩
    have fin : ∀ {e : Ending} {w' : World}, (∃ er i, e = .returned (.agg #[vI vK er, vI vK i]) ∧ Kp Bl E W w' ∧ (((er != 0) = true ∧ ∃ j : Nat, i = (j : Int) ∧ ∀ st, goF C D S R O N (f + 1) ((pc, y) :: st) es = .inl (er, j)) ∨ ∃ E', z0x W E E' ∧ ∃ w1, (((er != 0) = true ∧ ∃ j : Nat, i = (j : Int) ∧ ∀ st, goF C D S R O N (f + 1) ((pc, y) :: st) es = .inl (er, j)) ∨ ((er != 0) = false ∧ ∃ E'', z0x W E' E'' ∧ Left C D S R O N (.slice (some ⟨bk, off, none⟩) len cap) bk off len Bl base W f pc y es [] E'' w1)) ∧ z24 (W.heap.size + 1 + 1) w1 w')) →
      ∃ v, e = .returned v ∧ ∃ er i, v = .agg #[vI vK er, vI vK i] ∧ Kp Bl E W w' ∧ GoP C D S R O N (.slice (some ⟨bk, off, none⟩) len cap) Bl base W (f + 1) pc y E es er i w' := fun {e w'} h => by
     obtain ⟨er, i, g1, g2, g3⟩ := h
     refine ⟨_, g1, er, i, rfl, g2, ?_⟩
     rcases g3 with g3 | ⟨E', g4, w1, g5, g6⟩
     ·exact Or.inl g3
     rcases g5 with g5 | ⟨g5, E'', g7, g8⟩
     ·exact Or.inl g5
     ·obtain rfl : er = 0 := by simpa using g5
      exact Left.end g8 hlt (g4.trans g7 (Nat.le_refl _)) g6
    rcases hc with hc | hc
    ·have z6 : (C pc != 15) = false := by rw [hc]; rfl
     have z8 : (C pc == 16) = false := by rw [hc]; rfl
     rw [if_neg (by omega), if_neg (by omega)] at hlk
     refine (zQ1 _ _ _ _ _ _ _ _ _ y pc (C pc) (O pc) (N pc) _ _ (R pc) _ _ _ W hL HST hpc hlen hd hs z1 z2 z3 z9 hR' z5 z6 z8 (pc + 1 + (O pc).toNat) e3 _ _ _ (fun wX hb hz => Left.go (pc' := pc + 1 + (O pc).toNat) (rest := [(pc + 1, y.putReg (D pc).toNat ⟨4, 0, 0⟩)]) ⟨f, es, Nat.le_refl _, hL.later hb, hD.later hb, hL.not_row (by omega), hz, fun st => ?_⟩ GL o1 hoo _ rfl (bF _ _)) (HG2 (pc + 1) _ hnx rfl)).mono fun e w' h => fin h
     rw [goF, hlk, if_neg (by simp), if_neg c28]; rfl
    ·have z6 : (C pc != 15) = true := by rw [hc]; rfl
     have z7 : (C pc != 16) = false := by rw [hc]; rfl
     have z8 : (C pc == 16) = true := by rw [hc]; rfl
     rw [if_pos hc, if_pos hc] at hlk
     refine (zQ0 _ _ _ _ _ _ _ _ _ y pc (C pc) (O pc) (N pc) _ _ (R pc) _ _ _ W hL HST hpc hlen hd hs z1 z2 z3 z9 hR' z5 z6 z7 z8 (pc + 1 + (O pc).toNat) e3 _ _ _ (fun wX hb hz => Left.go (pc' := pc + 1) (rest := [(pc + 1 + (O pc).toNat, y.putReg (D pc).toNat ⟨4, 0, 0⟩)]) ⟨f, es, Nat.le_refl _, hL.later hb, hD.later hb, hL.not_row (by omega), hz, fun st => ?_⟩ GL o1 hnx _ rfl (bF _ _)) (HG2 (pc + 1 + (O pc).toNat) _ hoo rfl)).mono fun e w' h => fin h
     rw [goF, hlk, if_neg (by simp), if_neg c28]; rfl
   ·have z9 : (kD (y.reg (D pc).toNat).k == 109) = false := by rw [kD_m kd.1 kd.2.1]; simpa using u5
    rw [if_pos u5] at hlk
    have nx : ∀ (p2 : Nat) (p : Int), p2 < len → p = (p2 : Int) → ∀ wX : World, Below W.heap.size W wX → W.heap.size + 1 + 1 < wX.heap.size → Calls Tryz.prog 9 #[.pointer (some ⟨Bl, 0, none⟩), .agg (z04 y), vI vK p] wX fun e w' => ∃ v, e = .returned v ∧ ∃ er i, v = .agg #[vI vK er, vI vK i] ∧ Kp Bl E wX w' ∧ ∃ wX : World, W.heap.size + 1 + 1 < wX.heap.size ∧ GoP C D S R O N (.slice (some ⟨bk, off, none⟩) len cap) Bl base wX f p2 y E es er i w' := fun p2 p hp2 hp wX hb hz =>
     ((GL f (Nat.le_refl _)).more hD hL hy hp2 p hp hb).mono fun e w' ⟨v, g1, er, i, g2, g3, g4⟩ => ⟨v, g1, er, i, g2, g3, wX, hz, g4⟩
    rcases hc with hc | hc
    ·have z6 : (C pc != 15) = false := by rw [hc]; rfl
     have z8 : (C pc == 16) = false := by rw [hc]; rfl
     rw [if_neg (by omega)] at hlk
     exact (zPz _ _ _ _ _ _ _ _ _ y pc (C pc) (O pc) (N pc) _ _ (R pc) _ _ _ W hL HST hpc hlen hd hs z1 z2 z3 z9 hR' z5 z6 z8 _ (nx (pc + 1) _ hnx rfl)).mono fun e w' h => zMb hL c28 hlk rfl h
    ·have z6 : (C pc != 15) = true := by rw [hc]; rfl
     have z7 : (C pc != 16) = false := by rw [hc]; rfl
     have z8 : (C pc == 16) = true := by rw [hc]; rfl
     rw [if_pos hc] at hlk
     exact (zPy _ _ _ _ _ _ _ _ _ y pc (C pc) (O pc) (N pc) _ _ (R pc) _ _ _ W hL HST hpc hlen hd hs z1 z2 z3 z9 hR' z5 z6 z7 z8 (pc + 1 + (O pc).toNat) e3 _ (nx (pc + 1 + (O pc).toNat) _ hoo rfl)).mono fun e w' h => zMb hL c28 hlk rfl h
  ·rw [if_pos (Or.inl (by omega))] at hlk
   exact (zTw _ _ _ _ _ _ _ _ _ y pc (C pc) (O pc) (N pc) _ _ (R pc) _ _ _ W hL HST hpc hlen hd hs z1 z2 z3 hR' z5 (by simp; omega) (by simp; omega)).mono fun e w' h => z7m hlk (by decide) h
 ·rw [if_pos (Or.inr (Or.inr hN))] at hlk
  exact (zTx _ _ _ _ _ _ _ _ _ y pc (C pc) (O pc) (N pc) _ _ (R pc) _ _ _ W hL HST hpc hlen hd hs z1 z2 z3 hR' (by simpa using hN)).mono fun e w' h => z7m hlk (by decide) h
theorem zPr {C D S : Nat → Int} {R : Nat → Bool} {O N : Nat → Int} {bk off len cap Bl base : Nat} (hlen : len ≤ 200) (hr : ∀ i, i < len → z9q (C i) (D i) (S i) (R i) (O i) (N i) len i) (hf : ∀ i, i < len → In64 (O i) ∧ In64 (N i)) : ∀ f F, f ≤ F → z67 C D S R O N bk off len cap Bl base f := by
 intro f F
 induction F generalizing f with
 | zero =>
  intro h
  obtain rfl : f = 0 := by omega
  exact zLj
 | succ F ih =>
  intro h
  by_cases e : f = F + 1
  ·subst e
   exact zLl hlen hr hf (ih F (Nat.le_refl _)) (zQ2 hlen hr hf fun f' h' => ih f' h')
  ·exact ih f (by omega)
end Go.Proofs.YteenhdoaminkeaaGreatDoor
