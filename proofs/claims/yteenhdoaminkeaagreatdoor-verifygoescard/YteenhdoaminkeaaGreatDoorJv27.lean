/-
 What the document's both returns, where it goes on by one way at most. Conditions: said.
-/
import Derived.Test.YteenhdoaminkeaaGreatDoorJv25
import Derived.Test.YteenhdoaminkeaaGreatDoorJv26
set_option maxHeartbeats 40000000
open Go.Value renaming int → vI
open Go.IntKind renaming i64 → vK
open Go.RowKit.Below renaming alloc → bA, setCell → bS, drew → bD, refl → bF
set_option maxRecDepth 1000000
set_option linter.defProp false
set_option linter.unusedVariables false
set_option linter.unusedSimpArgs false
namespace Go.Proofs.YteenhdoaminkeaaGreatDoor
open Go.ChangeShapes Go.WideShapes Go.ChangeAt Go.RowKit
set_option linter.unusedVariables false
theorem z7v {W wX w9 : World} {Bl base f k : Nat} {l E : Value} {es : List Kno} {ob : Obj} (h : z1j W Bl base l f E es) (hk : W.heap.size ≤ k) (hkp : Kp Bl E wX w9) (hR : wX.heap[k]? = some ob) : w9.heap[k]? = some ob :=
 (hkp.2 k (Array.getElem?_eq_some_iff.1 hR).1 (by have := h.blt; omega) (fun e => by have := h.row k e.symm; omega)).trans hR
theorem zQn {W wX w9 : World} {Bl k : Nat} {E x y : Value} (hX : Below W.heap.size W wX) (hkp : Kp Bl E wX w9) (hk : W.heap.size ≤ k) : Kp Bl E W ((w9.setCell ⟨k, 0, none⟩ x).setCell ⟨k, 1, none⟩ y) := by
 have hs := hX.size
 refine ⟨(((hX.mono (Nat.zero_le _)).trans hkp.1).setCell (Nat.zero_le _) _).setCell (Nat.zero_le _) _, fun i hi h1 h2 => ?_⟩
 rw [heap_setCell_other _ _ _ _ (by show i ≠ k; omega), heap_setCell_other _ _ _ _ (by show i ≠ k; omega), hkp.2 i (by omega) h1 h2]
 exact hX.block i hi
attribute [local simp] z00 z0y z0o
theorem only3 {w : World} {B a b c : Nat} {x y z : Value} : z24 B w (((w.setCell ⟨B, a, none⟩ x).setCell ⟨B, b, none⟩ y).setCell ⟨B, c, none⟩ z) :=
 ⟨(((bF _ _).setCell (Nat.zero_le _) _).setCell (Nat.zero_le _) _).setCell (Nat.zero_le _) _, by simp, fun _ hk => (heap_setCell_other _ _ _ _ hk).trans ((heap_setCell_other _ _ _ _ hk).trans (heap_setCell_other _ _ _ _ hk))⟩
theorem zQm {W w9 u v : World} {Bl : Nat} {E : Value} (h : Kp Bl E W w9) (hu : Below w9.heap.size w9 u) (ho : z24 W.heap.size u v) : Kp Bl E W v := by
 have hs := h.size
 refine ⟨(h.1.trans (hu.mono (Nat.zero_le _))).trans ho.1, fun k hk h1 h2 => ?_⟩
 rw [ho.2.2 k (by omega), hu.block k (by omega)]
 exact h.2 k hk h1 h2
theorem z4k {W w : World} {Bl k : Nat} {E x y : Value} (h : Kp Bl E W w) (hk : W.heap.size ≤ k) : Kp Bl E W ((w.setCell ⟨k, 0, none⟩ x).setCell ⟨k, 1, none⟩ y) := by
 refine ⟨(h.1.setCell (Nat.zero_le _) _).setCell (Nat.zero_le _) _, fun i hi h1 h2 => ?_⟩
 rw [heap_setCell_other _ _ _ _ (by show i ≠ k; omega), heap_setCell_other _ _ _ _ (by show i ≠ k; omega)]
 exact h.2 i hi h1 h2
theorem zF8 {W w7 wX w9 : World} {Bl base f k : Nat} {l E E' : Value} {es : List Kno} {ob : Obj} (h : z1j W Bl base l f E es) (hro : z0x w7 E E') (hk : W.heap.size ≤ k) (hk7 : k < w7.heap.size) (hkp : Kp Bl E' wX w9) (hR : wX.heap[k]? = some ob) : w9.heap[k]? = some ob := by
 refine (hkp.2 k (Array.getElem?_eq_some_iff.1 hR).1 (by have := h.blt; omega) (fun e => ?_)).trans hR
 rcases hro with hr | ⟨j, hj, hl⟩
 ·have := h.row k (e.trans hr).symm; omega
 ·rw [hj] at e; cases e; omega
theorem zCg {y : Way} {d : Nat} {x z : Kno} : (y.putReg d x).putReg d z = y.putReg d z := by
 simp only [Way.putReg]; congr 1; funext i; split <;> rfl
theorem Blk.mindRow {w0 w : World} {F : List (Nat × Obj)} (h : Blk w0 F w) (y : Way) : Blk w0 ((w.heap.size, .cells (z04 y) 45 (0, 0)) :: F) ((w.alloc (.cells Tryz.zeroCells45 45 (0, 0))).setRow w.heap.size (z04 y)) := by
 have hs := h.1.size
 refine Blk.cons ⟨z08 (h.1.alloc hs _) hs _, fun x hx => ?_⟩ (z07.setRow (heap_alloc_new _ _) y)
 have hx' := h.2 x hx
 have hlt := (Array.getElem?_eq_some_iff.1 hx').1
 exact (setRow_other _ _ _ _ (by omega)).trans ((heap_alloc_old _ _ hlt).trans hx')
theorem zMc {W w8 wX w9 w0 : World} {Bl base f : Nat} {l E E' : Value} {es : List Kno} {F : List (Nat × Obj)} (h : z1j W Bl base l f E es) (hro : z0x w8 E E') (hF : ∀ x ∈ F, W.heap.size ≤ x.1 ∧ x.1 < w8.heap.size) (hkp : Kp Bl E' wX w9) (hB : Blk w0 F wX) : Blk w9 F w9 :=
 ⟨bF _ _, fun x hx => zF8 h hro (hF x hx).1 (hF x hx).2 hkp (hB.2 x hx)⟩
def cd (c' c : Int) (q : Nat) : Int := if q = 0 then c' else c
theorem z2p (bk off len cap Bl base f : Nat) (E : Value) (es : List Kno) (y : Way) (pc : Nat) (c o n : Int) (d s : Nat) (r : Bool) (kb lb hb : Int) (W : World) (HLK : Hid (z1j W Bl base (.slice (some ⟨bk, off, none⟩) len cap) f E es)) (HST : Hid ((W.cell? ⟨bk, off + pc * 6, none⟩ = some (vI vK c) ∧ W.cell? ⟨bk, off + pc * 6 + 1, none⟩ = some (vI vK d) ∧ W.cell? ⟨bk, off + pc * 6 + 2, none⟩ = some (vI vK s) ∧ W.cell? ⟨bk, off + pc * 6 + 3, none⟩ = some (.bool r) ∧ W.cell? ⟨bk, off + pc * 6 + 4, none⟩ = some (vI vK o) ∧ W.cell? ⟨bk, off + pc * 6 + 5, none⟩ = some (vI vK n)) ∧ bk < W.heap.size)) (hpc : pc < len) (hlen : len ≤ 200) (hd : d < 11) (hs : s < 11) : (∀ (z1 : (kD (y.reg d).k == 0) = true), Calls Tryz.prog 19 #[.pointer (some ⟨Bl, 0, none⟩), .agg (z04 y), vI vK pc, .agg #[.int .u8 kb, vI vK lb, vI vK hb]] W fun e w' => e = .returned (.agg #[vI vK 8, vI vK pc]) ∧ Kp Bl E W w') ∧ (∀ (z1 : (kD (y.reg d).k == 0) = false) (z2 : (kb == 0) = true), Calls Tryz.prog 19 #[.pointer (some ⟨Bl, 0, none⟩), .agg (z04 y), vI vK pc, .agg #[.int .u8 kb, vI vK lb, vI vK hb]] W fun e w' => e = .returned (.agg #[vI vK 8, vI vK pc]) ∧ Kp Bl E W w') ∧ (∀ (z1 : (kD (y.reg d).k == 0) = false) (z2 : (kb == 0) = false) (z3 : (kD (y.reg d).k == 110) = true) (z4 : (kb == 110) = true) (hr : Hid (r = true)) (z5 : ((s : Int) != (d : Int)) = true) (c' : Int) (HOP : Hid (∀ w : World, Calls Tryz.prog 30 #[vI vK c] w fun e w' => e = .returned (vI vK c') ∧ Below w.heap.size w w')) (xl xh yl yh : Int → Int) (ok : Int → Bool) (HNR : Hid (∀ (cq : Int) (w : World), Calls Tryz.prog 31 #[vI vK cq, .agg #[vI vK (y.reg d).l, vI vK (y.reg d).h], .agg #[vI vK lb, vI vK hb]] w fun e w' => e = .returned (.tuple #[.agg #[vI vK (xl cq), vI vK (xh cq)], .agg #[vI vK (yl cq), vI vK (yh cq)], .bool (ok cq)]) ∧ Below w.heap.size w w')) (V : Nat → Value → World → Prop) (HV0 : Hid (∀ w, Below W.heap.size W w → W.heap.size + 1 + 1 < w.heap.size → V 0 E w)) (HVL : Hid (∀ q Eq w w', V q Eq w → Below w.heap.size w w' → V q Eq w')) (HVN : Hid (∀ q Eq w w', q < 2 → ok (cd c' c q) = false → V q Eq w → Below w.heap.size w w' → V (q + 1) Eq w')) (pq : Nat → Nat) (HPC : Hid (∀ q : Nat, q < 2 → ∃ mq : Int, wrap64 ((q : Int) * o) = mq ∧ wrap64 ((pc : Int) + 1 + mq) = (pq q : Int))) (T : Int → Int → Prop) (HG : Hid (∀ q Eq w wX, q < 2 → ok (cd c' c q) = true → V q Eq w → Below w.heap.size w wX → Calls Tryz.prog 9 #[.pointer (some ⟨Bl, 0, none⟩), .agg (z04 ((y.putAll d ⟨(y.all d).k, xl (cd c' c q), xh (cd c' c q)⟩).putAll s ⟨((y.putAll d ⟨(y.all d).k, xl (cd c' c q), xh (cd c' c q)⟩).all s).k, yl (cd c' c q), yh (cd c' c q)⟩)), vI vK (pq q)] wX fun e w' => ∃ v, e = .returned v ∧ ∃ er i, v = .agg #[vI vK er, vI vK i] ∧ Kp Bl Eq wX w' ∧ (((er != 0) = true ∧ T er i) ∨ ((er != 0) = false ∧ ∃ E', z0x wX Eq E' ∧ V (q + 1) E' w')))), Calls Tryz.prog 19 #[.pointer (some ⟨Bl, 0, none⟩), .agg (z04 y), vI vK pc, .agg #[.int .u8 kb, vI vK lb, vI vK hb]] W fun e w' => ∃ er i, e = .returned (.agg #[vI vK er, vI vK i]) ∧ Kp Bl E W w' ∧ (((er != 0) = true ∧ T er i) ∨ (er = 0 ∧ ∃ Eq, z0x W E Eq ∧ ∃ w1, V 2 Eq w1 ∧ z24 (W.heap.size + 1 + 1) w1 w'))) ∧ (∀ (z1 : (kD (y.reg d).k == 0) = false) (z2 : (kb == 0) = false) (z3 : (kD (y.reg d).k == 110) = true) (z4 : (kb == 110) = true) (hr : Hid (r = true)) (z5 : ((s : Int) != (d : Int)) = false) (c' : Int) (HOP : Hid (∀ w : World, Calls Tryz.prog 30 #[vI vK c] w fun e w' => e = .returned (vI vK c') ∧ Below w.heap.size w w')) (xl xh yl yh : Int → Int) (ok : Int → Bool) (HNR : Hid (∀ (cq : Int) (w : World), Calls Tryz.prog 31 #[vI vK cq, .agg #[vI vK (y.reg d).l, vI vK (y.reg d).h], .agg #[vI vK lb, vI vK hb]] w fun e w' => e = .returned (.tuple #[.agg #[vI vK (xl cq), vI vK (xh cq)], .agg #[vI vK (yl cq), vI vK (yh cq)], .bool (ok cq)]) ∧ Below w.heap.size w w')) (V : Nat → Value → World → Prop) (HV0 : Hid (∀ w, Below W.heap.size W w → W.heap.size + 1 + 1 < w.heap.size → V 0 E w)) (HVL : Hid (∀ q Eq w w', V q Eq w → Below w.heap.size w w' → V q Eq w')) (HVN : Hid (∀ q Eq w w', q < 2 → ok (cd c' c q) = false → V q Eq w → Below w.heap.size w w' → V (q + 1) Eq w')) (pq : Nat → Nat) (HPC : Hid (∀ q : Nat, q < 2 → ∃ mq : Int, wrap64 ((q : Int) * o) = mq ∧ wrap64 ((pc : Int) + 1 + mq) = (pq q : Int))) (T : Int → Int → Prop) (HG : Hid (∀ q Eq w wX, q < 2 → ok (cd c' c q) = true → V q Eq w → Below w.heap.size w wX → Calls Tryz.prog 9 #[.pointer (some ⟨Bl, 0, none⟩), .agg (z04 y), vI vK (pq q)] wX fun e w' => ∃ v, e = .returned v ∧ ∃ er i, v = .agg #[vI vK er, vI vK i] ∧ Kp Bl Eq wX w' ∧ (((er != 0) = true ∧ T er i) ∨ ((er != 0) = false ∧ ∃ E', z0x wX Eq E' ∧ V (q + 1) E' w')))), Calls Tryz.prog 19 #[.pointer (some ⟨Bl, 0, none⟩), .agg (z04 y), vI vK pc, .agg #[.int .u8 kb, vI vK lb, vI vK hb]] W fun e w' => ∃ er i, e = .returned (.agg #[vI vK er, vI vK i]) ∧ Kp Bl E W w' ∧ (((er != 0) = true ∧ T er i) ∨ (er = 0 ∧ ∃ Eq, z0x W E Eq ∧ ∃ w1, V 2 Eq w1 ∧ z24 (W.heap.size + 1 + 1) w1 w'))) ∧ (∀ (z1 : (kD (y.reg d).k == 0) = false) (z2 : (kb == 0) = false) (z3 : (kD (y.reg d).k == 110) = true) (z4 : (kb == 110) = true) (hr : Hid (r = false)) (c' : Int) (HOP : Hid (∀ w : World, Calls Tryz.prog 30 #[vI vK c] w fun e w' => e = .returned (vI vK c') ∧ Below w.heap.size w w')) (xl xh yl yh : Int → Int) (ok : Int → Bool) (HNR : Hid (∀ (cq : Int) (w : World), Calls Tryz.prog 31 #[vI vK cq, .agg #[vI vK (y.reg d).l, vI vK (y.reg d).h], .agg #[vI vK lb, vI vK hb]] w fun e w' => e = .returned (.tuple #[.agg #[vI vK (xl cq), vI vK (xh cq)], .agg #[vI vK (yl cq), vI vK (yh cq)], .bool (ok cq)]) ∧ Below w.heap.size w w')) (V : Nat → Value → World → Prop) (HV0 : Hid (∀ w, Below W.heap.size W w → W.heap.size + 1 + 1 < w.heap.size → V 0 E w)) (HVL : Hid (∀ q Eq w w', V q Eq w → Below w.heap.size w w' → V q Eq w')) (HVN : Hid (∀ q Eq w w', q < 2 → ok (cd c' c q) = false → V q Eq w → Below w.heap.size w w' → V (q + 1) Eq w')) (pq : Nat → Nat) (HPC : Hid (∀ q : Nat, q < 2 → ∃ mq : Int, wrap64 ((q : Int) * o) = mq ∧ wrap64 ((pc : Int) + 1 + mq) = (pq q : Int))) (T : Int → Int → Prop) (HG : Hid (∀ q Eq w wX, q < 2 → ok (cd c' c q) = true → V q Eq w → Below w.heap.size w wX → Calls Tryz.prog 9 #[.pointer (some ⟨Bl, 0, none⟩), .agg (z04 (y.putAll d ⟨(y.all d).k, xl (cd c' c q), xh (cd c' c q)⟩)), vI vK (pq q)] wX fun e w' => ∃ v, e = .returned v ∧ ∃ er i, v = .agg #[vI vK er, vI vK i] ∧ Kp Bl Eq wX w' ∧ (((er != 0) = true ∧ T er i) ∨ ((er != 0) = false ∧ ∃ E', z0x wX Eq E' ∧ V (q + 1) E' w')))), Calls Tryz.prog 19 #[.pointer (some ⟨Bl, 0, none⟩), .agg (z04 y), vI vK pc, .agg #[.int .u8 kb, vI vK lb, vI vK hb]] W fun e w' => ∃ er i, e = .returned (.agg #[vI vK er, vI vK i]) ∧ Kp Bl E W w' ∧ (((er != 0) = true ∧ T er i) ∨ (er = 0 ∧ ∃ Eq, z0x W E Eq ∧ ∃ w1, V 2 Eq w1 ∧ z24 (W.heap.size + 1 + 1) w1 w'))) ∧ (∀ (z1 : (kD (y.reg d).k == 0) = false) (z2 : (kb == 0) = false) (z3 : (kD (y.reg d).k == 110) = false) (z9 : (kD (y.reg d).k == 109) = true) (hr : Hid (r = false)) (z5 : (n != 0) = false) (z6 : (c != 15) = true) (z7 : (c != 16) = false) (z8 : (c == 16) = true) (pc' : Nat) (e3 : wrap64 ((pc : Int) + 1 + o) = (pc' : Int)) (T : Int → Int → Prop) (U : Value → World → Prop) (T2 : Value → Int → Int → World → Prop) (HG1 : Hid (∀ wX : World, Below W.heap.size W wX → W.heap.size + 1 + 1 < wX.heap.size → Calls Tryz.prog 9 #[.pointer (some ⟨Bl, 0, none⟩), .agg (z04 (y.putReg d ⟨1, 0, 0⟩)), vI vK ((pc : Int) + 1)] wX fun e w' => ∃ v, e = .returned v ∧ ∃ er i, v = .agg #[vI vK er, vI vK i] ∧ Kp Bl E wX w' ∧ (((er != 0) = true ∧ T er i) ∨ ((er != 0) = false ∧ ∃ E', z0x wX E E' ∧ U E' w')))) (HG2 : Hid (∀ (E' : Value) (w9 u wX : World), U E' w9 → Below w9.heap.size w9 u → z24 W.heap.size u wX → z07 u W.heap.size (y.putReg d ⟨1, 0, 0⟩) → Kp Bl E W wX → Calls Tryz.prog 9 #[.pointer (some ⟨Bl, 0, none⟩), .agg (z04 (y.putReg d ⟨4, 0, 0⟩)), vI vK (pc' : Int)] wX fun e w' => ∃ v, e = .returned v ∧ ∃ er i, v = .agg #[vI vK er, vI vK i] ∧ Kp Bl E' wX w' ∧ T2 E' er i w')), Calls Tryz.prog 19 #[.pointer (some ⟨Bl, 0, none⟩), .agg (z04 y), vI vK pc, .agg #[.int .u8 kb, vI vK lb, vI vK hb]] W fun e w' => ∃ er i, e = .returned (.agg #[vI vK er, vI vK i]) ∧ Kp Bl E W w' ∧ (((er != 0) = true ∧ T er i) ∨ ∃ E', z0x W E E' ∧ ∃ w1, T2 E' er i w1 ∧ z24 (W.heap.size + 1 + 1) w1 w')) ∧ (∀ (z1 : (kD (y.reg d).k == 0) = false) (z2 : (kb == 0) = false) (z3 : (kD (y.reg d).k == 110) = false) (z9 : (kD (y.reg d).k == 109) = true) (hr : Hid (r = false)) (z5 : (n != 0) = false) (z6 : (c != 15) = false) (z8 : (c == 16) = false) (pc' : Nat) (e3 : wrap64 ((pc : Int) + 1 + o) = (pc' : Int)) (T : Int → Int → Prop) (U : Value → World → Prop) (T2 : Value → Int → Int → World → Prop) (HG1 : Hid (∀ wX : World, Below W.heap.size W wX → W.heap.size + 1 + 1 < wX.heap.size → Calls Tryz.prog 9 #[.pointer (some ⟨Bl, 0, none⟩), .agg (z04 (y.putReg d ⟨1, 0, 0⟩)), vI vK (pc' : Int)] wX fun e w' => ∃ v, e = .returned v ∧ ∃ er i, v = .agg #[vI vK er, vI vK i] ∧ Kp Bl E wX w' ∧ (((er != 0) = true ∧ T er i) ∨ ((er != 0) = false ∧ ∃ E', z0x wX E E' ∧ U E' w')))) (HG2 : Hid (∀ (E' : Value) (w9 u wX : World), U E' w9 → Below w9.heap.size w9 u → z24 W.heap.size u wX → z07 u W.heap.size (y.putReg d ⟨1, 0, 0⟩) → Kp Bl E W wX → Calls Tryz.prog 9 #[.pointer (some ⟨Bl, 0, none⟩), .agg (z04 (y.putReg d ⟨4, 0, 0⟩)), vI vK ((pc : Int) + 1)] wX fun e w' => ∃ v, e = .returned v ∧ ∃ er i, v = .agg #[vI vK er, vI vK i] ∧ Kp Bl E' wX w' ∧ T2 E' er i w')), Calls Tryz.prog 19 #[.pointer (some ⟨Bl, 0, none⟩), .agg (z04 y), vI vK pc, .agg #[.int .u8 kb, vI vK lb, vI vK hb]] W fun e w' => ∃ er i, e = .returned (.agg #[vI vK er, vI vK i]) ∧ Kp Bl E W w' ∧ (((er != 0) = true ∧ T er i) ∨ ∃ E', z0x W E E' ∧ ∃ w1, T2 E' er i w1 ∧ z24 (W.heap.size + 1 + 1) w1 w')) ∧ (∀ (z1 : (kD (y.reg d).k == 0) = false) (z2 : (kb == 0) = false) (z3 : (kD (y.reg d).k == 110) = false) (z9 : (kD (y.reg d).k == 109) = false) (hr : Hid (r = false)) (z5 : (n != 0) = false) (z6 : (c != 15) = true) (z7 : (c != 16) = false) (z8 : (c == 16) = true) (pc' : Nat) (e3 : wrap64 ((pc : Int) + 1 + o) = (pc' : Int)) (T : Int → Int → World → Prop) (HGO : Hid (∀ wX : World, Below W.heap.size W wX → W.heap.size + 1 + 1 < wX.heap.size → Calls Tryz.prog 9 #[.pointer (some ⟨Bl, 0, none⟩), .agg (z04 y), vI vK (pc' : Int)] wX fun e w' => ∃ v, e = .returned v ∧ ∃ er i, v = .agg #[vI vK er, vI vK i] ∧ Kp Bl E wX w' ∧ T er i w')), Calls Tryz.prog 19 #[.pointer (some ⟨Bl, 0, none⟩), .agg (z04 y), vI vK pc, .agg #[.int .u8 kb, vI vK lb, vI vK hb]] W fun e w' => ∃ er i, e = .returned (.agg #[vI vK er, vI vK i]) ∧ Kp Bl E W w' ∧ ∃ w1, T er i w1 ∧ z24 (W.heap.size + 1 + 1) w1 w') ∧ (∀ (z1 : (kD (y.reg d).k == 0) = false) (z2 : (kb == 0) = false) (z3 : (kD (y.reg d).k == 110) = false) (z9 : (kD (y.reg d).k == 109) = false) (hr : Hid (r = false)) (z5 : (n != 0) = false) (z6 : (c != 15) = false) (z8 : (c == 16) = false) (T : Int → Int → World → Prop) (HGO : Hid (∀ wX : World, Below W.heap.size W wX → W.heap.size + 1 + 1 < wX.heap.size → Calls Tryz.prog 9 #[.pointer (some ⟨Bl, 0, none⟩), .agg (z04 y), vI vK ((pc : Int) + 1)] wX fun e w' => ∃ v, e = .returned v ∧ ∃ er i, v = .agg #[vI vK er, vI vK i] ∧ Kp Bl E wX w' ∧ T er i w')), Calls Tryz.prog 19 #[.pointer (some ⟨Bl, 0, none⟩), .agg (z04 y), vI vK pc, .agg #[.int .u8 kb, vI vK lb, vI vK hb]] W fun e w' => ∃ er i, e = .returned (.agg #[vI vK er, vI vK i]) ∧ Kp Bl E W w' ∧ ∃ w1, T er i w1 ∧ z24 (W.heap.size + 1 + 1) w1 w') ∧ (∀ (z1 : (kD (y.reg d).k == 0) = false) (z2 : (kb == 0) = false) (z3 : (kD (y.reg d).k == 110) = false) (hr : Hid (r = true)), Calls Tryz.prog 19 #[.pointer (some ⟨Bl, 0, none⟩), .agg (z04 y), vI vK pc, .agg #[.int .u8 kb, vI vK lb, vI vK hb]] W fun e w' => e = .returned (.agg #[vI vK 1, vI vK pc]) ∧ Kp Bl E W w') ∧ (∀ (z1 : (kD (y.reg d).k == 0) = false) (z2 : (kb == 0) = false) (z3 : (kD (y.reg d).k == 110) = false) (hr : Hid (r = false)) (z5 : (n != 0) = true), Calls Tryz.prog 19 #[.pointer (some ⟨Bl, 0, none⟩), .agg (z04 y), vI vK pc, .agg #[.int .u8 kb, vI vK lb, vI vK hb]] W fun e w' => e = .returned (.agg #[vI vK 1, vI vK pc]) ∧ Kp Bl E W w') ∧ (∀ (z1 : (kD (y.reg d).k == 0) = false) (z2 : (kb == 0) = false) (z3 : (kD (y.reg d).k == 110) = false) (hr : Hid (r = false)) (z5 : (n != 0) = false) (z6 : (c != 15) = true) (z7 : (c != 16) = true), Calls Tryz.prog 19 #[.pointer (some ⟨Bl, 0, none⟩), .agg (z04 y), vI vK pc, .agg #[.int .u8 kb, vI vK lb, vI vK hb]] W fun e w' => e = .returned (.agg #[vI vK 1, vI vK pc]) ∧ Kp Bl E W w') ∧ (∀ (z1 : (kD (y.reg d).k == 0) = false) (z2 : (kb == 0) = false) (z3 : (kD (y.reg d).k == 110) = true) (z4 : (kb == 110) = false) (hr : Hid (r = true)), Calls Tryz.prog 19 #[.pointer (some ⟨Bl, 0, none⟩), .agg (z04 y), vI vK pc, .agg #[.int .u8 kb, vI vK lb, vI vK hb]] W fun e w' => e = .returned (.agg #[vI vK 1, vI vK pc]) ∧ Kp Bl E W w') := by
 refine ⟨?_, ?_, ?_, ?_, ?_, ?_, ?_, ?_, ?_, ?_, ?_, ?_, ?_⟩
 intro z1
 have qq1 := trivial
 rotate_left
 intro z1 z2
 have qq1 := trivial
 rotate_left
 intro z1 z2 z3 z4 hr z5 c' HOP xl xh yl yh ok HNR V HV0 HVL HVN pq HPC T HG
 have qq2 := trivial
 rotate_left
 intro z1 z2 z3 z4 hr z5 c' HOP xl xh yl yh ok HNR V HV0 HVL HVN pq HPC T HG
 have qq3 := trivial
 rotate_left
 intro z1 z2 z3 z4 hr c' HOP xl xh yl yh ok HNR V HV0 HVL HVN pq HPC T HG
 have qq4 := trivial
 rotate_left
 intro z1 z2 z3 z9 hr z5 z6 z7 z8 pc' e3 T U T2 HG1 HG2
 have qq5 := trivial
 rotate_left
 intro z1 z2 z3 z9 hr z5 z6 z8 pc' e3 T U T2 HG1 HG2
 have qq6 := trivial
 rotate_left
 intro z1 z2 z3 z9 hr z5 z6 z7 z8 pc' e3 T HGO
 have qq7 := trivial
 rotate_left
 intro z1 z2 z3 z9 hr z5 z6 z8 T HGO
 have qq8 := trivial
 rotate_left
 intro z1 z2 z3 hr
 have qq9 := trivial
 rotate_left
 intro z1 z2 z3 hr z5
 have qq9 := trivial
 rotate_left
 intro z1 z2 z3 hr z5 z6 z7
 have qq9 := trivial
 rotate_left
 intro z1 z2 z3 z4 hr
 have qq9 := trivial
 rotate_left
 all_goals
  as_aux_lemma =>
  have hlk := HLK.out
  have hp0 : (0 : Int) ≤ (pc : Int) := by omega
  have hp1 : (pc : Int) < (len : Int) := by omega
  have e2 : IntKind.i64.wrap ((pc : Int) + 1) = ((pc + 1 : Nat) : Int) := by rw [IntWalk.i64_left, z0e (by omega) (by omega)]; omega
  have hd0 : (0 : Int) ≤ (d : Int) := by omega
  have hd1 : (d : Int) < 27 := by omega
  have hK1 : Blk W [(W.heap.size, .cells (z04 y) 45 (0, 0)), (W.heap.size + 1, .cells #[.int .u8 kb, vI vK lb, vI vK hb] 43 (0, 0)), (W.heap.size + 1 + 1, .cells #[vI vK 0, vI vK 0] 27 (0, 0))] (((W.alloc (.cells (z04 y) 45)).alloc (.cells #[.int .u8 kb, vI vK lb, vI vK hb] 43)).alloc (.cells #[vI vK 0, vI vK 0] 27)) := ((((Blk.nil (((((bF _ _).alloc (Nat.le_refl _) _).alloc (by simp) _).alloc (by simp; omega) _))).cons (z4a W _ _ _)).cons (by rw [Below.heap_alloc _ _ _ (by simp)]; exact heap_alloc2_new _ _ _)).cons (by rw [Below.heap_alloc _ _ _ (by simp; omega), Below.heap_alloc _ _ _ (by simp)]; exact heap_alloc_new _ _))
  go_enter Tryz.func19, Tryz.ntmps19
  go_upto_region 1 with fail
  generalize (((W.alloc (.cells (z04 y) 45)).alloc (.cells #[.int .u8 kb, vI vK lb, vI vK hb] 43)).alloc (.cells #[vI vK 0, vI vK 0] 27)) = w1 at hK1 ⊢
  obtain ⟨⟨g0, g1, g2, g3, g4, g5⟩, gl⟩ := HST.out
  have g0 := (hK1.1.cell (p := ⟨bk, off + pc * 6, none⟩) gl).trans g0
  have g1 := (hK1.1.cell (p := ⟨bk, off + pc * 6 + 1, none⟩) gl).trans g1
  have g2 := (hK1.1.cell (p := ⟨bk, off + pc * 6 + 2, none⟩) gl).trans g2
  have g3 := (hK1.1.cell (p := ⟨bk, off + pc * 6 + 3, none⟩) gl).trans g3
  have g4 := (hK1.1.cell (p := ⟨bk, off + pc * 6 + 4, none⟩) gl).trans g4
  have g5 := (hK1.1.cell (p := ⟨bk, off + pc * 6 + 5, none⟩) gl).trans g5
  have gl := Nat.lt_of_lt_of_le gl hK1.1.size
  obtain ⟨l0, l1, l2, lf0, lf1, lf2, llt⟩ := row3 (hlk.later hK1.1).box
  go_upto_region 2 with fail
  have hb9 : W.heap.size + 1 + 1 < w1.heap.size := hK1.lt (mcO _ (mcO _ mcS))
  have hK2 := hK1.add (.cells #[vI vK c, vI vK d, vI vK s, .bool r, vI vK o, vI vK n] 59)
  generalize (w1.alloc (.cells #[vI vK c, vI vK d, vI vK s, .bool r, vI vK o, vI vK n] 59)) = w2 at hK2 ⊢
  generalize w1.heap.size = B9 at hK2 hb9 ⊢
  clear hK1 g0 g1 g2 g3 g4 g5 gl l0 l1 l2 lf0 lf1 lf2 llt
  obtain ⟨p0, p1, p2, p3, p4, p5, plt⟩ := row6 (hK2.2 _ mcS)
  have yM : z07 _ W.heap.size _ := (hK2.2 _ (mcO _ mcS))
  have ylt := yM.lt
  obtain ⟨m0, m1, m2⟩ := yM.know (d := d) (by omega)
  rw [z22 hd] at m0 m1 m2
  go_upto_region 3 with fail
  have hb10 : B9 < w2.heap.size := hK2.lt mcS
  have hK5 := hK2.add (.cells #[.int .u8 (kD (y.reg d).k), vI vK (y.reg d).l, vI vK (y.reg d).h] 43)
  generalize (w2.alloc (.cells #[.int .u8 (kD (y.reg d).k), vI vK (y.reg d).l, vI vK (y.reg d).h] 43)) = w5 at hK5 ⊢
  generalize w2.heap.size = B10 at hK5 hb10 ⊢
  clear hK2 p0 p1 p2 p3 p4 p5 plt yM ylt m0 m1 m2
  obtain ⟨k0, k1, k2, kf0, kf1, kf2, klt⟩ := row3 (hK5.2 _ mcS); obtain ⟨p0, p1, p2, p3, p4, p5, plt⟩ := row6 (hK5.2 _ (mcO _ mcS)); have yM : z07 _ W.heap.size _ := (hK5.2 _ (mcO _ (mcO _ mcS))); have ylt := yM.lt; obtain ⟨b0, b1, b2, bf0, bf1, bf2, blt⟩ := row3 (hK5.2 _ (mcO _ (mcO _ (mcO _ mcS)))); obtain ⟨r0, r1, rf0, rf1, rlt⟩ := row2 (hK5.2 _ (mcO _ (mcO _ (mcO _ (mcO _ mcS)))))
  first
 |clear qq1
  go_wp2_with fail
  exact bodyPost_ret (v := .agg #[vI vK 8, vI vK pc]) (by simp [results, Tryz.results19, go_sem, *]) rfl ⟨rfl, Kp.of ((hK5.1.setCell (by show W.heap.size ≤ W.heap.size + 1 + 1; omega) _).setCell (by show W.heap.size ≤ W.heap.size + 1 + 1; omega) _)⟩
 |clear qq2
  have hr := hr.out
  subst hr
  go_upto_region 6 with fail
  clear k0 k1 k2 kf0 kf1 kf2 klt p0 p1 p2 p3 p4 p5 plt yM ylt b0 b1 b2 bf0 bf1 bf2 blt r0 r1 rf0 rf1 rlt
  have hD := hK5.drew
  clear hK5
  refine wp_region_held_drew (S := Blk W [(B10, .cells #[.int .u8 (kD (y.reg d).k), vI vK (y.reg d).l, vI vK (y.reg d).h] 43 (0, 0)), (B9, .cells #[vI vK c, vI vK d, vI vK s, .bool true, vI vK o, vI vK n] 59 (0, 0)), (W.heap.size, .cells (z04 y) 45 (0, 0)), (W.heap.size + 1, .cells #[.int .u8 kb, vI vK lb, vI vK hb] 43 (0, 0)), (W.heap.size + 1 + 1, .cells #[vI vK 0, vI vK 0] 27 (0, 0))]) (by kernel_rfl) hD fun _ => ?_
  change wpAnyH _ _ _ _ _ 8 (Array.replicate 8 false) _ _
  refine z2r (i := 0) (some 50) (.pointer (some ⟨B9, 0, none⟩)) rfl rfl (by kernel_rfl) (by kernel_rfl) (by kernel_rfl) (fun _ _ _ h => h) (by rfl) (fun V hV => by go_simp) hD ?_
  simp only [Act.put, siA, scZ, scS]
  refine z2r (i := 1) (some 51) (vI vK c) rfl rfl (by kernel_rfl) (by kernel_rfl) (by kernel_rfl) (fun _ _ _ h => h) (by rfl) (fun V hV => by obtain ⟨p0, p1, p2, p3, p4, p5, plt⟩ := row6 (hV.2 _ (mcO _ mcS)); go_simp) hD ?_
  simp only [Act.put, siA, scZ, scS]
  refine z2r (i := 3) (some 53) (.pointer (some ⟨B9, 0, none⟩)) rfl rfl (by kernel_rfl) (by kernel_rfl) (by kernel_rfl) (fun _ _ _ h => h) (by rfl) (fun V hV => by go_simp) hD ?_
  simp only [Act.put, siA, scZ, scS]
  refine z2r (i := 4) (some 54) (vI vK c) rfl rfl (by kernel_rfl) (by kernel_rfl) (by kernel_rfl) (fun _ _ _ h => h) (by rfl) (fun V hV => by obtain ⟨p0, p1, p2, p3, p4, p5, plt⟩ := row6 (hV.2 _ (mcO _ mcS)); go_simp) hD ?_
  simp only [Act.put, siA, scZ, scS]
  refine z2r (i := 7) (some 57) (vI vK 0) rfl rfl (by kernel_rfl) (by kernel_rfl) (by kernel_rfl) (fun _ _ _ h => h) (by rfl) (fun V hV => by go_simp) hD ?_
  simp only [Act.put, siA, scZ, scS]
  refine wpAnyH_ready (rs := [2]) (by kernel_rfl) (by simp) ?_
  refine zR9 (some 52) 30 #[vI vK c] rfl rfl (by rfl) (by go_simp) ?_ AllReadyH.nil
  refine (HOP.out _).mono ?_
  rintro e wz ⟨rfl, hbz⟩
  have hKz : Blk W [(B10, .cells #[.int .u8 (kD (y.reg d).k), vI vK (y.reg d).l, vI vK (y.reg d).h] 43 (0, 0)), (B9, .cells #[vI vK c, vI vK d, vI vK s, .bool true, vI vK o, vI vK n] 59 (0, 0)), (W.heap.size, .cells (z04 y) 45 (0, 0)), (W.heap.size + 1, .cells #[.int .u8 kb, vI vK lb, vI vK hb] 43 (0, 0)), (W.heap.size + 1 + 1, .cells #[vI vK 0, vI vK 0] 27 (0, 0))] wz := hD.later hbz
  refine ⟨_, rfl, hKz, ?_⟩
  simp only [Act.put, siA, scZ, scS]
  have hK8 := hKz.add (.cells #[vI vK c', vI vK c] 3)
  have hD8 : Blk W [(B10, .cells #[.int .u8 (kD (y.reg d).k), vI vK (y.reg d).l, vI vK (y.reg d).h] 43 (0, 0)), (B9, .cells #[vI vK c, vI vK d, vI vK s, .bool true, vI vK o, vI vK n] 59 (0, 0)), (W.heap.size, .cells (z04 y) 45 (0, 0)), (W.heap.size + 1, .cells #[.int .u8 kb, vI vK lb, vI vK hb] 43 (0, 0)), (W.heap.size + 1 + 1, .cells #[vI vK 0, vI vK 0] 27 (0, 0))] (wz.alloc (.cells #[vI vK c', vI vK c] 3)) := hKz.later ((bF _ _).alloc (Nat.le_refl _) _)
  have hbR : B10 < wz.heap.size := hKz.lt mcS
  refine wpAnyH_ready (rs := [5]) (by kernel_rfl) (by simp) ?_
  refine zC1 (some 55) (.slice (some ⟨wz.heap.size, 0, none⟩) 2 2) (wz.alloc (.cells #[vI vK c', vI vK c] 3)) rfl rfl (by rfl) (by go_simp) hD8 ?_ AllReadyH.nil
  simp only [Act.put, siA, scZ, scS]
  refine z2r (i := 6) (some 56) (vI vK 2) rfl rfl (by kernel_rfl) (by kernel_rfl) (by kernel_rfl) (fun _ _ _ h => h) (by rfl) (fun V hV => by go_simp) hD8 ?_
  simp only [Act.put, siA, scZ, scS]
  refine wpAnyH_done (by kernel_rfl) ?_ _
  generalize (wz.alloc (.cells #[vI vK c', vI vK c] 3)) = w8 at hK8 ⊢
  generalize wz.heap.size = BR at hK8 hbR ⊢
  clear hD hKz hD8 hbz
  have hl8 : BR < w8.heap.size := hK8.lt mcS
  have hs8 : W.heap.size ≤ w8.heap.size := hK8.1.size
  have HF : Hid (∀ x ∈ ([(BR, .cells #[vI vK c', vI vK c] 3 (0, 0)), (B10, .cells #[.int .u8 (kD (y.reg d).k), vI vK (y.reg d).l, vI vK (y.reg d).h] 43 (0, 0)), (B9, .cells #[vI vK c, vI vK d, vI vK s, .bool true, vI vK o, vI vK n] 59 (0, 0)), (W.heap.size, .cells (z04 y) 45 (0, 0)), (W.heap.size + 1, .cells #[.int .u8 kb, vI vK lb, vI vK hb] 43 (0, 0)), (W.heap.size + 1 + 1, .cells #[vI vK 0, vI vK 0] 27 (0, 0))] : List (Nat × Obj)), W.heap.size ≤ x.1 ∧ x.1 < w8.heap.size) := by
   intro x hx
   refine ⟨?_, (Array.getElem?_eq_some_iff.1 (hK8.2 x hx)).1⟩
   simp only [List.mem_cons, List.not_mem_nil, or_false] at hx
   rcases hx with rfl | rfl | rfl | rfl | rfl | rfl <;> (dsimp only; omega)
  have HS0 : Hid (Kp Bl E W w8 ∧ z0x w8 E E ∧ w8.heap.size ≤ w8.heap.size ∧ V 0 E w8 ∧ Blk w8 [(BR, .cells #[vI vK c', vI vK c] 3 (0, 0)), (B10, .cells #[.int .u8 (kD (y.reg d).k), vI vK (y.reg d).l, vI vK (y.reg d).h] 43 (0, 0)), (B9, .cells #[vI vK c, vI vK d, vI vK s, .bool true, vI vK o, vI vK n] 59 (0, 0)), (W.heap.size, .cells (z04 y) 45 (0, 0)), (W.heap.size + 1, .cells #[.int .u8 kb, vI vK lb, vI vK hb] 43 (0, 0)), (W.heap.size + 1 + 1, .cells #[vI vK 0, vI vK 0] 27 (0, 0))] w8) := ⟨Kp.of hK8.1, z0x.refl, Nat.le_refl _, HV0.out w8 hK8.1 (hK8.lt (mcO _ (mcO _ (mcO _ (mcO _ (mcO _ mcS)))))), ⟨bF _ _, hK8.2⟩⟩
  clear hK8
  go_wp2_with fail
  go_loopw [57] (fun iv wr => ∃ (q : Nat) (Eq : Value), iv = vI vK (q : Int) ∧ q ≤ 2 ∧ Hid (Kp Bl E W wr ∧ z0x w8 E Eq ∧ w8.heap.size ≤ wr.heap.size ∧ V q Eq wr ∧ Blk wr [(BR, .cells #[vI vK c', vI vK c] 3 (0, 0)), (B10, .cells #[.int .u8 (kD (y.reg d).k), vI vK (y.reg d).l, vI vK (y.reg d).h] 43 (0, 0)), (B9, .cells #[vI vK c, vI vK d, vI vK s, .bool true, vI vK o, vI vK n] 59 (0, 0)), (W.heap.size, .cells (z04 y) 45 (0, 0)), (W.heap.size + 1, .cells #[.int .u8 kb, vI vK lb, vI vK hb] 43 (0, 0)), (W.heap.size + 1 + 1, .cells #[vI vK 0, vI vK 0] 27 (0, 0))] wr)) (fun iv _ => 2 - (intOf iv).toNat)
  case atStart => exact ⟨0, E, rfl, by omega, HS0.out⟩
  case round =>
   obtain ⟨q, Eq, rfl, hq2, HS⟩ := hrel
   clear HS0
   have hB := HS.out.2.2.2.2
   by_cases hlt : q < 2
   ·have hle : decide ((q : Int) < 2) = true := by simp; omega
    have hq0 : (0 : Int) ≤ (q : Int) := by omega
    have hq2' : (q : Int) < 2 := by omega
    have hcl : wr.cell? ⟨BR, q, none⟩ = some (vI vK (cd c' c q)) := by
     obtain ⟨t0, t1, -, -, -⟩ := row2 (hB.2 _ mcS)
     rcases (show q = 0 ∨ q = 1 by omega) with rfl | rfl
     ·exact t0
     ·exact t1
    generalize hcq : cd c' c q = cq at hcl
    have HCQ : Hid (cd c' c q = cq) := hcq
    clear hcq
    obtain ⟨t0, t1, tf0, tf1, tlt⟩ := row2 (hB.2 _ mcS); obtain ⟨k0, k1, k2, kf0, kf1, kf2, klt⟩ := row3 (hB.2 _ (mcO _ mcS)); obtain ⟨p0, p1, p2, p3, p4, p5, plt⟩ := row6 (hB.2 _ (mcO _ (mcO _ mcS))); have yM : z07 _ W.heap.size _ := (hB.2 _ (mcO _ (mcO _ (mcO _ mcS)))); have ylt := yM.lt; obtain ⟨b0, b1, b2, bf0, bf1, bf2, blt⟩ := row3 (hB.2 _ (mcO _ (mcO _ (mcO _ (mcO _ mcS))))); obtain ⟨r0, r1, rf0, rf1, rlt⟩ := row2 (hB.2 _ (mcO _ (mcO _ (mcO _ (mcO _ (mcO _ mcS))))))
    go_upto_region 10 with (first | (go_at_call 31; go_must (refine (HNR.out cq _).mono ?_; rintro e w2 ⟨rfl, hb2⟩; have hB2 := hB.later hb2)) | fail)
    have hB4 : Blk wr ((w2.heap.size + 1, .cells #[vI vK (yl cq), vI vK (yh cq)] 24 (0, 0)) :: (w2.heap.size, .cells #[vI vK (xl cq), vI vK (xh cq)] 24 (0, 0)) :: [(BR, .cells #[vI vK c', vI vK c] 3 (0, 0)), (B10, .cells #[.int .u8 (kD (y.reg d).k), vI vK (y.reg d).l, vI vK (y.reg d).h] 43 (0, 0)), (B9, .cells #[vI vK c, vI vK d, vI vK s, .bool true, vI vK o, vI vK n] 59 (0, 0)), (W.heap.size, .cells (z04 y) 45 (0, 0)), (W.heap.size + 1, .cells #[.int .u8 kb, vI vK lb, vI vK hb] 43 (0, 0)), (W.heap.size + 1 + 1, .cells #[vI vK 0, vI vK 0] 27 (0, 0))]) ((w2.alloc (.cells #[vI vK (xl cq), vI vK (xh cq)] 24)).alloc (.cells #[vI vK (yl cq), vI vK (yh cq)] 24)) := by
     have h := (hB2.add (.cells #[vI vK (xl cq), vI vK (xh cq)] 24)).add (.cells #[vI vK (yl cq), vI vK (yh cq)] 24)
     have e : (w2.alloc (.cells #[vI vK (xl cq), vI vK (xh cq)] 24)).heap.size = w2.heap.size + 1 := by simp
     rw [e] at h
     exact h
    have hbx : BR < w2.heap.size := hB2.lt mcS
    clear t0 t1 tf0 tf1 tlt k0 k1 k2 kf0 kf1 kf2 klt p0 p1 p2 p3 p4 p5 plt yM ylt b0 b1 b2 bf0 bf1 bf2 blt r0 r1 rf0 rf1 rlt
    clear hcl hB2 hb2 hB
    generalize ((w2.alloc (.cells #[vI vK (xl cq), vI vK (xh cq)] 24)).alloc (.cells #[vI vK (yl cq), vI vK (yh cq)] 24)) = w4 at hB4 ⊢
    generalize w2.heap.size = BX at hB4 hbx ⊢
    cases hok : ok cq
    ·have HOK : Hid (ok cq = false) := hok
     clear hok
     go_wp2_with fail
     go_roundw
     case rel =>
      obtain ⟨h1, h2, h3, h4, h5⟩ := HS.out
      exact ⟨q + 1, Eq, by go_num, by omega, Kp.trans h1 (Kp.of hB4.1) z0x.refl, h2, Nat.le_trans h3 hB4.1.size, HVN.out q Eq wr w4 hlt (by rw [HCQ.out]; exact HOK.out) h4 hB4.1, bF _ _, fun x hx => hB4.2 x (mcO _ (mcO _ hx))⟩
     case measure => simp [intOf]; omega
    ·have HOK : Hid (ok cq = true) := hok
     clear hok
     have yM : z07 w4 W.heap.size y := hB4.2 _ (mcO _ (mcO _ (mcO _ (mcO _ (mcO _ mcS)))))
     go_upto_region 11 with fail
     go_step
     (refine wpList_load_row rfl 45 (.tmp 5) rfl W.heap.size rfl 45 (z04 y) (0, 0) _ yM Tryz.underlying45 rfl (z1e _) ?_)
     simp only [Act.put, siA, scZ, scS]
     (refine z03 rfl (.pointer (some ⟨w4.heap.size, 0, none⟩)) (w4.alloc (.cells Tryz.zeroCells45 45 (0, 0))) (by go_simp; try rfl) ?_); simp only [Act.put, siA, scZ, scS]
     (refine wpList_store_row rfl 45 (.tmp 16) (.tmp 74) rfl w4.heap.size (z04 y) rfl rfl 45 _ (heap_alloc_new _ _) (z1e _) (by rw [z78, z2i]) (z7g _) ?_)
     have hB6 := hB4.mindRow y
     have hwn : wr.heap.size ≤ w4.heap.size := hB4.1.size
     have hbn : BX + 1 < w4.heap.size := hB4.lt mcS
     clear yM
     generalize ((w4.alloc (.cells Tryz.zeroCells45 45 (0, 0))).setRow w4.heap.size (z04 y)) = w6 at hB6 ⊢
     generalize w4.heap.size = BN at hB6 hbn hwn ⊢
     clear hB4
     have nM : z07 w6 BN y := hB6.2 _ mcS
     have nlt := nM.lt
     obtain ⟨y0, y1, yf0, yf1, yylt⟩ := row2 (hB6.2 _ (mcO _ mcS))
     obtain ⟨x0, x1, xf0, xf1, xlt⟩ := row2 (hB6.2 _ (mcO _ (mcO _ mcS)))
     obtain ⟨p0, p1, p2, p3, p4, p5, plt⟩ := row6 (hB6.2 _ (mcO _ (mcO _ (mcO _ (mcO _ (mcO _ mcS))))))
     have hs0 : (0 : Int) ≤ (s : Int) := by omega
     have hs1 : (s : Int) < 27 := by omega
     go_upto_region 15 with fail
     have hBd := hB6.drew
     have hSd : Blk wr ((BX + 1, .cells #[vI vK (yl cq), vI vK (yh cq)] 24 (0, 0)) :: (BX, .cells #[vI vK (xl cq), vI vK (xh cq)] 24 (0, 0)) :: [(BR, .cells #[vI vK c', vI vK c] 3 (0, 0)), (B10, .cells #[.int .u8 (kD (y.reg d).k), vI vK (y.reg d).l, vI vK (y.reg d).h] 43 (0, 0)), (B9, .cells #[vI vK c, vI vK d, vI vK s, .bool true, vI vK o, vI vK n] 59 (0, 0)), (W.heap.size, .cells (z04 y) 45 (0, 0)), (W.heap.size + 1, .cells #[.int .u8 kb, vI vK lb, vI vK hb] 43 (0, 0)), (W.heap.size + 1 + 1, .cells #[vI vK 0, vI vK 0] 27 (0, 0))]) w6.drew := ⟨hBd.1, fun x hx => hBd.2 x (mcO _ hx)⟩
     refine wp_region_held_drew (S := Blk wr ((BX + 1, .cells #[vI vK (yl cq), vI vK (yh cq)] 24 (0, 0)) :: (BX, .cells #[vI vK (xl cq), vI vK (xh cq)] 24 (0, 0)) :: [(BR, .cells #[vI vK c', vI vK c] 3 (0, 0)), (B10, .cells #[.int .u8 (kD (y.reg d).k), vI vK (y.reg d).l, vI vK (y.reg d).h] 43 (0, 0)), (B9, .cells #[vI vK c, vI vK d, vI vK s, .bool true, vI vK o, vI vK n] 59 (0, 0)), (W.heap.size, .cells (z04 y) 45 (0, 0)), (W.heap.size + 1, .cells #[.int .u8 kb, vI vK lb, vI vK hb] 43 (0, 0)), (W.heap.size + 1 + 1, .cells #[vI vK 0, vI vK 0] 27 (0, 0))])) (by kernel_rfl) hSd fun _ => ?_
     change wpAnyH _ _ _ _ _ 12 (Array.replicate 12 false) _ _
     clear nM nlt y0 y1 yf0 yf1 yylt x0 x1 xf0 xf1 xlt p0 p1 p2 p3 p4 p5 plt hB6
     generalize w6.drew = wd at hBd hSd ⊢
     refine z2r (i := 0) (some 88) (.pointer (some ⟨B9, 1, none⟩)) rfl rfl (by kernel_rfl) (by kernel_rfl) (by kernel_rfl) (fun _ _ _ h => h) (by rfl) (fun V hV => by go_simp) hSd ?_
     simp only [Act.put, siA, scZ, scS]
     refine z2r (i := 1) (some 89) (vI vK d) rfl rfl (by kernel_rfl) (by kernel_rfl) (by kernel_rfl) (fun _ _ _ h => h) (by rfl) (fun V hV => by obtain ⟨p0, p1, p2, p3, p4, p5, plt⟩ := row6 (hV.2 _ (mcO _ (mcO _ (mcO _ (mcO _ mcS))))); go_simp) hSd ?_
     simp only [Act.put, siA, scZ, scS]
     refine z2r (i := 2) (some 90) (.pointer (some ⟨B9, 2, none⟩)) rfl rfl (by kernel_rfl) (by kernel_rfl) (by kernel_rfl) (fun _ _ _ h => h) (by rfl) (fun V hV => by go_simp) hSd ?_
     simp only [Act.put, siA, scZ, scS]
     refine z2r (i := 3) (some 91) (vI vK s) rfl rfl (by kernel_rfl) (by kernel_rfl) (by kernel_rfl) (fun _ _ _ h => h) (by rfl) (fun V hV => by obtain ⟨p0, p1, p2, p3, p4, p5, plt⟩ := row6 (hV.2 _ (mcO _ (mcO _ (mcO _ (mcO _ mcS))))); go_simp) hSd ?_
     simp only [Act.put, siA, scZ, scS]
     refine z2r (i := 4) (some 92) (.agg #[vI vK (xl cq), vI vK (xh cq)]) rfl rfl (by kernel_rfl) (by kernel_rfl) (by kernel_rfl) (fun _ _ _ h => h) (by rfl) (fun V hV => by obtain ⟨x0, x1, xf0, xf1, xlt⟩ := row2 (hV.2 _ (mcO _ mcS)); go_simp) hSd ?_
     simp only [Act.put, siA, scZ, scS]
     refine z2r (i := 5) (some 93) (.agg #[vI vK (yl cq), vI vK (yh cq)]) rfl rfl (by kernel_rfl) (by kernel_rfl) (by kernel_rfl) (fun _ _ _ h => h) (by rfl) (fun V hV => by obtain ⟨y0, y1, yf0, yf1, yylt⟩ := row2 (hV.2 _ mcS); go_simp) hSd ?_
     simp only [Act.put, siA, scZ, scS]
     refine z2r (i := 6) (some 94) (.pointer (some ⟨BN, d * 3, none⟩)) rfl rfl (by kernel_rfl) (by kernel_rfl) (by kernel_rfl) (fun _ _ _ h => h) (by rfl) (fun V hV => by go_simp) hSd ?_
     simp only [Act.put, siA, scZ, scS]
     refine z2r (i := 7) (some 95) (.pointer (some ⟨BN, d * 3 + 1, none⟩)) rfl rfl (by kernel_rfl) (by kernel_rfl) (by kernel_rfl) (fun _ _ _ h => h) (by rfl) (fun V hV => by go_simp) hSd ?_
     simp only [Act.put, siA, scZ, scS]
     have nM : z07 wd BN y := hBd.2 _ mcS
     have nlt := nM.lt
     have nf1 := nM.frozen (d * 3 + 1)
     have nf2 := nM.frozen (d * 3 + 2)
     obtain ⟨n0, n1, n2⟩ := nM.know (d := d) (by omega)
     have nM1 : z07 ((wd.setCell ⟨BN, d * 3 + 1, none⟩ (vI vK (xl cq))).setCell ⟨BN, d * 3 + 2, none⟩ (vI vK (xh cq))) BN (y.putAll d ⟨(y.all d).k, xl cq, xh cq⟩) := nM.put2 d _ _
     have hS1 : Blk wr ((BX + 1, .cells #[vI vK (yl cq), vI vK (yh cq)] 24 (0, 0)) :: (BX, .cells #[vI vK (xl cq), vI vK (xh cq)] 24 (0, 0)) :: [(BR, .cells #[vI vK c', vI vK c] 3 (0, 0)), (B10, .cells #[.int .u8 (kD (y.reg d).k), vI vK (y.reg d).l, vI vK (y.reg d).h] 43 (0, 0)), (B9, .cells #[vI vK c, vI vK d, vI vK s, .bool true, vI vK o, vI vK n] 59 (0, 0)), (W.heap.size, .cells (z04 y) 45 (0, 0)), (W.heap.size + 1, .cells #[.int .u8 kb, vI vK lb, vI vK hb] 43 (0, 0)), (W.heap.size + 1 + 1, .cells #[vI vK 0, vI vK 0] 27 (0, 0))]) ((wd.setCell ⟨BN, d * 3 + 1, none⟩ (vI vK (xl cq))).setCell ⟨BN, d * 3 + 2, none⟩ (vI vK (xh cq))) := by
      refine ⟨(hSd.1.setCell hwn _).setCell hwn _, fun x hx => ?_⟩
      have hne : x.1 ≠ BN := by
       rcases List.mem_cons.1 hx with rfl | hx
       ·dsimp only; omega
       rcases List.mem_cons.1 hx with rfl | hx
       ·dsimp only; omega
       have := (HF.out x hx).2; have := HS.out.2.2.1; omega
      exact (heap_setCell_other _ _ _ _ hne).trans ((heap_setCell_other _ _ _ _ hne).trans (hSd.2 x hx))
     have hS2 : Blk wr ((BX + 1, .cells #[vI vK (yl cq), vI vK (yh cq)] 24 (0, 0)) :: (BX, .cells #[vI vK (xl cq), vI vK (xh cq)] 24 (0, 0)) :: [(BR, .cells #[vI vK c', vI vK c] 3 (0, 0)), (B10, .cells #[.int .u8 (kD (y.reg d).k), vI vK (y.reg d).l, vI vK (y.reg d).h] 43 (0, 0)), (B9, .cells #[vI vK c, vI vK d, vI vK s, .bool true, vI vK o, vI vK n] 59 (0, 0)), (W.heap.size, .cells (z04 y) 45 (0, 0)), (W.heap.size + 1, .cells #[.int .u8 kb, vI vK lb, vI vK hb] 43 (0, 0)), (W.heap.size + 1 + 1, .cells #[vI vK 0, vI vK 0] 27 (0, 0))]) ((((wd.setCell ⟨BN, d * 3 + 1, none⟩ (vI vK (xl cq))).setCell ⟨BN, d * 3 + 2, none⟩ (vI vK (xh cq))).setCell ⟨BN, s * 3 + 1, none⟩ (vI vK (yl cq))).setCell ⟨BN, s * 3 + 2, none⟩ (vI vK (yh cq))) := by
      refine ⟨(hS1.1.setCell hwn _).setCell hwn _, fun x hx => ?_⟩
      have hne : x.1 ≠ BN := by
       rcases List.mem_cons.1 hx with rfl | hx
       ·dsimp only; omega
       rcases List.mem_cons.1 hx with rfl | hx
       ·dsimp only; omega
       have := (HF.out x hx).2; have := HS.out.2.2.1; omega
      exact (heap_setCell_other _ _ _ _ hne).trans ((heap_setCell_other _ _ _ _ hne).trans (hS1.2 x hx))
     have nM2 : z07 ((((wd.setCell ⟨BN, d * 3 + 1, none⟩ (vI vK (xl cq))).setCell ⟨BN, d * 3 + 2, none⟩ (vI vK (xh cq))).setCell ⟨BN, s * 3 + 1, none⟩ (vI vK (yl cq))).setCell ⟨BN, s * 3 + 2, none⟩ (vI vK (yh cq))) BN ((y.putAll d ⟨(y.all d).k, xl cq, xh cq⟩).putAll s ⟨((y.putAll d ⟨(y.all d).k, xl cq, xh cq⟩).all s).k, yl cq, yh cq⟩) := nM1.put2 s _ _
     have hB7 : Blk wr ((BN, .cells (z04 ((y.putAll d ⟨(y.all d).k, xl cq, xh cq⟩).putAll s ⟨((y.putAll d ⟨(y.all d).k, xl cq, xh cq⟩).all s).k, yl cq, yh cq⟩)) 45 (0, 0)) :: [(BR, .cells #[vI vK c', vI vK c] 3 (0, 0)), (B10, .cells #[.int .u8 (kD (y.reg d).k), vI vK (y.reg d).l, vI vK (y.reg d).h] 43 (0, 0)), (B9, .cells #[vI vK c, vI vK d, vI vK s, .bool true, vI vK o, vI vK n] 59 (0, 0)), (W.heap.size, .cells (z04 y) 45 (0, 0)), (W.heap.size + 1, .cells #[.int .u8 kb, vI vK lb, vI vK hb] 43 (0, 0)), (W.heap.size + 1 + 1, .cells #[vI vK 0, vI vK 0] 27 (0, 0))]) ((((wd.setCell ⟨BN, d * 3 + 1, none⟩ (vI vK (xl cq))).setCell ⟨BN, d * 3 + 2, none⟩ (vI vK (xh cq))).setCell ⟨BN, s * 3 + 1, none⟩ (vI vK (yl cq))).setCell ⟨BN, s * 3 + 2, none⟩ (vI vK (yh cq))) := Blk.cons ⟨hS2.1, fun x hx => hS2.2 x (mcO _ (mcO _ hx))⟩ nM2
     refine wpAnyH_ready (rs := [8]) (by kernel_rfl) (by simp) ?_
     refine zR8 ((wd.setCell ⟨BN, d * 3 + 1, none⟩ (vI vK (xl cq))).setCell ⟨BN, d * 3 + 2, none⟩ (vI vK (xh cq))) rfl rfl (by rfl) (by go_simp) hS1 ?_ AllReadyH.nil
     simp only [Act.put]
     refine z2r (i := 9) (some 96) (.pointer (some ⟨BN, s * 3, none⟩)) rfl rfl (by kernel_rfl) (by kernel_rfl) (by kernel_rfl) (fun _ _ _ h => h) (by rfl) (fun V hV => by go_simp) hS1 ?_
     simp only [Act.put, siA, scZ, scS]
     refine z2r (i := 10) (some 97) (.pointer (some ⟨BN, s * 3 + 1, none⟩)) rfl rfl (by kernel_rfl) (by kernel_rfl) (by kernel_rfl) (fun _ _ _ h => h) (by rfl) (fun V hV => by go_simp) hS1 ?_
     simp only [Act.put, siA, scZ, scS]
     clear n0 n1 n2 nf1 nf2
     have nf1 := nM1.frozen (s * 3 + 1)
     have nf2 := nM1.frozen (s * 3 + 2)
     obtain ⟨n0, n1, n2⟩ := nM1.know (d := s) (by omega)
     refine wpAnyH_ready (rs := [11]) (by kernel_rfl) (by simp) ?_
     refine zR8 ((((wd.setCell ⟨BN, d * 3 + 1, none⟩ (vI vK (xl cq))).setCell ⟨BN, d * 3 + 2, none⟩ (vI vK (xh cq))).setCell ⟨BN, s * 3 + 1, none⟩ (vI vK (yl cq))).setCell ⟨BN, s * 3 + 2, none⟩ (vI vK (yh cq))) rfl rfl (by rfl) (by go_simp) hS2 ?_ AllReadyH.nil
     simp only [Act.put]
     refine wpAnyH_done (by kernel_rfl) ?_ _
     clear nM nlt nf1 nf2 n0 n1 n2 nM1 nM2 hS1 hS2 hSd hBd
     go_upto_region 16 with fail
     generalize ((((wd.setCell ⟨BN, d * 3 + 1, none⟩ (vI vK (xl cq))).setCell ⟨BN, d * 3 + 2, none⟩ (vI vK (xh cq))).setCell ⟨BN, s * 3 + 1, none⟩ (vI vK (yl cq))).setCell ⟨BN, s * 3 + 2, none⟩ (vI vK (yh cq))) = w7 at hB7 ⊢
     have hX := hB7.1
     have nM : z07 w7 BN ((y.putAll d ⟨(y.all d).k, xl cq, xh cq⟩).putAll s ⟨((y.putAll d ⟨(y.all d).k, xl cq, xh cq⟩).all s).k, yl cq, yh cq⟩) := hB7.2 _ mcS
     obtain ⟨p0, p1, p2, p3, p4, p5, plt⟩ := row6 (hB7.2 _ (mcO _ (mcO _ (mcO _ mcS))))
     obtain ⟨mq, e4, e5⟩ := HPC.out q hlt
     have hg := HG.out q Eq wr w7 hlt (by rw [HCQ.out]; exact HOK.out) HS.out.2.2.2.1 hX
     try rw [HCQ.out] at hg
     go_step
     (refine z03 rfl (.pointer (some ⟨Bl, 0, none⟩)) w7 (by go_simp; try rfl) ?_); simp only [Act.put, siA, scZ, scS]
     (refine wpList_load_row rfl 45 (.tmp 16) rfl BN rfl 45 (z04 ((y.putAll d ⟨(y.all d).k, xl cq, xh cq⟩).putAll s ⟨((y.putAll d ⟨(y.all d).k, xl cq, xh cq⟩).all s).k, yl cq, yh cq⟩)) (0, 0) _ nM Tryz.underlying45 rfl (z1e _) ?_)
     simp only [Act.put, siA, scZ, scS]
     (refine z03 rfl (vI vK pc) w7 (by go_simp; try rfl) ?_); simp only [Act.put, siA, scZ, scS]
     (refine z03 rfl (vI vK ((pc : Int) + 1)) w7 (by go_simp; try rfl) ?_); simp only [Act.put, siA, scZ, scS]
     (refine z03 rfl (vI vK q) w7 (by go_simp; try rfl) ?_); simp only [Act.put, siA, scZ, scS]
     (refine z03 rfl (.pointer (some ⟨B9, 4, none⟩)) w7 (by go_simp; try rfl) ?_); simp only [Act.put, siA, scZ, scS]
     (refine z03 rfl (vI vK o) w7 (by go_simp; try rfl) ?_); simp only [Act.put, siA, scZ, scS]
     (refine z03 rfl (vI vK mq) w7 (by go_simp; rw [IntWalk.i64_left]; exact e4) ?_); simp only [Act.put, siA, scZ, scS]
     (refine z03 rfl (vI vK (pq q)) w7 (by go_simp; rw [IntWalk.i64_left]; exact e5) ?_); simp only [Act.put, siA, scZ, scS]
     refine z0d rfl 9 #[.pointer (some ⟨Bl, 0, none⟩), .agg (z04 ((y.putAll d ⟨(y.all d).k, xl cq, xh cq⟩).putAll s ⟨((y.putAll d ⟨(y.all d).k, xl cq, xh cq⟩).all s).k, yl cq, yh cq⟩)), vI vK (pq q)] (by go_simp; try rfl) hg ?_
     intro v9 w9 hq
     obtain ⟨er, i, rfl, hkp, hT⟩ := hq
     have hB9 : Blk w9 [(BR, .cells #[vI vK c', vI vK c] 3 (0, 0)), (B10, .cells #[.int .u8 (kD (y.reg d).k), vI vK (y.reg d).l, vI vK (y.reg d).h] 43 (0, 0)), (B9, .cells #[vI vK c, vI vK d, vI vK s, .bool true, vI vK o, vI vK n] 59 (0, 0)), (W.heap.size, .cells (z04 y) 45 (0, 0)), (W.heap.size + 1, .cells #[.int .u8 kb, vI vK lb, vI vK hb] 43 (0, 0)), (W.heap.size + 1 + 1, .cells #[vI vK 0, vI vK 0] 27 (0, 0))] w9 := zMc HLK.out HS.out.2.1 HF.out hkp ⟨hB7.1, fun x hx => hB7.2 x (mcO _ hx)⟩
     have hrw : z0x W E Eq := z0x.trans z0x.refl HS.out.2.1 hs8
     have HKW : Hid (Kp Bl E W w9) := Kp.trans (Kp.trans HS.out.1 (Kp.of hX) z0x.refl) hkp hrw
     have hs7 : w8.heap.size ≤ w7.heap.size := Nat.le_trans HS.out.2.2.1 hX.size
     have hs9 : w7.heap.size ≤ w9.heap.size := hkp.size
     have HRO : Hid (z0x w8 E Eq) := HS.out.2.1
     clear nM p0 p1 p2 p3 p4 p5 plt hB7 hg hkp HS
     simp only [Act.put, siA, scZ, scS]
     go_upto_region 17 with fail
     have hB10 := hB9.add (.cells #[vI vK er, vI vK i] 27)
     generalize (w9.alloc (.cells #[vI vK er, vI vK i] 27)) = w10 at hB10 ⊢
     obtain ⟨x0, x1, xf0, xf1, xlt⟩ := row2 (hB10.2 _ mcS)
     obtain ⟨r0, r1, rf0, rf1, rlt⟩ := row2 (hB10.2 _ (mcO _ (mcO _ (mcO _ (mcO _ (mcO _ (mcO _ mcS)))))))
     rcases hT with ⟨e0, hT⟩ | ⟨e0, E', hro, hV⟩
     ·go_wp2_with fail
      exact bodyPost_ret (v := .agg #[vI vK er, vI vK i]) (by simp [results, Tryz.results19, go_sem, *]) rfl ⟨er, i, rfl, z4k (Kp.trans HKW.out (Kp.of hB10.1) z0x.refl) (by omega), Or.inl ⟨by simpa using e0, hT⟩⟩
     ·have HE : Hid (z0x w8 E E' ∧ V (q + 1) E' w10) := ⟨z0x.trans HRO.out hro hs7, HVL.out _ _ _ _ hV hB10.1⟩
      clear hro hV
      go_wp2_with fail
      go_roundw
      case rel => exact ⟨q + 1, E', by go_num, by omega, Kp.trans HKW.out (Kp.of hB10.1) z0x.refl, HE.out.1, Nat.le_trans (Nat.le_trans hs7 hs9) hB10.1.size, HE.out.2, bF _ _, fun x hx => hB10.2 x (mcO _ hx)⟩
      case measure => simp [intOf]; omega
   ·obtain rfl : q = 2 := by omega
    have hle : decide (((2 : Nat) : Int) < 2) = false := by decide
    obtain ⟨h1, h2, h3, h4, h5⟩ := HS.out
    have hr8 := h5.2 _ (mcO _ (mcO _ (mcO _ (mcO _ (mcO _ mcS)))))
    have HX : Hid (Kp Bl E W wr ∧ z0x W E Eq ∧ V 2 Eq wr) := ⟨h1, z0x.trans z0x.refl h2 hs8, h4⟩
    clear HS hB h1 h2 h4 h5
    go_wp2_with (first | (go_at_call 11; go_must (refine (zKz 0 _).mono ?_; rintro e w7 ⟨rfl, hb7⟩; obtain ⟨q0, q1, qf0, qf1, qlt⟩ := row2 ((hb7.block _ (Array.getElem?_eq_some_iff.1 hr8).1).trans hr8))) | fail)
    exact bodyPost_ret (v := .agg #[vI vK 0, vI vK (-1)]) (by simp [results, Tryz.results19, go_sem, *]) rfl ⟨0, -1, rfl, z4k (Kp.trans HX.out.1 (Kp.of hb7) z0x.refl) (by omega), Or.inr ⟨rfl, Eq, HX.out.2.1, w7, HVL.out _ _ _ _ HX.out.2.2 hb7, z5e⟩⟩
 |clear qq3
  have hr := hr.out
  subst hr
  go_upto_region 6 with fail
  clear k0 k1 k2 kf0 kf1 kf2 klt p0 p1 p2 p3 p4 p5 plt yM ylt b0 b1 b2 bf0 bf1 bf2 blt r0 r1 rf0 rf1 rlt
  have hD := hK5.drew
  clear hK5
  refine wp_region_held_drew (S := Blk W [(B10, .cells #[.int .u8 (kD (y.reg d).k), vI vK (y.reg d).l, vI vK (y.reg d).h] 43 (0, 0)), (B9, .cells #[vI vK c, vI vK d, vI vK s, .bool true, vI vK o, vI vK n] 59 (0, 0)), (W.heap.size, .cells (z04 y) 45 (0, 0)), (W.heap.size + 1, .cells #[.int .u8 kb, vI vK lb, vI vK hb] 43 (0, 0)), (W.heap.size + 1 + 1, .cells #[vI vK 0, vI vK 0] 27 (0, 0))]) (by kernel_rfl) hD fun _ => ?_
  change wpAnyH _ _ _ _ _ 8 (Array.replicate 8 false) _ _
  refine z2r (i := 0) (some 50) (.pointer (some ⟨B9, 0, none⟩)) rfl rfl (by kernel_rfl) (by kernel_rfl) (by kernel_rfl) (fun _ _ _ h => h) (by rfl) (fun V hV => by go_simp) hD ?_
  simp only [Act.put, siA, scZ, scS]
  refine z2r (i := 1) (some 51) (vI vK c) rfl rfl (by kernel_rfl) (by kernel_rfl) (by kernel_rfl) (fun _ _ _ h => h) (by rfl) (fun V hV => by obtain ⟨p0, p1, p2, p3, p4, p5, plt⟩ := row6 (hV.2 _ (mcO _ mcS)); go_simp) hD ?_
  simp only [Act.put, siA, scZ, scS]
  refine z2r (i := 3) (some 53) (.pointer (some ⟨B9, 0, none⟩)) rfl rfl (by kernel_rfl) (by kernel_rfl) (by kernel_rfl) (fun _ _ _ h => h) (by rfl) (fun V hV => by go_simp) hD ?_
  simp only [Act.put, siA, scZ, scS]
  refine z2r (i := 4) (some 54) (vI vK c) rfl rfl (by kernel_rfl) (by kernel_rfl) (by kernel_rfl) (fun _ _ _ h => h) (by rfl) (fun V hV => by obtain ⟨p0, p1, p2, p3, p4, p5, plt⟩ := row6 (hV.2 _ (mcO _ mcS)); go_simp) hD ?_
  simp only [Act.put, siA, scZ, scS]
  refine z2r (i := 7) (some 57) (vI vK 0) rfl rfl (by kernel_rfl) (by kernel_rfl) (by kernel_rfl) (fun _ _ _ h => h) (by rfl) (fun V hV => by go_simp) hD ?_
  simp only [Act.put, siA, scZ, scS]
  refine wpAnyH_ready (rs := [2]) (by kernel_rfl) (by simp) ?_
  refine zR9 (some 52) 30 #[vI vK c] rfl rfl (by rfl) (by go_simp) ?_ AllReadyH.nil
  refine (HOP.out _).mono ?_
  rintro e wz ⟨rfl, hbz⟩
  have hKz : Blk W [(B10, .cells #[.int .u8 (kD (y.reg d).k), vI vK (y.reg d).l, vI vK (y.reg d).h] 43 (0, 0)), (B9, .cells #[vI vK c, vI vK d, vI vK s, .bool true, vI vK o, vI vK n] 59 (0, 0)), (W.heap.size, .cells (z04 y) 45 (0, 0)), (W.heap.size + 1, .cells #[.int .u8 kb, vI vK lb, vI vK hb] 43 (0, 0)), (W.heap.size + 1 + 1, .cells #[vI vK 0, vI vK 0] 27 (0, 0))] wz := hD.later hbz
  refine ⟨_, rfl, hKz, ?_⟩
  simp only [Act.put, siA, scZ, scS]
  have hK8 := hKz.add (.cells #[vI vK c', vI vK c] 3)
  have hD8 : Blk W [(B10, .cells #[.int .u8 (kD (y.reg d).k), vI vK (y.reg d).l, vI vK (y.reg d).h] 43 (0, 0)), (B9, .cells #[vI vK c, vI vK d, vI vK s, .bool true, vI vK o, vI vK n] 59 (0, 0)), (W.heap.size, .cells (z04 y) 45 (0, 0)), (W.heap.size + 1, .cells #[.int .u8 kb, vI vK lb, vI vK hb] 43 (0, 0)), (W.heap.size + 1 + 1, .cells #[vI vK 0, vI vK 0] 27 (0, 0))] (wz.alloc (.cells #[vI vK c', vI vK c] 3)) := hKz.later ((bF _ _).alloc (Nat.le_refl _) _)
  have hbR : B10 < wz.heap.size := hKz.lt mcS
  refine wpAnyH_ready (rs := [5]) (by kernel_rfl) (by simp) ?_
  refine zC1 (some 55) (.slice (some ⟨wz.heap.size, 0, none⟩) 2 2) (wz.alloc (.cells #[vI vK c', vI vK c] 3)) rfl rfl (by rfl) (by go_simp) hD8 ?_ AllReadyH.nil
  simp only [Act.put, siA, scZ, scS]
  refine z2r (i := 6) (some 56) (vI vK 2) rfl rfl (by kernel_rfl) (by kernel_rfl) (by kernel_rfl) (fun _ _ _ h => h) (by rfl) (fun V hV => by go_simp) hD8 ?_
  simp only [Act.put, siA, scZ, scS]
  refine wpAnyH_done (by kernel_rfl) ?_ _
  generalize (wz.alloc (.cells #[vI vK c', vI vK c] 3)) = w8 at hK8 ⊢
  generalize wz.heap.size = BR at hK8 hbR ⊢
  clear hD hKz hD8 hbz
  have hl8 : BR < w8.heap.size := hK8.lt mcS
  have hs8 : W.heap.size ≤ w8.heap.size := hK8.1.size
  have HF : Hid (∀ x ∈ ([(BR, .cells #[vI vK c', vI vK c] 3 (0, 0)), (B10, .cells #[.int .u8 (kD (y.reg d).k), vI vK (y.reg d).l, vI vK (y.reg d).h] 43 (0, 0)), (B9, .cells #[vI vK c, vI vK d, vI vK s, .bool true, vI vK o, vI vK n] 59 (0, 0)), (W.heap.size, .cells (z04 y) 45 (0, 0)), (W.heap.size + 1, .cells #[.int .u8 kb, vI vK lb, vI vK hb] 43 (0, 0)), (W.heap.size + 1 + 1, .cells #[vI vK 0, vI vK 0] 27 (0, 0))] : List (Nat × Obj)), W.heap.size ≤ x.1 ∧ x.1 < w8.heap.size) := by
   intro x hx
   refine ⟨?_, (Array.getElem?_eq_some_iff.1 (hK8.2 x hx)).1⟩
   simp only [List.mem_cons, List.not_mem_nil, or_false] at hx
   rcases hx with rfl | rfl | rfl | rfl | rfl | rfl <;> (dsimp only; omega)
  have HS0 : Hid (Kp Bl E W w8 ∧ z0x w8 E E ∧ w8.heap.size ≤ w8.heap.size ∧ V 0 E w8 ∧ Blk w8 [(BR, .cells #[vI vK c', vI vK c] 3 (0, 0)), (B10, .cells #[.int .u8 (kD (y.reg d).k), vI vK (y.reg d).l, vI vK (y.reg d).h] 43 (0, 0)), (B9, .cells #[vI vK c, vI vK d, vI vK s, .bool true, vI vK o, vI vK n] 59 (0, 0)), (W.heap.size, .cells (z04 y) 45 (0, 0)), (W.heap.size + 1, .cells #[.int .u8 kb, vI vK lb, vI vK hb] 43 (0, 0)), (W.heap.size + 1 + 1, .cells #[vI vK 0, vI vK 0] 27 (0, 0))] w8) := ⟨Kp.of hK8.1, z0x.refl, Nat.le_refl _, HV0.out w8 hK8.1 (hK8.lt (mcO _ (mcO _ (mcO _ (mcO _ (mcO _ mcS)))))), ⟨bF _ _, hK8.2⟩⟩
  clear hK8
  go_wp2_with fail
  go_loopw [57] (fun iv wr => ∃ (q : Nat) (Eq : Value), iv = vI vK (q : Int) ∧ q ≤ 2 ∧ Hid (Kp Bl E W wr ∧ z0x w8 E Eq ∧ w8.heap.size ≤ wr.heap.size ∧ V q Eq wr ∧ Blk wr [(BR, .cells #[vI vK c', vI vK c] 3 (0, 0)), (B10, .cells #[.int .u8 (kD (y.reg d).k), vI vK (y.reg d).l, vI vK (y.reg d).h] 43 (0, 0)), (B9, .cells #[vI vK c, vI vK d, vI vK s, .bool true, vI vK o, vI vK n] 59 (0, 0)), (W.heap.size, .cells (z04 y) 45 (0, 0)), (W.heap.size + 1, .cells #[.int .u8 kb, vI vK lb, vI vK hb] 43 (0, 0)), (W.heap.size + 1 + 1, .cells #[vI vK 0, vI vK 0] 27 (0, 0))] wr)) (fun iv _ => 2 - (intOf iv).toNat)
  case atStart => exact ⟨0, E, rfl, by omega, HS0.out⟩
  case round =>
   obtain ⟨q, Eq, rfl, hq2, HS⟩ := hrel
   clear HS0
   have hB := HS.out.2.2.2.2
   by_cases hlt : q < 2
   ·have hle : decide ((q : Int) < 2) = true := by simp; omega
    have hq0 : (0 : Int) ≤ (q : Int) := by omega
    have hq2' : (q : Int) < 2 := by omega
    have hcl : wr.cell? ⟨BR, q, none⟩ = some (vI vK (cd c' c q)) := by
     obtain ⟨t0, t1, -, -, -⟩ := row2 (hB.2 _ mcS)
     rcases (show q = 0 ∨ q = 1 by omega) with rfl | rfl
     ·exact t0
     ·exact t1
    generalize hcq : cd c' c q = cq at hcl
    have HCQ : Hid (cd c' c q = cq) := hcq
    clear hcq
    obtain ⟨t0, t1, tf0, tf1, tlt⟩ := row2 (hB.2 _ mcS); obtain ⟨k0, k1, k2, kf0, kf1, kf2, klt⟩ := row3 (hB.2 _ (mcO _ mcS)); obtain ⟨p0, p1, p2, p3, p4, p5, plt⟩ := row6 (hB.2 _ (mcO _ (mcO _ mcS))); have yM : z07 _ W.heap.size _ := (hB.2 _ (mcO _ (mcO _ (mcO _ mcS)))); have ylt := yM.lt; obtain ⟨b0, b1, b2, bf0, bf1, bf2, blt⟩ := row3 (hB.2 _ (mcO _ (mcO _ (mcO _ (mcO _ mcS))))); obtain ⟨r0, r1, rf0, rf1, rlt⟩ := row2 (hB.2 _ (mcO _ (mcO _ (mcO _ (mcO _ (mcO _ mcS))))))
    go_upto_region 10 with (first | (go_at_call 31; go_must (refine (HNR.out cq _).mono ?_; rintro e w2 ⟨rfl, hb2⟩; have hB2 := hB.later hb2)) | fail)
    have hB4 : Blk wr ((w2.heap.size + 1, .cells #[vI vK (yl cq), vI vK (yh cq)] 24 (0, 0)) :: (w2.heap.size, .cells #[vI vK (xl cq), vI vK (xh cq)] 24 (0, 0)) :: [(BR, .cells #[vI vK c', vI vK c] 3 (0, 0)), (B10, .cells #[.int .u8 (kD (y.reg d).k), vI vK (y.reg d).l, vI vK (y.reg d).h] 43 (0, 0)), (B9, .cells #[vI vK c, vI vK d, vI vK s, .bool true, vI vK o, vI vK n] 59 (0, 0)), (W.heap.size, .cells (z04 y) 45 (0, 0)), (W.heap.size + 1, .cells #[.int .u8 kb, vI vK lb, vI vK hb] 43 (0, 0)), (W.heap.size + 1 + 1, .cells #[vI vK 0, vI vK 0] 27 (0, 0))]) ((w2.alloc (.cells #[vI vK (xl cq), vI vK (xh cq)] 24)).alloc (.cells #[vI vK (yl cq), vI vK (yh cq)] 24)) := by
     have h := (hB2.add (.cells #[vI vK (xl cq), vI vK (xh cq)] 24)).add (.cells #[vI vK (yl cq), vI vK (yh cq)] 24)
     have e : (w2.alloc (.cells #[vI vK (xl cq), vI vK (xh cq)] 24)).heap.size = w2.heap.size + 1 := by simp
     rw [e] at h
     exact h
    have hbx : BR < w2.heap.size := hB2.lt mcS
    clear t0 t1 tf0 tf1 tlt k0 k1 k2 kf0 kf1 kf2 klt p0 p1 p2 p3 p4 p5 plt yM ylt b0 b1 b2 bf0 bf1 bf2 blt r0 r1 rf0 rf1 rlt
    clear hcl hB2 hb2 hB
    generalize ((w2.alloc (.cells #[vI vK (xl cq), vI vK (xh cq)] 24)).alloc (.cells #[vI vK (yl cq), vI vK (yh cq)] 24)) = w4 at hB4 ⊢
    generalize w2.heap.size = BX at hB4 hbx ⊢
    cases hok : ok cq
    ·have HOK : Hid (ok cq = false) := hok
     clear hok
     go_wp2_with fail
     go_roundw
     case rel =>
      obtain ⟨h1, h2, h3, h4, h5⟩ := HS.out
      exact ⟨q + 1, Eq, by go_num, by omega, Kp.trans h1 (Kp.of hB4.1) z0x.refl, h2, Nat.le_trans h3 hB4.1.size, HVN.out q Eq wr w4 hlt (by rw [HCQ.out]; exact HOK.out) h4 hB4.1, bF _ _, fun x hx => hB4.2 x (mcO _ (mcO _ hx))⟩
     case measure => simp [intOf]; omega
    ·have HOK : Hid (ok cq = true) := hok
     clear hok
     have yM : z07 w4 W.heap.size y := hB4.2 _ (mcO _ (mcO _ (mcO _ (mcO _ (mcO _ mcS)))))
     go_upto_region 11 with fail
     go_step
     (refine wpList_load_row rfl 45 (.tmp 5) rfl W.heap.size rfl 45 (z04 y) (0, 0) _ yM Tryz.underlying45 rfl (z1e _) ?_)
     simp only [Act.put, siA, scZ, scS]
     (refine z03 rfl (.pointer (some ⟨w4.heap.size, 0, none⟩)) (w4.alloc (.cells Tryz.zeroCells45 45 (0, 0))) (by go_simp; try rfl) ?_); simp only [Act.put, siA, scZ, scS]
     (refine wpList_store_row rfl 45 (.tmp 16) (.tmp 74) rfl w4.heap.size (z04 y) rfl rfl 45 _ (heap_alloc_new _ _) (z1e _) (by rw [z78, z2i]) (z7g _) ?_)
     have hB6 := hB4.mindRow y
     have hwn : wr.heap.size ≤ w4.heap.size := hB4.1.size
     have hbn : BX + 1 < w4.heap.size := hB4.lt mcS
     clear yM
     generalize ((w4.alloc (.cells Tryz.zeroCells45 45 (0, 0))).setRow w4.heap.size (z04 y)) = w6 at hB6 ⊢
     generalize w4.heap.size = BN at hB6 hbn hwn ⊢
     clear hB4
     have nM : z07 w6 BN y := hB6.2 _ mcS
     have nlt := nM.lt
     obtain ⟨y0, y1, yf0, yf1, yylt⟩ := row2 (hB6.2 _ (mcO _ mcS))
     obtain ⟨x0, x1, xf0, xf1, xlt⟩ := row2 (hB6.2 _ (mcO _ (mcO _ mcS)))
     obtain ⟨p0, p1, p2, p3, p4, p5, plt⟩ := row6 (hB6.2 _ (mcO _ (mcO _ (mcO _ (mcO _ (mcO _ mcS))))))
     go_upto_region 16 with fail
     have hB7 : Blk wr ((BN, .cells (z04 y) 45 (0, 0)) :: [(BR, .cells #[vI vK c', vI vK c] 3 (0, 0)), (B10, .cells #[.int .u8 (kD (y.reg d).k), vI vK (y.reg d).l, vI vK (y.reg d).h] 43 (0, 0)), (B9, .cells #[vI vK c, vI vK d, vI vK s, .bool true, vI vK o, vI vK n] 59 (0, 0)), (W.heap.size, .cells (z04 y) 45 (0, 0)), (W.heap.size + 1, .cells #[.int .u8 kb, vI vK lb, vI vK hb] 43 (0, 0)), (W.heap.size + 1 + 1, .cells #[vI vK 0, vI vK 0] 27 (0, 0))]) w6 := ⟨hB6.1, fun x hx => hB6.2 x (by
      rcases List.mem_cons.1 hx with rfl | hx
      ·exact mcS
      ·exact mcO _ (mcO _ (mcO _ hx)))⟩
     clear nM nlt y0 y1 yf0 yf1 yylt x0 x1 xf0 xf1 xlt p0 p1 p2 p3 p4 p5 plt hB6
     generalize w6 = w7 at hB7 ⊢
     have hX := hB7.1
     have nM : z07 w7 BN y := hB7.2 _ mcS
     obtain ⟨p0, p1, p2, p3, p4, p5, plt⟩ := row6 (hB7.2 _ (mcO _ (mcO _ (mcO _ mcS))))
     obtain ⟨mq, e4, e5⟩ := HPC.out q hlt
     have hg := HG.out q Eq wr w7 hlt (by rw [HCQ.out]; exact HOK.out) HS.out.2.2.2.1 hX
     try rw [HCQ.out] at hg
     go_step
     (refine z03 rfl (.pointer (some ⟨Bl, 0, none⟩)) w7 (by go_simp; try rfl) ?_); simp only [Act.put, siA, scZ, scS]
     (refine wpList_load_row rfl 45 (.tmp 16) rfl BN rfl 45 (z04 y) (0, 0) _ nM Tryz.underlying45 rfl (z1e _) ?_)
     simp only [Act.put, siA, scZ, scS]
     (refine z03 rfl (vI vK pc) w7 (by go_simp; try rfl) ?_); simp only [Act.put, siA, scZ, scS]
     (refine z03 rfl (vI vK ((pc : Int) + 1)) w7 (by go_simp; try rfl) ?_); simp only [Act.put, siA, scZ, scS]
     (refine z03 rfl (vI vK q) w7 (by go_simp; try rfl) ?_); simp only [Act.put, siA, scZ, scS]
     (refine z03 rfl (.pointer (some ⟨B9, 4, none⟩)) w7 (by go_simp; try rfl) ?_); simp only [Act.put, siA, scZ, scS]
     (refine z03 rfl (vI vK o) w7 (by go_simp; try rfl) ?_); simp only [Act.put, siA, scZ, scS]
     (refine z03 rfl (vI vK mq) w7 (by go_simp; rw [IntWalk.i64_left]; exact e4) ?_); simp only [Act.put, siA, scZ, scS]
     (refine z03 rfl (vI vK (pq q)) w7 (by go_simp; rw [IntWalk.i64_left]; exact e5) ?_); simp only [Act.put, siA, scZ, scS]
     refine z0d rfl 9 #[.pointer (some ⟨Bl, 0, none⟩), .agg (z04 y), vI vK (pq q)] (by go_simp; try rfl) hg ?_
     intro v9 w9 hq
     obtain ⟨er, i, rfl, hkp, hT⟩ := hq
     have hB9 : Blk w9 [(BR, .cells #[vI vK c', vI vK c] 3 (0, 0)), (B10, .cells #[.int .u8 (kD (y.reg d).k), vI vK (y.reg d).l, vI vK (y.reg d).h] 43 (0, 0)), (B9, .cells #[vI vK c, vI vK d, vI vK s, .bool true, vI vK o, vI vK n] 59 (0, 0)), (W.heap.size, .cells (z04 y) 45 (0, 0)), (W.heap.size + 1, .cells #[.int .u8 kb, vI vK lb, vI vK hb] 43 (0, 0)), (W.heap.size + 1 + 1, .cells #[vI vK 0, vI vK 0] 27 (0, 0))] w9 := zMc HLK.out HS.out.2.1 HF.out hkp ⟨hB7.1, fun x hx => hB7.2 x (mcO _ hx)⟩
     have hrw : z0x W E Eq := z0x.trans z0x.refl HS.out.2.1 hs8
     have HKW : Hid (Kp Bl E W w9) := Kp.trans (Kp.trans HS.out.1 (Kp.of hX) z0x.refl) hkp hrw
     have hs7 : w8.heap.size ≤ w7.heap.size := Nat.le_trans HS.out.2.2.1 hX.size
     have hs9 : w7.heap.size ≤ w9.heap.size := hkp.size
     have HRO : Hid (z0x w8 E Eq) := HS.out.2.1
     clear nM p0 p1 p2 p3 p4 p5 plt hB7 hg hkp HS
     simp only [Act.put, siA, scZ, scS]
     go_upto_region 17 with fail
     have hB10 := hB9.add (.cells #[vI vK er, vI vK i] 27)
     generalize (w9.alloc (.cells #[vI vK er, vI vK i] 27)) = w10 at hB10 ⊢
     obtain ⟨x0, x1, xf0, xf1, xlt⟩ := row2 (hB10.2 _ mcS)
     obtain ⟨r0, r1, rf0, rf1, rlt⟩ := row2 (hB10.2 _ (mcO _ (mcO _ (mcO _ (mcO _ (mcO _ (mcO _ mcS)))))))
     rcases hT with ⟨e0, hT⟩ | ⟨e0, E', hro, hV⟩
     ·go_wp2_with fail
      exact bodyPost_ret (v := .agg #[vI vK er, vI vK i]) (by simp [results, Tryz.results19, go_sem, *]) rfl ⟨er, i, rfl, z4k (Kp.trans HKW.out (Kp.of hB10.1) z0x.refl) (by omega), Or.inl ⟨by simpa using e0, hT⟩⟩
     ·have HE : Hid (z0x w8 E E' ∧ V (q + 1) E' w10) := ⟨z0x.trans HRO.out hro hs7, HVL.out _ _ _ _ hV hB10.1⟩
      clear hro hV
      go_wp2_with fail
      go_roundw
      case rel => exact ⟨q + 1, E', by go_num, by omega, Kp.trans HKW.out (Kp.of hB10.1) z0x.refl, HE.out.1, Nat.le_trans (Nat.le_trans hs7 hs9) hB10.1.size, HE.out.2, bF _ _, fun x hx => hB10.2 x (mcO _ hx)⟩
      case measure => simp [intOf]; omega
   ·obtain rfl : q = 2 := by omega
    have hle : decide (((2 : Nat) : Int) < 2) = false := by decide
    obtain ⟨h1, h2, h3, h4, h5⟩ := HS.out
    have hr8 := h5.2 _ (mcO _ (mcO _ (mcO _ (mcO _ (mcO _ mcS)))))
    have HX : Hid (Kp Bl E W wr ∧ z0x W E Eq ∧ V 2 Eq wr) := ⟨h1, z0x.trans z0x.refl h2 hs8, h4⟩
    clear HS hB h1 h2 h4 h5
    go_wp2_with (first | (go_at_call 11; go_must (refine (zKz 0 _).mono ?_; rintro e w7 ⟨rfl, hb7⟩; obtain ⟨q0, q1, qf0, qf1, qlt⟩ := row2 ((hb7.block _ (Array.getElem?_eq_some_iff.1 hr8).1).trans hr8))) | fail)
    exact bodyPost_ret (v := .agg #[vI vK 0, vI vK (-1)]) (by simp [results, Tryz.results19, go_sem, *]) rfl ⟨0, -1, rfl, z4k (Kp.trans HX.out.1 (Kp.of hb7) z0x.refl) (by omega), Or.inr ⟨rfl, Eq, HX.out.2.1, w7, HVL.out _ _ _ _ HX.out.2.2 hb7, z5e⟩⟩
 |clear qq4
  have hr := hr.out
  subst hr
  go_upto_region 6 with fail
  clear k0 k1 k2 kf0 kf1 kf2 klt p0 p1 p2 p3 p4 p5 plt yM ylt b0 b1 b2 bf0 bf1 bf2 blt r0 r1 rf0 rf1 rlt
  have hD := hK5.drew
  clear hK5
  refine wp_region_held_drew (S := Blk W [(B10, .cells #[.int .u8 (kD (y.reg d).k), vI vK (y.reg d).l, vI vK (y.reg d).h] 43 (0, 0)), (B9, .cells #[vI vK c, vI vK d, vI vK s, .bool false, vI vK o, vI vK n] 59 (0, 0)), (W.heap.size, .cells (z04 y) 45 (0, 0)), (W.heap.size + 1, .cells #[.int .u8 kb, vI vK lb, vI vK hb] 43 (0, 0)), (W.heap.size + 1 + 1, .cells #[vI vK 0, vI vK 0] 27 (0, 0))]) (by kernel_rfl) hD fun _ => ?_
  change wpAnyH _ _ _ _ _ 8 (Array.replicate 8 false) _ _
  refine z2r (i := 0) (some 50) (.pointer (some ⟨B9, 0, none⟩)) rfl rfl (by kernel_rfl) (by kernel_rfl) (by kernel_rfl) (fun _ _ _ h => h) (by rfl) (fun V hV => by go_simp) hD ?_
  simp only [Act.put, siA, scZ, scS]
  refine z2r (i := 1) (some 51) (vI vK c) rfl rfl (by kernel_rfl) (by kernel_rfl) (by kernel_rfl) (fun _ _ _ h => h) (by rfl) (fun V hV => by obtain ⟨p0, p1, p2, p3, p4, p5, plt⟩ := row6 (hV.2 _ (mcO _ mcS)); go_simp) hD ?_
  simp only [Act.put, siA, scZ, scS]
  refine z2r (i := 3) (some 53) (.pointer (some ⟨B9, 0, none⟩)) rfl rfl (by kernel_rfl) (by kernel_rfl) (by kernel_rfl) (fun _ _ _ h => h) (by rfl) (fun V hV => by go_simp) hD ?_
  simp only [Act.put, siA, scZ, scS]
  refine z2r (i := 4) (some 54) (vI vK c) rfl rfl (by kernel_rfl) (by kernel_rfl) (by kernel_rfl) (fun _ _ _ h => h) (by rfl) (fun V hV => by obtain ⟨p0, p1, p2, p3, p4, p5, plt⟩ := row6 (hV.2 _ (mcO _ mcS)); go_simp) hD ?_
  simp only [Act.put, siA, scZ, scS]
  refine z2r (i := 7) (some 57) (vI vK 0) rfl rfl (by kernel_rfl) (by kernel_rfl) (by kernel_rfl) (fun _ _ _ h => h) (by rfl) (fun V hV => by go_simp) hD ?_
  simp only [Act.put, siA, scZ, scS]
  refine wpAnyH_ready (rs := [2]) (by kernel_rfl) (by simp) ?_
  refine zR9 (some 52) 30 #[vI vK c] rfl rfl (by rfl) (by go_simp) ?_ AllReadyH.nil
  refine (HOP.out _).mono ?_
  rintro e wz ⟨rfl, hbz⟩
  have hKz : Blk W [(B10, .cells #[.int .u8 (kD (y.reg d).k), vI vK (y.reg d).l, vI vK (y.reg d).h] 43 (0, 0)), (B9, .cells #[vI vK c, vI vK d, vI vK s, .bool false, vI vK o, vI vK n] 59 (0, 0)), (W.heap.size, .cells (z04 y) 45 (0, 0)), (W.heap.size + 1, .cells #[.int .u8 kb, vI vK lb, vI vK hb] 43 (0, 0)), (W.heap.size + 1 + 1, .cells #[vI vK 0, vI vK 0] 27 (0, 0))] wz := hD.later hbz
  refine ⟨_, rfl, hKz, ?_⟩
  simp only [Act.put, siA, scZ, scS]
  have hK8 := hKz.add (.cells #[vI vK c', vI vK c] 3)
  have hD8 : Blk W [(B10, .cells #[.int .u8 (kD (y.reg d).k), vI vK (y.reg d).l, vI vK (y.reg d).h] 43 (0, 0)), (B9, .cells #[vI vK c, vI vK d, vI vK s, .bool false, vI vK o, vI vK n] 59 (0, 0)), (W.heap.size, .cells (z04 y) 45 (0, 0)), (W.heap.size + 1, .cells #[.int .u8 kb, vI vK lb, vI vK hb] 43 (0, 0)), (W.heap.size + 1 + 1, .cells #[vI vK 0, vI vK 0] 27 (0, 0))] (wz.alloc (.cells #[vI vK c', vI vK c] 3)) := hKz.later ((bF _ _).alloc (Nat.le_refl _) _)
  have hbR : B10 < wz.heap.size := hKz.lt mcS
  refine wpAnyH_ready (rs := [5]) (by kernel_rfl) (by simp) ?_
  refine zC1 (some 55) (.slice (some ⟨wz.heap.size, 0, none⟩) 2 2) (wz.alloc (.cells #[vI vK c', vI vK c] 3)) rfl rfl (by rfl) (by go_simp) hD8 ?_ AllReadyH.nil
  simp only [Act.put, siA, scZ, scS]
  refine z2r (i := 6) (some 56) (vI vK 2) rfl rfl (by kernel_rfl) (by kernel_rfl) (by kernel_rfl) (fun _ _ _ h => h) (by rfl) (fun V hV => by go_simp) hD8 ?_
  simp only [Act.put, siA, scZ, scS]
  refine wpAnyH_done (by kernel_rfl) ?_ _
  generalize (wz.alloc (.cells #[vI vK c', vI vK c] 3)) = w8 at hK8 ⊢
  generalize wz.heap.size = BR at hK8 hbR ⊢
  clear hD hKz hD8 hbz
  have hl8 : BR < w8.heap.size := hK8.lt mcS
  have hs8 : W.heap.size ≤ w8.heap.size := hK8.1.size
  have HF : Hid (∀ x ∈ ([(BR, .cells #[vI vK c', vI vK c] 3 (0, 0)), (B10, .cells #[.int .u8 (kD (y.reg d).k), vI vK (y.reg d).l, vI vK (y.reg d).h] 43 (0, 0)), (B9, .cells #[vI vK c, vI vK d, vI vK s, .bool false, vI vK o, vI vK n] 59 (0, 0)), (W.heap.size, .cells (z04 y) 45 (0, 0)), (W.heap.size + 1, .cells #[.int .u8 kb, vI vK lb, vI vK hb] 43 (0, 0)), (W.heap.size + 1 + 1, .cells #[vI vK 0, vI vK 0] 27 (0, 0))] : List (Nat × Obj)), W.heap.size ≤ x.1 ∧ x.1 < w8.heap.size) := by
   intro x hx
   refine ⟨?_, (Array.getElem?_eq_some_iff.1 (hK8.2 x hx)).1⟩
   simp only [List.mem_cons, List.not_mem_nil, or_false] at hx
   rcases hx with rfl | rfl | rfl | rfl | rfl | rfl <;> (dsimp only; omega)
  have HS0 : Hid (Kp Bl E W w8 ∧ z0x w8 E E ∧ w8.heap.size ≤ w8.heap.size ∧ V 0 E w8 ∧ Blk w8 [(BR, .cells #[vI vK c', vI vK c] 3 (0, 0)), (B10, .cells #[.int .u8 (kD (y.reg d).k), vI vK (y.reg d).l, vI vK (y.reg d).h] 43 (0, 0)), (B9, .cells #[vI vK c, vI vK d, vI vK s, .bool false, vI vK o, vI vK n] 59 (0, 0)), (W.heap.size, .cells (z04 y) 45 (0, 0)), (W.heap.size + 1, .cells #[.int .u8 kb, vI vK lb, vI vK hb] 43 (0, 0)), (W.heap.size + 1 + 1, .cells #[vI vK 0, vI vK 0] 27 (0, 0))] w8) := ⟨Kp.of hK8.1, z0x.refl, Nat.le_refl _, HV0.out w8 hK8.1 (hK8.lt (mcO _ (mcO _ (mcO _ (mcO _ (mcO _ mcS)))))), ⟨bF _ _, hK8.2⟩⟩
  clear hK8
  go_wp2_with fail
  go_loopw [57] (fun iv wr => ∃ (q : Nat) (Eq : Value), iv = vI vK (q : Int) ∧ q ≤ 2 ∧ Hid (Kp Bl E W wr ∧ z0x w8 E Eq ∧ w8.heap.size ≤ wr.heap.size ∧ V q Eq wr ∧ Blk wr [(BR, .cells #[vI vK c', vI vK c] 3 (0, 0)), (B10, .cells #[.int .u8 (kD (y.reg d).k), vI vK (y.reg d).l, vI vK (y.reg d).h] 43 (0, 0)), (B9, .cells #[vI vK c, vI vK d, vI vK s, .bool false, vI vK o, vI vK n] 59 (0, 0)), (W.heap.size, .cells (z04 y) 45 (0, 0)), (W.heap.size + 1, .cells #[.int .u8 kb, vI vK lb, vI vK hb] 43 (0, 0)), (W.heap.size + 1 + 1, .cells #[vI vK 0, vI vK 0] 27 (0, 0))] wr)) (fun iv _ => 2 - (intOf iv).toNat)
  case atStart => exact ⟨0, E, rfl, by omega, HS0.out⟩
  case round =>
   obtain ⟨q, Eq, rfl, hq2, HS⟩ := hrel
   clear HS0
   have hB := HS.out.2.2.2.2
   by_cases hlt : q < 2
   ·have hle : decide ((q : Int) < 2) = true := by simp; omega
    have hq0 : (0 : Int) ≤ (q : Int) := by omega
    have hq2' : (q : Int) < 2 := by omega
    have hcl : wr.cell? ⟨BR, q, none⟩ = some (vI vK (cd c' c q)) := by
     obtain ⟨t0, t1, -, -, -⟩ := row2 (hB.2 _ mcS)
     rcases (show q = 0 ∨ q = 1 by omega) with rfl | rfl
     ·exact t0
     ·exact t1
    generalize hcq : cd c' c q = cq at hcl
    have HCQ : Hid (cd c' c q = cq) := hcq
    clear hcq
    obtain ⟨t0, t1, tf0, tf1, tlt⟩ := row2 (hB.2 _ mcS); obtain ⟨k0, k1, k2, kf0, kf1, kf2, klt⟩ := row3 (hB.2 _ (mcO _ mcS)); obtain ⟨p0, p1, p2, p3, p4, p5, plt⟩ := row6 (hB.2 _ (mcO _ (mcO _ mcS))); have yM : z07 _ W.heap.size _ := (hB.2 _ (mcO _ (mcO _ (mcO _ mcS)))); have ylt := yM.lt; obtain ⟨b0, b1, b2, bf0, bf1, bf2, blt⟩ := row3 (hB.2 _ (mcO _ (mcO _ (mcO _ (mcO _ mcS))))); obtain ⟨r0, r1, rf0, rf1, rlt⟩ := row2 (hB.2 _ (mcO _ (mcO _ (mcO _ (mcO _ (mcO _ mcS))))))
    go_upto_region 10 with (first | (go_at_call 31; go_must (refine (HNR.out cq _).mono ?_; rintro e w2 ⟨rfl, hb2⟩; have hB2 := hB.later hb2)) | fail)
    have hB4 : Blk wr ((w2.heap.size + 1, .cells #[vI vK (yl cq), vI vK (yh cq)] 24 (0, 0)) :: (w2.heap.size, .cells #[vI vK (xl cq), vI vK (xh cq)] 24 (0, 0)) :: [(BR, .cells #[vI vK c', vI vK c] 3 (0, 0)), (B10, .cells #[.int .u8 (kD (y.reg d).k), vI vK (y.reg d).l, vI vK (y.reg d).h] 43 (0, 0)), (B9, .cells #[vI vK c, vI vK d, vI vK s, .bool false, vI vK o, vI vK n] 59 (0, 0)), (W.heap.size, .cells (z04 y) 45 (0, 0)), (W.heap.size + 1, .cells #[.int .u8 kb, vI vK lb, vI vK hb] 43 (0, 0)), (W.heap.size + 1 + 1, .cells #[vI vK 0, vI vK 0] 27 (0, 0))]) ((w2.alloc (.cells #[vI vK (xl cq), vI vK (xh cq)] 24)).alloc (.cells #[vI vK (yl cq), vI vK (yh cq)] 24)) := by
     have h := (hB2.add (.cells #[vI vK (xl cq), vI vK (xh cq)] 24)).add (.cells #[vI vK (yl cq), vI vK (yh cq)] 24)
     have e : (w2.alloc (.cells #[vI vK (xl cq), vI vK (xh cq)] 24)).heap.size = w2.heap.size + 1 := by simp
     rw [e] at h
     exact h
    have hbx : BR < w2.heap.size := hB2.lt mcS
    clear t0 t1 tf0 tf1 tlt k0 k1 k2 kf0 kf1 kf2 klt p0 p1 p2 p3 p4 p5 plt yM ylt b0 b1 b2 bf0 bf1 bf2 blt r0 r1 rf0 rf1 rlt
    clear hcl hB2 hb2 hB
    generalize ((w2.alloc (.cells #[vI vK (xl cq), vI vK (xh cq)] 24)).alloc (.cells #[vI vK (yl cq), vI vK (yh cq)] 24)) = w4 at hB4 ⊢
    generalize w2.heap.size = BX at hB4 hbx ⊢
    cases hok : ok cq
    ·have HOK : Hid (ok cq = false) := hok
     clear hok
     go_wp2_with fail
     go_roundw
     case rel =>
      obtain ⟨h1, h2, h3, h4, h5⟩ := HS.out
      exact ⟨q + 1, Eq, by go_num, by omega, Kp.trans h1 (Kp.of hB4.1) z0x.refl, h2, Nat.le_trans h3 hB4.1.size, HVN.out q Eq wr w4 hlt (by rw [HCQ.out]; exact HOK.out) h4 hB4.1, bF _ _, fun x hx => hB4.2 x (mcO _ (mcO _ hx))⟩
     case measure => simp [intOf]; omega
    ·have HOK : Hid (ok cq = true) := hok
     clear hok
     have yM : z07 w4 W.heap.size y := hB4.2 _ (mcO _ (mcO _ (mcO _ (mcO _ (mcO _ mcS)))))
     go_upto_region 11 with fail
     go_step
     (refine wpList_load_row rfl 45 (.tmp 5) rfl W.heap.size rfl 45 (z04 y) (0, 0) _ yM Tryz.underlying45 rfl (z1e _) ?_)
     simp only [Act.put, siA, scZ, scS]
     (refine z03 rfl (.pointer (some ⟨w4.heap.size, 0, none⟩)) (w4.alloc (.cells Tryz.zeroCells45 45 (0, 0))) (by go_simp; try rfl) ?_); simp only [Act.put, siA, scZ, scS]
     (refine wpList_store_row rfl 45 (.tmp 16) (.tmp 74) rfl w4.heap.size (z04 y) rfl rfl 45 _ (heap_alloc_new _ _) (z1e _) (by rw [z78, z2i]) (z7g _) ?_)
     have hB6 := hB4.mindRow y
     have hwn : wr.heap.size ≤ w4.heap.size := hB4.1.size
     have hbn : BX + 1 < w4.heap.size := hB4.lt mcS
     clear yM
     generalize ((w4.alloc (.cells Tryz.zeroCells45 45 (0, 0))).setRow w4.heap.size (z04 y)) = w6 at hB6 ⊢
     generalize w4.heap.size = BN at hB6 hbn hwn ⊢
     clear hB4
     have nM : z07 w6 BN y := hB6.2 _ mcS
     have nlt := nM.lt
     obtain ⟨y0, y1, yf0, yf1, yylt⟩ := row2 (hB6.2 _ (mcO _ mcS))
     obtain ⟨x0, x1, xf0, xf1, xlt⟩ := row2 (hB6.2 _ (mcO _ (mcO _ mcS)))
     obtain ⟨p0, p1, p2, p3, p4, p5, plt⟩ := row6 (hB6.2 _ (mcO _ (mcO _ (mcO _ (mcO _ (mcO _ mcS))))))
     obtain ⟨n0, n1, n2⟩ := nM.know (d := d) (by omega)
     have nf1 := nM.frozen (d * 3 + 1)
     have nf2 := nM.frozen (d * 3 + 2)
     go_upto_region 16 with fail
     have hB7 : Blk wr ((BN, .cells (z04 (y.putAll d ⟨(y.all d).k, xl cq, xh cq⟩)) 45 (0, 0)) :: [(BR, .cells #[vI vK c', vI vK c] 3 (0, 0)), (B10, .cells #[.int .u8 (kD (y.reg d).k), vI vK (y.reg d).l, vI vK (y.reg d).h] 43 (0, 0)), (B9, .cells #[vI vK c, vI vK d, vI vK s, .bool false, vI vK o, vI vK n] 59 (0, 0)), (W.heap.size, .cells (z04 y) 45 (0, 0)), (W.heap.size + 1, .cells #[.int .u8 kb, vI vK lb, vI vK hb] 43 (0, 0)), (W.heap.size + 1 + 1, .cells #[vI vK 0, vI vK 0] 27 (0, 0))]) ((w6.setCell ⟨BN, d * 3 + 1, none⟩ (vI vK (xl cq))).setCell ⟨BN, d * 3 + 2, none⟩ (vI vK (xh cq))) := by
      have hz : wr.heap.size ≤ BN := hwn
      refine Blk.cons ⟨(hB6.1.setCell hz _).setCell hz _, fun x hx => ?_⟩ (nM.put2 d _ _)
      have hx6 := hB6.2 x (mcO _ (mcO _ (mcO _ hx)))
      have hne : x.1 ≠ BN := by have := (HF.out x hx).2; have := HS.out.2.2.1; omega
      exact (heap_setCell_other _ _ _ _ hne).trans ((heap_setCell_other _ _ _ _ hne).trans hx6)
     clear n0 n1 n2 nf1 nf2
     clear nM nlt y0 y1 yf0 yf1 yylt x0 x1 xf0 xf1 xlt p0 p1 p2 p3 p4 p5 plt hB6
     generalize ((w6.setCell ⟨BN, d * 3 + 1, none⟩ (vI vK (xl cq))).setCell ⟨BN, d * 3 + 2, none⟩ (vI vK (xh cq))) = w7 at hB7 ⊢
     have hX := hB7.1
     have nM : z07 w7 BN (y.putAll d ⟨(y.all d).k, xl cq, xh cq⟩) := hB7.2 _ mcS
     obtain ⟨p0, p1, p2, p3, p4, p5, plt⟩ := row6 (hB7.2 _ (mcO _ (mcO _ (mcO _ mcS))))
     obtain ⟨mq, e4, e5⟩ := HPC.out q hlt
     have hg := HG.out q Eq wr w7 hlt (by rw [HCQ.out]; exact HOK.out) HS.out.2.2.2.1 hX
     try rw [HCQ.out] at hg
     go_step
     (refine z03 rfl (.pointer (some ⟨Bl, 0, none⟩)) w7 (by go_simp; try rfl) ?_); simp only [Act.put, siA, scZ, scS]
     (refine wpList_load_row rfl 45 (.tmp 16) rfl BN rfl 45 (z04 (y.putAll d ⟨(y.all d).k, xl cq, xh cq⟩)) (0, 0) _ nM Tryz.underlying45 rfl (z1e _) ?_)
     simp only [Act.put, siA, scZ, scS]
     (refine z03 rfl (vI vK pc) w7 (by go_simp; try rfl) ?_); simp only [Act.put, siA, scZ, scS]
     (refine z03 rfl (vI vK ((pc : Int) + 1)) w7 (by go_simp; try rfl) ?_); simp only [Act.put, siA, scZ, scS]
     (refine z03 rfl (vI vK q) w7 (by go_simp; try rfl) ?_); simp only [Act.put, siA, scZ, scS]
     (refine z03 rfl (.pointer (some ⟨B9, 4, none⟩)) w7 (by go_simp; try rfl) ?_); simp only [Act.put, siA, scZ, scS]
     (refine z03 rfl (vI vK o) w7 (by go_simp; try rfl) ?_); simp only [Act.put, siA, scZ, scS]
     (refine z03 rfl (vI vK mq) w7 (by go_simp; rw [IntWalk.i64_left]; exact e4) ?_); simp only [Act.put, siA, scZ, scS]
     (refine z03 rfl (vI vK (pq q)) w7 (by go_simp; rw [IntWalk.i64_left]; exact e5) ?_); simp only [Act.put, siA, scZ, scS]
     refine z0d rfl 9 #[.pointer (some ⟨Bl, 0, none⟩), .agg (z04 (y.putAll d ⟨(y.all d).k, xl cq, xh cq⟩)), vI vK (pq q)] (by go_simp; try rfl) hg ?_
     intro v9 w9 hq
     obtain ⟨er, i, rfl, hkp, hT⟩ := hq
     have hB9 : Blk w9 [(BR, .cells #[vI vK c', vI vK c] 3 (0, 0)), (B10, .cells #[.int .u8 (kD (y.reg d).k), vI vK (y.reg d).l, vI vK (y.reg d).h] 43 (0, 0)), (B9, .cells #[vI vK c, vI vK d, vI vK s, .bool false, vI vK o, vI vK n] 59 (0, 0)), (W.heap.size, .cells (z04 y) 45 (0, 0)), (W.heap.size + 1, .cells #[.int .u8 kb, vI vK lb, vI vK hb] 43 (0, 0)), (W.heap.size + 1 + 1, .cells #[vI vK 0, vI vK 0] 27 (0, 0))] w9 := zMc HLK.out HS.out.2.1 HF.out hkp ⟨hB7.1, fun x hx => hB7.2 x (mcO _ hx)⟩
     have hrw : z0x W E Eq := z0x.trans z0x.refl HS.out.2.1 hs8
     have HKW : Hid (Kp Bl E W w9) := Kp.trans (Kp.trans HS.out.1 (Kp.of hX) z0x.refl) hkp hrw
     have hs7 : w8.heap.size ≤ w7.heap.size := Nat.le_trans HS.out.2.2.1 hX.size
     have hs9 : w7.heap.size ≤ w9.heap.size := hkp.size
     have HRO : Hid (z0x w8 E Eq) := HS.out.2.1
     clear nM p0 p1 p2 p3 p4 p5 plt hB7 hg hkp HS
     simp only [Act.put, siA, scZ, scS]
     go_upto_region 17 with fail
     have hB10 := hB9.add (.cells #[vI vK er, vI vK i] 27)
     generalize (w9.alloc (.cells #[vI vK er, vI vK i] 27)) = w10 at hB10 ⊢
     obtain ⟨x0, x1, xf0, xf1, xlt⟩ := row2 (hB10.2 _ mcS)
     obtain ⟨r0, r1, rf0, rf1, rlt⟩ := row2 (hB10.2 _ (mcO _ (mcO _ (mcO _ (mcO _ (mcO _ (mcO _ mcS)))))))
     rcases hT with ⟨e0, hT⟩ | ⟨e0, E', hro, hV⟩
     ·go_wp2_with fail
      exact bodyPost_ret (v := .agg #[vI vK er, vI vK i]) (by simp [results, Tryz.results19, go_sem, *]) rfl ⟨er, i, rfl, z4k (Kp.trans HKW.out (Kp.of hB10.1) z0x.refl) (by omega), Or.inl ⟨by simpa using e0, hT⟩⟩
     ·have HE : Hid (z0x w8 E E' ∧ V (q + 1) E' w10) := ⟨z0x.trans HRO.out hro hs7, HVL.out _ _ _ _ hV hB10.1⟩
      clear hro hV
      go_wp2_with fail
      go_roundw
      case rel => exact ⟨q + 1, E', by go_num, by omega, Kp.trans HKW.out (Kp.of hB10.1) z0x.refl, HE.out.1, Nat.le_trans (Nat.le_trans hs7 hs9) hB10.1.size, HE.out.2, bF _ _, fun x hx => hB10.2 x (mcO _ hx)⟩
      case measure => simp [intOf]; omega
   ·obtain rfl : q = 2 := by omega
    have hle : decide (((2 : Nat) : Int) < 2) = false := by decide
    obtain ⟨h1, h2, h3, h4, h5⟩ := HS.out
    have hr8 := h5.2 _ (mcO _ (mcO _ (mcO _ (mcO _ (mcO _ mcS)))))
    have HX : Hid (Kp Bl E W wr ∧ z0x W E Eq ∧ V 2 Eq wr) := ⟨h1, z0x.trans z0x.refl h2 hs8, h4⟩
    clear HS hB h1 h2 h4 h5
    go_wp2_with (first | (go_at_call 11; go_must (refine (zKz 0 _).mono ?_; rintro e w7 ⟨rfl, hb7⟩; obtain ⟨q0, q1, qf0, qf1, qlt⟩ := row2 ((hb7.block _ (Array.getElem?_eq_some_iff.1 hr8).1).trans hr8))) | fail)
    exact bodyPost_ret (v := .agg #[vI vK 0, vI vK (-1)]) (by simp [results, Tryz.results19, go_sem, *]) rfl ⟨0, -1, rfl, z4k (Kp.trans HX.out.1 (Kp.of hb7) z0x.refl) (by omega), Or.inr ⟨rfl, Eq, HX.out.2.1, w7, HVL.out _ _ _ _ HX.out.2.2 hb7, z5e⟩⟩
 |clear qq5
  have hr := hr.out
  subst hr
  go_upto_region 27 with fail
  clear k0 k1 k2 kf0 kf1 kf2 klt p0 p1 p2 p3 p4 p5 plt yM ylt b0 b1 b2 bf0 bf1 bf2 blt r0 r1 rf0 rf1 rlt
  refine z0n (C := Blk W [(B10, .cells #[.int .u8 (kD (y.reg d).k), vI vK (y.reg d).l, vI vK (y.reg d).h] 43 (0, 0)), (B9, .cells #[vI vK c, vI vK d, vI vK s, .bool false, vI vK o, vI vK n] 59 (0, 0)), (W.heap.size, .cells (z04 y) 45 (0, 0)), (W.heap.size + 1, .cells #[.int .u8 kb, vI vK lb, vI vK hb] 43 (0, 0)), (W.heap.size + 1 + 1, .cells #[vI vK 0, vI vK 0] 27 (0, 0))]) (n0 := W.heap.size) 4 [] [] (by kernel_rfl) (by kernel_rfl) (fun d _ _ _ _ h => by cases d <;> exact h) (Blk.stable _ _) (fun w2 h => h.1.size) hK5.drew trivial ?_
  simp only [List.take_succ_cons, List.take_zero, List.drop_succ_cons, List.drop_zero, List.length_nil, Nat.reduceAdd]
  repeat (first
   | (refine z0k (by rfl) ?_; simp only [Act.put, siA, scZ, scS])
   | (refine z0b (by rfl) (v := ?_) ?_ ?_; rotate_left; (intro w2 hC; obtain ⟨k0, k1, k2, kf0, kf1, kf2, klt⟩ := row3 (hC.2 _ mcS); obtain ⟨p0, p1, p2, p3, p4, p5, plt⟩ := row6 (hC.2 _ (mcO _ mcS)); have yM : z07 _ W.heap.size _ := (hC.2 _ (mcO _ (mcO _ mcS))); have ylt := yM.lt; obtain ⟨b0, b1, b2, bf0, bf1, bf2, blt⟩ := row3 (hC.2 _ (mcO _ (mcO _ (mcO _ mcS)))); obtain ⟨r0, r1, rf0, rf1, rlt⟩ := row2 (hC.2 _ (mcO _ (mcO _ (mcO _ (mcO _ mcS))))); go_simp; try with_reducible rfl); simp only [Act.put, siA, scZ, scS])
   | (refine z0p (by rfl) ?_; apply Exists.intro; refine ⟨fun w2 hC => ?_, ?_⟩; (obtain ⟨k0, k1, k2, kf0, kf1, kf2, klt⟩ := row3 (hC.2 _ mcS); obtain ⟨p0, p1, p2, p3, p4, p5, plt⟩ := row6 (hC.2 _ (mcO _ mcS)); have yM : z07 _ W.heap.size _ := (hC.2 _ (mcO _ (mcO _ mcS))); have ylt := yM.lt; obtain ⟨b0, b1, b2, bf0, bf1, bf2, blt⟩ := row3 (hC.2 _ (mcO _ (mcO _ (mcO _ mcS)))); obtain ⟨r0, r1, rf0, rf1, rlt⟩ := row2 (hC.2 _ (mcO _ (mcO _ (mcO _ (mcO _ mcS))))); go_simp; apply z0v; first | (go_at_call 8; exact z26 0 w2)); simp only [Act.put, siA, scZ, scS]))
  refine z0t ?_
  intro w6 hC hB
  obtain ⟨k0, k1, k2, kf0, kf1, kf2, klt⟩ := row3 (hC.2 _ mcS); obtain ⟨p0, p1, p2, p3, p4, p5, plt⟩ := row6 (hC.2 _ (mcO _ mcS)); have yM : z07 _ W.heap.size _ := (hC.2 _ (mcO _ (mcO _ mcS))); have ylt := yM.lt; obtain ⟨b0, b1, b2, bf0, bf1, bf2, blt⟩ := row3 (hC.2 _ (mcO _ (mcO _ (mcO _ mcS)))); obtain ⟨r0, r1, rf0, rf1, rlt⟩ := row2 (hC.2 _ (mcO _ (mcO _ (mcO _ (mcO _ mcS)))))
  obtain ⟨n0, n1, n2⟩ := yM.know (d := d) (by omega)
  have nf0 := yM.frozen (d * 3)
  have nf1 := yM.frozen (d * 3 + 1)
  have nf2 := yM.frozen (d * 3 + 2)
  go_upto_region 28 with fail
  have hK6 : Blk W [(B10, .cells #[.int .u8 (kD (y.reg d).k), vI vK (y.reg d).l, vI vK (y.reg d).h] 43 (0, 0)), (B9, .cells #[vI vK c, vI vK d, vI vK s, .bool false, vI vK o, vI vK n] 59 (0, 0)), (W.heap.size, .cells (z04 (y.putReg d ⟨1, 0, 0⟩)) 45 (0, 0)), (W.heap.size + 1 + 1, .cells #[vI vK 0, vI vK 0] 27 (0, 0))] (((w6.setCell ⟨W.heap.size, d * 3, none⟩ (.int .u8 (kD 1))).setCell ⟨W.heap.size, d * 3 + 1, none⟩ (vI vK 0)).setCell ⟨W.heap.size, d * 3 + 2, none⟩ (vI vK 0)) := by
   rw [← z25 hd]
   exact ((((Blk.nil (((hC.1.setCell (Nat.le_refl _) _).setCell (Nat.le_refl _) _).setCell (Nat.le_refl _) _)).cons (off3 (hC.2 _ (mcO _ (mcO _ (mcO _ (mcO _ mcS))))) (by omega))).cons (yM.put3 d ⟨1, 0, 0⟩)).cons (off3 (hC.2 _ (mcO _ mcS)) (by omega))).cons (off3 (hC.2 _ mcS) (by omega))
  have hk1 : kD 1 = 110 := rfl
  rw [hk1] at hK6
  clear hk1
  generalize (((w6.setCell ⟨W.heap.size, d * 3, none⟩ (.int .u8 110)).setCell ⟨W.heap.size, d * 3 + 1, none⟩ (vI vK 0)).setCell ⟨W.heap.size, d * 3 + 2, none⟩ (vI vK 0)) = w7 at hK6 ⊢
  clear k0 k1 k2 kf0 kf1 kf2 klt p0 p1 p2 p3 p4 p5 plt yM ylt b0 b1 b2 bf0 bf1 bf2 blt r0 r1 rf0 rf1 rlt
  clear n0 n1 n2 nf0 nf1 nf2 hC hB hK5
  have hX := hK6.1
  have hR := hK6.2 _ (mcO _ (mcO _ (mcO _ mcS)))
  have hS := hK6.2 _ (mcO _ mcS)
  have hM := hK6.2 _ (mcO _ (mcO _ mcS))
  have yM' : z07 _ W.heap.size (y.putReg d ⟨1, 0, 0⟩) := hM
  go_step
  (refine z03 rfl (.pointer (some ⟨Bl, 0, none⟩)) w7 (by go_simp; try rfl) ?_); simp only [Act.put, siA, scZ, scS]
  (refine wpList_load_row rfl 45 (.tmp 5) rfl W.heap.size rfl 45 (z04 (y.putReg d ⟨1, 0, 0⟩)) (0, 0) _ yM' Tryz.underlying45 rfl (z1e _) ?_)
  simp only [Act.put, siA, scZ, scS]
  (refine z03 rfl (vI vK ((pc : Int) + 1)) w7 (by go_simp; try rfl) ?_); simp only [Act.put, siA, scZ, scS]
  refine z0d rfl 9 #[.pointer (some ⟨Bl, 0, none⟩), .agg (z04 (y.putReg d ⟨1, 0, 0⟩)), vI vK ((pc : Int) + 1)] (by go_simp; try rfl) (HG1.out w7 hX (Array.getElem?_eq_some_iff.1 hR).1) ?_
  intro v9 w9 hq
  obtain ⟨er, i, rfl, hkp, hT⟩ := hq
  have hR9 := z7v HLK.out (by omega) hkp hR
  have hS9 := z7v HLK.out (by omega) hkp hS
  have hM9 := z7v HLK.out (by omega) hkp hM
  have hK9 : Blk w9 [(B9, .cells #[vI vK c, vI vK d, vI vK s, .bool false, vI vK o, vI vK n] 59 (0, 0)), (W.heap.size, .cells (z04 (y.putReg d ⟨1, 0, 0⟩)) 45 (0, 0)), (W.heap.size + 1 + 1, .cells #[vI vK 0, vI vK 0] 27 (0, 0))] w9 := (((Blk.nil (bF _ _)).cons hR9).cons hM9).cons hS9
  have hlt7 : W.heap.size + 1 + 1 < w7.heap.size := hK6.lt (mcO _ (mcO _ (mcO _ mcS)))
  have HKW : Hid (Kp Bl E W w9) := Kp.trans (Kp.of hX) hkp z0x.refl
  have hs9 : W.heap.size ≤ w9.heap.size := HKW.out.size
  clear yM' hR9 hS9 hM9 hR hS hM hkp
  simp only [Act.put, siA, scZ, scS]
  go_upto_region 29 with fail
  have hK10 : Blk w9 [(w9.heap.size, .cells #[vI vK er, vI vK i] 27 (0, 0)), (B9, .cells #[vI vK c, vI vK d, vI vK s, .bool false, vI vK o, vI vK n] 59 (0, 0)), (W.heap.size, .cells (z04 (y.putReg d ⟨1, 0, 0⟩)) 45 (0, 0)), (W.heap.size + 1 + 1, .cells #[vI vK 0, vI vK 0] 27 (0, 0))] _ := hK9.add (.cells #[vI vK er, vI vK i] 27)
  generalize (w9.alloc (.cells #[vI vK er, vI vK i] 27)) = w10 at hK10 ⊢
  clear hK9
  rcases hT with ⟨e0, hT⟩ | ⟨e0, E', hro, hU⟩
  ·obtain ⟨x0, x1, xf0, xf1, xlt⟩ := row2 (hK10.2 _ mcS); obtain ⟨p0, p1, p2, p3, p4, p5, plt⟩ := row6 (hK10.2 _ (mcO _ mcS)); have yM : z07 _ W.heap.size _ := (hK10.2 _ (mcO _ (mcO _ mcS))); have ylt := yM.lt; obtain ⟨r0, r1, rf0, rf1, rlt⟩ := row2 (hK10.2 _ (mcO _ (mcO _ (mcO _ mcS))))
   go_wp2_with fail
   exact bodyPost_ret (v := .agg #[vI vK er, vI vK i]) (by simp [results, Tryz.results19, go_sem, *]) rfl ⟨er, i, rfl, z4k (Kp.trans HKW.out (Kp.of hK10.1) z0x.refl) (by omega), Or.inl ⟨by simpa using e0, hT⟩⟩
  ·obtain ⟨x0, x1, xf0, xf1, xlt⟩ := row2 (hK10.2 _ mcS); obtain ⟨p0, p1, p2, p3, p4, p5, plt⟩ := row6 (hK10.2 _ (mcO _ mcS)); have yM : z07 _ W.heap.size _ := (hK10.2 _ (mcO _ (mcO _ mcS))); have ylt := yM.lt; obtain ⟨r0, r1, rf0, rf1, rlt⟩ := row2 (hK10.2 _ (mcO _ (mcO _ (mcO _ mcS))))
   go_upto_region 31 with fail
   clear x0 x1 xf0 xf1 xlt p0 p1 p2 p3 p4 p5 plt yM ylt r0 r1 rf0 rf1 rlt
   refine z0n (C := Blk w9 [(w9.heap.size, .cells #[vI vK er, vI vK i] 27 (0, 0)), (B9, .cells #[vI vK c, vI vK d, vI vK s, .bool false, vI vK o, vI vK n] 59 (0, 0)), (W.heap.size, .cells (z04 (y.putReg d ⟨1, 0, 0⟩)) 45 (0, 0)), (W.heap.size + 1 + 1, .cells #[vI vK 0, vI vK 0] 27 (0, 0))]) (n0 := w9.heap.size) 4 [] [] (by kernel_rfl) (by kernel_rfl) (fun d _ _ _ _ h => by cases d <;> exact h) (Blk.stable _ _) (fun w2 h => h.1.size) hK10.drew trivial ?_
   simp only [List.take_succ_cons, List.take_zero, List.drop_succ_cons, List.drop_zero, List.length_nil, Nat.reduceAdd]
   repeat (first
    | (refine z0k (by rfl) ?_; simp only [Act.put, siA, scZ, scS])
    | (refine z0b (by rfl) (v := ?_) ?_ ?_; rotate_left; (intro w2 hC; obtain ⟨x0, x1, xf0, xf1, xlt⟩ := row2 (hC.2 _ mcS); obtain ⟨p0, p1, p2, p3, p4, p5, plt⟩ := row6 (hC.2 _ (mcO _ mcS)); have yM : z07 _ W.heap.size _ := (hC.2 _ (mcO _ (mcO _ mcS))); have ylt := yM.lt; obtain ⟨r0, r1, rf0, rf1, rlt⟩ := row2 (hC.2 _ (mcO _ (mcO _ (mcO _ mcS)))); go_simp; try with_reducible rfl); simp only [Act.put, siA, scZ, scS])
    | (refine z0p (by rfl) ?_; apply Exists.intro; refine ⟨fun w2 hC => ?_, ?_⟩; (obtain ⟨x0, x1, xf0, xf1, xlt⟩ := row2 (hC.2 _ mcS); obtain ⟨p0, p1, p2, p3, p4, p5, plt⟩ := row6 (hC.2 _ (mcO _ mcS)); have yM : z07 _ W.heap.size _ := (hC.2 _ (mcO _ (mcO _ mcS))); have ylt := yM.lt; obtain ⟨r0, r1, rf0, rf1, rlt⟩ := row2 (hC.2 _ (mcO _ (mcO _ (mcO _ mcS)))); go_simp; apply z0v; first | (go_at_call 8; exact z26 0 w2)); simp only [Act.put, siA, scZ, scS]))
   refine z0t ?_
   intro w11 hC hB
   obtain ⟨x0, x1, xf0, xf1, xlt⟩ := row2 (hC.2 _ mcS); obtain ⟨p0, p1, p2, p3, p4, p5, plt⟩ := row6 (hC.2 _ (mcO _ mcS)); have yM : z07 _ W.heap.size _ := (hC.2 _ (mcO _ (mcO _ mcS))); have ylt := yM.lt; obtain ⟨r0, r1, rf0, rf1, rlt⟩ := row2 (hC.2 _ (mcO _ (mcO _ (mcO _ mcS))))
   obtain ⟨n0, n1, n2⟩ := yM.know (d := d) (by omega)
   have nf0 := yM.frozen (d * 3)
   have nf1 := yM.frozen (d * 3 + 1)
   have nf2 := yM.frozen (d * 3 + 2)
   have hu := hC.1
   have hy1 : z07 (((w11.setCell ⟨W.heap.size, d * 3, none⟩ (.int .u8 (kD 4))).setCell ⟨W.heap.size, d * 3 + 1, none⟩ (vI vK 0)).setCell ⟨W.heap.size, d * 3 + 2, none⟩ (vI vK 0)) W.heap.size (y.putReg d ⟨4, 0, 0⟩) := by rw [← zCg]; rw [← z25 hd, ← z25 hd] at *; exact yM.put3 d ⟨4, 0, 0⟩
   have ho : z24 W.heap.size w11 (((w11.setCell ⟨W.heap.size, d * 3, none⟩ (.int .u8 (kD 4))).setCell ⟨W.heap.size, d * 3 + 1, none⟩ (vI vK 0)).setCell ⟨W.heap.size, d * 3 + 2, none⟩ (vI vK 0)) := only3
   have hr11 : (((w11.setCell ⟨W.heap.size, d * 3, none⟩ (.int .u8 (kD 4))).setCell ⟨W.heap.size, d * 3 + 1, none⟩ (vI vK 0)).setCell ⟨W.heap.size, d * 3 + 2, none⟩ (vI vK 0)).heap[W.heap.size + 1 + 1]? = _ := off3 (hC.2 _ (mcO _ (mcO _ (mcO _ mcS)))) (by omega)
   have hk1 : kD 4 = 99 := rfl
   rw [hk1] at hy1 ho hr11
   clear hk1
   go_upto_region 32 with fail
   generalize (((w11.setCell ⟨W.heap.size, d * 3, none⟩ (.int .u8 99)).setCell ⟨W.heap.size, d * 3 + 1, none⟩ (vI vK 0)).setCell ⟨W.heap.size, d * 3 + 2, none⟩ (vI vK 0)) = w12 at hy1 ho hr11 ⊢
   have hkw := zQm HKW.out hu ho
   have HG := HG2.out E' w9 w11 w12 hU hu ho yM hkw
   clear x0 x1 xf0 xf1 xlt p0 p1 p2 p3 p4 p5 plt yM ylt r0 r1 rf0 rf1 rlt
   clear n0 n1 n2 nf0 nf1 nf2 hC hB hK10
   go_step
   (refine z03 rfl (.pointer (some ⟨Bl, 0, none⟩)) w12 (by go_simp; try rfl) ?_); simp only [Act.put, siA, scZ, scS]
   (refine wpList_load_row rfl 45 (.tmp 5) rfl W.heap.size rfl 45 (z04 (y.putReg d ⟨4, 0, 0⟩)) (0, 0) _ hy1 Tryz.underlying45 rfl (z1e _) ?_)
   simp only [Act.put, siA, scZ, scS]
   (refine z03 rfl (vI vK (pc' : Int)) w12 (by go_simp; try rfl) ?_); simp only [Act.put, siA, scZ, scS]
   refine z0d rfl 9 #[.pointer (some ⟨Bl, 0, none⟩), .agg (z04 (y.putReg d ⟨4, 0, 0⟩)), vI vK (pc' : Int)] (by go_simp; try rfl) HG ?_
   intro v13 w13 hq
   obtain ⟨er2, i2, rfl, hkp, hT⟩ := hq
   have hR9 := zF8 HLK.out hro (by omega) hlt7 hkp hr11
   obtain ⟨q0, q1, qf0, qf1, qlt⟩ := row2 hR9
   simp only [Act.put, siA, scZ, scS]
   go_wp2_with fail
   have hrw : z0x W E E' := z0x.trans z0x.refl hro (by omega)
   exact bodyPost_ret (v := .agg #[vI vK er2, vI vK i2]) (by simp [results, Tryz.results19, go_sem, *]) rfl ⟨er2, i2, rfl, z4k (Kp.trans hkw hkp hrw) (by omega), Or.inr ⟨E', hrw, w13, hT, z5e⟩⟩
 |clear qq6
  have hr := hr.out
  subst hr
  go_upto_region 27 with fail
  clear k0 k1 k2 kf0 kf1 kf2 klt p0 p1 p2 p3 p4 p5 plt yM ylt b0 b1 b2 bf0 bf1 bf2 blt r0 r1 rf0 rf1 rlt
  refine z0n (C := Blk W [(B10, .cells #[.int .u8 (kD (y.reg d).k), vI vK (y.reg d).l, vI vK (y.reg d).h] 43 (0, 0)), (B9, .cells #[vI vK c, vI vK d, vI vK s, .bool false, vI vK o, vI vK n] 59 (0, 0)), (W.heap.size, .cells (z04 y) 45 (0, 0)), (W.heap.size + 1, .cells #[.int .u8 kb, vI vK lb, vI vK hb] 43 (0, 0)), (W.heap.size + 1 + 1, .cells #[vI vK 0, vI vK 0] 27 (0, 0))]) (n0 := W.heap.size) 4 [] [] (by kernel_rfl) (by kernel_rfl) (fun d _ _ _ _ h => by cases d <;> exact h) (Blk.stable _ _) (fun w2 h => h.1.size) hK5.drew trivial ?_
  simp only [List.take_succ_cons, List.take_zero, List.drop_succ_cons, List.drop_zero, List.length_nil, Nat.reduceAdd]
  repeat (first
   | (refine z0k (by rfl) ?_; simp only [Act.put, siA, scZ, scS])
   | (refine z0b (by rfl) (v := ?_) ?_ ?_; rotate_left; (intro w2 hC; obtain ⟨k0, k1, k2, kf0, kf1, kf2, klt⟩ := row3 (hC.2 _ mcS); obtain ⟨p0, p1, p2, p3, p4, p5, plt⟩ := row6 (hC.2 _ (mcO _ mcS)); have yM : z07 _ W.heap.size _ := (hC.2 _ (mcO _ (mcO _ mcS))); have ylt := yM.lt; obtain ⟨b0, b1, b2, bf0, bf1, bf2, blt⟩ := row3 (hC.2 _ (mcO _ (mcO _ (mcO _ mcS)))); obtain ⟨r0, r1, rf0, rf1, rlt⟩ := row2 (hC.2 _ (mcO _ (mcO _ (mcO _ (mcO _ mcS))))); go_simp; try with_reducible rfl); simp only [Act.put, siA, scZ, scS])
   | (refine z0p (by rfl) ?_; apply Exists.intro; refine ⟨fun w2 hC => ?_, ?_⟩; (obtain ⟨k0, k1, k2, kf0, kf1, kf2, klt⟩ := row3 (hC.2 _ mcS); obtain ⟨p0, p1, p2, p3, p4, p5, plt⟩ := row6 (hC.2 _ (mcO _ mcS)); have yM : z07 _ W.heap.size _ := (hC.2 _ (mcO _ (mcO _ mcS))); have ylt := yM.lt; obtain ⟨b0, b1, b2, bf0, bf1, bf2, blt⟩ := row3 (hC.2 _ (mcO _ (mcO _ (mcO _ mcS)))); obtain ⟨r0, r1, rf0, rf1, rlt⟩ := row2 (hC.2 _ (mcO _ (mcO _ (mcO _ (mcO _ mcS))))); go_simp; apply z0v; first | (go_at_call 8; exact z26 0 w2)); simp only [Act.put, siA, scZ, scS]))
  refine z0t ?_
  intro w6 hC hB
  obtain ⟨k0, k1, k2, kf0, kf1, kf2, klt⟩ := row3 (hC.2 _ mcS); obtain ⟨p0, p1, p2, p3, p4, p5, plt⟩ := row6 (hC.2 _ (mcO _ mcS)); have yM : z07 _ W.heap.size _ := (hC.2 _ (mcO _ (mcO _ mcS))); have ylt := yM.lt; obtain ⟨b0, b1, b2, bf0, bf1, bf2, blt⟩ := row3 (hC.2 _ (mcO _ (mcO _ (mcO _ mcS)))); obtain ⟨r0, r1, rf0, rf1, rlt⟩ := row2 (hC.2 _ (mcO _ (mcO _ (mcO _ (mcO _ mcS)))))
  obtain ⟨n0, n1, n2⟩ := yM.know (d := d) (by omega)
  have nf0 := yM.frozen (d * 3)
  have nf1 := yM.frozen (d * 3 + 1)
  have nf2 := yM.frozen (d * 3 + 2)
  go_upto_region 28 with fail
  have hK6 : Blk W [(B10, .cells #[.int .u8 (kD (y.reg d).k), vI vK (y.reg d).l, vI vK (y.reg d).h] 43 (0, 0)), (B9, .cells #[vI vK c, vI vK d, vI vK s, .bool false, vI vK o, vI vK n] 59 (0, 0)), (W.heap.size, .cells (z04 (y.putReg d ⟨1, 0, 0⟩)) 45 (0, 0)), (W.heap.size + 1 + 1, .cells #[vI vK 0, vI vK 0] 27 (0, 0))] (((w6.setCell ⟨W.heap.size, d * 3, none⟩ (.int .u8 (kD 1))).setCell ⟨W.heap.size, d * 3 + 1, none⟩ (vI vK 0)).setCell ⟨W.heap.size, d * 3 + 2, none⟩ (vI vK 0)) := by
   rw [← z25 hd]
   exact ((((Blk.nil (((hC.1.setCell (Nat.le_refl _) _).setCell (Nat.le_refl _) _).setCell (Nat.le_refl _) _)).cons (off3 (hC.2 _ (mcO _ (mcO _ (mcO _ (mcO _ mcS))))) (by omega))).cons (yM.put3 d ⟨1, 0, 0⟩)).cons (off3 (hC.2 _ (mcO _ mcS)) (by omega))).cons (off3 (hC.2 _ mcS) (by omega))
  have hk1 : kD 1 = 110 := rfl
  rw [hk1] at hK6
  clear hk1
  generalize (((w6.setCell ⟨W.heap.size, d * 3, none⟩ (.int .u8 110)).setCell ⟨W.heap.size, d * 3 + 1, none⟩ (vI vK 0)).setCell ⟨W.heap.size, d * 3 + 2, none⟩ (vI vK 0)) = w7 at hK6 ⊢
  clear k0 k1 k2 kf0 kf1 kf2 klt p0 p1 p2 p3 p4 p5 plt yM ylt b0 b1 b2 bf0 bf1 bf2 blt r0 r1 rf0 rf1 rlt
  clear n0 n1 n2 nf0 nf1 nf2 hC hB hK5
  have hX := hK6.1
  have hR := hK6.2 _ (mcO _ (mcO _ (mcO _ mcS)))
  have hS := hK6.2 _ (mcO _ mcS)
  have hM := hK6.2 _ (mcO _ (mcO _ mcS))
  have yM' : z07 _ W.heap.size (y.putReg d ⟨1, 0, 0⟩) := hM
  go_step
  (refine z03 rfl (.pointer (some ⟨Bl, 0, none⟩)) w7 (by go_simp; try rfl) ?_); simp only [Act.put, siA, scZ, scS]
  (refine wpList_load_row rfl 45 (.tmp 5) rfl W.heap.size rfl 45 (z04 (y.putReg d ⟨1, 0, 0⟩)) (0, 0) _ yM' Tryz.underlying45 rfl (z1e _) ?_)
  simp only [Act.put, siA, scZ, scS]
  (refine z03 rfl (vI vK (pc' : Int)) w7 (by go_simp; try rfl) ?_); simp only [Act.put, siA, scZ, scS]
  refine z0d rfl 9 #[.pointer (some ⟨Bl, 0, none⟩), .agg (z04 (y.putReg d ⟨1, 0, 0⟩)), vI vK (pc' : Int)] (by go_simp; try rfl) (HG1.out w7 hX (Array.getElem?_eq_some_iff.1 hR).1) ?_
  intro v9 w9 hq
  obtain ⟨er, i, rfl, hkp, hT⟩ := hq
  have hR9 := z7v HLK.out (by omega) hkp hR
  have hS9 := z7v HLK.out (by omega) hkp hS
  have hM9 := z7v HLK.out (by omega) hkp hM
  have hK9 : Blk w9 [(B9, .cells #[vI vK c, vI vK d, vI vK s, .bool false, vI vK o, vI vK n] 59 (0, 0)), (W.heap.size, .cells (z04 (y.putReg d ⟨1, 0, 0⟩)) 45 (0, 0)), (W.heap.size + 1 + 1, .cells #[vI vK 0, vI vK 0] 27 (0, 0))] w9 := (((Blk.nil (bF _ _)).cons hR9).cons hM9).cons hS9
  have hlt7 : W.heap.size + 1 + 1 < w7.heap.size := hK6.lt (mcO _ (mcO _ (mcO _ mcS)))
  have HKW : Hid (Kp Bl E W w9) := Kp.trans (Kp.of hX) hkp z0x.refl
  have hs9 : W.heap.size ≤ w9.heap.size := HKW.out.size
  clear yM' hR9 hS9 hM9 hR hS hM hkp
  simp only [Act.put, siA, scZ, scS]
  go_upto_region 29 with fail
  have hK10 : Blk w9 [(w9.heap.size, .cells #[vI vK er, vI vK i] 27 (0, 0)), (B9, .cells #[vI vK c, vI vK d, vI vK s, .bool false, vI vK o, vI vK n] 59 (0, 0)), (W.heap.size, .cells (z04 (y.putReg d ⟨1, 0, 0⟩)) 45 (0, 0)), (W.heap.size + 1 + 1, .cells #[vI vK 0, vI vK 0] 27 (0, 0))] _ := hK9.add (.cells #[vI vK er, vI vK i] 27)
  generalize (w9.alloc (.cells #[vI vK er, vI vK i] 27)) = w10 at hK10 ⊢
  clear hK9
  rcases hT with ⟨e0, hT⟩ | ⟨e0, E', hro, hU⟩
  ·obtain ⟨x0, x1, xf0, xf1, xlt⟩ := row2 (hK10.2 _ mcS); obtain ⟨p0, p1, p2, p3, p4, p5, plt⟩ := row6 (hK10.2 _ (mcO _ mcS)); have yM : z07 _ W.heap.size _ := (hK10.2 _ (mcO _ (mcO _ mcS))); have ylt := yM.lt; obtain ⟨r0, r1, rf0, rf1, rlt⟩ := row2 (hK10.2 _ (mcO _ (mcO _ (mcO _ mcS))))
   go_wp2_with fail
   exact bodyPost_ret (v := .agg #[vI vK er, vI vK i]) (by simp [results, Tryz.results19, go_sem, *]) rfl ⟨er, i, rfl, z4k (Kp.trans HKW.out (Kp.of hK10.1) z0x.refl) (by omega), Or.inl ⟨by simpa using e0, hT⟩⟩
  ·obtain ⟨x0, x1, xf0, xf1, xlt⟩ := row2 (hK10.2 _ mcS); obtain ⟨p0, p1, p2, p3, p4, p5, plt⟩ := row6 (hK10.2 _ (mcO _ mcS)); have yM : z07 _ W.heap.size _ := (hK10.2 _ (mcO _ (mcO _ mcS))); have ylt := yM.lt; obtain ⟨r0, r1, rf0, rf1, rlt⟩ := row2 (hK10.2 _ (mcO _ (mcO _ (mcO _ mcS))))
   go_upto_region 31 with fail
   clear x0 x1 xf0 xf1 xlt p0 p1 p2 p3 p4 p5 plt yM ylt r0 r1 rf0 rf1 rlt
   refine z0n (C := Blk w9 [(w9.heap.size, .cells #[vI vK er, vI vK i] 27 (0, 0)), (B9, .cells #[vI vK c, vI vK d, vI vK s, .bool false, vI vK o, vI vK n] 59 (0, 0)), (W.heap.size, .cells (z04 (y.putReg d ⟨1, 0, 0⟩)) 45 (0, 0)), (W.heap.size + 1 + 1, .cells #[vI vK 0, vI vK 0] 27 (0, 0))]) (n0 := w9.heap.size) 4 [] [] (by kernel_rfl) (by kernel_rfl) (fun d _ _ _ _ h => by cases d <;> exact h) (Blk.stable _ _) (fun w2 h => h.1.size) hK10.drew trivial ?_
   simp only [List.take_succ_cons, List.take_zero, List.drop_succ_cons, List.drop_zero, List.length_nil, Nat.reduceAdd]
   repeat (first
    | (refine z0k (by rfl) ?_; simp only [Act.put, siA, scZ, scS])
    | (refine z0b (by rfl) (v := ?_) ?_ ?_; rotate_left; (intro w2 hC; obtain ⟨x0, x1, xf0, xf1, xlt⟩ := row2 (hC.2 _ mcS); obtain ⟨p0, p1, p2, p3, p4, p5, plt⟩ := row6 (hC.2 _ (mcO _ mcS)); have yM : z07 _ W.heap.size _ := (hC.2 _ (mcO _ (mcO _ mcS))); have ylt := yM.lt; obtain ⟨r0, r1, rf0, rf1, rlt⟩ := row2 (hC.2 _ (mcO _ (mcO _ (mcO _ mcS)))); go_simp; try with_reducible rfl); simp only [Act.put, siA, scZ, scS])
    | (refine z0p (by rfl) ?_; apply Exists.intro; refine ⟨fun w2 hC => ?_, ?_⟩; (obtain ⟨x0, x1, xf0, xf1, xlt⟩ := row2 (hC.2 _ mcS); obtain ⟨p0, p1, p2, p3, p4, p5, plt⟩ := row6 (hC.2 _ (mcO _ mcS)); have yM : z07 _ W.heap.size _ := (hC.2 _ (mcO _ (mcO _ mcS))); have ylt := yM.lt; obtain ⟨r0, r1, rf0, rf1, rlt⟩ := row2 (hC.2 _ (mcO _ (mcO _ (mcO _ mcS)))); go_simp; apply z0v; first | (go_at_call 8; exact z26 0 w2)); simp only [Act.put, siA, scZ, scS]))
   refine z0t ?_
   intro w11 hC hB
   obtain ⟨x0, x1, xf0, xf1, xlt⟩ := row2 (hC.2 _ mcS); obtain ⟨p0, p1, p2, p3, p4, p5, plt⟩ := row6 (hC.2 _ (mcO _ mcS)); have yM : z07 _ W.heap.size _ := (hC.2 _ (mcO _ (mcO _ mcS))); have ylt := yM.lt; obtain ⟨r0, r1, rf0, rf1, rlt⟩ := row2 (hC.2 _ (mcO _ (mcO _ (mcO _ mcS))))
   obtain ⟨n0, n1, n2⟩ := yM.know (d := d) (by omega)
   have nf0 := yM.frozen (d * 3)
   have nf1 := yM.frozen (d * 3 + 1)
   have nf2 := yM.frozen (d * 3 + 2)
   have hu := hC.1
   have hy1 : z07 (((w11.setCell ⟨W.heap.size, d * 3, none⟩ (.int .u8 (kD 4))).setCell ⟨W.heap.size, d * 3 + 1, none⟩ (vI vK 0)).setCell ⟨W.heap.size, d * 3 + 2, none⟩ (vI vK 0)) W.heap.size (y.putReg d ⟨4, 0, 0⟩) := by rw [← zCg]; rw [← z25 hd, ← z25 hd] at *; exact yM.put3 d ⟨4, 0, 0⟩
   have ho : z24 W.heap.size w11 (((w11.setCell ⟨W.heap.size, d * 3, none⟩ (.int .u8 (kD 4))).setCell ⟨W.heap.size, d * 3 + 1, none⟩ (vI vK 0)).setCell ⟨W.heap.size, d * 3 + 2, none⟩ (vI vK 0)) := only3
   have hr11 : (((w11.setCell ⟨W.heap.size, d * 3, none⟩ (.int .u8 (kD 4))).setCell ⟨W.heap.size, d * 3 + 1, none⟩ (vI vK 0)).setCell ⟨W.heap.size, d * 3 + 2, none⟩ (vI vK 0)).heap[W.heap.size + 1 + 1]? = _ := off3 (hC.2 _ (mcO _ (mcO _ (mcO _ mcS)))) (by omega)
   have hk1 : kD 4 = 99 := rfl
   rw [hk1] at hy1 ho hr11
   clear hk1
   go_upto_region 32 with fail
   generalize (((w11.setCell ⟨W.heap.size, d * 3, none⟩ (.int .u8 99)).setCell ⟨W.heap.size, d * 3 + 1, none⟩ (vI vK 0)).setCell ⟨W.heap.size, d * 3 + 2, none⟩ (vI vK 0)) = w12 at hy1 ho hr11 ⊢
   have hkw := zQm HKW.out hu ho
   have HG := HG2.out E' w9 w11 w12 hU hu ho yM hkw
   clear x0 x1 xf0 xf1 xlt p0 p1 p2 p3 p4 p5 plt yM ylt r0 r1 rf0 rf1 rlt
   clear n0 n1 n2 nf0 nf1 nf2 hC hB hK10
   go_step
   (refine z03 rfl (.pointer (some ⟨Bl, 0, none⟩)) w12 (by go_simp; try rfl) ?_); simp only [Act.put, siA, scZ, scS]
   (refine wpList_load_row rfl 45 (.tmp 5) rfl W.heap.size rfl 45 (z04 (y.putReg d ⟨4, 0, 0⟩)) (0, 0) _ hy1 Tryz.underlying45 rfl (z1e _) ?_)
   simp only [Act.put, siA, scZ, scS]
   (refine z03 rfl (vI vK ((pc : Int) + 1)) w12 (by go_simp; try rfl) ?_); simp only [Act.put, siA, scZ, scS]
   refine z0d rfl 9 #[.pointer (some ⟨Bl, 0, none⟩), .agg (z04 (y.putReg d ⟨4, 0, 0⟩)), vI vK ((pc : Int) + 1)] (by go_simp; try rfl) HG ?_
   intro v13 w13 hq
   obtain ⟨er2, i2, rfl, hkp, hT⟩ := hq
   have hR9 := zF8 HLK.out hro (by omega) hlt7 hkp hr11
   obtain ⟨q0, q1, qf0, qf1, qlt⟩ := row2 hR9
   simp only [Act.put, siA, scZ, scS]
   go_wp2_with fail
   have hrw : z0x W E E' := z0x.trans z0x.refl hro (by omega)
   exact bodyPost_ret (v := .agg #[vI vK er2, vI vK i2]) (by simp [results, Tryz.results19, go_sem, *]) rfl ⟨er2, i2, rfl, z4k (Kp.trans hkw hkp hrw) (by omega), Or.inr ⟨E', hrw, w13, hT, z5e⟩⟩
 |clear qq7
  have hr := hr.out
  subst hr
  have hX := hK5.1
  have hR := hK5.2 _ (mcO _ (mcO _ (mcO _ (mcO _ mcS))))
  have yM' : z07 _ W.heap.size (y) := hK5.2 _ (mcO _ (mcO _ mcS))
  go_upto_region 32 with fail
  go_step
  (refine z03 rfl (.pointer (some ⟨Bl, 0, none⟩)) w5 (by go_simp; try rfl) ?_); simp only [Act.put, siA, scZ, scS]
  (refine wpList_load_row rfl 45 (.tmp 5) rfl W.heap.size rfl 45 (z04 (y)) (0, 0) _ yM' Tryz.underlying45 rfl (z1e _) ?_)
  simp only [Act.put, siA, scZ, scS]
  (refine z03 rfl (vI vK (pc' : Int)) w5 (by go_simp; try rfl) ?_); simp only [Act.put, siA, scZ, scS]
  refine z0d rfl 9 #[.pointer (some ⟨Bl, 0, none⟩), .agg (z04 (y)), vI vK (pc' : Int)] (by go_simp; try rfl) (HGO.out w5 hX (Array.getElem?_eq_some_iff.1 hR).1) ?_
  intro v9 w9 hq
  obtain ⟨er, i, rfl, hkp, hT⟩ := hq
  have hR9 := z7v HLK.out (by omega) hkp hR
  obtain ⟨q0, q1, qf0, qf1, qlt⟩ := row2 hR9
  simp only [Act.put, siA, scZ, scS]
  clear k0 k1 k2 kf0 kf1 kf2 klt p0 p1 p2 p3 p4 p5 plt yM ylt b0 b1 b2 bf0 bf1 bf2 blt r0 r1 rf0 rf1 rlt
  go_wp2_with fail
  exact bodyPost_ret (v := .agg #[vI vK er, vI vK i]) (by simp [results, Tryz.results19, go_sem, *]) rfl ⟨er, i, rfl, zQn hX hkp (by omega), w9, hT, z5e⟩
 |clear qq8
  have hr := hr.out
  subst hr
  have hX := hK5.1
  have hR := hK5.2 _ (mcO _ (mcO _ (mcO _ (mcO _ mcS))))
  have yM' : z07 _ W.heap.size (y) := hK5.2 _ (mcO _ (mcO _ mcS))
  go_upto_region 32 with fail
  go_step
  (refine z03 rfl (.pointer (some ⟨Bl, 0, none⟩)) w5 (by go_simp; try rfl) ?_); simp only [Act.put, siA, scZ, scS]
  (refine wpList_load_row rfl 45 (.tmp 5) rfl W.heap.size rfl 45 (z04 (y)) (0, 0) _ yM' Tryz.underlying45 rfl (z1e _) ?_)
  simp only [Act.put, siA, scZ, scS]
  (refine z03 rfl (vI vK ((pc : Int) + 1)) w5 (by go_simp; try rfl) ?_); simp only [Act.put, siA, scZ, scS]
  refine z0d rfl 9 #[.pointer (some ⟨Bl, 0, none⟩), .agg (z04 (y)), vI vK ((pc : Int) + 1)] (by go_simp; try rfl) (HGO.out w5 hX (Array.getElem?_eq_some_iff.1 hR).1) ?_
  intro v9 w9 hq
  obtain ⟨er, i, rfl, hkp, hT⟩ := hq
  have hR9 := z7v HLK.out (by omega) hkp hR
  obtain ⟨q0, q1, qf0, qf1, qlt⟩ := row2 hR9
  simp only [Act.put, siA, scZ, scS]
  clear k0 k1 k2 kf0 kf1 kf2 klt p0 p1 p2 p3 p4 p5 plt yM ylt b0 b1 b2 bf0 bf1 bf2 blt r0 r1 rf0 rf1 rlt
  go_wp2_with fail
  exact bodyPost_ret (v := .agg #[vI vK er, vI vK i]) (by simp [results, Tryz.results19, go_sem, *]) rfl ⟨er, i, rfl, zQn hX hkp (by omega), w9, hT, z5e⟩
 |clear qq9
  have hr := hr.out
  subst hr
  go_wp2_with fail
  exact bodyPost_ret (v := .agg #[vI vK 1, vI vK pc]) (by simp [results, Tryz.results19, go_sem, *]) rfl ⟨rfl, Kp.of ((hK5.1.setCell (by show W.heap.size ≤ W.heap.size + 1 + 1; omega) _).setCell (by show W.heap.size ≤ W.heap.size + 1 + 1; omega) _)⟩
def zTu := fun bk off len cap Bl base f E es y pc c o n d s r kb lb hb W HLK HST hpc hlen hd hs => (@z2p bk off len cap Bl base f E es y pc c o n d s r kb lb hb W HLK HST hpc hlen hd hs).1
def zTt := fun bk off len cap Bl base f E es y pc c o n d s r kb lb hb W HLK HST hpc hlen hd hs => (@z2p bk off len cap Bl base f E es y pc c o n d s r kb lb hb W HLK HST hpc hlen hd hs).2.1
def zTq := fun bk off len cap Bl base f E es y pc c o n d s r kb lb hb W HLK HST hpc hlen hd hs => (@z2p bk off len cap Bl base f E es y pc c o n d s r kb lb hb W HLK HST hpc hlen hd hs).2.2.1
def zTr := fun bk off len cap Bl base f E es y pc c o n d s r kb lb hb W HLK HST hpc hlen hd hs => (@z2p bk off len cap Bl base f E es y pc c o n d s r kb lb hb W HLK HST hpc hlen hd hs).2.2.2.1
def zTs := fun bk off len cap Bl base f E es y pc c o n d s r kb lb hb W HLK HST hpc hlen hd hs => (@z2p bk off len cap Bl base f E es y pc c o n d s r kb lb hb W HLK HST hpc hlen hd hs).2.2.2.2.1
def zQ0 := fun bk off len cap Bl base f E es y pc c o n d s r kb lb hb W HLK HST hpc hlen hd hs => (@z2p bk off len cap Bl base f E es y pc c o n d s r kb lb hb W HLK HST hpc hlen hd hs).2.2.2.2.2.1
def zQ1 := fun bk off len cap Bl base f E es y pc c o n d s r kb lb hb W HLK HST hpc hlen hd hs => (@z2p bk off len cap Bl base f E es y pc c o n d s r kb lb hb W HLK HST hpc hlen hd hs).2.2.2.2.2.2.1
def zPy := fun bk off len cap Bl base f E es y pc c o n d s r kb lb hb W HLK HST hpc hlen hd hs => (@z2p bk off len cap Bl base f E es y pc c o n d s r kb lb hb W HLK HST hpc hlen hd hs).2.2.2.2.2.2.2.1
def zPz := fun bk off len cap Bl base f E es y pc c o n d s r kb lb hb W HLK HST hpc hlen hd hs => (@z2p bk off len cap Bl base f E es y pc c o n d s r kb lb hb W HLK HST hpc hlen hd hs).2.2.2.2.2.2.2.2.1
def zTy := fun bk off len cap Bl base f E es y pc c o n d s r kb lb hb W HLK HST hpc hlen hd hs => (@z2p bk off len cap Bl base f E es y pc c o n d s r kb lb hb W HLK HST hpc hlen hd hs).2.2.2.2.2.2.2.2.2.1
def zTx := fun bk off len cap Bl base f E es y pc c o n d s r kb lb hb W HLK HST hpc hlen hd hs => (@z2p bk off len cap Bl base f E es y pc c o n d s r kb lb hb W HLK HST hpc hlen hd hs).2.2.2.2.2.2.2.2.2.2.1
def zTw := fun bk off len cap Bl base f E es y pc c o n d s r kb lb hb W HLK HST hpc hlen hd hs => (@z2p bk off len cap Bl base f E es y pc c o n d s r kb lb hb W HLK HST hpc hlen hd hs).2.2.2.2.2.2.2.2.2.2.2.1
def zTv := fun bk off len cap Bl base f E es y pc c o n d s r kb lb hb W HLK HST hpc hlen hd hs => (@z2p bk off len cap Bl base f E es y pc c o n d s r kb lb hb W HLK HST hpc hlen hd hs).2.2.2.2.2.2.2.2.2.2.2.2
end Go.Proofs.YteenhdoaminkeaaGreatDoor
