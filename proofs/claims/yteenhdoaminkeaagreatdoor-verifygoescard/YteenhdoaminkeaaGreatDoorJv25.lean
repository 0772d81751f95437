/-
 What the document's goes returns. Conditions: said.
-/
import Derived.Test.YteenhdoaminkeaaGreatDoorJv24
import Derived.Test.YteenhdoaminkeaaGreatDoorJv23
set_option maxHeartbeats 40000000
open Go.Value renaming int → vI
open Go.IntKind renaming i64 → vK
open Go.RowKit.Below renaming alloc → bA, setCell → bS, drew → bD, refl → bF
set_option maxRecDepth 1000000
set_option linter.defProp false
set_option linter.unusedVariables false
set_option linter.unusedSimpArgs false
namespace Go.Proofs.YteenhdoaminkeaaGreatDoor
open Go.ChangeShapes Go.WideShapes Go.ChangeAt Go.RowKit
set_option linter.unusedVariables false
attribute [local simp] z00 z0y z0o
theorem z2m (c : Int) (w : World) : Calls Tryz.prog 18 #[vI vK c] w fun e w' => e = .returned (.bool (decide (15 ≤ c) && decide (c ≤ 24))) ∧ w' = w := by
 by_cases h1 : 15 ≤ c
 ·by_cases h2 : c ≤ 24
  ·have z1 : decide (15 ≤ c) = true := by simp [h1]
   have z2 : decide (c ≤ 24) = true := by simp [h2]
   go_enter Tryz.func18, Tryz.ntmps18
   go_wp2
   go_ret
   exact ⟨by rw [z1, z2]; rfl, rfl⟩
  ·have z1 : decide (15 ≤ c) = true := by simp [h1]
   have z2 : decide (c ≤ 24) = false := by simp; omega
   rw [z1, z2]
   go_enter Tryz.func18, Tryz.ntmps18
   go_wp2
   go_ret
   exact ⟨rfl, rfl⟩
 ·have z1 : decide (15 ≤ c) = false := by simp; omega
  rw [z1]
  go_enter Tryz.func18, Tryz.ntmps18
  go_wp2
  go_ret
  exact ⟨rfl, rfl⟩
def z24 (B : Nat) (w w' : World) : Prop := Below 0 w w' ∧ w'.heap.size = w.heap.size ∧ ∀ k, k ≠ B → w'.heap[k]? = w.heap[k]?
theorem z5e {w : World} {B : Nat} {x y : Value} : z24 B w ((w.setCell ⟨B, 0, none⟩ x).setCell ⟨B, 1, none⟩ y) :=
 ⟨((bF _ _).setCell (Nat.zero_le _) _).setCell (Nat.zero_le _) _, by simp, fun _ hk => (heap_setCell_other _ _ _ _ hk).trans (heap_setCell_other _ _ _ _ hk)⟩
section
variable {W wX w9 : World} {Bl base f : Nat} {l E : Value} {es : List Kno}
theorem zJs (h : z1j W Bl base l (f + 1) E es) {k : Nat} (hk : W.heap.size ≤ k) : k ≠ Bl ∧ some k ≠ E.ownBlock :=
 ⟨by have := h.blt; omega, fun e => by have := h.row k e.symm; omega⟩
theorem z3y (h : z1j W Bl base l (f + 1) E es) (hk : Kp Bl E wX w9) {k : Nat} {ob : Obj} (hR : wX.heap[W.heap.size + k]? = some ob) : w9.heap[W.heap.size + k]? = some ob := by
 obtain ⟨h1, h2⟩ := zJs h (k := W.heap.size + k) (by omega)
 exact (hk.2 _ (Array.getElem?_eq_some_iff.1 hR).1 h1 h2).trans hR
theorem z39 (hX : Below (W.setCell ⟨Bl, 1, none⟩ (vI vK (f : Int))).heap.size (W.setCell ⟨Bl, 1, none⟩ (vI vK (f : Int))) wX) (hk : Kp Bl E wX w9) {x y : Value} : Kp Bl E W ((w9.setCell ⟨W.heap.size + 1, 0, none⟩ x).setCell ⟨W.heap.size + 1, 1, none⟩ y) := by
 have hs : (W.setCell ⟨Bl, 1, none⟩ (vI vK (f : Int))).heap.size = W.heap.size := by simp
 have hsz := hX.size
 rw [hs] at hsz
 refine ⟨((((zT8 (Bl := Bl) (E := E) (f := f)).1.trans (hX.mono (Nat.zero_le _))).trans hk.1).setCell (Nat.zero_le _) _).setCell (Nat.zero_le _) _, fun k hk1 hk2 hk3 => ?_⟩
 rw [heap_setCell_other _ _ _ _ (by show k ≠ W.heap.size + 1; omega), heap_setCell_other _ _ _ _ (by show k ≠ W.heap.size + 1; omega), hk.2 k (by omega) hk2 hk3, hX.block k (by omega)]
 exact heap_setCell_other _ _ _ _ hk2
end
theorem Blk.set3 {w0 w : World} {F : List (Nat × Obj)} {g : Nat} {a b c x y z : Value} {t : TypeId} (h : Blk w0 ((g, .cells #[a, b, c] t (0, 0)) :: F) w) (hg : w0.heap.size ≤ g) (hF : ∀ u, u ∈ F → u.1 ≠ g) : Blk w0 ((g, .cells #[x, y, z] t (0, 0)) :: F) (((w.setCell ⟨g, 0, none⟩ x).setCell ⟨g, 1, none⟩ y).setCell ⟨g, 2, none⟩ z) := by
 refine Blk.cons ⟨((h.1.setCell hg _).setCell hg _).setCell hg _, fun u hu => ?_⟩ (put3 (h.2 _ mcS))
 exact off3 (h.2 u (mcO _ hu)) (hF u hu)
theorem allB {W wX : World} {a : Addr} {v : Value} (h : z0a W) (hs : (W.setCell a v).heap.size = W.heap.size) (hX : Below (W.setCell a v).heap.size (W.setCell a v) wX) (hne : 0 ≠ a.block) : z0a wX := by
 obtain ⟨h1, h2, h3⟩ := h
 have e := fun o => World.cell?_of_block (a := ⟨0, o, none⟩) (Below.heap_setCell W a v 0 hne)
 have hA : z0a (W.setCell a v) := ⟨by rw [hs]; exact h1, (e 0).trans h2, (e 1).trans h3⟩
 exact hA.later hX
theorem z51 (bk off len cap Bl base f : Nat) (E : Value) (es : List Kno) (y : Way) (pc : Nat) (c o n : Int) (d s : Nat) (r : Bool) (W : World) (HLK : Hid (z1j W Bl base (.slice (some ⟨bk, off, none⟩) len cap) (f + 1) E es)) (HST : Hid ((W.cell? ⟨bk, off + pc * 6, none⟩ = some (vI vK c) ∧ W.cell? ⟨bk, off + pc * 6 + 1, none⟩ = some (vI vK d) ∧ W.cell? ⟨bk, off + pc * 6 + 2, none⟩ = some (vI vK s) ∧ W.cell? ⟨bk, off + pc * 6 + 3, none⟩ = some (.bool r) ∧ W.cell? ⟨bk, off + pc * 6 + 4, none⟩ = some (vI vK o) ∧ W.cell? ⟨bk, off + pc * 6 + 5, none⟩ = some (vI vK n)) ∧ bk < W.heap.size ∧ bk ≠ Bl)) (hpc : pc < len) (hlen : len ≤ 200) (hd : d < 11) (hs : s < 11) (HA : Hid (z0a W ∧ 0 ≠ Bl)) : (∀ (x28 : (c == 28) = true) (y0 : (kD (y.reg 0).k == 0) = true) (y1 : (kD (y.reg 0).k == 110) = false), Calls Tryz.prog 9 #[.pointer (some ⟨Bl, 0, none⟩), .agg (z04 y), vI vK pc] W fun e w' => e = .returned (.agg #[vI vK 8, vI vK pc]) ∧ Kp Bl E W w') ∧ (∀ (x28 : (c == 28) = true) (y0 : (kD (y.reg 0).k == 0) = false) (y1 : (kD (y.reg 0).k == 110) = false), Calls Tryz.prog 9 #[.pointer (some ⟨Bl, 0, none⟩), .agg (z04 y), vI vK pc] W fun e w' => e = .returned (.agg #[vI vK 1, vI vK pc]) ∧ Kp Bl E W w') ∧ (∀ (x28 : (c == 28) = false) (x14 : (c == 14) = false) (HQ : Hid ((decide (15 ≤ c) && decide (c ≤ 24)) = false)) (x25 : (c == 25) = false) (x26 : (c == 26) = true) (b0 b1 er : Int) (HFU : Hid (∀ wX : World, z0a wX → Calls Tryz.prog 21 #[.agg #[.int .u8 (kD (y.reg d).k), vI vK (y.reg d).l, vI vK (y.reg d).h], vI vK o] wX fun e w' => e = .returned (.tuple #[.agg #[vI vK b0, vI vK b1], vI vK er]) ∧ Below wX.heap.size wX w')) (e0 : (er == 0) = false) (e0' : (er != 0) = true), Calls Tryz.prog 9 #[.pointer (some ⟨Bl, 0, none⟩), .agg (z04 y), vI vK pc] W fun e w' => e = .returned (.agg #[vI vK er, vI vK pc]) ∧ Kp Bl E W w') ∧ (∀ (x28 : (c == 28) = false) (x14 : (c == 14) = false) (HQ : Hid ((decide (15 ≤ c) && decide (c ≤ 24)) = false)) (x25 : (c == 25) = false) (x26 : (c == 26) = true) (b0 b1 er : Int) (HFU : Hid (∀ wX : World, z0a wX → Calls Tryz.prog 21 #[.agg #[.int .u8 (kD (y.reg d).k), vI vK (y.reg d).l, vI vK (y.reg d).h], vI vK o] wX fun e w' => e = .returned (.tuple #[.agg #[vI vK b0, vI vK b1], vI vK er]) ∧ Below wX.heap.size wX w')) (e0 : (er == 0) = true) (e0' : (er != 0) = false) (z1 : ((kD (y.reg d).k) == 116) = true), Calls Tryz.prog 9 #[.pointer (some ⟨Bl, 0, none⟩), .agg (z04 y), vI vK pc] W fun e w' => e = .returned (.agg #[vI vK 6, vI vK pc]) ∧ Kp Bl E W w') ∧ (∀ (x28 : (c == 28) = false) (x14 : (c == 14) = false) (HQ : Hid ((decide (15 ≤ c) && decide (c ≤ 24)) = false)) (x25 : (c == 25) = false) (x26 : (c == 26) = true) (b0 b1 er : Int) (HFU : Hid (∀ wX : World, z0a wX → Calls Tryz.prog 21 #[.agg #[.int .u8 (kD (y.reg d).k), vI vK (y.reg d).l, vI vK (y.reg d).h], vI vK o] wX fun e w' => e = .returned (.tuple #[.agg #[vI vK b0, vI vK b1], vI vK er]) ∧ Below wX.heap.size wX w')) (e0 : (er == 0) = true) (e0' : (er != 0) = false) (z1 : ((kD (y.reg d).k) == 116) = false) (z2 : ((kD (y.second s r n).k) == 0) = true), Calls Tryz.prog 9 #[.pointer (some ⟨Bl, 0, none⟩), .agg (z04 y), vI vK pc] W fun e w' => e = .returned (.agg #[vI vK 8, vI vK pc]) ∧ Kp Bl E W w') ∧ (∀ (x28 : (c == 28) = false) (x14 : (c == 14) = false) (HQ : Hid ((decide (15 ≤ c) && decide (c ≤ 24)) = false)) (x25 : (c == 25) = false) (x26 : (c == 26) = true) (b0 b1 er : Int) (HFU : Hid (∀ wX : World, z0a wX → Calls Tryz.prog 21 #[.agg #[.int .u8 (kD (y.reg d).k), vI vK (y.reg d).l, vI vK (y.reg d).h], vI vK o] wX fun e w' => e = .returned (.tuple #[.agg #[vI vK b0, vI vK b1], vI vK er]) ∧ Below wX.heap.size wX w')) (e0 : (er == 0) = true) (e0' : (er != 0) = false) (z1 : ((kD (y.reg d).k) == 116) = false) (z2 : ((kD (y.second s r n).k) == 0) = false) (z3 : ((kD (y.reg d).k) == 99) = true) (z4 : ((kD (y.second s r n).k) != 110) = true), Calls Tryz.prog 9 #[.pointer (some ⟨Bl, 0, none⟩), .agg (z04 y), vI vK pc] W fun e w' => e = .returned (.agg #[vI vK 1, vI vK pc]) ∧ Kp Bl E W w') ∧ (∀ (x28 : (c == 28) = false) (x14 : (c == 14) = false) (HQ : Hid ((decide (15 ≤ c) && decide (c ≤ 24)) = false)) (x25 : (c == 25) = false) (x26 : (c == 26) = true) (b0 b1 er : Int) (HFU : Hid (∀ wX : World, z0a wX → Calls Tryz.prog 21 #[.agg #[.int .u8 (kD (y.reg d).k), vI vK (y.reg d).l, vI vK (y.reg d).h], vI vK o] wX fun e w' => e = .returned (.tuple #[.agg #[vI vK b0, vI vK b1], vI vK er]) ∧ Below wX.heap.size wX w')) (e0 : (er == 0) = true) (e0' : (er != 0) = false) (z1 : ((kD (y.reg d).k) == 116) = false) (z2 : ((kD (y.second s r n).k) == 0) = false) (z3 : ((kD (y.reg d).k) == 99) = false) (z5 : ((kD (y.reg d).k) == 102) = true) (z6 : (b0 != b1) = true), Calls Tryz.prog 9 #[.pointer (some ⟨Bl, 0, none⟩), .agg (z04 y), vI vK pc] W fun e w' => e = .returned (.agg #[vI vK 2, vI vK pc]) ∧ Kp Bl E W w') ∧ (∀ (x28 : (c == 28) = false) (x14 : (c == 14) = false) (HQ : Hid ((decide (15 ≤ c) && decide (c ≤ 24)) = false)) (x25 : (c == 25) = false) (x26 : (c == 26) = false) (x27 : (c == 27) = false) (zk zl zh er : Int) (HCB : Hid (∀ wX : World, z0a wX → Calls Tryz.prog 22 #[vI vK c, .agg #[.int .u8 (kD (y.reg d).k), vI vK (y.reg d).l, vI vK (y.reg d).h], .agg #[.int .u8 (kD (y.second s r n).k), vI vK (y.second s r n).l, vI vK (y.second s r n).h]] wX fun e w' => e = .returned (.tuple #[.agg #[.int .u8 (kD zk), vI vK zl, vI vK zh], vI vK er]) ∧ Below wX.heap.size wX w')) (e0 : (er != 0) = true), Calls Tryz.prog 9 #[.pointer (some ⟨Bl, 0, none⟩), .agg (z04 y), vI vK pc] W fun e w' => e = .returned (.agg #[vI vK er, vI vK pc]) ∧ Kp Bl E W w') ∧ (∀ (x28 : (c == 28) = false) (x14 : (c == 14) = false) (HQ : Hid ((decide (15 ≤ c) && decide (c ≤ 24)) = false)) (x25 : (c == 25) = false) (x26 : (c == 26) = false) (x27 : (c == 27) = false) (zk zl zh er : Int) (HCB : Hid (∀ wX : World, z0a wX → Calls Tryz.prog 22 #[vI vK c, .agg #[.int .u8 (kD (y.reg d).k), vI vK (y.reg d).l, vI vK (y.reg d).h], .agg #[.int .u8 (kD (y.second s r n).k), vI vK (y.second s r n).l, vI vK (y.second s r n).h]] wX fun e w' => e = .returned (.tuple #[.agg #[.int .u8 (kD zk), vI vK zl, vI vK zh], vI vK er]) ∧ Below wX.heap.size wX w')) (e0 : (er != 0) = false) (T : Int → Int → World → Prop) (HGO : Hid (∀ wX : World, Below (W.setCell ⟨Bl, 1, none⟩ (vI vK (f : Int))).heap.size (W.setCell ⟨Bl, 1, none⟩ (vI vK (f : Int))) wX → W.heap.size + 1 < wX.heap.size → Calls Tryz.prog 9 #[.pointer (some ⟨Bl, 0, none⟩), .agg (z04 (y.putReg d ⟨zk, zl, zh⟩)), vI vK ((pc : Int) + 1)] wX fun e w' => ∃ v, e = .returned v ∧ ∃ er i, v = .agg #[vI vK er, vI vK i] ∧ Kp Bl E wX w' ∧ T er i w')), Calls Tryz.prog 9 #[.pointer (some ⟨Bl, 0, none⟩), .agg (z04 y), vI vK pc] W fun e w' => ∃ er i, e = .returned (.agg #[vI vK er, vI vK i]) ∧ Kp Bl E W w' ∧ ∃ w1, T er i w1 ∧ z24 (W.heap.size + 1) w1 w') := by
 refine ⟨?_, ?_, ?_, ?_, ?_, ?_, ?_, ?_, ?_⟩
 intro x28 y0 y1
 have qq1 := trivial
 rotate_left
 intro x28 y0 y1
 have qq1 := trivial
 rotate_left
 intro x28 x14 HQ x25 x26 b0 b1 er HFU e0 e0'
 have qq2 := trivial
 rotate_left
 intro x28 x14 HQ x25 x26 b0 b1 er HFU e0 e0' z1
 have qq2 := trivial
 rotate_left
 intro x28 x14 HQ x25 x26 b0 b1 er HFU e0 e0' z1 z2
 have qq2 := trivial
 rotate_left
 intro x28 x14 HQ x25 x26 b0 b1 er HFU e0 e0' z1 z2 z3 z4
 have qq2 := trivial
 rotate_left
 intro x28 x14 HQ x25 x26 b0 b1 er HFU e0 e0' z1 z2 z3 z5 z6
 have qq2 := trivial
 rotate_left
 intro x28 x14 HQ x25 x26 x27 zk zl zh er HCB e0
 have qq3 := trivial
 rotate_left
 intro x28 x14 HQ x25 x26 x27 zk zl zh er HCB e0 T HGO
 have qq4 := trivial
 rotate_left
 all_goals
  as_aux_lemma =>
  have hlk := HLK.out
  obtain ⟨l0, l1, l2, lf0, lf1, lf2, llt⟩ := row3 hlk.box
  have hf : f + 1 ≤ 4000 := by have := hlk.few; omega
  have e1 : IntKind.i64.wrap (((f + 1 : Nat) : Int) - 1) = (f : Int) := by rw [IntWalk.i64_left, z0e (by omega) (by omega)]; omega
  have hp0 : (0 : Int) ≤ (pc : Int) := by omega
  have hp1 : (pc : Int) < (len : Int) := by omega
  have e2 : IntKind.i64.wrap ((pc : Int) + 1) = ((pc + 1 : Nat) : Int) := by rw [IntWalk.i64_left, z0e (by omega) (by omega)]; omega
  have HLB := hlk.less
  have HSB : Hid (((W.setCell ⟨Bl, 1, none⟩ (vI vK (f : Int))).cell? ⟨bk, off + pc * 6, none⟩ = some (vI vK c) ∧ (W.setCell ⟨Bl, 1, none⟩ (vI vK (f : Int))).cell? ⟨bk, off + pc * 6 + 1, none⟩ = some (vI vK d) ∧ (W.setCell ⟨Bl, 1, none⟩ (vI vK (f : Int))).cell? ⟨bk, off + pc * 6 + 2, none⟩ = some (vI vK s) ∧ (W.setCell ⟨Bl, 1, none⟩ (vI vK (f : Int))).cell? ⟨bk, off + pc * 6 + 3, none⟩ = some (.bool r) ∧ (W.setCell ⟨Bl, 1, none⟩ (vI vK (f : Int))).cell? ⟨bk, off + pc * 6 + 4, none⟩ = some (vI vK o) ∧ (W.setCell ⟨Bl, 1, none⟩ (vI vK (f : Int))).cell? ⟨bk, off + pc * 6 + 5, none⟩ = some (vI vK n)) ∧ bk < (W.setCell ⟨Bl, 1, none⟩ (vI vK (f : Int))).heap.size) := by
   obtain ⟨h1, h2, h3⟩ := HST.out
   have e := fun o => World.cell?_of_block (a := ⟨bk, o, none⟩) (Below.heap_setCell W ⟨Bl, 1, none⟩ (vI vK (f : Int)) bk h3)
   exact ⟨⟨(e _).trans h1.1, (e _).trans h1.2.1, (e _).trans h1.2.2.1, (e _).trans h1.2.2.2.1, (e _).trans h1.2.2.2.2.1, (e _).trans h1.2.2.2.2.2⟩, by simpa using h2⟩
  have hsz : (W.setCell ⟨Bl, 1, none⟩ (vI vK (f : Int))).heap.size = W.heap.size := by simp
  have HSZ : Hid ((W.setCell ⟨Bl, 1, none⟩ (vI vK (f : Int))).heap.size = W.heap.size) := hsz
  clear hsz
  go_enter Tryz.func9, Tryz.ntmps9
  go_upto_region 2 with fail
  have hK1 : Blk (W.setCell ⟨Bl, 1, none⟩ (vI vK (f : Int))) [(W.heap.size, .cells (z04 y) 45 (0, 0)), (W.heap.size + 1, .cells #[vI vK 0, vI vK 0] 27 (0, 0))] (((W.setCell ⟨Bl, 1, none⟩ (vI vK (f : Int))).alloc (.cells (z04 y) 45)).alloc (.cells #[vI vK 0, vI vK 0] 27)) := by
   have h := ((Blk.nil (((bF _ (W.setCell ⟨Bl, 1, none⟩ (vI vK (f : Int)))).alloc (Nat.le_refl _) (.cells (z04 y) 45)).alloc (by simp) (.cells #[vI vK 0, vI vK 0] 27))).cons (heap_alloc2_new _ _ _)).cons (g := (W.setCell ⟨Bl, 1, none⟩ (vI vK (f : Int))).heap.size) (z := .cells (z04 y) 45) (by rw [Below.heap_alloc _ _ _ (by simp)]; exact heap_alloc_new _ _)
   rw [HSZ.out] at h
   exact h
  generalize (((W.setCell ⟨Bl, 1, none⟩ (vI vK (f : Int))).alloc (.cells (z04 y) 45)).alloc (.cells #[vI vK 0, vI vK 0] 27)) = w1 at hK1 ⊢
  obtain ⟨⟨g0, g1, g2, g3, g4, g5⟩, gl⟩ := HSB.out
  have g0 := (hK1.1.cell (p := ⟨bk, off + pc * 6, none⟩) gl).trans g0
  have g1 := (hK1.1.cell (p := ⟨bk, off + pc * 6 + 1, none⟩) gl).trans g1
  have g2 := (hK1.1.cell (p := ⟨bk, off + pc * 6 + 2, none⟩) gl).trans g2
  have g3 := (hK1.1.cell (p := ⟨bk, off + pc * 6 + 3, none⟩) gl).trans g3
  have g4 := (hK1.1.cell (p := ⟨bk, off + pc * 6 + 4, none⟩) gl).trans g4
  have g5 := (hK1.1.cell (p := ⟨bk, off + pc * 6 + 5, none⟩) gl).trans g5
  have gl := Nat.lt_of_lt_of_le gl hK1.1.size
  clear l0 l1 l2 lf0 lf1 lf2 llt
  obtain ⟨l0, l1, l2, lf0, lf1, lf2, llt⟩ := row3 (HLB.later hK1.1).box
  go_upto_region 6 with fail
  have hK2 := hK1.add (.cells #[vI vK c, vI vK d, vI vK s, .bool r, vI vK o, vI vK n] 59)
  have hb7 : W.heap.size + 1 < w1.heap.size := hK1.lt (mcO _ mcS)
  generalize (w1.alloc (.cells #[vI vK c, vI vK d, vI vK s, .bool r, vI vK o, vI vK n] 59)) = w2 at hK2 ⊢
  generalize w1.heap.size = B7 at hK2 hb7 ⊢
  clear hK1 g0 g1 g2 g3 g4 g5 gl l0 l1 l2 lf0 lf1 lf2 llt
  obtain ⟨p0, p1, p2, p3, p4, p5, plt⟩ := row6 (hK2.2 _ mcS)
  go_upto_region 7 with (first | (go_at_call 8; go_must (refine (z26 n _).mono ?_; rintro e w3 ⟨rfl, hb3⟩; have hK3 := hK2.later hb3)) | fail)
  have hK4 := hK3.add (.cells #[.int .u8 110, vI vK n, vI vK n] 43)
  have hb9 : B7 < w3.heap.size := hK3.lt mcS
  generalize (w3.alloc (.cells #[.int .u8 110, vI vK n, vI vK n] 43)) = w4 at hK4 ⊢
  generalize w3.heap.size = B9 at hK4 hb9 ⊢
  clear hK2 hK3 hb3 p0 p1 p2 p3 p4 p5 plt
  obtain ⟨k0, k1, k2, kf0, kf1, kf2, klt⟩ := row3 (hK4.2 _ mcS)
  obtain ⟨p0, p1, p2, p3, p4, p5, plt⟩ := row6 (hK4.2 _ (mcO _ mcS))
  have yM : z07 _ W.heap.size _ := (hK4.2 _ (mcO _ (mcO _ mcS)))
  have ylt := yM.lt
  have hs0 : (0 : Int) ≤ (s : Int) := by omega
  have hs1 : (s : Int) < 27 := by omega
  obtain ⟨m0, m1, m2⟩ := yM.know (d := s) (by omega)
  rw [z22 hs] at m0 m1 m2
  have HK4 : Hid (Blk (W.setCell ⟨Bl, 1, none⟩ (vI vK (f : Int))) [(B9, .cells #[.int .u8 110, vI vK n, vI vK n] 43 (0, 0)), (B7, .cells #[vI vK c, vI vK d, vI vK s, .bool r, vI vK o, vI vK n] 59 (0, 0)), (W.heap.size, .cells (z04 y) 45 (0, 0)), (W.heap.size + 1, .cells #[vI vK 0, vI vK 0] 27 (0, 0))] w4) := hK4
  clear hK4 yM
  go_upto_if 41 with fail
  go_cut [42] (fun _ wx => Hid (Blk (W.setCell ⟨Bl, 1, none⟩ (vI vK (f : Int))) [(B9, .cells #[.int .u8 (kD (y.second s r n).k), vI vK (y.second s r n).l, vI vK (y.second s r n).h] 43 (0, 0)), (B7, .cells #[vI vK c, vI vK d, vI vK s, .bool r, vI vK o, vI vK n] 59 (0, 0)), (W.heap.size, .cells (z04 y) 45 (0, 0)), (W.heap.size + 1, .cells #[vI vK 0, vI vK 0] 27 (0, 0))] wx))
  case first =>
   cases r
   ·go_wp2_with fail
    go_meet
    exact HK4.out
   ·go_wp2_with fail
    go_meet
    exact Blk.set3 HK4.out (by rw [HSZ.out]; omega) (by intro z hz; simp only [List.mem_cons, List.not_mem_nil, or_false] at hz; rcases hz with rfl | rfl | rfl <;> (show _ ≠ _; omega))
  clear HK4 k0 k1 k2 kf0 kf1 kf2 klt p0 p1 p2 p3 p4 p5 plt ylt m0 m1 m2
  have hK5 := hcut.out
  clear hcut
  obtain ⟨k0, k1, k2, kf0, kf1, kf2, klt⟩ := row3 (hK5.2 _ mcS); obtain ⟨p0, p1, p2, p3, p4, p5, plt⟩ := row6 (hK5.2 _ (mcO _ mcS)); have yM : z07 _ W.heap.size _ := (hK5.2 _ (mcO _ (mcO _ mcS))); have ylt := yM.lt; obtain ⟨r0, r1, rf0, rf1, rlt⟩ := row2 (hK5.2 _ (mcO _ (mcO _ (mcO _ mcS))))
  first
  | clear qq1
    obtain ⟨m0, m1, m2⟩ := yM.know (d := 0) (by decide)
    rw [z22 (by decide)] at m0 m1 m2
    simp only [Nat.zero_mul, Nat.zero_add] at m0 m1 m2
    go_wp2_with fail
    exact bodyPost_ret (by simp [results, Tryz.results9, go_sem, *]) rfl ⟨rfl, z39 hK5.1 Kp.refl⟩
  | clear qq2
    have hd0 : (0 : Int) ≤ (d : Int) := by omega
    have hd1 : (d : Int) < 27 := by omega
    have hs0' : (0 : Int) ≤ (s : Int) := by omega
    obtain ⟨m0, m1, m2⟩ := yM.know (d := d) (by omega)
    rw [z22 hd] at m0 m1 m2
    go_upto_region 27 with (first | (go_at_call 18; go_must (refine (z2m c _).mono ?_; rintro e u1 ⟨rfl, hu1⟩; obtain rfl := hu1.symm; rw [HQ.out])) | fail)
    have hb11 : B9 < wc.heap.size := hK5.lt mcS
    have hK6 := hK5.add (.cells #[.int .u8 (kD (y.reg d).k), vI vK (y.reg d).l, vI vK (y.reg d).h] 43)
    have hb12 : wc.heap.size < (wc.alloc (.cells #[.int .u8 (kD (y.reg d).k), vI vK (y.reg d).l, vI vK (y.reg d).h] 43)).heap.size := hK6.lt mcS
    have hK7 := hK6.add (.cells #[vI vK 0, vI vK 0] 24)
    generalize ((wc.alloc (.cells #[.int .u8 (kD (y.reg d).k), vI vK (y.reg d).l, vI vK (y.reg d).h] 43)).alloc (.cells #[vI vK 0, vI vK 0] 24)) = w6 at hK7 ⊢
    have hsz6 : (wc.alloc (.cells #[.int .u8 (kD (y.reg d).k), vI vK (y.reg d).l, vI vK (y.reg d).h] 43)).heap.size = wc.heap.size + 1 := by simp
    rw [hsz6] at hK7 hb12
    generalize wc.heap.size + 1 = B12 at hK7 hb12 ⊢
    generalize wc.heap.size = B11 at hK7 hb11 hb12 ⊢
    clear k0 k1 k2 kf0 kf1 kf2 klt p0 p1 p2 p3 p4 p5 plt yM ylt r0 r1 rf0 rf1 rlt
    clear m0 m1 m2 hK6 hK5 hsz6
    obtain ⟨v0, v1, vf0, vf1, vlt⟩ := row2 (hK7.2 _ mcS); obtain ⟨u0, u1, u2, -, -, -, ult⟩ := row3 (hK7.2 _ (mcO _ mcS)); obtain ⟨k0, k1, k2, kf0, kf1, kf2, klt⟩ := row3 (hK7.2 _ (mcO _ (mcO _ mcS))); obtain ⟨p0, p1, p2, p3, p4, p5, plt⟩ := row6 (hK7.2 _ (mcO _ (mcO _ (mcO _ mcS)))); have yM : z07 _ W.heap.size _ := (hK7.2 _ (mcO _ (mcO _ (mcO _ (mcO _ mcS))))); have ylt := yM.lt; obtain ⟨r0, r1, rf0, rf1, rlt⟩ := row2 (hK7.2 _ (mcO _ (mcO _ (mcO _ (mcO _ (mcO _ mcS))))))
    go_upto_region 28 with (first | (go_at_call 21; go_must (refine (HFU.out _ (allB HA.out.1 HSZ.out hK7.1 HA.out.2)).mono ?_; rintro e w8 ⟨rfl, hb8⟩; have hK8 := hK7.later hb8; clear k0 k1 k2 kf0 kf1 kf2 klt p0 p1 p2 p3 p4 p5 plt yM ylt r0 r1 rf0 rf1 rlt v0 v1 vf0 vf1 vlt u0 u1 u2 ult; obtain ⟨v0, v1, vf0, vf1, vlt⟩ := row2 (hK8.2 _ mcS); obtain ⟨u0, u1, u2, -, -, -, ult⟩ := row3 (hK8.2 _ (mcO _ mcS)); obtain ⟨k0, k1, k2, kf0, kf1, kf2, klt⟩ := row3 (hK8.2 _ (mcO _ (mcO _ mcS))); obtain ⟨p0, p1, p2, p3, p4, p5, plt⟩ := row6 (hK8.2 _ (mcO _ (mcO _ (mcO _ mcS)))); have yM : z07 _ W.heap.size _ := (hK8.2 _ (mcO _ (mcO _ (mcO _ (mcO _ mcS))))); have ylt := yM.lt; obtain ⟨r0, r1, rf0, rf1, rlt⟩ := row2 (hK8.2 _ (mcO _ (mcO _ (mcO _ (mcO _ (mcO _ mcS)))))))) | fail)
    have hK9 : Blk (W.setCell ⟨Bl, 1, none⟩ (vI vK (f : Int))) [(B12, .cells #[vI vK b0, vI vK b1] 24 (0, 0)), (B11, .cells #[.int .u8 (kD (y.reg d).k), vI vK (y.reg d).l, vI vK (y.reg d).h] 43 (0, 0)), (B9, .cells #[.int .u8 (kD (y.second s r n).k), vI vK (y.second s r n).l, vI vK (y.second s r n).h] 43 (0, 0)), (B7, .cells #[vI vK c, vI vK d, vI vK s, .bool r, vI vK o, vI vK n] 59 (0, 0)), (W.heap.size, .cells (z04 y) 45 (0, 0)), (W.heap.size + 1, .cells #[vI vK 0, vI vK 0] 27 (0, 0))] ((w8.setCell ⟨B12, 0, none⟩ (vI vK b0)).setCell ⟨B12, 1, none⟩ (vI vK b1)) := by
     have hz : (W.setCell ⟨Bl, 1, none⟩ (vI vK (f : Int))).heap.size ≤ B12 := by rw [HSZ.out]; omega
     exact ((((((Blk.nil ((hK8.1.setCell hz _).setCell hz _)).cons (off2 (hK8.2 _ (mcO _ (mcO _ (mcO _ (mcO _ (mcO _ mcS)))))) (by omega))).cons (off2 (hK8.2 _ (mcO _ (mcO _ (mcO _ (mcO _ mcS))))) (by omega))).cons (off2 (hK8.2 _ (mcO _ (mcO _ (mcO _ mcS)))) (by omega))).cons (off2 (hK8.2 _ (mcO _ (mcO _ mcS))) (by omega))).cons (off2 (hK8.2 _ (mcO _ mcS)) (by omega))).cons (put2 (hK8.2 _ mcS))
    generalize ((w8.setCell ⟨B12, 0, none⟩ (vI vK b0)).setCell ⟨B12, 1, none⟩ (vI vK b1)) = w9 at hK9 ⊢
    clear k0 k1 k2 kf0 kf1 kf2 klt p0 p1 p2 p3 p4 p5 plt yM ylt r0 r1 rf0 rf1 rlt v0 v1 vf0 vf1 vlt u0 u1 u2 ult
    clear hK7 hK8 hb8
    obtain ⟨v0, v1, vf0, vf1, vlt⟩ := row2 (hK9.2 _ mcS); obtain ⟨u0, u1, u2, -, -, -, ult⟩ := row3 (hK9.2 _ (mcO _ mcS)); obtain ⟨k0, k1, k2, kf0, kf1, kf2, klt⟩ := row3 (hK9.2 _ (mcO _ (mcO _ mcS))); obtain ⟨p0, p1, p2, p3, p4, p5, plt⟩ := row6 (hK9.2 _ (mcO _ (mcO _ (mcO _ mcS)))); have yM : z07 _ W.heap.size _ := (hK9.2 _ (mcO _ (mcO _ (mcO _ (mcO _ mcS))))); have ylt := yM.lt; obtain ⟨r0, r1, rf0, rf1, rlt⟩ := row2 (hK9.2 _ (mcO _ (mcO _ (mcO _ (mcO _ (mcO _ mcS))))))
    go_wp2_with fail
    exact bodyPost_ret (by simp [results, Tryz.results9, go_sem, *]) rfl ⟨rfl, z39 hK9.1 Kp.refl⟩
  | clear qq3
    have hd0 : (0 : Int) ≤ (d : Int) := by omega
    have hd1 : (d : Int) < 27 := by omega
    have hs0' : (0 : Int) ≤ (s : Int) := by omega
    go_upto_region 10 with (first | (go_at_call 18; go_must (refine (z2m c _).mono ?_; rintro e u1 ⟨rfl, rfl⟩; rw [HQ.out])) | fail)
    clear k0 k1 k2 kf0 kf1 kf2 klt p0 p1 p2 p3 p4 p5 plt yM ylt r0 r1 rf0 rf1 rlt
    refine z0n (C := Blk (W.setCell ⟨Bl, 1, none⟩ (vI vK (f : Int))) [(B9, .cells #[.int .u8 (kD (y.second s r n).k), vI vK (y.second s r n).l, vI vK (y.second s r n).h] 43 (0, 0)), (B7, .cells #[vI vK c, vI vK d, vI vK s, .bool r, vI vK o, vI vK n] 59 (0, 0)), (W.heap.size, .cells (z04 y) 45 (0, 0)), (W.heap.size + 1, .cells #[vI vK 0, vI vK 0] 27 (0, 0))]) (n0 := W.heap.size) 14 [12] [] (by kernel_rfl) (by kernel_rfl) (fun d _ _ _ _ h => by cases d <;> exact h) (Blk.stable _ _) (fun w2 h => by have := h.1.size; rw [HSZ.out] at this; exact this) hK5.drew trivial ?_
    simp only [List.take_succ_cons, List.take_zero, List.drop_succ_cons, List.drop_zero, List.length_nil, Nat.reduceAdd]
    repeat (first
     | (refine z0k (by rfl) ?_; simp only [Act.put, siA, scZ, scS])
     | (refine z0b (by rfl) (v := ?_) ?_ ?_; rotate_left; (intro w2 hC; obtain ⟨k0, k1, k2, kf0, kf1, kf2, klt⟩ := row3 (hC.2 _ mcS); obtain ⟨p0, p1, p2, p3, p4, p5, plt⟩ := row6 (hC.2 _ (mcO _ mcS)); have yM : z07 _ W.heap.size _ := (hC.2 _ (mcO _ (mcO _ mcS))); have ylt := yM.lt; obtain ⟨r0, r1, rf0, rf1, rlt⟩ := row2 (hC.2 _ (mcO _ (mcO _ (mcO _ mcS)))); obtain ⟨m0, m1, m2⟩ := yM.know (d := d) (by omega); rw [z22 hd] at m0 m1 m2; go_simp; try with_reducible rfl); simp only [Act.put, siA, scZ, scS])
     | (refine z0p (by rfl) ?_; apply Exists.intro; refine ⟨fun w2 hC => ?_, ?_⟩; (obtain ⟨k0, k1, k2, kf0, kf1, kf2, klt⟩ := row3 (hC.2 _ mcS); obtain ⟨p0, p1, p2, p3, p4, p5, plt⟩ := row6 (hC.2 _ (mcO _ mcS)); have yM : z07 _ W.heap.size _ := (hC.2 _ (mcO _ (mcO _ mcS))); have ylt := yM.lt; obtain ⟨r0, r1, rf0, rf1, rlt⟩ := row2 (hC.2 _ (mcO _ (mcO _ (mcO _ mcS)))); obtain ⟨m0, m1, m2⟩ := yM.know (d := d) (by omega); rw [z22 hd] at m0 m1 m2; go_simp; apply z0v; first | (go_at_call 22; exact HCB.out w2 (allB HA.out.1 HSZ.out hC.1 HA.out.2))); simp only [Act.put, siA, scZ, scS]))
    refine z0t ?_
    intro w6 hC hB
    obtain ⟨k0, k1, k2, kf0, kf1, kf2, klt⟩ := row3 (hC.2 _ mcS); obtain ⟨p0, p1, p2, p3, p4, p5, plt⟩ := row6 (hC.2 _ (mcO _ mcS)); have yM : z07 _ W.heap.size _ := (hC.2 _ (mcO _ (mcO _ mcS))); have ylt := yM.lt; obtain ⟨r0, r1, rf0, rf1, rlt⟩ := row2 (hC.2 _ (mcO _ (mcO _ (mcO _ mcS))))
    obtain ⟨n0, n1, n2⟩ := yM.know (d := d) (by omega)
    have nf0 := yM.frozen (d * 3)
    have nf1 := yM.frozen (d * 3 + 1)
    have nf2 := yM.frozen (d * 3 + 2)
    have hK6 : Blk (W.setCell ⟨Bl, 1, none⟩ (vI vK (f : Int))) [(B9, .cells #[.int .u8 (kD (y.second s r n).k), vI vK (y.second s r n).l, vI vK (y.second s r n).h] 43 (0, 0)), (B7, .cells #[vI vK c, vI vK d, vI vK s, .bool r, vI vK o, vI vK n] 59 (0, 0)), (W.heap.size, .cells (z04 (y.putReg d ⟨zk, zl, zh⟩)) 45 (0, 0)), (W.heap.size + 1, .cells #[vI vK 0, vI vK 0] 27 (0, 0))] (((w6.setCell ⟨W.heap.size, d * 3, none⟩ (.int .u8 (kD zk))).setCell ⟨W.heap.size, d * 3 + 1, none⟩ (vI vK zl)).setCell ⟨W.heap.size, d * 3 + 2, none⟩ (vI vK zh)) := by
     rw [← z25 hd]
     have hz : (W.setCell ⟨Bl, 1, none⟩ (vI vK (f : Int))).heap.size ≤ W.heap.size := by rw [HSZ.out]; exact Nat.le_refl _
     exact ((((Blk.nil (((hC.1.setCell hz _).setCell hz _).setCell hz _)).cons (off3 (hC.2 _ (mcO _ (mcO _ (mcO _ mcS)))) (by omega))).cons (yM.put3 d ⟨zk, zl, zh⟩)).cons (off3 (hC.2 _ (mcO _ mcS)) (by omega))).cons (off3 (hC.2 _ mcS) (by omega))
    go_upto_region 54 with fail
    generalize (((w6.setCell ⟨W.heap.size, d * 3, none⟩ (.int .u8 (kD zk))).setCell ⟨W.heap.size, d * 3 + 1, none⟩ (vI vK zl)).setCell ⟨W.heap.size, d * 3 + 2, none⟩ (vI vK zh)) = w7 at hK6 ⊢
    clear k0 k1 k2 kf0 kf1 kf2 klt p0 p1 p2 p3 p4 p5 plt yM ylt r0 r1 rf0 rf1 rlt
    clear n0 n1 n2 nf0 nf1 nf2 hC hB
    obtain ⟨k0, k1, k2, kf0, kf1, kf2, klt⟩ := row3 (hK6.2 _ mcS); obtain ⟨p0, p1, p2, p3, p4, p5, plt⟩ := row6 (hK6.2 _ (mcO _ mcS)); have yM : z07 _ W.heap.size _ := (hK6.2 _ (mcO _ (mcO _ mcS))); have ylt := yM.lt; obtain ⟨r0, r1, rf0, rf1, rlt⟩ := row2 (hK6.2 _ (mcO _ (mcO _ (mcO _ mcS))))
    go_wp2_with fail
    exact bodyPost_ret (v := .agg #[vI vK er, vI vK pc]) (by simp [results, Tryz.results9, go_sem, *]) rfl ⟨rfl, z39 hK6.1 Kp.refl⟩
  | clear qq4
    have hd0 : (0 : Int) ≤ (d : Int) := by omega
    have hd1 : (d : Int) < 27 := by omega
    have hs0' : (0 : Int) ≤ (s : Int) := by omega
    go_upto_region 10 with (first | (go_at_call 18; go_must (refine (z2m c _).mono ?_; rintro e u1 ⟨rfl, rfl⟩; rw [HQ.out])) | fail)
    clear k0 k1 k2 kf0 kf1 kf2 klt p0 p1 p2 p3 p4 p5 plt yM ylt r0 r1 rf0 rf1 rlt
    refine z0n (C := Blk (W.setCell ⟨Bl, 1, none⟩ (vI vK (f : Int))) [(B9, .cells #[.int .u8 (kD (y.second s r n).k), vI vK (y.second s r n).l, vI vK (y.second s r n).h] 43 (0, 0)), (B7, .cells #[vI vK c, vI vK d, vI vK s, .bool r, vI vK o, vI vK n] 59 (0, 0)), (W.heap.size, .cells (z04 y) 45 (0, 0)), (W.heap.size + 1, .cells #[vI vK 0, vI vK 0] 27 (0, 0))]) (n0 := W.heap.size) 14 [12] [] (by kernel_rfl) (by kernel_rfl) (fun d _ _ _ _ h => by cases d <;> exact h) (Blk.stable _ _) (fun w2 h => by have := h.1.size; rw [HSZ.out] at this; exact this) hK5.drew trivial ?_
    simp only [List.take_succ_cons, List.take_zero, List.drop_succ_cons, List.drop_zero, List.length_nil, Nat.reduceAdd]
    repeat (first
     | (refine z0k (by rfl) ?_; simp only [Act.put, siA, scZ, scS])
     | (refine z0b (by rfl) (v := ?_) ?_ ?_; rotate_left; (intro w2 hC; obtain ⟨k0, k1, k2, kf0, kf1, kf2, klt⟩ := row3 (hC.2 _ mcS); obtain ⟨p0, p1, p2, p3, p4, p5, plt⟩ := row6 (hC.2 _ (mcO _ mcS)); have yM : z07 _ W.heap.size _ := (hC.2 _ (mcO _ (mcO _ mcS))); have ylt := yM.lt; obtain ⟨r0, r1, rf0, rf1, rlt⟩ := row2 (hC.2 _ (mcO _ (mcO _ (mcO _ mcS)))); obtain ⟨m0, m1, m2⟩ := yM.know (d := d) (by omega); rw [z22 hd] at m0 m1 m2; go_simp; try with_reducible rfl); simp only [Act.put, siA, scZ, scS])
     | (refine z0p (by rfl) ?_; apply Exists.intro; refine ⟨fun w2 hC => ?_, ?_⟩; (obtain ⟨k0, k1, k2, kf0, kf1, kf2, klt⟩ := row3 (hC.2 _ mcS); obtain ⟨p0, p1, p2, p3, p4, p5, plt⟩ := row6 (hC.2 _ (mcO _ mcS)); have yM : z07 _ W.heap.size _ := (hC.2 _ (mcO _ (mcO _ mcS))); have ylt := yM.lt; obtain ⟨r0, r1, rf0, rf1, rlt⟩ := row2 (hC.2 _ (mcO _ (mcO _ (mcO _ mcS)))); obtain ⟨m0, m1, m2⟩ := yM.know (d := d) (by omega); rw [z22 hd] at m0 m1 m2; go_simp; apply z0v; first | (go_at_call 22; exact HCB.out w2 (allB HA.out.1 HSZ.out hC.1 HA.out.2))); simp only [Act.put, siA, scZ, scS]))
    refine z0t ?_
    intro w6 hC hB
    obtain ⟨k0, k1, k2, kf0, kf1, kf2, klt⟩ := row3 (hC.2 _ mcS); obtain ⟨p0, p1, p2, p3, p4, p5, plt⟩ := row6 (hC.2 _ (mcO _ mcS)); have yM : z07 _ W.heap.size _ := (hC.2 _ (mcO _ (mcO _ mcS))); have ylt := yM.lt; obtain ⟨r0, r1, rf0, rf1, rlt⟩ := row2 (hC.2 _ (mcO _ (mcO _ (mcO _ mcS))))
    obtain ⟨n0, n1, n2⟩ := yM.know (d := d) (by omega)
    have nf0 := yM.frozen (d * 3)
    have nf1 := yM.frozen (d * 3 + 1)
    have nf2 := yM.frozen (d * 3 + 2)
    have hK6 : Blk (W.setCell ⟨Bl, 1, none⟩ (vI vK (f : Int))) [(B9, .cells #[.int .u8 (kD (y.second s r n).k), vI vK (y.second s r n).l, vI vK (y.second s r n).h] 43 (0, 0)), (B7, .cells #[vI vK c, vI vK d, vI vK s, .bool r, vI vK o, vI vK n] 59 (0, 0)), (W.heap.size, .cells (z04 (y.putReg d ⟨zk, zl, zh⟩)) 45 (0, 0)), (W.heap.size + 1, .cells #[vI vK 0, vI vK 0] 27 (0, 0))] (((w6.setCell ⟨W.heap.size, d * 3, none⟩ (.int .u8 (kD zk))).setCell ⟨W.heap.size, d * 3 + 1, none⟩ (vI vK zl)).setCell ⟨W.heap.size, d * 3 + 2, none⟩ (vI vK zh)) := by
     rw [← z25 hd]
     have hz : (W.setCell ⟨Bl, 1, none⟩ (vI vK (f : Int))).heap.size ≤ W.heap.size := by rw [HSZ.out]; exact Nat.le_refl _
     exact ((((Blk.nil (((hC.1.setCell hz _).setCell hz _).setCell hz _)).cons (off3 (hC.2 _ (mcO _ (mcO _ (mcO _ mcS)))) (by omega))).cons (yM.put3 d ⟨zk, zl, zh⟩)).cons (off3 (hC.2 _ (mcO _ mcS)) (by omega))).cons (off3 (hC.2 _ mcS) (by omega))
    go_upto_region 54 with fail
    generalize (((w6.setCell ⟨W.heap.size, d * 3, none⟩ (.int .u8 (kD zk))).setCell ⟨W.heap.size, d * 3 + 1, none⟩ (vI vK zl)).setCell ⟨W.heap.size, d * 3 + 2, none⟩ (vI vK zh)) = w7 at hK6 ⊢
    clear k0 k1 k2 kf0 kf1 kf2 klt p0 p1 p2 p3 p4 p5 plt yM ylt r0 r1 rf0 rf1 rlt
    clear n0 n1 n2 nf0 nf1 nf2 hC hB
    obtain ⟨k0, k1, k2, kf0, kf1, kf2, klt⟩ := row3 (hK6.2 _ mcS); obtain ⟨p0, p1, p2, p3, p4, p5, plt⟩ := row6 (hK6.2 _ (mcO _ mcS)); have yM : z07 _ W.heap.size _ := (hK6.2 _ (mcO _ (mcO _ mcS))); have ylt := yM.lt; obtain ⟨r0, r1, rf0, rf1, rlt⟩ := row2 (hK6.2 _ (mcO _ (mcO _ (mcO _ mcS))))
    have hX := hK6.1
    have hR := hK6.2 _ (mcO _ (mcO _ (mcO _ mcS)))
    have yM' : z07 _ W.heap.size (y.putReg d ⟨zk, zl, zh⟩) := hK6.2 _ (mcO _ (mcO _ mcS))
    go_upto_region 56 with fail
    go_step
    (refine z03 rfl (.pointer (some ⟨Bl, 0, none⟩)) w7 (by go_simp; try rfl) ?_); simp only [Act.put, siA, scZ, scS]
    (refine wpList_load_row rfl 45 (.tmp 4) rfl W.heap.size rfl 45 (z04 (y.putReg d ⟨zk, zl, zh⟩)) (0, 0) _ yM' Tryz.underlying45 rfl (z1e _) ?_)
    simp only [Act.put, siA, scZ, scS]
    (refine z03 rfl (vI vK ((pc : Int) + 1)) w7 (by go_simp; try rfl) ?_); simp only [Act.put, siA, scZ, scS]
    refine z0d rfl 9 #[.pointer (some ⟨Bl, 0, none⟩), .agg (z04 (y.putReg d ⟨zk, zl, zh⟩)), vI vK ((pc : Int) + 1)] (by go_simp; try rfl) (HGO.out w7 hX (Array.getElem?_eq_some_iff.1 hR).1) ?_
    intro v9 w9 hq
    obtain ⟨er, i, rfl, hkp, hT⟩ := hq
    have hR9 := z3y HLK.out hkp hR
    obtain ⟨q0, q1, qf0, qf1, qlt⟩ := row2 hR9
    simp only [Act.put, siA, scZ, scS]
    go_wp2_with fail
    exact bodyPost_ret (v := .agg #[vI vK er, vI vK i]) (by simp [results, Tryz.results9, go_sem, *]) rfl ⟨er, i, rfl, z39 hX hkp, w9, hT, z5e⟩
def zIn := fun bk off len cap Bl base f E es y pc c o n d s r W HLK HST hpc hlen hd hs HA => (@z51 bk off len cap Bl base f E es y pc c o n d s r W HLK HST hpc hlen hd hs HA).1
def zIm := fun bk off len cap Bl base f E es y pc c o n d s r W HLK HST hpc hlen hd hs HA => (@z51 bk off len cap Bl base f E es y pc c o n d s r W HLK HST hpc hlen hd hs HA).2.1
def zPk := fun bk off len cap Bl base f E es y pc c o n d s r W HLK HST hpc hlen hd hs HA => (@z51 bk off len cap Bl base f E es y pc c o n d s r W HLK HST hpc hlen hd hs HA).2.2.1
def zPn := fun bk off len cap Bl base f E es y pc c o n d s r W HLK HST hpc hlen hd hs HA => (@z51 bk off len cap Bl base f E es y pc c o n d s r W HLK HST hpc hlen hd hs HA).2.2.2.1
def zPm := fun bk off len cap Bl base f E es y pc c o n d s r W HLK HST hpc hlen hd hs HA => (@z51 bk off len cap Bl base f E es y pc c o n d s r W HLK HST hpc hlen hd hs HA).2.2.2.2.1
def zPp := fun bk off len cap Bl base f E es y pc c o n d s r W HLK HST hpc hlen hd hs HA => (@z51 bk off len cap Bl base f E es y pc c o n d s r W HLK HST hpc hlen hd hs HA).2.2.2.2.2.1
def zPo := fun bk off len cap Bl base f E es y pc c o n d s r W HLK HST hpc hlen hd hs HA => (@z51 bk off len cap Bl base f E es y pc c o n d s r W HLK HST hpc hlen hd hs HA).2.2.2.2.2.2.1
def zIh := fun bk off len cap Bl base f E es y pc c o n d s r W HLK HST hpc hlen hd hs HA => (@z51 bk off len cap Bl base f E es y pc c o n d s r W HLK HST hpc hlen hd hs HA).2.2.2.2.2.2.2.1
def zLm := fun bk off len cap Bl base f E es y pc c o n d s r W HLK HST hpc hlen hd hs HA => (@z51 bk off len cap Bl base f E es y pc c o n d s r W HLK HST hpc hlen hd hs HA).2.2.2.2.2.2.2.2
def z4p (y : Way) (q : Nat) : Way := { y with reg := fun i => if 1 ≤ i ∧ i < q then kno0 else y.reg i }
theorem z88 (y : Way) (q i : Nat) (hq : q ≤ 11) : (z4p y q).all i = if 1 ≤ i ∧ i < q then kno0 else y.all i := by
 unfold Way.all
 by_cases h : i < 11
 ·rw [if_pos h, if_pos h]; rfl
 ·rw [if_neg h, if_neg h, if_neg (by omega)]; rfl
theorem z4n (y : Way) : z04 (z4p y 1) = z04 y := z6r fun i _ => by rw [z88 _ _ _ (by decide), if_neg (by omega)]
theorem z4m {y : Way} {q : Nat} (h1 : 1 ≤ q) (h6 : q ≤ 6) : z04 ((z4p y q).putAll q kno0) = z04 (z4p y (q + 1)) := z6r fun i _ => by
 rw [z5l, z88 _ _ _ (by omega), z88 _ _ _ (by omega)]
 by_cases e : i = q
 ·rw [if_pos e, if_pos (by omega)]
 ·rw [if_neg e]
  by_cases h : 1 ≤ i ∧ i < q
  ·rw [if_pos h, if_pos (by omega)]
  ·rw [if_neg h, if_neg (by omega)]
theorem z5p {y : Way} (a : Kno) {b : Kno} : z04 ((y.putAll 0 a).putAll 0 b) = z04 (y.putReg 0 b) := z6r fun i _ => by
 rw [← z25 (by decide), z5l, z5l, z5l]
 by_cases e : i = 0
 ·rw [if_pos e, if_pos e]
 ·rw [if_neg e, if_neg e, if_neg e]
theorem z7f (y : Way) : z04 (z4p y 6) = z04 y.lose := z6r fun i _ => by
 rw [z88 _ _ _ (by decide)]
 unfold Way.all
 by_cases h : i < 11
 ·rw [if_pos h, if_pos h]
  show _ = if 1 ≤ i ∧ i ≤ 5 then kno0 else y.reg i
  by_cases e : 1 ≤ i ∧ i ≤ 5
  ·rw [if_pos e, if_pos (by omega)]
  ·rw [if_neg e, if_neg (by omega)]
 ·rw [if_neg h, if_neg h, if_neg (by omega)]; rfl
theorem zKz (x : Int) (w : World) : Calls Tryz.prog 11 #[vI vK x] w fun e w' => e = .returned (.agg #[vI vK x, vI vK (-1)]) ∧ Below w.heap.size w w' := by
 go_enter Tryz.func11, Tryz.ntmps11
 go_wp2_with fail
 exact bodyPost_ret (v := .agg #[vI vK x, vI vK (-1)]) (by simp [results, Tryz.results11, go_sem, *]) rfl ⟨rfl, (by repeat' first | with_reducible (first | exact bF _ _ | refine bA ?_ ?_ _ | refine bS ?_ ?_ _) | (simp; done) | (simp; omega))⟩
theorem zPf {W : World} {Bl : Nat} {E x : Value} {a b : Obj} (h : Bl < W.heap.size) : Kp Bl E W ((((W.setCell ⟨Bl, 1, none⟩ x).alloc a).alloc b)) := by
 refine ⟨(((bF _ _).setCell (Nat.zero_le _) _).alloc (Nat.zero_le _) _).alloc (Nat.zero_le _) _, fun k hk h1 _ => ?_⟩
 rw [heap_alloc_old _ _ (by simp; omega), heap_alloc_old _ _ (by simpa using hk)]
 exact heap_setCell_other _ _ _ _ h1
theorem zE9 {P : Program} {o : Oper} {u : Act} (W W' : World) (x y : Operand) (t : TypeId) (s1 s2 v : Value) (ho : o.op = .call { callee := .builtin .append, args := #[x, y], argTypes := #[t, t] }) (hx : u.eval x = s1) (hy : u.eval y = s2)
  (hr : (Builtin.append_ #[t, t] o.type #[s1, s2]).run P W = .ok v W') : (execOp u.eval o).run P W = .ok (.value v) W' := by
 unfold execOp
 simp only [ho, resolve, invoke, builtin, Sem.run_bind, Sem.run_pure, Result.andThen_ok, List.map_toArray, List.map_cons, List.map_nil, hx, hy, hr]
theorem z5g {w1 w' : World} {B Bl base f : Nat} {l E : Value} {es : List Kno} (h : z1j w1 Bl base l f E es) (ho : z24 B w1 w') (hB : B ≠ Bl) (hE : some B ≠ E.ownBlock) : z1j w' Bl base l f E es :=
 ⟨(ho.2.2 Bl (fun e => hB e.symm)).trans h.box, h.own.kept (row := some B) ⟨ho.1.os, ho.1.tape, ho.1.output, ho.1.size, fun k _ hk => ho.2.2 k (fun e => hk (congrArg some e))⟩ (Or.inr fun e => hE e.symm), h.lt, h.few⟩
theorem zT7 {W w6 w7 : World} {Bl : Nat} {E x y : Value} (h : Kp Bl E W w6) (hb : Below w6.heap.size w6 w7) (hl : Bl < W.heap.size) : Kp Bl E W ((w7.setCell ⟨W.heap.size + 1, 0, none⟩ x).setCell ⟨W.heap.size + 1, 1, none⟩ y) := by
 have hs := h.size
 refine ⟨((h.1.trans (hb.mono (Nat.zero_le _))).setCell (Nat.zero_le _) _).setCell (Nat.zero_le _) _, fun k hk h1 h2 => ?_⟩
 rw [heap_setCell_other _ _ _ _ (by show k ≠ W.heap.size + 1; omega), heap_setCell_other _ _ _ _ (by show k ≠ W.heap.size + 1; omega), hb.block k (by omega)]
 exact h.2 k hk h1 h2
theorem zJr {w6 : World} {B Bl base f : Nat} {l E : Value} {es : List Kno} {cs : Array Value} {t : TypeId} (hc : w6.heap[B]? = some (.cells cs t (0, 0))) (ht : t ≠ 24) (h' : z1j w6 Bl base l f E es) : some B ≠ E.ownBlock := by
 intro e
 have ho := h'.own
 rcases ho.2 with ⟨hn, _⟩ | ⟨k, cap, cur, hv, _, hk, _⟩
 ·rw [hn] at e; cases e
 ·rw [hv] at e
  injection e with e
  have e' : B = k := e
  rw [← e', hc] at hk
  injection hk with hk
  injection hk with _ h2
  exact ht h2
theorem Tryz.infoRB : (Tryz.prog.info? 24).map (fun i => (i.zero, i.size, i.bytes)) = some (some (.agg #[vI vK 0, vI vK 0]), 2, 16) := by kernel_rfl
theorem z9h {w1 : World} {b : Nat} {e : TypeId} {z : Nat} {v : Value} {n : Nat} {xs : List Value} {X : Obj} (h : w1.ownsRow b e z v n xs) : (w1.drew.alloc X).ownsRow b e z v n xs := by
 have h' : w1.drew.ownsRow b e z v n xs := h
 exact h'.alloc X
theorem zM9 {w : World} {x y : Value} {e : TypeId} : ∀ (j : Nat) u, [x, y][j]? = some u → (w.drew.alloc (.cells #[x, y] e)).cell? ((⟨w.heap.size, 0, none⟩ : Addr).add j) = some u := by
 intro j u hj
 rw [Addr.add_mid, Nat.zero_add, cell_of_row _ w.heap.size j _ e (0, 0) (heap_alloc_new w.drew _), ← Array.getElem?_toList]
 exact hj
theorem zL4 {w : World} {b : Nat} {e : TypeId} {z : Nat} {v : Value} {n : Nat} {xs : List Value} (h : w.ownsRow b e z v n xs) : ∃ qa qc, v = .slice qa n qc := by
 rcases h.2 with ⟨e1, e2⟩ | ⟨g, cap, cur, e1, _⟩
 ·exact ⟨none, 0, by rw [e2]; exact e1⟩
 ·exact ⟨_, _, e1⟩
theorem zIj (bk off len cap Bl base : Nat) (E : Value) (es : List Kno) (y : Way) (pc : Nat) (W : World) (HLK : Hid (z1j W Bl base (.slice (some ⟨bk, off, none⟩) len cap) 0 E es)) : Calls Tryz.prog 9 #[.pointer (some ⟨Bl, 0, none⟩), .agg (z04 y), vI vK pc] W fun e w' => e = .returned (.agg #[vI vK 4, vI vK pc]) ∧ Kp Bl E W w' := by
 have hlk := HLK.out
 obtain ⟨l0, l1, l2, lf0, lf1, lf2, llt⟩ := row3 hlk.box
 have e1 : IntKind.i64.wrap (((0 : Nat) : Int) - 1) = (-1 : Int) := by rw [IntWalk.i64_left]; exact z0e (by decide) (by decide)
 go_enter Tryz.func9, Tryz.ntmps9
 go_wp2_with fail
 exact bodyPost_ret (v := .agg #[vI vK 4, vI vK pc]) (by simp [results, Tryz.results9, go_sem, *]) rfl ⟨rfl, zPf llt⟩
theorem z3j (bk off len cap Bl base f : Nat) (E : Value) (es : List Kno) (y : Way) (pc : Nat) (c o n : Int) (d s : Nat) (r : Bool) (W : World) (HLK : Hid (z1j W Bl base (.slice (some ⟨bk, off, none⟩) len cap) (f + 1) E es)) (HST : Hid ((W.cell? ⟨bk, off + pc * 6, none⟩ = some (vI vK c) ∧ W.cell? ⟨bk, off + pc * 6 + 1, none⟩ = some (vI vK d) ∧ W.cell? ⟨bk, off + pc * 6 + 2, none⟩ = some (vI vK s) ∧ W.cell? ⟨bk, off + pc * 6 + 3, none⟩ = some (.bool r) ∧ W.cell? ⟨bk, off + pc * 6 + 4, none⟩ = some (vI vK o) ∧ W.cell? ⟨bk, off + pc * 6 + 5, none⟩ = some (vI vK n)) ∧ bk < W.heap.size ∧ bk ≠ Bl)) (hpc : pc < len) (hlen : len ≤ 200) (hd : d < 11) (hs : s < 11) (HA : Hid (z0a W ∧ 0 ≠ Bl)) : (∀ (x28 : (c == 28) = false) (x14 : (c == 14) = true) (pc' : Nat) (e3 : wrap64 ((pc : Int) + 1 + o) = (pc' : Int)) (T : Int → Int → World → Prop) (HGO : Hid (∀ wX : World, Below (W.setCell ⟨Bl, 1, none⟩ (vI vK (f : Int))).heap.size (W.setCell ⟨Bl, 1, none⟩ (vI vK (f : Int))) wX → W.heap.size + 1 < wX.heap.size → Calls Tryz.prog 9 #[.pointer (some ⟨Bl, 0, none⟩), .agg (z04 y), vI vK (pc' : Int)] wX fun e w' => ∃ v, e = .returned v ∧ ∃ er i, v = .agg #[vI vK er, vI vK i] ∧ Kp Bl E wX w' ∧ T er i w')), Calls Tryz.prog 9 #[.pointer (some ⟨Bl, 0, none⟩), .agg (z04 y), vI vK pc] W fun e w' => ∃ er i, e = .returned (.agg #[vI vK er, vI vK i]) ∧ Kp Bl E W w' ∧ ∃ w1, T er i w1 ∧ z24 (W.heap.size + 1) w1 w') ∧ (∀ (HBA : Hid (base ≤ W.heap.size)) (x28 : (c == 28) = true) (y1 : (kD (y.reg 0).k == 110) = true), Calls Tryz.prog 9 #[.pointer (some ⟨Bl, 0, none⟩), .agg (z04 y), vI vK pc] W fun e w' => e = .returned (.agg #[vI vK 0, vI vK (-1)]) ∧ Kp Bl E W w' ∧ ∃ E', z1j w' Bl base (.slice (some ⟨bk, off, none⟩) len cap) f E' (es ++ [y.reg 0]) ∧ z0x W E E') ∧ (∀ (x28 : (c == 28) = false) (x14 : (c == 14) = false) (HQ : Hid ((decide (15 ≤ c) && decide (c ≤ 24)) = true)) (T : Int → Int → World → Prop) (HBO : Hid (∀ wX : World, Below (W.setCell ⟨Bl, 1, none⟩ (vI vK (f : Int))).heap.size (W.setCell ⟨Bl, 1, none⟩ (vI vK (f : Int))) wX → W.heap.size + 1 < wX.heap.size → Calls Tryz.prog 19 #[.pointer (some ⟨Bl, 0, none⟩), .agg (z04 y), vI vK pc, .agg #[.int .u8 (kD (y.second s r n).k), vI vK (y.second s r n).l, vI vK (y.second s r n).h]] wX fun e w' => ∃ v, e = .returned v ∧ ∃ er i, v = .agg #[vI vK er, vI vK i] ∧ Kp Bl E wX w' ∧ T er i w')), Calls Tryz.prog 9 #[.pointer (some ⟨Bl, 0, none⟩), .agg (z04 y), vI vK pc] W fun e w' => ∃ er i, e = .returned (.agg #[vI vK er, vI vK i]) ∧ Kp Bl E W w' ∧ ∃ w1, T er i w1 ∧ z24 (W.heap.size + 1) w1 w') ∧ (∀ (x28 : (c == 28) = false) (x14 : (c == 14) = false) (HQ : Hid ((decide (15 ≤ c) && decide (c ≤ 24)) = false)) (x25 : (c == 25) = false) (x26 : (c == 26) = false) (x27 : (c == 27) = true) (z2 : (n != 2) = true) (z1 : (n == 1) = false) (z3 : (n == 3) = true) (z4 : (kD (y.reg 1).k != 110) = true) (z5 : (kD (y.reg 1).k == 0) = true), Calls Tryz.prog 9 #[.pointer (some ⟨Bl, 0, none⟩), .agg (z04 y), vI vK pc] W fun e w' => e = .returned (.agg #[vI vK 8, vI vK pc]) ∧ Kp Bl E W w') ∧ (∀ (x28 : (c == 28) = false) (x14 : (c == 14) = false) (HQ : Hid ((decide (15 ≤ c) && decide (c ≤ 24)) = false)) (x25 : (c == 25) = false) (x26 : (c == 26) = false) (x27 : (c == 27) = true) (z2 : (n != 2) = true) (z1 : (n == 1) = false) (z3 : (n == 3) = true) (z4 : (kD (y.reg 1).k != 110) = true) (z5 : (kD (y.reg 1).k == 0) = false), Calls Tryz.prog 9 #[.pointer (some ⟨Bl, 0, none⟩), .agg (z04 y), vI vK pc] W fun e w' => e = .returned (.agg #[vI vK 1, vI vK pc]) ∧ Kp Bl E W w') ∧ (∀ (x28 : (c == 28) = false) (x14 : (c == 14) = false) (HQ : Hid ((decide (15 ≤ c) && decide (c ≤ 24)) = false)) (x25 : (c == 25) = false) (x26 : (c == 26) = false) (x27 : (c == 27) = true) (z2 : (n != 2) = true) (z1 : (n == 1) = false) (z3 : (n == 3) = true) (z4 : (kD (y.reg 1).k != 110) = false) (T : Int → Int → World → Prop) (HGO : Hid (∀ wX : World, Below (W.setCell ⟨Bl, 1, none⟩ (vI vK (f : Int))).heap.size (W.setCell ⟨Bl, 1, none⟩ (vI vK (f : Int))) wX → W.heap.size + 1 < wX.heap.size → Calls Tryz.prog 9 #[.pointer (some ⟨Bl, 0, none⟩), .agg (z04 ((y.putReg 0 ⟨1, 0, 0⟩)).lose), vI vK ((pc : Int) + 1)] wX fun e w' => ∃ v, e = .returned v ∧ ∃ er i, v = .agg #[vI vK er, vI vK i] ∧ Kp Bl E wX w' ∧ T er i w')), Calls Tryz.prog 9 #[.pointer (some ⟨Bl, 0, none⟩), .agg (z04 y), vI vK pc] W fun e w' => ∃ er i, e = .returned (.agg #[vI vK er, vI vK i]) ∧ Kp Bl E W w' ∧ ∃ w1, T er i w1 ∧ z24 (W.heap.size + 1) w1 w') ∧ (∀ (x28 : (c == 28) = false) (x14 : (c == 14) = false) (HQ : Hid ((decide (15 ≤ c) && decide (c ≤ 24)) = false)) (x25 : (c == 25) = false) (x26 : (c == 26) = false) (x27 : (c == 27) = true) (z2 : (n != 2) = true) (z1 : (n == 1) = true) (z4 : (kD (y.reg 1).k != 110) = true) (z5 : (kD (y.reg 1).k == 0) = true), Calls Tryz.prog 9 #[.pointer (some ⟨Bl, 0, none⟩), .agg (z04 y), vI vK pc] W fun e w' => e = .returned (.agg #[vI vK 8, vI vK pc]) ∧ Kp Bl E W w') ∧ (∀ (x28 : (c == 28) = false) (x14 : (c == 14) = false) (HQ : Hid ((decide (15 ≤ c) && decide (c ≤ 24)) = false)) (x25 : (c == 25) = false) (x26 : (c == 26) = false) (x27 : (c == 27) = true) (z2 : (n != 2) = true) (z1 : (n == 1) = true) (z4 : (kD (y.reg 1).k != 110) = true) (z5 : (kD (y.reg 1).k == 0) = false), Calls Tryz.prog 9 #[.pointer (some ⟨Bl, 0, none⟩), .agg (z04 y), vI vK pc] W fun e w' => e = .returned (.agg #[vI vK 1, vI vK pc]) ∧ Kp Bl E W w') ∧ (∀ (x28 : (c == 28) = false) (x14 : (c == 14) = false) (HQ : Hid ((decide (15 ≤ c) && decide (c ≤ 24)) = false)) (x25 : (c == 25) = false) (x26 : (c == 26) = false) (x27 : (c == 27) = true) (z2 : (n != 2) = true) (z1 : (n == 1) = true) (z4 : (kD (y.reg 1).k != 110) = false) (T : Int → Int → World → Prop) (HGO : Hid (∀ wX : World, Below (W.setCell ⟨Bl, 1, none⟩ (vI vK (f : Int))).heap.size (W.setCell ⟨Bl, 1, none⟩ (vI vK (f : Int))) wX → W.heap.size + 1 < wX.heap.size → Calls Tryz.prog 9 #[.pointer (some ⟨Bl, 0, none⟩), .agg (z04 ((y.putReg 0 ⟨5, 0, 0⟩)).lose), vI vK ((pc : Int) + 1)] wX fun e w' => ∃ v, e = .returned v ∧ ∃ er i, v = .agg #[vI vK er, vI vK i] ∧ Kp Bl E wX w' ∧ T er i w')), Calls Tryz.prog 9 #[.pointer (some ⟨Bl, 0, none⟩), .agg (z04 y), vI vK pc] W fun e w' => ∃ er i, e = .returned (.agg #[vI vK er, vI vK i]) ∧ Kp Bl E W w' ∧ ∃ w1, T er i w1 ∧ z24 (W.heap.size + 1) w1 w') ∧ (∀ (x28 : (c == 28) = false) (x14 : (c == 14) = false) (HQ : Hid ((decide (15 ≤ c) && decide (c ≤ 24)) = false)) (x25 : (c == 25) = false) (x26 : (c == 26) = false) (x27 : (c == 27) = true) (z2 : (n != 2) = false) (z1 : (n == 1) = false) (z3 : (n == 3) = false) (T : Int → Int → World → Prop) (HGO : Hid (∀ wX : World, Below (W.setCell ⟨Bl, 1, none⟩ (vI vK (f : Int))).heap.size (W.setCell ⟨Bl, 1, none⟩ (vI vK (f : Int))) wX → W.heap.size + 1 < wX.heap.size → Calls Tryz.prog 9 #[.pointer (some ⟨Bl, 0, none⟩), .agg (z04 ((y.putReg 0 ⟨1, (-9223372036854775808), 9223372036854775807⟩)).lose), vI vK ((pc : Int) + 1)] wX fun e w' => ∃ v, e = .returned v ∧ ∃ er i, v = .agg #[vI vK er, vI vK i] ∧ Kp Bl E wX w' ∧ T er i w')), Calls Tryz.prog 9 #[.pointer (some ⟨Bl, 0, none⟩), .agg (z04 y), vI vK pc] W fun e w' => ∃ er i, e = .returned (.agg #[vI vK er, vI vK i]) ∧ Kp Bl E W w' ∧ ∃ w1, T er i w1 ∧ z24 (W.heap.size + 1) w1 w') ∧ (∀ (q : Nat) (hq : q < 27) (x28 : (c == 28) = false) (x14 : (c == 14) = false) (HQ : Hid ((decide (15 ≤ c) && decide (c ≤ 24)) = false)) (x25 : (c == 25) = false) (x26 : (c == 26) = true) (b0 b1 er : Int) (HFU : Hid (∀ wX : World, z0a wX → Calls Tryz.prog 21 #[.agg #[.int .u8 (kD (y.reg d).k), vI vK (y.reg d).l, vI vK (y.reg d).h], vI vK o] wX fun e w' => e = .returned (.tuple #[.agg #[vI vK b0, vI vK b1], vI vK er]) ∧ Below wX.heap.size wX w')) (e0 : (er == 0) = true) (e0' : (er != 0) = false) (z1 : ((kD (y.reg d).k) == 116) = false) (z2 : ((kD (y.second s r n).k) == 0) = false) (z3 : ((kD (y.reg d).k) == 99) = false) (z5 : ((kD (y.reg d).k) == 102) = true) (z6 : (b0 != b1) = false) (e4 : IntKind.i64.wrap (27 + b0) = (q : Int)) (T : Int → Int → World → Prop) (HGO : Hid (∀ wX : World, Below (W.setCell ⟨Bl, 1, none⟩ (vI vK (f : Int))).heap.size (W.setCell ⟨Bl, 1, none⟩ (vI vK (f : Int))) wX → W.heap.size + 1 < wX.heap.size → Calls Tryz.prog 9 #[.pointer (some ⟨Bl, 0, none⟩), .agg (z04 (y.putAll q (y.second s r n))), vI vK ((pc : Int) + 1)] wX fun e w' => ∃ v, e = .returned v ∧ ∃ er i, v = .agg #[vI vK er, vI vK i] ∧ Kp Bl E wX w' ∧ T er i w')), Calls Tryz.prog 9 #[.pointer (some ⟨Bl, 0, none⟩), .agg (z04 y), vI vK pc] W fun e w' => ∃ er i, e = .returned (.agg #[vI vK er, vI vK i]) ∧ Kp Bl E W w' ∧ ∃ w1, T er i w1 ∧ z24 (W.heap.size + 1) w1 w') ∧ (∀ (x28 : (c == 28) = false) (x14 : (c == 14) = false) (HQ : Hid ((decide (15 ≤ c) && decide (c ≤ 24)) = false)) (x25 : (c == 25) = false) (x26 : (c == 26) = true) (b0 b1 er : Int) (HFU : Hid (∀ wX : World, z0a wX → Calls Tryz.prog 21 #[.agg #[.int .u8 (kD (y.reg d).k), vI vK (y.reg d).l, vI vK (y.reg d).h], vI vK o] wX fun e w' => e = .returned (.tuple #[.agg #[vI vK b0, vI vK b1], vI vK er]) ∧ Below wX.heap.size wX w')) (e0 : (er == 0) = true) (e0' : (er != 0) = false) (z1 : ((kD (y.reg d).k) == 116) = false) (z2 : ((kD (y.second s r n).k) == 0) = false) (z3 : ((kD (y.reg d).k) == 99) = true) (z4 : ((kD (y.second s r n).k) != 110) = false) (z5 : ((kD (y.reg d).k) == 102) = false) (T : Int → Int → World → Prop) (HGO : Hid (∀ wX : World, Below (W.setCell ⟨Bl, 1, none⟩ (vI vK (f : Int))).heap.size (W.setCell ⟨Bl, 1, none⟩ (vI vK (f : Int))) wX → W.heap.size + 1 < wX.heap.size → Calls Tryz.prog 9 #[.pointer (some ⟨Bl, 0, none⟩), .agg (z04 y), vI vK ((pc : Int) + 1)] wX fun e w' => ∃ v, e = .returned v ∧ ∃ er i, v = .agg #[vI vK er, vI vK i] ∧ Kp Bl E wX w' ∧ T er i w')), Calls Tryz.prog 9 #[.pointer (some ⟨Bl, 0, none⟩), .agg (z04 y), vI vK pc] W fun e w' => ∃ er i, e = .returned (.agg #[vI vK er, vI vK i]) ∧ Kp Bl E W w' ∧ ∃ w1, T er i w1 ∧ z24 (W.heap.size + 1) w1 w') ∧ (∀ (x28 : (c == 28) = false) (x14 : (c == 14) = false) (HQ : Hid ((decide (15 ≤ c) && decide (c ≤ 24)) = false)) (x25 : (c == 25) = true) (zk zl zh er : Int) (HLD : Hid (∀ wX : World, z0a wX → Calls Tryz.prog 20 #[.agg (z04 y), .agg #[.int .u8 (kD (y.reg s).k), vI vK (y.reg s).l, vI vK (y.reg s).h], vI vK o] wX fun e w' => e = .returned (.tuple #[.agg #[.int .u8 (kD zk), vI vK zl, vI vK zh], vI vK er]) ∧ Below wX.heap.size wX w')) (e0 : (er != 0) = true), Calls Tryz.prog 9 #[.pointer (some ⟨Bl, 0, none⟩), .agg (z04 y), vI vK pc] W fun e w' => e = .returned (.agg #[vI vK er, vI vK pc]) ∧ Kp Bl E W w') ∧ (∀ (x28 : (c == 28) = false) (x14 : (c == 14) = false) (HQ : Hid ((decide (15 ≤ c) && decide (c ≤ 24)) = false)) (x25 : (c == 25) = true) (zk zl zh er : Int) (HLD : Hid (∀ wX : World, z0a wX → Calls Tryz.prog 20 #[.agg (z04 y), .agg #[.int .u8 (kD (y.reg s).k), vI vK (y.reg s).l, vI vK (y.reg s).h], vI vK o] wX fun e w' => e = .returned (.tuple #[.agg #[.int .u8 (kD zk), vI vK zl, vI vK zh], vI vK er]) ∧ Below wX.heap.size wX w')) (e0 : (er != 0) = false) (T : Int → Int → World → Prop) (HGO : Hid (∀ wX : World, Below (W.setCell ⟨Bl, 1, none⟩ (vI vK (f : Int))).heap.size (W.setCell ⟨Bl, 1, none⟩ (vI vK (f : Int))) wX → W.heap.size + 1 < wX.heap.size → Calls Tryz.prog 9 #[.pointer (some ⟨Bl, 0, none⟩), .agg (z04 (y.putReg d ⟨zk, zl, zh⟩)), vI vK ((pc : Int) + 1)] wX fun e w' => ∃ v, e = .returned v ∧ ∃ er i, v = .agg #[vI vK er, vI vK i] ∧ Kp Bl E wX w' ∧ T er i w')), Calls Tryz.prog 9 #[.pointer (some ⟨Bl, 0, none⟩), .agg (z04 y), vI vK pc] W fun e w' => ∃ er i, e = .returned (.agg #[vI vK er, vI vK i]) ∧ Kp Bl E W w' ∧ ∃ w1, T er i w1 ∧ z24 (W.heap.size + 1) w1 w') := by
 refine ⟨?_, ?_, ?_, ?_, ?_, ?_, ?_, ?_, ?_, ?_, ?_, ?_, ?_, ?_⟩
 intro x28 x14 pc' e3 T HGO
 have qq1 := trivial
 rotate_left
 intro HBA x28 y1
 have qq2 := trivial
 rotate_left
 intro x28 x14 HQ T HBO
 have qq3 := trivial
 rotate_left
 intro x28 x14 HQ x25 x26 x27 z2 z1 z3 z4 z5
 have qq4 := trivial
 rotate_left
 intro x28 x14 HQ x25 x26 x27 z2 z1 z3 z4 z5
 have qq4 := trivial
 rotate_left
 intro x28 x14 HQ x25 x26 x27 z2 z1 z3 z4 T HGO
 have qq5 := trivial
 rotate_left
 intro x28 x14 HQ x25 x26 x27 z2 z1 z4 z5
 have qq6 := trivial
 rotate_left
 intro x28 x14 HQ x25 x26 x27 z2 z1 z4 z5
 have qq6 := trivial
 rotate_left
 intro x28 x14 HQ x25 x26 x27 z2 z1 z4 T HGO
 have qq7 := trivial
 rotate_left
 intro x28 x14 HQ x25 x26 x27 z2 z1 z3 T HGO
 have qq8 := trivial
 rotate_left
 intro q hq x28 x14 HQ x25 x26 b0 b1 er HFU e0 e0' z1 z2 z3 z5 z6 e4 T HGO
 have qq9 := trivial
 rotate_left
 intro x28 x14 HQ x25 x26 b0 b1 er HFU e0 e0' z1 z2 z3 z4 z5 T HGO
 have qq10 := trivial
 rotate_left
 intro x28 x14 HQ x25 zk zl zh er HLD e0
 have qq11 := trivial
 rotate_left
 intro x28 x14 HQ x25 zk zl zh er HLD e0 T HGO
 have qq12 := trivial
 rotate_left
 all_goals
  as_aux_lemma =>
  have hlk := HLK.out
  obtain ⟨l0, l1, l2, lf0, lf1, lf2, llt⟩ := row3 hlk.box
  have hf : f + 1 ≤ 4000 := by have := hlk.few; omega
  have e1 : IntKind.i64.wrap (((f + 1 : Nat) : Int) - 1) = (f : Int) := by rw [IntWalk.i64_left, z0e (by omega) (by omega)]; omega
  have hp0 : (0 : Int) ≤ (pc : Int) := by omega
  have hp1 : (pc : Int) < (len : Int) := by omega
  have e2 : IntKind.i64.wrap ((pc : Int) + 1) = ((pc + 1 : Nat) : Int) := by rw [IntWalk.i64_left, z0e (by omega) (by omega)]; omega
  have HLB := hlk.less
  have HSB : Hid (((W.setCell ⟨Bl, 1, none⟩ (vI vK (f : Int))).cell? ⟨bk, off + pc * 6, none⟩ = some (vI vK c) ∧ (W.setCell ⟨Bl, 1, none⟩ (vI vK (f : Int))).cell? ⟨bk, off + pc * 6 + 1, none⟩ = some (vI vK d) ∧ (W.setCell ⟨Bl, 1, none⟩ (vI vK (f : Int))).cell? ⟨bk, off + pc * 6 + 2, none⟩ = some (vI vK s) ∧ (W.setCell ⟨Bl, 1, none⟩ (vI vK (f : Int))).cell? ⟨bk, off + pc * 6 + 3, none⟩ = some (.bool r) ∧ (W.setCell ⟨Bl, 1, none⟩ (vI vK (f : Int))).cell? ⟨bk, off + pc * 6 + 4, none⟩ = some (vI vK o) ∧ (W.setCell ⟨Bl, 1, none⟩ (vI vK (f : Int))).cell? ⟨bk, off + pc * 6 + 5, none⟩ = some (vI vK n)) ∧ bk < (W.setCell ⟨Bl, 1, none⟩ (vI vK (f : Int))).heap.size) := by
   obtain ⟨h1, h2, h3⟩ := HST.out
   have e := fun o => World.cell?_of_block (a := ⟨bk, o, none⟩) (Below.heap_setCell W ⟨Bl, 1, none⟩ (vI vK (f : Int)) bk h3)
   exact ⟨⟨(e _).trans h1.1, (e _).trans h1.2.1, (e _).trans h1.2.2.1, (e _).trans h1.2.2.2.1, (e _).trans h1.2.2.2.2.1, (e _).trans h1.2.2.2.2.2⟩, by simpa using h2⟩
  have hsz : (W.setCell ⟨Bl, 1, none⟩ (vI vK (f : Int))).heap.size = W.heap.size := by simp
  have HSZ : Hid ((W.setCell ⟨Bl, 1, none⟩ (vI vK (f : Int))).heap.size = W.heap.size) := hsz
  clear hsz
  go_enter Tryz.func9, Tryz.ntmps9
  go_upto_region 2 with fail
  have hK1 : Blk (W.setCell ⟨Bl, 1, none⟩ (vI vK (f : Int))) [(W.heap.size, .cells (z04 y) 45 (0, 0)), (W.heap.size + 1, .cells #[vI vK 0, vI vK 0] 27 (0, 0))] (((W.setCell ⟨Bl, 1, none⟩ (vI vK (f : Int))).alloc (.cells (z04 y) 45)).alloc (.cells #[vI vK 0, vI vK 0] 27)) := by
   have h := ((Blk.nil (((bF _ (W.setCell ⟨Bl, 1, none⟩ (vI vK (f : Int)))).alloc (Nat.le_refl _) (.cells (z04 y) 45)).alloc (by simp) (.cells #[vI vK 0, vI vK 0] 27))).cons (heap_alloc2_new _ _ _)).cons (g := (W.setCell ⟨Bl, 1, none⟩ (vI vK (f : Int))).heap.size) (z := .cells (z04 y) 45) (by rw [Below.heap_alloc _ _ _ (by simp)]; exact heap_alloc_new _ _)
   rw [HSZ.out] at h
   exact h
  generalize (((W.setCell ⟨Bl, 1, none⟩ (vI vK (f : Int))).alloc (.cells (z04 y) 45)).alloc (.cells #[vI vK 0, vI vK 0] 27)) = w1 at hK1 ⊢
  obtain ⟨⟨g0, g1, g2, g3, g4, g5⟩, gl⟩ := HSB.out
  have g0 := (hK1.1.cell (p := ⟨bk, off + pc * 6, none⟩) gl).trans g0
  have g1 := (hK1.1.cell (p := ⟨bk, off + pc * 6 + 1, none⟩) gl).trans g1
  have g2 := (hK1.1.cell (p := ⟨bk, off + pc * 6 + 2, none⟩) gl).trans g2
  have g3 := (hK1.1.cell (p := ⟨bk, off + pc * 6 + 3, none⟩) gl).trans g3
  have g4 := (hK1.1.cell (p := ⟨bk, off + pc * 6 + 4, none⟩) gl).trans g4
  have g5 := (hK1.1.cell (p := ⟨bk, off + pc * 6 + 5, none⟩) gl).trans g5
  have gl := Nat.lt_of_lt_of_le gl hK1.1.size
  clear l0 l1 l2 lf0 lf1 lf2 llt
  obtain ⟨l0, l1, l2, lf0, lf1, lf2, llt⟩ := row3 (HLB.later hK1.1).box
  go_upto_region 6 with fail
  have hK2 := hK1.add (.cells #[vI vK c, vI vK d, vI vK s, .bool r, vI vK o, vI vK n] 59)
  have hb7 : W.heap.size + 1 < w1.heap.size := hK1.lt (mcO _ mcS)
  generalize (w1.alloc (.cells #[vI vK c, vI vK d, vI vK s, .bool r, vI vK o, vI vK n] 59)) = w2 at hK2 ⊢
  generalize w1.heap.size = B7 at hK2 hb7 ⊢
  clear hK1 g0 g1 g2 g3 g4 g5 gl l0 l1 l2 lf0 lf1 lf2 llt
  obtain ⟨p0, p1, p2, p3, p4, p5, plt⟩ := row6 (hK2.2 _ mcS)
  go_upto_region 7 with (first | (go_at_call 8; go_must (refine (z26 n _).mono ?_; rintro e w3 ⟨rfl, hb3⟩; have hK3 := hK2.later hb3)) | fail)
  have hK4 := hK3.add (.cells #[.int .u8 110, vI vK n, vI vK n] 43)
  have hb9 : B7 < w3.heap.size := hK3.lt mcS
  generalize (w3.alloc (.cells #[.int .u8 110, vI vK n, vI vK n] 43)) = w4 at hK4 ⊢
  generalize w3.heap.size = B9 at hK4 hb9 ⊢
  clear hK2 hK3 hb3 p0 p1 p2 p3 p4 p5 plt
  obtain ⟨k0, k1, k2, kf0, kf1, kf2, klt⟩ := row3 (hK4.2 _ mcS)
  obtain ⟨p0, p1, p2, p3, p4, p5, plt⟩ := row6 (hK4.2 _ (mcO _ mcS))
  have yM : z07 _ W.heap.size _ := (hK4.2 _ (mcO _ (mcO _ mcS)))
  have ylt := yM.lt
  have hs0 : (0 : Int) ≤ (s : Int) := by omega
  have hs1 : (s : Int) < 27 := by omega
  obtain ⟨m0, m1, m2⟩ := yM.know (d := s) (by omega)
  rw [z22 hs] at m0 m1 m2
  have HK4 : Hid (Blk (W.setCell ⟨Bl, 1, none⟩ (vI vK (f : Int))) [(B9, .cells #[.int .u8 110, vI vK n, vI vK n] 43 (0, 0)), (B7, .cells #[vI vK c, vI vK d, vI vK s, .bool r, vI vK o, vI vK n] 59 (0, 0)), (W.heap.size, .cells (z04 y) 45 (0, 0)), (W.heap.size + 1, .cells #[vI vK 0, vI vK 0] 27 (0, 0))] w4) := hK4
  clear hK4 yM
  go_upto_if 41 with fail
  go_cut [42] (fun _ wx => Hid (Blk (W.setCell ⟨Bl, 1, none⟩ (vI vK (f : Int))) [(B9, .cells #[.int .u8 (kD (y.second s r n).k), vI vK (y.second s r n).l, vI vK (y.second s r n).h] 43 (0, 0)), (B7, .cells #[vI vK c, vI vK d, vI vK s, .bool r, vI vK o, vI vK n] 59 (0, 0)), (W.heap.size, .cells (z04 y) 45 (0, 0)), (W.heap.size + 1, .cells #[vI vK 0, vI vK 0] 27 (0, 0))] wx))
  case first =>
   cases r
   ·go_wp2_with fail
    go_meet
    exact HK4.out
   ·go_wp2_with fail
    go_meet
    exact Blk.set3 HK4.out (by rw [HSZ.out]; omega) (by intro z hz; simp only [List.mem_cons, List.not_mem_nil, or_false] at hz; rcases hz with rfl | rfl | rfl <;> (show _ ≠ _; omega))
  clear HK4 k0 k1 k2 kf0 kf1 kf2 klt p0 p1 p2 p3 p4 p5 plt ylt m0 m1 m2
  have hK5 := hcut.out
  clear hcut
  obtain ⟨k0, k1, k2, kf0, kf1, kf2, klt⟩ := row3 (hK5.2 _ mcS); obtain ⟨p0, p1, p2, p3, p4, p5, plt⟩ := row6 (hK5.2 _ (mcO _ mcS)); have yM : z07 _ W.heap.size _ := (hK5.2 _ (mcO _ (mcO _ mcS))); have ylt := yM.lt; obtain ⟨r0, r1, rf0, rf1, rlt⟩ := row2 (hK5.2 _ (mcO _ (mcO _ (mcO _ mcS))))
  first
  | clear qq1
    have hX := hK5.1
    have hR := hK5.2 _ (mcO _ (mcO _ (mcO _ mcS)))
    have yM' : z07 _ W.heap.size (y) := hK5.2 _ (mcO _ (mcO _ mcS))
    go_upto_region 56 with fail
    go_step
    (refine z03 rfl (.pointer (some ⟨Bl, 0, none⟩)) wc (by go_simp; try rfl) ?_); simp only [Act.put, siA, scZ, scS]
    (refine wpList_load_row rfl 45 (.tmp 4) rfl W.heap.size rfl 45 (z04 (y)) (0, 0) _ yM' Tryz.underlying45 rfl (z1e _) ?_)
    simp only [Act.put, siA, scZ, scS]
    (refine z03 rfl (vI vK (pc' : Int)) wc (by go_simp; try rfl) ?_); simp only [Act.put, siA, scZ, scS]
    refine z0d rfl 9 #[.pointer (some ⟨Bl, 0, none⟩), .agg (z04 (y)), vI vK (pc' : Int)] (by go_simp; try rfl) (HGO.out wc hX (Array.getElem?_eq_some_iff.1 hR).1) ?_
    intro v9 w9 hq
    obtain ⟨er, i, rfl, hkp, hT⟩ := hq
    have hR9 := z3y HLK.out hkp hR
    obtain ⟨q0, q1, qf0, qf1, qlt⟩ := row2 hR9
    simp only [Act.put, siA, scZ, scS]
    go_wp2_with fail
    exact bodyPost_ret (v := .agg #[vI vK er, vI vK i]) (by simp [results, Tryz.results9, go_sem, *]) rfl ⟨er, i, rfl, z39 hX hkp, w9, hT, z5e⟩
  | clear qq2
    obtain ⟨m0, m1, m2⟩ := yM.know (d := 0) (by decide)
    rw [z22 (by decide)] at m0 m1 m2
    simp only [Nat.zero_mul, Nat.zero_add] at m0 m1 m2
    have hLc := HLB.later hK5.1
    go_upto_region 13 with fail
    obtain ⟨j0, hj, hy0, hy1, hy2⟩ := info_parts Tryz.infoRB
    obtain ⟨qa, qc, rfl⟩ := zL4 hLc.own
    have HKL : Hid (es.length + f ≤ 4000) := hLc.few
    have HOW : Hid (wc.ownsRow base 24 2 (.slice qa es.length qc) es.length (z37 es)) := hLc.own
    have hbase : base ≤ wc.heap.size := by
     have h := HLK.out
     have h2 := hK5.1.size
     rw [HSZ.out] at h2
     exact Nat.le_trans HBA.out h2
    obtain ⟨v5, w5, hr5, hown5, hgrow5, -, hat5⟩ := run_append_own_at (P := Tryz.prog) (wc.drew.alloc (.cells #[vI vK (y.reg 0).l, vI vK (y.reg 0).h] 24)) base 39 39 24 j0 (.agg #[vI vK 0, vI vK 0]) 2 16 Tryz.underlying39 hj hy0 hy1 hy2 rfl (by decide) (.slice qa es.length qc) es.length (z37 es) (z9h HOW.out) ⟨wc.heap.size, 0, none⟩ 1 1 [vI vK (y.reg 0).l, vI vK (y.reg 0).h] rfl (zM9) (by intro u hu; simp at hu; rcases hu with rfl | rfl <;> rfl) (by have := HKL.out; unfold maxLen; omega) (by have := HKL.out; omega) (by show base ≤ (wc.heap.push _).size; rw [Array.size_push]; omega)
    obtain ⟨g5, cp5, rfl⟩ : ∃ g5 cp5, v5 = .slice (some ⟨g5, 0, none⟩) (es.length + 1) cp5 := by
     rcases hown5.2 with ⟨_, h⟩ | ⟨g, cap', _, h, _⟩
     ·omega
     ·exact ⟨g, cap', h⟩
    have HR5 : Hid ((Builtin.append_ #[39, 39] 39 #[.slice qa es.length qc, .slice (some ⟨wc.heap.size, 0, none⟩) 1 1]).run Tryz.prog (wc.drew.alloc (.cells #[vI vK (y.reg 0).l, vI vK (y.reg 0).h] 24)) = .ok (.slice (some ⟨g5, 0, none⟩) (es.length + 1) cp5) w5) := hr5
    have hBlt := hLc.blt
    have hrow := HLK.out.row
    have hnb : (wc.drew.alloc (.cells #[vI vK (y.reg 0).l, vI vK (y.reg 0).h] 24)).heap.size = wc.heap.size + 1 := by show (wc.heap.push _).size = _; rw [Array.size_push]
    have hsW : W.heap.size < wc.heap.size := ylt
    have hneB : some Bl ≠ (Value.slice qa es.length qc).ownBlock := fun e => by have := hrow Bl e.symm; have := HLK.out.lt; omega
    have hneM : some W.heap.size ≠ (Value.slice qa es.length qc).ownBlock := fun e => by have := hrow W.heap.size e.symm; omega
    have hL0 : wc.drew.heap[Bl]? = some (.cells #[.slice (some ⟨bk, off, none⟩) len cap, vI vK (f : Int), (.slice qa es.length qc)] 41 (0, 0)) := hLc.box
    have hM0 : z07 wc.drew W.heap.size y := yM
    have hL8 : (wc.drew.alloc (.cells #[vI vK (y.reg 0).l, vI vK (y.reg 0).h] 24)).heap[Bl]? = some (.cells #[.slice (some ⟨bk, off, none⟩) len cap, vI vK (f : Int), (.slice qa es.length qc)] 41 (0, 0)) := (heap_alloc_old wc.drew _ hBlt).trans hL0
    have hM8 : z07 (wc.drew.alloc (.cells #[vI vK (y.reg 0).l, vI vK (y.reg 0).h] 24)) W.heap.size y := hM0.alloc _
    have hL5 : w5.heap[Bl]? = some (.cells #[.slice (some ⟨bk, off, none⟩) len cap, vI vK (f : Int), (.slice qa es.length qc)] 41 (0, 0)) := (hgrow5.block Bl (by omega) hneB).trans hL8
    have hM5 : z07 w5 W.heap.size y := (hgrow5.block W.heap.size (by omega) hneM).trans hM8
    have hL6 : (w5.setCell ⟨Bl, 2, none⟩ (.slice (some ⟨g5, 0, none⟩) (es.length + 1) cp5)).heap[Bl]? = some (.cells #[.slice (some ⟨bk, off, none⟩) len cap, vI vK (f : Int), (.slice (some ⟨g5, 0, none⟩) (es.length + 1) cp5)] 41 (0, 0)) := heap_setCell_same w5 Bl 2 _ _ _ hL5
    have hM6 : z07 (w5.setCell ⟨Bl, 2, none⟩ (.slice (some ⟨g5, 0, none⟩) (es.length + 1) cp5)) W.heap.size y := hM5.off _ _ (by show W.heap.size ≠ Bl; have := HLK.out.blt; omega)
    have hS : (fun V => (∃ u, V.heap[Bl]? = some (.cells #[.slice (some ⟨bk, off, none⟩) len cap, vI vK (f : Int), u] 41 (0, 0))) ∧ z07 V W.heap.size y) wc.drew := ⟨⟨_, hL0⟩, hM0⟩
    have hS8 : (fun V => (∃ u, V.heap[Bl]? = some (.cells #[.slice (some ⟨bk, off, none⟩) len cap, vI vK (f : Int), u] 41 (0, 0))) ∧ z07 V W.heap.size y) (wc.drew.alloc (.cells #[vI vK (y.reg 0).l, vI vK (y.reg 0).h] 24)) := ⟨⟨_, hL8⟩, hM8⟩
    have hS5 : (fun V => (∃ u, V.heap[Bl]? = some (.cells #[.slice (some ⟨bk, off, none⟩) len cap, vI vK (f : Int), u] 41 (0, 0))) ∧ z07 V W.heap.size y) w5 := ⟨⟨_, hL5⟩, hM5⟩
    have hS6 : (fun V => (∃ u, V.heap[Bl]? = some (.cells #[.slice (some ⟨bk, off, none⟩) len cap, vI vK (f : Int), u] 41 (0, 0))) ∧ z07 V W.heap.size y) (w5.setCell ⟨Bl, 2, none⟩ (.slice (some ⟨g5, 0, none⟩) (es.length + 1) cp5)) := ⟨⟨_, hL6⟩, hM6⟩
    have HLE : Hid (z1j (w5.setCell ⟨Bl, 2, none⟩ (.slice (some ⟨g5, 0, none⟩) (es.length + 1) cp5)) Bl base (.slice (some ⟨bk, off, none⟩) len cap) f (.slice (some ⟨g5, 0, none⟩) (es.length + 1) cp5) (es ++ [y.reg 0])) := by
     refine ⟨hL6, ?_, HLK.out.lt, ?_⟩
     ·rw [List.length_append, z73]; exact ownsRow_setCell_below hown5 HLK.out.lt _
     ·have := HLK.out.few; rw [List.length_append]; simp only [List.length_cons, List.length_nil]; omega
    have HRO : Hid (z0x W (.slice qa es.length qc) (.slice (some ⟨g5, 0, none⟩) (es.length + 1) cp5)) := by
     rcases hat5 with h | h
     ·exact Or.inl h
     ·exact Or.inr ⟨_, h, by omega⟩
    have HKP : Hid (Kp Bl (.slice qa es.length qc) W (w5.setCell ⟨Bl, 2, none⟩ (.slice (some ⟨g5, 0, none⟩) (es.length + 1) cp5))) := by
     refine ⟨((((((bF 0 W).setCell (Nat.zero_le _) _).trans (hK5.1.mono (Nat.zero_le _))).drew).alloc (Nat.zero_le _) _).trans ⟨hgrow5.os, hgrow5.tape, hgrow5.output, hgrow5.size, fun k hk => absurd hk (Nat.not_lt_zero _)⟩).setCell (Nat.zero_le _) _, fun k hk h1 h2 => ?_⟩
     rw [heap_setCell_other _ _ _ _ h1, hgrow5.block k (by omega) h2, heap_alloc_old wc.drew _ (by show k < wc.heap.size; omega)]
     show wc.heap[k]? = _
     rw [hK5.1.block k (by rw [HSZ.out]; exact hk)]
     exact heap_setCell_other _ _ _ _ h1
    have HR1 : Hid ((w5.setCell ⟨Bl, 2, none⟩ (.slice (some ⟨g5, 0, none⟩) (es.length + 1) cp5)).heap[W.heap.size + 1]? = some (.cells #[vI vK 0, vI vK 0] 27 (0, 0))) := by
     have hr := hK5.2 _ (mcO _ (mcO _ (mcO _ mcS)))
     have hne : some (W.heap.size + 1) ≠ (Value.slice qa es.length qc).ownBlock := fun e => by have := hrow _ e.symm; omega
     exact (heap_setCell_other _ _ _ _ (by show W.heap.size + 1 ≠ Bl; have := HLK.out.blt; omega)).trans ((hgrow5.block _ (by omega) hne).trans ((heap_alloc_old wc.drew _ rlt).trans hr))
    obtain ⟨-, -, lz, -, -, -, -⟩ := row3 hL0
    obtain ⟨-, -, lz5, lfz0, lfz1, lfz2, lzlt⟩ := row3 hL5
    clear hr5 hown5 hgrow5 hat5 hL0 hM0 hL8 hM8 hL5 hM5 hL6 hM6 hneB hneM hrow HOW hLc hlk HLB hK5
    clear k0 k1 k2 kf0 kf1 kf2 klt p0 p1 p2 p3 p4 p5 plt yM ylt r0 r1 rf0 rf1 rlt
    clear m0 m1 m2
    refine wp_region_held_drew (S := (fun V => (∃ u, V.heap[Bl]? = some (.cells #[.slice (some ⟨bk, off, none⟩) len cap, vI vK (f : Int), u] 41 (0, 0))) ∧ z07 V W.heap.size y)) (by kernel_rfl) hS fun _ => ?_
    change wpAnyH _ _ _ _ _ 13 (Array.replicate 13 false) _ _
    refine z2r (i := 0) (some 70) (.pointer (some ⟨Bl, 0, none⟩)) rfl rfl (by kernel_rfl) (by kernel_rfl) (by kernel_rfl) (fun _ _ _ h => h) (by rfl) (fun V hV => by go_simp) hS ?_
    simp only [Act.put, siA, scZ, scS]
    refine z2r (i := 1) (some 71) (.pointer (some ⟨Bl, 0, none⟩)) rfl rfl (by kernel_rfl) (by kernel_rfl) (by kernel_rfl) (fun _ _ _ h => h) (by rfl) (fun V hV => by go_simp) hS ?_
    simp only [Act.put, siA, scZ, scS]
    refine z2r (i := 2) (some 72) (.pointer (some ⟨Bl, 0, none⟩)) rfl rfl (by kernel_rfl) (by kernel_rfl) (by kernel_rfl) (fun _ _ _ h => h) (by rfl) (fun V hV => by go_simp) hS ?_
    simp only [Act.put, siA, scZ, scS]
    refine z2r (i := 3) (some 73) (.pointer (some ⟨Bl, 2, none⟩)) rfl rfl (by kernel_rfl) (by kernel_rfl) (by kernel_rfl) (fun _ _ _ h => h) (by rfl) (fun V hV => by go_simp) hS ?_
    simp only [Act.put, siA, scZ, scS]
    refine z2r (i := 5) (some 75) (.pointer (some ⟨W.heap.size, 0, none⟩)) rfl rfl (by kernel_rfl) (by kernel_rfl) (by kernel_rfl) (fun _ _ _ h => h) (by rfl) (fun V hV => by go_simp) hS ?_
    simp only [Act.put, siA, scZ, scS]
    refine z2r (i := 6) (some 76) (.pointer (some ⟨W.heap.size, 1, none⟩)) rfl rfl (by kernel_rfl) (by kernel_rfl) (by kernel_rfl) (fun _ _ _ h => h) (by rfl) (fun V hV => by go_simp) hS ?_
    simp only [Act.put, siA, scZ, scS]
    refine z2r (i := 7) (some 77) (.agg #[vI vK (y.reg 0).l, vI vK (y.reg 0).h]) rfl rfl (by kernel_rfl) (by kernel_rfl) (by kernel_rfl) (fun _ _ _ h => h) (by rfl) (fun V hV => by have a1 := (hV.2.know (d := 0) (by decide)).2.1; have a2 := (hV.2.know (d := 0) (by decide)).2.2; rw [z22 (by decide)] at a1 a2; simp only [Nat.zero_mul, Nat.zero_add] at a1 a2; go_simp) hS ?_
    simp only [Act.put, siA, scZ, scS]
    refine wpAnyH_ready (rs := [4, 8]) (by kernel_rfl) (by simp) ?_
    refine zC1 (some 74) (.slice qa es.length qc) wc.drew rfl rfl (by rfl) (by go_simp) hS ?goA (zC1 (some 78) (.slice (some ⟨wc.heap.size, 0, none⟩) 1 1) (wc.drew.alloc (.cells #[vI vK (y.reg 0).l, vI vK (y.reg 0).h] 24)) rfl rfl (by rfl) (by go_simp) hS8 ?goB AllReadyH.nil)
    case' goA => (simp only [Act.put, siA, scZ, scS]; refine wpAnyH_ready (rs := [8]) (by kernel_rfl) (by simp) ?_; refine zC1 (some 78) (.slice (some ⟨wc.heap.size, 0, none⟩) 1 1) (wc.drew.alloc (.cells #[vI vK (y.reg 0).l, vI vK (y.reg 0).h] 24)) rfl rfl (by rfl) (by go_simp) hS8 ?_ AllReadyH.nil)
    case' goB => (simp only [Act.put, siA, scZ, scS]; refine wpAnyH_ready (rs := [4]) (by kernel_rfl) (by simp) ?_; refine zC1 (some 74) (.slice qa es.length qc) (wc.drew.alloc (.cells #[vI vK (y.reg 0).l, vI vK (y.reg 0).h] 24)) rfl rfl (by rfl) (by have lzc : wc.cell? ⟨Bl, 2, none⟩ = some (.slice qa es.length qc) := lz; go_simp) hS8 ?_ AllReadyH.nil)
    all_goals
     simp only [Act.put, siA, scZ, scS]
     refine wpAnyH_ready (rs := [9]) (by kernel_rfl) (by simp) ?_
     refine zC1 (some 79) (.slice (some ⟨g5, 0, none⟩) (es.length + 1) cp5) w5 rfl rfl (by rfl) (zE9 _ _ _ _ _ _ _ _ rfl rfl rfl HR5.out) hS5 ?_ AllReadyH.nil
     simp only [Act.put, siA, scZ, scS]
     refine z2r (i := 10) (some 80) (.pointer (some ⟨Bl, 0, none⟩)) rfl rfl (by kernel_rfl) (by kernel_rfl) (by kernel_rfl) (fun _ _ _ h => h) (by rfl) (fun V hV => by go_simp) hS5 ?_
     simp only [Act.put, siA, scZ, scS]
     refine z2r (i := 11) (some 81) (.pointer (some ⟨Bl, 2, none⟩)) rfl rfl (by kernel_rfl) (by kernel_rfl) (by kernel_rfl) (fun _ _ _ h => h) (by rfl) (fun V hV => by go_simp) hS5 ?_
     simp only [Act.put, siA, scZ, scS]
     refine wpAnyH_ready (rs := [12]) (by kernel_rfl) (by simp) ?_
     refine zR8 (w5.setCell ⟨Bl, 2, none⟩ (.slice (some ⟨g5, 0, none⟩) (es.length + 1) cp5)) rfl rfl (by rfl) (by go_simp) hS6 ?_ AllReadyH.nil
     simp only [Act.put]
     refine wpAnyH_done (by kernel_rfl) ?_ _
     generalize (w5.setCell ⟨Bl, 2, none⟩ (.slice (some ⟨g5, 0, none⟩) (es.length + 1) cp5)) = w6 at HLE HKP HR1 ⊢
     clear hS hS8 hS5 hS6 HR5 lz lz5 lfz0 lfz1 lfz2 lzlt
     go_wp2_with (first | (go_at_call 11; go_must (refine (zKz 0 _).mono ?_; rintro e w7 ⟨rfl, hb7⟩; obtain ⟨q0, q1, qf0, qf1, qlt⟩ := row2 ((hb7.block _ (Array.getElem?_eq_some_iff.1 HR1.out).1).trans HR1.out))) | fail)
     exact bodyPost_ret (v := .agg #[vI vK 0, vI vK (-1)]) (by simp [results, Tryz.results9, go_sem, *]) rfl ⟨rfl, zT7 HKP.out hb7 (HLK.out.blt) , _, z5g (HLE.out.later hb7) z5e (by have := HLK.out.blt; omega) (zJr HR1.out (by decide) HLE.out), HRO.out⟩
  | clear qq3
    go_upto_region 21 with (first | (go_at_call 18; go_must (refine (z2m c _).mono ?_; rintro e u1 ⟨rfl, hu1⟩; obtain rfl := hu1.symm; rw [HQ.out])) | fail)
    have hX := hK5.1
    have hR := hK5.2 _ (mcO _ (mcO _ (mcO _ mcS)))
    go_step
    (refine z03 rfl (.pointer (some ⟨Bl, 0, none⟩)) wc (by go_simp; try rfl) ?_); simp only [Act.put, siA, scZ, scS]
    (refine wpList_load_row rfl 45 (.tmp 4) rfl W.heap.size rfl 45 (z04 y) (0, 0) _ yM Tryz.underlying45 rfl (z1e _) ?_)
    simp only [Act.put, siA, scZ, scS]
    (refine z03 rfl (vI vK pc) wc (by go_simp; try rfl) ?_); simp only [Act.put, siA, scZ, scS]
    (refine z03 rfl (.agg #[.int .u8 (kD (y.second s r n).k), vI vK (y.second s r n).l, vI vK (y.second s r n).h]) wc (by go_simp; try rfl) ?_); simp only [Act.put, siA, scZ, scS]
    refine z0d rfl 19 #[.pointer (some ⟨Bl, 0, none⟩), .agg (z04 y), vI vK pc, .agg #[.int .u8 (kD (y.second s r n).k), vI vK (y.second s r n).l, vI vK (y.second s r n).h]] (by go_simp; try rfl) (HBO.out wc hX (Array.getElem?_eq_some_iff.1 hR).1) ?_
    intro v9 w9 hq
    obtain ⟨er, i, rfl, hkp, hT⟩ := hq
    have hR9 := z3y HLK.out hkp hR
    obtain ⟨q0, q1, qf0, qf1, qlt⟩ := row2 hR9
    simp only [Act.put, siA, scZ, scS]
    clear k0 k1 k2 kf0 kf1 kf2 klt p0 p1 p2 p3 p4 p5 plt yM ylt r0 r1 rf0 rf1 rlt
    clear hK5
    go_wp2_with fail
    exact bodyPost_ret (v := .agg #[vI vK er, vI vK i]) (by simp [results, Tryz.results9, go_sem, *]) rfl ⟨er, i, rfl, z39 hX hkp, w9, hT, z5e⟩
  | clear qq4
    obtain ⟨a0, a1, a2⟩ := yM.know (d := 1) (by decide)
    rw [z22 (by decide)] at a0 a1 a2
    simp only [Nat.one_mul, Nat.reduceAdd] at a0 a1 a2
    obtain ⟨n0, n1, n2⟩ := yM.know (d := 0) (by decide)
    simp only [Nat.zero_mul, Nat.zero_add] at n0 n1 n2
    have nf0 := yM.frozen 0
    have nf1 := yM.frozen 1
    have nf2 := yM.frozen 2
    obtain ⟨ga, ga0, ga1⟩ := allB HA.out.1 HSZ.out hK5.1 HA.out.2
    have gne : 0 ≠ W.heap.size := by have := HA.out.1.1; omega
    go_upto_region 50 with (first | (go_at_call 18; go_must (refine (z2m c _).mono ?_; rintro e u1 ⟨rfl, hu1⟩; obtain rfl := hu1.symm; rw [HQ.out])) | (go_at_call 8; go_must (refine (z43 0 _).mono ?_; rintro e u2 ⟨rfl, hu2⟩; obtain rfl := hu2.symm)) | fail)
    have hK6 : Blk (W.setCell ⟨Bl, 1, none⟩ (vI vK (f : Int))) [(W.heap.size, .cells (z04 (z4p (y.putReg 0 ⟨1, 0, 0⟩) 1)) 45 (0, 0)), (W.heap.size + 1, .cells #[vI vK 0, vI vK 0] 27 (0, 0))] (((((((wc.setCell ⟨W.heap.size, 0, none⟩ (.int .u8 110)).setCell ⟨W.heap.size, 1, none⟩ (vI vK (-9223372036854775808))).setCell ⟨W.heap.size, 2, none⟩ (vI vK 9223372036854775807)).setCell ⟨W.heap.size, 0, none⟩ (.int .u8 110)).setCell ⟨W.heap.size, 1, none⟩ (vI vK 0)).setCell ⟨W.heap.size, 2, none⟩ (vI vK 0)).alloc (.cells #[vI vK 0, vI vK 0] 24)) := by
     rw [z4n]
     have hz : (W.setCell ⟨Bl, 1, none⟩ (vI vK (f : Int))).heap.size ≤ W.heap.size := by rw [HSZ.out]; exact Nat.le_refl _
     have hy0 : z07 (((wc.setCell ⟨W.heap.size, 0, none⟩ (.int .u8 110)).setCell ⟨W.heap.size, 1, none⟩ (vI vK (-9223372036854775808))).setCell ⟨W.heap.size, 2, none⟩ (vI vK 9223372036854775807)) W.heap.size (y.putAll 0 ⟨1, -9223372036854775808, 9223372036854775807⟩) := yM.put3 0 ⟨1, -9223372036854775808, 9223372036854775807⟩
     have hy1 : z07 ((((((wc.setCell ⟨W.heap.size, 0, none⟩ (.int .u8 110)).setCell ⟨W.heap.size, 1, none⟩ (vI vK (-9223372036854775808))).setCell ⟨W.heap.size, 2, none⟩ (vI vK 9223372036854775807)).setCell ⟨W.heap.size, 0, none⟩ (.int .u8 110)).setCell ⟨W.heap.size, 1, none⟩ (vI vK 0)).setCell ⟨W.heap.size, 2, none⟩ (vI vK 0)) W.heap.size ((y.putAll 0 ⟨1, -9223372036854775808, 9223372036854775807⟩).putAll 0 ⟨1, 0, 0⟩) := hy0.put3 0 ⟨1, 0, 0⟩
     have hlt : W.heap.size + 1 < ((((((wc.setCell ⟨W.heap.size, 0, none⟩ (.int .u8 110)).setCell ⟨W.heap.size, 1, none⟩ (vI vK (-9223372036854775808))).setCell ⟨W.heap.size, 2, none⟩ (vI vK 9223372036854775807)).setCell ⟨W.heap.size, 0, none⟩ (.int .u8 110)).setCell ⟨W.heap.size, 1, none⟩ (vI vK 0)).setCell ⟨W.heap.size, 2, none⟩ (vI vK 0)).heap.size := by simp; exact rlt
     rw [← z5p ⟨1, -9223372036854775808, 9223372036854775807⟩]
     exact ((Blk.nil (((((((hK5.1.setCell hz _).setCell hz _).setCell hz _).setCell hz _).setCell hz _).setCell hz _).alloc (by have := hK5.1.size; simp at this ⊢; omega) _)).cons ((heap_alloc_old _ _ hlt).trans (off3 (off3 (hK5.2 _ (mcO _ (mcO _ (mcO _ mcS)))) (by omega)) (by omega)))).cons (hy1.alloc _)
    generalize (((((((wc.setCell ⟨W.heap.size, 0, none⟩ (.int .u8 110)).setCell ⟨W.heap.size, 1, none⟩ (vI vK (-9223372036854775808))).setCell ⟨W.heap.size, 2, none⟩ (vI vK 9223372036854775807)).setCell ⟨W.heap.size, 0, none⟩ (.int .u8 110)).setCell ⟨W.heap.size, 1, none⟩ (vI vK 0)).setCell ⟨W.heap.size, 2, none⟩ (vI vK 0)).alloc (.cells #[vI vK 0, vI vK 0] 24)) = w6 at hK6 ⊢
    clear k0 k1 k2 kf0 kf1 kf2 klt p0 p1 p2 p3 p4 p5 plt yM ylt r0 r1 rf0 rf1 rlt
    clear n0 n1 n2 nf0 nf1 nf2 a0 a1 a2 ga ga0 ga1 gne hK5
    have HK6 : Hid (Blk (W.setCell ⟨Bl, 1, none⟩ (vI vK (f : Int))) [(W.heap.size, .cells (z04 (z4p (y.putReg 0 ⟨1, 0, 0⟩) 1)) 45 (0, 0)), (W.heap.size + 1, .cells #[vI vK 0, vI vK 0] 27 (0, 0))] w6) := hK6
    clear hK6
    go_wp2_with fail
    go_loopw [14] (fun iv wr => ∃ q : Nat, iv = vI vK (q : Int) ∧ 1 ≤ q ∧ q ≤ 6 ∧ Hid (Blk (W.setCell ⟨Bl, 1, none⟩ (vI vK (f : Int))) [(W.heap.size, .cells (z04 (z4p (y.putReg 0 ⟨1, 0, 0⟩) q)) 45 (0, 0)), (W.heap.size + 1, .cells #[vI vK 0, vI vK 0] 27 (0, 0))] wr)) (fun iv _ => 6 - (intOf iv).toNat)
    case atStart => exact ⟨1, rfl, by omega, by omega, HK6.out⟩
    case round =>
     obtain ⟨q, rfl, hq1, hq6, HK⟩ := hrel
     have hK := HK.out
     clear HK6
     have yM : z07 _ W.heap.size _ := (hK.2 _ mcS)
     have ylt := yM.lt
     obtain ⟨r0, r1, rf0, rf1, rlt⟩ := row2 (hK.2 _ (mcO _ mcS))
     have hq0 : (0 : Int) ≤ (q : Int) := by omega
     by_cases hlt : q < 6
     ·have hle : decide ((q : Int) ≤ 5) = true := by simp; omega
      have hq27 : (q : Int) < 27 := by omega
      obtain ⟨n0, n1, n2⟩ := yM.know (d := q) (by omega)
      have nf0 := yM.frozen (q * 3)
      have nf1 := yM.frozen (q * 3 + 1)
      have nf2 := yM.frozen (q * 3 + 2)
      go_wp2_with fail
      go_roundw
      case rel =>
       refine ⟨q + 1, by go_num, by omega, by omega, ?_⟩
       have hz : (W.setCell ⟨Bl, 1, none⟩ (vI vK (f : Int))).heap.size ≤ W.heap.size := by rw [HSZ.out]; exact Nat.le_refl _
       rw [← z4m hq1 (by omega)]
       exact ((Blk.nil (((hK.1.setCell hz _).setCell hz _).setCell hz _)).cons (off3 (hK.2 _ (mcO _ mcS)) (by omega))).cons (yM.put3 q kno0)
      case measure => simp [intOf]; omega
     ·obtain rfl : q = 6 := by omega
      go_wp2_with fail
      exact bodyPost_ret (by simp [results, Tryz.results9, go_sem, *]) rfl ⟨rfl, z39 hK.1 Kp.refl⟩
  | clear qq5
    obtain ⟨a0, a1, a2⟩ := yM.know (d := 1) (by decide)
    rw [z22 (by decide)] at a0 a1 a2
    simp only [Nat.one_mul, Nat.reduceAdd] at a0 a1 a2
    obtain ⟨n0, n1, n2⟩ := yM.know (d := 0) (by decide)
    simp only [Nat.zero_mul, Nat.zero_add] at n0 n1 n2
    have nf0 := yM.frozen 0
    have nf1 := yM.frozen 1
    have nf2 := yM.frozen 2
    obtain ⟨ga, ga0, ga1⟩ := allB HA.out.1 HSZ.out hK5.1 HA.out.2
    have gne : 0 ≠ W.heap.size := by have := HA.out.1.1; omega
    go_upto_region 50 with (first | (go_at_call 18; go_must (refine (z2m c _).mono ?_; rintro e u1 ⟨rfl, hu1⟩; obtain rfl := hu1.symm; rw [HQ.out])) | (go_at_call 8; go_must (refine (z43 0 _).mono ?_; rintro e u2 ⟨rfl, hu2⟩; obtain rfl := hu2.symm)) | fail)
    have hK6 : Blk (W.setCell ⟨Bl, 1, none⟩ (vI vK (f : Int))) [(W.heap.size, .cells (z04 (z4p (y.putReg 0 ⟨1, 0, 0⟩) 1)) 45 (0, 0)), (W.heap.size + 1, .cells #[vI vK 0, vI vK 0] 27 (0, 0))] (((((((wc.setCell ⟨W.heap.size, 0, none⟩ (.int .u8 110)).setCell ⟨W.heap.size, 1, none⟩ (vI vK (-9223372036854775808))).setCell ⟨W.heap.size, 2, none⟩ (vI vK 9223372036854775807)).setCell ⟨W.heap.size, 0, none⟩ (.int .u8 110)).setCell ⟨W.heap.size, 1, none⟩ (vI vK 0)).setCell ⟨W.heap.size, 2, none⟩ (vI vK 0)).alloc (.cells #[vI vK 0, vI vK 0] 24)) := by
     rw [z4n]
     have hz : (W.setCell ⟨Bl, 1, none⟩ (vI vK (f : Int))).heap.size ≤ W.heap.size := by rw [HSZ.out]; exact Nat.le_refl _
     have hy0 : z07 (((wc.setCell ⟨W.heap.size, 0, none⟩ (.int .u8 110)).setCell ⟨W.heap.size, 1, none⟩ (vI vK (-9223372036854775808))).setCell ⟨W.heap.size, 2, none⟩ (vI vK 9223372036854775807)) W.heap.size (y.putAll 0 ⟨1, -9223372036854775808, 9223372036854775807⟩) := yM.put3 0 ⟨1, -9223372036854775808, 9223372036854775807⟩
     have hy1 : z07 ((((((wc.setCell ⟨W.heap.size, 0, none⟩ (.int .u8 110)).setCell ⟨W.heap.size, 1, none⟩ (vI vK (-9223372036854775808))).setCell ⟨W.heap.size, 2, none⟩ (vI vK 9223372036854775807)).setCell ⟨W.heap.size, 0, none⟩ (.int .u8 110)).setCell ⟨W.heap.size, 1, none⟩ (vI vK 0)).setCell ⟨W.heap.size, 2, none⟩ (vI vK 0)) W.heap.size ((y.putAll 0 ⟨1, -9223372036854775808, 9223372036854775807⟩).putAll 0 ⟨1, 0, 0⟩) := hy0.put3 0 ⟨1, 0, 0⟩
     have hlt : W.heap.size + 1 < ((((((wc.setCell ⟨W.heap.size, 0, none⟩ (.int .u8 110)).setCell ⟨W.heap.size, 1, none⟩ (vI vK (-9223372036854775808))).setCell ⟨W.heap.size, 2, none⟩ (vI vK 9223372036854775807)).setCell ⟨W.heap.size, 0, none⟩ (.int .u8 110)).setCell ⟨W.heap.size, 1, none⟩ (vI vK 0)).setCell ⟨W.heap.size, 2, none⟩ (vI vK 0)).heap.size := by simp; exact rlt
     rw [← z5p ⟨1, -9223372036854775808, 9223372036854775807⟩]
     exact ((Blk.nil (((((((hK5.1.setCell hz _).setCell hz _).setCell hz _).setCell hz _).setCell hz _).setCell hz _).alloc (by have := hK5.1.size; simp at this ⊢; omega) _)).cons ((heap_alloc_old _ _ hlt).trans (off3 (off3 (hK5.2 _ (mcO _ (mcO _ (mcO _ mcS)))) (by omega)) (by omega)))).cons (hy1.alloc _)
    generalize (((((((wc.setCell ⟨W.heap.size, 0, none⟩ (.int .u8 110)).setCell ⟨W.heap.size, 1, none⟩ (vI vK (-9223372036854775808))).setCell ⟨W.heap.size, 2, none⟩ (vI vK 9223372036854775807)).setCell ⟨W.heap.size, 0, none⟩ (.int .u8 110)).setCell ⟨W.heap.size, 1, none⟩ (vI vK 0)).setCell ⟨W.heap.size, 2, none⟩ (vI vK 0)).alloc (.cells #[vI vK 0, vI vK 0] 24)) = w6 at hK6 ⊢
    clear k0 k1 k2 kf0 kf1 kf2 klt p0 p1 p2 p3 p4 p5 plt yM ylt r0 r1 rf0 rf1 rlt
    clear n0 n1 n2 nf0 nf1 nf2 a0 a1 a2 ga ga0 ga1 gne hK5
    have HK6 : Hid (Blk (W.setCell ⟨Bl, 1, none⟩ (vI vK (f : Int))) [(W.heap.size, .cells (z04 (z4p (y.putReg 0 ⟨1, 0, 0⟩) 1)) 45 (0, 0)), (W.heap.size + 1, .cells #[vI vK 0, vI vK 0] 27 (0, 0))] w6) := hK6
    clear hK6
    go_wp2_with fail
    go_loopw [14] (fun iv wr => ∃ q : Nat, iv = vI vK (q : Int) ∧ 1 ≤ q ∧ q ≤ 6 ∧ Hid (Blk (W.setCell ⟨Bl, 1, none⟩ (vI vK (f : Int))) [(W.heap.size, .cells (z04 (z4p (y.putReg 0 ⟨1, 0, 0⟩) q)) 45 (0, 0)), (W.heap.size + 1, .cells #[vI vK 0, vI vK 0] 27 (0, 0))] wr)) (fun iv _ => 6 - (intOf iv).toNat)
    case atStart => exact ⟨1, rfl, by omega, by omega, HK6.out⟩
    case round =>
     obtain ⟨q, rfl, hq1, hq6, HK⟩ := hrel
     have hK := HK.out
     clear HK6
     have yM : z07 _ W.heap.size _ := (hK.2 _ mcS)
     have ylt := yM.lt
     obtain ⟨r0, r1, rf0, rf1, rlt⟩ := row2 (hK.2 _ (mcO _ mcS))
     have hq0 : (0 : Int) ≤ (q : Int) := by omega
     by_cases hlt : q < 6
     ·have hle : decide ((q : Int) ≤ 5) = true := by simp; omega
      have hq27 : (q : Int) < 27 := by omega
      obtain ⟨n0, n1, n2⟩ := yM.know (d := q) (by omega)
      have nf0 := yM.frozen (q * 3)
      have nf1 := yM.frozen (q * 3 + 1)
      have nf2 := yM.frozen (q * 3 + 2)
      go_wp2_with fail
      go_roundw
      case rel =>
       refine ⟨q + 1, by go_num, by omega, by omega, ?_⟩
       have hz : (W.setCell ⟨Bl, 1, none⟩ (vI vK (f : Int))).heap.size ≤ W.heap.size := by rw [HSZ.out]; exact Nat.le_refl _
       rw [← z4m hq1 (by omega)]
       exact ((Blk.nil (((hK.1.setCell hz _).setCell hz _).setCell hz _)).cons (off3 (hK.2 _ (mcO _ mcS)) (by omega))).cons (yM.put3 q kno0)
      case measure => simp [intOf]; omega
     ·obtain rfl : q = 6 := by omega
      rw [z7f] at hK
      clear yM ylt HK
      have hX := hK.1
      have hR := hK.2 _ (mcO _ mcS)
      have yM' : z07 _ W.heap.size (((y.putReg 0 ⟨1, 0, 0⟩)).lose) := hK.2 _ mcS
      go_upto_region 56 with fail
      go_step
      (refine z03 rfl (.pointer (some ⟨Bl, 0, none⟩)) wr (by go_simp; try rfl) ?_); simp only [Act.put, siA, scZ, scS]
      (refine wpList_load_row rfl 45 (.tmp 4) rfl W.heap.size rfl 45 (z04 (((y.putReg 0 ⟨1, 0, 0⟩)).lose)) (0, 0) _ yM' Tryz.underlying45 rfl (z1e _) ?_)
      simp only [Act.put, siA, scZ, scS]
      (refine z03 rfl (vI vK ((pc : Int) + 1)) wr (by go_simp; try rfl) ?_); simp only [Act.put, siA, scZ, scS]
      refine z0d rfl 9 #[.pointer (some ⟨Bl, 0, none⟩), .agg (z04 (((y.putReg 0 ⟨1, 0, 0⟩)).lose)), vI vK ((pc : Int) + 1)] (by go_simp; try rfl) (HGO.out wr hX (Array.getElem?_eq_some_iff.1 hR).1) ?_
      intro v9 w9 hq
      obtain ⟨er, i, rfl, hkp, hT⟩ := hq
      have hR9 := z3y HLK.out hkp hR
      obtain ⟨q0, q1, qf0, qf1, qlt⟩ := row2 hR9
      simp only [Act.put, siA, scZ, scS]
      go_wp2_with fail
      exact bodyPost_ret (v := .agg #[vI vK er, vI vK i]) (by simp [results, Tryz.results9, go_sem, *]) rfl ⟨er, i, rfl, z39 hX hkp, w9, hT, z5e⟩
  | clear qq6
    obtain ⟨a0, a1, a2⟩ := yM.know (d := 1) (by decide)
    rw [z22 (by decide)] at a0 a1 a2
    simp only [Nat.one_mul, Nat.reduceAdd] at a0 a1 a2
    obtain ⟨n0, n1, n2⟩ := yM.know (d := 0) (by decide)
    simp only [Nat.zero_mul, Nat.zero_add] at n0 n1 n2
    have nf0 := yM.frozen 0
    have nf1 := yM.frozen 1
    have nf2 := yM.frozen 2
    obtain ⟨ga, ga0, ga1⟩ := allB HA.out.1 HSZ.out hK5.1 HA.out.2
    have gne : 0 ≠ W.heap.size := by have := HA.out.1.1; omega
    go_upto_region 50 with (first | (go_at_call 18; go_must (refine (z2m c _).mono ?_; rintro e u1 ⟨rfl, hu1⟩; obtain rfl := hu1.symm; rw [HQ.out])) | (go_at_call 8; go_must (refine (z43 0 _).mono ?_; rintro e u2 ⟨rfl, hu2⟩; obtain rfl := hu2.symm)) | fail)
    have hK6 : Blk (W.setCell ⟨Bl, 1, none⟩ (vI vK (f : Int))) [(W.heap.size, .cells (z04 (z4p (y.putReg 0 ⟨5, 0, 0⟩) 1)) 45 (0, 0)), (W.heap.size + 1, .cells #[vI vK 0, vI vK 0] 27 (0, 0))] (((((((wc.setCell ⟨W.heap.size, 0, none⟩ (.int .u8 110)).setCell ⟨W.heap.size, 1, none⟩ (vI vK (-9223372036854775808))).setCell ⟨W.heap.size, 2, none⟩ (vI vK 9223372036854775807)).setCell ⟨W.heap.size, 0, none⟩ (.int .u8 109)).setCell ⟨W.heap.size, 1, none⟩ (vI vK 0)).setCell ⟨W.heap.size, 2, none⟩ (vI vK 0)).alloc (.cells #[vI vK 0, vI vK 0] 24)) := by
     rw [z4n]
     have hz : (W.setCell ⟨Bl, 1, none⟩ (vI vK (f : Int))).heap.size ≤ W.heap.size := by rw [HSZ.out]; exact Nat.le_refl _
     have hy0 : z07 (((wc.setCell ⟨W.heap.size, 0, none⟩ (.int .u8 110)).setCell ⟨W.heap.size, 1, none⟩ (vI vK (-9223372036854775808))).setCell ⟨W.heap.size, 2, none⟩ (vI vK 9223372036854775807)) W.heap.size (y.putAll 0 ⟨1, -9223372036854775808, 9223372036854775807⟩) := yM.put3 0 ⟨1, -9223372036854775808, 9223372036854775807⟩
     have hy1 : z07 ((((((wc.setCell ⟨W.heap.size, 0, none⟩ (.int .u8 110)).setCell ⟨W.heap.size, 1, none⟩ (vI vK (-9223372036854775808))).setCell ⟨W.heap.size, 2, none⟩ (vI vK 9223372036854775807)).setCell ⟨W.heap.size, 0, none⟩ (.int .u8 109)).setCell ⟨W.heap.size, 1, none⟩ (vI vK 0)).setCell ⟨W.heap.size, 2, none⟩ (vI vK 0)) W.heap.size ((y.putAll 0 ⟨1, -9223372036854775808, 9223372036854775807⟩).putAll 0 ⟨5, 0, 0⟩) := hy0.put3 0 ⟨5, 0, 0⟩
     have hlt : W.heap.size + 1 < ((((((wc.setCell ⟨W.heap.size, 0, none⟩ (.int .u8 110)).setCell ⟨W.heap.size, 1, none⟩ (vI vK (-9223372036854775808))).setCell ⟨W.heap.size, 2, none⟩ (vI vK 9223372036854775807)).setCell ⟨W.heap.size, 0, none⟩ (.int .u8 109)).setCell ⟨W.heap.size, 1, none⟩ (vI vK 0)).setCell ⟨W.heap.size, 2, none⟩ (vI vK 0)).heap.size := by simp; exact rlt
     rw [← z5p ⟨1, -9223372036854775808, 9223372036854775807⟩]
     exact ((Blk.nil (((((((hK5.1.setCell hz _).setCell hz _).setCell hz _).setCell hz _).setCell hz _).setCell hz _).alloc (by have := hK5.1.size; simp at this ⊢; omega) _)).cons ((heap_alloc_old _ _ hlt).trans (off3 (off3 (hK5.2 _ (mcO _ (mcO _ (mcO _ mcS)))) (by omega)) (by omega)))).cons (hy1.alloc _)
    generalize (((((((wc.setCell ⟨W.heap.size, 0, none⟩ (.int .u8 110)).setCell ⟨W.heap.size, 1, none⟩ (vI vK (-9223372036854775808))).setCell ⟨W.heap.size, 2, none⟩ (vI vK 9223372036854775807)).setCell ⟨W.heap.size, 0, none⟩ (.int .u8 109)).setCell ⟨W.heap.size, 1, none⟩ (vI vK 0)).setCell ⟨W.heap.size, 2, none⟩ (vI vK 0)).alloc (.cells #[vI vK 0, vI vK 0] 24)) = w6 at hK6 ⊢
    clear k0 k1 k2 kf0 kf1 kf2 klt p0 p1 p2 p3 p4 p5 plt yM ylt r0 r1 rf0 rf1 rlt
    clear n0 n1 n2 nf0 nf1 nf2 a0 a1 a2 ga ga0 ga1 gne hK5
    have HK6 : Hid (Blk (W.setCell ⟨Bl, 1, none⟩ (vI vK (f : Int))) [(W.heap.size, .cells (z04 (z4p (y.putReg 0 ⟨5, 0, 0⟩) 1)) 45 (0, 0)), (W.heap.size + 1, .cells #[vI vK 0, vI vK 0] 27 (0, 0))] w6) := hK6
    clear hK6
    go_wp2_with fail
    go_loopw [14] (fun iv wr => ∃ q : Nat, iv = vI vK (q : Int) ∧ 1 ≤ q ∧ q ≤ 6 ∧ Hid (Blk (W.setCell ⟨Bl, 1, none⟩ (vI vK (f : Int))) [(W.heap.size, .cells (z04 (z4p (y.putReg 0 ⟨5, 0, 0⟩) q)) 45 (0, 0)), (W.heap.size + 1, .cells #[vI vK 0, vI vK 0] 27 (0, 0))] wr)) (fun iv _ => 6 - (intOf iv).toNat)
    case atStart => exact ⟨1, rfl, by omega, by omega, HK6.out⟩
    case round =>
     obtain ⟨q, rfl, hq1, hq6, HK⟩ := hrel
     have hK := HK.out
     clear HK6
     have yM : z07 _ W.heap.size _ := (hK.2 _ mcS)
     have ylt := yM.lt
     obtain ⟨r0, r1, rf0, rf1, rlt⟩ := row2 (hK.2 _ (mcO _ mcS))
     have hq0 : (0 : Int) ≤ (q : Int) := by omega
     by_cases hlt : q < 6
     ·have hle : decide ((q : Int) ≤ 5) = true := by simp; omega
      have hq27 : (q : Int) < 27 := by omega
      obtain ⟨n0, n1, n2⟩ := yM.know (d := q) (by omega)
      have nf0 := yM.frozen (q * 3)
      have nf1 := yM.frozen (q * 3 + 1)
      have nf2 := yM.frozen (q * 3 + 2)
      go_wp2_with fail
      go_roundw
      case rel =>
       refine ⟨q + 1, by go_num, by omega, by omega, ?_⟩
       have hz : (W.setCell ⟨Bl, 1, none⟩ (vI vK (f : Int))).heap.size ≤ W.heap.size := by rw [HSZ.out]; exact Nat.le_refl _
       rw [← z4m hq1 (by omega)]
       exact ((Blk.nil (((hK.1.setCell hz _).setCell hz _).setCell hz _)).cons (off3 (hK.2 _ (mcO _ mcS)) (by omega))).cons (yM.put3 q kno0)
      case measure => simp [intOf]; omega
     ·obtain rfl : q = 6 := by omega
      go_wp2_with fail
      exact bodyPost_ret (by simp [results, Tryz.results9, go_sem, *]) rfl ⟨rfl, z39 hK.1 Kp.refl⟩
  | clear qq7
    obtain ⟨a0, a1, a2⟩ := yM.know (d := 1) (by decide)
    rw [z22 (by decide)] at a0 a1 a2
    simp only [Nat.one_mul, Nat.reduceAdd] at a0 a1 a2
    obtain ⟨n0, n1, n2⟩ := yM.know (d := 0) (by decide)
    simp only [Nat.zero_mul, Nat.zero_add] at n0 n1 n2
    have nf0 := yM.frozen 0
    have nf1 := yM.frozen 1
    have nf2 := yM.frozen 2
    obtain ⟨ga, ga0, ga1⟩ := allB HA.out.1 HSZ.out hK5.1 HA.out.2
    have gne : 0 ≠ W.heap.size := by have := HA.out.1.1; omega
    go_upto_region 50 with (first | (go_at_call 18; go_must (refine (z2m c _).mono ?_; rintro e u1 ⟨rfl, hu1⟩; obtain rfl := hu1.symm; rw [HQ.out])) | (go_at_call 8; go_must (refine (z43 0 _).mono ?_; rintro e u2 ⟨rfl, hu2⟩; obtain rfl := hu2.symm)) | fail)
    have hK6 : Blk (W.setCell ⟨Bl, 1, none⟩ (vI vK (f : Int))) [(W.heap.size, .cells (z04 (z4p (y.putReg 0 ⟨5, 0, 0⟩) 1)) 45 (0, 0)), (W.heap.size + 1, .cells #[vI vK 0, vI vK 0] 27 (0, 0))] (((((((wc.setCell ⟨W.heap.size, 0, none⟩ (.int .u8 110)).setCell ⟨W.heap.size, 1, none⟩ (vI vK (-9223372036854775808))).setCell ⟨W.heap.size, 2, none⟩ (vI vK 9223372036854775807)).setCell ⟨W.heap.size, 0, none⟩ (.int .u8 109)).setCell ⟨W.heap.size, 1, none⟩ (vI vK 0)).setCell ⟨W.heap.size, 2, none⟩ (vI vK 0)).alloc (.cells #[vI vK 0, vI vK 0] 24)) := by
     rw [z4n]
     have hz : (W.setCell ⟨Bl, 1, none⟩ (vI vK (f : Int))).heap.size ≤ W.heap.size := by rw [HSZ.out]; exact Nat.le_refl _
     have hy0 : z07 (((wc.setCell ⟨W.heap.size, 0, none⟩ (.int .u8 110)).setCell ⟨W.heap.size, 1, none⟩ (vI vK (-9223372036854775808))).setCell ⟨W.heap.size, 2, none⟩ (vI vK 9223372036854775807)) W.heap.size (y.putAll 0 ⟨1, -9223372036854775808, 9223372036854775807⟩) := yM.put3 0 ⟨1, -9223372036854775808, 9223372036854775807⟩
     have hy1 : z07 ((((((wc.setCell ⟨W.heap.size, 0, none⟩ (.int .u8 110)).setCell ⟨W.heap.size, 1, none⟩ (vI vK (-9223372036854775808))).setCell ⟨W.heap.size, 2, none⟩ (vI vK 9223372036854775807)).setCell ⟨W.heap.size, 0, none⟩ (.int .u8 109)).setCell ⟨W.heap.size, 1, none⟩ (vI vK 0)).setCell ⟨W.heap.size, 2, none⟩ (vI vK 0)) W.heap.size ((y.putAll 0 ⟨1, -9223372036854775808, 9223372036854775807⟩).putAll 0 ⟨5, 0, 0⟩) := hy0.put3 0 ⟨5, 0, 0⟩
     have hlt : W.heap.size + 1 < ((((((wc.setCell ⟨W.heap.size, 0, none⟩ (.int .u8 110)).setCell ⟨W.heap.size, 1, none⟩ (vI vK (-9223372036854775808))).setCell ⟨W.heap.size, 2, none⟩ (vI vK 9223372036854775807)).setCell ⟨W.heap.size, 0, none⟩ (.int .u8 109)).setCell ⟨W.heap.size, 1, none⟩ (vI vK 0)).setCell ⟨W.heap.size, 2, none⟩ (vI vK 0)).heap.size := by simp; exact rlt
     rw [← z5p ⟨1, -9223372036854775808, 9223372036854775807⟩]
     exact ((Blk.nil (((((((hK5.1.setCell hz _).setCell hz _).setCell hz _).setCell hz _).setCell hz _).setCell hz _).alloc (by have := hK5.1.size; simp at this ⊢; omega) _)).cons ((heap_alloc_old _ _ hlt).trans (off3 (off3 (hK5.2 _ (mcO _ (mcO _ (mcO _ mcS)))) (by omega)) (by omega)))).cons (hy1.alloc _)
    generalize (((((((wc.setCell ⟨W.heap.size, 0, none⟩ (.int .u8 110)).setCell ⟨W.heap.size, 1, none⟩ (vI vK (-9223372036854775808))).setCell ⟨W.heap.size, 2, none⟩ (vI vK 9223372036854775807)).setCell ⟨W.heap.size, 0, none⟩ (.int .u8 109)).setCell ⟨W.heap.size, 1, none⟩ (vI vK 0)).setCell ⟨W.heap.size, 2, none⟩ (vI vK 0)).alloc (.cells #[vI vK 0, vI vK 0] 24)) = w6 at hK6 ⊢
    clear k0 k1 k2 kf0 kf1 kf2 klt p0 p1 p2 p3 p4 p5 plt yM ylt r0 r1 rf0 rf1 rlt
    clear n0 n1 n2 nf0 nf1 nf2 a0 a1 a2 ga ga0 ga1 gne hK5
    have HK6 : Hid (Blk (W.setCell ⟨Bl, 1, none⟩ (vI vK (f : Int))) [(W.heap.size, .cells (z04 (z4p (y.putReg 0 ⟨5, 0, 0⟩) 1)) 45 (0, 0)), (W.heap.size + 1, .cells #[vI vK 0, vI vK 0] 27 (0, 0))] w6) := hK6
    clear hK6
    go_wp2_with fail
    go_loopw [14] (fun iv wr => ∃ q : Nat, iv = vI vK (q : Int) ∧ 1 ≤ q ∧ q ≤ 6 ∧ Hid (Blk (W.setCell ⟨Bl, 1, none⟩ (vI vK (f : Int))) [(W.heap.size, .cells (z04 (z4p (y.putReg 0 ⟨5, 0, 0⟩) q)) 45 (0, 0)), (W.heap.size + 1, .cells #[vI vK 0, vI vK 0] 27 (0, 0))] wr)) (fun iv _ => 6 - (intOf iv).toNat)
    case atStart => exact ⟨1, rfl, by omega, by omega, HK6.out⟩
    case round =>
     obtain ⟨q, rfl, hq1, hq6, HK⟩ := hrel
     have hK := HK.out
     clear HK6
     have yM : z07 _ W.heap.size _ := (hK.2 _ mcS)
     have ylt := yM.lt
     obtain ⟨r0, r1, rf0, rf1, rlt⟩ := row2 (hK.2 _ (mcO _ mcS))
     have hq0 : (0 : Int) ≤ (q : Int) := by omega
     by_cases hlt : q < 6
     ·have hle : decide ((q : Int) ≤ 5) = true := by simp; omega
      have hq27 : (q : Int) < 27 := by omega
      obtain ⟨n0, n1, n2⟩ := yM.know (d := q) (by omega)
      have nf0 := yM.frozen (q * 3)
      have nf1 := yM.frozen (q * 3 + 1)
      have nf2 := yM.frozen (q * 3 + 2)
      go_wp2_with fail
      go_roundw
      case rel =>
       refine ⟨q + 1, by go_num, by omega, by omega, ?_⟩
       have hz : (W.setCell ⟨Bl, 1, none⟩ (vI vK (f : Int))).heap.size ≤ W.heap.size := by rw [HSZ.out]; exact Nat.le_refl _
       rw [← z4m hq1 (by omega)]
       exact ((Blk.nil (((hK.1.setCell hz _).setCell hz _).setCell hz _)).cons (off3 (hK.2 _ (mcO _ mcS)) (by omega))).cons (yM.put3 q kno0)
      case measure => simp [intOf]; omega
     ·obtain rfl : q = 6 := by omega
      rw [z7f] at hK
      clear yM ylt HK
      have hX := hK.1
      have hR := hK.2 _ (mcO _ mcS)
      have yM' : z07 _ W.heap.size (((y.putReg 0 ⟨5, 0, 0⟩)).lose) := hK.2 _ mcS
      go_upto_region 56 with fail
      go_step
      (refine z03 rfl (.pointer (some ⟨Bl, 0, none⟩)) wr (by go_simp; try rfl) ?_); simp only [Act.put, siA, scZ, scS]
      (refine wpList_load_row rfl 45 (.tmp 4) rfl W.heap.size rfl 45 (z04 (((y.putReg 0 ⟨5, 0, 0⟩)).lose)) (0, 0) _ yM' Tryz.underlying45 rfl (z1e _) ?_)
      simp only [Act.put, siA, scZ, scS]
      (refine z03 rfl (vI vK ((pc : Int) + 1)) wr (by go_simp; try rfl) ?_); simp only [Act.put, siA, scZ, scS]
      refine z0d rfl 9 #[.pointer (some ⟨Bl, 0, none⟩), .agg (z04 (((y.putReg 0 ⟨5, 0, 0⟩)).lose)), vI vK ((pc : Int) + 1)] (by go_simp; try rfl) (HGO.out wr hX (Array.getElem?_eq_some_iff.1 hR).1) ?_
      intro v9 w9 hq
      obtain ⟨er, i, rfl, hkp, hT⟩ := hq
      have hR9 := z3y HLK.out hkp hR
      obtain ⟨q0, q1, qf0, qf1, qlt⟩ := row2 hR9
      simp only [Act.put, siA, scZ, scS]
      go_wp2_with fail
      exact bodyPost_ret (v := .agg #[vI vK er, vI vK i]) (by simp [results, Tryz.results9, go_sem, *]) rfl ⟨er, i, rfl, z39 hX hkp, w9, hT, z5e⟩
  | clear qq8
    obtain ⟨a0, a1, a2⟩ := yM.know (d := 1) (by decide)
    rw [z22 (by decide)] at a0 a1 a2
    simp only [Nat.one_mul, Nat.reduceAdd] at a0 a1 a2
    obtain ⟨n0, n1, n2⟩ := yM.know (d := 0) (by decide)
    simp only [Nat.zero_mul, Nat.zero_add] at n0 n1 n2
    have nf0 := yM.frozen 0
    have nf1 := yM.frozen 1
    have nf2 := yM.frozen 2
    obtain ⟨ga, ga0, ga1⟩ := allB HA.out.1 HSZ.out hK5.1 HA.out.2
    have gne : 0 ≠ W.heap.size := by have := HA.out.1.1; omega
    go_upto_region 50 with (first | (go_at_call 18; go_must (refine (z2m c _).mono ?_; rintro e u1 ⟨rfl, hu1⟩; obtain rfl := hu1.symm; rw [HQ.out])) | (go_at_call 8; go_must (refine (z43 0 _).mono ?_; rintro e u2 ⟨rfl, hu2⟩; obtain rfl := hu2.symm)) | fail)
    have hK6 : Blk (W.setCell ⟨Bl, 1, none⟩ (vI vK (f : Int))) [(W.heap.size, .cells (z04 (z4p (y.putReg 0 ⟨1, (-9223372036854775808), 9223372036854775807⟩) 1)) 45 (0, 0)), (W.heap.size + 1, .cells #[vI vK 0, vI vK 0] 27 (0, 0))] ((((wc.setCell ⟨W.heap.size, 0, none⟩ (.int .u8 110)).setCell ⟨W.heap.size, 1, none⟩ (vI vK (-9223372036854775808))).setCell ⟨W.heap.size, 2, none⟩ (vI vK 9223372036854775807))) := by
     rw [z4n]
     have hz : (W.setCell ⟨Bl, 1, none⟩ (vI vK (f : Int))).heap.size ≤ W.heap.size := by rw [HSZ.out]; exact Nat.le_refl _
     have hy0 : z07 (((wc.setCell ⟨W.heap.size, 0, none⟩ (.int .u8 110)).setCell ⟨W.heap.size, 1, none⟩ (vI vK (-9223372036854775808))).setCell ⟨W.heap.size, 2, none⟩ (vI vK 9223372036854775807)) W.heap.size (y.putAll 0 ⟨1, -9223372036854775808, 9223372036854775807⟩) := yM.put3 0 ⟨1, -9223372036854775808, 9223372036854775807⟩
     exact ((Blk.nil (((hK5.1.setCell hz _).setCell hz _).setCell hz _)).cons (off3 (hK5.2 _ (mcO _ (mcO _ (mcO _ mcS)))) (by omega))).cons hy0
    generalize ((((wc.setCell ⟨W.heap.size, 0, none⟩ (.int .u8 110)).setCell ⟨W.heap.size, 1, none⟩ (vI vK (-9223372036854775808))).setCell ⟨W.heap.size, 2, none⟩ (vI vK 9223372036854775807))) = w6 at hK6 ⊢
    clear k0 k1 k2 kf0 kf1 kf2 klt p0 p1 p2 p3 p4 p5 plt yM ylt r0 r1 rf0 rf1 rlt
    clear n0 n1 n2 nf0 nf1 nf2 a0 a1 a2 ga ga0 ga1 gne hK5
    have HK6 : Hid (Blk (W.setCell ⟨Bl, 1, none⟩ (vI vK (f : Int))) [(W.heap.size, .cells (z04 (z4p (y.putReg 0 ⟨1, (-9223372036854775808), 9223372036854775807⟩) 1)) 45 (0, 0)), (W.heap.size + 1, .cells #[vI vK 0, vI vK 0] 27 (0, 0))] w6) := hK6
    clear hK6
    go_wp2_with fail
    go_loopw [14] (fun iv wr => ∃ q : Nat, iv = vI vK (q : Int) ∧ 1 ≤ q ∧ q ≤ 6 ∧ Hid (Blk (W.setCell ⟨Bl, 1, none⟩ (vI vK (f : Int))) [(W.heap.size, .cells (z04 (z4p (y.putReg 0 ⟨1, (-9223372036854775808), 9223372036854775807⟩) q)) 45 (0, 0)), (W.heap.size + 1, .cells #[vI vK 0, vI vK 0] 27 (0, 0))] wr)) (fun iv _ => 6 - (intOf iv).toNat)
    case atStart => exact ⟨1, rfl, by omega, by omega, HK6.out⟩
    case round =>
     obtain ⟨q, rfl, hq1, hq6, HK⟩ := hrel
     have hK := HK.out
     clear HK6
     have yM : z07 _ W.heap.size _ := (hK.2 _ mcS)
     have ylt := yM.lt
     obtain ⟨r0, r1, rf0, rf1, rlt⟩ := row2 (hK.2 _ (mcO _ mcS))
     have hq0 : (0 : Int) ≤ (q : Int) := by omega
     by_cases hlt : q < 6
     ·have hle : decide ((q : Int) ≤ 5) = true := by simp; omega
      have hq27 : (q : Int) < 27 := by omega
      obtain ⟨n0, n1, n2⟩ := yM.know (d := q) (by omega)
      have nf0 := yM.frozen (q * 3)
      have nf1 := yM.frozen (q * 3 + 1)
      have nf2 := yM.frozen (q * 3 + 2)
      go_wp2_with fail
      go_roundw
      case rel =>
       refine ⟨q + 1, by go_num, by omega, by omega, ?_⟩
       have hz : (W.setCell ⟨Bl, 1, none⟩ (vI vK (f : Int))).heap.size ≤ W.heap.size := by rw [HSZ.out]; exact Nat.le_refl _
       rw [← z4m hq1 (by omega)]
       exact ((Blk.nil (((hK.1.setCell hz _).setCell hz _).setCell hz _)).cons (off3 (hK.2 _ (mcO _ mcS)) (by omega))).cons (yM.put3 q kno0)
      case measure => simp [intOf]; omega
     ·obtain rfl : q = 6 := by omega
      rw [z7f] at hK
      clear yM ylt HK
      have hX := hK.1
      have hR := hK.2 _ (mcO _ mcS)
      have yM' : z07 _ W.heap.size (((y.putReg 0 ⟨1, (-9223372036854775808), 9223372036854775807⟩)).lose) := hK.2 _ mcS
      go_upto_region 56 with fail
      go_step
      (refine z03 rfl (.pointer (some ⟨Bl, 0, none⟩)) wr (by go_simp; try rfl) ?_); simp only [Act.put, siA, scZ, scS]
      (refine wpList_load_row rfl 45 (.tmp 4) rfl W.heap.size rfl 45 (z04 (((y.putReg 0 ⟨1, (-9223372036854775808), 9223372036854775807⟩)).lose)) (0, 0) _ yM' Tryz.underlying45 rfl (z1e _) ?_)
      simp only [Act.put, siA, scZ, scS]
      (refine z03 rfl (vI vK ((pc : Int) + 1)) wr (by go_simp; try rfl) ?_); simp only [Act.put, siA, scZ, scS]
      refine z0d rfl 9 #[.pointer (some ⟨Bl, 0, none⟩), .agg (z04 (((y.putReg 0 ⟨1, (-9223372036854775808), 9223372036854775807⟩)).lose)), vI vK ((pc : Int) + 1)] (by go_simp; try rfl) (HGO.out wr hX (Array.getElem?_eq_some_iff.1 hR).1) ?_
      intro v9 w9 hq
      obtain ⟨er, i, rfl, hkp, hT⟩ := hq
      have hR9 := z3y HLK.out hkp hR
      obtain ⟨q0, q1, qf0, qf1, qlt⟩ := row2 hR9
      simp only [Act.put, siA, scZ, scS]
      go_wp2_with fail
      exact bodyPost_ret (v := .agg #[vI vK er, vI vK i]) (by simp [results, Tryz.results9, go_sem, *]) rfl ⟨er, i, rfl, z39 hX hkp, w9, hT, z5e⟩
  | clear qq9
    have hd0 : (0 : Int) ≤ (d : Int) := by omega
    have hd1 : (d : Int) < 27 := by omega
    have hs0' : (0 : Int) ≤ (s : Int) := by omega
    obtain ⟨m0, m1, m2⟩ := yM.know (d := d) (by omega)
    rw [z22 hd] at m0 m1 m2
    go_upto_region 27 with (first | (go_at_call 18; go_must (refine (z2m c _).mono ?_; rintro e u1 ⟨rfl, hu1⟩; obtain rfl := hu1.symm; rw [HQ.out])) | fail)
    have hb11 : B9 < wc.heap.size := hK5.lt mcS
    have hK6 := hK5.add (.cells #[.int .u8 (kD (y.reg d).k), vI vK (y.reg d).l, vI vK (y.reg d).h] 43)
    have hb12 : wc.heap.size < (wc.alloc (.cells #[.int .u8 (kD (y.reg d).k), vI vK (y.reg d).l, vI vK (y.reg d).h] 43)).heap.size := hK6.lt mcS
    have hK7 := hK6.add (.cells #[vI vK 0, vI vK 0] 24)
    generalize ((wc.alloc (.cells #[.int .u8 (kD (y.reg d).k), vI vK (y.reg d).l, vI vK (y.reg d).h] 43)).alloc (.cells #[vI vK 0, vI vK 0] 24)) = w6 at hK7 ⊢
    have hsz6 : (wc.alloc (.cells #[.int .u8 (kD (y.reg d).k), vI vK (y.reg d).l, vI vK (y.reg d).h] 43)).heap.size = wc.heap.size + 1 := by simp
    rw [hsz6] at hK7 hb12
    generalize wc.heap.size + 1 = B12 at hK7 hb12 ⊢
    generalize wc.heap.size = B11 at hK7 hb11 hb12 ⊢
    clear k0 k1 k2 kf0 kf1 kf2 klt p0 p1 p2 p3 p4 p5 plt yM ylt r0 r1 rf0 rf1 rlt
    clear m0 m1 m2 hK6 hK5 hsz6
    obtain ⟨v0, v1, vf0, vf1, vlt⟩ := row2 (hK7.2 _ mcS); obtain ⟨u0, u1, u2, -, -, -, ult⟩ := row3 (hK7.2 _ (mcO _ mcS)); obtain ⟨k0, k1, k2, kf0, kf1, kf2, klt⟩ := row3 (hK7.2 _ (mcO _ (mcO _ mcS))); obtain ⟨p0, p1, p2, p3, p4, p5, plt⟩ := row6 (hK7.2 _ (mcO _ (mcO _ (mcO _ mcS)))); have yM : z07 _ W.heap.size _ := (hK7.2 _ (mcO _ (mcO _ (mcO _ (mcO _ mcS))))); have ylt := yM.lt; obtain ⟨r0, r1, rf0, rf1, rlt⟩ := row2 (hK7.2 _ (mcO _ (mcO _ (mcO _ (mcO _ (mcO _ mcS))))))
    go_upto_region 28 with (first | (go_at_call 21; go_must (refine (HFU.out _ (allB HA.out.1 HSZ.out hK7.1 HA.out.2)).mono ?_; rintro e w8 ⟨rfl, hb8⟩; have hK8 := hK7.later hb8; clear k0 k1 k2 kf0 kf1 kf2 klt p0 p1 p2 p3 p4 p5 plt yM ylt r0 r1 rf0 rf1 rlt v0 v1 vf0 vf1 vlt u0 u1 u2 ult; obtain ⟨v0, v1, vf0, vf1, vlt⟩ := row2 (hK8.2 _ mcS); obtain ⟨u0, u1, u2, -, -, -, ult⟩ := row3 (hK8.2 _ (mcO _ mcS)); obtain ⟨k0, k1, k2, kf0, kf1, kf2, klt⟩ := row3 (hK8.2 _ (mcO _ (mcO _ mcS))); obtain ⟨p0, p1, p2, p3, p4, p5, plt⟩ := row6 (hK8.2 _ (mcO _ (mcO _ (mcO _ mcS)))); have yM : z07 _ W.heap.size _ := (hK8.2 _ (mcO _ (mcO _ (mcO _ (mcO _ mcS))))); have ylt := yM.lt; obtain ⟨r0, r1, rf0, rf1, rlt⟩ := row2 (hK8.2 _ (mcO _ (mcO _ (mcO _ (mcO _ (mcO _ mcS)))))))) | fail)
    have hK9 : Blk (W.setCell ⟨Bl, 1, none⟩ (vI vK (f : Int))) [(B12, .cells #[vI vK b0, vI vK b1] 24 (0, 0)), (B11, .cells #[.int .u8 (kD (y.reg d).k), vI vK (y.reg d).l, vI vK (y.reg d).h] 43 (0, 0)), (B9, .cells #[.int .u8 (kD (y.second s r n).k), vI vK (y.second s r n).l, vI vK (y.second s r n).h] 43 (0, 0)), (B7, .cells #[vI vK c, vI vK d, vI vK s, .bool r, vI vK o, vI vK n] 59 (0, 0)), (W.heap.size, .cells (z04 y) 45 (0, 0)), (W.heap.size + 1, .cells #[vI vK 0, vI vK 0] 27 (0, 0))] ((w8.setCell ⟨B12, 0, none⟩ (vI vK b0)).setCell ⟨B12, 1, none⟩ (vI vK b1)) := by
     have hz : (W.setCell ⟨Bl, 1, none⟩ (vI vK (f : Int))).heap.size ≤ B12 := by rw [HSZ.out]; omega
     exact ((((((Blk.nil ((hK8.1.setCell hz _).setCell hz _)).cons (off2 (hK8.2 _ (mcO _ (mcO _ (mcO _ (mcO _ (mcO _ mcS)))))) (by omega))).cons (off2 (hK8.2 _ (mcO _ (mcO _ (mcO _ (mcO _ mcS))))) (by omega))).cons (off2 (hK8.2 _ (mcO _ (mcO _ (mcO _ mcS)))) (by omega))).cons (off2 (hK8.2 _ (mcO _ (mcO _ mcS))) (by omega))).cons (off2 (hK8.2 _ (mcO _ mcS)) (by omega))).cons (put2 (hK8.2 _ mcS))
    generalize ((w8.setCell ⟨B12, 0, none⟩ (vI vK b0)).setCell ⟨B12, 1, none⟩ (vI vK b1)) = w9 at hK9 ⊢
    clear k0 k1 k2 kf0 kf1 kf2 klt p0 p1 p2 p3 p4 p5 plt yM ylt r0 r1 rf0 rf1 rlt v0 v1 vf0 vf1 vlt u0 u1 u2 ult
    clear hK7 hK8 hb8
    obtain ⟨v0, v1, vf0, vf1, vlt⟩ := row2 (hK9.2 _ mcS); obtain ⟨u0, u1, u2, -, -, -, ult⟩ := row3 (hK9.2 _ (mcO _ mcS)); obtain ⟨k0, k1, k2, kf0, kf1, kf2, klt⟩ := row3 (hK9.2 _ (mcO _ (mcO _ mcS))); obtain ⟨p0, p1, p2, p3, p4, p5, plt⟩ := row6 (hK9.2 _ (mcO _ (mcO _ (mcO _ mcS)))); have yM : z07 _ W.heap.size _ := (hK9.2 _ (mcO _ (mcO _ (mcO _ (mcO _ mcS))))); have ylt := yM.lt; obtain ⟨r0, r1, rf0, rf1, rlt⟩ := row2 (hK9.2 _ (mcO _ (mcO _ (mcO _ (mcO _ (mcO _ mcS))))))
    have hq0 : (0 : Int) ≤ (q : Int) := by omega
    have hq1 : (q : Int) < 27 := by omega
    obtain ⟨n0, n1, n2⟩ := yM.know (d := q) hq
    have nf0 := yM.frozen (q * 3)
    have nf1 := yM.frozen (q * 3 + 1)
    have nf2 := yM.frozen (q * 3 + 2)
    have hKA : Blk (W.setCell ⟨Bl, 1, none⟩ (vI vK (f : Int))) [(W.heap.size, .cells (z04 (y.putAll q (y.second s r n))) 45 (0, 0)), (W.heap.size + 1, .cells #[vI vK 0, vI vK 0] 27 (0, 0))] (((w9.setCell ⟨W.heap.size, q * 3, none⟩ (.int .u8 (kD (y.second s r n).k))).setCell ⟨W.heap.size, q * 3 + 1, none⟩ (vI vK (y.second s r n).l)).setCell ⟨W.heap.size, q * 3 + 2, none⟩ (vI vK (y.second s r n).h)) := by
     have hz : (W.setCell ⟨Bl, 1, none⟩ (vI vK (f : Int))).heap.size ≤ W.heap.size := by rw [HSZ.out]; exact Nat.le_refl _
     exact ((Blk.nil (((hK9.1.setCell hz _).setCell hz _).setCell hz _)).cons (off3 (hK9.2 _ (mcO _ (mcO _ (mcO _ (mcO _ (mcO _ mcS)))))) (by omega))).cons (yM.put3 q (y.second s r n))
    go_upto_region 54 with fail
    generalize (((w9.setCell ⟨W.heap.size, q * 3, none⟩ (.int .u8 (kD (y.second s r n).k))).setCell ⟨W.heap.size, q * 3 + 1, none⟩ (vI vK (y.second s r n).l)).setCell ⟨W.heap.size, q * 3 + 2, none⟩ (vI vK (y.second s r n).h)) = w10 at hKA ⊢
    clear k0 k1 k2 kf0 kf1 kf2 klt p0 p1 p2 p3 p4 p5 plt yM ylt r0 r1 rf0 rf1 rlt v0 v1 vf0 vf1 vlt u0 u1 u2 ult
    clear n0 n1 n2 nf0 nf1 nf2 hK9
    have hX := hKA.1
    have hR := hKA.2 _ (mcO _ mcS)
    have yM' : z07 _ W.heap.size (y.putAll q (y.second s r n)) := hKA.2 _ mcS
    go_upto_region 56 with fail
    go_step
    (refine z03 rfl (.pointer (some ⟨Bl, 0, none⟩)) w10 (by go_simp; try rfl) ?_); simp only [Act.put, siA, scZ, scS]
    (refine wpList_load_row rfl 45 (.tmp 4) rfl W.heap.size rfl 45 (z04 (y.putAll q (y.second s r n))) (0, 0) _ yM' Tryz.underlying45 rfl (z1e _) ?_)
    simp only [Act.put, siA, scZ, scS]
    (refine z03 rfl (vI vK ((pc : Int) + 1)) w10 (by go_simp; try rfl) ?_); simp only [Act.put, siA, scZ, scS]
    refine z0d rfl 9 #[.pointer (some ⟨Bl, 0, none⟩), .agg (z04 (y.putAll q (y.second s r n))), vI vK ((pc : Int) + 1)] (by go_simp; try rfl) (HGO.out w10 hX (Array.getElem?_eq_some_iff.1 hR).1) ?_
    intro v9 w9 hq
    obtain ⟨er, i, rfl, hkp, hT⟩ := hq
    have hR9 := z3y HLK.out hkp hR
    obtain ⟨q0, q1, qf0, qf1, qlt⟩ := row2 hR9
    simp only [Act.put, siA, scZ, scS]
    go_wp2_with fail
    exact bodyPost_ret (v := .agg #[vI vK er, vI vK i]) (by simp [results, Tryz.results9, go_sem, *]) rfl ⟨er, i, rfl, z39 hX hkp, w9, hT, z5e⟩
  | clear qq10
    have hd0 : (0 : Int) ≤ (d : Int) := by omega
    have hd1 : (d : Int) < 27 := by omega
    have hs0' : (0 : Int) ≤ (s : Int) := by omega
    obtain ⟨m0, m1, m2⟩ := yM.know (d := d) (by omega)
    rw [z22 hd] at m0 m1 m2
    go_upto_region 27 with (first | (go_at_call 18; go_must (refine (z2m c _).mono ?_; rintro e u1 ⟨rfl, hu1⟩; obtain rfl := hu1.symm; rw [HQ.out])) | fail)
    have hb11 : B9 < wc.heap.size := hK5.lt mcS
    have hK6 := hK5.add (.cells #[.int .u8 (kD (y.reg d).k), vI vK (y.reg d).l, vI vK (y.reg d).h] 43)
    have hb12 : wc.heap.size < (wc.alloc (.cells #[.int .u8 (kD (y.reg d).k), vI vK (y.reg d).l, vI vK (y.reg d).h] 43)).heap.size := hK6.lt mcS
    have hK7 := hK6.add (.cells #[vI vK 0, vI vK 0] 24)
    generalize ((wc.alloc (.cells #[.int .u8 (kD (y.reg d).k), vI vK (y.reg d).l, vI vK (y.reg d).h] 43)).alloc (.cells #[vI vK 0, vI vK 0] 24)) = w6 at hK7 ⊢
    have hsz6 : (wc.alloc (.cells #[.int .u8 (kD (y.reg d).k), vI vK (y.reg d).l, vI vK (y.reg d).h] 43)).heap.size = wc.heap.size + 1 := by simp
    rw [hsz6] at hK7 hb12
    generalize wc.heap.size + 1 = B12 at hK7 hb12 ⊢
    generalize wc.heap.size = B11 at hK7 hb11 hb12 ⊢
    clear k0 k1 k2 kf0 kf1 kf2 klt p0 p1 p2 p3 p4 p5 plt yM ylt r0 r1 rf0 rf1 rlt
    clear m0 m1 m2 hK6 hK5 hsz6
    obtain ⟨v0, v1, vf0, vf1, vlt⟩ := row2 (hK7.2 _ mcS); obtain ⟨u0, u1, u2, -, -, -, ult⟩ := row3 (hK7.2 _ (mcO _ mcS)); obtain ⟨k0, k1, k2, kf0, kf1, kf2, klt⟩ := row3 (hK7.2 _ (mcO _ (mcO _ mcS))); obtain ⟨p0, p1, p2, p3, p4, p5, plt⟩ := row6 (hK7.2 _ (mcO _ (mcO _ (mcO _ mcS)))); have yM : z07 _ W.heap.size _ := (hK7.2 _ (mcO _ (mcO _ (mcO _ (mcO _ mcS))))); have ylt := yM.lt; obtain ⟨r0, r1, rf0, rf1, rlt⟩ := row2 (hK7.2 _ (mcO _ (mcO _ (mcO _ (mcO _ (mcO _ mcS))))))
    go_upto_region 28 with (first | (go_at_call 21; go_must (refine (HFU.out _ (allB HA.out.1 HSZ.out hK7.1 HA.out.2)).mono ?_; rintro e w8 ⟨rfl, hb8⟩; have hK8 := hK7.later hb8; clear k0 k1 k2 kf0 kf1 kf2 klt p0 p1 p2 p3 p4 p5 plt yM ylt r0 r1 rf0 rf1 rlt v0 v1 vf0 vf1 vlt u0 u1 u2 ult; obtain ⟨v0, v1, vf0, vf1, vlt⟩ := row2 (hK8.2 _ mcS); obtain ⟨u0, u1, u2, -, -, -, ult⟩ := row3 (hK8.2 _ (mcO _ mcS)); obtain ⟨k0, k1, k2, kf0, kf1, kf2, klt⟩ := row3 (hK8.2 _ (mcO _ (mcO _ mcS))); obtain ⟨p0, p1, p2, p3, p4, p5, plt⟩ := row6 (hK8.2 _ (mcO _ (mcO _ (mcO _ mcS)))); have yM : z07 _ W.heap.size _ := (hK8.2 _ (mcO _ (mcO _ (mcO _ (mcO _ mcS))))); have ylt := yM.lt; obtain ⟨r0, r1, rf0, rf1, rlt⟩ := row2 (hK8.2 _ (mcO _ (mcO _ (mcO _ (mcO _ (mcO _ mcS)))))))) | fail)
    have hK9 : Blk (W.setCell ⟨Bl, 1, none⟩ (vI vK (f : Int))) [(B12, .cells #[vI vK b0, vI vK b1] 24 (0, 0)), (B11, .cells #[.int .u8 (kD (y.reg d).k), vI vK (y.reg d).l, vI vK (y.reg d).h] 43 (0, 0)), (B9, .cells #[.int .u8 (kD (y.second s r n).k), vI vK (y.second s r n).l, vI vK (y.second s r n).h] 43 (0, 0)), (B7, .cells #[vI vK c, vI vK d, vI vK s, .bool r, vI vK o, vI vK n] 59 (0, 0)), (W.heap.size, .cells (z04 y) 45 (0, 0)), (W.heap.size + 1, .cells #[vI vK 0, vI vK 0] 27 (0, 0))] ((w8.setCell ⟨B12, 0, none⟩ (vI vK b0)).setCell ⟨B12, 1, none⟩ (vI vK b1)) := by
     have hz : (W.setCell ⟨Bl, 1, none⟩ (vI vK (f : Int))).heap.size ≤ B12 := by rw [HSZ.out]; omega
     exact ((((((Blk.nil ((hK8.1.setCell hz _).setCell hz _)).cons (off2 (hK8.2 _ (mcO _ (mcO _ (mcO _ (mcO _ (mcO _ mcS)))))) (by omega))).cons (off2 (hK8.2 _ (mcO _ (mcO _ (mcO _ (mcO _ mcS))))) (by omega))).cons (off2 (hK8.2 _ (mcO _ (mcO _ (mcO _ mcS)))) (by omega))).cons (off2 (hK8.2 _ (mcO _ (mcO _ mcS))) (by omega))).cons (off2 (hK8.2 _ (mcO _ mcS)) (by omega))).cons (put2 (hK8.2 _ mcS))
    generalize ((w8.setCell ⟨B12, 0, none⟩ (vI vK b0)).setCell ⟨B12, 1, none⟩ (vI vK b1)) = w9 at hK9 ⊢
    clear k0 k1 k2 kf0 kf1 kf2 klt p0 p1 p2 p3 p4 p5 plt yM ylt r0 r1 rf0 rf1 rlt v0 v1 vf0 vf1 vlt u0 u1 u2 ult
    clear hK7 hK8 hb8
    obtain ⟨v0, v1, vf0, vf1, vlt⟩ := row2 (hK9.2 _ mcS); obtain ⟨u0, u1, u2, -, -, -, ult⟩ := row3 (hK9.2 _ (mcO _ mcS)); obtain ⟨k0, k1, k2, kf0, kf1, kf2, klt⟩ := row3 (hK9.2 _ (mcO _ (mcO _ mcS))); obtain ⟨p0, p1, p2, p3, p4, p5, plt⟩ := row6 (hK9.2 _ (mcO _ (mcO _ (mcO _ mcS)))); have yM : z07 _ W.heap.size _ := (hK9.2 _ (mcO _ (mcO _ (mcO _ (mcO _ mcS))))); have ylt := yM.lt; obtain ⟨r0, r1, rf0, rf1, rlt⟩ := row2 (hK9.2 _ (mcO _ (mcO _ (mcO _ (mcO _ (mcO _ mcS))))))
    have hX := hK9.1
    have hR := hK9.2 _ (mcO _ (mcO _ (mcO _ (mcO _ (mcO _ mcS)))))
    have yM' : z07 _ W.heap.size (y) := hK9.2 _ (mcO _ (mcO _ (mcO _ (mcO _ mcS))))
    go_upto_region 56 with fail
    go_step
    (refine z03 rfl (.pointer (some ⟨Bl, 0, none⟩)) w9 (by go_simp; try rfl) ?_); simp only [Act.put, siA, scZ, scS]
    (refine wpList_load_row rfl 45 (.tmp 4) rfl W.heap.size rfl 45 (z04 (y)) (0, 0) _ yM' Tryz.underlying45 rfl (z1e _) ?_)
    simp only [Act.put, siA, scZ, scS]
    (refine z03 rfl (vI vK ((pc : Int) + 1)) w9 (by go_simp; try rfl) ?_); simp only [Act.put, siA, scZ, scS]
    refine z0d rfl 9 #[.pointer (some ⟨Bl, 0, none⟩), .agg (z04 (y)), vI vK ((pc : Int) + 1)] (by go_simp; try rfl) (HGO.out w9 hX (Array.getElem?_eq_some_iff.1 hR).1) ?_
    intro v9 w9 hq
    obtain ⟨er, i, rfl, hkp, hT⟩ := hq
    have hR9 := z3y HLK.out hkp hR
    obtain ⟨q0, q1, qf0, qf1, qlt⟩ := row2 hR9
    simp only [Act.put, siA, scZ, scS]
    go_wp2_with fail
    exact bodyPost_ret (v := .agg #[vI vK er, vI vK i]) (by simp [results, Tryz.results9, go_sem, *]) rfl ⟨er, i, rfl, z39 hX hkp, w9, hT, z5e⟩
  | clear qq11
    have hd0 : (0 : Int) ≤ (d : Int) := by omega
    have hd1 : (d : Int) < 27 := by omega
    have hs0' : (0 : Int) ≤ (s : Int) := by omega
    have hs1' : (s : Int) < 27 := by omega
    go_upto_region 23 with (first | (go_at_call 18; go_must (refine (z2m c _).mono ?_; rintro e u1 ⟨rfl, rfl⟩; rw [HQ.out])) | fail)
    clear k0 k1 k2 kf0 kf1 kf2 klt p0 p1 p2 p3 p4 p5 plt yM ylt r0 r1 rf0 rf1 rlt
    refine z0n (C := Blk (W.setCell ⟨Bl, 1, none⟩ (vI vK (f : Int))) [(B9, .cells #[.int .u8 (kD (y.second s r n).k), vI vK (y.second s r n).l, vI vK (y.second s r n).h] 43 (0, 0)), (B7, .cells #[vI vK c, vI vK d, vI vK s, .bool r, vI vK o, vI vK n] 59 (0, 0)), (W.heap.size, .cells (z04 y) 45 (0, 0)), (W.heap.size + 1, .cells #[vI vK 0, vI vK 0] 27 (0, 0))]) (n0 := W.heap.size) 14 [12] [] (by kernel_rfl) (by kernel_rfl) (fun d _ _ _ _ h => by cases d <;> exact h) (Blk.stable _ _) (fun w2 h => by have := h.1.size; rw [HSZ.out] at this; exact this) hK5.drew trivial ?_
    simp only [List.take_succ_cons, List.take_zero, List.drop_succ_cons, List.drop_zero, List.length_nil, Nat.reduceAdd]
    repeat (first
     | (refine z0k (by rfl) ?_; simp only [Act.put, siA, scZ, scS])
     | (refine z0b (by rfl) (v := .agg (z04 y)) (fun w2 hC => zCp (hC.2 _ (mcO _ (mcO _ mcS))) rfl rfl) ?_; simp only [Act.put, siA, scZ, scS])
     | (refine z0b (by rfl) (v := ?_) ?_ ?_; rotate_left; (intro w2 hC; obtain ⟨k0, k1, k2, kf0, kf1, kf2, klt⟩ := row3 (hC.2 _ mcS); obtain ⟨p0, p1, p2, p3, p4, p5, plt⟩ := row6 (hC.2 _ (mcO _ mcS)); have yM : z07 _ W.heap.size _ := (hC.2 _ (mcO _ (mcO _ mcS))); have ylt := yM.lt; obtain ⟨r0, r1, rf0, rf1, rlt⟩ := row2 (hC.2 _ (mcO _ (mcO _ (mcO _ mcS)))); obtain ⟨m0, m1, m2⟩ := yM.know (d := s) (by omega); rw [z22 hs] at m0 m1 m2; go_simp; try with_reducible rfl); simp only [Act.put, siA, scZ, scS])
     | (refine z0p (by rfl) ?_; apply Exists.intro; refine ⟨fun w2 hC => ?_, ?_⟩; (obtain ⟨k0, k1, k2, kf0, kf1, kf2, klt⟩ := row3 (hC.2 _ mcS); obtain ⟨p0, p1, p2, p3, p4, p5, plt⟩ := row6 (hC.2 _ (mcO _ mcS)); have yM : z07 _ W.heap.size _ := (hC.2 _ (mcO _ (mcO _ mcS))); have ylt := yM.lt; obtain ⟨r0, r1, rf0, rf1, rlt⟩ := row2 (hC.2 _ (mcO _ (mcO _ (mcO _ mcS)))); obtain ⟨m0, m1, m2⟩ := yM.know (d := s) (by omega); rw [z22 hs] at m0 m1 m2; go_simp; apply z0v; first | (go_at_call 20; exact HLD.out w2 (allB HA.out.1 HSZ.out hC.1 HA.out.2))); simp only [Act.put, siA, scZ, scS]))
    refine z0t ?_
    intro w6 hC hB
    obtain ⟨k0, k1, k2, kf0, kf1, kf2, klt⟩ := row3 (hC.2 _ mcS); obtain ⟨p0, p1, p2, p3, p4, p5, plt⟩ := row6 (hC.2 _ (mcO _ mcS)); have yM : z07 _ W.heap.size _ := (hC.2 _ (mcO _ (mcO _ mcS))); have ylt := yM.lt; obtain ⟨r0, r1, rf0, rf1, rlt⟩ := row2 (hC.2 _ (mcO _ (mcO _ (mcO _ mcS))))
    obtain ⟨n0, n1, n2⟩ := yM.know (d := d) (by omega)
    have nf0 := yM.frozen (d * 3)
    have nf1 := yM.frozen (d * 3 + 1)
    have nf2 := yM.frozen (d * 3 + 2)
    have hK6 : Blk (W.setCell ⟨Bl, 1, none⟩ (vI vK (f : Int))) [(B9, .cells #[.int .u8 (kD (y.second s r n).k), vI vK (y.second s r n).l, vI vK (y.second s r n).h] 43 (0, 0)), (B7, .cells #[vI vK c, vI vK d, vI vK s, .bool r, vI vK o, vI vK n] 59 (0, 0)), (W.heap.size, .cells (z04 (y.putReg d ⟨zk, zl, zh⟩)) 45 (0, 0)), (W.heap.size + 1, .cells #[vI vK 0, vI vK 0] 27 (0, 0))] (((w6.setCell ⟨W.heap.size, d * 3, none⟩ (.int .u8 (kD zk))).setCell ⟨W.heap.size, d * 3 + 1, none⟩ (vI vK zl)).setCell ⟨W.heap.size, d * 3 + 2, none⟩ (vI vK zh)) := by
     rw [← z25 hd]
     have hz : (W.setCell ⟨Bl, 1, none⟩ (vI vK (f : Int))).heap.size ≤ W.heap.size := by rw [HSZ.out]; exact Nat.le_refl _
     exact ((((Blk.nil (((hC.1.setCell hz _).setCell hz _).setCell hz _)).cons (off3 (hC.2 _ (mcO _ (mcO _ (mcO _ mcS)))) (by omega))).cons (yM.put3 d ⟨zk, zl, zh⟩)).cons (off3 (hC.2 _ (mcO _ mcS)) (by omega))).cons (off3 (hC.2 _ mcS) (by omega))
    go_upto_region 54 with fail
    generalize (((w6.setCell ⟨W.heap.size, d * 3, none⟩ (.int .u8 (kD zk))).setCell ⟨W.heap.size, d * 3 + 1, none⟩ (vI vK zl)).setCell ⟨W.heap.size, d * 3 + 2, none⟩ (vI vK zh)) = w7 at hK6 ⊢
    clear k0 k1 k2 kf0 kf1 kf2 klt p0 p1 p2 p3 p4 p5 plt yM ylt r0 r1 rf0 rf1 rlt
    clear n0 n1 n2 nf0 nf1 nf2 hC hB
    obtain ⟨k0, k1, k2, kf0, kf1, kf2, klt⟩ := row3 (hK6.2 _ mcS); obtain ⟨p0, p1, p2, p3, p4, p5, plt⟩ := row6 (hK6.2 _ (mcO _ mcS)); have yM : z07 _ W.heap.size _ := (hK6.2 _ (mcO _ (mcO _ mcS))); have ylt := yM.lt; obtain ⟨r0, r1, rf0, rf1, rlt⟩ := row2 (hK6.2 _ (mcO _ (mcO _ (mcO _ mcS))))
    go_wp2_with fail
    exact bodyPost_ret (v := .agg #[vI vK er, vI vK pc]) (by simp [results, Tryz.results9, go_sem, *]) rfl ⟨rfl, z39 hK6.1 Kp.refl⟩
  | clear qq12
    have hd0 : (0 : Int) ≤ (d : Int) := by omega
    have hd1 : (d : Int) < 27 := by omega
    have hs0' : (0 : Int) ≤ (s : Int) := by omega
    have hs1' : (s : Int) < 27 := by omega
    go_upto_region 23 with (first | (go_at_call 18; go_must (refine (z2m c _).mono ?_; rintro e u1 ⟨rfl, rfl⟩; rw [HQ.out])) | fail)
    clear k0 k1 k2 kf0 kf1 kf2 klt p0 p1 p2 p3 p4 p5 plt yM ylt r0 r1 rf0 rf1 rlt
    refine z0n (C := Blk (W.setCell ⟨Bl, 1, none⟩ (vI vK (f : Int))) [(B9, .cells #[.int .u8 (kD (y.second s r n).k), vI vK (y.second s r n).l, vI vK (y.second s r n).h] 43 (0, 0)), (B7, .cells #[vI vK c, vI vK d, vI vK s, .bool r, vI vK o, vI vK n] 59 (0, 0)), (W.heap.size, .cells (z04 y) 45 (0, 0)), (W.heap.size + 1, .cells #[vI vK 0, vI vK 0] 27 (0, 0))]) (n0 := W.heap.size) 14 [12] [] (by kernel_rfl) (by kernel_rfl) (fun d _ _ _ _ h => by cases d <;> exact h) (Blk.stable _ _) (fun w2 h => by have := h.1.size; rw [HSZ.out] at this; exact this) hK5.drew trivial ?_
    simp only [List.take_succ_cons, List.take_zero, List.drop_succ_cons, List.drop_zero, List.length_nil, Nat.reduceAdd]
    repeat (first
     | (refine z0k (by rfl) ?_; simp only [Act.put, siA, scZ, scS])
     | (refine z0b (by rfl) (v := .agg (z04 y)) (fun w2 hC => zCp (hC.2 _ (mcO _ (mcO _ mcS))) rfl rfl) ?_; simp only [Act.put, siA, scZ, scS])
     | (refine z0b (by rfl) (v := ?_) ?_ ?_; rotate_left; (intro w2 hC; obtain ⟨k0, k1, k2, kf0, kf1, kf2, klt⟩ := row3 (hC.2 _ mcS); obtain ⟨p0, p1, p2, p3, p4, p5, plt⟩ := row6 (hC.2 _ (mcO _ mcS)); have yM : z07 _ W.heap.size _ := (hC.2 _ (mcO _ (mcO _ mcS))); have ylt := yM.lt; obtain ⟨r0, r1, rf0, rf1, rlt⟩ := row2 (hC.2 _ (mcO _ (mcO _ (mcO _ mcS)))); obtain ⟨m0, m1, m2⟩ := yM.know (d := s) (by omega); rw [z22 hs] at m0 m1 m2; go_simp; try with_reducible rfl); simp only [Act.put, siA, scZ, scS])
     | (refine z0p (by rfl) ?_; apply Exists.intro; refine ⟨fun w2 hC => ?_, ?_⟩; (obtain ⟨k0, k1, k2, kf0, kf1, kf2, klt⟩ := row3 (hC.2 _ mcS); obtain ⟨p0, p1, p2, p3, p4, p5, plt⟩ := row6 (hC.2 _ (mcO _ mcS)); have yM : z07 _ W.heap.size _ := (hC.2 _ (mcO _ (mcO _ mcS))); have ylt := yM.lt; obtain ⟨r0, r1, rf0, rf1, rlt⟩ := row2 (hC.2 _ (mcO _ (mcO _ (mcO _ mcS)))); obtain ⟨m0, m1, m2⟩ := yM.know (d := s) (by omega); rw [z22 hs] at m0 m1 m2; go_simp; apply z0v; first | (go_at_call 20; exact HLD.out w2 (allB HA.out.1 HSZ.out hC.1 HA.out.2))); simp only [Act.put, siA, scZ, scS]))
    refine z0t ?_
    intro w6 hC hB
    obtain ⟨k0, k1, k2, kf0, kf1, kf2, klt⟩ := row3 (hC.2 _ mcS); obtain ⟨p0, p1, p2, p3, p4, p5, plt⟩ := row6 (hC.2 _ (mcO _ mcS)); have yM : z07 _ W.heap.size _ := (hC.2 _ (mcO _ (mcO _ mcS))); have ylt := yM.lt; obtain ⟨r0, r1, rf0, rf1, rlt⟩ := row2 (hC.2 _ (mcO _ (mcO _ (mcO _ mcS))))
    obtain ⟨n0, n1, n2⟩ := yM.know (d := d) (by omega)
    have nf0 := yM.frozen (d * 3)
    have nf1 := yM.frozen (d * 3 + 1)
    have nf2 := yM.frozen (d * 3 + 2)
    have hK6 : Blk (W.setCell ⟨Bl, 1, none⟩ (vI vK (f : Int))) [(B9, .cells #[.int .u8 (kD (y.second s r n).k), vI vK (y.second s r n).l, vI vK (y.second s r n).h] 43 (0, 0)), (B7, .cells #[vI vK c, vI vK d, vI vK s, .bool r, vI vK o, vI vK n] 59 (0, 0)), (W.heap.size, .cells (z04 (y.putReg d ⟨zk, zl, zh⟩)) 45 (0, 0)), (W.heap.size + 1, .cells #[vI vK 0, vI vK 0] 27 (0, 0))] (((w6.setCell ⟨W.heap.size, d * 3, none⟩ (.int .u8 (kD zk))).setCell ⟨W.heap.size, d * 3 + 1, none⟩ (vI vK zl)).setCell ⟨W.heap.size, d * 3 + 2, none⟩ (vI vK zh)) := by
     rw [← z25 hd]
     have hz : (W.setCell ⟨Bl, 1, none⟩ (vI vK (f : Int))).heap.size ≤ W.heap.size := by rw [HSZ.out]; exact Nat.le_refl _
     exact ((((Blk.nil (((hC.1.setCell hz _).setCell hz _).setCell hz _)).cons (off3 (hC.2 _ (mcO _ (mcO _ (mcO _ mcS)))) (by omega))).cons (yM.put3 d ⟨zk, zl, zh⟩)).cons (off3 (hC.2 _ (mcO _ mcS)) (by omega))).cons (off3 (hC.2 _ mcS) (by omega))
    go_upto_region 54 with fail
    generalize (((w6.setCell ⟨W.heap.size, d * 3, none⟩ (.int .u8 (kD zk))).setCell ⟨W.heap.size, d * 3 + 1, none⟩ (vI vK zl)).setCell ⟨W.heap.size, d * 3 + 2, none⟩ (vI vK zh)) = w7 at hK6 ⊢
    clear k0 k1 k2 kf0 kf1 kf2 klt p0 p1 p2 p3 p4 p5 plt yM ylt r0 r1 rf0 rf1 rlt
    clear n0 n1 n2 nf0 nf1 nf2 hC hB
    obtain ⟨k0, k1, k2, kf0, kf1, kf2, klt⟩ := row3 (hK6.2 _ mcS); obtain ⟨p0, p1, p2, p3, p4, p5, plt⟩ := row6 (hK6.2 _ (mcO _ mcS)); have yM : z07 _ W.heap.size _ := (hK6.2 _ (mcO _ (mcO _ mcS))); have ylt := yM.lt; obtain ⟨r0, r1, rf0, rf1, rlt⟩ := row2 (hK6.2 _ (mcO _ (mcO _ (mcO _ mcS))))
    have hX := hK6.1
    have hR := hK6.2 _ (mcO _ (mcO _ (mcO _ mcS)))
    have yM' : z07 _ W.heap.size (y.putReg d ⟨zk, zl, zh⟩) := hK6.2 _ (mcO _ (mcO _ mcS))
    go_upto_region 56 with fail
    go_step
    (refine z03 rfl (.pointer (some ⟨Bl, 0, none⟩)) w7 (by go_simp; try rfl) ?_); simp only [Act.put, siA, scZ, scS]
    (refine wpList_load_row rfl 45 (.tmp 4) rfl W.heap.size rfl 45 (z04 (y.putReg d ⟨zk, zl, zh⟩)) (0, 0) _ yM' Tryz.underlying45 rfl (z1e _) ?_)
    simp only [Act.put, siA, scZ, scS]
    (refine z03 rfl (vI vK ((pc : Int) + 1)) w7 (by go_simp; try rfl) ?_); simp only [Act.put, siA, scZ, scS]
    refine z0d rfl 9 #[.pointer (some ⟨Bl, 0, none⟩), .agg (z04 (y.putReg d ⟨zk, zl, zh⟩)), vI vK ((pc : Int) + 1)] (by go_simp; try rfl) (HGO.out w7 hX (Array.getElem?_eq_some_iff.1 hR).1) ?_
    intro v9 w9 hq
    obtain ⟨er, i, rfl, hkp, hT⟩ := hq
    have hR9 := z3y HLK.out hkp hR
    obtain ⟨q0, q1, qf0, qf1, qlt⟩ := row2 hR9
    simp only [Act.put, siA, scZ, scS]
    go_wp2_with fail
    exact bodyPost_ret (v := .agg #[vI vK er, vI vK i]) (by simp [results, Tryz.results9, go_sem, *]) rfl ⟨er, i, rfl, z39 hX hkp, w9, hT, z5e⟩
def zLo := fun bk off len cap Bl base f E es y pc c o n d s r W HLK HST hpc hlen hd hs HA => (@z3j bk off len cap Bl base f E es y pc c o n d s r W HLK HST hpc hlen hd hs HA).1
def zLq := fun bk off len cap Bl base f E es y pc c o n d s r W HLK HST hpc hlen hd hs HA => (@z3j bk off len cap Bl base f E es y pc c o n d s r W HLK HST hpc hlen hd hs HA).2.1
def zPq := fun bk off len cap Bl base f E es y pc c o n d s r W HLK HST hpc hlen hd hs HA => (@z3j bk off len cap Bl base f E es y pc c o n d s r W HLK HST hpc hlen hd hs HA).2.2.1
def zIo := fun bk off len cap Bl base f E es y pc c o n d s r W HLK HST hpc hlen hd hs HA => (@z3j bk off len cap Bl base f E es y pc c o n d s r W HLK HST hpc hlen hd hs HA).2.2.2.1
def zIp := fun bk off len cap Bl base f E es y pc c o n d s r W HLK HST hpc hlen hd hs HA => (@z3j bk off len cap Bl base f E es y pc c o n d s r W HLK HST hpc hlen hd hs HA).2.2.2.2.1
def zLr := fun bk off len cap Bl base f E es y pc c o n d s r W HLK HST hpc hlen hd hs HA => (@z3j bk off len cap Bl base f E es y pc c o n d s r W HLK HST hpc hlen hd hs HA).2.2.2.2.2.1
def zIk := fun bk off len cap Bl base f E es y pc c o n d s r W HLK HST hpc hlen hd hs HA => (@z3j bk off len cap Bl base f E es y pc c o n d s r W HLK HST hpc hlen hd hs HA).2.2.2.2.2.2.1
def zIl := fun bk off len cap Bl base f E es y pc c o n d s r W HLK HST hpc hlen hd hs HA => (@z3j bk off len cap Bl base f E es y pc c o n d s r W HLK HST hpc hlen hd hs HA).2.2.2.2.2.2.2.1
def zLp := fun bk off len cap Bl base f E es y pc c o n d s r W HLK HST hpc hlen hd hs HA => (@z3j bk off len cap Bl base f E es y pc c o n d s r W HLK HST hpc hlen hd hs HA).2.2.2.2.2.2.2.2.1
def zLk := fun bk off len cap Bl base f E es y pc c o n d s r W HLK HST hpc hlen hd hs HA => (@z3j bk off len cap Bl base f E es y pc c o n d s r W HLK HST hpc hlen hd hs HA).2.2.2.2.2.2.2.2.2.1
def zPj := fun bk off len cap Bl base f E es y pc c o n d s r W HLK HST hpc hlen hd hs HA => (@z3j bk off len cap Bl base f E es y pc c o n d s r W HLK HST hpc hlen hd hs HA).2.2.2.2.2.2.2.2.2.2.1
def zPl := fun bk off len cap Bl base f E es y pc c o n d s r W HLK HST hpc hlen hd hs HA => (@z3j bk off len cap Bl base f E es y pc c o n d s r W HLK HST hpc hlen hd hs HA).2.2.2.2.2.2.2.2.2.2.2.1
def zIi := fun bk off len cap Bl base f E es y pc c o n d s r W HLK HST hpc hlen hd hs HA => (@z3j bk off len cap Bl base f E es y pc c o n d s r W HLK HST hpc hlen hd hs HA).2.2.2.2.2.2.2.2.2.2.2.2.1
def zLn := fun bk off len cap Bl base f E es y pc c o n d s r W HLK HST hpc hlen hd hs HA => (@z3j bk off len cap Bl base f E es y pc c o n d s r W HLK HST hpc hlen hd hs HA).2.2.2.2.2.2.2.2.2.2.2.2.2
end Go.Proofs.YteenhdoaminkeaaGreatDoor
