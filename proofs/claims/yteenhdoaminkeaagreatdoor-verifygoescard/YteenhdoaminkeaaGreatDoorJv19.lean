/-
 What the document's loads returns, way by way. Conditions: said; what it calls answers as it should. What the document's further and loads return, by the functions on plain numbers. Conditions: the ends are of 64 bits, in order; the document's variable of all numbers is as it is laid.
-/
import Derived.Test.YteenhdoaminkeaaGreatDoorJv13
import Derived.Test.YteenhdoaminkeaaGreatDoorJv20
import Derived.LoopN
set_option maxHeartbeats 40000000
open Go.Value renaming int → vI
open Go.IntKind renaming i64 → vK
open Go.RowKit.Below renaming alloc → bA, setCell → bS, drew → bD, refl → bF
set_option maxRecDepth 1000000
set_option linter.defProp false
set_option linter.unusedVariables false
set_option linter.unusedSimpArgs false
namespace Go.Proofs.YteenhdoaminkeaaGreatDoor
open Go.ChangeShapes Go.WideShapes Go.ChangeAt Go.RowKit
attribute [local simp] z00 z0y z0o
theorem zPa (w : World) (y : Way) (k l h : Int) : Blk w [(w.heap.size, .cells (z04 y) 45 (0, 0)), (w.heap.size + 1, .cells #[.int .u8 k, vI vK l, vI vK h] 43 (0, 0)), (w.heap.size + 1 + 1, .cells #[.int .u8 0, vI vK 0, vI vK 0] 43 (0, 0))] (((w.alloc (.cells (z04 y) 45)).alloc (.cells #[.int .u8 k, vI vK l, vI vK h] 43)).alloc (.cells #[.int .u8 0, vI vK 0, vI vK 0] 43)) := ((((Blk.nil (((((bF _ _).alloc (Nat.le_refl _) _).alloc (by simp) _).alloc (by simp; omega) _))).cons (z4a w _ _ _)).cons (by rw [Below.heap_alloc _ _ _ (by simp)]; exact heap_alloc2_new _ _ _)).cons (by rw [Below.heap_alloc _ _ _ (by simp; omega), Below.heap_alloc _ _ _ (by simp)]; exact heap_alloc_new _ _))
def z32 (f : Nat → Int × Int) : Nat → List Value
 | 0 => []
 | k + 1 => z32 f k ++ [.int .u8 110, vI vK (f k).1, vI vK (f k).2]
theorem z8p (f : Nat → Int × Int) : ∀ k, (z32 f k).length = k * 3
 | 0 => rfl
 | k + 1 => by rw [z32, List.length_append, z8p f k]; simp; omega
theorem z9z (f : Nat → Int × Int) : ∀ k i, i < k → (z32 f k)[i * 3]? = some (.int .u8 110) ∧ (z32 f k)[i * 3 + 1]? = some (vI vK (f i).1) ∧ (z32 f k)[i * 3 + 2]? = some (vI vK (f i).2)
 | 0, i, h => absurd h (by omega)
 | k + 1, i, h => by
  have hl := z8p f k
  by_cases e : i = k
  ·subst e
   refine ⟨?_, ?_, ?_⟩
   ·rw [z32, List.getElem?_append_right (by omega), hl]; simp
   ·rw [z32, List.getElem?_append_right (by omega), hl, show i * 3 + 1 - i * 3 = 1 by omega]; rfl
   ·rw [z32, List.getElem?_append_right (by omega), hl, show i * 3 + 2 - i * 3 = 2 by omega]; rfl
  ·obtain ⟨h1, h2, h3⟩ := z9z f k i (by omega)
   refine ⟨?_, ?_, ?_⟩
   ·rw [z32, List.getElem?_append_left (by omega)]; exact h1
   ·rw [z32, List.getElem?_append_left (by omega)]; exact h2
   ·rw [z32, List.getElem?_append_left (by omega)]; exact h3
theorem Tryz.infoKn : (Tryz.prog.info? 43).map (fun i => (i.zero, i.size, i.bytes)) = some (some (.agg #[.int .u8 0, vI vK 0, vI vK 0]), 3, 24) := by kernel_rfl
theorem zAb {w : World} {x y z : Value} {e : TypeId} {b : Nat} (hb : b = w.heap.size) : ∀ (j : Nat) u, [x, y, z][j]? = some u → (w.alloc (.cells #[x, y, z] e)).cell? ((⟨b, 0, none⟩ : Addr).add j) = some u := by
 subst hb
 intro j u hj
 rw [Addr.add_mid, Nat.zero_add, cell_of_row _ w.heap.size j _ e (0, 0) (heap_alloc_new _ _), ← Array.getElem?_toList]
 exact hj
theorem zIg {W W' : World} (hg : W.grownBy W' none) : Below W.heap.size W W' := ⟨hg.os, hg.tape, hg.output, hg.size, fun k hk => hg.block k hk (by simp)⟩
theorem kn_one {w : World} {base : Nat} {v a b c : Value} (h : w.ownsRow base 43 3 v (0 + 1) ([] ++ [a, b, c])) : ∃ g cap, v = .slice (some ⟨g, 0, none⟩) 1 cap ∧ 1 ≤ cap ∧ w.cell? ⟨g, 0, none⟩ = some a ∧ w.cell? ⟨g, 1, none⟩ = some b ∧ w.cell? ⟨g, 2, none⟩ = some c ∧ g < w.heap.size := by
 have hc := fun g (e : v.ownBlock = some g) => World.ownsRow.cells h (g := g) e
 rcases h.2 with ⟨_, hn⟩ | ⟨g, cap, cur, rfl, hb, hg, hcap, _⟩
 ·omega
 ·have h0 := hc g rfl 0 a rfl
  have h1 := hc g rfl 1 b rfl
  have h2 := hc g rfl 2 c rfl
  rw [Addr.add_mid] at h0 h1 h2
  exact ⟨g, cap, rfl, by omega, h0, h1, h2, (Array.getElem?_eq_some_iff.1 hg).1⟩
theorem zHk (y : Way) (k l h o b0 b1 : Int) (er : Int) (w : World) (HA : Hid (z0a w)) (HF : Hid (∀ W : World, z0a W → Calls Tryz.prog 21 #[.agg #[.int .u8 k, vI vK l, vI vK h], vI vK o] W fun e w' => e = .returned (.tuple #[.agg #[vI vK b0, vI vK b1], vI vK er]) ∧ Below W.heap.size W w')) (t1 : (er != 0) = true) : Calls Tryz.prog 20 #[.agg (z04 y), .agg #[.int .u8 k, vI vK l, vI vK h], vI vK o] w fun e w' => e = .returned (.tuple #[.agg #[.int .u8 0, vI vK 0, vI vK 0], vI vK er]) ∧ Below w.heap.size w w' := by
 have hK0 := zPa w y k l h
 go_enter Tryz.func20, Tryz.ntmps20
 go_upto_region 1 with fail
 generalize (((w.alloc (.cells (z04 y) 45)).alloc (.cells #[.int .u8 k, vI vK l, vI vK h] 43)).alloc (.cells #[.int .u8 0, vI vK 0, vI vK 0] 43)) = w0 at hK0 ⊢
 have yM : z07 _ w.heap.size _ := (hK0.2 _ mcS); have ylt := yM.lt; obtain ⟨x0, x1, x2, xf0, xf1, xf2, xlt⟩ := row3 (hK0.2 _ (mcO _ mcS)); obtain ⟨z0, z1, z2, zf0, zf1, zf2, zlt⟩ := row3 (hK0.2 _ (mcO _ (mcO _ mcS)))
 go_wp2_with (first | (go_at_call 21; go_must (refine (HF.out _ (HA.out.later hK0.1)).mono ?_; rintro e w1 ⟨rfl, hb1⟩; have hK1 := hK0.later hb1; have hA1 := HA.out.later hK1.1; clear yM ylt x0 x1 x2 xf0 xf1 xf2 xlt z0 z1 z2 zf0 zf1 zf2 zlt; have yM : z07 _ w.heap.size _ := (hK1.2 _ mcS); have ylt := yM.lt; obtain ⟨x0, x1, x2, xf0, xf1, xf2, xlt⟩ := row3 (hK1.2 _ (mcO _ mcS)); obtain ⟨z0, z1, z2, zf0, zf1, zf2, zlt⟩ := row3 (hK1.2 _ (mcO _ (mcO _ mcS))); have hbw := hK1.1)) | fail)
 exact bodyPost_ret (v := .tuple #[.agg #[.int .u8 0, vI vK 0, vI vK 0], vI vK er]) (by simp [results, Tryz.results20, go_sem, *]) rfl ⟨rfl, (by repeat' first | with_reducible (first | exact hbw | exact bF _ _ | refine bA ?_ ?_ _ | refine bS ?_ ?_ _ | refine bD ?_) | ((try dsimp only); omega) | (simp; done) | (simp; omega))⟩
theorem zHm (y : Way) (k l h o b0 b1 : Int)  (w : World) (HA : Hid (z0a w)) (HF : Hid (∀ W : World, z0a W → Calls Tryz.prog 21 #[.agg #[.int .u8 k, vI vK l, vI vK h], vI vK o] W fun e w' => e = .returned (.tuple #[.agg #[vI vK b0, vI vK b1], vI vK 0]) ∧ Below W.heap.size W w')) (t1 : (k != 102) = true) : Calls Tryz.prog 20 #[.agg (z04 y), .agg #[.int .u8 k, vI vK l, vI vK h], vI vK o] w fun e w' => e = .returned (.tuple #[.agg #[.int .u8 110, vI vK (-9223372036854775808), vI vK 9223372036854775807], vI vK 0]) ∧ Below w.heap.size w w' := by
 have hK0 := zPa w y k l h
 go_enter Tryz.func20, Tryz.ntmps20
 go_upto_region 1 with fail
 generalize (((w.alloc (.cells (z04 y) 45)).alloc (.cells #[.int .u8 k, vI vK l, vI vK h] 43)).alloc (.cells #[.int .u8 0, vI vK 0, vI vK 0] 43)) = w0 at hK0 ⊢
 have yM : z07 _ w.heap.size _ := (hK0.2 _ mcS); have ylt := yM.lt; obtain ⟨x0, x1, x2, xf0, xf1, xf2, xlt⟩ := row3 (hK0.2 _ (mcO _ mcS)); obtain ⟨z0, z1, z2, zf0, zf1, zf2, zlt⟩ := row3 (hK0.2 _ (mcO _ (mcO _ mcS)))
 go_wp2_with (first | (go_at_call 21; go_must (refine (HF.out _ (HA.out.later hK0.1)).mono ?_; rintro e w1 ⟨rfl, hb1⟩; have hK1 := hK0.later hb1; have hA1 := HA.out.later hK1.1; clear yM ylt x0 x1 x2 xf0 xf1 xf2 xlt z0 z1 z2 zf0 zf1 zf2 zlt; have yM : z07 _ w.heap.size _ := (hK1.2 _ mcS); have ylt := yM.lt; obtain ⟨x0, x1, x2, xf0, xf1, xf2, xlt⟩ := row3 (hK1.2 _ (mcO _ mcS)); obtain ⟨z0, z1, z2, zf0, zf1, zf2, zlt⟩ := row3 (hK1.2 _ (mcO _ (mcO _ mcS))); have hbw := hK1.1; obtain ⟨ga, ga0, ga1⟩ := hA1)) | fail)
 exact bodyPost_ret (v := .tuple #[.agg #[.int .u8 110, vI vK (-9223372036854775808), vI vK 9223372036854775807], vI vK 0]) (by simp [results, Tryz.results20, go_sem, *]) rfl ⟨rfl, (by repeat' first | with_reducible (first | exact hbw | exact bF _ _ | refine bA ?_ ?_ _ | refine bS ?_ ?_ _ | refine bD ?_) | ((try dsimp only); omega) | (simp; done) | (simp; omega))⟩
theorem z95 (y : Way) (k l h o b0 b1 : Int) (q : Nat) (hq : q < 27) (w : World) (HA : Hid (z0a w)) (HF : Hid (∀ W : World, z0a W → Calls Tryz.prog 21 #[.agg #[.int .u8 k, vI vK l, vI vK h], vI vK o] W fun e w' => e = .returned (.tuple #[.agg #[vI vK b0, vI vK b1], vI vK 0]) ∧ Below W.heap.size W w')) (t1 : (k != 102) = false) (e1 : IntKind.i64.wrap (27 + b0) = (q : Int)) (hb : b0 = b1) (lo : -16 ≤ b0) (hi : b0 ≤ -1) : (∀ (n1 : (kD (y.all q).k == 0) = true), Calls Tryz.prog 20 #[.agg (z04 y), .agg #[.int .u8 k, vI vK l, vI vK h], vI vK o] w fun e w' => e = .returned (.tuple #[.agg #[.int .u8 0, vI vK 0, vI vK 0], vI vK 8]) ∧ Below w.heap.size w w') ∧ (∀ (n1 : (kD (y.all q).k == 0) = false) (n2 : (kD (y.all q).k != 110) = true), Calls Tryz.prog 20 #[.agg (z04 y), .agg #[.int .u8 k, vI vK l, vI vK h], vI vK o] w fun e w' => e = .returned (.tuple #[.agg #[.int .u8 (kD (y.all q).k), vI vK (y.all q).l, vI vK (y.all q).h], vI vK 0]) ∧ Below w.heap.size w w') ∧ (∀ (n1 : (kD (y.all q).k == 0) = false) (n2 : (kD (y.all q).k != 110) = false), Calls Tryz.prog 20 #[.agg (z04 y), .agg #[.int .u8 k, vI vK l, vI vK h], vI vK o] w fun e w' => e = .returned (.tuple #[.agg #[.int .u8 (kD (y.all q).k), vI vK (y.all q).l, vI vK (y.all q).h], vI vK 0]) ∧ Below w.heap.size w w') := by
 refine ⟨?_, ?_, ?_⟩
 intro n1
 rotate_left
 intro n1 n2
 rotate_left
 intro n1 n2
 rotate_left
 all_goals
  have hK0 := zPa w y k l h
 all_goals
  go_enter Tryz.func20, Tryz.ntmps20
  go_upto_region 1 with fail
  generalize (((w.alloc (.cells (z04 y) 45)).alloc (.cells #[.int .u8 k, vI vK l, vI vK h] 43)).alloc (.cells #[.int .u8 0, vI vK 0, vI vK 0] 43)) = w0 at hK0 ⊢
  have yM : z07 _ w.heap.size _ := (hK0.2 _ mcS); have ylt := yM.lt; obtain ⟨x0, x1, x2, xf0, xf1, xf2, xlt⟩ := row3 (hK0.2 _ (mcO _ mcS)); obtain ⟨z0, z1, z2, zf0, zf1, zf2, zlt⟩ := row3 (hK0.2 _ (mcO _ (mcO _ mcS)))
  obtain ⟨i0, hi0, hz0, hz1, hz2⟩ := info_parts Tryz.infoKn
  have q0 : (0 : Int) ≤ (q : Int) := by omega
  have q1 : (q : Int) < 27 := by omega
  have e2 : IntKind.i64.wrap (b0 + 1) = b0 + 1 := by rw [IntWalk.i64_left]; exact z0e (by omega) (by omega)
  subst hb
  go_wp2_with (first | (go_at_call 21; go_must (refine (HF.out _ (HA.out.later hK0.1)).mono ?_; rintro e w1 ⟨rfl, hb1⟩; have hK1 := hK0.later hb1; have hA1 := HA.out.later hK1.1; clear yM ylt x0 x1 x2 xf0 xf1 xf2 xlt z0 z1 z2 zf0 zf1 zf2 zlt; have yM : z07 _ w.heap.size _ := (hK1.2 _ mcS); have ylt := yM.lt; obtain ⟨x0, x1, x2, xf0, xf1, xf2, xlt⟩ := row3 (hK1.2 _ (mcO _ mcS)); obtain ⟨z0, z1, z2, zf0, zf1, zf2, zlt⟩ := row3 (hK1.2 _ (mcO _ (mcO _ mcS))); have hbw := hK1.1)) | fail)
  have hK2 := hK1.add (.cells #[vI vK b0, vI vK b0] 24)
  clear yM ylt x0 x1 x2 xf0 xf1 xf2 xlt z0 z1 z2 zf0 zf1 zf2 zlt
  clear hbw hb1 hA1 hK0 hK1
  generalize (w1.alloc (.cells #[vI vK b0, vI vK b0] 24)) = w2 at hK2 ⊢
  generalize w1.heap.size = B8 at hK2 ⊢
  obtain ⟨p0, p1, -, -, plt⟩ := row2 (hK2.2 _ mcS); have yM : z07 _ w.heap.size _ := (hK2.2 _ (mcO _ mcS)); have ylt := yM.lt; obtain ⟨x0, x1, x2, xf0, xf1, xf2, xlt⟩ := row3 (hK2.2 _ (mcO _ (mcO _ mcS))); obtain ⟨z0, z1, z2, zf0, zf1, zf2, zlt⟩ := row3 (hK2.2 _ (mcO _ (mcO _ (mcO _ mcS))))
  obtain ⟨m0, m1, m2⟩ := yM.know hq
 ·have hKe := hK2
  refine wp_loop_rounds 1 ?_
  repeat any_goals (rw [rounds_succ]; go_wp2_with fail)
  have hbw := hKe.1
  exact bodyPost_ret (v := .tuple #[.agg #[.int .u8 0, vI vK 0, vI vK 0], vI vK 8]) (by simp [results, Tryz.results20, go_sem, *]) rfl ⟨rfl, (by repeat' first | with_reducible (first | exact hbw | exact bF _ _ | refine bA ?_ ?_ _ | refine bS ?_ ?_ _ | refine bD ?_) | ((try dsimp only); omega) | (simp; done) | (simp; omega))⟩
 iterate 2
  ·refine wp_loop_rounds 2 ?_
   repeat any_goals (rw [rounds_succ]; go_wp2_with (first | (at_builtin; refine wpList_append_own _ rfl (.tmp 58) (.tmp 60) 91 rfl w.heap.size 43 i0 (.agg #[.int .u8 0, vI vK 0, vI vK 0]) 3 24 Tryz.underlying91 hi0 hz0 hz1 hz2 rfl (by decide) _ 0 [] rfl (World.ownsRow_nil _ _ _ _) ⟨_, 0, none⟩ 1 1 [.int .u8 (kD (y.all q).k), vI vK (y.all q).l, vI vK (y.all q).h] rfl rfl (zAb (by simp)) (by intro u hu; simp at hu; rcases hu with rfl | rfl | rfl <;> rfl) (by unfold maxLen; omega) (by omega) (by have := hK2.1.size; simp; omega) ?_; intro v6 w6 hown6 hgrow6 _; have hb6 := ((bF w2.heap.size w2).alloc (Nat.le_refl _) (.cells #[.int .u8 (kD (y.all q).k), vI vK (y.all q).l, vI vK (y.all q).h] 43)).alloc (by simp) (.cells #[.int .u8 (kD (y.all q).k), vI vK (y.all q).l, vI vK (y.all q).h] 43); have hKe := hK2.later (hb6.trans ((zIg hgrow6).mono (by simp; omega))); obtain ⟨g6, cp6, rfl, hc6, g0, g1, g2, glt⟩ := kn_one hown6; clear yM ylt x0 x1 x2 xf0 xf1 xf2 xlt z0 z1 z2 zf0 zf1 zf2 zlt p0 p1 plt; clear m0 m1 m2 hb6 hgrow6; obtain ⟨p0, p1, -, -, plt⟩ := row2 (hKe.2 _ mcS); have yM : z07 _ w.heap.size _ := (hKe.2 _ (mcO _ mcS)); have ylt := yM.lt; obtain ⟨x0, x1, x2, xf0, xf1, xf2, xlt⟩ := row3 (hKe.2 _ (mcO _ (mcO _ mcS))); obtain ⟨z0, z1, z2, zf0, zf1, zf2, zlt⟩ := row3 (hKe.2 _ (mcO _ (mcO _ (mcO _ mcS))))) | fail))
   all_goals refine wp_loop_rounds 1 ?_
   repeat any_goals (rw [rounds_succ]; go_wp2_with fail)
   all_goals have hbw := hKe.1
   all_goals exact bodyPost_ret (v := .tuple #[.agg #[.int .u8 (kD (y.all q).k), vI vK (y.all q).l, vI vK (y.all q).h], vI vK 0]) (by simp [results, Tryz.results20, go_sem, *]) rfl ⟨rfl, (by repeat' first | with_reducible (first | exact hbw | exact bF _ _ | refine bA ?_ ?_ _ | refine bS ?_ ?_ _ | refine bD ?_) | ((try dsimp only); omega) | (simp; done) | (simp; omega))⟩
def zE0 := fun y k l h o b0 b1 q hq w HA HF t1 e1 hb lo hi => (@z95 y k l h o b0 b1 q hq w HA HF t1 e1 hb lo hi).1
def zDz := fun y k l h o b0 b1 q hq w HA HF t1 e1 hb lo hi => (@z95 y k l h o b0 b1 q hq w HA HF t1 e1 hb lo hi).2.1
def zDy := fun y k l h o b0 b1 q hq w HA HF t1 e1 hb lo hi => (@z95 y k l h o b0 b1 q hq w HA HF t1 e1 hb lo hi).2.2
theorem zE2 {w w' : World} {a b c : Obj} (h : w' = ((w.alloc a).alloc b).alloc c) : Below w.heap.size w w' := by
 rw [h]; exact (((bF _ _).alloc (Nat.le_refl _) _).alloc (by simp) _).alloc (by simp; omega) _
theorem zTa {k : Int} (h0 : 0 ≤ k) (h5 : k ≤ 5) (c0 : ¬ k = 0) (c1 : ¬ k = 1) : (kD k == 0) = false ∧ (kD k != 110) = true := by
 rcases kD_six h0 h5 with rfl | rfl | rfl | rfl | rfl | rfl
 ·exact absurd rfl c0
 ·exact absurd rfl c1
 all_goals exact ⟨rfl, rfl⟩
theorem Blk.put12 {w0 w : World} {F : List (Nat × Obj)} {g : Nat} {a b c x y : Value} {t : TypeId} (h : Blk w0 ((g, .cells #[a, b, c] t (0, 0)) :: F) w) (hg : w0.heap.size ≤ g) (hF : ∀ z, z ∈ F → z.1 ≠ g) : Blk w0 ((g, .cells #[a, x, y] t (0, 0)) :: F) ((w.setCell ⟨g, 1, none⟩ x).setCell ⟨g, 2, none⟩ y) := by
 refine Blk.cons ⟨(h.1.setCell hg _).setCell hg _, fun z hz => ?_⟩ (heap_setCell_same _ g 2 _ t y (heap_setCell_same w g 1 _ t x (h.2 _ mcS)))
 exact (heap_setCell_other _ _ _ _ (hF z hz)).trans ((heap_setCell_other _ _ _ _ (hF z hz)).trans (h.2 z (mcO _ hz)))
theorem zP3 {w : World} {base n : Nat} {v : Value} {f : Nat → Int × Int} (h : w.ownsRow base 43 3 v n (z32 f n)) (hn : 1 ≤ n) : ∃ g cap cur, v = .slice (some ⟨g, 0, none⟩) n cap ∧ n ≤ cap ∧ base ≤ g ∧ w.heap[g]? = some (.cells cur 43 (0, 0)) ∧ ∀ i, i < n → cur[i * 3]? = some (.int .u8 110) ∧ cur[i * 3 + 1]? = some (vI vK (f i).1) ∧ cur[i * 3 + 2]? = some (vI vK (f i).2) := by
 rcases h.2 with ⟨_, e⟩ | ⟨g, cap, cur, rfl, hb, hg, hcap, _, hsz, ht⟩
 ·omega
 ·refine ⟨g, cap, cur, rfl, hcap, hb, hg, fun i hi => ?_⟩
  obtain ⟨a1, a2, a3⟩ := z9z f n i hi
  have c : ∀ p, p < n * 3 → cur[p]? = (z32 f n)[p]? := fun p hp => by rw [← ht, List.getElem?_take_of_lt hp, Array.getElem?_toList]
  exact ⟨(c _ (by omega)).trans a1, (c _ (by omega)).trans a2, (c _ (by omega)).trans a3⟩
theorem zE1 (y : Way) (k l h o b0 b1 : Int) (t m : Nat) (w : World) (HA : Hid (z0a w)) (HF : Hid (∀ W : World, z0a W → Calls Tryz.prog 21 #[.agg #[.int .u8 k, vI vK l, vI vK h], vI vK o] W fun e w' => e = .returned (.tuple #[.agg #[vI vK b0, vI vK b1], vI vK 0]) ∧ Below W.heap.size W w')) (t1 : (k != 102) = false) (nb : (b0 != b1) = true) (HB : Hid (b0 = (t : Int) - 16 ∧ b1 = b0 + (m : Int) ∧ 1 ≤ m ∧ t + m < 16)) (HY : Hid y.Ok) : Calls Tryz.prog 20 #[.agg (z04 y), .agg #[.int .u8 k, vI vK l, vI vK h], vI vK o] w fun e w' => (∃ j, j < m + 1 ∧ (∀ i, i < j → z1t y t i = 0) ∧ z1t y t j ≠ 0 ∧ e = .returned (.tuple #[.agg #[.int .u8 0, vI vK 0, vI vK 0], vI vK (z1t y t j)]) ∧ Below w.heap.size w w') ∨ ((∀ j, j < m + 1 → z1t y t j = 0) ∧ e = .returned (.tuple #[.agg #[.int .u8 110, vI vK (z0z (bdAt y t) (m + 1)).1, vI vK (z0z (bdAt y t) (m + 1)).2], vI vK 0]) ∧ Below w.heap.size w w') := by
 have hK0 := zPa w y k l h
 go_enter Tryz.func20, Tryz.ntmps20
 go_upto_region 1 with fail
 generalize (((w.alloc (.cells (z04 y) 45)).alloc (.cells #[.int .u8 k, vI vK l, vI vK h] 43)).alloc (.cells #[.int .u8 0, vI vK 0, vI vK 0] 43)) = w0 at hK0 ⊢
 have yM : z07 _ w.heap.size _ := (hK0.2 _ mcS); have ylt := yM.lt; obtain ⟨x0, x1, x2, xf0, xf1, xf2, xlt⟩ := row3 (hK0.2 _ (mcO _ mcS)); obtain ⟨z0, z1, z2, zf0, zf1, zf2, zlt⟩ := row3 (hK0.2 _ (mcO _ (mcO _ mcS)))
 obtain ⟨i0, hi0, hz0, hz1, hz2⟩ := info_parts Tryz.infoKn
 go_wp2_with (first | (go_at_call 21; go_must (refine (HF.out _ (HA.out.later hK0.1)).mono ?_; rintro e w1 ⟨rfl, hb1⟩; have hK1 := hK0.later hb1; have hA1 := HA.out.later hK1.1; clear yM ylt x0 x1 x2 xf0 xf1 xf2 xlt z0 z1 z2 zf0 zf1 zf2 zlt; have yM : z07 _ w.heap.size _ := (hK1.2 _ mcS); have ylt := yM.lt; obtain ⟨x0, x1, x2, xf0, xf1, xf2, xlt⟩ := row3 (hK1.2 _ (mcO _ mcS)); obtain ⟨z0, z1, z2, zf0, zf1, zf2, zlt⟩ := row3 (hK1.2 _ (mcO _ (mcO _ mcS))); have hbw := hK1.1)) | fail)
 have hK2 := hK1.add (.cells #[vI vK b0, vI vK b1] 24)
 clear yM ylt x0 x1 x2 xf0 xf1 xf2 xlt z0 z1 z2 zf0 zf1 zf2 zlt
 clear hbw hb1 hA1 hK0 hK1
 generalize (w1.alloc (.cells #[vI vK b0, vI vK b1] 24)) = w2 at hK2 ⊢
 generalize w1.heap.size = B8 at hK2 ⊢
 obtain ⟨p0, p1, -, -, plt⟩ := row2 (hK2.2 _ mcS); have yM : z07 _ w.heap.size _ := (hK2.2 _ (mcO _ mcS)); have ylt := yM.lt; obtain ⟨x0, x1, x2, xf0, xf1, xf2, xlt⟩ := row3 (hK2.2 _ (mcO _ (mcO _ mcS))); obtain ⟨z0, z1, z2, zf0, zf1, zf2, zlt⟩ := row3 (hK2.2 _ (mcO _ (mcO _ (mcO _ mcS))))
 have HK2 : Hid (Blk w [(B8, .cells #[vI vK b0, vI vK b1] 24 (0, 0)), (w.heap.size, .cells (z04 y) 45 (0, 0)), (w.heap.size + 1, .cells #[.int .u8 k, vI vK l, vI vK h] 43 (0, 0)), (w.heap.size + 1 + 1, .cells #[.int .u8 0, vI vK 0, vI vK 0] 43 (0, 0))] w2) := hK2
 have HS2 : Hid (w.heap.size ≤ w2.heap.size ∧ B8 < w2.heap.size ∧ w.heap.size + 1 + 1 < w2.heap.size) := ⟨hK2.1.size, hK2.lt mcS, hK2.lt (mcO _ (mcO _ (mcO _ mcS)))⟩
 clear yM ylt x0 x1 x2 xf0 xf1 xf2 xlt z0 z1 z2 zf0 zf1 zf2 zlt p0 p1 plt
 clear hK2
 obtain ⟨hb0, hb1, hm1, htm⟩ := HB.out
 clear hb0 hb1
 go_loopw [10, 11] (fun v i wr => ∃ j : Nat, i = vI vK (b0 + (j : Int)) ∧ j ≤ m + 1 ∧ Hid (Blk w [(B8, .cells #[vI vK b0, vI vK b1] 24 (0, 0)), (w.heap.size, .cells (z04 y) 45 (0, 0)), (w.heap.size + 1, .cells #[.int .u8 k, vI vK l, vI vK h] 43 (0, 0)), (w.heap.size + 1 + 1, .cells #[.int .u8 0, vI vK 0, vI vK 0] 43 (0, 0))] wr) ∧ Hid (wr.ownsRow w2.heap.size 43 3 v j (z32 (bdAt y t) j)) ∧ Hid (∀ i, i < j → z1t y t i = 0) ∧ Hid (w2.heap.size ≤ wr.heap.size)) (fun _ i _ => (m + 1) - (intOf i - b0).toNat)
 case atStart => exact ⟨0, by simp, by omega, HK2.out, World.ownsRow_nil _ _ _ _, fun j hj => absurd hj (by omega), Nat.le_refl _⟩
 case round =>
  obtain ⟨j, rfl, hj, HK, HO, HZ, HS⟩ := hrel
  have hK := HK.out
  clear HK2
  obtain ⟨p0, p1, -, -, plt⟩ := row2 (hK.2 _ mcS); have yM : z07 _ w.heap.size _ := (hK.2 _ (mcO _ mcS)); have ylt := yM.lt; obtain ⟨x0, x1, x2, xf0, xf1, xf2, xlt⟩ := row3 (hK.2 _ (mcO _ (mcO _ mcS))); obtain ⟨z0, z1, z2, zf0, zf1, zf2, zlt⟩ := row3 (hK.2 _ (mcO _ (mcO _ (mcO _ mcS))))
  by_cases hlt : j < m + 1
  ·have hq : 11 + (t + j) < 27 := by omega
   have hle : decide (b0 + (j : Int) ≤ b1) = true := by have := HB.out; simp; omega
   obtain ⟨m0, m1, m2⟩ := yM.know hq
   rw [z77] at m0 m1 m2
   have e1 : IntKind.i64.wrap (27 + (b0 + (j : Int))) = ((11 + (t + j) : Nat) : Int) := by have := HB.out; rw [IntWalk.i64_left, z0e (by omega) (by omega)]; omega
   have e2 : IntKind.i64.wrap (b0 + (j : Int) + 1) = b0 + ((j + 1 : Nat) : Int) := by have := HB.out; rw [IntWalk.i64_left, z0e (by omega) (by omega)]; omega
   generalize 11 + (t + j) = q at hq m0 m1 m2 e1
   have q0 : (0 : Int) ≤ (q : Int) := by omega
   have q1 : (q : Int) < 27 := by omega
   by_cases c0 : (y.slot (t + j)).k = 0
   ·have n1 : (kD (y.slot (t + j)).k == 0) = true := by rw [c0]; rfl
    have HW : Hid (z1t y t j = 8) := by show z0f (y.slot (t + j)) = 8; unfold z0f; rw [if_pos c0]
    clear c0
    go_wp2_with fail
    have hbw := hK.1
    exact bodyPost_ret (v := .tuple #[.agg #[.int .u8 0, vI vK 0, vI vK 0], vI vK 8]) (by simp [results, Tryz.results20, go_sem, *]) rfl (Or.inl ⟨j, hlt, HZ.out, by rw [HW.out]; decide, by rw [HW.out], (by repeat' first | with_reducible (first | exact hbw | exact bF _ _ | refine bA ?_ ?_ _ | refine bS ?_ ?_ _ | refine bD ?_) | ((try dsimp only); omega) | (simp; done) | (simp; omega))⟩)
   by_cases c1 : (y.slot (t + j)).k = 1
   ·rw [c1] at m0
    change _ = some (Value.int .u8 110) at m0
    have HW : Hid (z1t y t j = 0) := by show z0f (y.slot (t + j)) = 0; unfold z0f; rw [if_neg c0, if_pos c1]
    clear c0 c1
    go_wp2_with (first | (at_builtin; refine wpList_append_own _ rfl (.tmp 58) (.tmp 60) 91 rfl w2.heap.size 43 i0 (.agg #[.int .u8 0, vI vK 0, vI vK 0]) 3 24 Tryz.underlying91 hi0 hz0 hz1 hz2 rfl (by decide) _ j (z32 (bdAt y t) j) rfl ((HO.out.alloc _).alloc _) ⟨_, 0, none⟩ 1 1 [.int .u8 110, vI vK (y.slot (t + j)).l, vI vK (y.slot (t + j)).h] rfl rfl (zAb (by simp)) (by intro u hu; simp at hu; rcases hu with rfl | rfl | rfl <;> rfl) (by unfold maxLen; omega) (by omega) (by have := HS.out; simp; omega) ?_; intro v6 w6 hown6 hgrow6 _) | fail)
    go_roundw
    case rel =>
     refine ⟨j + 1, e2 ▸ rfl, by omega, ?_, hown6, ?_, ?_⟩
     ·exact ((hK.later ((bF _ _).alloc (Nat.le_refl _) (.cells #[.int .u8 110, vI vK (y.slot (t + j)).l, vI vK (y.slot (t + j)).h] 43))).later ((bF _ _).alloc (Nat.le_refl _) _)).grown hgrow6 (b := w2.heap.size) (fun k hk => (World.ownsRow.lt HO.out k hk).1) HS2.out.1 (by intro x hx; have := HS2.out; simp only [List.mem_cons, List.not_mem_nil, or_false] at hx; rcases hx with rfl | rfl | rfl | rfl <;> (show _ < _; omega))
     ·intro i hi
      by_cases e : i = j
      ·rw [e]; exact HW.out
      ·exact HZ.out i (by omega)
     ·exact Nat.le_trans HS.out (Nat.le_trans (by simp; omega) hgrow6.size)
    case measure => simp [intOf]; omega
   ·obtain ⟨n1, n2⟩ := zTa (HY.out.slot (t + j) (by omega)).1 (HY.out.slot (t + j) (by omega)).2.1 c0 c1
    have HW : Hid (z1t y t j = 1) := by show z0f (y.slot (t + j)) = 1; unfold z0f; rw [if_neg c0, if_neg c1]
    clear c0 c1
    go_wp2_with fail
    have hbw := hK.1
    exact bodyPost_ret (v := .tuple #[.agg #[.int .u8 0, vI vK 0, vI vK 0], vI vK 1]) (by simp [results, Tryz.results20, go_sem, *]) rfl (Or.inl ⟨j, hlt, HZ.out, by rw [HW.out]; decide, by rw [HW.out], (by repeat' first | with_reducible (first | exact hbw | exact bF _ _ | refine bA ?_ ?_ _ | refine bS ?_ ?_ _ | refine bD ?_) | ((try dsimp only); omega) | (simp; done) | (simp; omega))⟩)
  ·obtain rfl : j = m + 1 := by omega
   have hle : decide (b0 + ((m : Int) + 1) ≤ b1) = false := by have := HB.out; simp; omega
   obtain ⟨g, cp, cur, rfl, hcp, hgb, hgr, hcur⟩ := zP3 HO.out (by omega)
   obtain ⟨u0, u1, u2⟩ := hcur 0 (by omega)
   have g0 := (cell_of_row _ g 0 _ 43 (0, 0) hgr).trans u0
   have g1 := (cell_of_row _ g 1 _ 43 (0, 0) hgr).trans u1
   have g2 := (cell_of_row _ g 2 _ 43 (0, 0) hgr).trans u2
   have glt := (Array.getElem?_eq_some_iff.1 hgr).1
   clear u0 u1 u2
   go_wp2_with fail
   have hK3 : Blk w [(wr.heap.size, .cells #[.int .u8 110, vI vK (z0z (bdAt y t) 1).1, vI vK (z0z (bdAt y t) 1).2] 43 (0, 0)), (g, .cells cur 43 (0, 0)), (w.heap.size + 1 + 1, .cells #[.int .u8 0, vI vK 0, vI vK 0] 43 (0, 0))] (wr.alloc (.cells #[.int .u8 110, vI vK (bdAt y t 0).1, vI vK (bdAt y t 0).2] 43)) := by
    rw [z5s]
    exact (((Blk.nil (hK.1.alloc hK.1.size _)).cons ((heap_alloc_old _ _ zlt).trans (hK.2 _ (mcO _ (mcO _ (mcO _ mcS)))))).cons ((heap_alloc_old _ _ glt).trans hgr)).cons (heap_alloc_new _ _)
   have HN : Hid (w2.heap.size ≤ wr.heap.size ∧ w2.heap.size ≤ g ∧ w.heap.size + 1 + 1 < w2.heap.size ∧ g < wr.heap.size) := ⟨HS.out, hgb, HS2.out.2.2, glt⟩
   have HZ2 : Hid (∀ j, j < m + 1 → z1t y t j = 0) := HZ.out
   have HC : Hid (∀ i, i < m + 1 → cur[i * 3]? = some (.int .u8 110) ∧ cur[i * 3 + 1]? = some (vI vK (bdAt y t i).1) ∧ cur[i * 3 + 2]? = some (vI vK (bdAt y t i).2)) := hcur
   clear yM ylt x0 x1 x2 xf0 xf1 xf2 xlt z0 z1 z2 zf0 zf1 zf2 zlt p0 p1 plt
   clear g0 g1 g2 hK HK HO HZ HS hgr hcur hle hlt hj glt hgb
   generalize (wr.alloc (.cells #[.int .u8 110, vI vK (bdAt y t 0).1, vI vK (bdAt y t 0).2] 43)) = w7 at hK3 ⊢
   generalize wr.heap.size = D at hK3 HN ⊢
   have HK3 : Hid (Blk w [(D, .cells #[.int .u8 110, vI vK (z0z (bdAt y t) 1).1, vI vK (z0z (bdAt y t) 1).2] 43 (0, 0)), (g, .cells cur 43 (0, 0)), (w.heap.size + 1 + 1, .cells #[.int .u8 0, vI vK 0, vI vK 0] 43 (0, 0))] w7) := hK3
   clear hK3
   go_loopw [68] (fun i wr2 => ∃ j : Nat, i = vI vK j ∧ j ≤ m ∧ Hid (Blk w [(D, .cells #[.int .u8 110, vI vK (z0z (bdAt y t) (j + 1)).1, vI vK (z0z (bdAt y t) (j + 1)).2] 43 (0, 0)), (g, .cells cur 43 (0, 0)), (w.heap.size + 1 + 1, .cells #[.int .u8 0, vI vK 0, vI vK 0] 43 (0, 0))] wr2)) (fun i _ => m - (intOf i).toNat)
   case atStart => exact ⟨0, rfl, by omega, HK3.out⟩
   case round =>
    obtain ⟨j, rfl, hj, HK⟩ := hrel
    have hK := HK.out
    clear HK3
    obtain ⟨d0, d1, d2, df0, df1, df2, dlt⟩ := row3 (hK.2 _ mcS); obtain ⟨z0, z1, z2, zf0, zf1, zf2, zlt⟩ := row3 (hK.2 _ (mcO _ (mcO _ mcS))); have glt := hK.lt (mcO _ mcS)
    by_cases hlt : j < m
    ·have hj0 : (0 : Int) ≤ (j : Int) := by omega
     have hj1 : (j : Int) < (m : Int) := by omega
     obtain ⟨u0, u1, u2⟩ := HC.out (j + 1) (by omega)
     have c0 := (cell_of_row _ g ((j + 1) * 3) _ 43 (0, 0) (hK.2 _ (mcO _ mcS))).trans u0
     have c1 := (cell_of_row _ g ((j + 1) * 3 + 1) _ 43 (0, 0) (hK.2 _ (mcO _ mcS))).trans u1
     have c2 := (cell_of_row _ g ((j + 1) * 3 + 2) _ 43 (0, 0) (hK.2 _ (mcO _ mcS))).trans u2
     rw [show (j + 1) * 3 = 3 + j * 3 by omega] at c0 c1 c2
     clear u0 u1 u2
     go_wp2_with (first
      | (go_at_call 10; go_must (refine (z5m _ _ _ _ _).mono ?_; rintro e w8 ⟨rfl, hw8⟩; have hb8 := zE2 hw8; have hK8 := (hK.later ((bF _ _).alloc (Nat.le_refl _) _)).later hb8; clear hw8; clear d0 d1 d2 df0 df1 df2 dlt z0 z1 z2 zf0 zf1 zf2 zlt glt; clear c0 c1 c2; obtain ⟨d0, d1, d2, df0, df1, df2, dlt⟩ := row3 (hK8.2 _ mcS); obtain ⟨z0, z1, z2, zf0, zf1, zf2, zlt⟩ := row3 (hK8.2 _ (mcO _ (mcO _ mcS))); have glt := hK8.lt (mcO _ mcS)))
      | fail)
     go_roundw
     case rel =>
      refine ⟨j + 1, by go_num, by omega, ?_⟩
      rw [z50 _ (show j + 1 ≠ 0 by omega)]
      exact hK8.put12 (by have := HN.out; omega) (by intro z hz; have := HN.out; simp only [List.mem_cons, List.not_mem_nil, or_false] at hz; rcases hz with rfl | rfl <;> (show _ ≠ _; omega))
     case measure => simp [intOf]; omega
    ·obtain rfl : m = j := by omega
     go_wp2_with fail
     have hbw := hK.1
     exact bodyPost_ret (v := .tuple #[.agg #[.int .u8 110, vI vK (z0z (bdAt y t) (m + 1)).1, vI vK (z0z (bdAt y t) (m + 1)).2], vI vK 0]) (by simp [results, Tryz.results20, go_sem, *]) rfl (Or.inr ⟨HZ2.out, rfl, (by repeat' first | with_reducible (first | exact hbw | exact bF _ _ | refine bA ?_ ?_ _ | refine bS ?_ ?_ _ | refine bD ?_) | ((try dsimp only); omega) | (simp; done) | (simp; omega))⟩)
end Go.Proofs.YteenhdoaminkeaaGreatDoor
namespace Go.Proofs.YteenhdoaminkeaaGreatDoor
open Go.ChangeShapes Go.WideShapes Go.ChangeAt Go.RowKit
def furB (x : Kno) (o : Int) : Int × Int := if (z0l x o).2 = 0 then (z0l x o).1 else (-9223372036854775808, 9223372036854775807)
theorem z8l (x : Kno) (o : Int) (hx : x.Ok) (ho : In64 o) (w : World) (hA : z0a w) : Calls Tryz.prog 21 #[x.d, vI vK o] w fun e w' => e = .returned (.tuple #[.agg #[vI vK (furB x o).1, vI vK (furB x o).2], vI vK (z0l x o).2]) ∧ Below w.heap.size w w' := by
 refine (zC5 x o hx ho w hA).mono fun e w' h => ?_
 obtain ⟨b0, b1, h1, h2, h3, h4⟩ := h
 refine ⟨?_, h2⟩
 rw [h1]
 unfold furB
 by_cases c : (z0l x o).2 = 0
 ·rw [if_pos c, ← h3 c]
 ·obtain ⟨rfl, rfl⟩ := h4 c
  rw [if_neg c]
def ldV (y : Way) (x : Kno) (o : Int) : Kno × Int := if (z0l x o).2 ≠ 0 then (kno0, (z0l x o).2) else if x.k = 3 then y.kept (z0l x o).1 else (z15 (-9223372036854775808) 9223372036854775807, 0)
theorem zG2 (y : Way) (d s : Nat) (o : Int) : y.load d s o = if (ldV y (y.reg s) o).2 ≠ 0 then ((ldV y (y.reg s) o).2, y) else (0, y.putReg d (ldV y (y.reg s) o).1) := by
 unfold Way.load ldV
 by_cases c : (z0l (y.reg s) o).2 ≠ 0
 ·rw [if_pos c, if_pos c, if_pos c]
 rw [if_neg c, if_neg c]
 by_cases c2 : (y.reg s).k = 3
 ·rw [if_pos c2, if_pos c2]
 ·rw [if_neg c2, if_neg c2, if_neg (by simp)]
theorem zHl (y : Way) (x : Kno) (o : Int) (hy : y.Ok) (hx : x.Ok) (ho : In64 o) (w : World) (hA : z0a w) : Calls Tryz.prog 20 #[.agg (z04 y), x.d, vI vK o] w fun e w' => e = .returned (.tuple #[(ldV y x o).1.d, vI vK (ldV y x o).2]) ∧ Below w.heap.size w w' := by
 have HF := fun (W : World) (hW : z0a W) => z8l x o hx ho W hW
 have k0 : 0 ≤ x.k := hx.1
 have k5 : x.k ≤ 5 := hx.2.1
 unfold ldV
 by_cases c : (z0l x o).2 ≠ 0
 ·rw [if_pos c]
  exact zHk y (kD x.k) x.l x.h o _ _ _ w hA HF (by simpa using c)
 rw [if_neg c]
 have c' : (z0l x o).2 = 0 := Classical.byContradiction c
 obtain ⟨-, er, r1, r2⟩ := z48 c'
 have eB : furB x o = z3z x o := by unfold furB; rw [if_pos c', er]
 rw [c', eB] at HF
 by_cases c2 : x.k = 3
 ·rw [if_pos c2, er]
  have n3 : (kD x.k != 102) = false := by rw [c2]; rfl
  have eR : z1u x.k = (-16, -1) := by rw [c2]; rfl
  rw [eR] at r1 r2
  have hle := z6t hx ho
  clear eB er c c'
  generalize z3z x o = b at HF r1 r2 hle ⊢
  obtain ⟨wl, wh⟩ := b
  have l1 : -16 ≤ wl := r1
  have l2 : wh ≤ -1 := r2
  have l3 : wl ≤ wh := hle
  obtain ⟨t, et⟩ := Int.eq_ofNat_of_zero_le (show 0 ≤ wl + 16 by omega)
  obtain ⟨m, em⟩ := Int.eq_ofNat_of_zero_le (show 0 ≤ wh - wl by omega)
  have t1 : (wl + 16).toNat = t := by omega
  have m1 : (wh - wl + 1).toNat = m + 1 := by omega
  unfold Way.kept
  dsimp only
  rw [t1, m1]
  by_cases d : wl = wh
  ·have hq : 11 + t < 27 := by omega
   have e1 : IntKind.i64.wrap (27 + wl) = ((11 + t : Nat) : Int) := by rw [IntWalk.i64_left, z0e (by omega) (by omega)]; omega
   have m0 : m = 0 := by omega
   subst m0
   have sk := hy.slot t (by omega)
   by_cases c0 : (y.slot t).k = 0
   ·have hbad : z1f (y.row t (0 + 1)) = 8 := by
     rw [z6m, z3k]
     rw [if_pos (show z1f (y.row t 0) = 0 from rfl), Nat.add_zero]
     unfold z0f
     rw [if_pos c0]
    rw [if_neg (fun z => z.2 c0), hbad, if_pos (by decide)]
    exact zE0 y (kD x.k) x.l x.h o wl wh (11 + t) hq w hA HF n3 e1 d l1 (by omega) (by rw [z77, c0]; rfl)
   ·rw [if_pos ⟨d, c0⟩]
    have n1 : (kD (y.all (11 + t)).k == 0) = false := by rw [z77, kD_0 sk.1 sk.2.1]; simpa using c0
    cases n2 : (kD (y.all (11 + t)).k != 110)
    ·have h := zDy y (kD x.k) x.l x.h o wl wh (11 + t) hq w hA HF n3 e1 d l1 (by omega) n1 n2
     rw [z77] at h
     exact h
    ·have h := zDz y (kD x.k) x.l x.h o wl wh (11 + t) hq w hA HF n3 e1 d l1 (by omega) n1 n2
     rw [z77] at h
     exact h
  ·rw [if_neg (fun z => d z.1)]
   refine (zE1 y (kD x.k) x.l x.h o wl wh t m w hA HF n3 (by simpa using d) ⟨by omega, by omega, by omega, by omega⟩ hy).mono fun e w' h => ?_
   rcases h with ⟨k, hk, hz, hne, rfl, hb⟩ | ⟨hz, rfl, hb⟩
   ·rw [z6g hz hne _ hk, if_pos hne]; exact ⟨rfl, hb⟩
   ·rw [z4h _ hz, if_neg (by simp), z8v]; exact ⟨rfl, hb⟩
 ·rw [if_neg c2]
  have n3 : (kD x.k != 102) = true := by
   rcases kD_six k0 k5 with e | e | e | e | e | e
   all_goals first | exact absurd e c2 | (rw [e]; rfl)
  exact zHm y (kD x.k) x.l x.h o _ _ w hA HF n3
end Go.Proofs.YteenhdoaminkeaaGreatDoor
