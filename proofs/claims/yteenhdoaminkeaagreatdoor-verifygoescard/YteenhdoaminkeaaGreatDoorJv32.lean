/-
 What the document's Verify returns; what errors.As, api.Tell and the statements' own 'is' answer. Conditions: the library's variable errorType holds the handle of the type error.
-/
import Derived.Test.YteenhdoaminkeaaGreatDoorJv25
import Derived.Test.YteenhdoaminkeaaGreatDoorJv31
import Derived.Test.YteenhdoaminkeaaGreatDoorJv16
import Derived.Test.YteenhdoaminkeaaGreatDoorRows
import Derived.WalkKit
import Derived.ProofKit
import Derived.LaidEql
import Derived.Stop.Asserts
import Derived.RowKitTokens
import Derived.Deep.QuietTactic
import Derived.BigQuiet
import Derived.WalkLawsBesides
set_option maxHeartbeats 40000000
open Go.Value renaming int → vI
open Go.IntKind renaming i64 → vK
open Go.RowKit.Below renaming alloc → bA, setCell → bS, drew → bD, refl → bF
set_option maxRecDepth 1000000
set_option linter.defProp false
set_option linter.unusedVariables false
set_option linter.unusedSimpArgs false
namespace Go.Proofs.YteenhdoaminkeaaGreatDoor
open Go.ChangeShapes Go.WideShapes Go.ChangeAt Go.RowKit
attribute [local simp] z00 z0y z0o
set_option linter.unusedVariables false
theorem zFv (la : Option Addr) (ln cap0 : Nat) (w : World) (er i : Int) (he : (er != 0) = true) (HC : Hid (∀ W : World, Below w.heap.size w W → Calls Tryz.prog 7 #[(.slice la ln cap0)] W fun e w' => e = .returned (.agg #[vI vK er, vI vK i]) ∧ Below W.heap.size W w')) :
  Calls Tryz.prog 4 #[(.slice la ln cap0)] w fun e w' => e = .returned (.tuple #[.agg #[vI vK 0, vI vK 0], .agg #[vI vK er, vI vK i]]) ∧ Below w.heap.size w w' := by
 have hK0 : Blk w [(w.heap.size + 1, .cells #[vI vK 0, vI vK 0] 27 (0, 0)), (w.heap.size, .cells #[vI vK 0, vI vK 0] 24 (0, 0))] ((w.alloc (.cells #[vI vK 0, vI vK 0] 24)).alloc (.cells #[vI vK 0, vI vK 0] 27)) :=
  ((Blk.nil (((bF _ _).alloc (Nat.le_refl _) _).alloc (by simp) _)).cons (by rw [Below.heap_alloc _ _ _ (by simp)]; exact heap_alloc_new _ _)).cons (heap_alloc2_new w (.cells #[vI vK 0, vI vK 0] 24) (.cells #[vI vK 0, vI vK 0] 27))
 go_enter Tryz.func4, Tryz.ntmps4
 go_upto_region 1 with fail
 generalize ((w.alloc (.cells #[vI vK 0, vI vK 0] 24)).alloc (.cells #[vI vK 0, vI vK 0] 27)) = w0 at hK0 ⊢
 go_step
 (refine z03 rfl (.slice la ln cap0) w0 (by go_simp; try rfl) ?_); simp only [Act.put, siA, scZ, scS]
 (refine z0m rfl 7 #[(.slice la ln cap0)] (by go_simp; try rfl) (.agg #[vI vK er, vI vK i]) (HC.out w0 hK0.1) ?_)
 intro w1 hb1
 have hK1 := hK0.later hb1
 simp only [Act.put, siA, scZ, scS]
 obtain ⟨r0, r1, rf0, rf1, rlt⟩ := row2 (hK1.2 _ mcS)
 obtain ⟨b0, b1, bf0, bf1, blt⟩ := row2 (hK1.2 _ (mcO _ mcS))
 have hbw := hK1.1
 go_wp2_with fail
 go_region
 go_wp2_with fail
 exact bodyPost_ret (v := .tuple #[.agg #[vI vK 0, vI vK 0], .agg #[vI vK er, vI vK i]]) (by simp [results, Tryz.results4, go_sem, *]) rfl ⟨rfl, (by repeat' first | with_reducible (first | exact hbw | exact bF _ _ | refine bA ?_ ?_ _ | refine bS ?_ ?_ _ | refine bD ?_) | ((try dsimp only); omega) | (simp; done) | (simp; omega))⟩
theorem zLa : z04 ((Way.putAll ⟨fun _ => kno0, fun _ => kno0⟩ 1 ⟨2, 0, 0⟩).putAll 10 ⟨3, 0, 0⟩) = z04 way0 := z6r fun i hi => by
 rw [z5l, z5l]
 unfold Way.all way0
 by_cases h1 : i < 11
 ·rw [if_pos h1, if_pos h1]
  dsimp only
  by_cases h10 : i = 10
  ·rw [if_pos h10, if_neg (by omega), if_pos h10]
  ·rw [if_neg h10]
   by_cases h2 : i = 1
   ·rw [if_pos h2, if_pos h2]
   ·rw [if_neg h2, if_neg h2, if_neg h10]
 ·rw [if_neg h1, if_neg h1, if_neg (by omega), if_neg (by omega)]
theorem zG3 {w w7 w8 : World} {Bl k : Nat} {ob : Obj} (h : w7.heap[k]? = some ob) (hk : Kp Bl (.slice none 0 0) w7 w8) (hne : k ≠ Bl) : w8.heap[k]? = some ob :=
 (hk.2 k (Array.getElem?_eq_some_iff.1 h).1 hne (by simp [Value.ownBlock])).trans h
theorem zG4 {w w7 w8 : World} {Bl : Nat} (h : Below w.heap.size w w7) (hk : Kp Bl (.slice none 0 0) w7 w8) (hB : w.heap.size ≤ Bl) : Below w.heap.size w w8 :=
 h.trans ⟨hk.1.os, hk.1.tape, hk.1.output, hk.1.size, fun k hk' => hk.2 k (Nat.lt_of_lt_of_le hk' h.size) (by omega) (by simp [Value.ownBlock])⟩
def z5d (f : Nat → Int × Int) (k : Nat) : Int × Int := z0z f (max k 1)
theorem zHy (f : Nat → Int × Int) : z5d f 0 = f 0 := z5s f
theorem zHz (f : Nat → Int × Int) (k : Nat) : z5d f (k + 1) = (min (z5d f k).1 (f k).1, max (z5d f k).2 (f k).2) := by
 unfold z5d
 by_cases h : k = 0
 ·subst h
  show z0z f 1 = (min (z0z f 1).1 (f 0).1, max (z0z f 1).2 (f 0).2)
  rw [z5s]
  exact Prod.ext (Int.min_self _).symm (Int.max_self _).symm
 ·rw [show max (k + 1) 1 = k + 1 by omega, show max k 1 = k by omega, z50 f h]
theorem zL5 (f : Nat → Int × Int) {n : Nat} (h : 1 ≤ n) : z5d f n = z0z f n := by
 unfold z5d
 rw [show max n 1 = n by omega]
theorem zLs (la : Option Addr) (ln cap0 : Nat) (w : World) : (∀ (er i : Int) (he : (er != 0) = true) (HC : Hid (∀ W : World, Below w.heap.size w W → Calls Tryz.prog 7 #[(.slice la ln cap0)] W fun e w' => e = .returned (.agg #[vI vK 0, vI vK (-1)]) ∧ Below W.heap.size W w')) (HG : Hid (∀ (W : World) (Bl : Nat), Below w.heap.size w W → w.heap.size < Bl → Bl < W.heap.size → z1j W Bl W.heap.size (.slice la ln cap0) 4000 (.slice none 0 0) [] → Calls Tryz.prog 9 #[.pointer (some ⟨Bl, 0, none⟩), .agg (z04 way0), vI vK 0] W fun e w' => ∃ v, e = .returned v ∧ v = .agg #[vI vK er, vI vK i] ∧ Kp Bl (.slice none 0 0) W w')), Calls Tryz.prog 4 #[(.slice la ln cap0)] w fun e w' => e = .returned (.tuple #[.agg #[vI vK 0, vI vK 0], .agg #[vI vK er, vI vK i]]) ∧ Below w.heap.size w w') ∧ (∀ (es : List Kno) (f : Nat → Int × Int) (n : Nat) (HN : Hid (es.length = n)) (HF : Hid (z53 es = f)) (h1 : 1 ≤ n) (h2 : n ≤ 4000) (HC : Hid (∀ W : World, Below w.heap.size w W → Calls Tryz.prog 7 #[(.slice la ln cap0)] W fun e w' => e = .returned (.agg #[vI vK 0, vI vK (-1)]) ∧ Below W.heap.size W w')) (HG : Hid (∀ (W : World) (Bl : Nat), Below w.heap.size w W → w.heap.size < Bl → Bl < W.heap.size → z1j W Bl W.heap.size (.slice la ln cap0) 4000 (.slice none 0 0) [] → Calls Tryz.prog 9 #[.pointer (some ⟨Bl, 0, none⟩), .agg (z04 way0), vI vK 0] W fun e w' => ∃ v, e = .returned v ∧ ∃ i, v = .agg #[vI vK 0, vI vK i] ∧ Kp Bl (.slice none 0 0) W w' ∧ ∃ E' f', z1j w' Bl W.heap.size (.slice la ln cap0) f' E' es)), Calls Tryz.prog 4 #[(.slice la ln cap0)] w fun e w' => e = .returned (.tuple #[.agg #[vI vK (z5d f n).1, vI vK (z5d f n).2], .agg #[vI vK 0, vI vK (-1)]]) ∧ Below w.heap.size w w') := by
 refine ⟨?_, ?_⟩
 intro er i he HC HG
 rotate_left
 intro es f n HN HF h1 h2 HC HG
 rotate_left
 all_goals
  have hK0 : Blk w [(w.heap.size + 1, .cells #[vI vK 0, vI vK 0] 27 (0, 0)), (w.heap.size, .cells #[vI vK 0, vI vK 0] 24 (0, 0))] ((w.alloc (.cells #[vI vK 0, vI vK 0] 24)).alloc (.cells #[vI vK 0, vI vK 0] 27)) :=
   ((Blk.nil (((bF _ _).alloc (Nat.le_refl _) _).alloc (by simp) _)).cons (by rw [Below.heap_alloc _ _ _ (by simp)]; exact heap_alloc_new _ _)).cons (heap_alloc2_new w (.cells #[vI vK 0, vI vK 0] 24) (.cells #[vI vK 0, vI vK 0] 27))
 all_goals
  go_enter Tryz.func4, Tryz.ntmps4
  go_upto_region 1 with fail
  generalize ((w.alloc (.cells #[vI vK 0, vI vK 0] 24)).alloc (.cells #[vI vK 0, vI vK 0] 27)) = w0 at hK0 ⊢
  go_step
  (refine z03 rfl (.slice la ln cap0) w0 (by go_simp; try rfl) ?_); simp only [Act.put, siA, scZ, scS]
  (refine z0m rfl 7 #[(.slice la ln cap0)] (by go_simp; try rfl) (.agg #[vI vK 0, vI vK (-1)]) (HC.out w0 hK0.1) ?_)
  intro w1 hb1
  have hK1 := hK0.later hb1
  simp only [Act.put, siA, scZ, scS]
  go_upto_region 4 with fail
  have hK2 := hK1.later ((bF _ _).alloc (Nat.le_refl _) (.cells #[vI vK 0, vI vK (-1)] 27))
  generalize w1.alloc (.cells #[vI vK 0, vI vK (-1)] 27) = w2 at hK2 ⊢
  clear hK0 hK1 hb1
  go_upto_region 6 with fail
  have hK3 : Blk w [(w2.heap.size + 1, .cells Tryz.zeroCells45 45 (0, 0)), (w2.heap.size, .cells #[(.slice la ln cap0), vI vK 4000, .slice none 0 0] 41 (0, 0)), (w.heap.size + 1, .cells #[vI vK 0, vI vK 0] 27 (0, 0)), (w.heap.size, .cells #[vI vK 0, vI vK 0] 24 (0, 0))] ((w2.alloc (.cells #[(.slice la ln cap0), vI vK 4000, .slice none 0 0] 41)).alloc (.cells Tryz.zeroCells45 45)) :=
   (((hK2.later ((bF _ _).alloc (Nat.le_refl _) (.cells #[(.slice la ln cap0), vI vK 4000, .slice none 0 0] 41))).cons (heap_alloc_new _ _)).later ((bF _ _).alloc (Nat.le_refl _) (.cells Tryz.zeroCells45 45))).cons (heap_alloc2_new w2 (.cells #[(.slice la ln cap0), vI vK 4000, .slice none 0 0] 41) (.cells Tryz.zeroCells45 45))
  have hw2 : w.heap.size + 1 < w2.heap.size := hK2.lt mcS
  generalize ((w2.alloc (.cells #[(.slice la ln cap0), vI vK 4000, .slice none 0 0] 41)).alloc (.cells Tryz.zeroCells45 45)) = w3 at hK3 ⊢
  generalize w2.heap.size = Bl at hK3 hw2 ⊢
  clear hK2
  rw [zBs] at hK3
  have yM0 : z07 w3 (Bl + 1) ⟨fun _ => kno0, fun _ => kno0⟩ := hK3.2 _ mcS
  go_step
  (refine z0m rfl 8 #[vI vK 0] (by go_simp; try rfl) (.agg #[vI vK 0, vI vK 0]) (z26 0 w3) ?_)
  intro w4 hb4
  have hK4 := hK3.later hb4
  have yM1 := yM0.later hb4
  clear hK3 yM0 hb4
  simp only [Act.put, siA, scZ, scS]
  have n0 := yM1.at 3 (by decide)
  have n1 := yM1.at 4 (by decide)
  have n2 := yM1.at 5 (by decide)
  have nf0 := yM1.frozen 3
  have nf1 := yM1.frozen 4
  have nf2 := yM1.frozen 5
  have nlt := yM1.lt
  go_upto_region 7 with fail
  have yM2 : z07 (((w4.setCell ⟨Bl + 1, 3, none⟩ (.int .u8 116)).setCell ⟨Bl + 1, 4, none⟩ (vI vK 0)).setCell ⟨Bl + 1, 5, none⟩ (vI vK 0)) (Bl + 1) (Way.putAll ⟨fun _ => kno0, fun _ => kno0⟩ 1 ⟨2, 0, 0⟩) := yM1.put3 1 ⟨2, 0, 0⟩
  have hK5 : Blk w [(Bl, .cells #[(.slice la ln cap0), vI vK 4000, .slice none 0 0] 41 (0, 0)), (w.heap.size + 1, .cells #[vI vK 0, vI vK 0] 27 (0, 0)), (w.heap.size, .cells #[vI vK 0, vI vK 0] 24 (0, 0))] (((w4.setCell ⟨Bl + 1, 3, none⟩ (.int .u8 116)).setCell ⟨Bl + 1, 4, none⟩ (vI vK 0)).setCell ⟨Bl + 1, 5, none⟩ (vI vK 0)) :=
   (((Blk.nil (((hK4.1.setCell (by dsimp only; omega) _).setCell (by dsimp only; omega) _).setCell (by dsimp only; omega) _)).cons (off3 (hK4.2 _ (mcO _ (mcO _ (mcO _ mcS)))) (by omega))).cons (off3 (hK4.2 _ (mcO _ (mcO _ mcS))) (by omega))).cons (off3 (hK4.2 _ (mcO _ mcS)) (by omega))
  generalize (((w4.setCell ⟨Bl + 1, 3, none⟩ (.int .u8 116)).setCell ⟨Bl + 1, 4, none⟩ (vI vK 0)).setCell ⟨Bl + 1, 5, none⟩ (vI vK 0)) = w5 at yM2 hK5 ⊢
  clear n0 n1 n2 nf0 nf1 nf2 nlt yM1 hK4
  go_step
  (refine z0m rfl 8 #[vI vK 0] (by go_simp; try rfl) (.agg #[vI vK 0, vI vK 0]) (z26 0 w5) ?_)
  intro w6 hb6
  have hK6 := hK5.later hb6
  have yM3 := yM2.later hb6
  clear hK5 yM2 hb6
  simp only [Act.put, siA, scZ, scS]
  have n0 := yM3.at 30 (by decide)
  have n1 := yM3.at 31 (by decide)
  have n2 := yM3.at 32 (by decide)
  have nf0 := yM3.frozen 30
  have nf1 := yM3.frozen 31
  have nf2 := yM3.frozen 32
  have nlt := yM3.lt
  go_upto_region 8 with fail
  have yM4 : z07 (((w6.setCell ⟨Bl + 1, 30, none⟩ (.int .u8 102)).setCell ⟨Bl + 1, 31, none⟩ (vI vK 0)).setCell ⟨Bl + 1, 32, none⟩ (vI vK 0)) (Bl + 1) ((Way.putAll ⟨fun _ => kno0, fun _ => kno0⟩ 1 ⟨2, 0, 0⟩).putAll 10 ⟨3, 0, 0⟩) := yM3.put3 10 ⟨3, 0, 0⟩
  have hK7 : Blk w [(Bl, .cells #[(.slice la ln cap0), vI vK 4000, .slice none 0 0] 41 (0, 0)), (w.heap.size + 1, .cells #[vI vK 0, vI vK 0] 27 (0, 0)), (w.heap.size, .cells #[vI vK 0, vI vK 0] 24 (0, 0))] (((w6.setCell ⟨Bl + 1, 30, none⟩ (.int .u8 102)).setCell ⟨Bl + 1, 31, none⟩ (vI vK 0)).setCell ⟨Bl + 1, 32, none⟩ (vI vK 0)) :=
   (((Blk.nil (((hK6.1.setCell (by dsimp only; omega) _).setCell (by dsimp only; omega) _).setCell (by dsimp only; omega) _)).cons (off3 (hK6.2 _ (mcO _ (mcO _ mcS))) (by omega))).cons (off3 (hK6.2 _ (mcO _ mcS)) (by omega))).cons (off3 (hK6.2 _ mcS) (by omega))
  generalize (((w6.setCell ⟨Bl + 1, 30, none⟩ (.int .u8 102)).setCell ⟨Bl + 1, 31, none⟩ (vI vK 0)).setCell ⟨Bl + 1, 32, none⟩ (vI vK 0)) = w7 at yM4 hK7 ⊢
  clear n0 n1 n2 nf0 nf1 nf2 nlt yM3 hK6
  have yM : z07 w7 (Bl + 1) way0 := by
   unfold z07 at yM4 ⊢
   rw [zLa] at yM4
   exact yM4
  have hbl : Bl < w7.heap.size := hK7.lt mcS
  have hLK : z1j w7 Bl w7.heap.size (.slice la ln cap0) 4000 (.slice none 0 0) [] := ⟨hK7.2 _ mcS, World.ownsRow_nil w7 _ _ 2, hbl, by decide⟩
  clear yM4
  go_step
  (refine z03 rfl (.pointer (some ⟨Bl, 0, none⟩)) w7 (by go_simp; try rfl) ?_); simp only [Act.put, siA, scZ, scS]
  (refine wpList_load_row rfl 45 (.tmp 6) rfl (Bl + 1) rfl 45 (z04 way0) (0, 0) _ yM Tryz.underlying45 rfl (z1e _) ?_)
  simp only [Act.put, siA, scZ, scS]
  refine z0d rfl 9 #[.pointer (some ⟨Bl, 0, none⟩), .agg (z04 way0), vI vK 0] (by go_simp; try rfl) (HG.out w7 Bl hK7.1 (by omega) hbl hLK) ?_
  intro v8 w8 hq
 ·obtain ⟨rfl, hkp⟩ := hq
  obtain ⟨r0, r1, rf0, rf1, rlt⟩ := row2 (zG3 (w := w) (hK7.2 _ (mcO _ mcS)) hkp (by dsimp only; omega))
  obtain ⟨b0, b1, bf0, bf1, blt⟩ := row2 (zG3 (w := w) (hK7.2 _ (mcO _ (mcO _ mcS))) hkp (by dsimp only; omega))
  have hbw := zG4 hK7.1 hkp (by omega)
  simp only [Act.put, siA, scZ, scS]
  clear hLK yM hbl hK7 hkp
  go_wp2_with fail
  go_region
  go_wp2_with fail
  exact bodyPost_ret (v := .tuple #[.agg #[vI vK 0, vI vK 0], .agg #[vI vK er, vI vK i]]) (by simp [results, Tryz.results4, go_sem, *]) rfl ⟨rfl, (by repeat' first | with_reducible (first | exact hbw | exact bF _ _ | refine bA ?_ ?_ _ | refine bS ?_ ?_ _ | refine bD ?_) | ((try dsimp only); omega) | (simp; done) | (simp; omega))⟩
 ·obtain ⟨i, rfl, hkp, E', f', hL8⟩ := hq
  obtain ⟨g, cap, rfl, hg, hc⟩ : ∃ g cap, E' = .slice (some ⟨g, 0, none⟩) n cap ∧ g < w8.heap.size ∧ ∀ i, i < n → w8.cell? ⟨g, i * 2, none⟩ = some (vI vK (f i).1) ∧ w8.cell? ⟨g, i * 2 + 1, none⟩ = some (vI vK (f i).2) := by
   have en := HN.out
   have ef := HF.out
   subst en
   subst ef
   have ho := hL8.own
   rcases ho.2 with ⟨e1, e2⟩ | ⟨g, cap, cur, e1, e2, e3, e4⟩
   ·omega
   ·refine ⟨g, cap, e1, (Array.getElem?_eq_some_iff.1 e3).1, fun i hi => ?_⟩
    obtain ⟨c1, c2⟩ := z9b es i hi
    have k1 := World.ownsRow.cells ho (g := g) (by rw [e1]; rfl) _ _ c1
    have k2 := World.ownsRow.cells ho (g := g) (by rw [e1]; rfl) _ _ c2
    rw [Addr.add_mid, Nat.zero_add] at k1 k2
    exact ⟨k1, k2⟩
  have hR8 := zG3 (w := w) (hK7.2 _ (mcO _ mcS)) hkp (by dsimp only; omega)
  have hB8 := zG3 (w := w) (hK7.2 _ (mcO _ (mcO _ mcS))) hkp (by dsimp only; omega)
  have hbw := zG4 hK7.1 hkp (by omega)
  have hbox := hL8.box
  have HC8 : Hid (∀ i, i < n → w8.cell? ⟨g, i * 2, none⟩ = some (vI vK (f i).1) ∧ w8.cell? ⟨g, i * 2 + 1, none⟩ = some (vI vK (f i).2)) := hc
  have HR8 : Hid (w8.heap[w.heap.size + 1]? = some (.cells #[vI vK 0, vI vK 0] 27 (0, 0)) ∧ w8.heap[w.heap.size]? = some (.cells #[vI vK 0, vI vK 0] 24 (0, 0))) := ⟨hR8, hB8⟩
  have HBW : Hid (Below w.heap.size w w8) := hbw
  have hO : (n : Int) ≤ 4000 := by omega
  have hO1 : (0 : Int) < (n : Int) := by omega
  clear HN HF hL8 hLK yM hbl hK7 hkp hc hR8 hB8 hbw HC HG
  obtain ⟨l0, l1, l2, lf0, lf1, lf2, llt⟩ := row3 hbox
  obtain ⟨c0, c1⟩ := HC8.out 0 (by omega)
  simp only [Nat.zero_mul, Nat.zero_add] at c0 c1
  simp only [Act.put, siA, scZ, scS]
  have HK0 : Hid (Blk w8 [(w8.heap.size + 1, .cells #[vI vK (f 0).1, vI vK (f 0).2] 24 (0, 0))] ((w8.alloc (.cells #[vI vK 0, vI vK i] 27)).alloc (.cells #[vI vK (f 0).1, vI vK (f 0).2] 24))) :=
   (Blk.nil (((bF _ _).alloc (Nat.le_refl _) _).alloc (by simp) _)).cons (heap_alloc2_new w8 _ _)
  go_wp2_with fail
  clear l0 l1 l2 lf0 lf1 lf2 llt hbox c0 c1
  go_loopw [46] (fun iv wr => ∃ k : Nat, iv = vI vK k ∧ k ≤ n ∧ Hid (Blk w8 [(w8.heap.size + 1, .cells #[vI vK (z5d f k).1, vI vK (z5d f k).2] 24 (0, 0))] wr)) (fun iv _ => n - (intOf iv).toNat)
  case atStart => exact ⟨0, rfl, by omega, by rw [zHy]; exact HK0.out⟩
  case round =>
   obtain ⟨k, rfl, hk, H⟩ := hrel
   have hK := H.out
   clear HK0 H
   have hk0 : (0 : Int) ≤ (k : Int) := by omega
   obtain ⟨a0, a1, af0, af1, alt⟩ := row2 (hK.2 _ mcS)
   by_cases hlt : k < n
   ·have hlt' : (k : Int) < (n : Int) := by omega
    have c0 := (hK.1.cell (p := ⟨g, k * 2, none⟩) hg).trans (HC8.out k hlt).1
    have c1 := (hK.1.cell (p := ⟨g, k * 2 + 1, none⟩) hg).trans (HC8.out k hlt).2
    have hg2 := Nat.lt_of_lt_of_le hg hK.1.size
    go_wp2_with (first
     | (go_at_call 10; go_must (refine (z2s _ _ _ _ _).mono ?_; rintro e w2 ⟨rfl, hb2⟩; have hK2 := Blk.later (hK.later ((bF _ _).alloc (Nat.le_refl _) _)) hb2; clear a0 a1 af0 af1 alt; obtain ⟨a0, a1, af0, af1, alt⟩ := row2 (hK2.2 _ mcS)))
     | fail)
    go_roundw
    case rel => exact ⟨k + 1, by go_num, by omega, by rw [zHz]; exact (Blk.nil ((hK2.1.setCell (by show _ ≤ w8.heap.size + 1; omega) _).setCell (by show _ ≤ w8.heap.size + 1; omega) _)).cons (put2 (hK2.2 _ mcS))⟩
    case measure => simp [intOf]; omega
   ·obtain rfl : k = n := by omega
    obtain ⟨g1, g2⟩ := HR8.out
    have hg1 := (hK.1.block _ (Array.getElem?_eq_some_iff.1 g1).1).trans g1
    have hg2 := (hK.1.block _ (Array.getElem?_eq_some_iff.1 g2).1).trans g2
    have hbw := HBW.out.trans (hK.1.mono HBW.out.size)
    obtain ⟨r0, r1, rf0, rf1, rlt⟩ := row2 hg1
    obtain ⟨b0, b1, bf0, bf1, blt⟩ := row2 hg2
    have hF9 : Blk w [(w.heap.size + 1, .cells #[vI vK 0, vI vK 0] 27 (0, 0)), (w.heap.size, .cells #[vI vK 0, vI vK 0] 24 (0, 0)), (w8.heap.size + 1, .cells #[vI vK (z5d f k).1, vI vK (z5d f k).2] 24 (0, 0))] wr := (((Blk.nil hbw).cons (hK.2 _ mcS)).cons hg2).cons hg1
    clear r0 r1 rf0 rf1 rlt b0 b1 bf0 bf1 blt a0 a1 af0 af1 alt hg1 hg2 hK
    go_wp2_with fail
    refine z0n (C := Blk w [(w.heap.size + 1, .cells #[vI vK 0, vI vK 0] 27 (0, 0)), (w.heap.size, .cells #[vI vK 0, vI vK 0] 24 (0, 0)), (w8.heap.size + 1, .cells #[vI vK (z5d f k).1, vI vK (z5d f k).2] 24 (0, 0))]) (n0 := w.heap.size) 2 [] [] (by kernel_rfl) (by kernel_rfl) (fun d _ _ _ _ h => by cases d <;> exact h) (Blk.stable _ _) (fun w2 h => h.1.size) hF9.drew trivial ?_
    simp only [List.take_succ_cons, List.take_zero, List.drop_succ_cons, List.drop_zero, List.length_nil, Nat.reduceAdd]
    repeat (first
     | (refine z0k (by rfl) ?_; simp only [Act.put, siA, scZ, scS])
     | (refine z0b (by rfl) (v := ?_) ?_ ?_; rotate_left; (intro w2 hC; obtain ⟨r0, r1, rf0, rf1, rlt⟩ := row2 (hC.2 _ mcS); obtain ⟨b0, b1, bf0, bf1, blt⟩ := row2 (hC.2 _ (mcO _ mcS)); obtain ⟨a0, a1, af0, af1, alt⟩ := row2 (hC.2 _ (mcO _ (mcO _ mcS))); go_simp; try with_reducible rfl); simp only [Act.put, siA, scZ, scS])
     | (refine z0p (by rfl) ?_; apply Exists.intro; refine ⟨fun w2 hC => ?_, ?_⟩; (obtain ⟨r0, r1, rf0, rf1, rlt⟩ := row2 (hC.2 _ mcS); obtain ⟨b0, b1, bf0, bf1, blt⟩ := row2 (hC.2 _ (mcO _ mcS)); obtain ⟨a0, a1, af0, af1, alt⟩ := row2 (hC.2 _ (mcO _ (mcO _ mcS))); go_simp; apply z0v; first | (go_at_call 11; exact zKz 0 w2)); simp only [Act.put, siA, scZ, scS]))
    refine z0t ?_
    intro w9 hC hB
    obtain ⟨r0, r1, rf0, rf1, rlt⟩ := row2 (hC.2 _ mcS); obtain ⟨b0, b1, bf0, bf1, blt⟩ := row2 (hC.2 _ (mcO _ mcS)); obtain ⟨a0, a1, af0, af1, alt⟩ := row2 (hC.2 _ (mcO _ (mcO _ mcS)))
    have hbw9 := hC.1
    go_wp2_with fail
    exact bodyPost_ret (v := .tuple #[.agg #[vI vK (z5d f k).1, vI vK (z5d f k).2], .agg #[vI vK 0, vI vK (-1)]]) (by simp [results, Tryz.results4, go_sem, *]) rfl ⟨rfl, (by repeat' first | with_reducible (first | exact hbw9 | exact bF _ _ | refine bA ?_ ?_ _ | refine bS ?_ ?_ _ | refine bD ?_) | ((try dsimp only); omega) | (simp; done) | (simp; omega))⟩
def zNe := fun la ln cap0 w => (@zLs la ln cap0 w).1
def zNd := fun la ln cap0 w => (@zLs la ln cap0 w).2
theorem zJm (la : Option Addr) (ln cap0 : Nat) (w : World) (es : List Kno) (h1 : 1 ≤ es.length) (h2 : es.length ≤ 4000) (HC : Hid (∀ W : World, Below w.heap.size w W → Calls Tryz.prog 7 #[(.slice la ln cap0)] W fun e w' => e = .returned (.agg #[vI vK 0, vI vK (-1)]) ∧ Below W.heap.size W w')) (HG : Hid (∀ (W : World) (Bl : Nat), Below w.heap.size w W → w.heap.size < Bl → Bl < W.heap.size → z1j W Bl W.heap.size (.slice la ln cap0) 4000 (.slice none 0 0) [] → Calls Tryz.prog 9 #[.pointer (some ⟨Bl, 0, none⟩), .agg (z04 way0), vI vK 0] W fun e w' => ∃ v, e = .returned v ∧ ∃ i, v = .agg #[vI vK 0, vI vK i] ∧ Kp Bl (.slice none 0 0) W w' ∧ ∃ E' f', z1j w' Bl W.heap.size (.slice la ln cap0) f' E' es)) :
  Calls Tryz.prog 4 #[(.slice la ln cap0)] w fun e w' => e = .returned (.tuple #[.agg #[vI vK (z0z (z53 es) es.length).1, vI vK (z0z (z53 es) es.length).2], .agg #[vI vK 0, vI vK (-1)]]) ∧ Below w.heap.size w w' := by
 rw [← zL5 (z53 es) h1]
 exact zNd la ln cap0 w es (z53 es) es.length rfl rfl h1 h2 HC HG
end Go.Proofs.YteenhdoaminkeaaGreatDoor
namespace Go.Proofs.YteenhdoaminkeaaGreatDoor
open Go.RowKit Go.Extern.Stop Go.Stop Go.Extern
theorem zFr (t : Addr) (w : World) : (ReflectliteValue.unpack (.iface 102 (.pointer (some t)))).run Tryz.prog w
  = .ok (.agg #[.pointer (some ⟨2, 102, none⟩), .pointer (some ⟨w.heap.size, 0, none⟩), .int .u64 150]) (w.alloc (.cells #[.pointer (some t)] 102)) := by kernel_rfl
theorem zFs (x : Int) (w : World) : (ReflectliteValue.unpack (.iface 25 (vI vK x))).run Tryz.prog w
  = .ok (.agg #[.pointer (some ⟨2, 25, none⟩), .pointer (some ⟨w.heap.size, 0, none⟩), .int .u64 130]) (w.alloc (.cells #[vI vK x] 25)) := by kernel_rfl
theorem mkE (p : Addr) (w : World) : (ReflectliteValue.mk 25 p ReflectliteValue.flagAddr).run Tryz.prog w = .ok (.agg #[.pointer (some ⟨2, 25, none⟩), .pointer (some p), .int .u64 386]) w := by kernel_rfl
theorem typeP (a : Addr) (w : World) : (ReflectliteValue.methodAny (ReflectliteValue.valueError "reflectlite.Value.Type" 0) (fun t _ _ _ => ReflectliteType.toType t) #[.agg #[.pointer (some ⟨2, 102, none⟩), .pointer (some a), .int .u64 150]]).run Tryz.prog w
  = .ok (.iface 143 (.agg #[.pointer (some ⟨2, 102, none⟩)])) w := by kernel_rfl
theorem kindP (w : World) : ((ReflectliteType.abiMethod fun t => (fun a : Nat => Value.int IntKind.u8 (a : Int)) <$> Rtype.kind t) #[.pointer (some ⟨2, 102, none⟩)]).run Tryz.prog w = .ok (.int .u8 22) w := by kernel_rfl
theorem kindE (w : World) : ((ReflectliteType.abiMethod fun t => (fun a : Nat => Value.int IntKind.u8 (a : Int)) <$> Rtype.kind t) #[.pointer (some ⟨2, 25, none⟩)]).run Tryz.prog w = .ok (.int .u8 2) w := by kernel_rfl
theorem elemP (w : World) : (ReflectliteType.method ReflectliteType.elem #[.agg #[.pointer (some ⟨2, 102, none⟩)]]).run Tryz.prog w = .ok (.iface 143 (.agg #[.pointer (some ⟨2, 25, none⟩)])) w := by kernel_rfl
theorem implE (w : World) : (ReflectliteType.relation "Implements" ReflectliteType.implements_ #[.agg #[.pointer (some ⟨2, 25, none⟩)], .iface 143 (.agg #[.pointer (some ⟨2, 32, none⟩)])]).run Tryz.prog w = .ok (.bool true) w := by kernel_rfl
theorem zJb (v : Value) (w : World) : (ReflectliteType.typeOf #[.iface 25 v]).run Tryz.prog w = .ok (.iface 143 (.agg #[.pointer (some ⟨2, 25, none⟩)])) w := by kernel_rfl
theorem zJc (v : Value) (w : World) : (ReflectliteType.typeOf #[.iface 69 v]).run Tryz.prog w = .ok (.iface 143 (.agg #[.pointer (some ⟨2, 69, none⟩)])) w := by kernel_rfl
theorem assE (w : World) : (ReflectliteType.relation "AssignableTo" ReflectliteType.assignableTo #[.agg #[.pointer (some ⟨2, 25, none⟩)], .iface 143 (.agg #[.pointer (some ⟨2, 25, none⟩)])]).run Tryz.prog w = .ok (.bool true) w := by kernel_rfl
theorem assA (w : World) : (ReflectliteType.relation "AssignableTo" ReflectliteType.assignableTo #[.agg #[.pointer (some ⟨2, 69, none⟩)], .iface 143 (.agg #[.pointer (some ⟨2, 25, none⟩)])]).run Tryz.prog w = .ok (.bool false) w := by kernel_rfl
theorem zQl (a : Addr) (w : World) : (ReflectliteValue.parts (.agg #[.pointer (some ⟨2, 102, none⟩), .pointer (some a), .int .u64 150])).run Tryz.prog w = .ok (some (102, a, 150)) w := by kernel_rfl
theorem partsE (a : Addr) (w : World) : (ReflectliteValue.parts (.agg #[.pointer (some ⟨2, 25, none⟩), .pointer (some a), .int .u64 130])).run Tryz.prog w = .ok (some (25, a, 130)) w := by kernel_rfl
theorem zSv (a : Addr) (w : World) : (ReflectliteValue.parts (.agg #[.pointer (some ⟨2, 25, none⟩), .pointer (some a), .int .u64 386])).run Tryz.prog w = .ok (some (25, a, 386)) w := by kernel_rfl
theorem zTm (w : World) : (Rtype.directlyAssignable 25 25).run Tryz.prog w = .ok true w := by kernel_rfl
theorem zTg (w : World) : (Rtype.elem? 102).run Tryz.prog w = .ok (some 25) w := by kernel_rfl

theorem zC2 (z : Sem Value) (f : TypeId → Addr → Nat → Nat → Sem Value) (v : Value) :
  ReflectliteValue.method z f #[v] = (do match ← ReflectliteValue.parts v with | none => z | some (t, a, fl) => f t a fl (fl % 32)) := rfl
theorem zQp (a p : Addr) (W : World) (ha : W.cell? a = some (.pointer (some p))) :
  (ReflectliteValue.method (ReflectliteValue.valueError "reflectlite.Value.IsNil" 0) ReflectliteValue.isNil #[.agg #[.pointer (some ⟨2, 102, none⟩), .pointer (some a), .int .u64 150]]).run Tryz.prog W = .ok (.bool false) W := by
 rw [zC2]
 simp only [Sem.run_bind, zQl, Result.andThen]
 simp [ReflectliteValue.isNil, loadVar, isAgg, underlying, Tryz.underlying102, ha, Result.andThen]
theorem zQx (a p : Addr) (W : World) (ha : W.cell? a = some (.pointer (some p))) :
  (ReflectliteValue.method (ReflectliteValue.valueError "reflectlite.Value.Elem" 0) ReflectliteValue.elem #[.agg #[.pointer (some ⟨2, 102, none⟩), .pointer (some a), .int .u64 150]]).run Tryz.prog W
   = .ok (.agg #[.pointer (some ⟨2, 25, none⟩), .pointer (some p), .int .u64 386]) W := by
 rw [zC2]
 simp only [Sem.run_bind, zQl, Result.andThen]
 simp [ReflectliteValue.elem, loadVar, isAgg, underlying, Tryz.underlying102, ha, Result.andThen, zTg, mkE]
theorem zNa {v x : Value} (h1 : (v x : Value) → Sem Value) (h2 : (x : Array Value) → Sem Value) : ReflectliteValue.set.match_3 (fun _ => Sem Value) #[v, x] h1 h2 = h1 v x := rfl
theorem setE (ta b : Addr) (x : Int) (old : Value) (W : World) (hb : W.cell? b = some (vI vK x)) (ht : W.cell? ta = some old) (hf : W.frozen? ta = false) :
  (ReflectliteValue.set #[.agg #[.pointer (some ⟨2, 25, none⟩), .pointer (some ta), .int .u64 386], .agg #[.pointer (some ⟨2, 25, none⟩), .pointer (some b), .int .u64 130]]).run Tryz.prog W
   = .ok (.tuple #[]) (W.setCell ta (vI vK x)) := by
 delta ReflectliteValue.set
 dsimp only
 rw [zNa]
 simp only [Sem.run_bind, zSv, partsE, Result.andThen]
 simp [ReflectliteValue.flagAddr, loadVar, isAgg, underlying, Tryz.underlying25, hb, Result.andThen, zTm, storeVar, Value.cells, storeCells, Addr.add]
 rw [run_store Tryz.prog W ta _ _ (by rfl)]
 simp [ht, hf]

theorem mKind (h : Value) (w : World) : (Go.method 303 143 (.agg #[h]) "Kind").run Tryz.prog w = .ok ((117, h) : FuncId × Value) w := by kernel_rfl
theorem mElem (h : Value) (w : World) : (Go.method 303 143 (.agg #[h]) "Elem").run Tryz.prog w = .ok ((129, .agg #[h]) : FuncId × Value) w := by kernel_rfl
theorem mImpl (h : Value) (w : World) : (Go.method 303 143 (.agg #[h]) "Implements").run Tryz.prog w = .ok ((130, .agg #[h]) : FuncId × Value) w := by kernel_rfl
theorem mAss (h : Value) (w : World) : (Go.method 303 143 (.agg #[h]) "AssignableTo").run Tryz.prog w = .ok ((127, .agg #[h]) : FuncId × Value) w := by kernel_rfl
theorem noAsA (v : Value) (k : TypeId) (w : World) : (Instr.typeAssert (.iface 69 v) k 148 true).run Tryz.prog w = .ok (.tuple #[.nilIface, .bool false]) w := run_typeAssert_lacksB Tryz.underlying148 (by kernel_rfl) (by kernel_rfl) v k w
theorem zR6 (v : Value) (k : TypeId) (w : World) : (Instr.typeAssert (.iface 69 v) k 84 true).run Tryz.prog w = .ok (.tuple #[.iface 69 v, .bool true]) w := run_typeAssert_hasB Tryz.underlying84 (by kernel_rfl) v k w
theorem zL7 (v : Value) (k : TypeId) (w : World) : (Instr.typeAssert (.iface 25 v) k 84 true).run Tryz.prog w = .ok (.tuple #[.nilIface, .bool false]) w := run_typeAssert_lacksB Tryz.underlying84 (by kernel_rfl) (by kernel_rfl) v k w
theorem zT5 (a : Addr) (w : World) : (Go.method 303 69 (.pointer (some a)) "Unwrap").run Tryz.prog w = .ok ((122, .pointer (some a)) : FuncId × Value) w := by kernel_rfl
theorem zQd (x : Int) (t : Addr) (old : Value) (w : World) (hg : w.cell? ⟨1, 0, none⟩ = some (.iface 143 (.agg #[.pointer (some ⟨2, 32, none⟩)]))) (ht0 : w.cell? t = some old) (hf0 : w.frozen? t = false) :
  Calls Tryz.prog 48 #[.iface 25 (vI vK x), .iface 102 (.pointer (some t))] w fun ev w' => ev = .returned (.bool true) ∧ w' = ((((w.alloc (.cells #[.pointer (some t)] 102)).alloc (.cells #[.pointer (some ⟨2, 102, none⟩), .pointer (some ⟨w.heap.size, 0, none⟩), .int .u64 150] 127)).alloc (.cells #[.pointer (some ⟨2, 102, none⟩), .pointer (some ⟨w.heap.size, 0, none⟩), .int .u64 150] 127)).alloc (.cells #[vI vK x] 25)).setCell t (vI vK x) := by
 have x0 := @run_callFunc_extern Tryz.prog 66 _ (fun args => ReflectliteValue.unpack (args.getD 0 (.tuple #[]))) Tryz.func66 (by kernel_rfl) (by kernel_rfl) (by kernel_rfl) (by kernel_rfl)
 have x1 := @run_callFunc_extern Tryz.prog 67 _ (ReflectliteValue.methodAny (ReflectliteValue.valueError "reflectlite.Value.Type" 0) (fun t _ _ _ => ReflectliteType.toType t)) Tryz.func67 (by kernel_rfl) (by kernel_rfl) (by kernel_rfl) (by kernel_rfl)
 have x2 := @run_callFunc_extern Tryz.prog 68 _ (ReflectliteValue.method (ReflectliteValue.valueError "reflectlite.Value.IsNil" 0) ReflectliteValue.isNil) Tryz.func68 (by kernel_rfl) (by kernel_rfl) (by kernel_rfl) (by kernel_rfl)
 have x3 := @run_callFunc_extern Tryz.prog 117 _ (ReflectliteType.abiMethod fun t => do pure (.int .u8 (← Rtype.kind t))) Tryz.func117 (by kernel_rfl) (by kernel_rfl) (by kernel_rfl) (by kernel_rfl)
 have x4 := @run_callFunc_extern Tryz.prog 129 _ (ReflectliteType.method ReflectliteType.elem) Tryz.func129 (by kernel_rfl) (by kernel_rfl) (by kernel_rfl) (by kernel_rfl)
 have x5 := @run_callFunc_extern Tryz.prog 130 _ (ReflectliteType.relation "Implements" ReflectliteType.implements_) Tryz.func130 (by kernel_rfl) (by kernel_rfl) (by kernel_rfl) (by kernel_rfl)
 have x6 := @run_callFunc_extern Tryz.prog 76 _ ReflectliteType.typeOf Tryz.func76 (by kernel_rfl) (by kernel_rfl) (by kernel_rfl) (by kernel_rfl)
 have x7 := @run_callFunc_extern Tryz.prog 127 _ (ReflectliteType.relation "AssignableTo" ReflectliteType.assignableTo) Tryz.func127 (by kernel_rfl) (by kernel_rfl) (by kernel_rfl) (by kernel_rfl)
 have x8 := @run_callFunc_extern Tryz.prog 77 _ (ReflectliteValue.method (ReflectliteValue.valueError "reflectlite.Value.Elem" 0) ReflectliteValue.elem) Tryz.func77 (by kernel_rfl) (by kernel_rfl) (by kernel_rfl) (by kernel_rfl)
 have x9 := @run_callFunc_extern Tryz.prog 78 _ ReflectliteValue.set Tryz.func78 (by kernel_rfl) (by kernel_rfl) (by kernel_rfl) (by kernel_rfl)
 have q0 := zFr
 have q1 := typeP
 have q2 := kindP
 have q3 := kindE
 have q4 := elemP
 have q5 := implE
 have q6 := zJb
 have q7 := zJc
 have q8 := assE
 have q9 := assA
 have q10 := zFs
 have q11 := mKind
 have q12 := mElem
 have q13 := mImpl
 have q14 := mAss
 have n8 := zQp ⟨w.heap.size, 0, none⟩ t ((w.alloc (.cells #[.pointer (some t)] 102)).alloc (.cells #[.pointer (some ⟨2, 102, none⟩), .pointer (some ⟨w.heap.size, 0, none⟩), .int .u64 150] 127)) (by simp)
 have hlt : 1 < w.heap.size := by
  rcases Nat.lt_or_ge 1 w.heap.size with h | h
  ·exact h
  ·simp [World.cell?, Array.getElem?_eq_none h] at hg
 have hg2 : ((w.alloc (.cells #[.pointer (some t)] 102)).alloc (.cells #[.pointer (some ⟨2, 102, none⟩), .pointer (some ⟨w.heap.size, 0, none⟩), .int .u64 150] 127)).cell? ⟨1, 0, none⟩ = some (.iface 143 (.agg #[.pointer (some ⟨2, 32, none⟩)])) := by
  rw [World.cell?_alloc_lt _ _ ⟨1, 0, none⟩ (by simp; omega), World.cell?_alloc_lt _ _ ⟨1, 0, none⟩ hlt]; exact hg
 have htl : t.block < w.heap.size := by
  rcases Nat.lt_or_ge t.block w.heap.size with h | h
  ·exact h
  ·simp [World.cell?, Array.getElem?_eq_none h] at ht0
 have el := zQx ⟨w.heap.size, 0, none⟩ t (((w.alloc (.cells #[.pointer (some t)] 102)).alloc (.cells #[.pointer (some ⟨2, 102, none⟩), .pointer (some ⟨w.heap.size, 0, none⟩), .int .u64 150] 127)).alloc (.cells #[.pointer (some ⟨2, 102, none⟩), .pointer (some ⟨w.heap.size, 0, none⟩), .int .u64 150] 127)) (by rw [World.cell?_alloc_lt _ _ ⟨w.heap.size, 0, none⟩ (by simp; omega), World.cell?_alloc_lt _ _ ⟨w.heap.size, 0, none⟩ (by simp), World.cell?_alloc_at _ _ _ _ (by simp)]; rfl)
 have st := setE t ⟨w.heap.size + 1 + 1 + 1, 0, none⟩ x old ((((w.alloc (.cells #[.pointer (some t)] 102)).alloc (.cells #[.pointer (some ⟨2, 102, none⟩), .pointer (some ⟨w.heap.size, 0, none⟩), .int .u64 150] 127)).alloc (.cells #[.pointer (some ⟨2, 102, none⟩), .pointer (some ⟨w.heap.size, 0, none⟩), .int .u64 150] 127)).alloc (.cells #[vI vK x] 25))
  (by rw [World.cell?_alloc_at _ _ _ _ (by simp)]; rfl)
  (by rw [World.cell?_alloc_lt _ _ t (by simp; omega), World.cell?_alloc_lt _ _ t (by simp; omega), World.cell?_alloc_lt _ _ t (by simp; omega), World.cell?_alloc_lt _ _ t htl]; exact ht0)
  (by rw [World.frozen?_alloc_old _ _ t (by simp; omega), World.frozen?_alloc_old _ _ t (by simp; omega), World.frozen?_alloc_old _ _ t (by simp; omega), World.frozen?_alloc_old _ _ t (Nat.ne_of_lt htl)]; exact hf0)
 go_enter Tryz.func48, Tryz.ntmps48
 go_wp2
 refine wp_loop_rounds 1 ?_
 rw [rounds_succ]
 go_wp2
 go_ret
 exact ⟨rfl, rfl⟩
theorem as_at (x : Int) (p t : Addr) (old : Value) (w : World) (hp : w.cell? p = some (vI vK x)) (hg : w.cell? ⟨1, 0, none⟩ = some (.iface 143 (.agg #[.pointer (some ⟨2, 32, none⟩)]))) (ht0 : w.cell? t = some old) (hf0 : w.frozen? t = false) :
  Calls Tryz.prog 48 #[.iface 69 (.pointer (some p)), .iface 102 (.pointer (some t))] w fun ev w' => ev = .returned (.bool true) ∧ w' = ((((w.alloc (.cells #[.pointer (some t)] 102)).alloc (.cells #[.pointer (some ⟨2, 102, none⟩), .pointer (some ⟨w.heap.size, 0, none⟩), .int .u64 150] 127)).alloc (.cells #[.pointer (some ⟨2, 102, none⟩), .pointer (some ⟨w.heap.size, 0, none⟩), .int .u64 150] 127)).alloc (.cells #[vI vK x] 25)).setCell t (vI vK x) := by
 have x0 := @run_callFunc_extern Tryz.prog 66 _ (fun args => ReflectliteValue.unpack (args.getD 0 (.tuple #[]))) Tryz.func66 (by kernel_rfl) (by kernel_rfl) (by kernel_rfl) (by kernel_rfl)
 have x1 := @run_callFunc_extern Tryz.prog 67 _ (ReflectliteValue.methodAny (ReflectliteValue.valueError "reflectlite.Value.Type" 0) (fun t _ _ _ => ReflectliteType.toType t)) Tryz.func67 (by kernel_rfl) (by kernel_rfl) (by kernel_rfl) (by kernel_rfl)
 have x2 := @run_callFunc_extern Tryz.prog 68 _ (ReflectliteValue.method (ReflectliteValue.valueError "reflectlite.Value.IsNil" 0) ReflectliteValue.isNil) Tryz.func68 (by kernel_rfl) (by kernel_rfl) (by kernel_rfl) (by kernel_rfl)
 have x3 := @run_callFunc_extern Tryz.prog 117 _ (ReflectliteType.abiMethod fun t => do pure (.int .u8 (← Rtype.kind t))) Tryz.func117 (by kernel_rfl) (by kernel_rfl) (by kernel_rfl) (by kernel_rfl)
 have x4 := @run_callFunc_extern Tryz.prog 129 _ (ReflectliteType.method ReflectliteType.elem) Tryz.func129 (by kernel_rfl) (by kernel_rfl) (by kernel_rfl) (by kernel_rfl)
 have x5 := @run_callFunc_extern Tryz.prog 130 _ (ReflectliteType.relation "Implements" ReflectliteType.implements_) Tryz.func130 (by kernel_rfl) (by kernel_rfl) (by kernel_rfl) (by kernel_rfl)
 have x6 := @run_callFunc_extern Tryz.prog 76 _ ReflectliteType.typeOf Tryz.func76 (by kernel_rfl) (by kernel_rfl) (by kernel_rfl) (by kernel_rfl)
 have x7 := @run_callFunc_extern Tryz.prog 127 _ (ReflectliteType.relation "AssignableTo" ReflectliteType.assignableTo) Tryz.func127 (by kernel_rfl) (by kernel_rfl) (by kernel_rfl) (by kernel_rfl)
 have x8 := @run_callFunc_extern Tryz.prog 77 _ (ReflectliteValue.method (ReflectliteValue.valueError "reflectlite.Value.Elem" 0) ReflectliteValue.elem) Tryz.func77 (by kernel_rfl) (by kernel_rfl) (by kernel_rfl) (by kernel_rfl)
 have x9 := @run_callFunc_extern Tryz.prog 78 _ ReflectliteValue.set Tryz.func78 (by kernel_rfl) (by kernel_rfl) (by kernel_rfl) (by kernel_rfl)
 have q0 := zFr
 have q1 := typeP
 have q2 := kindP
 have q3 := kindE
 have q4 := elemP
 have q5 := implE
 have q6 := zJb
 have q7 := zJc
 have q8 := assE
 have q9 := assA
 have q10 := zFs
 have q11 := mKind
 have q12 := mElem
 have q13 := mImpl
 have q14 := mAss
 have n8 := zQp ⟨w.heap.size, 0, none⟩ t ((w.alloc (.cells #[.pointer (some t)] 102)).alloc (.cells #[.pointer (some ⟨2, 102, none⟩), .pointer (some ⟨w.heap.size, 0, none⟩), .int .u64 150] 127)) (by simp)
 have hlt : 1 < w.heap.size := by
  rcases Nat.lt_or_ge 1 w.heap.size with h | h
  ·exact h
  ·simp [World.cell?, Array.getElem?_eq_none h] at hg
 have hg2 : ((w.alloc (.cells #[.pointer (some t)] 102)).alloc (.cells #[.pointer (some ⟨2, 102, none⟩), .pointer (some ⟨w.heap.size, 0, none⟩), .int .u64 150] 127)).cell? ⟨1, 0, none⟩ = some (.iface 143 (.agg #[.pointer (some ⟨2, 32, none⟩)])) := by
  rw [World.cell?_alloc_lt _ _ ⟨1, 0, none⟩ (by simp; omega), World.cell?_alloc_lt _ _ ⟨1, 0, none⟩ hlt]; exact hg
 have htl : t.block < w.heap.size := by
  rcases Nat.lt_or_ge t.block w.heap.size with h | h
  ·exact h
  ·simp [World.cell?, Array.getElem?_eq_none h] at ht0
 have el := zQx ⟨w.heap.size, 0, none⟩ t (((w.alloc (.cells #[.pointer (some t)] 102)).alloc (.cells #[.pointer (some ⟨2, 102, none⟩), .pointer (some ⟨w.heap.size, 0, none⟩), .int .u64 150] 127)).alloc (.cells #[.pointer (some ⟨2, 102, none⟩), .pointer (some ⟨w.heap.size, 0, none⟩), .int .u64 150] 127)) (by rw [World.cell?_alloc_lt _ _ ⟨w.heap.size, 0, none⟩ (by simp; omega), World.cell?_alloc_lt _ _ ⟨w.heap.size, 0, none⟩ (by simp), World.cell?_alloc_at _ _ _ _ (by simp)]; rfl)
 have st := setE t ⟨w.heap.size + 1 + 1 + 1, 0, none⟩ x old ((((w.alloc (.cells #[.pointer (some t)] 102)).alloc (.cells #[.pointer (some ⟨2, 102, none⟩), .pointer (some ⟨w.heap.size, 0, none⟩), .int .u64 150] 127)).alloc (.cells #[.pointer (some ⟨2, 102, none⟩), .pointer (some ⟨w.heap.size, 0, none⟩), .int .u64 150] 127)).alloc (.cells #[vI vK x] 25))
  (by rw [World.cell?_alloc_at _ _ _ _ (by simp)]; rfl)
  (by rw [World.cell?_alloc_lt _ _ t (by simp; omega), World.cell?_alloc_lt _ _ t (by simp; omega), World.cell?_alloc_lt _ _ t (by simp; omega), World.cell?_alloc_lt _ _ t htl]; exact ht0)
  (by rw [World.frozen?_alloc_old _ _ t (by simp; omega), World.frozen?_alloc_old _ _ t (by simp; omega), World.frozen?_alloc_old _ _ t (by simp; omega), World.frozen?_alloc_old _ _ t (Nat.ne_of_lt htl)]; exact hf0)
 have c1 := noAsA
 have c2 := zR6
 have c3 := zT5
 have hpl : p.block < w.heap.size := by
  rcases Nat.lt_or_ge p.block w.heap.size with h | h
  ·exact h
  ·simp [World.cell?, Array.getElem?_eq_none h] at hp
 have hp3 : (((w.alloc (.cells #[.pointer (some t)] 102)).alloc (.cells #[.pointer (some ⟨2, 102, none⟩), .pointer (some ⟨w.heap.size, 0, none⟩), .int .u64 150] 127)).alloc (.cells #[.pointer (some ⟨2, 102, none⟩), .pointer (some ⟨w.heap.size, 0, none⟩), .int .u64 150] 127)).cell? p = some (vI vK x) := by
  rw [World.cell?_alloc_lt _ _ p (by simp; omega), World.cell?_alloc_lt _ _ p (by simp; omega), World.cell?_alloc_lt _ _ p hpl]; exact hp
 go_enter Tryz.func48, Tryz.ntmps48
 go_wp2
 refine wp_loop_rounds 2 ?_
 rw [rounds_succ]
 go_wp2
 rw [rounds_succ]
 go_wp2
 go_ret
 exact ⟨rfl, rfl⟩

def z23 (w : World) : Prop := w.cell? ⟨1, 0, none⟩ = some (.iface 143 (.agg #[.pointer (some ⟨2, 32, none⟩)]))
theorem z23.pos {w : World} (h : z23 w) : 1 < w.heap.size := by
 rcases Nat.lt_or_ge 1 w.heap.size with g | g
 ·exact g
 ·simp [z23, World.cell?, Array.getElem?_eq_none g] at h
theorem z23.later {w w' : World} (h : z23 w) (hb : Below w.heap.size w w') : z23 w' := (hb.cell (p := ⟨1, 0, none⟩) h.pos).trans h
theorem z23.alloc {w : World} (h : z23 w) (o : Obj) : z23 (w.alloc o) := h.later ((bF _ _).alloc (Nat.le_refl _) _)

theorem z9w {W w1 : World} (hb : Below W.heap.size W w1) : (∀ b o, b < W.heap.size → w1.cell? ⟨b, o, none⟩ = W.cell? ⟨b, o, none⟩) ∧ (∀ b o, b < W.heap.size → w1.frozen? ⟨b, o, none⟩ = W.frozen? ⟨b, o, none⟩) :=
 ⟨fun b o h => hb.cell (p := ⟨b, o, none⟩) h, fun b o h => hb.frozen (p := ⟨b, o, none⟩) h⟩
theorem zNb (w : World) : Calls Tryz.prog 28 #[.nilIface] w fun e w' => e = .returned (vI vK 0) ∧ w' = w := by
 go_enter Tryz.func28, Tryz.ntmps28
 go_wp2
 go_ret
 exact ⟨rfl, rfl⟩
theorem z6l {w : World} {x : Int} {o1 o2 o3 o4 : Obj} : (((((w.alloc (.cells #[vI vK 0] 25)).alloc o1).alloc o2).alloc o3).alloc o4 |>.setCell ⟨w.heap.size, 0, none⟩ (vI vK x)).cell? ⟨w.heap.size, 0, none⟩ = some (vI vK x) ∧
  Below w.heap.size w (((((w.alloc (.cells #[vI vK 0] 25)).alloc o1).alloc o2).alloc o3).alloc o4 |>.setCell ⟨w.heap.size, 0, none⟩ (vI vK x)) := by
 constructor
 ·apply World.cell?_setCell_same (u := vI vK 0)
  have h := ((((bF (w.alloc (.cells #[vI vK 0] 25)).heap.size (w.alloc (.cells #[vI vK 0] 25))).alloc (Nat.le_refl _) o1).alloc (by simp) o2).alloc (by simp <;> omega) o3).alloc (by simp <;> omega) o4
  rw [h.cell (p := ⟨w.heap.size, 0, none⟩) (by simp)]
  simp
 ·exact ((((((bF _ _).alloc (Nat.le_refl _) _).alloc (by simp) _).alloc (by simp; omega) _).alloc (by simp; omega) _).alloc (by simp; omega) _).setCell (Nat.le_refl _) _
theorem zHg (x : Int) (w : World) (hg : z23 w) : Calls Tryz.prog 28 #[.iface 25 (vI vK x)] w fun e w' => e = .returned (vI vK x) ∧ Below w.heap.size w w' := by
 have hg1 := hg.alloc (.cells #[vI vK 0] 25)
 go_enter Tryz.func28, Tryz.ntmps28
 go_wp2_with (go_at_call 48; refine (zQd x ⟨w.heap.size, 0, none⟩ (vI vK 0) _ hg1 (by simp) (by simp)).mono ?_; rintro e w1 ⟨rfl, hw1⟩; obtain ⟨t1, t2⟩ := z6l (w := w) (x := x); rw [← hw1] at t1 t2; clear hw1)
 go_ret
 exact ⟨rfl, t2⟩
theorem zR7 (x : Int) (p : Addr) (w : World) (hg : z23 w) (hp : w.cell? p = some (vI vK x)) (hpl : p.block < w.heap.size) : Calls Tryz.prog 28 #[.iface 69 (.pointer (some p))] w fun e w' => e = .returned (vI vK x) ∧ Below w.heap.size w w' := by
 have hg1 := hg.alloc (.cells #[vI vK 0] 25)
 have hp1 : (w.alloc (.cells #[vI vK 0] 25)).cell? p = some (vI vK x) := (((bF _ _).alloc (Nat.le_refl _) _).cell hpl).trans hp
 go_enter Tryz.func28, Tryz.ntmps28
 go_wp2_with (go_at_call 48; refine (as_at x p ⟨w.heap.size, 0, none⟩ (vI vK 0) _ hp1 hg1 (by simp) (by simp)).mono ?_; rintro e w1 ⟨rfl, hw1⟩; obtain ⟨t1, t2⟩ := z6l (w := w) (x := x); rw [← hw1] at t1 t2; clear hw1)
 go_ret
 exact ⟨rfl, t2⟩

theorem isAtE (v : Value) (w : World) : (Instr.typeAssert (.iface 25 v) 32 69 true).run Tryz.prog w = .ok (.tuple #[.pointer none, .bool false]) w := by kernel_rfl
theorem isAtA (v : Value) (w : World) : (Instr.typeAssert (.iface 69 v) 32 69 true).run Tryz.prog w = .ok (.tuple #[v, .bool true]) w := by kernel_rfl
theorem zL3 (w : World) : Calls Tryz.prog 15 #[.nilIface] w fun e w' => e = .returned (.tuple #[vI vK 0, vI vK (-1)]) ∧ w' = w := by
 go_enter Tryz.func15, Tryz.ntmps15
 go_wp2_with (go_at_call 28; refine (zNb _).mono ?_; rintro e w1 ⟨rfl, rfl⟩)
 refine wp_loop_rounds 1 ?_
 rw [rounds_succ]
 go_wp2
 go_ret2
 exact ⟨rfl, rfl⟩
theorem zEj (x : Int) (w : World) (hg : z23 w) : Calls Tryz.prog 15 #[.iface 25 (vI vK x)] w fun e w' => e = .returned (.tuple #[vI vK x, vI vK (-1)]) ∧ Below w.heap.size w w' := by
 have c1 := zL7
 have c2 := isAtE
 go_enter Tryz.func15, Tryz.ntmps15
 go_wp2_with (go_at_call 28; refine (zHg x _ hg).mono ?_; rintro e w1 ⟨rfl, hb1⟩)
 refine wp_loop_rounds 1 ?_
 rw [rounds_succ]
 go_wp2
 go_ret2
 exact ⟨rfl, hb1⟩
theorem zP1 (x y : Int) (p : Nat) (w : World) (hg : z23 w) (hp : w.cell? ⟨p, 0, none⟩ = some (vI vK x)) (hq : w.cell? ⟨p, 1, none⟩ = some (vI vK y)) (hpl : p < w.heap.size) :
  Calls Tryz.prog 15 #[.iface 69 (.pointer (some ⟨p, 0, none⟩))] w fun e w' => e = .returned (.tuple #[vI vK x, vI vK y]) ∧ Below w.heap.size w w' := by
 have c2 := isAtA
 go_enter Tryz.func15, Tryz.ntmps15
 go_wp2_with (go_at_call 28; refine (zR7 x ⟨p, 0, none⟩ _ hg hp hpl).mono ?_; rintro e w1 ⟨rfl, hb1⟩)
 have hq1 : w1.cell? ⟨p, 1, none⟩ = some (vI vK y) := (hb1.cell (p := ⟨p, 1, none⟩) hpl).trans hq
 refine wp_loop_rounds 1 ?_
 rw [rounds_succ]
 go_wp2
 go_quiet (fail)
 go_wp2
 go_ret2
 exact ⟨rfl, below_drewN hb1 _⟩
theorem is_nil (w : World) : Calls Tryz.prog 6 #[.nilIface, .agg #[vI vK 0, vI vK (-1)]] w fun e w' => e = .returned (.bool true) ∧ Below w.heap.size w w' := by
 go_enter Tryz.func6, Tryz.ntmps6
 go_wp2_with (go_at_call 15; refine (zL3 _).mono ?_; rintro e w1 ⟨rfl, rfl⟩)
 go_ret
 exact ⟨rfl, (bF _ _).alloc (Nat.le_refl _) _⟩
theorem zPi (x : Int) (w : World) (hg : z23 w) : Calls Tryz.prog 6 #[.iface 25 (vI vK x), .agg #[vI vK x, vI vK (-1)]] w fun e w' => e = .returned (.bool true) ∧ Below w.heap.size w w' := by
 have hg1 := hg.alloc (.cells #[vI vK x, vI vK (-1)] 27)
 go_enter Tryz.func6, Tryz.ntmps6
 go_wp2_with (go_at_call 15; refine (zEj x _ hg1).mono ?_; rintro e w1 ⟨rfl, hb1⟩; obtain ⟨hcl, hfr⟩ := z9w hb1)
 go_ret
 exact ⟨rfl, ((bF _ _).alloc (Nat.le_refl _) _).trans (hb1.mono (by simp))⟩
theorem is_at (x y : Int) (p : Nat) (w : World) (hg : z23 w) (hp : w.cell? ⟨p, 0, none⟩ = some (vI vK x)) (hq : w.cell? ⟨p, 1, none⟩ = some (vI vK y)) (hpl : p < w.heap.size) :
  Calls Tryz.prog 6 #[.iface 69 (.pointer (some ⟨p, 0, none⟩)), .agg #[vI vK x, vI vK y]] w fun e w' => e = .returned (.bool true) ∧ Below w.heap.size w w' := by
 have hg1 := hg.alloc (.cells #[vI vK x, vI vK y] 27)
 have hbl : Below w.heap.size w (w.alloc (.cells #[vI vK x, vI vK y] 27)) := (bF _ _).alloc (Nat.le_refl _) _
 have hp1 := (hbl.cell (p := ⟨p, 0, none⟩) hpl).trans hp
 have hq1 := (hbl.cell (p := ⟨p, 1, none⟩) hpl).trans hq
 go_enter Tryz.func6, Tryz.ntmps6
 go_wp2_with (go_at_call 15; refine (zP1 x y p _ hg1 hp1 hq1 (by simp; omega)).mono ?_; rintro e w1 ⟨rfl, hb1⟩; obtain ⟨hcl, hfr⟩ := z9w hb1)
 go_ret
 exact ⟨rfl, ((bF _ _).alloc (Nat.le_refl _) _).trans (hb1.mono (by simp))⟩
end Go.Proofs.YteenhdoaminkeaaGreatDoor
