/-
 What package verify's look returns: which ways lead on from a step. Conditions: the way is right; the step is right. Ways that wait, one behind the other in a row, the last one first; the ends of ways; what comes of all ways. Conditions: the steps are right. The document's look, as it lies in memory, and what a call that goes ways leaves as it was. No conditions. A region that draws its order, walked by hand: one operation at a time, its slot named. No program is named here. No conditions.
-/
import Derived.Test.YteenhdoaminkeaaGreatDoorJv23
import Derived.Test.YteenhdoaminkeaaGreatDoorJv17
import Derived.Deep.MidRow
import Derived.Maps.AppendAt
import Derived.Test.YteenhdoaminkeaaGreatDoorJv19
import Derived.Deep.RegionHeld3
import Derived.Laws.Tables
import Derived.Laws.Rows
set_option maxHeartbeats 40000000
open Go.Value renaming int → vI
open Go.IntKind renaming i64 → vK
open Go.RowKit.Below renaming alloc → bA, setCell → bS, drew → bD, refl → bF
set_option maxRecDepth 1000000
set_option linter.defProp false
set_option linter.unusedVariables false
set_option linter.unusedSimpArgs false
namespace Go.Proofs.YteenhdoaminkeaaGreatDoor
open Go.ChangeShapes Go.WideShapes Go.ChangeAt Go.RowKit
attribute [local simp] z00 z0y z0o
set_option linter.unusedVariables false
theorem zIy (d s : Nat) (c o n p : Int) (r : Bool) (y : Way) (l : List (Int × Way)) (E : Int) (HL : Hid (∀ W : World, Calls Tryz.prog 41 #[.agg (z06 p y), .agg #[vI vK c, vI vK d, vI vK s, .bool r, vI vK o, vI vK n]] W fun e w' => ∃ v, e = .returned (.tuple #[v, vI vK E]) ∧ z0g w' W.heap.size v l ∧ Below W.heap.size W w')) (HQ : Hid ((decide (15 ≤ c) && decide (c ≤ 24)) = true)) (w : World) :
  Calls Tryz.prog 26 #[.agg (z06 p y), .agg #[vI vK c, vI vK d, vI vK s, .bool r, vI vK o, vI vK n]] w fun e w' => ∃ v, e = .returned (.tuple #[v, vI vK E]) ∧ z0g w' w.heap.size v l ∧ Below w.heap.size w w' := by
 have hK0 : Blk w [(w.heap.size, .cells (z06 p y) 76 (0, 0)), (w.heap.size + 1, .cells #[vI vK c, vI vK d, vI vK s, .bool r, vI vK o, vI vK n] 59 (0, 0))] _ := ((Blk.nil (((bF _ _).alloc (Nat.le_refl _) _).alloc (by simp) _)).cons (heap_alloc2_new w (.cells (z06 p y) 76) (.cells #[vI vK c, vI vK d, vI vK s, .bool r, vI vK o, vI vK n] 59))).cons ((z05.start w p y).alloc (.cells #[vI vK c, vI vK d, vI vK s, .bool r, vI vK o, vI vK n] 59))
 go_enter Tryz.func26, Tryz.ntmps26
 go_upto_region 1 with fail
 generalize ((w.alloc (.cells (z06 p y) 76)).alloc (.cells #[vI vK c, vI vK d, vI vK s, .bool r, vI vK o, vI vK n] 59)) = w1 at hK0 ⊢
 have yW : z05 _ w.heap.size _ _ := (hK0.2 _ mcS); have ylt := yW.lt; obtain ⟨p0, p1, p2, p3, p4, p5, ltS⟩ := row6 (hK0.2 _ (mcO _ mcS))
 go_upto_region 4 with (first | (go_at_call 40; refine (z57 c _).mono ?_; rintro e w1 ⟨rfl, rfl⟩; rw [HQ.out]) | fail)
 go_step
 (refine wpList_load_row rfl 76 (.tmp 2) rfl w.heap.size rfl 76 (z06 p y) (0, 0) _ yW Tryz.underlying76 rfl (z0q _ _) ?_)
 simp only [Act.put, siA, scZ, scS]
 (refine z03 rfl (.agg #[vI vK c, vI vK d, vI vK s, .bool r, vI vK o, vI vK n]) w1 (by go_simp; try rfl) ?_); simp only [Act.put, siA, scZ, scS]
 refine z0d rfl 41 #[.agg (z06 p y), .agg #[vI vK c, vI vK d, vI vK s, .bool r, vI vK o, vI vK n]] (by go_simp; try rfl) (R := fun x w' => ∃ v, x = .tuple #[v, vI vK E] ∧ z0g w' w1.heap.size v l ∧ Below w1.heap.size w1 w') ((HL.out w1).mono fun e w' h => by obtain ⟨v, h1, h2⟩ := h; exact ⟨_, h1, v, rfl, h2⟩) ?_
 intro v5 w5 hq
 obtain ⟨v, rfl, hA5, hB5⟩ := hq
 have hK5 := hK0.later hB5
 have hs5 := hK0.1.size
 simp only [Act.put, siA, scZ, scS]
 clear yW ylt p0 p1 p2 p3 p4 p5 ltS
 clear hK0
 go_wp2_with fail
 exact bodyPost_ret (v := .tuple #[v, vI vK E]) (by simp [results, Tryz.results26, go_sem]) rfl ⟨_, rfl, hA5.mono hs5, hK5.1⟩
theorem zH2 (d s : Nat) (c o n p : Int) (r : Bool) (y : Way) (hp0 : 0 ≤ p) (hp1 : p ≤ 1000) (ho0 : 0 ≤ o) (ho1 : o ≤ 1000) (HQ : Hid ((decide (15 ≤ c) && decide (c ≤ 24)) = false)) (x14 : (c == 14) = true) (w : World) :
  Calls Tryz.prog 26 #[.agg (z06 p y), .agg #[vI vK c, vI vK d, vI vK s, .bool r, vI vK o, vI vK n]] w fun e w' => ∃ v, e = .returned (.tuple #[v, vI vK 0]) ∧ z0g w' w.heap.size v [((p + (1 + o)), y)] ∧ Below w.heap.size w w' := by
 have hK0 : Blk w [(w.heap.size, .cells (z06 p y) 76 (0, 0)), (w.heap.size + 1, .cells #[vI vK c, vI vK d, vI vK s, .bool r, vI vK o, vI vK n] 59 (0, 0))] _ := ((Blk.nil (((bF _ _).alloc (Nat.le_refl _) _).alloc (by simp) _)).cons (heap_alloc2_new w (.cells (z06 p y) 76) (.cells #[vI vK c, vI vK d, vI vK s, .bool r, vI vK o, vI vK n] 59))).cons ((z05.start w p y).alloc (.cells #[vI vK c, vI vK d, vI vK s, .bool r, vI vK o, vI vK n] 59))
 go_enter Tryz.func26, Tryz.ntmps26
 go_upto_region 1 with fail
 generalize ((w.alloc (.cells (z06 p y) 76)).alloc (.cells #[vI vK c, vI vK d, vI vK s, .bool r, vI vK o, vI vK n] 59)) = w1 at hK0 ⊢
 have yW : z05 _ w.heap.size _ _ := (hK0.2 _ mcS); have ylt := yW.lt; obtain ⟨p0, p1, p2, p3, p4, p5, ltS⟩ := row6 (hK0.2 _ (mcO _ mcS))
 go_upto_region 6 with (first | (go_at_call 40; refine (z57 c _).mono ?_; rintro e w1 ⟨rfl, rfl⟩; rw [HQ.out]) | fail)
 go_step
 (refine wpList_load_row rfl 76 (.tmp 2) rfl w.heap.size rfl 76 (z06 p y) (0, 0) _ yW Tryz.underlying76 rfl (z0q _ _) ?_)
 simp only [Act.put, siA, scZ, scS]
 (refine z03 rfl (.pointer (some ⟨w.heap.size + 1, 4, none⟩)) w1 (by go_simp; try rfl) ?_); simp only [Act.put, siA, scZ, scS]
 (refine z03 rfl (vI vK o) w1 (by go_simp; try rfl) ?_); simp only [Act.put, siA, scZ, scS]
 (refine z0m rfl 42 #[.agg (z06 p y), vI vK o] (by go_simp; try rfl) (.agg (z06 (p + (1 + o)) y)) (zCk p o y hp0 hp1 ho0 ho1 w1) ?_)
 intro w5 hB5
 have hK5 := hK0.later hB5
 simp only [Act.put, siA, scZ, scS]
 refine z1l rfl (.tmp 25) (p + (1 + o)) y rfl rfl ?_
 simp only [Act.put, siA, scZ, scS]
 clear yW ylt p0 p1 p2 p3 p4 p5 ltS
 have hbE := hK5.1
 have hm := z0g.made w5 w.heap.size [((p + (1 + o)), y)] hbE.size (by unfold maxLen; simp)
 go_wp2_with fail
 exact bodyPost_ret (v := .tuple #[_, vI vK 0]) (by simp [results, Tryz.results26, go_sem]) rfl ⟨_, rfl, hm, hbE.alloc hbE.size _⟩
theorem zH3 (d s : Nat) (c o n p : Int) (r : Bool) (y : Way)  (HQ : Hid ((decide (15 ≤ c) && decide (c ≤ 24)) = false)) (x14 : (c == 14) = false) (x28 : (c == 28) = true) (w : World) :
  Calls Tryz.prog 26 #[.agg (z06 p y), .agg #[vI vK c, vI vK d, vI vK s, .bool r, vI vK o, vI vK n]] w fun e w' => e = .returned (.tuple #[.slice none 0 0, vI vK (z0f (y.reg 0))]) ∧ Below w.heap.size w w' := by
 have hK0 : Blk w [(w.heap.size, .cells (z06 p y) 76 (0, 0)), (w.heap.size + 1, .cells #[vI vK c, vI vK d, vI vK s, .bool r, vI vK o, vI vK n] 59 (0, 0))] _ := ((Blk.nil (((bF _ _).alloc (Nat.le_refl _) _).alloc (by simp) _)).cons (heap_alloc2_new w (.cells (z06 p y) 76) (.cells #[vI vK c, vI vK d, vI vK s, .bool r, vI vK o, vI vK n] 59))).cons ((z05.start w p y).alloc (.cells #[vI vK c, vI vK d, vI vK s, .bool r, vI vK o, vI vK n] 59))
 go_enter Tryz.func26, Tryz.ntmps26
 go_upto_region 1 with fail
 generalize ((w.alloc (.cells (z06 p y) 76)).alloc (.cells #[vI vK c, vI vK d, vI vK s, .bool r, vI vK o, vI vK n] 59)) = w1 at hK0 ⊢
 have yW : z05 _ w.heap.size _ _ := (hK0.2 _ mcS); have ylt := yW.lt; obtain ⟨p0, p1, p2, p3, p4, p5, ltS⟩ := row6 (hK0.2 _ (mcO _ mcS))
 go_upto_region 8 with (first | (go_at_call 40; refine (z57 c _).mono ?_; rintro e w1 ⟨rfl, rfl⟩; rw [HQ.out]) | fail)
 go_step
 obtain ⟨i0, i1, i2⟩ := yW.reg (d := 0) (by decide)
 (refine z03 rfl (.pointer (some ⟨w.heap.size, 1, none⟩)) w1 (by go_simp; try rfl) ?_); simp only [Act.put, siA, scZ, scS]
 (refine z03 rfl (.pointer (some ⟨w.heap.size, 1 + 0 * 3, none⟩)) w1 (by go_simp; try rfl) ?_); simp only [Act.put, siA, scZ, scS]
 (refine z03 rfl (.agg #[vI vK (y.reg 0).k, vI vK (y.reg 0).l, vI vK (y.reg 0).h]) w1 (by go_simp; try rfl) ?_); simp only [Act.put, siA, scZ, scS]
 (refine z0m rfl 43 #[.agg #[vI vK (y.reg 0).k, vI vK (y.reg 0).l, vI vK (y.reg 0).h]] (by go_simp; try rfl) (vI vK (z0f (y.reg 0))) (z3f _ _ _ w1) ?_)
 intro w5 hB5
 have hK5 := hK0.later hB5
 simp only [Act.put, siA, scZ, scS]
 clear yW ylt p0 p1 p2 p3 p4 p5 ltS i0 i1 i2
 go_wp2_with fail
 exact bodyPost_ret (v := .tuple #[.slice none 0 0, vI vK (z0f (y.reg 0))]) (by simp [results, Tryz.results26, go_sem]) rfl ⟨rfl, hK5.1⟩
theorem zA5 (d s : Nat) (c o n p : Int) (r : Bool) (y : Way) (hp0 : 0 ≤ p) (hp1 : p ≤ 1000) (E : Int) (y1 : Way) (HM : Hid (∀ (W : World) (B : Nat), z05 W B p y → Calls Tryz.prog 44 #[.pointer (some ⟨B, 0, none⟩), .agg #[vI vK c, vI vK d, vI vK s, .bool r, vI vK o, vI vK n]] W fun e w' => e = .returned (vI vK E) ∧ Kept B W w' ∧ z05 w' B p y1)) : (∀ (xE : (E != 0) = true) (HQ : Hid ((decide (15 ≤ c) && decide (c ≤ 24)) = false)) (x14 : (c == 14) = false) (x28 : (c == 28) = false) (x25 : (c == 25) = true) (w : World), Calls Tryz.prog 26 #[.agg (z06 p y), .agg #[vI vK c, vI vK d, vI vK s, .bool r, vI vK o, vI vK n]] w fun e w' => e = .returned (.tuple #[.slice none 0 0, vI vK E]) ∧ Below w.heap.size w w') ∧ (∀ (xE : (E != 0) = false) (HQ : Hid ((decide (15 ≤ c) && decide (c ≤ 24)) = false)) (x14 : (c == 14) = false) (x28 : (c == 28) = false) (x25 : (c == 25) = true) (w : World), Calls Tryz.prog 26 #[.agg (z06 p y), .agg #[vI vK c, vI vK d, vI vK s, .bool r, vI vK o, vI vK n]] w fun e w' => ∃ v, e = .returned (.tuple #[v, vI vK 0]) ∧ z0g w' w.heap.size v [((p + 1), y1)] ∧ Below w.heap.size w w') := by
 refine ⟨?_, ?_⟩
 all_goals
  intro xE HQ x14 x28 x25 w
  have hK0 : Blk w [(w.heap.size, .cells (z06 p y) 76 (0, 0)), (w.heap.size + 1, .cells #[vI vK c, vI vK d, vI vK s, .bool r, vI vK o, vI vK n] 59 (0, 0))] _ := ((Blk.nil (((bF _ _).alloc (Nat.le_refl _) _).alloc (by simp) _)).cons (heap_alloc2_new w (.cells (z06 p y) 76) (.cells #[vI vK c, vI vK d, vI vK s, .bool r, vI vK o, vI vK n] 59))).cons ((z05.start w p y).alloc (.cells #[vI vK c, vI vK d, vI vK s, .bool r, vI vK o, vI vK n] 59))
 all_goals
  go_enter Tryz.func26, Tryz.ntmps26
  go_upto_region 1 with fail
  generalize ((w.alloc (.cells (z06 p y) 76)).alloc (.cells #[vI vK c, vI vK d, vI vK s, .bool r, vI vK o, vI vK n] 59)) = w1 at hK0 ⊢
  have yW : z05 _ w.heap.size _ _ := (hK0.2 _ mcS); have ylt := yW.lt; obtain ⟨p0, p1, p2, p3, p4, p5, ltS⟩ := row6 (hK0.2 _ (mcO _ mcS))
  go_upto_region 10 with (first | (go_at_call 40; refine (z57 c _).mono ?_; rintro e w1 ⟨rfl, rfl⟩; rw [HQ.out]) | fail)
  go_step
  (refine z03 rfl (.agg #[vI vK c, vI vK d, vI vK s, .bool r, vI vK o, vI vK n]) w1 (by go_simp; try rfl) ?_); simp only [Act.put, siA, scZ, scS]
  (refine z0m rfl 44 #[.pointer (some ⟨w.heap.size, 0, none⟩), .agg #[vI vK c, vI vK d, vI vK s, .bool r, vI vK o, vI vK n]] (by go_simp; try rfl) (vI vK E) (HM.out w1 w.heap.size yW) ?_)
  intro w5 hq
  obtain ⟨hk5, hW5⟩ := hq
  have hK5 := (Blk.more (F' := []) hK0 (by simp)).grown (b := w.heap.size) hk5 (fun k e => Nat.le_of_eq (Option.some.inj e)) (Nat.le_refl _) (by simp)
  clear yW ylt p0 p1 p2 p3 p4 p5 ltS
  clear hk5 hK0
  simp only [Act.put, siA, scZ, scS]
 ·go_wp2_with fail
  exact bodyPost_ret (v := .tuple #[.slice none 0 0, vI vK E]) (by simp [results, Tryz.results26, go_sem]) rfl ⟨rfl, hK5.1⟩
 ·go_upto_region 17 with fail
  go_step
  (refine wpList_load_row rfl 76 (.tmp 2) rfl w.heap.size rfl 76 (z06 p y1) (0, 0) _ hW5 Tryz.underlying76 rfl (z0q _ _) ?_)
  simp only [Act.put, siA, scZ, scS]
  (refine z0m rfl 42 #[.agg (z06 p y1), vI vK 0] (by go_simp; try rfl) (.agg (z06 (p + 1) y1)) (z7e p y1 hp0 hp1 w5) ?_)
  intro w6 hB6
  have hK6 := hK5.later hB6
  simp only [Act.put, siA, scZ, scS]
  refine z1l rfl (.tmp 58) (p + 1) y1 rfl rfl ?_
  simp only [Act.put, siA, scZ, scS]
  have hbE := hK6.1
  have hm := z0g.made w6 w.heap.size [((p + 1), y1)] hbE.size (by unfold maxLen; simp)
  go_wp2_with fail
  exact bodyPost_ret (v := .tuple #[_, vI vK 0]) (by simp [results, Tryz.results26, go_sem]) rfl ⟨_, rfl, hm, hbE.alloc hbE.size _⟩
def zAe := fun d s c o n p r y hp0 hp1 E y1 HM => (@zA5 d s c o n p r y hp0 hp1 E y1 HM).1
def zH1 := fun d s c o n p r y hp0 hp1 E y1 HM => (@zA5 d s c o n p r y hp0 hp1 E y1 HM).2
theorem zA4 (d s : Nat) (c o n p : Int) (r : Bool) (y : Way) (hp0 : 0 ≤ p) (hp1 : p ≤ 1000) (E : Int) (y1 : Way) (HM : Hid (∀ (W : World) (B : Nat), z05 W B p y → Calls Tryz.prog 45 #[.pointer (some ⟨B, 0, none⟩), .agg #[vI vK c, vI vK d, vI vK s, .bool r, vI vK o, vI vK n]] W fun e w' => e = .returned (vI vK E) ∧ Kept B W w' ∧ z05 w' B p y1)) : (∀ (xE : (E != 0) = true) (HQ : Hid ((decide (15 ≤ c) && decide (c ≤ 24)) = false)) (x14 : (c == 14) = false) (x28 : (c == 28) = false) (x25 : (c == 25) = false) (x26 : (c == 26) = true) (w : World), Calls Tryz.prog 26 #[.agg (z06 p y), .agg #[vI vK c, vI vK d, vI vK s, .bool r, vI vK o, vI vK n]] w fun e w' => e = .returned (.tuple #[.slice none 0 0, vI vK E]) ∧ Below w.heap.size w w') ∧ (∀ (xE : (E != 0) = false) (HQ : Hid ((decide (15 ≤ c) && decide (c ≤ 24)) = false)) (x14 : (c == 14) = false) (x28 : (c == 28) = false) (x25 : (c == 25) = false) (x26 : (c == 26) = true) (w : World), Calls Tryz.prog 26 #[.agg (z06 p y), .agg #[vI vK c, vI vK d, vI vK s, .bool r, vI vK o, vI vK n]] w fun e w' => ∃ v, e = .returned (.tuple #[v, vI vK 0]) ∧ z0g w' w.heap.size v [((p + 1), y1)] ∧ Below w.heap.size w w') := by
 refine ⟨?_, ?_⟩
 all_goals
  intro xE HQ x14 x28 x25 x26 w
  have hK0 : Blk w [(w.heap.size, .cells (z06 p y) 76 (0, 0)), (w.heap.size + 1, .cells #[vI vK c, vI vK d, vI vK s, .bool r, vI vK o, vI vK n] 59 (0, 0))] _ := ((Blk.nil (((bF _ _).alloc (Nat.le_refl _) _).alloc (by simp) _)).cons (heap_alloc2_new w (.cells (z06 p y) 76) (.cells #[vI vK c, vI vK d, vI vK s, .bool r, vI vK o, vI vK n] 59))).cons ((z05.start w p y).alloc (.cells #[vI vK c, vI vK d, vI vK s, .bool r, vI vK o, vI vK n] 59))
 all_goals
  go_enter Tryz.func26, Tryz.ntmps26
  go_upto_region 1 with fail
  generalize ((w.alloc (.cells (z06 p y) 76)).alloc (.cells #[vI vK c, vI vK d, vI vK s, .bool r, vI vK o, vI vK n] 59)) = w1 at hK0 ⊢
  have yW : z05 _ w.heap.size _ _ := (hK0.2 _ mcS); have ylt := yW.lt; obtain ⟨p0, p1, p2, p3, p4, p5, ltS⟩ := row6 (hK0.2 _ (mcO _ mcS))
  go_upto_region 12 with (first | (go_at_call 40; refine (z57 c _).mono ?_; rintro e w1 ⟨rfl, rfl⟩; rw [HQ.out]) | fail)
  go_step
  (refine z03 rfl (.agg #[vI vK c, vI vK d, vI vK s, .bool r, vI vK o, vI vK n]) w1 (by go_simp; try rfl) ?_); simp only [Act.put, siA, scZ, scS]
  (refine z0m rfl 45 #[.pointer (some ⟨w.heap.size, 0, none⟩), .agg #[vI vK c, vI vK d, vI vK s, .bool r, vI vK o, vI vK n]] (by go_simp; try rfl) (vI vK E) (HM.out w1 w.heap.size yW) ?_)
  intro w5 hq
  obtain ⟨hk5, hW5⟩ := hq
  have hK5 := (Blk.more (F' := []) hK0 (by simp)).grown (b := w.heap.size) hk5 (fun k e => Nat.le_of_eq (Option.some.inj e)) (Nat.le_refl _) (by simp)
  clear yW ylt p0 p1 p2 p3 p4 p5 ltS
  clear hk5 hK0
  simp only [Act.put, siA, scZ, scS]
 ·go_wp2_with fail
  exact bodyPost_ret (v := .tuple #[.slice none 0 0, vI vK E]) (by simp [results, Tryz.results26, go_sem]) rfl ⟨rfl, hK5.1⟩
 ·go_upto_region 17 with fail
  go_step
  (refine wpList_load_row rfl 76 (.tmp 2) rfl w.heap.size rfl 76 (z06 p y1) (0, 0) _ hW5 Tryz.underlying76 rfl (z0q _ _) ?_)
  simp only [Act.put, siA, scZ, scS]
  (refine z0m rfl 42 #[.agg (z06 p y1), vI vK 0] (by go_simp; try rfl) (.agg (z06 (p + 1) y1)) (z7e p y1 hp0 hp1 w5) ?_)
  intro w6 hB6
  have hK6 := hK5.later hB6
  simp only [Act.put, siA, scZ, scS]
  refine z1l rfl (.tmp 58) (p + 1) y1 rfl rfl ?_
  simp only [Act.put, siA, scZ, scS]
  have hbE := hK6.1
  have hm := z0g.made w6 w.heap.size [((p + 1), y1)] hbE.size (by unfold maxLen; simp)
  go_wp2_with fail
  exact bodyPost_ret (v := .tuple #[_, vI vK 0]) (by simp [results, Tryz.results26, go_sem]) rfl ⟨_, rfl, hm, hbE.alloc hbE.size _⟩
def z9f := fun d s c o n p r y hp0 hp1 E y1 HM => (@zA4 d s c o n p r y hp0 hp1 E y1 HM).1
def zDp := fun d s c o n p r y hp0 hp1 E y1 HM => (@zA4 d s c o n p r y hp0 hp1 E y1 HM).2
theorem zA3 (d s : Nat) (c o n p : Int) (r : Bool) (y : Way) (hp0 : 0 ≤ p) (hp1 : p ≤ 1000) (E : Int) (y1 : Way) (HM : Hid (∀ (W : World) (B : Nat), z05 W B p y → Calls Tryz.prog 46 #[.pointer (some ⟨B, 0, none⟩), vI vK n] W fun e w' => e = .returned (vI vK E) ∧ Kept B W w' ∧ z05 w' B p y1)) : (∀ (xE : (E != 0) = true) (HQ : Hid ((decide (15 ≤ c) && decide (c ≤ 24)) = false)) (x14 : (c == 14) = false) (x28 : (c == 28) = false) (x25 : (c == 25) = false) (x26 : (c == 26) = false) (x27 : (c == 27) = true) (w : World), Calls Tryz.prog 26 #[.agg (z06 p y), .agg #[vI vK c, vI vK d, vI vK s, .bool r, vI vK o, vI vK n]] w fun e w' => e = .returned (.tuple #[.slice none 0 0, vI vK E]) ∧ Below w.heap.size w w') ∧ (∀ (xE : (E != 0) = false) (HQ : Hid ((decide (15 ≤ c) && decide (c ≤ 24)) = false)) (x14 : (c == 14) = false) (x28 : (c == 28) = false) (x25 : (c == 25) = false) (x26 : (c == 26) = false) (x27 : (c == 27) = true) (w : World), Calls Tryz.prog 26 #[.agg (z06 p y), .agg #[vI vK c, vI vK d, vI vK s, .bool r, vI vK o, vI vK n]] w fun e w' => ∃ v, e = .returned (.tuple #[v, vI vK 0]) ∧ z0g w' w.heap.size v [((p + 1), y1)] ∧ Below w.heap.size w w') := by
 refine ⟨?_, ?_⟩
 all_goals
  intro xE HQ x14 x28 x25 x26 x27 w
  have hK0 : Blk w [(w.heap.size, .cells (z06 p y) 76 (0, 0)), (w.heap.size + 1, .cells #[vI vK c, vI vK d, vI vK s, .bool r, vI vK o, vI vK n] 59 (0, 0))] _ := ((Blk.nil (((bF _ _).alloc (Nat.le_refl _) _).alloc (by simp) _)).cons (heap_alloc2_new w (.cells (z06 p y) 76) (.cells #[vI vK c, vI vK d, vI vK s, .bool r, vI vK o, vI vK n] 59))).cons ((z05.start w p y).alloc (.cells #[vI vK c, vI vK d, vI vK s, .bool r, vI vK o, vI vK n] 59))
 all_goals
  go_enter Tryz.func26, Tryz.ntmps26
  go_upto_region 1 with fail
  generalize ((w.alloc (.cells (z06 p y) 76)).alloc (.cells #[vI vK c, vI vK d, vI vK s, .bool r, vI vK o, vI vK n] 59)) = w1 at hK0 ⊢
  have yW : z05 _ w.heap.size _ _ := (hK0.2 _ mcS); have ylt := yW.lt; obtain ⟨p0, p1, p2, p3, p4, p5, ltS⟩ := row6 (hK0.2 _ (mcO _ mcS))
  go_upto_region 14 with (first | (go_at_call 40; refine (z57 c _).mono ?_; rintro e w1 ⟨rfl, rfl⟩; rw [HQ.out]) | fail)
  go_step
  (refine z03 rfl (.pointer (some ⟨w.heap.size + 1, 5, none⟩)) w1 (by go_simp; try rfl) ?_); simp only [Act.put, siA, scZ, scS]
  (refine z03 rfl (vI vK n) w1 (by go_simp; try rfl) ?_); simp only [Act.put, siA, scZ, scS]
  (refine z0m rfl 46 #[.pointer (some ⟨w.heap.size, 0, none⟩), vI vK n] (by go_simp; try rfl) (vI vK E) (HM.out w1 w.heap.size yW) ?_)
  intro w5 hq
  obtain ⟨hk5, hW5⟩ := hq
  have hK5 := (Blk.more (F' := []) hK0 (by simp)).grown (b := w.heap.size) hk5 (fun k e => Nat.le_of_eq (Option.some.inj e)) (Nat.le_refl _) (by simp)
  clear yW ylt p0 p1 p2 p3 p4 p5 ltS
  clear hk5 hK0
  simp only [Act.put, siA, scZ, scS]
 ·go_wp2_with fail
  exact bodyPost_ret (v := .tuple #[.slice none 0 0, vI vK E]) (by simp [results, Tryz.results26, go_sem]) rfl ⟨rfl, hK5.1⟩
 ·go_upto_region 17 with fail
  go_step
  (refine wpList_load_row rfl 76 (.tmp 2) rfl w.heap.size rfl 76 (z06 p y1) (0, 0) _ hW5 Tryz.underlying76 rfl (z0q _ _) ?_)
  simp only [Act.put, siA, scZ, scS]
  (refine z0m rfl 42 #[.agg (z06 p y1), vI vK 0] (by go_simp; try rfl) (.agg (z06 (p + 1) y1)) (z7e p y1 hp0 hp1 w5) ?_)
  intro w6 hB6
  have hK6 := hK5.later hB6
  simp only [Act.put, siA, scZ, scS]
  refine z1l rfl (.tmp 58) (p + 1) y1 rfl rfl ?_
  simp only [Act.put, siA, scZ, scS]
  have hbE := hK6.1
  have hm := z0g.made w6 w.heap.size [((p + 1), y1)] hbE.size (by unfold maxLen; simp)
  go_wp2_with fail
  exact bodyPost_ret (v := .tuple #[_, vI vK 0]) (by simp [results, Tryz.results26, go_sem]) rfl ⟨_, rfl, hm, hbE.alloc hbE.size _⟩
def zAf := fun d s c o n p r y hp0 hp1 E y1 HM => (@zA3 d s c o n p r y hp0 hp1 E y1 HM).1
def zH4 := fun d s c o n p r y hp0 hp1 E y1 HM => (@zA3 d s c o n p r y hp0 hp1 E y1 HM).2
theorem zA2 (d s : Nat) (c o n p : Int) (r : Bool) (y : Way) (hp0 : 0 ≤ p) (hp1 : p ≤ 1000) (E : Int) (y1 : Way) (HM : Hid (∀ (W : World) (B : Nat), z05 W B p y → Calls Tryz.prog 47 #[.pointer (some ⟨B, 0, none⟩), .agg #[vI vK c, vI vK d, vI vK s, .bool r, vI vK o, vI vK n]] W fun e w' => e = .returned (vI vK E) ∧ Kept B W w' ∧ z05 w' B p y1)) : (∀ (xE : (E != 0) = true) (HQ : Hid ((decide (15 ≤ c) && decide (c ≤ 24)) = false)) (x14 : (c == 14) = false) (x28 : (c == 28) = false) (x25 : (c == 25) = false) (x26 : (c == 26) = false) (x27 : (c == 27) = false) (w : World), Calls Tryz.prog 26 #[.agg (z06 p y), .agg #[vI vK c, vI vK d, vI vK s, .bool r, vI vK o, vI vK n]] w fun e w' => e = .returned (.tuple #[.slice none 0 0, vI vK E]) ∧ Below w.heap.size w w') ∧ (∀ (xE : (E != 0) = false) (HQ : Hid ((decide (15 ≤ c) && decide (c ≤ 24)) = false)) (x14 : (c == 14) = false) (x28 : (c == 28) = false) (x25 : (c == 25) = false) (x26 : (c == 26) = false) (x27 : (c == 27) = false) (w : World), Calls Tryz.prog 26 #[.agg (z06 p y), .agg #[vI vK c, vI vK d, vI vK s, .bool r, vI vK o, vI vK n]] w fun e w' => ∃ v, e = .returned (.tuple #[v, vI vK 0]) ∧ z0g w' w.heap.size v [((p + 1), y1)] ∧ Below w.heap.size w w') := by
 refine ⟨?_, ?_⟩
 all_goals
  intro xE HQ x14 x28 x25 x26 x27 w
  have hK0 : Blk w [(w.heap.size, .cells (z06 p y) 76 (0, 0)), (w.heap.size + 1, .cells #[vI vK c, vI vK d, vI vK s, .bool r, vI vK o, vI vK n] 59 (0, 0))] _ := ((Blk.nil (((bF _ _).alloc (Nat.le_refl _) _).alloc (by simp) _)).cons (heap_alloc2_new w (.cells (z06 p y) 76) (.cells #[vI vK c, vI vK d, vI vK s, .bool r, vI vK o, vI vK n] 59))).cons ((z05.start w p y).alloc (.cells #[vI vK c, vI vK d, vI vK s, .bool r, vI vK o, vI vK n] 59))
 all_goals
  go_enter Tryz.func26, Tryz.ntmps26
  go_upto_region 1 with fail
  generalize ((w.alloc (.cells (z06 p y) 76)).alloc (.cells #[vI vK c, vI vK d, vI vK s, .bool r, vI vK o, vI vK n] 59)) = w1 at hK0 ⊢
  have yW : z05 _ w.heap.size _ _ := (hK0.2 _ mcS); have ylt := yW.lt; obtain ⟨p0, p1, p2, p3, p4, p5, ltS⟩ := row6 (hK0.2 _ (mcO _ mcS))
  go_upto_region 2 with (first | (go_at_call 40; refine (z57 c _).mono ?_; rintro e w1 ⟨rfl, rfl⟩; rw [HQ.out]) | fail)
  go_step
  (refine z03 rfl (.agg #[vI vK c, vI vK d, vI vK s, .bool r, vI vK o, vI vK n]) w1 (by go_simp; try rfl) ?_); simp only [Act.put, siA, scZ, scS]
  (refine z0m rfl 47 #[.pointer (some ⟨w.heap.size, 0, none⟩), .agg #[vI vK c, vI vK d, vI vK s, .bool r, vI vK o, vI vK n]] (by go_simp; try rfl) (vI vK E) (HM.out w1 w.heap.size yW) ?_)
  intro w5 hq
  obtain ⟨hk5, hW5⟩ := hq
  have hK5 := (Blk.more (F' := []) hK0 (by simp)).grown (b := w.heap.size) hk5 (fun k e => Nat.le_of_eq (Option.some.inj e)) (Nat.le_refl _) (by simp)
  clear yW ylt p0 p1 p2 p3 p4 p5 ltS
  clear hk5 hK0
  simp only [Act.put, siA, scZ, scS]
 ·go_wp2_with fail
  exact bodyPost_ret (v := .tuple #[.slice none 0 0, vI vK E]) (by simp [results, Tryz.results26, go_sem]) rfl ⟨rfl, hK5.1⟩
 ·go_upto_region 17 with fail
  go_step
  (refine wpList_load_row rfl 76 (.tmp 2) rfl w.heap.size rfl 76 (z06 p y1) (0, 0) _ hW5 Tryz.underlying76 rfl (z0q _ _) ?_)
  simp only [Act.put, siA, scZ, scS]
  (refine z0m rfl 42 #[.agg (z06 p y1), vI vK 0] (by go_simp; try rfl) (.agg (z06 (p + 1) y1)) (z7e p y1 hp0 hp1 w5) ?_)
  intro w6 hB6
  have hK6 := hK5.later hB6
  simp only [Act.put, siA, scZ, scS]
  refine z1l rfl (.tmp 58) (p + 1) y1 rfl rfl ?_
  simp only [Act.put, siA, scZ, scS]
  have hbE := hK6.1
  have hm := z0g.made w6 w.heap.size [((p + 1), y1)] hbE.size (by unfold maxLen; simp)
  go_wp2_with fail
  exact bodyPost_ret (v := .tuple #[_, vI vK 0]) (by simp [results, Tryz.results26, go_sem]) rfl ⟨_, rfl, hm, hbE.alloc hbE.size _⟩
def z8j := fun d s c o n p r y hp0 hp1 E y1 HM => (@zA2 d s c o n p r y hp0 hp1 E y1 HM).1
def zBv := fun d s c o n p r y hp0 hp1 E y1 HM => (@zA2 d s c o n p r y hp0 hp1 E y1 HM).2
theorem zIz {d s : Nat} {c o n p : Int} {r : Bool} {y : Way} (hd : d < 11) (hs : s < 11) (hp0 : 0 ≤ p) (hp1 : p ≤ 1000) (ho : In64 o) (hj : 14 ≤ c → c ≤ 24 → 0 ≤ o ∧ o ≤ 1000) (hw : c = 27 → n = 1 ∨ n = 2 ∨ n = 3) (hy : y.Ok) (hn : In64 n) (w : World) :
  Calls Tryz.prog 26 #[.agg (z06 p y), .agg #[vI vK c, vI vK d, vI vK s, .bool r, vI vK o, vI vK n]] w fun e w' => ∃ v, e = .returned (.tuple #[v, vI vK (y.look c d s r o n).2]) ∧ z0g w' w.heap.size v ((y.look c d s r o n).1.map fun x => (p + (1 + x.1), x.2)) ∧ Below w.heap.size w w' := by
 have mv : ∀ {E : Int} {e : Ending} {w' : World}, (e = .returned (.tuple #[.slice none 0 0, vI vK E]) ∧ Below w.heap.size w w') → ∃ v, e = .returned (.tuple #[v, vI vK E]) ∧ z0g w' w.heap.size v [] ∧ Below w.heap.size w w' := fun h => ⟨_, h.1, z0g.nil _ _, h.2⟩
 have tt : ∀ {a b : Int}, a = b → (a == b) = true := fun h => by simp [h]
 have tb : ∀ {a b : Int}, ¬ a = b → (a == b) = false := fun h => by simp [h]
 have nt : ∀ {a b : Int}, ¬ a = b → (a != b) = true := fun h => by simp [h]
 have nf : ∀ {a b : Int}, a = b → (a != b) = false := fun h => by simp [h]
 unfold Way.look
 by_cases h1 : 15 ≤ c ∧ c ≤ 24
 ·rw [if_pos h1]
  have hoo := hj (by omega) h1.2
  exact zIy d s c o n p r y _ _ (fun W : World => zN9 (r := r) hd hs h1 hp0 hp1 hoo.1 hoo.2 hy hn W) (by show (decide (15 ≤ c) && decide (c ≤ 24)) = true; simp; omega) w
 rw [if_neg h1]
 have HQ : Hid ((decide (15 ≤ c) && decide (c ≤ 24)) = false) := by show (decide (15 ≤ c) && decide (c ≤ 24)) = false; simp; omega
 by_cases h14 : c = 14
 ·rw [if_pos h14]
  have hoo := hj (by omega) (by omega)
  simpa using zH2 d s c o n p r y hp0 hp1 hoo.1 hoo.2 HQ (tt h14) w
 rw [if_neg h14]
 by_cases h28 : c = 28
 ·rw [if_pos h28]
  exact (zH3 d s c o n p r y HQ (tb h14) (tt h28) w).mono fun _ _ h => mv h
 rw [if_neg h28]
 by_cases h25 : c = 25
 ·rw [if_pos h25]
  have HM := fun (W : World) (B : Nat) (hW : z05 W B p y) => zJ2 (c := c) (r := r) (n := n) hd hs hy ho hW
  generalize y.load d s o = z at *
  obtain ⟨E, y1⟩ := z
  dsimp only
  by_cases hE : E = 0
  ·rw [if_pos hE]; simpa [hE] using zH1 d s c o n p r y hp0 hp1 E y1 HM (nf hE) HQ (tb h14) (tb h28) (tt h25) w
  ·rw [if_neg hE]; exact (zAe d s c o n p r y hp0 hp1 E y1 HM (nt hE) HQ (tb h14) (tb h28) (tt h25) w).mono fun _ _ h => mv h
 rw [if_neg h25]
 by_cases h26 : c = 26
 ·rw [if_pos h26]
  have HM := fun (W : World) (B : Nat) (hW : z05 W B p y) => zGx (c := c) (r := r) (n := n) hd hs hy ho hW
  generalize y.store (y.reg d) (y.second s r n) o = z at *
  obtain ⟨E, y1⟩ := z
  dsimp only
  by_cases hE : E = 0
  ·rw [if_pos hE]; simpa [hE] using zDp d s c o n p r y hp0 hp1 E y1 HM (nf hE) HQ (tb h14) (tb h28) (tb h25) (tt h26) w
  ·rw [if_neg hE]; exact (z9f d s c o n p r y hp0 hp1 E y1 HM (nt hE) HQ (tb h14) (tb h28) (tb h25) (tt h26) w).mono fun _ _ h => mv h
 rw [if_neg h26]
 by_cases h27 : c = 27
 ·rw [if_pos h27]
  have HM := fun (W : World) (B : Nat) (hW : z05 W B p y) => zJ8 (hw h27) hW
  generalize y.call n = z at *
  obtain ⟨E, y1⟩ := z
  dsimp only
  by_cases hE : E = 0
  ·rw [if_pos hE]; simpa [hE] using zH4 d s c o n p r y hp0 hp1 E y1 HM (nf hE) HQ (tb h14) (tb h28) (tb h25) (tb h26) (tt h27) w
  ·rw [if_neg hE]; exact (zAf d s c o n p r y hp0 hp1 E y1 HM (nt hE) HQ (tb h14) (tb h28) (tb h25) (tb h26) (tt h27) w).mono fun _ _ h => mv h
 rw [if_neg h27]
 ·have HM := fun (W : World) (B : Nat) (hW : z05 W B p y) => zDs (c := c) (o := o) (r := r) hd hs hy hn hW
  generalize y.change c d s r n = z at *
  obtain ⟨E, y1⟩ := z
  dsimp only
  by_cases hE : E = 0
  ·rw [if_pos hE]; simpa [hE] using zBv d s c o n p r y hp0 hp1 E y1 HM (nf hE) HQ (tb h14) (tb h28) (tb h25) (tb h26) (tb h27) w
  ·rw [if_neg hE]; exact (z8j d s c o n p r y hp0 hp1 E y1 HM (nt hE) HQ (tb h14) (tb h28) (tb h25) (tb h26) (tb h27) w).mono fun _ _ h => mv h
end Go.Proofs.YteenhdoaminkeaaGreatDoor
namespace Go.Proofs.YteenhdoaminkeaaGreatDoor
open Go.ChangeShapes Go.WideShapes Go.ChangeAt Go.RowKit
def posL (st : List (Nat × Way)) : List (Int × Way) := st.map fun x => ((x.1 : Int), x.2)
def z37 (es : List Kno) : List Value := es.flatMap fun b => [vI vK b.l, vI vK b.h]
def z36 (w : World) (base : Nat) (v : Value) (es : List Kno) : Prop := w.ownsRow base 30 2 v es.length (z37 es)
theorem z73 (es : List Kno) (b : Kno) : z37 (es ++ [b]) = z37 es ++ [vI vK b.l, vI vK b.h] := by
 unfold z37; rw [List.flatMap_append]; simp
theorem zP0 (pc : Nat) (y : Way) (st : List (Nat × Way)) : posL (((pc, y) :: st).reverse) = posL st.reverse ++ [((pc : Int), y)] := by unfold posL; rw [List.reverse_cons, List.map_append]; rfl
theorem zFy (st : List (Nat × Way)) : (posL st.reverse).length = st.length := by unfold posL; rw [List.length_map, List.length_reverse]
theorem zFh (C D S : Nat → Int) (R : Nat → Bool) (O N : Nat → Int) (f : Nat) (es : List Kno) : goF C D S R O N f [] es = .inr es := by cases f <;> rfl
theorem zPs {C D S : Nat → Int} {R : Nat → Bool} {O N : Nat → Int} (f pc : Nat) (y : Way) (st : List (Nat × Way)) (es : List Kno) (d s : Nat) (hd : D pc = (d : Int)) (hs : S pc = (s : Int)) :
  goF C D S R O N (f + 1) ((pc, y) :: st) es = if (y.look (C pc) d s (R pc) (O pc) (N pc)).2 ≠ 0 then .inl ((y.look (C pc) d s (R pc) (O pc) (N pc)).2, pc)
   else goF C D S R O N f ((y.look (C pc) d s (R pc) (O pc) (N pc)).1.map (fun z => (pc + 1 + z.1.toNat, z.2)) ++ st) (if C pc = 28 then es ++ [y.reg 0] else es) := by
 rw [goF]
 simp only [hd, hs, Int.toNat_natCast]
theorem z7n (w : World) (a b : Value) (t : TypeId) : (w.alloc (.cells #[a, b] t)).drew.cell? ⟨w.heap.size, 0, none⟩ = some a ∧ (w.alloc (.cells #[a, b] t)).drew.cell? ⟨w.heap.size, 1, none⟩ = some b ∧ w.heap.size < (w.alloc (.cells #[a, b] t)).drew.heap.size := by
 have h : (w.alloc (.cells #[a, b] t)).drew.heap[w.heap.size]? = some (.cells #[a, b] t (0, 0)) := heap_alloc_new w _
 obtain ⟨h0, h1, -, -, h2⟩ := row2 h
 exact ⟨h0, h1, h2⟩
section
variable {w w' : World} {base : Nat} {v : Value} {l : List (Int × Way)} {es : List Kno}
theorem z0g.shape (h : z0g w base v l) : ∃ a cap, v = .slice a l.length cap := by
 rcases h.2 with ⟨h1, h2⟩ | ⟨g, cap, cur, h1, _⟩
 ·exact ⟨none, 0, by rw [h2]; exact h1⟩
 ·exact ⟨_, _, h1⟩
theorem z0g.more {x : Int × Way} (h : z0g w base v (l ++ [x])) : ∃ g cap, v = .slice (some ⟨g, 0, none⟩) (l.length + 1) cap ∧ l.length + 1 ≤ cap ∧ cap ≤ maxLen ∧ base ≤ g ∧ g < w.heap.size := by
 rcases h.2 with ⟨_, h2⟩ | ⟨g, cap, cur, h1, h2, h3, h4, h5, _⟩
 ·rw [List.length_append] at h2; exact absurd h2 (by simp)
 ·rw [List.length_append] at h1 h4
  exact ⟨g, cap, h1, h4, h5, h2, (Array.getElem?_eq_some_iff.1 h3).1⟩
theorem z0g.pop {g cap : Nat} {x : Int × Way} (h : z0g w base (.slice (some ⟨g, 0, none⟩) (l.length + 1) cap) (l ++ [x])) : z0g w base (.slice (some ⟨g, 0, none⟩) l.length cap) l := by
 rcases h.2 with ⟨h1, _⟩ | ⟨g', cap', cur, h1, h2, h3, h4, h5, h6, h7⟩
 ·exact absurd h1 (by simp)
 ·rw [List.length_append] at h1 h4 h7
  cases h1
  refine ⟨by rw [z29], Or.inr ⟨g, cap, cur, rfl, h2, h3, by omega, h5, h6, ?_⟩⟩
  have h8 : (cur.toList.take ((l.length + [x].length) * 82)).take (l.length * 82) = (z0s (l ++ [x])).take (l.length * 82) := by rw [h7]
  rw [List.take_take, Nat.min_eq_left (Nat.mul_le_mul_right _ (by omega)), z4j, ← z29 l] at h8
  rw [← z29 l, h8, List.take_left]
theorem z81 (l1 l2 : List (Int × Way)) : z0s (l1 ++ l2) = z0s l1 ++ z0s l2 := by unfold z0s; rw [List.flatMap_append]
theorem z0g.elem {g n cap : Nat} {x : Int × Way} {l2 : List (Int × Way)} (h : z0g w base (.slice (some ⟨g, 0, none⟩) n cap) (l ++ x :: l2)) : w.rangeAt g (l.length * 82) (z06 x.1 x.2).toList := by
 intro j u hj
 have hk := World.ownsRow.cells h (g := g) rfl (l.length * 82 + j) u (by
  rw [z81, List.getElem?_append_right (by rw [z29]; omega), z29, show l.length * 82 + j - l.length * 82 = j by omega]
  unfold z0s
  rw [List.flatMap_cons, List.getElem?_append_left (List.getElem?_eq_some_iff.1 hj).1]
  exact hj)
 rw [Addr.add_mid, Nat.zero_add] at hk
 exact hk
theorem z0g.some_of {a : Option Addr} {n cap : Nat} (h : z0g w base (.slice a n cap) l) (hl : 0 < l.length) : ∃ g, a = some ⟨g, 0, none⟩ ∧ n = l.length ∧ base ≤ g ∧ g < w.heap.size := by
 rcases h.2 with ⟨_, h2⟩ | ⟨g, cap', cur, h1, h2, h3, _⟩
 ·omega
 ·cases h1
  exact ⟨g, rfl, rfl, h2, (Array.getElem?_eq_some_iff.1 h3).1⟩
theorem z36.nil (w : World) (base : Nat) : z36 w base (.slice none 0 0) [] := World.ownsRow_nil _ _ _ _
theorem z36.later (h : z36 w base v es) (hb : Below w.heap.size w w') : z36 w' base v es :=
 World.ownsRow.kept (w' := w') (row := none) h ⟨hb.os, hb.tape, hb.output, hb.size, fun k hk _ => hb.block k hk⟩ (by cases v.ownBlock <;> simp)
theorem z36.grown {row : Option Nat} (h : z36 w base v es) (hg : w.grownBy w' row) (hne : ∀ k, row = some k → v.ownBlock ≠ some k) : z36 w' base v es :=
 World.ownsRow.kept (w' := w') (row := row) h hg (by
  cases row with
  | none => cases v.ownBlock <;> simp
  | some k => exact Or.inr (hne k rfl))
theorem z0g.grown {row : Option Nat} (h : z0g w base v l) (hg : w.grownBy w' row) (hne : ∀ k, row = some k → v.ownBlock ≠ some k) : z0g w' base v l :=
 World.ownsRow.kept (w' := w') (row := row) h hg (by
  cases row with
  | none => cases v.ownBlock <;> simp
  | some k => exact Or.inr (hne k rfl))
theorem z36.above (h : z36 w base v es) : ∀ k, v.ownBlock = some k → base ≤ k ∧ k < w.heap.size := World.ownsRow.lt h
end
theorem z7r {ops : Array Oper} {rest : List Oper} {o : Oper} {a : Act} {w : World} {Q : Exit → Act → World → Prop} (hg : o.guard = none) (s x : Operand) (ho : o.op = .call { callee := .builtin .append, args := #[s, x], argTypes := #[78, 78] })
  (base : Nat) (v : Value) (l : List (Int × Way)) (hs : a.eval s = v) (hw : z0g w base v l) (p : Int) (y : Way) (hx : a.eval x = .slice (some ⟨w.heap.size, 0, none⟩) 1 1) (hl : l.length ≤ 1000000) (hb : base ≤ w.heap.size)
  (h : ∀ v' w', z0g w' base v' (l ++ [(p, y)]) → w.grownBy w' v.ownBlock → (∀ k, v'.ownBlock = some k → v.ownBlock = some k ∨ w.heap.size ≤ k) → wpList Tryz.prog ops Q rest (a.put o.dst v') w') : wpList Tryz.prog ops Q (o :: rest) a (w.alloc (.cells (z0s [(p, y)]).toArray 76)) := by
 obtain ⟨i0, hi, hz0, hz1, hz2⟩ := info_parts Tryz.infoWz
 have e1 : z0s [(p, y)] = (z06 p y).toList := by unfold z0s; simp
 refine wpList_append_own_at _ hg s x 78 ho base 76 i0 _ 82 656 Tryz.underlying78 hi hz0 hz1 hz2 z1w (by decide) v l.length (z0s l) hs (hw.alloc _) ⟨w.heap.size, 0, none⟩ 1 1 (z0s [(p, y)]) hx (by rw [z29]; rfl) ?_ ?_ (by unfold maxLen; omega) (by omega) (by simp; omega) ?_
 ·intro j u hu
  rw [e1] at hu ⊢
  rw [Addr.add_mid, Nat.zero_add, cell_of_row _ w.heap.size j _ 76 (0, 0) (heap_alloc_new w _)]
  simpa using hu
 ·intro u hu
  rw [e1] at hu
  exact (Array.all_eq_true_iff_forall_mem.1 (z2a p y)) u (Array.mem_toList_iff.1 hu)
 ·intro v' w' h1 h2 _ h4
  refine h v' w' ?_ ⟨h2.os, h2.tape, h2.output, Nat.le_trans (by simp) h2.size, fun k hk hne => (h2.block k (by simp; omega) hne).trans (heap_alloc_old w _ hk)⟩ (fun k e => ?_)
  ·show w'.ownsRow base 76 82 v' (l ++ [(p, y)]).length (z0s (l ++ [(p, y)]))
   rw [z4j, List.length_append, ← e1]
   exact h1
  ·rcases h4 with h4 | h4
   ·exact Or.inl (h4.symm.trans e)
   ·rw [e] at h4
    have := Option.some.inj h4
    right; rw [this]; simp
theorem Tryz.infoBz : (Tryz.prog.info? 30).map (fun i => (i.zero, i.size, i.bytes)) = some (some (.agg #[vI vK 0, vI vK 0]), 2, 16) := by kernel_rfl
theorem zGw {ops : Array Oper} {rest : List Oper} {o : Oper} {a : Act} {w : World} {Q : Exit → Act → World → Prop} (hg : o.guard = none) (s x : Operand) (ho : o.op = .call { callee := .builtin .append, args := #[s, x], argTypes := #[51, 51] })
  (base : Nat) (v : Value) (es : List Kno) (hs : a.eval s = v) (hw : z36 w base v es) (b : Kno) (hx : a.eval x = .slice (some ⟨w.heap.size, 0, none⟩) 1 1) (hl : es.length ≤ 1000000) (hb : base ≤ w.heap.size)
  (h : ∀ v' w', z36 w' base v' (es ++ [b]) → w.grownBy w' v.ownBlock → (∀ k, v'.ownBlock = some k → v.ownBlock = some k ∨ w.heap.size ≤ k) → wpList Tryz.prog ops Q rest (a.put o.dst v') w') : wpList Tryz.prog ops Q (o :: rest) a (w.alloc (.cells #[vI vK b.l, vI vK b.h] 30)) := by
 obtain ⟨i0, hi, hz0, hz1, hz2⟩ := info_parts Tryz.infoBz
 refine wpList_append_own_at _ hg s x 51 ho base 30 i0 _ 2 16 Tryz.underlying51 hi hz0 hz1 hz2 rfl (by decide) v es.length (z37 es) hs (hw.alloc _) ⟨w.heap.size, 0, none⟩ 1 1 [vI vK b.l, vI vK b.h] hx rfl ?_ ?_ (by unfold maxLen; omega) (by omega) (by simp; omega) ?_
 ·intro j u hu
  rw [Addr.add_mid, Nat.zero_add, cell_of_row _ w.heap.size j _ 30 (0, 0) (heap_alloc_new w _)]
  simpa using hu
 ·intro u hu
  simp at hu
  rcases hu with rfl | rfl <;> rfl
 ·intro v' w' h1 h2 _ h4
  refine h v' w' ?_ ⟨h2.os, h2.tape, h2.output, Nat.le_trans (by simp) h2.size, fun k hk hne => (h2.block k (by simp; omega) hne).trans (heap_alloc_old w _ hk)⟩ (fun k e => ?_)
  ·show w'.ownsRow base 30 2 v' (es ++ [b]).length (z37 (es ++ [b]))
   rw [z73, List.length_append]
   exact h1
  ·rcases h4 with h4 | h4
   ·exact Or.inl (h4.symm.trans e)
   ·rw [e] at h4
    have := Option.some.inj h4
    right; rw [this]; simp
theorem z7a {ops : Array Oper} {rest : List Oper} {op : Oper} {a : Act} {w : World} {Q : Exit → Act → World → Prop} (hgd : op.guard = none) (x : Operand) (ho : op.op = .load 76 x)
  (b o : Nat) (hx : a.eval x = .pointer (some ⟨b, o, none⟩)) (p : Int) (y : Way) (hc : w.rangeAt b o (z06 p y).toList)
  (h : wpList Tryz.prog ops Q rest (a.put op.dst (.agg (z06 p y))) w) : wpList Tryz.prog ops Q (op :: rest) a w :=
 wpList_load_mid hgd 76 x ho b o hx (z06 p y).toList _ hc Tryz.underlying76 rfl (by rw [Array.length_toList]; exact z0q p y) (by simpa using h)
theorem zP5 (y : Way) (c : Int) (d s : Nat) (r : Bool) (o n : Int) : (y.look c d s r o n).1.length ≤ 2 := by
 unfold Way.look Way.ask Way.askNumbers Way.askPlace
 repeat' split
 all_goals simp
theorem zT6 (pc : Nat) (ls : List (Int × Way)) (h : ∀ z, z ∈ ls → 0 ≤ z.1) : (ls.map fun x => ((pc : Int) + (1 + x.1), x.2)) = posL (ls.map fun z => (pc + 1 + z.1.toNat, z.2)) := by
 unfold posL
 rw [List.map_map]
 refine List.map_congr_left fun z hz => ?_
 have := h z hz
 simp only [Function.comp_apply, Prod.mk.injEq, and_true]
 omega
structure z7p (w : World) (st0 l2 : List (Int × Way)) (V10 E : Value) (es : List Kno) (j : Nat) (V : Value) (wr : World) : Prop where
 jl : j ≤ l2.length
 below : Below w.heap.size w wr
 ways : z0g wr w.heap.size V (st0 ++ (l2.drop j).reverse)
 led : z0g wr w.heap.size V10 l2
 ends : z36 wr w.heap.size E es
 sepE : ∀ k, V.ownBlock = some k → E.ownBlock ≠ some k
 sepL : ∀ k, V.ownBlock = some k → V10.ownBlock ≠ some k
 few : st0.length + l2.length ≤ 100000
theorem z7p.part {w : World} {st0 l2 : List (Int × Way)} {V10 E : Value} {es : List Kno} {j : Nat} {V : Value} {wr : World} (h : z7p w st0 l2 V10 E es (j + 1) V wr) :
  ∃ x, l2.drop j = x :: l2.drop (j + 1) ∧ l2 = l2.take j ++ x :: l2.drop (j + 1) ∧ (l2.take j).length = j := by
 have hj : j < l2.length := h.jl
 refine ⟨l2[j], List.drop_eq_getElem_cons hj, ?_, by rw [List.length_take]; omega⟩
 rw [← List.drop_eq_getElem_cons hj, List.take_append_drop]
theorem z7p.small {w : World} {st0 l2 : List (Int × Way)} {V10 E : Value} {es : List Kno} {j : Nat} {V : Value} {wr : World} (h : z7p w st0 l2 V10 E es j V wr) : (st0 ++ (l2.drop j).reverse).length ≤ 1000000 := by
 have := h.few
 rw [List.length_append, List.length_reverse, List.length_drop]
 omega
theorem z7p.lay {w : World} {st0 l2 : List (Int × Way)} {V10 E : Value} {es : List Kno} {j : Nat} {V V' : Value} {wr wr3 : World} {x : Int × Way} (h : z7p w st0 l2 V10 E es (j + 1) V wr) (hx : l2.drop j = x :: l2.drop (j + 1))
  (hA : z0g wr3 w.heap.size V' ((st0 ++ (l2.drop (j + 1)).reverse) ++ [x])) (hg : wr.grownBy wr3 V.ownBlock) (hs : ∀ k, V'.ownBlock = some k → V.ownBlock = some k ∨ wr.heap.size ≤ k) : z7p w st0 l2 V10 E es j V' wr3 where
 jl := Nat.le_of_succ_le h.jl
 below := ((Blk.nil h.below).grown hg (b := w.heap.size) (fun k e => (h.ways.above k e).1) (Nat.le_refl _) (by simp)).1
 ways := by rw [hx, List.reverse_cons, ← List.append_assoc]; exact hA
 led := h.led.grown hg h.sepL
 ends := h.ends.grown hg h.sepE
 sepE := fun k e => by
  rcases hs k e with e | e
  ·exact h.sepE k e
  ·intro e2; have := (h.ends.above k e2).2; omega
 sepL := fun k e => by
  rcases hs k e with e | e
  ·exact h.sepL k e
  ·intro e2; have := (h.led.above k e2).2; omega
 few := h.few
theorem zFz (a b : List (Nat × Way)) : posL ((a ++ b).reverse) = posL b.reverse ++ (posL a).reverse := by
 unfold posL
 rw [List.reverse_append, List.map_append, List.map_reverse (l := a)]
structure GoSt (w : World) (len : Nat) (C D S : Nat → Int) (R : Nat → Bool) (O N : Nat → Int) (X : (Int × Nat) ⊕ List Kno) (k : Nat) (st : List (Nat × Way)) (es : List Kno) (V E : Value) (wr : World) : Prop where
 k4 : k ≤ 4000
 below : Below w.heap.size w wr
 ways : z0g wr w.heap.size V (posL st.reverse)
 ends : z36 wr w.heap.size E es
 sep : ∀ k, V.ownBlock = some k → E.ownBlock ≠ some k
 okst : ∀ x, x ∈ st → x.1 < len ∧ x.2.Ok
 stl : st.length ≤ k + 1
 esl : es.length ≤ k
 go : goF C D S R O N (4000 - k) st es = X
def zUb (w : World) (X : (Int × Nat) ⊕ List Kno) (e : Ending) (w' : World) : Prop := Below w.heap.size w w' ∧
 match X with
 | .inl (er, i) => ∃ p, e = .returned (.tuple #[.slice none 0 0, .iface 69 (.pointer (some ⟨p, 0, none⟩))]) ∧ w.heap.size ≤ p ∧ p < w'.heap.size ∧ w'.cell? ⟨p, 0, none⟩ = some (vI vK er) ∧ w'.cell? ⟨p, 1, none⟩ = some (vI vK (i : Int))
 | .inr es => ∃ E, e = .returned (.tuple #[E, .nilIface]) ∧ z36 w' w.heap.size E es ∧ es.length ≤ 4000
end Go.Proofs.YteenhdoaminkeaaGreatDoor
namespace Go.Proofs.YteenhdoaminkeaaGreatDoor
open Go.ChangeShapes Go.WideShapes Go.ChangeAt Go.RowKit
structure z1j (W : World) (Bl base : Nat) (l : Value) (f : Nat) (E : Value) (es : List Kno) : Prop where
 box : W.heap[Bl]? = some (.cells #[l, vI vK (f : Int), E] 41 (0, 0))
 own : W.ownsRow base 24 2 E es.length (z37 es)
 lt : Bl < base
 few : es.length + f ≤ 4000
def Kp (Bl : Nat) (E : Value) (W W' : World) : Prop := Below 0 W W' ∧ ∀ k, k < W.heap.size → k ≠ Bl → some k ≠ E.ownBlock → W'.heap[k]? = W.heap[k]?
def z0x (W : World) (E E' : Value) : Prop := E'.ownBlock = E.ownBlock ∨ ∃ k, E'.ownBlock = some k ∧ W.heap.size ≤ k
section
variable {Bl base f : Nat} {l E E' E'' : Value} {es : List Kno} {W W' W'' : World}
theorem z1j.blt (h : z1j W Bl base l f E es) : Bl < W.heap.size := (Array.getElem?_eq_some_iff.1 h.box).1
theorem z1j.row (h : z1j W Bl base l f E es) : ∀ k, E.ownBlock = some k → base ≤ k ∧ k < W.heap.size := World.ownsRow.lt h.own
theorem z1j.later (h : z1j W Bl base l f E es) (hb : Below W.heap.size W W') : z1j W' Bl base l f E es :=
 ⟨(hb.block Bl h.blt).trans h.box, h.own.kept (row := none) ⟨hb.os, hb.tape, hb.output, hb.size, fun k hk _ => hb.block k hk⟩ (by cases E.ownBlock <;> simp), h.lt, h.few⟩
theorem Kp.refl : Kp Bl E W W := ⟨bF _ _, fun _ _ _ _ => rfl⟩
theorem Kp.of (h : Below W.heap.size W W') : Kp Bl E W W' := ⟨h.mono (Nat.zero_le _), fun k hk _ _ => h.block k hk⟩
theorem Kp.size (h : Kp Bl E W W') : W.heap.size ≤ W'.heap.size := h.1.size
theorem Kp.trans (h : Kp Bl E W W') (k : Kp Bl E' W' W'') (hr : z0x W E E') : Kp Bl E W W'' :=
 ⟨h.1.trans k.1, fun i hi h1 h2 => by
  refine (k.2 i (Nat.lt_of_lt_of_le hi h.size) h1 fun e => ?_).trans (h.2 i hi h1 h2)
  rcases hr with hr | ⟨j, hj, hl⟩
  ·exact h2 (e.trans hr)
  ·rw [hj] at e; cases e; omega⟩
theorem z0x.refl : z0x W E E := Or.inl rfl
theorem z0x.trans (h : z0x W E E') (k : z0x W' E' E'') (hs : W.heap.size ≤ W'.heap.size) : z0x W E E'' := by
 rcases k with k | ⟨j, hj, hl⟩
 ·rcases h with h | ⟨i, hi, hl⟩
  ·exact Or.inl (k.trans h)
  ·exact Or.inr ⟨i, k.trans hi, hl⟩
 ·exact Or.inr ⟨j, hj, by omega⟩
theorem z1j.less (h : z1j W Bl base l (f + 1) E es) : z1j (W.setCell ⟨Bl, 1, none⟩ (vI vK (f : Int))) Bl base l f E es :=
 ⟨heap_setCell_same W Bl 1 _ _ _ h.box, ownsRow_setCell_below h.own h.lt _, h.lt, by have := h.few; omega⟩
theorem zT8 : Kp Bl E W (W.setCell ⟨Bl, 1, none⟩ (vI vK (f : Int))) :=
 ⟨(bF _ _).setCell (Nat.zero_le _) _, fun _ _ hk _ => heap_setCell_other _ _ _ _ hk⟩
end
end Go.Proofs.YteenhdoaminkeaaGreatDoor
namespace Go.Proofs.YteenhdoaminkeaaGreatDoor
section
variable {P : Program} {md : Region.Mode} {ops : Array Oper} {Q : Exit → Act → World → Prop} {S : World → Prop}
theorem z2r {i : Nat} {oi : Oper} (d : Option Tmp) (v : Value) {fuel : Nat} {listed : Array Bool} {a : Act} {w : World} (hi : ops[i]? = some oi) (hd : oi.dst = d)
  (hs : Region.noSelect ops = true) (hf : Region.free md ops listed i = true) (hr : (Region.ready md ops listed).contains i = true)
  (hQ : ∀ c a w, Q (.panic c) (a.put oi.dst v) w → Q (.panic c) a w) (hw : Region.wanted oi (yielded ops a.tmps) = true) (hy : ∀ w, S w → (execOp a.eval oi).run P w = .ok (.value v) w) (hS : S w)
  (h : wpAnyH P md ops Q S fuel (listed.setIfInBounds i true) (a.put d v) w) : wpAnyH P md ops Q S (fuel + 1) listed a w := by
 subst hd
 exact wpAnyH_take hi hs hf hr hQ (Or.inl ⟨hw, hy⟩) hS h
theorem zC1 {fuel : Nat} {listed : Array Bool} {a : Act} {w : World} {i : Nat} {o : Oper} {rs : List Nat} (d : Option Tmp) (v : Value) (w' : World) (ho : ops[i]? = some o) (hd : o.dst = d)
  (hw : Region.wanted o (yielded ops a.tmps) = true) (hrun : (execOp a.eval o).run P w = .ok (.value v) w') (hS : S w')
  (h : wpAnyH P md ops Q S fuel (listed.setIfInBounds i true) (a.put d v) w')
  (hs : AllReadyH P md ops Q S fuel listed a w rs) : AllReadyH P md ops Q S fuel listed a w (i :: rs) := by
 subst hd
 refine AllReadyH.cons ho (fun K hK => ?_) hs
 rw [if_pos hw]
 unfold Oper.wp
 rw [hrun]
 exact hK.out _ _ hS fun _ => h
theorem zR8 {fuel : Nat} {listed : Array Bool} {a : Act} {w : World} {i : Nat} {o : Oper} {rs : List Nat} (w' : World) (ho : ops[i]? = some o) (hd : o.dst = none)
  (hw : Region.wanted o (yielded ops a.tmps) = true) (hrun : (execOp a.eval o).run P w = .ok .skip w') (hS : S w')
  (h : wpAnyH P md ops Q S fuel (listed.setIfInBounds i true) (a.put none undef) w')
  (hs : AllReadyH P md ops Q S fuel listed a w rs) : AllReadyH P md ops Q S fuel listed a w (i :: rs) := by
 refine AllReadyH.cons ho (fun K hK => ?_) hs
 rw [if_pos hw]
 unfold Oper.wp
 rw [hrun, Oper.upon_skip, hd]
 exact hK.out _ _ hS fun _ => h
end
end Go.Proofs.YteenhdoaminkeaaGreatDoor
