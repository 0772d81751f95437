/-
  What package verify's load does. Conditions: the ends are of 64 bits, in order. What package verify's store does. Conditions: the ends are of 64 bits, in order. What package verify's call does. No conditions but those that each names. What bound.Narrow returns at code 17, as a function on integers; the world below is as it was. Conditions: the ends are numbers of 64 bits, the low end not above the high one. What bound.Narrow returns at code 18, as a function on integers; the world below is as it was. Conditions: the ends are numbers of 64 bits, the low end not above the high one. What bound.Narrow returns at code 21, as a function on integers; the world below is as it was. Conditions: the ends are numbers of 64 bits, the low end not above the high one. What bound.Narrow returns at code 22, as a function on integers; the world below is as it was. Conditions: the ends are numbers of 64 bits, the low end not above the high one. What bound.Narrow and bound.Opposite return, by one contract each; the world below is as it was. Conditions: the ends are numbers of 64 bits, the low end not above the high one.
-/
import Derived.Test.YtednmkhdehlojaaGreatDoorJs11
import Derived.Laws.IdiomCopy
import Derived.Test.YtednmkhdehlojaaGreatDoorJs10
import Derived.Deep.DeepCutAuto
open Go.Value renaming int → vI
open Go.IntKind renaming i64 → vK
open Go.RowKit.Below renaming alloc → bA, setCell → bS, drew → bD, refl → bF
set_option maxHeartbeats 4000000
set_option maxRecDepth 1000000
namespace Go.Proofs.YtednmkhdehlojaaGreatDoor
open Go.ChangeShapes Go.WideShapes Go.ChangeAt Go.RowKit
attribute [local simp] drew_size drewN_size setCell_size
theorem Blk.add {w0 w : World} {F : List (Nat × Obj)} (h : Blk w0 F w) (z : Obj) : Blk w0 ((w.heap.size, z) :: F) (w.alloc z) :=
  (h.later ((bF _ _).alloc (Nat.le_refl _) z)).cons (heap_alloc_new w z)
theorem vload_no (B d s : Nat) (c o n p : Int) (r : Bool) (y : Way) (hd : d < 11) (hs : s < 11) (wl wh E : Int) (HR : Hid (∀ W : World, Calls Tryz.prog 149 #[.agg #[vI vK (y.reg s).k, vI vK (y.reg s).l, vI vK (y.reg s).h], vI vK o] W fun e w' => e = .returned (.tuple #[.agg #[vI vK wl, vI vK wh], vI vK E]) ∧ Below W.heap.size W w')) (hE : (E == 0) = false) (w : World) (hW : WayAt w B p y) :
    Calls Tryz.prog 108 #[.pointer (some ⟨B, 0, none⟩), .agg #[vI vK c, vI vK d, vI vK s, .bool r, vI vK o, vI vK n]] w fun e w' => e = .returned (vI vK E) ∧ Below w.heap.size w w' := by
  have hK0 : Blk w [(w.heap.size, .cells #[vI vK c, vI vK d, vI vK s, .bool r, vI vK o, vI vK n] 49 (0, 0)), (B, .cells (wayCs p y) 150 (0, 0))] _ := ((Blk.nil ((bF _ _).alloc (Nat.le_refl _) _)).cons (hW.alloc _)).cons (heap_alloc_new w (.cells #[vI vK c, vI vK d, vI vK s, .bool r, vI vK o, vI vK n] 49))
  have hB := hW.lt
  have hs0 : (0 : Int) ≤ (s : Int) := by omega
  have hs1 : (s : Int) < 11 := by omega
  have hd0 : (0 : Int) ≤ (d : Int) := by omega
  have hd1 : (d : Int) < 11 := by omega
  go_enter Tryz.func108, Tryz.ntmps108
  go_wp2_with fail
  refine wp_float (C := Blk w [(w.heap.size, .cells #[vI vK c, vI vK d, vI vK s, .bool r, vI vK o, vI vK n] 49 (0, 0)), (B, .cells (wayCs p y) 150 (0, 0))]) (n0 := w.heap.size + 1) 7 [] [.cells #[vI vK 0, vI vK 0, vI vK 0] 146 (0, 0)] (by kernel_rfl) (by kernel_rfl) (fun d _ _ _ _ h => by cases d <;> exact h) (Blk.stable _ _) (Blk.room w mcS) hK0.drew ⟨⟨rfl, fun a w2 hC => by go_simp; try rfl⟩, trivial⟩ ?_
  simp only [List.take_succ_cons, List.take_zero, List.drop_succ_cons, List.drop_zero, List.length_cons, List.length_nil, Nat.reduceAdd]
  repeat (first
    | (refine wpQ_skip (by rfl) ?_; simp only [Act.put, siA, scZ, scS])
    | (refine wpQ_yield (by rfl) (v := ?_) ?_ ?_; rotate_left; (intro w2 hC; obtain ⟨p0, p1, p2, p3, p4, p5, ltS⟩ := row6 (hC.2 _ mcS); have yW : WayAt _ B _ _ := (hC.2 _ (mcO _ mcS)); have ylt := yW.lt; obtain ⟨i0, i1, i2⟩ := yW.reg hs; go_simp; try with_reducible rfl); simp only [Act.put, siA, scZ, scS]))
  refine wpQ_nil ?_
  intro L h5 g5 w3 hC hB3
  have bL := hB3 L _ (FB.at_new _ _ _)
  obtain ⟨l0, l1, l2, lf0, lf1, lf2, llt⟩ := row3 bL
  obtain ⟨p0, p1, p2, p3, p4, p5, ltS⟩ := row6 (hC.2 _ mcS); have yW : WayAt _ B _ _ := (hC.2 _ (mcO _ mcS)); have ylt := yW.lt; obtain ⟨i0, i1, i2⟩ := yW.reg hs
  have hbw := hC.1
  have n1 : w.heap.size ≠ L := by omega
  have n2 : B ≠ L := by omega
  simp only [ptrTo]
  go_wp2_with (first
    | (go_at_call 149; go_must (have hK1 : Blk w [(L, .cells #[vI vK (y.reg s).k, vI vK (y.reg s).l, vI vK (y.reg s).h] 146 (0, 0)), (B, .cells (wayCs p y) 150 (0, 0)), (w.heap.size, .cells #[vI vK c, vI vK d, vI vK s, .bool r, vI vK o, vI vK n] 49 (0, 0))] _ := (((Blk.nil (by repeat' first | with_reducible (first | exact hbw | exact bF _ _ | refine bA ?_ ?_ _ | refine bS ?_ ?_ _ | refine bD ?_ | refine below_setRow ?_ ?_ _) | ((try dsimp only); omega) | (simp; done) | (simp; omega))).cons (off3 (hC.2 _ mcS) n1)).cons (off3 (hC.2 _ (mcO _ mcS)) n2)).cons (put3 bL); refine (HR.out _).mono ?_; rintro e w4 ⟨rfl, hb4⟩; have hK4 := hK1.later hb4; clear l0 l1 l2 lf0 lf1 lf2 llt p0 p1 p2 p3 p4 p5 ltS yW ylt i0 i1 i2; obtain ⟨l0, l1, l2, lf0, lf1, lf2, llt⟩ := row3 (hK4.2 _ mcS); have yW : WayAt _ B _ _ := (hK4.2 _ (mcO _ mcS)); have ylt := yW.lt; obtain ⟨p0, p1, p2, p3, p4, p5, ltS⟩ := row6 (hK4.2 _ (mcO _ (mcO _ mcS)))))
    | (go_at_call 151; go_must (refine (all_is _).mono ?_; rintro e w5 ⟨rfl, hb5⟩; have hK5 := (hK4.add (.cells #[vI vK wl, vI vK wh] 43)).later hb5; clear l0 l1 l2 lf0 lf1 lf2 llt p0 p1 p2 p3 p4 p5 ltS yW ylt; obtain ⟨u0, u1, uf0, uf1, ult⟩ := row2 (hK5.2 _ mcS); obtain ⟨l0, l1, l2, lf0, lf1, lf2, llt⟩ := row3 (hK5.2 _ (mcO _ mcS)); have yW : WayAt _ B _ _ := (hK5.2 _ (mcO _ (mcO _ mcS))); have ylt := yW.lt; obtain ⟨p0, p1, p2, p3, p4, p5, ltS⟩ := row6 (hK5.2 _ (mcO _ (mcO _ (mcO _ mcS))))))
    | (go_at_call 150; go_must (refine (vnumber_any _ _ _).mono ?_; rintro e w6 ⟨rfl, hb6⟩; simp only [Kno.v, knoNum]; have hK6 := hK5.later hb6; clear l0 l1 l2 lf0 lf1 lf2 llt p0 p1 p2 p3 p4 p5 ltS yW ylt u0 u1 uf0 uf1 ult; obtain ⟨u0, u1, uf0, uf1, ult⟩ := row2 (hK6.2 _ mcS); obtain ⟨l0, l1, l2, lf0, lf1, lf2, llt⟩ := row3 (hK6.2 _ (mcO _ mcS)); have yW : WayAt _ B _ _ := (hK6.2 _ (mcO _ (mcO _ mcS))); have ylt := yW.lt; obtain ⟨p0, p1, p2, p3, p4, p5, ltS⟩ := row6 (hK6.2 _ (mcO _ (mcO _ (mcO _ mcS)))); have hbw6 := hK6.1; have hs6 := hbw6.size; have hq6 := ylt; have hq7 := ltS))
    | fail)
  go_ret
  exact ⟨rfl, (by repeat' first | with_reducible (first | exact hbw6 | exact bF _ _ | refine bA ?_ ?_ _ | refine bS ?_ ?_ _ | refine bD ?_ | refine below_setRow ?_ ?_ _) | ((try dsimp only); omega) | (simp; done) | (simp; omega))⟩
theorem vload_any (B d s : Nat) (c o n p : Int) (r : Bool) (y : Way) (hd : d < 11) (hs : s < 11) (wl wh E : Int) (HR : Hid (∀ W : World, Calls Tryz.prog 149 #[.agg #[vI vK (y.reg s).k, vI vK (y.reg s).l, vI vK (y.reg s).h], vI vK o] W fun e w' => e = .returned (.tuple #[.agg #[vI vK wl, vI vK wh], vI vK E]) ∧ Below W.heap.size W w')) (hE : (E == 0) = true) (hk : ((y.reg s).k == 3) = false) (w : World) (hW : WayAt w B p y) :
    Calls Tryz.prog 108 #[.pointer (some ⟨B, 0, none⟩), .agg #[vI vK c, vI vK d, vI vK s, .bool r, vI vK o, vI vK n]] w fun e w' => e = .returned (vI vK E) ∧ Kept B w w' ∧ WayAt w' B p (y.putReg d ⟨1, (-9223372036854775808), 9223372036854775807⟩) := by
  have hK0 : Blk w [(w.heap.size, .cells #[vI vK c, vI vK d, vI vK s, .bool r, vI vK o, vI vK n] 49 (0, 0)), (B, .cells (wayCs p y) 150 (0, 0))] _ := ((Blk.nil ((bF _ _).alloc (Nat.le_refl _) _)).cons (hW.alloc _)).cons (heap_alloc_new w (.cells #[vI vK c, vI vK d, vI vK s, .bool r, vI vK o, vI vK n] 49))
  have hB := hW.lt
  have hs0 : (0 : Int) ≤ (s : Int) := by omega
  have hs1 : (s : Int) < 11 := by omega
  have hd0 : (0 : Int) ≤ (d : Int) := by omega
  have hd1 : (d : Int) < 11 := by omega
  go_enter Tryz.func108, Tryz.ntmps108
  go_wp2_with fail
  refine wp_float (C := Blk w [(w.heap.size, .cells #[vI vK c, vI vK d, vI vK s, .bool r, vI vK o, vI vK n] 49 (0, 0)), (B, .cells (wayCs p y) 150 (0, 0))]) (n0 := w.heap.size + 1) 7 [] [.cells #[vI vK 0, vI vK 0, vI vK 0] 146 (0, 0)] (by kernel_rfl) (by kernel_rfl) (fun d _ _ _ _ h => by cases d <;> exact h) (Blk.stable _ _) (Blk.room w mcS) hK0.drew ⟨⟨rfl, fun a w2 hC => by go_simp; try rfl⟩, trivial⟩ ?_
  simp only [List.take_succ_cons, List.take_zero, List.drop_succ_cons, List.drop_zero, List.length_cons, List.length_nil, Nat.reduceAdd]
  repeat (first
    | (refine wpQ_skip (by rfl) ?_; simp only [Act.put, siA, scZ, scS])
    | (refine wpQ_yield (by rfl) (v := ?_) ?_ ?_; rotate_left; (intro w2 hC; obtain ⟨p0, p1, p2, p3, p4, p5, ltS⟩ := row6 (hC.2 _ mcS); have yW : WayAt _ B _ _ := (hC.2 _ (mcO _ mcS)); have ylt := yW.lt; obtain ⟨i0, i1, i2⟩ := yW.reg hs; go_simp; try with_reducible rfl); simp only [Act.put, siA, scZ, scS]))
  refine wpQ_nil ?_
  intro L h5 g5 w3 hC hB3
  have bL := hB3 L _ (FB.at_new _ _ _)
  obtain ⟨l0, l1, l2, lf0, lf1, lf2, llt⟩ := row3 bL
  obtain ⟨p0, p1, p2, p3, p4, p5, ltS⟩ := row6 (hC.2 _ mcS); have yW : WayAt _ B _ _ := (hC.2 _ (mcO _ mcS)); have ylt := yW.lt; obtain ⟨i0, i1, i2⟩ := yW.reg hs
  have hbw := hC.1
  have n1 : w.heap.size ≠ L := by omega
  have n2 : B ≠ L := by omega
  simp only [ptrTo]
  go_wp2_with (first
    | (go_at_call 149; go_must (have hK1 : Blk w [(L, .cells #[vI vK (y.reg s).k, vI vK (y.reg s).l, vI vK (y.reg s).h] 146 (0, 0)), (B, .cells (wayCs p y) 150 (0, 0)), (w.heap.size, .cells #[vI vK c, vI vK d, vI vK s, .bool r, vI vK o, vI vK n] 49 (0, 0))] _ := (((Blk.nil (by repeat' first | with_reducible (first | exact hbw | exact bF _ _ | refine bA ?_ ?_ _ | refine bS ?_ ?_ _ | refine bD ?_ | refine below_setRow ?_ ?_ _) | ((try dsimp only); omega) | (simp; done) | (simp; omega))).cons (off3 (hC.2 _ mcS) n1)).cons (off3 (hC.2 _ (mcO _ mcS)) n2)).cons (put3 bL); refine (HR.out _).mono ?_; rintro e w4 ⟨rfl, hb4⟩; have hK4 := hK1.later hb4; clear l0 l1 l2 lf0 lf1 lf2 llt p0 p1 p2 p3 p4 p5 ltS yW ylt i0 i1 i2; obtain ⟨l0, l1, l2, lf0, lf1, lf2, llt⟩ := row3 (hK4.2 _ mcS); have yW : WayAt _ B _ _ := (hK4.2 _ (mcO _ mcS)); have ylt := yW.lt; obtain ⟨p0, p1, p2, p3, p4, p5, ltS⟩ := row6 (hK4.2 _ (mcO _ (mcO _ mcS)))))
    | (go_at_call 151; go_must (refine (all_is _).mono ?_; rintro e w5 ⟨rfl, hb5⟩; have hK5 := (hK4.add (.cells #[vI vK wl, vI vK wh] 43)).later hb5; clear l0 l1 l2 lf0 lf1 lf2 llt p0 p1 p2 p3 p4 p5 ltS yW ylt; obtain ⟨u0, u1, uf0, uf1, ult⟩ := row2 (hK5.2 _ mcS); obtain ⟨l0, l1, l2, lf0, lf1, lf2, llt⟩ := row3 (hK5.2 _ (mcO _ mcS)); have yW : WayAt _ B _ _ := (hK5.2 _ (mcO _ (mcO _ mcS))); have ylt := yW.lt; obtain ⟨p0, p1, p2, p3, p4, p5, ltS⟩ := row6 (hK5.2 _ (mcO _ (mcO _ (mcO _ mcS))))))
    | (go_at_call 150; go_must (refine (vnumber_any _ _ _).mono ?_; rintro e w6 ⟨rfl, hb6⟩; simp only [Kno.v, knoNum]; have hK6 := hK5.later hb6; clear l0 l1 l2 lf0 lf1 lf2 llt p0 p1 p2 p3 p4 p5 ltS yW ylt u0 u1 uf0 uf1 ult; obtain ⟨u0, u1, uf0, uf1, ult⟩ := row2 (hK6.2 _ mcS); obtain ⟨l0, l1, l2, lf0, lf1, lf2, llt⟩ := row3 (hK6.2 _ (mcO _ mcS)); have yW : WayAt _ B _ _ := (hK6.2 _ (mcO _ (mcO _ mcS))); have ylt := yW.lt; obtain ⟨p0, p1, p2, p3, p4, p5, ltS⟩ := row6 (hK6.2 _ (mcO _ (mcO _ (mcO _ mcS)))); have hbw6 := hK6.1; have hs6 := hbw6.size; have hq6 := ylt; have hq7 := ltS))
    | fail)
  have hK8 : Blk w [(w6.heap.size, .cells #[vI vK 1, vI vK (-9223372036854775808), vI vK 9223372036854775807] 146 (0, 0)), (B, .cells (wayCs p y) 150 (0, 0)), (w.heap.size, .cells #[vI vK c, vI vK d, vI vK s, .bool r, vI vK o, vI vK n] 49 (0, 0))] _ := ((((hK6.add (.cells #[vI vK 1, vI vK (-9223372036854775808), vI vK 9223372036854775807] 146))))).more (fun x hx => by simp only [List.mem_cons, List.not_mem_nil, or_false] at hx ⊢; rcases hx with rfl | rfl | rfl <;> simp)
  clear hC
  refine wp_float (C := Blk w [(w6.heap.size, .cells #[vI vK 1, vI vK (-9223372036854775808), vI vK 9223372036854775807] 146 (0, 0)), (B, .cells (wayCs p y) 150 (0, 0)), (w.heap.size, .cells #[vI vK c, vI vK d, vI vK s, .bool r, vI vK o, vI vK n] 49 (0, 0))]) (n0 := w.heap.size) 7 [] [] (by kernel_rfl) (by kernel_rfl) (fun d _ _ _ _ h => by cases d <;> exact h) (Blk.stable _ _) (Blk.room0 _ _) hK8.drew trivial ?_
  simp only [List.take_succ_cons, List.take_zero, List.drop_succ_cons, List.drop_zero, List.length_nil, Nat.reduceAdd]
  repeat (first
    | (refine wpQ_skip (by rfl) ?_; simp only [Act.put, siA, scZ, scS])
    | (refine wpQ_yield (by rfl) (v := ?_) ?_ ?_; rotate_left; (intro w2 hC; obtain ⟨g0, g1, g2, gf0, gf1, gf2, glt⟩ := row3 (hC.2 _ mcS); have yW : WayAt _ B _ _ := (hC.2 _ (mcO _ mcS)); have ylt := yW.lt; obtain ⟨i0, i1, i2⟩ := yW.reg hd; obtain ⟨p0, p1, p2, p3, p4, p5, ltS⟩ := row6 (hC.2 _ (mcO _ (mcO _ mcS))); go_simp; try with_reducible rfl); simp only [Act.put, siA, scZ, scS]))
  refine wpQ_nil ?_
  intro w9 hC hB9
  obtain ⟨g0, g1, g2, gf0, gf1, gf2, glt⟩ := row3 (hC.2 _ mcS); have yW : WayAt _ B _ _ := (hC.2 _ (mcO _ mcS)); have ylt := yW.lt; obtain ⟨i0, i1, i2⟩ := yW.reg hd; obtain ⟨p0, p1, p2, p3, p4, p5, ltS⟩ := row6 (hC.2 _ (mcO _ (mcO _ mcS)))
  have if0 := yW.frozen (1 + d * 3); have if1 := yW.frozen (1 + d * 3 + 1); have if2 := yW.frozen (1 + d * 3 + 2)
  have HK := kept_below hC.1 B
  go_wp2_with fail
  go_ret
  exact ⟨rfl, (by repeat' first | with_reducible (first | exact HK | refine kept_drew ?_ | refine kept_set ?_ _ _ | refine kept_new ?_ _ _ ?_ | refine kept_alloc ?_ _) | ((try dsimp only); omega) | (simp; omega)), yW.reg3 hd 1 (-9223372036854775808) 9223372036854775807⟩
theorem vload_bad (B d s : Nat) (c o n p : Int) (r : Bool) (y : Way) (hd : d < 11) (hs : s < 11) (wl wh E : Int) (HR : Hid (∀ W : World, Calls Tryz.prog 149 #[.agg #[vI vK (y.reg s).k, vI vK (y.reg s).l, vI vK (y.reg s).h], vI vK o] W fun e w' => e = .returned (.tuple #[.agg #[vI vK wl, vI vK wh], vI vK E]) ∧ Below W.heap.size W w')) (hE : (E == 0) = true) (hk : ((y.reg s).k == 3) = true) (gk gl gh E2 : Int) (HKP : Hid (∀ W : World, WayAt W B p y → Calls Tryz.prog 152 #[.pointer (some ⟨B, 0, none⟩), .agg #[vI vK wl, vI vK wh]] W fun e w' => e = .returned (.tuple #[.agg #[vI vK gk, vI vK gl, vI vK gh], vI vK E2]) ∧ Below W.heap.size W w')) (hE2 : (E2 == 0) = false) (w : World) (hW : WayAt w B p y) :
    Calls Tryz.prog 108 #[.pointer (some ⟨B, 0, none⟩), .agg #[vI vK c, vI vK d, vI vK s, .bool r, vI vK o, vI vK n]] w fun e w' => e = .returned (vI vK E2) ∧ Below w.heap.size w w' := by
  have hK0 : Blk w [(w.heap.size, .cells #[vI vK c, vI vK d, vI vK s, .bool r, vI vK o, vI vK n] 49 (0, 0)), (B, .cells (wayCs p y) 150 (0, 0))] _ := ((Blk.nil ((bF _ _).alloc (Nat.le_refl _) _)).cons (hW.alloc _)).cons (heap_alloc_new w (.cells #[vI vK c, vI vK d, vI vK s, .bool r, vI vK o, vI vK n] 49))
  have hB := hW.lt
  have hs0 : (0 : Int) ≤ (s : Int) := by omega
  have hs1 : (s : Int) < 11 := by omega
  have hd0 : (0 : Int) ≤ (d : Int) := by omega
  have hd1 : (d : Int) < 11 := by omega
  go_enter Tryz.func108, Tryz.ntmps108
  go_wp2_with fail
  refine wp_float (C := Blk w [(w.heap.size, .cells #[vI vK c, vI vK d, vI vK s, .bool r, vI vK o, vI vK n] 49 (0, 0)), (B, .cells (wayCs p y) 150 (0, 0))]) (n0 := w.heap.size + 1) 7 [] [.cells #[vI vK 0, vI vK 0, vI vK 0] 146 (0, 0)] (by kernel_rfl) (by kernel_rfl) (fun d _ _ _ _ h => by cases d <;> exact h) (Blk.stable _ _) (Blk.room w mcS) hK0.drew ⟨⟨rfl, fun a w2 hC => by go_simp; try rfl⟩, trivial⟩ ?_
  simp only [List.take_succ_cons, List.take_zero, List.drop_succ_cons, List.drop_zero, List.length_cons, List.length_nil, Nat.reduceAdd]
  repeat (first
    | (refine wpQ_skip (by rfl) ?_; simp only [Act.put, siA, scZ, scS])
    | (refine wpQ_yield (by rfl) (v := ?_) ?_ ?_; rotate_left; (intro w2 hC; obtain ⟨p0, p1, p2, p3, p4, p5, ltS⟩ := row6 (hC.2 _ mcS); have yW : WayAt _ B _ _ := (hC.2 _ (mcO _ mcS)); have ylt := yW.lt; obtain ⟨i0, i1, i2⟩ := yW.reg hs; go_simp; try with_reducible rfl); simp only [Act.put, siA, scZ, scS]))
  refine wpQ_nil ?_
  intro L h5 g5 w3 hC hB3
  have bL := hB3 L _ (FB.at_new _ _ _)
  obtain ⟨l0, l1, l2, lf0, lf1, lf2, llt⟩ := row3 bL
  obtain ⟨p0, p1, p2, p3, p4, p5, ltS⟩ := row6 (hC.2 _ mcS); have yW : WayAt _ B _ _ := (hC.2 _ (mcO _ mcS)); have ylt := yW.lt; obtain ⟨i0, i1, i2⟩ := yW.reg hs
  have hbw := hC.1
  have n1 : w.heap.size ≠ L := by omega
  have n2 : B ≠ L := by omega
  simp only [ptrTo]
  go_wp2_with (first
    | (go_at_call 149; go_must (have hK1 : Blk w [(L, .cells #[vI vK (y.reg s).k, vI vK (y.reg s).l, vI vK (y.reg s).h] 146 (0, 0)), (B, .cells (wayCs p y) 150 (0, 0)), (w.heap.size, .cells #[vI vK c, vI vK d, vI vK s, .bool r, vI vK o, vI vK n] 49 (0, 0))] _ := (((Blk.nil (by repeat' first | with_reducible (first | exact hbw | exact bF _ _ | refine bA ?_ ?_ _ | refine bS ?_ ?_ _ | refine bD ?_ | refine below_setRow ?_ ?_ _) | ((try dsimp only); omega) | (simp; done) | (simp; omega))).cons (off3 (hC.2 _ mcS) n1)).cons (off3 (hC.2 _ (mcO _ mcS)) n2)).cons (put3 bL); refine (HR.out _).mono ?_; rintro e w4 ⟨rfl, hb4⟩; have hK4 := hK1.later hb4; clear l0 l1 l2 lf0 lf1 lf2 llt p0 p1 p2 p3 p4 p5 ltS yW ylt i0 i1 i2; obtain ⟨l0, l1, l2, lf0, lf1, lf2, llt⟩ := row3 (hK4.2 _ mcS); have yW : WayAt _ B _ _ := (hK4.2 _ (mcO _ mcS)); have ylt := yW.lt; obtain ⟨p0, p1, p2, p3, p4, p5, ltS⟩ := row6 (hK4.2 _ (mcO _ (mcO _ mcS)))))
    | (go_at_call 151; go_must (refine (all_is _).mono ?_; rintro e w5 ⟨rfl, hb5⟩; have hK5 := (hK4.add (.cells #[vI vK wl, vI vK wh] 43)).later hb5; clear l0 l1 l2 lf0 lf1 lf2 llt p0 p1 p2 p3 p4 p5 ltS yW ylt; obtain ⟨u0, u1, uf0, uf1, ult⟩ := row2 (hK5.2 _ mcS); obtain ⟨l0, l1, l2, lf0, lf1, lf2, llt⟩ := row3 (hK5.2 _ (mcO _ mcS)); have yW : WayAt _ B _ _ := (hK5.2 _ (mcO _ (mcO _ mcS))); have ylt := yW.lt; obtain ⟨p0, p1, p2, p3, p4, p5, ltS⟩ := row6 (hK5.2 _ (mcO _ (mcO _ (mcO _ mcS))))))
    | (go_at_call 150; go_must (refine (vnumber_any _ _ _).mono ?_; rintro e w6 ⟨rfl, hb6⟩; simp only [Kno.v, knoNum]; have hK6 := hK5.later hb6; clear l0 l1 l2 lf0 lf1 lf2 llt p0 p1 p2 p3 p4 p5 ltS yW ylt u0 u1 uf0 uf1 ult; obtain ⟨u0, u1, uf0, uf1, ult⟩ := row2 (hK6.2 _ mcS); obtain ⟨l0, l1, l2, lf0, lf1, lf2, llt⟩ := row3 (hK6.2 _ (mcO _ mcS)); have yW : WayAt _ B _ _ := (hK6.2 _ (mcO _ (mcO _ mcS))); have ylt := yW.lt; obtain ⟨p0, p1, p2, p3, p4, p5, ltS⟩ := row6 (hK6.2 _ (mcO _ (mcO _ (mcO _ mcS)))); have hbw6 := hK6.1; have hs6 := hbw6.size; have hq6 := ylt; have hq7 := ltS))
    | (go_at_call 152; go_must (have hKG := (((hK6.add (.cells #[vI vK 1, vI vK (-9223372036854775808), vI vK 9223372036854775807] 146)))); refine (HKP.out _ (hKG.2 _ (mcO _ (mcO _ (mcO _ mcS))))).mono ?_; rintro e w7 ⟨rfl, hb7⟩; have hK7 := hKG.later hb7; clear l0 l1 l2 lf0 lf1 lf2 llt p0 p1 p2 p3 p4 p5 ltS yW ylt u0 u1 uf0 uf1 ult; obtain ⟨g0, g1, g2, gf0, gf1, gf2, glt⟩ := row3 (hK7.2 _ mcS); obtain ⟨u0, u1, uf0, uf1, ult⟩ := row2 (hK7.2 _ (mcO _ mcS)); obtain ⟨l0, l1, l2, lf0, lf1, lf2, llt⟩ := row3 (hK7.2 _ (mcO _ (mcO _ mcS))); have yW : WayAt _ B _ _ := (hK7.2 _ (mcO _ (mcO _ (mcO _ mcS)))); have ylt := yW.lt; obtain ⟨i0, i1, i2⟩ := yW.reg hd; obtain ⟨p0, p1, p2, p3, p4, p5, ltS⟩ := row6 (hK7.2 _ (mcO _ (mcO _ (mcO _ (mcO _ mcS))))); have hbw7 := hK7.1))
    | fail)
  go_ret
  exact ⟨rfl, (by repeat' first | with_reducible (first | exact hbw7 | exact bF _ _ | refine bA ?_ ?_ _ | refine bS ?_ ?_ _ | refine bD ?_ | refine below_setRow ?_ ?_ _) | ((try dsimp only); omega) | (simp; done) | (simp; omega))⟩
theorem vload_slot (B d s : Nat) (c o n p : Int) (r : Bool) (y : Way) (hd : d < 11) (hs : s < 11) (wl wh E : Int) (HR : Hid (∀ W : World, Calls Tryz.prog 149 #[.agg #[vI vK (y.reg s).k, vI vK (y.reg s).l, vI vK (y.reg s).h], vI vK o] W fun e w' => e = .returned (.tuple #[.agg #[vI vK wl, vI vK wh], vI vK E]) ∧ Below W.heap.size W w')) (hE : (E == 0) = true) (hk : ((y.reg s).k == 3) = true) (gk gl gh E2 : Int) (HKP : Hid (∀ W : World, WayAt W B p y → Calls Tryz.prog 152 #[.pointer (some ⟨B, 0, none⟩), .agg #[vI vK wl, vI vK wh]] W fun e w' => e = .returned (.tuple #[.agg #[vI vK gk, vI vK gl, vI vK gh], vI vK E2]) ∧ Below W.heap.size W w')) (hE2 : (E2 == 0) = true) (w : World) (hW : WayAt w B p y) :
    Calls Tryz.prog 108 #[.pointer (some ⟨B, 0, none⟩), .agg #[vI vK c, vI vK d, vI vK s, .bool r, vI vK o, vI vK n]] w fun e w' => e = .returned (vI vK E2) ∧ Kept B w w' ∧ WayAt w' B p (y.putReg d ⟨gk, gl, gh⟩) := by
  have hK0 : Blk w [(w.heap.size, .cells #[vI vK c, vI vK d, vI vK s, .bool r, vI vK o, vI vK n] 49 (0, 0)), (B, .cells (wayCs p y) 150 (0, 0))] _ := ((Blk.nil ((bF _ _).alloc (Nat.le_refl _) _)).cons (hW.alloc _)).cons (heap_alloc_new w (.cells #[vI vK c, vI vK d, vI vK s, .bool r, vI vK o, vI vK n] 49))
  have hB := hW.lt
  have hs0 : (0 : Int) ≤ (s : Int) := by omega
  have hs1 : (s : Int) < 11 := by omega
  have hd0 : (0 : Int) ≤ (d : Int) := by omega
  have hd1 : (d : Int) < 11 := by omega
  go_enter Tryz.func108, Tryz.ntmps108
  go_wp2_with fail
  refine wp_float (C := Blk w [(w.heap.size, .cells #[vI vK c, vI vK d, vI vK s, .bool r, vI vK o, vI vK n] 49 (0, 0)), (B, .cells (wayCs p y) 150 (0, 0))]) (n0 := w.heap.size + 1) 7 [] [.cells #[vI vK 0, vI vK 0, vI vK 0] 146 (0, 0)] (by kernel_rfl) (by kernel_rfl) (fun d _ _ _ _ h => by cases d <;> exact h) (Blk.stable _ _) (Blk.room w mcS) hK0.drew ⟨⟨rfl, fun a w2 hC => by go_simp; try rfl⟩, trivial⟩ ?_
  simp only [List.take_succ_cons, List.take_zero, List.drop_succ_cons, List.drop_zero, List.length_cons, List.length_nil, Nat.reduceAdd]
  repeat (first
    | (refine wpQ_skip (by rfl) ?_; simp only [Act.put, siA, scZ, scS])
    | (refine wpQ_yield (by rfl) (v := ?_) ?_ ?_; rotate_left; (intro w2 hC; obtain ⟨p0, p1, p2, p3, p4, p5, ltS⟩ := row6 (hC.2 _ mcS); have yW : WayAt _ B _ _ := (hC.2 _ (mcO _ mcS)); have ylt := yW.lt; obtain ⟨i0, i1, i2⟩ := yW.reg hs; go_simp; try with_reducible rfl); simp only [Act.put, siA, scZ, scS]))
  refine wpQ_nil ?_
  intro L h5 g5 w3 hC hB3
  have bL := hB3 L _ (FB.at_new _ _ _)
  obtain ⟨l0, l1, l2, lf0, lf1, lf2, llt⟩ := row3 bL
  obtain ⟨p0, p1, p2, p3, p4, p5, ltS⟩ := row6 (hC.2 _ mcS); have yW : WayAt _ B _ _ := (hC.2 _ (mcO _ mcS)); have ylt := yW.lt; obtain ⟨i0, i1, i2⟩ := yW.reg hs
  have hbw := hC.1
  have n1 : w.heap.size ≠ L := by omega
  have n2 : B ≠ L := by omega
  simp only [ptrTo]
  go_wp2_with (first
    | (go_at_call 149; go_must (have hK1 : Blk w [(L, .cells #[vI vK (y.reg s).k, vI vK (y.reg s).l, vI vK (y.reg s).h] 146 (0, 0)), (B, .cells (wayCs p y) 150 (0, 0)), (w.heap.size, .cells #[vI vK c, vI vK d, vI vK s, .bool r, vI vK o, vI vK n] 49 (0, 0))] _ := (((Blk.nil (by repeat' first | with_reducible (first | exact hbw | exact bF _ _ | refine bA ?_ ?_ _ | refine bS ?_ ?_ _ | refine bD ?_ | refine below_setRow ?_ ?_ _) | ((try dsimp only); omega) | (simp; done) | (simp; omega))).cons (off3 (hC.2 _ mcS) n1)).cons (off3 (hC.2 _ (mcO _ mcS)) n2)).cons (put3 bL); refine (HR.out _).mono ?_; rintro e w4 ⟨rfl, hb4⟩; have hK4 := hK1.later hb4; clear l0 l1 l2 lf0 lf1 lf2 llt p0 p1 p2 p3 p4 p5 ltS yW ylt i0 i1 i2; obtain ⟨l0, l1, l2, lf0, lf1, lf2, llt⟩ := row3 (hK4.2 _ mcS); have yW : WayAt _ B _ _ := (hK4.2 _ (mcO _ mcS)); have ylt := yW.lt; obtain ⟨p0, p1, p2, p3, p4, p5, ltS⟩ := row6 (hK4.2 _ (mcO _ (mcO _ mcS)))))
    | (go_at_call 151; go_must (refine (all_is _).mono ?_; rintro e w5 ⟨rfl, hb5⟩; have hK5 := (hK4.add (.cells #[vI vK wl, vI vK wh] 43)).later hb5; clear l0 l1 l2 lf0 lf1 lf2 llt p0 p1 p2 p3 p4 p5 ltS yW ylt; obtain ⟨u0, u1, uf0, uf1, ult⟩ := row2 (hK5.2 _ mcS); obtain ⟨l0, l1, l2, lf0, lf1, lf2, llt⟩ := row3 (hK5.2 _ (mcO _ mcS)); have yW : WayAt _ B _ _ := (hK5.2 _ (mcO _ (mcO _ mcS))); have ylt := yW.lt; obtain ⟨p0, p1, p2, p3, p4, p5, ltS⟩ := row6 (hK5.2 _ (mcO _ (mcO _ (mcO _ mcS))))))
    | (go_at_call 150; go_must (refine (vnumber_any _ _ _).mono ?_; rintro e w6 ⟨rfl, hb6⟩; simp only [Kno.v, knoNum]; have hK6 := hK5.later hb6; clear l0 l1 l2 lf0 lf1 lf2 llt p0 p1 p2 p3 p4 p5 ltS yW ylt u0 u1 uf0 uf1 ult; obtain ⟨u0, u1, uf0, uf1, ult⟩ := row2 (hK6.2 _ mcS); obtain ⟨l0, l1, l2, lf0, lf1, lf2, llt⟩ := row3 (hK6.2 _ (mcO _ mcS)); have yW : WayAt _ B _ _ := (hK6.2 _ (mcO _ (mcO _ mcS))); have ylt := yW.lt; obtain ⟨p0, p1, p2, p3, p4, p5, ltS⟩ := row6 (hK6.2 _ (mcO _ (mcO _ (mcO _ mcS)))); have hbw6 := hK6.1; have hs6 := hbw6.size; have hq6 := ylt; have hq7 := ltS))
    | (go_at_call 152; go_must (have hKG := (((hK6.add (.cells #[vI vK 1, vI vK (-9223372036854775808), vI vK 9223372036854775807] 146)))); refine (HKP.out _ (hKG.2 _ (mcO _ (mcO _ (mcO _ mcS))))).mono ?_; rintro e w7 ⟨rfl, hb7⟩; have hK7 := hKG.later hb7; clear l0 l1 l2 lf0 lf1 lf2 llt p0 p1 p2 p3 p4 p5 ltS yW ylt u0 u1 uf0 uf1 ult; obtain ⟨g0, g1, g2, gf0, gf1, gf2, glt⟩ := row3 (hK7.2 _ mcS); obtain ⟨u0, u1, uf0, uf1, ult⟩ := row2 (hK7.2 _ (mcO _ mcS)); obtain ⟨l0, l1, l2, lf0, lf1, lf2, llt⟩ := row3 (hK7.2 _ (mcO _ (mcO _ mcS))); have yW : WayAt _ B _ _ := (hK7.2 _ (mcO _ (mcO _ (mcO _ mcS)))); have ylt := yW.lt; obtain ⟨i0, i1, i2⟩ := yW.reg hd; obtain ⟨p0, p1, p2, p3, p4, p5, ltS⟩ := row6 (hK7.2 _ (mcO _ (mcO _ (mcO _ (mcO _ mcS))))); have hbw7 := hK7.1))
    | fail)
  have hK8 : Blk w [(w6.heap.size, .cells #[vI vK gk, vI vK gl, vI vK gh] 146 (0, 0)), (B, .cells (wayCs p y) 150 (0, 0)), (w.heap.size, .cells #[vI vK c, vI vK d, vI vK s, .bool r, vI vK o, vI vK n] 49 (0, 0))] _ := ((Blk.nil (by repeat' first | with_reducible (first | exact hbw7 | exact bF _ _ | refine bA ?_ ?_ _ | refine bS ?_ ?_ _ | refine bD ?_ | refine below_setRow ?_ ?_ _) | ((try dsimp only); omega) | (simp; done) | (simp; omega))).cons (off3 (hK7.2 _ (mcO _ (mcO _ (mcO _ (mcO _ mcS))))) (by omega))).cons (off3 (hK7.2 _ (mcO _ (mcO _ (mcO _ mcS)))) (by omega)) |>.cons (put3 (hK7.2 _ mcS))
  clear hC
  refine wp_float (C := Blk w [(w6.heap.size, .cells #[vI vK gk, vI vK gl, vI vK gh] 146 (0, 0)), (B, .cells (wayCs p y) 150 (0, 0)), (w.heap.size, .cells #[vI vK c, vI vK d, vI vK s, .bool r, vI vK o, vI vK n] 49 (0, 0))]) (n0 := w.heap.size) 7 [] [] (by kernel_rfl) (by kernel_rfl) (fun d _ _ _ _ h => by cases d <;> exact h) (Blk.stable _ _) (Blk.room0 _ _) hK8.drew trivial ?_
  simp only [List.take_succ_cons, List.take_zero, List.drop_succ_cons, List.drop_zero, List.length_nil, Nat.reduceAdd]
  repeat (first
    | (refine wpQ_skip (by rfl) ?_; simp only [Act.put, siA, scZ, scS])
    | (refine wpQ_yield (by rfl) (v := ?_) ?_ ?_; rotate_left; (intro w2 hC; obtain ⟨g0, g1, g2, gf0, gf1, gf2, glt⟩ := row3 (hC.2 _ mcS); have yW : WayAt _ B _ _ := (hC.2 _ (mcO _ mcS)); have ylt := yW.lt; obtain ⟨i0, i1, i2⟩ := yW.reg hd; obtain ⟨p0, p1, p2, p3, p4, p5, ltS⟩ := row6 (hC.2 _ (mcO _ (mcO _ mcS))); go_simp; try with_reducible rfl); simp only [Act.put, siA, scZ, scS]))
  refine wpQ_nil ?_
  intro w9 hC hB9
  obtain ⟨g0, g1, g2, gf0, gf1, gf2, glt⟩ := row3 (hC.2 _ mcS); have yW : WayAt _ B _ _ := (hC.2 _ (mcO _ mcS)); have ylt := yW.lt; obtain ⟨i0, i1, i2⟩ := yW.reg hd; obtain ⟨p0, p1, p2, p3, p4, p5, ltS⟩ := row6 (hC.2 _ (mcO _ (mcO _ mcS)))
  have if0 := yW.frozen (1 + d * 3); have if1 := yW.frozen (1 + d * 3 + 1); have if2 := yW.frozen (1 + d * 3 + 2)
  have HK := kept_below hC.1 B
  go_wp2_with fail
  go_ret
  exact ⟨rfl, (by repeat' first | with_reducible (first | exact HK | refine kept_drew ?_ | refine kept_set ?_ _ _ | refine kept_new ?_ _ _ ?_ | refine kept_alloc ?_ _) | ((try dsimp only); omega) | (simp; omega)), yW.reg3 hd gk gl gh⟩
theorem vload_all {B d s : Nat} {c o n p : Int} {r : Bool} {y : Way} (hd : d < 11) (hs : s < 11) (hy : y.Ok) (ho : In64 o) {w : World} (hW : WayAt w B p y) :
    Calls Tryz.prog 108 #[.pointer (some ⟨B, 0, none⟩), .agg #[vI vK c, vI vK d, vI vK s, .bool r, vI vK o, vI vK n]] w fun e w' => e = .returned (vI vK (y.load d s o).1) ∧ Kept B w w' ∧ WayAt w' B p (y.load d s o).2 := by
  have HR := fun W : World => vreach_any (y.reg s) o (hy.reg s hs) ho W
  unfold Way.load
  rcases e : knoReach (y.reg s) o with ⟨⟨wl, wh⟩, E⟩
  rw [e] at HR
  by_cases hE : E = 0
  · subst hE
    rw [if_neg (by simp)]
    have er : (knoReach (y.reg s) o).2 = 0 := by rw [e]
    obtain ⟨-, e1, r1, r2⟩ := knoReach_in er
    have ot := knoTo_ok (hy.reg s hs) ho
    rw [e] at e1
    rw [← e1] at r1 r2 ot
    by_cases h3 : (y.reg s).k = 3
    · rw [if_pos h3]
      rw [h3] at r1 r2
      have HKP := fun (W : World) (h : WayAt W B p y) => vkept_any B wl wh p y r1 ot r2 W h
      show Calls _ _ _ _ fun e w' => e = .returned (vI vK (if (y.kept (wl, wh)).2 ≠ 0 then ((y.kept (wl, wh)).2, y) else (0, y.putReg d (y.kept (wl, wh)).1) : Int × Way).1) ∧ Kept B w w' ∧ WayAt w' B p (if (y.kept (wl, wh)).2 ≠ 0 then ((y.kept (wl, wh)).2, y) else (0, y.putReg d (y.kept (wl, wh)).1) : Int × Way).2
      rcases ek : y.kept (wl, wh) with ⟨⟨gk, gl, gh⟩, E2⟩
      rw [ek] at HKP
      by_cases hE2 : E2 = 0
      · subst hE2
        rw [if_neg (by simp)]
        exact vload_slot B d s c o n p r y hd hs wl wh 0 HR rfl (by simpa using h3) gk gl gh 0 HKP rfl w hW
      · rw [if_pos hE2]
        exact (vload_bad B d s c o n p r y hd hs wl wh 0 HR rfl (by simpa using h3) gk gl gh E2 HKP (by simpa using hE2) w hW).mono fun e w' ⟨h1, h2⟩ => ⟨h1, kept_below h2 B, hW.later h2⟩
    · rw [if_neg h3]
      exact vload_any B d s c o n p r y hd hs wl wh 0 HR rfl (by simpa using h3) w hW
  · rw [if_pos hE]
    exact (vload_no B d s c o n p r y hd hs wl wh E HR (by simpa using hE) w hW).mono fun e w' ⟨h1, h2⟩ => ⟨h1, kept_below h2 B, hW.later h2⟩
theorem vstore_early (B d s : Nat) (c o n p : Int) (r : Bool) (y : Way) (hd : d < 11) (hs : s < 11) (bk bl bh : Int) (HB : Hid (y.second s r n = ⟨bk, bl, bh⟩)) (wl wh E : Int) (HR : Hid (∀ W : World, Calls Tryz.prog 149 #[.agg #[vI vK (y.reg d).k, vI vK (y.reg d).l, vI vK (y.reg d).h], vI vK o] W fun e w' => e = .returned (.tuple #[.agg #[vI vK wl, vI vK wh], vI vK E]) ∧ Below W.heap.size W w')) (X : Int) (HX : Hid (((E != 0) = true ∧ X = E) ∨ ((E != 0) = false ∧ ((y.reg d).k == 2) = true ∧ X = 6) ∨ ((E != 0) = false ∧ ((y.reg d).k == 2) = false ∧ (bk == 0) = true ∧ X = 8) ∨ ((E != 0) = false ∧ ((y.reg d).k == 2) = false ∧ (bk == 0) = false ∧ ((y.reg d).k == 4) = true ∧ X = knoWant ⟨bk, bl, bh⟩))) (w : World) (hW : WayAt w B p y) :
    Calls Tryz.prog 109 #[.pointer (some ⟨B, 0, none⟩), .agg #[vI vK c, vI vK d, vI vK s, .bool r, vI vK o, vI vK n]] w fun e w' => e = .returned (vI vK X) ∧ Below w.heap.size w w' := by
  have hK0 : Blk w [(w.heap.size, .cells #[vI vK c, vI vK d, vI vK s, .bool r, vI vK o, vI vK n] 49 (0, 0)), (B, .cells (wayCs p y) 150 (0, 0))] _ := ((Blk.nil ((bF _ _).alloc (Nat.le_refl _) _)).cons (hW.alloc _)).cons (heap_alloc_new w (.cells #[vI vK c, vI vK d, vI vK s, .bool r, vI vK o, vI vK n] 49))
  have hB := hW.lt
  have hs0 : (0 : Int) ≤ (s : Int) := by omega
  have hs1 : (s : Int) < 11 := by omega
  have hd0 : (0 : Int) ≤ (d : Int) := by omega
  have hd1 : (d : Int) < 11 := by omega
  go_enter Tryz.func109, Tryz.ntmps109
  go_wp2_with fail
  refine wp_float (C := Blk w [(w.heap.size, .cells #[vI vK c, vI vK d, vI vK s, .bool r, vI vK o, vI vK n] 49 (0, 0)), (B, .cells (wayCs p y) 150 (0, 0))]) (n0 := w.heap.size + 1) 10 [] [.cells #[vI vK 0, vI vK 0, vI vK 0] 146 (0, 0), .cells #[vI vK 0, vI vK 0, vI vK 0] 146 (0, 0)] (by kernel_rfl) (by kernel_rfl) (fun d _ _ _ _ h => by cases d <;> exact h) (Blk.stable _ _) (Blk.room w mcS) hK0.drew ⟨⟨rfl, fun a w2 hC => by go_simp; try rfl⟩, ⟨rfl, fun a w2 hC => by go_simp; try rfl⟩, trivial⟩ ?_
  simp only [List.take_succ_cons, List.take_zero, List.drop_succ_cons, List.drop_zero, List.length_cons, List.length_nil, Nat.reduceAdd]
  repeat (first
    | (refine wpQ_skip (by rfl) ?_; simp only [Act.put, siA, scZ, scS])
    | (refine wpQ_yield (by rfl) (v := ?_) ?_ ?_; rotate_left; (intro w2 hC; obtain ⟨p0, p1, p2, p3, p4, p5, ltS⟩ := row6 (hC.2 _ mcS); have yW : WayAt _ B _ _ := (hC.2 _ (mcO _ mcS)); have ylt := yW.lt; obtain ⟨i0, i1, i2⟩ := yW.reg hd; go_simp; try with_reducible rfl); simp only [Act.put, siA, scZ, scS])
    | (refine wpQ_enter (by rfl) ?_; apply Exists.intro; refine ⟨fun w2 hC => ?_, ?_⟩; (obtain ⟨p0, p1, p2, p3, p4, p5, ltS⟩ := row6 (hC.2 _ mcS); have yW : WayAt _ B _ _ := (hC.2 _ (mcO _ mcS)); have ylt := yW.lt; obtain ⟨i0, i1, i2⟩ := yW.reg hd; go_simp; apply qb_enter; first | (go_at_call 146; exact (by have hq := vsecond_any B s c d o n r p y hs w2 yW; rw [HB.out] at hq; unfold Kno.v at hq; exact hq))); simp only [Act.put, siA, scZ, scS]))
  refine wpQ_nil ?_
  intro L h5 g5 K h6 g6 w3 hC hB3
  have hne : K ≠ L := (FB.upd_none h6).1
  have hne' : L ≠ K := fun e => hne e.symm
  have bK := hB3 K _ (FB.at_new _ _ _)
  have bL := hB3 L _ (FB.at_old hne' (FB.at_new _ _ _))
  obtain ⟨l0, l1, l2, lf0, lf1, lf2, llt⟩ := row3 bL
  obtain ⟨k0, k1, k2, kf0, kf1, kf2, klt⟩ := row3 bK
  obtain ⟨p0, p1, p2, p3, p4, p5, ltS⟩ := row6 (hC.2 _ mcS); have yW : WayAt _ B _ _ := (hC.2 _ (mcO _ mcS)); have ylt := yW.lt; obtain ⟨i0, i1, i2⟩ := yW.reg hd
  have hbw := hC.1
  have n1 : w.heap.size ≠ L := by omega
  have n2 : B ≠ L := by omega
  have n3 : w.heap.size ≠ K := by omega
  have n4 : B ≠ K := by omega
  simp only [ptrTo]
  go_upto_region 3 with (first
    | (go_at_call 149; go_must (have hK1 : Blk w [(L, .cells #[vI vK (y.reg d).k, vI vK (y.reg d).l, vI vK (y.reg d).h] 146 (0, 0)), (K, .cells #[vI vK bk, vI vK bl, vI vK bh] 146 (0, 0)), (B, .cells (wayCs p y) 150 (0, 0)), (w.heap.size, .cells #[vI vK c, vI vK d, vI vK s, .bool r, vI vK o, vI vK n] 49 (0, 0))] _ := ((((Blk.nil (by repeat' first | with_reducible (first | exact hbw | exact bF _ _ | refine bA ?_ ?_ _ | refine bS ?_ ?_ _ | refine bD ?_ | refine below_setRow ?_ ?_ _) | ((try dsimp only); omega) | (simp; done) | (simp; omega))).cons (off3 (off3 (hC.2 _ mcS) n1) n3)).cons (off3 (off3 (hC.2 _ (mcO _ mcS)) n2) n4)).cons (put3 (off3 bK hne))).cons (off3 (put3 bL) hne'); refine (HR.out _).mono ?_; rintro e w4 ⟨rfl, hb4⟩; have hK4 := hK1.later hb4; clear l0 l1 l2 lf0 lf1 lf2 llt k0 k1 k2 kf0 kf1 kf2 klt p0 p1 p2 p3 p4 p5 ltS yW ylt i0 i1 i2; obtain ⟨l0, l1, l2, lf0, lf1, lf2, llt⟩ := row3 (hK4.2 _ mcS); obtain ⟨k0, k1, k2, kf0, kf1, kf2, klt⟩ := row3 (hK4.2 _ (mcO _ mcS)); have yW : WayAt _ B _ _ := (hK4.2 _ (mcO _ (mcO _ mcS))); have ylt := yW.lt; obtain ⟨p0, p1, p2, p3, p4, p5, ltS⟩ := row6 (hK4.2 _ (mcO _ (mcO _ (mcO _ mcS)))); have hbw4 := hK4.1))
    | fail)
  rcases HX.out with ⟨hE, rfl⟩ | ⟨hE, x2, rfl⟩ | ⟨hE, x2, x3, rfl⟩ | ⟨hE, x2, x3, x4, rfl⟩
  · go_wp2_with fail
    go_ret
    exact ⟨rfl, (by repeat' first | with_reducible (first | exact hbw4 | exact bF _ _ | refine bA ?_ ?_ _ | refine bS ?_ ?_ _ | refine bD ?_ | refine below_setRow ?_ ?_ _) | ((try dsimp only); omega) | (simp; done) | (simp; omega))⟩
  · go_wp2_with fail
    go_ret
    exact ⟨rfl, (by repeat' first | with_reducible (first | exact hbw4 | exact bF _ _ | refine bA ?_ ?_ _ | refine bS ?_ ?_ _ | refine bD ?_ | refine below_setRow ?_ ?_ _) | ((try dsimp only); omega) | (simp; done) | (simp; omega))⟩
  · go_wp2_with fail
    go_ret
    exact ⟨rfl, (by repeat' first | with_reducible (first | exact hbw4 | exact bF _ _ | refine bA ?_ ?_ _ | refine bS ?_ ?_ _ | refine bD ?_ | refine below_setRow ?_ ?_ _) | ((try dsimp only); omega) | (simp; done) | (simp; omega))⟩
  · go_wp2_with (first | (go_at_call 107; go_must (refine (vwant_any bk bl bh _).mono ?_; rintro e w5 ⟨rfl, hb5⟩; have hbw4 := ((hK4.add (.cells #[vI vK wl, vI vK wh] 43)).later hb5).1)) | fail)
    go_ret
    exact ⟨rfl, (by repeat' first | with_reducible (first | exact hbw4 | exact bF _ _ | refine bA ?_ ?_ _ | refine bS ?_ ?_ _ | refine bD ?_ | refine below_setRow ?_ ?_ _) | ((try dsimp only); omega) | (simp; done) | (simp; omega))⟩
theorem vstore_wide (B d s : Nat) (c o n p : Int) (r : Bool) (y : Way) (hd : d < 11) (hs : s < 11) (bk bl bh : Int) (HB : Hid (y.second s r n = ⟨bk, bl, bh⟩)) (wl wh E : Int) (HR : Hid (∀ W : World, Calls Tryz.prog 149 #[.agg #[vI vK (y.reg d).k, vI vK (y.reg d).l, vI vK (y.reg d).h], vI vK o] W fun e w' => e = .returned (.tuple #[.agg #[vI vK wl, vI vK wh], vI vK E]) ∧ Below W.heap.size W w')) (hE : (E != 0) = false) (x2 : ((y.reg d).k == 2) = false) (x3 : (bk == 0) = false) (x4 : ((y.reg d).k == 4) = false) (hwide : ¬ wh = wl) (w : World) (hW : WayAt w B p y) :
    Calls Tryz.prog 109 #[.pointer (some ⟨B, 0, none⟩), .agg #[vI vK c, vI vK d, vI vK s, .bool r, vI vK o, vI vK n]] w fun e w' => e = .returned (vI vK 2) ∧ Below w.heap.size w w' := by
  have hK0 : Blk w [(w.heap.size, .cells #[vI vK c, vI vK d, vI vK s, .bool r, vI vK o, vI vK n] 49 (0, 0)), (B, .cells (wayCs p y) 150 (0, 0))] _ := ((Blk.nil ((bF _ _).alloc (Nat.le_refl _) _)).cons (hW.alloc _)).cons (heap_alloc_new w (.cells #[vI vK c, vI vK d, vI vK s, .bool r, vI vK o, vI vK n] 49))
  have hB := hW.lt
  have hs0 : (0 : Int) ≤ (s : Int) := by omega
  have hs1 : (s : Int) < 11 := by omega
  have hd0 : (0 : Int) ≤ (d : Int) := by omega
  have hd1 : (d : Int) < 11 := by omega
  go_enter Tryz.func109, Tryz.ntmps109
  go_wp2_with fail
  refine wp_float (C := Blk w [(w.heap.size, .cells #[vI vK c, vI vK d, vI vK s, .bool r, vI vK o, vI vK n] 49 (0, 0)), (B, .cells (wayCs p y) 150 (0, 0))]) (n0 := w.heap.size + 1) 10 [] [.cells #[vI vK 0, vI vK 0, vI vK 0] 146 (0, 0), .cells #[vI vK 0, vI vK 0, vI vK 0] 146 (0, 0)] (by kernel_rfl) (by kernel_rfl) (fun d _ _ _ _ h => by cases d <;> exact h) (Blk.stable _ _) (Blk.room w mcS) hK0.drew ⟨⟨rfl, fun a w2 hC => by go_simp; try rfl⟩, ⟨rfl, fun a w2 hC => by go_simp; try rfl⟩, trivial⟩ ?_
  simp only [List.take_succ_cons, List.take_zero, List.drop_succ_cons, List.drop_zero, List.length_cons, List.length_nil, Nat.reduceAdd]
  repeat (first
    | (refine wpQ_skip (by rfl) ?_; simp only [Act.put, siA, scZ, scS])
    | (refine wpQ_yield (by rfl) (v := ?_) ?_ ?_; rotate_left; (intro w2 hC; obtain ⟨p0, p1, p2, p3, p4, p5, ltS⟩ := row6 (hC.2 _ mcS); have yW : WayAt _ B _ _ := (hC.2 _ (mcO _ mcS)); have ylt := yW.lt; obtain ⟨i0, i1, i2⟩ := yW.reg hd; go_simp; try with_reducible rfl); simp only [Act.put, siA, scZ, scS])
    | (refine wpQ_enter (by rfl) ?_; apply Exists.intro; refine ⟨fun w2 hC => ?_, ?_⟩; (obtain ⟨p0, p1, p2, p3, p4, p5, ltS⟩ := row6 (hC.2 _ mcS); have yW : WayAt _ B _ _ := (hC.2 _ (mcO _ mcS)); have ylt := yW.lt; obtain ⟨i0, i1, i2⟩ := yW.reg hd; go_simp; apply qb_enter; first | (go_at_call 146; exact (by have hq := vsecond_any B s c d o n r p y hs w2 yW; rw [HB.out] at hq; unfold Kno.v at hq; exact hq))); simp only [Act.put, siA, scZ, scS]))
  refine wpQ_nil ?_
  intro L h5 g5 K h6 g6 w3 hC hB3
  have hne : K ≠ L := (FB.upd_none h6).1
  have hne' : L ≠ K := fun e => hne e.symm
  have bK := hB3 K _ (FB.at_new _ _ _)
  have bL := hB3 L _ (FB.at_old hne' (FB.at_new _ _ _))
  obtain ⟨l0, l1, l2, lf0, lf1, lf2, llt⟩ := row3 bL
  obtain ⟨k0, k1, k2, kf0, kf1, kf2, klt⟩ := row3 bK
  obtain ⟨p0, p1, p2, p3, p4, p5, ltS⟩ := row6 (hC.2 _ mcS); have yW : WayAt _ B _ _ := (hC.2 _ (mcO _ mcS)); have ylt := yW.lt; obtain ⟨i0, i1, i2⟩ := yW.reg hd
  have hbw := hC.1
  have n1 : w.heap.size ≠ L := by omega
  have n2 : B ≠ L := by omega
  have n3 : w.heap.size ≠ K := by omega
  have n4 : B ≠ K := by omega
  simp only [ptrTo]
  go_wp2_with (first
    | (go_at_call 149; go_must (have hK1 : Blk w [(L, .cells #[vI vK (y.reg d).k, vI vK (y.reg d).l, vI vK (y.reg d).h] 146 (0, 0)), (K, .cells #[vI vK bk, vI vK bl, vI vK bh] 146 (0, 0)), (B, .cells (wayCs p y) 150 (0, 0)), (w.heap.size, .cells #[vI vK c, vI vK d, vI vK s, .bool r, vI vK o, vI vK n] 49 (0, 0))] _ := ((((Blk.nil (by repeat' first | with_reducible (first | exact hbw | exact bF _ _ | refine bA ?_ ?_ _ | refine bS ?_ ?_ _ | refine bD ?_ | refine below_setRow ?_ ?_ _) | ((try dsimp only); omega) | (simp; done) | (simp; omega))).cons (off3 (off3 (hC.2 _ mcS) n1) n3)).cons (off3 (off3 (hC.2 _ (mcO _ mcS)) n2) n4)).cons (put3 (off3 bK hne))).cons (off3 (put3 bL) hne'); refine (HR.out _).mono ?_; rintro e w4 ⟨rfl, hb4⟩; have hK4 := hK1.later hb4; clear l0 l1 l2 lf0 lf1 lf2 llt k0 k1 k2 kf0 kf1 kf2 klt p0 p1 p2 p3 p4 p5 ltS yW ylt i0 i1 i2; obtain ⟨l0, l1, l2, lf0, lf1, lf2, llt⟩ := row3 (hK4.2 _ mcS); obtain ⟨k0, k1, k2, kf0, kf1, kf2, klt⟩ := row3 (hK4.2 _ (mcO _ mcS)); have yW : WayAt _ B _ _ := (hK4.2 _ (mcO _ (mcO _ mcS))); have ylt := yW.lt; obtain ⟨p0, p1, p2, p3, p4, p5, ltS⟩ := row6 (hK4.2 _ (mcO _ (mcO _ (mcO _ mcS)))); have hbw4 := hK4.1))
    | fail)
  have hK5 := hK4.add (.cells #[vI vK wl, vI vK wh] 43)
  clear hC l0 l1 l2 lf0 lf1 lf2 llt k0 k1 k2 kf0 kf1 kf2 klt p0 p1 p2 p3 p4 p5 ltS yW ylt
  refine wp_float (C := Blk w [(w4.heap.size, .cells #[vI vK wl, vI vK wh] 43 (0, 0)), (L, .cells #[vI vK (y.reg d).k, vI vK (y.reg d).l, vI vK (y.reg d).h] 146 (0, 0)), (K, .cells #[vI vK bk, vI vK bl, vI vK bh] 146 (0, 0)), (B, .cells (wayCs p y) 150 (0, 0)), (w.heap.size, .cells #[vI vK c, vI vK d, vI vK s, .bool r, vI vK o, vI vK n] 49 (0, 0))]) (n0 := w.heap.size) 5 [] [] (by kernel_rfl) (by kernel_rfl) (fun d _ _ _ _ h => by cases d <;> exact h) (Blk.stable _ _) (Blk.room0 _ _) hK5.drew trivial ?_
  simp only [List.take_succ_cons, List.take_zero, List.drop_succ_cons, List.drop_zero, List.length_nil, Nat.reduceAdd]
  repeat (first
    | (refine wpQ_skip (by rfl) ?_; simp only [Act.put, siA, scZ, scS])
    | (refine wpQ_yield (by rfl) (v := ?_) ?_ ?_; rotate_left; (intro w2 hC; obtain ⟨u0, u1, uf0, uf1, ult⟩ := row2 (hC.2 _ mcS); obtain ⟨l0, l1, l2, lf0, lf1, lf2, llt⟩ := row3 (hC.2 _ (mcO _ mcS)); obtain ⟨k0, k1, k2, kf0, kf1, kf2, klt⟩ := row3 (hC.2 _ (mcO _ (mcO _ mcS))); have yW : WayAt _ B _ _ := (hC.2 _ (mcO _ (mcO _ (mcO _ mcS)))); have ylt := yW.lt; obtain ⟨p0, p1, p2, p3, p4, p5, ltS⟩ := row6 (hC.2 _ (mcO _ (mcO _ (mcO _ (mcO _ mcS))))); go_simp; try with_reducible rfl); simp only [Act.put, siA, scZ, scS])
    | (refine wpQ_enter (by rfl) ?_; apply Exists.intro; refine ⟨fun w2 hC => ?_, ?_⟩; (obtain ⟨u0, u1, uf0, uf1, ult⟩ := row2 (hC.2 _ mcS); obtain ⟨l0, l1, l2, lf0, lf1, lf2, llt⟩ := row3 (hC.2 _ (mcO _ mcS)); obtain ⟨k0, k1, k2, kf0, kf1, kf2, klt⟩ := row3 (hC.2 _ (mcO _ (mcO _ mcS))); have yW : WayAt _ B _ _ := (hC.2 _ (mcO _ (mcO _ (mcO _ mcS)))); have ylt := yW.lt; obtain ⟨p0, p1, p2, p3, p4, p5, ltS⟩ := row6 (hC.2 _ (mcO _ (mcO _ (mcO _ (mcO _ mcS))))); go_simp; apply qb_enter; first | (go_at_call 37; exact one_is _ w2)); simp only [Act.put, siA, scZ, scS]))
  refine wpQ_nil ?_
  intro w6 hC hB6
  obtain ⟨u0, u1, uf0, uf1, ult⟩ := row2 (hC.2 _ mcS); obtain ⟨l0, l1, l2, lf0, lf1, lf2, llt⟩ := row3 (hC.2 _ (mcO _ mcS)); obtain ⟨k0, k1, k2, kf0, kf1, kf2, klt⟩ := row3 (hC.2 _ (mcO _ (mcO _ mcS))); have yW : WayAt _ B _ _ := (hC.2 _ (mcO _ (mcO _ (mcO _ mcS)))); have ylt := yW.lt; obtain ⟨p0, p1, p2, p3, p4, p5, ltS⟩ := row6 (hC.2 _ (mcO _ (mcO _ (mcO _ (mcO _ mcS)))))
  have hbw4 := hC.1
  go_wp2_with fail
  go_ret
  exact ⟨rfl, (by repeat' first | with_reducible (first | exact hbw4 | exact bF _ _ | refine bA ?_ ?_ _ | refine bS ?_ ?_ _ | refine bD ?_ | refine below_setRow ?_ ?_ _) | ((try dsimp only); omega) | (simp; done) | (simp; omega))⟩
theorem vstore_slot (B d s : Nat) (c o n p : Int) (r : Bool) (y : Way) (hd : d < 11) (hs : s < 11) (bk bl bh : Int) (HB : Hid (y.second s r n = ⟨bk, bl, bh⟩)) (wl E : Int) (HR : Hid (∀ W : World, Calls Tryz.prog 149 #[.agg #[vI vK (y.reg d).k, vI vK (y.reg d).l, vI vK (y.reg d).h], vI vK o] W fun e w' => e = .returned (.tuple #[.agg #[vI vK wl, vI vK wl], vI vK E]) ∧ Below W.heap.size W w')) (t : Nat) (ht : t < 16) (e1 : IntKind.i64.wrap (wl + 16) = (t : Int)) (hE : (E != 0) = false) (x2 : ((y.reg d).k == 2) = false) (x3 : (bk == 0) = false) (x4 : ((y.reg d).k == 4) = false) (w : World) (hW : WayAt w B p y) :
    Calls Tryz.prog 109 #[.pointer (some ⟨B, 0, none⟩), .agg #[vI vK c, vI vK d, vI vK s, .bool r, vI vK o, vI vK n]] w fun e w' => e = .returned (vI vK 0) ∧ Kept B w w' ∧ WayAt w' B p (y.putSlot t ⟨bk, bl, bh⟩) := by
  have hK0 : Blk w [(w.heap.size, .cells #[vI vK c, vI vK d, vI vK s, .bool r, vI vK o, vI vK n] 49 (0, 0)), (B, .cells (wayCs p y) 150 (0, 0))] _ := ((Blk.nil ((bF _ _).alloc (Nat.le_refl _) _)).cons (hW.alloc _)).cons (heap_alloc_new w (.cells #[vI vK c, vI vK d, vI vK s, .bool r, vI vK o, vI vK n] 49))
  have hB := hW.lt
  have hs0 : (0 : Int) ≤ (s : Int) := by omega
  have hs1 : (s : Int) < 11 := by omega
  have hd0 : (0 : Int) ≤ (d : Int) := by omega
  have hd1 : (d : Int) < 11 := by omega
  have ht0 : (0 : Int) ≤ (t : Int) := by omega
  have ht1 : (t : Int) < 16 := by omega
  go_enter Tryz.func109, Tryz.ntmps109
  go_wp2_with fail
  refine wp_float (C := Blk w [(w.heap.size, .cells #[vI vK c, vI vK d, vI vK s, .bool r, vI vK o, vI vK n] 49 (0, 0)), (B, .cells (wayCs p y) 150 (0, 0))]) (n0 := w.heap.size + 1) 10 [] [.cells #[vI vK 0, vI vK 0, vI vK 0] 146 (0, 0), .cells #[vI vK 0, vI vK 0, vI vK 0] 146 (0, 0)] (by kernel_rfl) (by kernel_rfl) (fun d _ _ _ _ h => by cases d <;> exact h) (Blk.stable _ _) (Blk.room w mcS) hK0.drew ⟨⟨rfl, fun a w2 hC => by go_simp; try rfl⟩, ⟨rfl, fun a w2 hC => by go_simp; try rfl⟩, trivial⟩ ?_
  simp only [List.take_succ_cons, List.take_zero, List.drop_succ_cons, List.drop_zero, List.length_cons, List.length_nil, Nat.reduceAdd]
  repeat (first
    | (refine wpQ_skip (by rfl) ?_; simp only [Act.put, siA, scZ, scS])
    | (refine wpQ_yield (by rfl) (v := ?_) ?_ ?_; rotate_left; (intro w2 hC; obtain ⟨p0, p1, p2, p3, p4, p5, ltS⟩ := row6 (hC.2 _ mcS); have yW : WayAt _ B _ _ := (hC.2 _ (mcO _ mcS)); have ylt := yW.lt; obtain ⟨i0, i1, i2⟩ := yW.reg hd; go_simp; try with_reducible rfl); simp only [Act.put, siA, scZ, scS])
    | (refine wpQ_enter (by rfl) ?_; apply Exists.intro; refine ⟨fun w2 hC => ?_, ?_⟩; (obtain ⟨p0, p1, p2, p3, p4, p5, ltS⟩ := row6 (hC.2 _ mcS); have yW : WayAt _ B _ _ := (hC.2 _ (mcO _ mcS)); have ylt := yW.lt; obtain ⟨i0, i1, i2⟩ := yW.reg hd; go_simp; apply qb_enter; first | (go_at_call 146; exact (by have hq := vsecond_any B s c d o n r p y hs w2 yW; rw [HB.out] at hq; unfold Kno.v at hq; exact hq))); simp only [Act.put, siA, scZ, scS]))
  refine wpQ_nil ?_
  intro L h5 g5 K h6 g6 w3 hC hB3
  have hne : K ≠ L := (FB.upd_none h6).1
  have hne' : L ≠ K := fun e => hne e.symm
  have bK := hB3 K _ (FB.at_new _ _ _)
  have bL := hB3 L _ (FB.at_old hne' (FB.at_new _ _ _))
  obtain ⟨l0, l1, l2, lf0, lf1, lf2, llt⟩ := row3 bL
  obtain ⟨k0, k1, k2, kf0, kf1, kf2, klt⟩ := row3 bK
  obtain ⟨p0, p1, p2, p3, p4, p5, ltS⟩ := row6 (hC.2 _ mcS); have yW : WayAt _ B _ _ := (hC.2 _ (mcO _ mcS)); have ylt := yW.lt; obtain ⟨i0, i1, i2⟩ := yW.reg hd
  have hbw := hC.1
  have n1 : w.heap.size ≠ L := by omega
  have n2 : B ≠ L := by omega
  have n3 : w.heap.size ≠ K := by omega
  have n4 : B ≠ K := by omega
  simp only [ptrTo]
  go_wp2_with (first
    | (go_at_call 149; go_must (have hK1 : Blk w [(L, .cells #[vI vK (y.reg d).k, vI vK (y.reg d).l, vI vK (y.reg d).h] 146 (0, 0)), (K, .cells #[vI vK bk, vI vK bl, vI vK bh] 146 (0, 0)), (B, .cells (wayCs p y) 150 (0, 0)), (w.heap.size, .cells #[vI vK c, vI vK d, vI vK s, .bool r, vI vK o, vI vK n] 49 (0, 0))] _ := ((((Blk.nil (by repeat' first | with_reducible (first | exact hbw | exact bF _ _ | refine bA ?_ ?_ _ | refine bS ?_ ?_ _ | refine bD ?_ | refine below_setRow ?_ ?_ _) | ((try dsimp only); omega) | (simp; done) | (simp; omega))).cons (off3 (off3 (hC.2 _ mcS) n1) n3)).cons (off3 (off3 (hC.2 _ (mcO _ mcS)) n2) n4)).cons (put3 (off3 bK hne))).cons (off3 (put3 bL) hne'); refine (HR.out _).mono ?_; rintro e w4 ⟨rfl, hb4⟩; have hK4 := hK1.later hb4; clear l0 l1 l2 lf0 lf1 lf2 llt k0 k1 k2 kf0 kf1 kf2 klt p0 p1 p2 p3 p4 p5 ltS yW ylt i0 i1 i2; obtain ⟨l0, l1, l2, lf0, lf1, lf2, llt⟩ := row3 (hK4.2 _ mcS); obtain ⟨k0, k1, k2, kf0, kf1, kf2, klt⟩ := row3 (hK4.2 _ (mcO _ mcS)); have yW : WayAt _ B _ _ := (hK4.2 _ (mcO _ (mcO _ mcS))); have ylt := yW.lt; obtain ⟨p0, p1, p2, p3, p4, p5, ltS⟩ := row6 (hK4.2 _ (mcO _ (mcO _ (mcO _ mcS)))); have hbw4 := hK4.1))
    | fail)
  have hK5 := hK4.add (.cells #[vI vK wl, vI vK wl] 43)
  clear hC l0 l1 l2 lf0 lf1 lf2 llt k0 k1 k2 kf0 kf1 kf2 klt p0 p1 p2 p3 p4 p5 ltS yW ylt
  refine wp_float (C := Blk w [(w4.heap.size, .cells #[vI vK wl, vI vK wl] 43 (0, 0)), (L, .cells #[vI vK (y.reg d).k, vI vK (y.reg d).l, vI vK (y.reg d).h] 146 (0, 0)), (K, .cells #[vI vK bk, vI vK bl, vI vK bh] 146 (0, 0)), (B, .cells (wayCs p y) 150 (0, 0)), (w.heap.size, .cells #[vI vK c, vI vK d, vI vK s, .bool r, vI vK o, vI vK n] 49 (0, 0))]) (n0 := w.heap.size) 5 [] [] (by kernel_rfl) (by kernel_rfl) (fun d _ _ _ _ h => by cases d <;> exact h) (Blk.stable _ _) (Blk.room0 _ _) hK5.drew trivial ?_
  simp only [List.take_succ_cons, List.take_zero, List.drop_succ_cons, List.drop_zero, List.length_nil, Nat.reduceAdd]
  repeat (first
    | (refine wpQ_skip (by rfl) ?_; simp only [Act.put, siA, scZ, scS])
    | (refine wpQ_yield (by rfl) (v := ?_) ?_ ?_; rotate_left; (intro w2 hC; obtain ⟨u0, u1, uf0, uf1, ult⟩ := row2 (hC.2 _ mcS); obtain ⟨l0, l1, l2, lf0, lf1, lf2, llt⟩ := row3 (hC.2 _ (mcO _ mcS)); obtain ⟨k0, k1, k2, kf0, kf1, kf2, klt⟩ := row3 (hC.2 _ (mcO _ (mcO _ mcS))); have yW : WayAt _ B _ _ := (hC.2 _ (mcO _ (mcO _ (mcO _ mcS)))); have ylt := yW.lt; obtain ⟨p0, p1, p2, p3, p4, p5, ltS⟩ := row6 (hC.2 _ (mcO _ (mcO _ (mcO _ (mcO _ mcS))))); go_simp; try with_reducible rfl); simp only [Act.put, siA, scZ, scS])
    | (refine wpQ_enter (by rfl) ?_; apply Exists.intro; refine ⟨fun w2 hC => ?_, ?_⟩; (obtain ⟨u0, u1, uf0, uf1, ult⟩ := row2 (hC.2 _ mcS); obtain ⟨l0, l1, l2, lf0, lf1, lf2, llt⟩ := row3 (hC.2 _ (mcO _ mcS)); obtain ⟨k0, k1, k2, kf0, kf1, kf2, klt⟩ := row3 (hC.2 _ (mcO _ (mcO _ mcS))); have yW : WayAt _ B _ _ := (hC.2 _ (mcO _ (mcO _ (mcO _ mcS)))); have ylt := yW.lt; obtain ⟨p0, p1, p2, p3, p4, p5, ltS⟩ := row6 (hC.2 _ (mcO _ (mcO _ (mcO _ (mcO _ mcS))))); go_simp; apply qb_enter; first | (go_at_call 37; exact one_is _ w2)); simp only [Act.put, siA, scZ, scS]))
  refine wpQ_nil ?_
  intro w6 hC hB6
  obtain ⟨u0, u1, uf0, uf1, ult⟩ := row2 (hC.2 _ mcS); obtain ⟨l0, l1, l2, lf0, lf1, lf2, llt⟩ := row3 (hC.2 _ (mcO _ mcS)); obtain ⟨k0, k1, k2, kf0, kf1, kf2, klt⟩ := row3 (hC.2 _ (mcO _ (mcO _ mcS))); have yW : WayAt _ B _ _ := (hC.2 _ (mcO _ (mcO _ (mcO _ mcS)))); have ylt := yW.lt; obtain ⟨p0, p1, p2, p3, p4, p5, ltS⟩ := row6 (hC.2 _ (mcO _ (mcO _ (mcO _ (mcO _ mcS)))))
  have hK7 := hC
  go_wp2_with fail
  clear hC l0 l1 l2 lf0 lf1 lf2 llt k0 k1 k2 kf0 kf1 kf2 klt p0 p1 p2 p3 p4 p5 ltS yW ylt u0 u1 uf0 uf1 ult hK5 hB6
  refine wp_float (C := Blk w [(w4.heap.size, .cells #[vI vK wl, vI vK wl] 43 (0, 0)), (L, .cells #[vI vK (y.reg d).k, vI vK (y.reg d).l, vI vK (y.reg d).h] 146 (0, 0)), (K, .cells #[vI vK bk, vI vK bl, vI vK bh] 146 (0, 0)), (B, .cells (wayCs p y) 150 (0, 0)), (w.heap.size, .cells #[vI vK c, vI vK d, vI vK s, .bool r, vI vK o, vI vK n] 49 (0, 0))]) (n0 := w.heap.size) 8 [] [] (by kernel_rfl) (by kernel_rfl) (fun d _ _ _ _ h => by cases d <;> exact h) (Blk.stable _ _) (Blk.room0 _ _) hK7.drew trivial ?_
  simp only [List.take_succ_cons, List.take_zero, List.drop_succ_cons, List.drop_zero, List.length_nil, Nat.reduceAdd]
  repeat (first
    | (refine wpQ_skip (by rfl) ?_; simp only [Act.put, siA, scZ, scS])
    | (refine wpQ_yield (by rfl) (v := ?_) ?_ ?_; rotate_left; (intro w2 hC; obtain ⟨u0, u1, uf0, uf1, ult⟩ := row2 (hC.2 _ mcS); obtain ⟨l0, l1, l2, lf0, lf1, lf2, llt⟩ := row3 (hC.2 _ (mcO _ mcS)); obtain ⟨k0, k1, k2, kf0, kf1, kf2, klt⟩ := row3 (hC.2 _ (mcO _ (mcO _ mcS))); have yW : WayAt _ B _ _ := (hC.2 _ (mcO _ (mcO _ (mcO _ mcS)))); have ylt := yW.lt; obtain ⟨p0, p1, p2, p3, p4, p5, ltS⟩ := row6 (hC.2 _ (mcO _ (mcO _ (mcO _ (mcO _ mcS))))); go_simp; try with_reducible rfl); simp only [Act.put, siA, scZ, scS]))
  refine wpQ_nil ?_
  intro w8 hC hB8
  obtain ⟨u0, u1, uf0, uf1, ult⟩ := row2 (hC.2 _ mcS); obtain ⟨l0, l1, l2, lf0, lf1, lf2, llt⟩ := row3 (hC.2 _ (mcO _ mcS)); obtain ⟨k0, k1, k2, kf0, kf1, kf2, klt⟩ := row3 (hC.2 _ (mcO _ (mcO _ mcS))); have yW : WayAt _ B _ _ := (hC.2 _ (mcO _ (mcO _ (mcO _ mcS)))); have ylt := yW.lt; obtain ⟨p0, p1, p2, p3, p4, p5, ltS⟩ := row6 (hC.2 _ (mcO _ (mcO _ (mcO _ (mcO _ mcS)))))
  obtain ⟨i0, i1, i2⟩ := yW.slot ht
  have if0 := yW.frozen (34 + t * 3); have if1 := yW.frozen (34 + t * 3 + 1); have if2 := yW.frozen (34 + t * 3 + 2)
  have HK := kept_below hC.1 B
  go_wp2_with fail
  go_ret
  exact ⟨rfl, (by repeat' first | with_reducible (first | exact HK | refine kept_drew ?_ | refine kept_set ?_ _ _ | refine kept_new ?_ _ _ ?_ | refine kept_alloc ?_ _) | ((try dsimp only); omega) | (simp; omega)), yW.slot3 t bk bl bh⟩
theorem vstore_all {B d s : Nat} {c o n p : Int} {r : Bool} {y : Way} (hd : d < 11) (hs : s < 11) (hy : y.Ok) (ho : In64 o) {w : World} (hW : WayAt w B p y) :
    Calls Tryz.prog 109 #[.pointer (some ⟨B, 0, none⟩), .agg #[vI vK c, vI vK d, vI vK s, .bool r, vI vK o, vI vK n]] w fun e w' => e = .returned (vI vK (y.store (y.reg d) (y.second s r n) o).1) ∧ Kept B w w' ∧ WayAt w' B p (y.store (y.reg d) (y.second s r n) o).2 := by
  have HR := fun W : World => vreach_any (y.reg d) o (hy.reg d hd) ho W
  have mv : ∀ {E : Int} {e : Ending} {w' : World}, (e = .returned (vI vK E) ∧ Below w.heap.size w w') → e = .returned (vI vK E) ∧ Kept B w w' ∧ WayAt w' B p y := fun h => ⟨h.1, kept_below h.2 B, hW.later h.2⟩
  unfold Way.store
  rcases hv : y.second s r n with ⟨bk, bl, bh⟩
  rcases e : knoReach (y.reg d) o with ⟨⟨wl, wh⟩, E⟩
  rw [e] at HR
  by_cases hE : E = 0
  · subst hE
    rw [if_neg (by simp)]
    have er : (knoReach (y.reg d) o).2 = 0 := by rw [e]
    obtain ⟨hk, e1, r1, r2⟩ := knoReach_in er
    have ot := knoTo_ok (hy.reg d hd) ho
    rw [e] at e1
    rw [← e1] at r1 r2 ot
    have k0 := (hy.reg d hd).1
    have k5 := (hy.reg d hd).2.1
    by_cases h2 : (y.reg d).k = 2
    · rw [if_pos h2]; exact (vstore_early B d s c o n p r y hd hs bk bl bh hv wl wh 0 HR 6 (Or.inr (Or.inl ⟨rfl, by simpa using h2, rfl⟩)) w hW).mono fun _ _ h => mv h
    rw [if_neg h2]
    by_cases h0 : bk = 0
    · rw [if_pos h0]; exact (vstore_early B d s c o n p r y hd hs bk bl bh hv wl wh 0 HR 8 (Or.inr (Or.inr (Or.inl ⟨rfl, by simpa using h2, by simpa using h0, rfl⟩))) w hW).mono fun _ _ h => mv h
    rw [if_neg h0]
    by_cases h4 : (y.reg d).k = 4
    · rw [if_pos h4]; exact (vstore_early B d s c o n p r y hd hs bk bl bh hv wl wh 0 HR _ (Or.inr (Or.inr (Or.inr ⟨rfl, by simpa using h2, by simpa using h0, by simpa using h4, rfl⟩))) w hW).mono fun _ _ h => mv h
    rw [if_neg h4]
    have h3 : (y.reg d).k = 3 := by omega
    rw [h3] at r1 r2
    change -16 ≤ wl at r1
    change wh ≤ -1 at r2
    change wl ≤ wh at ot
    by_cases hq : wl = wh
    · subst hq
      rw [if_neg (by simp)]
      obtain ⟨t, et⟩ := Int.eq_ofNat_of_zero_le (show 0 ≤ wl + 16 by omega)
      have e2 : IntKind.i64.wrap (wl + 16) = (t : Int) := by rw [IntWalk.i64_left, wrap64_in (by omega) (by omega)]; exact et
      show Calls _ _ _ _ fun e w' => e = .returned (vI vK 0) ∧ Kept B w w' ∧ WayAt w' B p (y.putSlot (wl + 16).toNat ⟨bk, bl, bh⟩)
      rw [show (wl + 16).toNat = t by omega]
      exact vstore_slot B d s c o n p r y hd hs bk bl bh hv wl 0 HR t (by omega) e2 rfl (by simpa using h2) (by simpa using h0) (by simpa using h4) w hW
    · rw [if_pos hq]
      exact (vstore_wide B d s c o n p r y hd hs bk bl bh hv wl wh 0 HR rfl (by simpa using h2) (by simpa using h0) (by simpa using h4) (fun e => hq e.symm) w hW).mono fun _ _ h => mv h
  · rw [if_pos hE]
    exact (vstore_early B d s c o n p r y hd hs bk bl bh hv wl wh E HR E (Or.inl ⟨by simpa using hE, rfl⟩) w hW).mono fun _ _ h => mv h
theorem Way.lose_put (y : Way) : y.lose = ((((y.putReg 1 kno0).putReg 2 kno0).putReg 3 kno0).putReg 4 kno0).putReg 5 kno0 := by
  unfold Way.lose Way.putReg
  congr 1
  funext i
  by_cases h : 1 ≤ i ∧ i ≤ 5
  · rw [if_pos h]
    rcases (show i = 1 ∨ i = 2 ∨ i = 3 ∨ i = 4 ∨ i = 5 by omega) with rfl | rfl | rfl | rfl | rfl <;> rfl
  · rw [if_neg h]
    show _ = if i = 5 then kno0 else if i = 4 then kno0 else if i = 3 then kno0 else if i = 2 then kno0 else if i = 1 then kno0 else y.reg i
    rw [if_neg (by omega), if_neg (by omega), if_neg (by omega), if_neg (by omega), if_neg (by omega)]
theorem vclear_run {w : World} {B : Nat} {p : Int} {y : Way} (hW : WayAt w B p y) : ∃ w', (Builtin.clear_ #[232] 0 #[.slice (some ⟨B, 4, none⟩) 5 10]).run Tryz.prog w = .ok (.tuple #[]) w' ∧ Kept B w w' ∧ WayAt w' B p y.lose := by
  have hst := run_storeCells_cells (P := Tryz.prog) B 4 (List.replicate 15 (vI vK 0)) 0 w (by
    intro j hj
    rw [List.length_replicate] at hj
    rw [hW.at _ (by omega)]; rfl) (by intro j hj; exact hW.frozen _) (by intro v hv'; rw [List.eq_of_mem_replicate hv']; rfl)
  simp only [Nat.add_zero] at hst
  have hzc : (Builtin.zeroCells (Value.agg #[vI vK 0, vI vK 0, vI vK 0]).cells 5).toList = List.replicate 15 (vI vK 0) := by first | rfl | kernel_rfl | (simp [Builtin.zeroCells]; rfl)
  refine ⟨w.setCells B 4 (List.replicate 15 (vI vK 0)), ?_, ?_, ?_⟩
  · generalize List.replicate 15 (Value.int .i64 0) = zs at hst hzc ⊢
    simp [Builtin.clear_, run_underlying Tryz.underlying232, hzc, hst]
  · show Kept B w (((((((((((((((w.setCell ⟨B, 4, none⟩ _).setCell ⟨B, 5, none⟩ _).setCell ⟨B, 6, none⟩ _).setCell ⟨B, 7, none⟩ _).setCell ⟨B, 8, none⟩ _).setCell ⟨B, 9, none⟩ _).setCell ⟨B, 10, none⟩ _).setCell ⟨B, 11, none⟩ _).setCell ⟨B, 12, none⟩ _).setCell ⟨B, 13, none⟩ _).setCell ⟨B, 14, none⟩ _).setCell ⟨B, 15, none⟩ _).setCell ⟨B, 16, none⟩ _).setCell ⟨B, 17, none⟩ _).setCell ⟨B, 18, none⟩ _)
    repeat with_reducible refine kept_set ?_ _ _
    exact kept_refl B w
  · rw [y.lose_put]
    exact ((((hW.reg3 (d := 1) (by decide) 0 0 0).reg3 (d := 2) (by decide) 0 0 0).reg3 (d := 3) (by decide) 0 0 0).reg3 (d := 4) (by decide) 0 0 0).reg3 (d := 5) (by decide) 0 0 0
theorem vcall_no1 (B : Nat) (p : Int) (y : Way) (E : Int) (HW : Hid (knoWant ⟨(y.reg 1).k, (y.reg 1).l, (y.reg 1).h⟩ = E)) (hE : (E != 0) = true) (w : World) (hW : WayAt w B p y) :
    Calls Tryz.prog 110 #[.pointer (some ⟨B, 0, none⟩), vI vK 1] w fun e w' => e = .returned (vI vK E) ∧ Below w.heap.size w w' := by
  have hB := hW.lt
  obtain ⟨h0, h1, h2⟩ := hW.reg (d := 1) (by decide)
  simp only [Nat.reduceMul, Nat.reduceAdd] at h0 h1 h2
  go_enter Tryz.func110, Tryz.ntmps110
  go_wp2_with (first
    | (go_at_call 107; go_must (refine (vwant_any _ _ _ _).mono ?_; rintro e w1 ⟨rfl, hb1⟩; rw [HW.out]; have hW1 : WayAt w1 B p y := hW.later hb1; have hB1 := hW1.lt))
    | fail)
  go_ret
  exact ⟨rfl, hb1⟩
theorem vcall_no3 (B : Nat) (p : Int) (y : Way) (E : Int) (HW : Hid (knoWant ⟨(y.reg 1).k, (y.reg 1).l, (y.reg 1).h⟩ = E)) (hE : (E != 0) = true) (w : World) (hW : WayAt w B p y) :
    Calls Tryz.prog 110 #[.pointer (some ⟨B, 0, none⟩), vI vK 3] w fun e w' => e = .returned (vI vK E) ∧ Below w.heap.size w w' := by
  have hB := hW.lt
  obtain ⟨h0, h1, h2⟩ := hW.reg (d := 1) (by decide)
  simp only [Nat.reduceMul, Nat.reduceAdd] at h0 h1 h2
  go_enter Tryz.func110, Tryz.ntmps110
  go_wp2_with (first
    | (go_at_call 107; go_must (refine (vwant_any _ _ _ _).mono ?_; rintro e w1 ⟨rfl, hb1⟩; rw [HW.out]; have hW1 : WayAt w1 B p y := hW.later hb1; have hB1 := hW1.lt))
    | fail)
  go_ret
  exact ⟨rfl, hb1⟩
theorem vcall_find (B : Nat) (p : Int) (y : Way) (HW : Hid (knoWant ⟨(y.reg 1).k, (y.reg 1).l, (y.reg 1).h⟩ = 0)) (w : World) (hW : WayAt w B p y) :
    Calls Tryz.prog 110 #[.pointer (some ⟨B, 0, none⟩), vI vK 1] w fun e w' => e = .returned (vI vK 0) ∧ Kept B w w' ∧ WayAt w' B p (y.lose.putReg 0 ⟨5, 0, 0⟩) := by
  have hB := hW.lt
  obtain ⟨h0, h1, h2⟩ := hW.reg (d := 1) (by decide)
  simp only [Nat.reduceMul, Nat.reduceAdd] at h0 h1 h2
  go_enter Tryz.func110, Tryz.ntmps110
  go_wp2_with (first
    | (go_at_call 107; go_must (refine (vwant_any _ _ _ _).mono ?_; rintro e w1 ⟨rfl, hb1⟩; rw [HW.out]; have hW1 : WayAt w1 B p y := hW.later hb1; have hB1 := hW1.lt))
    | fail)
  obtain ⟨wc, hc, hkc, hmc⟩ := vclear_run hW1
  rw [hc]
  clear hc
  have hBc := hmc.lt
  obtain ⟨i0, i1, i2⟩ := hmc.reg (d := 0) (by decide)
  simp only [Nat.reduceMul, Nat.reduceAdd] at i0 i1 i2
  have f0 := hmc.frozen 1
  have f1 := hmc.frozen 2
  have f2 := hmc.frozen 3
  go_wp2_with fail
  go_ret
  have HK : Kept B w wc := kept_trans (kept_below hb1 B) hkc
  exact ⟨rfl, (by repeat' first | with_reducible (first | exact HK | refine kept_drew ?_ | refine kept_set ?_ _ _ | refine kept_new ?_ _ _ ?_ | refine kept_alloc ?_ _) | ((try dsimp only); omega) | (simp; omega)), hmc.put0 5 0 0⟩
theorem vcall_time (B : Nat) (p : Int) (y : Way) (w : World) (hW : WayAt w B p y) :
    Calls Tryz.prog 110 #[.pointer (some ⟨B, 0, none⟩), vI vK 2] w fun e w' => e = .returned (vI vK 0) ∧ Kept B w w' ∧ WayAt w' B p (y.lose.putReg 0 ⟨1, (-9223372036854775808), 9223372036854775807⟩) := by
  have hB := hW.lt
  go_enter Tryz.func110, Tryz.ntmps110
  go_wp2_with fail
  obtain ⟨wc, hc, hkc, hmc⟩ := vclear_run hW
  rw [hc]
  clear hc
  have hBc := hmc.lt
  go_wp2_with fail
  refine wp_float (C := Blk wc [(B, .cells (wayCs p y.lose) 150 (0, 0))]) (n0 := wc.heap.size) 6 [] [] (by kernel_rfl) (by kernel_rfl) (fun d _ _ _ _ h => by cases d <;> exact h) (Blk.stable _ _) (Blk.room0 _ _) (((Blk.nil (bF _ _)).cons hmc).drew) trivial ?_
  simp only [List.take_succ_cons, List.take_zero, List.drop_succ_cons, List.drop_zero, List.length_nil, Nat.reduceAdd]
  repeat (first
    | (refine wpQ_skip (by rfl) ?_; simp only [Act.put, siA, scZ, scS])
    | (refine wpQ_yield (by rfl) (v := ?_) ?_ ?_; rotate_left; (intro w2 hC; have yW : WayAt _ B _ _ := (hC.2 _ mcS); have ylt := yW.lt; go_simp; try with_reducible rfl); simp only [Act.put, siA, scZ, scS])
    | (refine wpQ_enter (by rfl) ?_; apply Exists.intro; refine ⟨fun w2 hC => ?_, ?_⟩; (have yW : WayAt _ B _ _ := (hC.2 _ mcS); have ylt := yW.lt; go_simp; apply qb_enter; first | (go_at_call 151; exact all_is w2) | (go_at_call 150; exact vnumber_any _ _ w2)); simp only [Act.put, siA, scZ, scS]))
  refine wpQ_nil ?_
  intro w5 hC hB5
  have yW : WayAt _ B _ _ := (hC.2 _ mcS); have ylt := yW.lt
  obtain ⟨i0, i1, i2⟩ := yW.reg (d := 0) (by decide)
  simp only [Nat.reduceMul, Nat.reduceAdd] at i0 i1 i2
  have f0 := yW.frozen 1
  have f1 := yW.frozen 2
  have f2 := yW.frozen 3
  simp only [Kno.v, knoNum]
  go_wp2_with fail
  go_ret
  have HK : Kept B w w5 := kept_later (hkc) hC.1
  exact ⟨rfl, (by repeat' first | with_reducible (first | exact HK | refine kept_drew ?_ | refine kept_set ?_ _ _ | refine kept_new ?_ _ _ ?_ | refine kept_alloc ?_ _) | ((try dsimp only); omega) | (simp; omega)), yW.put0 1 (-9223372036854775808) 9223372036854775807⟩
theorem vcall_emit (B : Nat) (p : Int) (y : Way) (HW : Hid (knoWant ⟨(y.reg 1).k, (y.reg 1).l, (y.reg 1).h⟩ = 0)) (w : World) (hW : WayAt w B p y) :
    Calls Tryz.prog 110 #[.pointer (some ⟨B, 0, none⟩), vI vK 3] w fun e w' => e = .returned (vI vK 0) ∧ Kept B w w' ∧ WayAt w' B p (y.lose.putReg 0 ⟨1, 0, 0⟩) := by
  have hB := hW.lt
  obtain ⟨h0, h1, h2⟩ := hW.reg (d := 1) (by decide)
  simp only [Nat.reduceMul, Nat.reduceAdd] at h0 h1 h2
  go_enter Tryz.func110, Tryz.ntmps110
  go_wp2_with (first
    | (go_at_call 107; go_must (refine (vwant_any _ _ _ _).mono ?_; rintro e w1 ⟨rfl, hb1⟩; rw [HW.out]; have hW1 : WayAt w1 B p y := hW.later hb1; have hB1 := hW1.lt))
    | fail)
  obtain ⟨wc, hc, hkc, hmc⟩ := vclear_run hW1
  rw [hc]
  clear hc
  have hBc := hmc.lt
  go_wp2_with fail
  refine wp_float (C := Blk wc [(B, .cells (wayCs p y.lose) 150 (0, 0))]) (n0 := wc.heap.size) 6 [] [] (by kernel_rfl) (by kernel_rfl) (fun d _ _ _ _ h => by cases d <;> exact h) (Blk.stable _ _) (Blk.room0 _ _) (((Blk.nil (bF _ _)).cons hmc).drew) trivial ?_
  simp only [List.take_succ_cons, List.take_zero, List.drop_succ_cons, List.drop_zero, List.length_nil, Nat.reduceAdd]
  repeat (first
    | (refine wpQ_skip (by rfl) ?_; simp only [Act.put, siA, scZ, scS])
    | (refine wpQ_yield (by rfl) (v := ?_) ?_ ?_; rotate_left; (intro w2 hC; have yW : WayAt _ B _ _ := (hC.2 _ mcS); have ylt := yW.lt; go_simp; try with_reducible rfl); simp only [Act.put, siA, scZ, scS])
    | (refine wpQ_enter (by rfl) ?_; apply Exists.intro; refine ⟨fun w2 hC => ?_, ?_⟩; (have yW : WayAt _ B _ _ := (hC.2 _ mcS); have ylt := yW.lt; go_simp; apply qb_enter; first | (go_at_call 37; exact one_is _ w2) | (go_at_call 150; exact vnumber_any _ _ w2)); simp only [Act.put, siA, scZ, scS]))
  refine wpQ_nil ?_
  intro w5 hC hB5
  have yW : WayAt _ B _ _ := (hC.2 _ mcS); have ylt := yW.lt
  obtain ⟨i0, i1, i2⟩ := yW.reg (d := 0) (by decide)
  simp only [Nat.reduceMul, Nat.reduceAdd] at i0 i1 i2
  have f0 := yW.frozen 1
  have f1 := yW.frozen 2
  have f2 := yW.frozen 3
  simp only [Kno.v, knoNum]
  go_wp2_with fail
  go_ret
  have HK : Kept B w w5 := kept_later ((kept_trans (kept_below hb1 B) hkc)) hC.1
  exact ⟨rfl, (by repeat' first | with_reducible (first | exact HK | refine kept_drew ?_ | refine kept_set ?_ _ _ | refine kept_new ?_ _ _ ?_ | refine kept_alloc ?_ _) | ((try dsimp only); omega) | (simp; omega)), yW.put0 1 0 0⟩
theorem vcall_all {B : Nat} {p what : Int} {y : Way} (hw : what = 1 ∨ what = 2 ∨ what = 3) {w : World} (hW : WayAt w B p y) :
    Calls Tryz.prog 110 #[.pointer (some ⟨B, 0, none⟩), vI vK what] w fun e w' => e = .returned (vI vK (y.call what).1) ∧ Kept B w w' ∧ WayAt w' B p (y.call what).2 := by
  have mv : ∀ {E : Int} {e : Ending} {w' : World}, (e = .returned (vI vK E) ∧ Below w.heap.size w w') → e = .returned (vI vK E) ∧ Kept B w w' ∧ WayAt w' B p y := fun h => ⟨h.1, kept_below h.2 B, hW.later h.2⟩
  unfold Way.call
  rcases hw with rfl | rfl | rfl
  · by_cases h : knoWant (y.reg 1) = 0
    · rw [if_neg (fun e => e.2 h), if_pos rfl]; exact vcall_find B p y h w hW
    · rw [if_pos ⟨Or.inl rfl, h⟩]; exact (vcall_no1 B p y _ rfl (by simpa using h) w hW).mono fun _ _ h => mv h
  · rw [if_neg (by intro e; omega), if_neg (by decide), if_pos rfl]; exact vcall_time B p y w hW
  · by_cases h : knoWant (y.reg 1) = 0
    · rw [if_neg (fun e => e.2 h), if_neg (by decide), if_neg (by decide)]; exact vcall_emit B p y h w hW
    · rw [if_pos ⟨Or.inr rfl, h⟩]; exact (vcall_no3 B p y _ rfl (by simpa using h) w hW).mono fun _ _ h => mv h
end Go.Proofs.YtednmkhdehlojaaGreatDoor
namespace Go.Proofs.YtednmkhdehlojaaGreatDoor
open Go.ChangeShapes Go.WideShapes Go.ChangeAt Go.RowKit
set_option linter.unusedVariables false
attribute [local simp] drew_size drewN_size setCell_size

theorem nar_17 (al ah bl bh : Int) (pal : -9223372036854775808 ≤ al) (qal : al ≤ 9223372036854775807) (pah : -9223372036854775808 ≤ ah) (qah : ah ≤ 9223372036854775807) (pbl : -9223372036854775808 ≤ bl) (qbl : bl ≤ 9223372036854775807) (pbh : -9223372036854775808 ≤ bh) (qbh : bh ≤ 9223372036854775807) (oa : al ≤ ah) (ob : bl ≤ bh) (w : World) : Calls Tryz.prog 198 #[vI vK 17, .agg #[vI vK al, vI vK ah], .agg #[vI vK bl, vI vK bh]] w fun e w' => e = .returned (.tuple #[.agg #[vI vK (((unsV 1 bl bh al ah).2.1).1), vI vK (((unsV 1 bl bh al ah).2.1).2)], .agg #[vI vK (((unsV 1 bl bh al ah).1).1), vI vK (((unsV 1 bl bh al ah).1).2)], .bool ((unsV 1 bl bh al ah).2.2)]) ∧ Below w.heap.size w w' := by
  go_enter Tryz.func198, Tryz.ntmps198
  go_wp2_with fail
  go_cut [11, 12, 13] (fun s11 s12 s13 wx => ∃ L U : Nat, s11 = .pointer (some ⟨L, 0, none⟩) ∧ s12 = .pointer (some ⟨U, 0, none⟩) ∧ s13 = .bool (unsV 1 bl bh al ah).2.2 ∧ Below w.heap.size w wx ∧ Outs w.heap.size L U (unsV 1 bl bh al ah).1.1 (unsV 1 bl bh al ah).1.2 (unsV 1 bl bh al ah).2.1.1 (unsV 1 bl bh al ah).2.1.2 wx)
  case first =>
    go_region_held3 (fun w' => w'.cell? ⟨w.heap.size, 0, none⟩ = some (vI vK al) ∧ w'.cell? ⟨w.heap.size, 1, none⟩ = some (vI vK ah) ∧ w'.cell? ⟨w.heap.size + 1, 0, none⟩ = some (vI vK bl) ∧ w'.cell? ⟨w.heap.size + 1, 1, none⟩ = some (vI vK bh)) (first | (simp [go_sem]; done) | (simp [go_sem, *]; done) | go_keep) (first | (go_at_call 217; refine (turned_17 _).mono ?_; rintro e w' ⟨rfl, rfl⟩) | (go_at_call 216; go_must (refine (below_19 _ _ _ _ pbl qbl pbh qbh pal qal pah qah ob oa _).mono ?_; rintro e w1 ⟨rfl, hb1⟩; have hX1 : Quad w.heap.size al ah bl bh w1 := Quad.later (by first | exact hX1 | (refine ⟨?_, ?_, ?_, ?_, ?_, ?_, ?_, ?_, ?_, ?_, ?_, ?_, ?_, ?_, ?_, ?_, ?_⟩ <;> simp [go_sem])) hb1; have hbw1 : Below w.heap.size w w1 := (by ((refine Below.trans ?_ (hb1.mono ?_)) <;> repeat' first | exact bF _ _ | exact hbw1 | refine bA ?_ ?_ _ | refine bS ?_ ?_ _ | refine bD ?_ | refine below_drewN ?_ _ | (simp; done) | (simp; omega) | (simp [drew_size]; done) | (simp [drew_size]; omega) | omega)); have hY := hX1; obtain ⟨t0, a0, a1, af0, af1, b0, b1, bf0, bf1, r0, r1, rf0, rf1, s0, s1, sf0, sf1⟩ := hY; have u2 : w.heap.size + 1 + 1 < w1.heap.size := (by omega); have u0 : w.heap.size < w1.heap.size := (by omega); have u1 : w.heap.size + 1 < w1.heap.size := (by omega); have v4 := bd_later_box hb1 (w.heap.size + 1 + 1 + 1 + 1); have v5 := bd_later_box hb1 (w.heap.size + 1 + 1 + 1 + 1 + 1); (try simp [go_sem] at v4); (try simp [go_sem] at v5))))
    all_goals (go_wp2_with fail; go_meet)
    all_goals exact ⟨_, _, rfl, rfl, rfl, by repeat' first | exact bF _ _ | exact hbw1 | refine bA ?_ ?_ _ | refine bS ?_ ?_ _ | refine bD ?_ | refine below_drewN ?_ _ | (simp; done) | (simp; omega) | (simp [drew_size]; done) | (simp [drew_size]; omega) | omega, by refine ⟨?_, ?_, ?_, ?_, ?_, ?_, ?_, ?_, ?_, ?_, ?_, ?_, ?_, ?_, ?_, ?_⟩ <;> first | (simp [go_sem, *]; done) | omega | (simp; omega)⟩
  case rest =>
  obtain ⟨L, U, rfl, rfl, rfl, hbw, r0, r1, rf0, rf1, s0, s1, sf0, sf1, l0, l1, m0, m1, n0, n1, n2, n3⟩ := hcut
  go_wp2_with fail
  all_goals go_region
  all_goals go_wp2
  all_goals exact bodyPost_ret (v := .tuple #[.agg #[vI vK (((unsV 1 bl bh al ah).2.1).1), vI vK (((unsV 1 bl bh al ah).2.1).2)], .agg #[vI vK (((unsV 1 bl bh al ah).1).1), vI vK (((unsV 1 bl bh al ah).1).2)], .bool ((unsV 1 bl bh al ah).2.2)]) (by simp [results, Tryz.results198, go_sem, r0, r1, s0, s1]) rfl ⟨rfl, by repeat' first | exact bF _ _ | exact hbw | refine bA ?_ ?_ _ | refine bS ?_ ?_ _ | refine bD ?_ | refine below_drewN ?_ _ | (simp; done) | (simp; omega) | (simp [drew_size]; done) | (simp [drew_size]; omega) | omega⟩
end Go.Proofs.YtednmkhdehlojaaGreatDoor
namespace Go.Proofs.YtednmkhdehlojaaGreatDoor
open Go.ChangeShapes Go.WideShapes Go.ChangeAt Go.RowKit
set_option linter.unusedVariables false
attribute [local simp] drew_size drewN_size setCell_size

theorem nar_18 (al ah bl bh : Int) (pal : -9223372036854775808 ≤ al) (qal : al ≤ 9223372036854775807) (pah : -9223372036854775808 ≤ ah) (qah : ah ≤ 9223372036854775807) (pbl : -9223372036854775808 ≤ bl) (qbl : bl ≤ 9223372036854775807) (pbh : -9223372036854775808 ≤ bh) (qbh : bh ≤ 9223372036854775807) (oa : al ≤ ah) (ob : bl ≤ bh) (w : World) : Calls Tryz.prog 198 #[vI vK 18, .agg #[vI vK al, vI vK ah], .agg #[vI vK bl, vI vK bh]] w fun e w' => e = .returned (.tuple #[.agg #[vI vK (((unsV 0 bl bh al ah).2.1).1), vI vK (((unsV 0 bl bh al ah).2.1).2)], .agg #[vI vK (((unsV 0 bl bh al ah).1).1), vI vK (((unsV 0 bl bh al ah).1).2)], .bool ((unsV 0 bl bh al ah).2.2)]) ∧ Below w.heap.size w w' := by
  go_enter Tryz.func198, Tryz.ntmps198
  go_wp2_with fail
  go_cut [11, 12, 13] (fun s11 s12 s13 wx => ∃ L U : Nat, s11 = .pointer (some ⟨L, 0, none⟩) ∧ s12 = .pointer (some ⟨U, 0, none⟩) ∧ s13 = .bool (unsV 0 bl bh al ah).2.2 ∧ Below w.heap.size w wx ∧ Outs w.heap.size L U (unsV 0 bl bh al ah).1.1 (unsV 0 bl bh al ah).1.2 (unsV 0 bl bh al ah).2.1.1 (unsV 0 bl bh al ah).2.1.2 wx)
  case first =>
    go_region_held3 (fun w' => w'.cell? ⟨w.heap.size, 0, none⟩ = some (vI vK al) ∧ w'.cell? ⟨w.heap.size, 1, none⟩ = some (vI vK ah) ∧ w'.cell? ⟨w.heap.size + 1, 0, none⟩ = some (vI vK bl) ∧ w'.cell? ⟨w.heap.size + 1, 1, none⟩ = some (vI vK bh)) (first | (simp [go_sem]; done) | (simp [go_sem, *]; done) | go_keep) (first | (go_at_call 217; refine (turned_18 _).mono ?_; rintro e w' ⟨rfl, rfl⟩) | (go_at_call 216; go_must (refine (below_20 _ _ _ _ pbl qbl pbh qbh pal qal pah qah ob oa _).mono ?_; rintro e w1 ⟨rfl, hb1⟩; have hX1 : Quad w.heap.size al ah bl bh w1 := Quad.later (by first | exact hX1 | (refine ⟨?_, ?_, ?_, ?_, ?_, ?_, ?_, ?_, ?_, ?_, ?_, ?_, ?_, ?_, ?_, ?_, ?_⟩ <;> simp [go_sem])) hb1; have hbw1 : Below w.heap.size w w1 := (by ((refine Below.trans ?_ (hb1.mono ?_)) <;> repeat' first | exact bF _ _ | exact hbw1 | refine bA ?_ ?_ _ | refine bS ?_ ?_ _ | refine bD ?_ | refine below_drewN ?_ _ | (simp; done) | (simp; omega) | (simp [drew_size]; done) | (simp [drew_size]; omega) | omega)); have hY := hX1; obtain ⟨t0, a0, a1, af0, af1, b0, b1, bf0, bf1, r0, r1, rf0, rf1, s0, s1, sf0, sf1⟩ := hY; have u2 : w.heap.size + 1 + 1 < w1.heap.size := (by omega); have u0 : w.heap.size < w1.heap.size := (by omega); have u1 : w.heap.size + 1 < w1.heap.size := (by omega); have v4 := bd_later_box hb1 (w.heap.size + 1 + 1 + 1 + 1); have v5 := bd_later_box hb1 (w.heap.size + 1 + 1 + 1 + 1 + 1); (try simp [go_sem] at v4); (try simp [go_sem] at v5))))
    all_goals (go_wp2_with fail; go_meet)
    all_goals exact ⟨_, _, rfl, rfl, rfl, by repeat' first | exact bF _ _ | exact hbw1 | refine bA ?_ ?_ _ | refine bS ?_ ?_ _ | refine bD ?_ | refine below_drewN ?_ _ | (simp; done) | (simp; omega) | (simp [drew_size]; done) | (simp [drew_size]; omega) | omega, by refine ⟨?_, ?_, ?_, ?_, ?_, ?_, ?_, ?_, ?_, ?_, ?_, ?_, ?_, ?_, ?_, ?_⟩ <;> first | (simp [go_sem, *]; done) | omega | (simp; omega)⟩
  case rest =>
  obtain ⟨L, U, rfl, rfl, rfl, hbw, r0, r1, rf0, rf1, s0, s1, sf0, sf1, l0, l1, m0, m1, n0, n1, n2, n3⟩ := hcut
  go_wp2_with fail
  all_goals go_region
  all_goals go_wp2
  all_goals exact bodyPost_ret (v := .tuple #[.agg #[vI vK (((unsV 0 bl bh al ah).2.1).1), vI vK (((unsV 0 bl bh al ah).2.1).2)], .agg #[vI vK (((unsV 0 bl bh al ah).1).1), vI vK (((unsV 0 bl bh al ah).1).2)], .bool ((unsV 0 bl bh al ah).2.2)]) (by simp [results, Tryz.results198, go_sem, r0, r1, s0, s1]) rfl ⟨rfl, by repeat' first | exact bF _ _ | exact hbw | refine bA ?_ ?_ _ | refine bS ?_ ?_ _ | refine bD ?_ | refine below_drewN ?_ _ | (simp; done) | (simp; omega) | (simp [drew_size]; done) | (simp [drew_size]; omega) | omega⟩
end Go.Proofs.YtednmkhdehlojaaGreatDoor
namespace Go.Proofs.YtednmkhdehlojaaGreatDoor
open Go.ChangeShapes Go.WideShapes Go.ChangeAt Go.RowKit
set_option linter.unusedVariables false
attribute [local simp] drew_size drewN_size setCell_size

theorem nar_21 (al ah bl bh : Int) (pal : -9223372036854775808 ≤ al) (qal : al ≤ 9223372036854775807) (pah : -9223372036854775808 ≤ ah) (qah : ah ≤ 9223372036854775807) (pbl : -9223372036854775808 ≤ bl) (qbl : bl ≤ 9223372036854775807) (pbh : -9223372036854775808 ≤ bh) (qbh : bh ≤ 9223372036854775807) (oa : al ≤ ah) (ob : bl ≤ bh) (w : World) : Calls Tryz.prog 198 #[vI vK 21, .agg #[vI vK al, vI vK ah], .agg #[vI vK bl, vI vK bh]] w fun e w' => e = .returned (.tuple #[.agg #[vI vK (((belV 1 bl bh al ah).2.1).1), vI vK (((belV 1 bl bh al ah).2.1).2)], .agg #[vI vK (((belV 1 bl bh al ah).1).1), vI vK (((belV 1 bl bh al ah).1).2)], .bool ((belV 1 bl bh al ah).2.2)]) ∧ Below w.heap.size w w' := by
  go_enter Tryz.func198, Tryz.ntmps198
  go_wp2_with fail
  go_cut [11, 12, 13] (fun s11 s12 s13 wx => ∃ L U : Nat, s11 = .pointer (some ⟨L, 0, none⟩) ∧ s12 = .pointer (some ⟨U, 0, none⟩) ∧ s13 = .bool (belV 1 bl bh al ah).2.2 ∧ Below w.heap.size w wx ∧ Outs w.heap.size L U (belV 1 bl bh al ah).1.1 (belV 1 bl bh al ah).1.2 (belV 1 bl bh al ah).2.1.1 (belV 1 bl bh al ah).2.1.2 wx)
  case first =>
    go_region_held3 (fun w' => w'.cell? ⟨w.heap.size, 0, none⟩ = some (vI vK al) ∧ w'.cell? ⟨w.heap.size, 1, none⟩ = some (vI vK ah) ∧ w'.cell? ⟨w.heap.size + 1, 0, none⟩ = some (vI vK bl) ∧ w'.cell? ⟨w.heap.size + 1, 1, none⟩ = some (vI vK bh)) (first | (simp [go_sem]; done) | (simp [go_sem, *]; done) | go_keep) (first | (go_at_call 217; refine (turned_21 _).mono ?_; rintro e w' ⟨rfl, rfl⟩) | (go_at_call 216; go_must (refine (below_23 _ _ _ _ pbl qbl pbh qbh pal qal pah qah ob oa _).mono ?_; rintro e w1 ⟨rfl, hb1⟩; have hX1 : Quad w.heap.size al ah bl bh w1 := Quad.later (by first | exact hX1 | (refine ⟨?_, ?_, ?_, ?_, ?_, ?_, ?_, ?_, ?_, ?_, ?_, ?_, ?_, ?_, ?_, ?_, ?_⟩ <;> simp [go_sem])) hb1; have hbw1 : Below w.heap.size w w1 := (by ((refine Below.trans ?_ (hb1.mono ?_)) <;> repeat' first | exact bF _ _ | exact hbw1 | refine bA ?_ ?_ _ | refine bS ?_ ?_ _ | refine bD ?_ | refine below_drewN ?_ _ | (simp; done) | (simp; omega) | (simp [drew_size]; done) | (simp [drew_size]; omega) | omega)); have hY := hX1; obtain ⟨t0, a0, a1, af0, af1, b0, b1, bf0, bf1, r0, r1, rf0, rf1, s0, s1, sf0, sf1⟩ := hY; have u2 : w.heap.size + 1 + 1 < w1.heap.size := (by omega); have u0 : w.heap.size < w1.heap.size := (by omega); have u1 : w.heap.size + 1 < w1.heap.size := (by omega); have v4 := bd_later_box hb1 (w.heap.size + 1 + 1 + 1 + 1); have v5 := bd_later_box hb1 (w.heap.size + 1 + 1 + 1 + 1 + 1); (try simp [go_sem] at v4); (try simp [go_sem] at v5))))
    all_goals (go_wp2_with fail; go_meet)
    all_goals exact ⟨_, _, rfl, rfl, rfl, by repeat' first | exact bF _ _ | exact hbw1 | refine bA ?_ ?_ _ | refine bS ?_ ?_ _ | refine bD ?_ | refine below_drewN ?_ _ | (simp; done) | (simp; omega) | (simp [drew_size]; done) | (simp [drew_size]; omega) | omega, by refine ⟨?_, ?_, ?_, ?_, ?_, ?_, ?_, ?_, ?_, ?_, ?_, ?_, ?_, ?_, ?_, ?_⟩ <;> first | (simp [go_sem, *]; done) | omega | (simp; omega)⟩
  case rest =>
  obtain ⟨L, U, rfl, rfl, rfl, hbw, r0, r1, rf0, rf1, s0, s1, sf0, sf1, l0, l1, m0, m1, n0, n1, n2, n3⟩ := hcut
  go_wp2_with fail
  all_goals go_region
  all_goals go_wp2
  all_goals exact bodyPost_ret (v := .tuple #[.agg #[vI vK (((belV 1 bl bh al ah).2.1).1), vI vK (((belV 1 bl bh al ah).2.1).2)], .agg #[vI vK (((belV 1 bl bh al ah).1).1), vI vK (((belV 1 bl bh al ah).1).2)], .bool ((belV 1 bl bh al ah).2.2)]) (by simp [results, Tryz.results198, go_sem, r0, r1, s0, s1]) rfl ⟨rfl, by repeat' first | exact bF _ _ | exact hbw | refine bA ?_ ?_ _ | refine bS ?_ ?_ _ | refine bD ?_ | refine below_drewN ?_ _ | (simp; done) | (simp; omega) | (simp [drew_size]; done) | (simp [drew_size]; omega) | omega⟩
end Go.Proofs.YtednmkhdehlojaaGreatDoor
namespace Go.Proofs.YtednmkhdehlojaaGreatDoor
open Go.ChangeShapes Go.WideShapes Go.ChangeAt Go.RowKit
set_option linter.unusedVariables false
attribute [local simp] drew_size drewN_size setCell_size

theorem nar_22 (al ah bl bh : Int) (pal : -9223372036854775808 ≤ al) (qal : al ≤ 9223372036854775807) (pah : -9223372036854775808 ≤ ah) (qah : ah ≤ 9223372036854775807) (pbl : -9223372036854775808 ≤ bl) (qbl : bl ≤ 9223372036854775807) (pbh : -9223372036854775808 ≤ bh) (qbh : bh ≤ 9223372036854775807) (oa : al ≤ ah) (ob : bl ≤ bh) (w : World) : Calls Tryz.prog 198 #[vI vK 22, .agg #[vI vK al, vI vK ah], .agg #[vI vK bl, vI vK bh]] w fun e w' => e = .returned (.tuple #[.agg #[vI vK (((belV 0 bl bh al ah).2.1).1), vI vK (((belV 0 bl bh al ah).2.1).2)], .agg #[vI vK (((belV 0 bl bh al ah).1).1), vI vK (((belV 0 bl bh al ah).1).2)], .bool ((belV 0 bl bh al ah).2.2)]) ∧ Below w.heap.size w w' := by
  go_enter Tryz.func198, Tryz.ntmps198
  go_wp2_with fail
  go_cut [11, 12, 13] (fun s11 s12 s13 wx => ∃ L U : Nat, s11 = .pointer (some ⟨L, 0, none⟩) ∧ s12 = .pointer (some ⟨U, 0, none⟩) ∧ s13 = .bool (belV 0 bl bh al ah).2.2 ∧ Below w.heap.size w wx ∧ Outs w.heap.size L U (belV 0 bl bh al ah).1.1 (belV 0 bl bh al ah).1.2 (belV 0 bl bh al ah).2.1.1 (belV 0 bl bh al ah).2.1.2 wx)
  case first =>
    go_region_held3 (fun w' => w'.cell? ⟨w.heap.size, 0, none⟩ = some (vI vK al) ∧ w'.cell? ⟨w.heap.size, 1, none⟩ = some (vI vK ah) ∧ w'.cell? ⟨w.heap.size + 1, 0, none⟩ = some (vI vK bl) ∧ w'.cell? ⟨w.heap.size + 1, 1, none⟩ = some (vI vK bh)) (first | (simp [go_sem]; done) | (simp [go_sem, *]; done) | go_keep) (first | (go_at_call 217; refine (turned_22 _).mono ?_; rintro e w' ⟨rfl, rfl⟩) | (go_at_call 216; go_must (refine (below_24 _ _ _ _ pbl qbl pbh qbh pal qal pah qah ob oa _).mono ?_; rintro e w1 ⟨rfl, hb1⟩; have hX1 : Quad w.heap.size al ah bl bh w1 := Quad.later (by first | exact hX1 | (refine ⟨?_, ?_, ?_, ?_, ?_, ?_, ?_, ?_, ?_, ?_, ?_, ?_, ?_, ?_, ?_, ?_, ?_⟩ <;> simp [go_sem])) hb1; have hbw1 : Below w.heap.size w w1 := (by ((refine Below.trans ?_ (hb1.mono ?_)) <;> repeat' first | exact bF _ _ | exact hbw1 | refine bA ?_ ?_ _ | refine bS ?_ ?_ _ | refine bD ?_ | refine below_drewN ?_ _ | (simp; done) | (simp; omega) | (simp [drew_size]; done) | (simp [drew_size]; omega) | omega)); have hY := hX1; obtain ⟨t0, a0, a1, af0, af1, b0, b1, bf0, bf1, r0, r1, rf0, rf1, s0, s1, sf0, sf1⟩ := hY; have u2 : w.heap.size + 1 + 1 < w1.heap.size := (by omega); have u0 : w.heap.size < w1.heap.size := (by omega); have u1 : w.heap.size + 1 < w1.heap.size := (by omega); have v4 := bd_later_box hb1 (w.heap.size + 1 + 1 + 1 + 1); have v5 := bd_later_box hb1 (w.heap.size + 1 + 1 + 1 + 1 + 1); (try simp [go_sem] at v4); (try simp [go_sem] at v5))))
    all_goals (go_wp2_with fail; go_meet)
    all_goals exact ⟨_, _, rfl, rfl, rfl, by repeat' first | exact bF _ _ | exact hbw1 | refine bA ?_ ?_ _ | refine bS ?_ ?_ _ | refine bD ?_ | refine below_drewN ?_ _ | (simp; done) | (simp; omega) | (simp [drew_size]; done) | (simp [drew_size]; omega) | omega, by refine ⟨?_, ?_, ?_, ?_, ?_, ?_, ?_, ?_, ?_, ?_, ?_, ?_, ?_, ?_, ?_, ?_⟩ <;> first | (simp [go_sem, *]; done) | omega | (simp; omega)⟩
  case rest =>
  obtain ⟨L, U, rfl, rfl, rfl, hbw, r0, r1, rf0, rf1, s0, s1, sf0, sf1, l0, l1, m0, m1, n0, n1, n2, n3⟩ := hcut
  go_wp2_with fail
  all_goals go_region
  all_goals go_wp2
  all_goals exact bodyPost_ret (v := .tuple #[.agg #[vI vK (((belV 0 bl bh al ah).2.1).1), vI vK (((belV 0 bl bh al ah).2.1).2)], .agg #[vI vK (((belV 0 bl bh al ah).1).1), vI vK (((belV 0 bl bh al ah).1).2)], .bool ((belV 0 bl bh al ah).2.2)]) (by simp [results, Tryz.results198, go_sem, r0, r1, s0, s1]) rfl ⟨rfl, by repeat' first | exact bF _ _ | exact hbw | refine bA ?_ ?_ _ | refine bS ?_ ?_ _ | refine bD ?_ | refine below_drewN ?_ _ | (simp; done) | (simp; omega) | (simp [drew_size]; done) | (simp [drew_size]; omega) | omega⟩
end Go.Proofs.YtednmkhdehlojaaGreatDoor
namespace Go.Proofs.YtednmkhdehlojaaGreatDoor
open Go.ChangeShapes Go.WideShapes Go.ChangeAt Go.RowKit

theorem narrow_is (c al ah bl bh : Int) (pal : -9223372036854775808 ≤ al) (qal : al ≤ 9223372036854775807) (pah : -9223372036854775808 ≤ ah) (qah : ah ≤ 9223372036854775807) (pbl : -9223372036854775808 ≤ bl) (qbl : bl ≤ 9223372036854775807) (pbh : -9223372036854775808 ≤ bh) (qbh : bh ≤ 9223372036854775807) (oa : al ≤ ah) (ob : bl ≤ bh) (w : World) : Calls Tryz.prog 198 #[vI vK c, .agg #[vI vK al, vI vK ah], .agg #[vI vK bl, vI vK bh]] w fun e w' => e = .returned (.tuple #[.agg #[vI vK (((narV c al ah bl bh).1).1), vI vK (((narV c al ah bl bh).1).2)], .agg #[vI vK (((narV c al ah bl bh).2.1).1), vI vK (((narV c al ah bl bh).2.1).2)], .bool ((narV c al ah bl bh).2.2)]) ∧ Below w.heap.size w w' := by
  by_cases hc : c < 15 ∨ 24 < c
  · rw [narV_no al ah bl bh hc]
    exact nar_no c al ah bl bh hc w
  · have e : c = 15 ∨ c = 16 ∨ c = 17 ∨ c = 18 ∨ c = 19 ∨ c = 20 ∨ c = 21 ∨ c = 22 ∨ c = 23 ∨ c = 24 := by omega
    rcases e with rfl | rfl | rfl | rfl | rfl | rfl | rfl | rfl | rfl | rfl
    · rw [narV_15]; exact nar_15 al ah bl bh pal qal pah qah pbl qbl pbh qbh oa ob w
    · rw [narV_16]; exact nar_16 al ah bl bh pal qal pah qah pbl qbl pbh qbh oa ob w
    · rw [narV_17]; exact nar_17 al ah bl bh pal qal pah qah pbl qbl pbh qbh oa ob w
    · rw [narV_18]; exact nar_18 al ah bl bh pal qal pah qah pbl qbl pbh qbh oa ob w
    · rw [narV_19]; exact nar_19 al ah bl bh pal qal pah qah pbl qbl pbh qbh oa ob w
    · rw [narV_20]; exact nar_20 al ah bl bh pal qal pah qah pbl qbl pbh qbh oa ob w
    · rw [narV_21]; exact nar_21 al ah bl bh pal qal pah qah pbl qbl pbh qbh oa ob w
    · rw [narV_22]; exact nar_22 al ah bl bh pal qal pah qah pbl qbl pbh qbh oa ob w
    · rw [narV_23]; exact nar_23 al ah bl bh pal qal pah qah pbl qbl pbh qbh oa ob w
    · rw [narV_24]; exact nar_24 al ah bl bh pal qal pah qah pbl qbl pbh qbh oa ob w
theorem opp_is (c : Int) (h : 15 ≤ c ∧ c ≤ 24) (w : World) : Calls Tryz.prog 180 #[vI vK c] w fun e w' => e = .returned (vI vK (oppV c)) ∧ w' = w := by
  have e : c = 15 ∨ c = 16 ∨ c = 17 ∨ c = 18 ∨ c = 19 ∨ c = 20 ∨ c = 21 ∨ c = 22 ∨ c = 23 ∨ c = 24 := by omega
  rcases e with rfl | rfl | rfl | rfl | rfl | rfl | rfl | rfl | rfl | rfl
  · exact opp_15 w
  · exact opp_16 w
  · exact opp_17 w
  · exact opp_18 w
  · exact opp_19 w
  · exact opp_20 w
  · exact opp_21 w
  · exact opp_22 w
  · exact opp_23 w
  · exact opp_24 w
end Go.Proofs.YtednmkhdehlojaaGreatDoor
