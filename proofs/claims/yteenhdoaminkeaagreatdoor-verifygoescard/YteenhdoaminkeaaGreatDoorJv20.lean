/-
 What package verify's load does. Conditions: the ends are of 64 bits, in order.
-/
import Derived.Test.YteenhdoaminkeaaGreatDoorJv18
import Derived.Laws.IdiomCopy
set_option maxHeartbeats 40000000
open Go.Value renaming int → vI
open Go.IntKind renaming i64 → vK
open Go.RowKit.Below renaming alloc → bA, setCell → bS, drew → bD, refl → bF
set_option maxRecDepth 1000000
set_option linter.defProp false
set_option linter.unusedVariables false
set_option linter.unusedSimpArgs false
namespace Go.Proofs.YteenhdoaminkeaaGreatDoor
open Go.ChangeShapes Go.WideShapes Go.ChangeAt Go.RowKit
theorem Blk.add {w0 w : World} {F : List (Nat × Obj)} (h : Blk w0 F w) (z : Obj) : Blk w0 ((w.heap.size, z) :: F) (w.alloc z) :=
 (h.later ((bF _ _).alloc (Nat.le_refl _) z)).cons (heap_alloc_new w z)
attribute [local simp] z00 z0y z0o
theorem zN6 (B d s : Nat) (c o n p : Int) (r : Bool) (y : Way) (hd : d < 11) (hs : s < 11) (wl wh E : Int) (HR : Hid (∀ W : World, Calls Tryz.prog 61 #[.agg #[vI vK (y.reg s).k, vI vK (y.reg s).l, vI vK (y.reg s).h], vI vK o] W fun e w' => e = .returned (.tuple #[.agg #[vI vK wl, vI vK wh], vI vK E]) ∧ Below W.heap.size W w')) (hE : (E == 0) = false) (w : World) (hW : z05 w B p y) :
  Calls Tryz.prog 44 #[.pointer (some ⟨B, 0, none⟩), .agg #[vI vK c, vI vK d, vI vK s, .bool r, vI vK o, vI vK n]] w fun e w' => e = .returned (vI vK E) ∧ Below w.heap.size w w' := by
 have hK0 : Blk w [(w.heap.size, .cells #[vI vK c, vI vK d, vI vK s, .bool r, vI vK o, vI vK n] 59 (0, 0)), (B, .cells (z06 p y) 76 (0, 0))] _ := ((Blk.nil ((bF _ _).alloc (Nat.le_refl _) _)).cons (hW.alloc _)).cons (heap_alloc_new w (.cells #[vI vK c, vI vK d, vI vK s, .bool r, vI vK o, vI vK n] 59))
 have hB := hW.lt
 have hs0 : (0 : Int) ≤ (s : Int) := by omega
 have hs1 : (s : Int) < 11 := by omega
 have hd0 : (0 : Int) ≤ (d : Int) := by omega
 have hd1 : (d : Int) < 11 := by omega
 go_enter Tryz.func44, Tryz.ntmps44
 go_wp2_with fail
 refine z0n (C := Blk w [(w.heap.size, .cells #[vI vK c, vI vK d, vI vK s, .bool r, vI vK o, vI vK n] 59 (0, 0)), (B, .cells (z06 p y) 76 (0, 0))]) (n0 := w.heap.size + 1) 7 [] [.cells #[vI vK 0, vI vK 0, vI vK 0] 72 (0, 0)] (by kernel_rfl) (by kernel_rfl) (fun d _ _ _ _ h => by cases d <;> exact h) (Blk.stable _ _) (Blk.room w mcS) hK0.drew ⟨⟨rfl, fun a w2 hC => by go_simp; try rfl⟩, trivial⟩ ?_
 simp only [List.take_succ_cons, List.take_zero, List.drop_succ_cons, List.drop_zero, List.length_cons, List.length_nil, Nat.reduceAdd]
 repeat (first
  | (refine z0k (by rfl) ?_; simp only [Act.put, siA, scZ, scS])
  | (refine z0b (by rfl) (v := ?_) ?_ ?_; rotate_left; (intro w2 hC; obtain ⟨p0, p1, p2, p3, p4, p5, ltS⟩ := row6 (hC.2 _ mcS); have yW : z05 _ B _ _ := (hC.2 _ (mcO _ mcS)); have ylt := yW.lt; obtain ⟨i0, i1, i2⟩ := yW.reg hs; go_simp; try with_reducible rfl); simp only [Act.put, siA, scZ, scS]))
 refine z0t ?_
 intro L h5 g5 w3 hC hB3
 have bL := hB3 L _ (FB.at_new _ _ _)
 obtain ⟨l0, l1, l2, lf0, lf1, lf2, llt⟩ := row3 bL
 obtain ⟨p0, p1, p2, p3, p4, p5, ltS⟩ := row6 (hC.2 _ mcS); have yW : z05 _ B _ _ := (hC.2 _ (mcO _ mcS)); have ylt := yW.lt; obtain ⟨i0, i1, i2⟩ := yW.reg hs
 have hbw := hC.1
 have n1 : w.heap.size ≠ L := by omega
 have n2 : B ≠ L := by omega
 simp only [z4l]
 go_wp2_with (first
  | (go_at_call 61; go_must (have hK1 : Blk w [(L, .cells #[vI vK (y.reg s).k, vI vK (y.reg s).l, vI vK (y.reg s).h] 72 (0, 0)), (B, .cells (z06 p y) 76 (0, 0)), (w.heap.size, .cells #[vI vK c, vI vK d, vI vK s, .bool r, vI vK o, vI vK n] 59 (0, 0))] _ := (((Blk.nil (by repeat' first | with_reducible (first | exact hbw | exact bF _ _ | refine bA ?_ ?_ _ | refine bS ?_ ?_ _ | refine bD ?_ | refine z08 ?_ ?_ _) | ((try dsimp only); omega) | (simp; done) | (simp; omega))).cons (off3 (hC.2 _ mcS) n1)).cons (off3 (hC.2 _ (mcO _ mcS)) n2)).cons (put3 bL); refine (HR.out _).mono ?_; rintro e w4 ⟨rfl, hb4⟩; have hK4 := hK1.later hb4; clear l0 l1 l2 lf0 lf1 lf2 llt p0 p1 p2 p3 p4 p5 ltS yW ylt i0 i1 i2; obtain ⟨l0, l1, l2, lf0, lf1, lf2, llt⟩ := row3 (hK4.2 _ mcS); have yW : z05 _ B _ _ := (hK4.2 _ (mcO _ mcS)); have ylt := yW.lt; obtain ⟨p0, p1, p2, p3, p4, p5, ltS⟩ := row6 (hK4.2 _ (mcO _ (mcO _ mcS)))))
  | (go_at_call 63; go_must (refine (z2v _).mono ?_; rintro e w5 ⟨rfl, hb5⟩; have hK5 := (hK4.add (.cells #[vI vK wl, vI vK wh] 30)).later hb5; clear l0 l1 l2 lf0 lf1 lf2 llt p0 p1 p2 p3 p4 p5 ltS yW ylt; obtain ⟨u0, u1, uf0, uf1, ult⟩ := row2 (hK5.2 _ mcS); obtain ⟨l0, l1, l2, lf0, lf1, lf2, llt⟩ := row3 (hK5.2 _ (mcO _ mcS)); have yW : z05 _ B _ _ := (hK5.2 _ (mcO _ (mcO _ mcS))); have ylt := yW.lt; obtain ⟨p0, p1, p2, p3, p4, p5, ltS⟩ := row6 (hK5.2 _ (mcO _ (mcO _ (mcO _ mcS))))))
  | (go_at_call 62; go_must (refine (z1k _ _ _).mono ?_; rintro e w6 ⟨rfl, hb6⟩; simp only [Kno.v, z15]; have hK6 := hK5.later hb6; clear l0 l1 l2 lf0 lf1 lf2 llt p0 p1 p2 p3 p4 p5 ltS yW ylt u0 u1 uf0 uf1 ult; obtain ⟨u0, u1, uf0, uf1, ult⟩ := row2 (hK6.2 _ mcS); obtain ⟨l0, l1, l2, lf0, lf1, lf2, llt⟩ := row3 (hK6.2 _ (mcO _ mcS)); have yW : z05 _ B _ _ := (hK6.2 _ (mcO _ (mcO _ mcS))); have ylt := yW.lt; obtain ⟨p0, p1, p2, p3, p4, p5, ltS⟩ := row6 (hK6.2 _ (mcO _ (mcO _ (mcO _ mcS)))); have hbw6 := hK6.1; have hs6 := hbw6.size; have hq6 := ylt; have hq7 := ltS))
  | fail)
 go_ret
 exact ⟨rfl, (by repeat' first | with_reducible (first | exact hbw6 | exact bF _ _ | refine bA ?_ ?_ _ | refine bS ?_ ?_ _ | refine bD ?_ | refine z08 ?_ ?_ _) | ((try dsimp only); omega) | (simp; done) | (simp; omega))⟩
theorem zJ1 (B d s : Nat) (c o n p : Int) (r : Bool) (y : Way) (hd : d < 11) (hs : s < 11) (wl wh E : Int) (HR : Hid (∀ W : World, Calls Tryz.prog 61 #[.agg #[vI vK (y.reg s).k, vI vK (y.reg s).l, vI vK (y.reg s).h], vI vK o] W fun e w' => e = .returned (.tuple #[.agg #[vI vK wl, vI vK wh], vI vK E]) ∧ Below W.heap.size W w')) (hE : (E == 0) = true) (hk : ((y.reg s).k == 3) = false) (w : World) (hW : z05 w B p y) :
  Calls Tryz.prog 44 #[.pointer (some ⟨B, 0, none⟩), .agg #[vI vK c, vI vK d, vI vK s, .bool r, vI vK o, vI vK n]] w fun e w' => e = .returned (vI vK E) ∧ Kept B w w' ∧ z05 w' B p (y.putReg d ⟨1, (-9223372036854775808), 9223372036854775807⟩) := by
 have hK0 : Blk w [(w.heap.size, .cells #[vI vK c, vI vK d, vI vK s, .bool r, vI vK o, vI vK n] 59 (0, 0)), (B, .cells (z06 p y) 76 (0, 0))] _ := ((Blk.nil ((bF _ _).alloc (Nat.le_refl _) _)).cons (hW.alloc _)).cons (heap_alloc_new w (.cells #[vI vK c, vI vK d, vI vK s, .bool r, vI vK o, vI vK n] 59))
 have hB := hW.lt
 have hs0 : (0 : Int) ≤ (s : Int) := by omega
 have hs1 : (s : Int) < 11 := by omega
 have hd0 : (0 : Int) ≤ (d : Int) := by omega
 have hd1 : (d : Int) < 11 := by omega
 go_enter Tryz.func44, Tryz.ntmps44
 go_wp2_with fail
 refine z0n (C := Blk w [(w.heap.size, .cells #[vI vK c, vI vK d, vI vK s, .bool r, vI vK o, vI vK n] 59 (0, 0)), (B, .cells (z06 p y) 76 (0, 0))]) (n0 := w.heap.size + 1) 7 [] [.cells #[vI vK 0, vI vK 0, vI vK 0] 72 (0, 0)] (by kernel_rfl) (by kernel_rfl) (fun d _ _ _ _ h => by cases d <;> exact h) (Blk.stable _ _) (Blk.room w mcS) hK0.drew ⟨⟨rfl, fun a w2 hC => by go_simp; try rfl⟩, trivial⟩ ?_
 simp only [List.take_succ_cons, List.take_zero, List.drop_succ_cons, List.drop_zero, List.length_cons, List.length_nil, Nat.reduceAdd]
 repeat (first
  | (refine z0k (by rfl) ?_; simp only [Act.put, siA, scZ, scS])
  | (refine z0b (by rfl) (v := ?_) ?_ ?_; rotate_left; (intro w2 hC; obtain ⟨p0, p1, p2, p3, p4, p5, ltS⟩ := row6 (hC.2 _ mcS); have yW : z05 _ B _ _ := (hC.2 _ (mcO _ mcS)); have ylt := yW.lt; obtain ⟨i0, i1, i2⟩ := yW.reg hs; go_simp; try with_reducible rfl); simp only [Act.put, siA, scZ, scS]))
 refine z0t ?_
 intro L h5 g5 w3 hC hB3
 have bL := hB3 L _ (FB.at_new _ _ _)
 obtain ⟨l0, l1, l2, lf0, lf1, lf2, llt⟩ := row3 bL
 obtain ⟨p0, p1, p2, p3, p4, p5, ltS⟩ := row6 (hC.2 _ mcS); have yW : z05 _ B _ _ := (hC.2 _ (mcO _ mcS)); have ylt := yW.lt; obtain ⟨i0, i1, i2⟩ := yW.reg hs
 have hbw := hC.1
 have n1 : w.heap.size ≠ L := by omega
 have n2 : B ≠ L := by omega
 simp only [z4l]
 go_wp2_with (first
  | (go_at_call 61; go_must (have hK1 : Blk w [(L, .cells #[vI vK (y.reg s).k, vI vK (y.reg s).l, vI vK (y.reg s).h] 72 (0, 0)), (B, .cells (z06 p y) 76 (0, 0)), (w.heap.size, .cells #[vI vK c, vI vK d, vI vK s, .bool r, vI vK o, vI vK n] 59 (0, 0))] _ := (((Blk.nil (by repeat' first | with_reducible (first | exact hbw | exact bF _ _ | refine bA ?_ ?_ _ | refine bS ?_ ?_ _ | refine bD ?_ | refine z08 ?_ ?_ _) | ((try dsimp only); omega) | (simp; done) | (simp; omega))).cons (off3 (hC.2 _ mcS) n1)).cons (off3 (hC.2 _ (mcO _ mcS)) n2)).cons (put3 bL); refine (HR.out _).mono ?_; rintro e w4 ⟨rfl, hb4⟩; have hK4 := hK1.later hb4; clear l0 l1 l2 lf0 lf1 lf2 llt p0 p1 p2 p3 p4 p5 ltS yW ylt i0 i1 i2; obtain ⟨l0, l1, l2, lf0, lf1, lf2, llt⟩ := row3 (hK4.2 _ mcS); have yW : z05 _ B _ _ := (hK4.2 _ (mcO _ mcS)); have ylt := yW.lt; obtain ⟨p0, p1, p2, p3, p4, p5, ltS⟩ := row6 (hK4.2 _ (mcO _ (mcO _ mcS)))))
  | (go_at_call 63; go_must (refine (z2v _).mono ?_; rintro e w5 ⟨rfl, hb5⟩; have hK5 := (hK4.add (.cells #[vI vK wl, vI vK wh] 30)).later hb5; clear l0 l1 l2 lf0 lf1 lf2 llt p0 p1 p2 p3 p4 p5 ltS yW ylt; obtain ⟨u0, u1, uf0, uf1, ult⟩ := row2 (hK5.2 _ mcS); obtain ⟨l0, l1, l2, lf0, lf1, lf2, llt⟩ := row3 (hK5.2 _ (mcO _ mcS)); have yW : z05 _ B _ _ := (hK5.2 _ (mcO _ (mcO _ mcS))); have ylt := yW.lt; obtain ⟨p0, p1, p2, p3, p4, p5, ltS⟩ := row6 (hK5.2 _ (mcO _ (mcO _ (mcO _ mcS))))))
  | (go_at_call 62; go_must (refine (z1k _ _ _).mono ?_; rintro e w6 ⟨rfl, hb6⟩; simp only [Kno.v, z15]; have hK6 := hK5.later hb6; clear l0 l1 l2 lf0 lf1 lf2 llt p0 p1 p2 p3 p4 p5 ltS yW ylt u0 u1 uf0 uf1 ult; obtain ⟨u0, u1, uf0, uf1, ult⟩ := row2 (hK6.2 _ mcS); obtain ⟨l0, l1, l2, lf0, lf1, lf2, llt⟩ := row3 (hK6.2 _ (mcO _ mcS)); have yW : z05 _ B _ _ := (hK6.2 _ (mcO _ (mcO _ mcS))); have ylt := yW.lt; obtain ⟨p0, p1, p2, p3, p4, p5, ltS⟩ := row6 (hK6.2 _ (mcO _ (mcO _ (mcO _ mcS)))); have hbw6 := hK6.1; have hs6 := hbw6.size; have hq6 := ylt; have hq7 := ltS))
  | fail)
 have hK8 : Blk w [(w6.heap.size, .cells #[vI vK 1, vI vK (-9223372036854775808), vI vK 9223372036854775807] 72 (0, 0)), (B, .cells (z06 p y) 76 (0, 0)), (w.heap.size, .cells #[vI vK c, vI vK d, vI vK s, .bool r, vI vK o, vI vK n] 59 (0, 0))] _ := ((((hK6.add (.cells #[vI vK 1, vI vK (-9223372036854775808), vI vK 9223372036854775807] 72))))).more (fun x hx => by simp only [List.mem_cons, List.not_mem_nil, or_false] at hx ⊢; rcases hx with rfl | rfl | rfl <;> simp)
 clear hC
 refine z0n (C := Blk w [(w6.heap.size, .cells #[vI vK 1, vI vK (-9223372036854775808), vI vK 9223372036854775807] 72 (0, 0)), (B, .cells (z06 p y) 76 (0, 0)), (w.heap.size, .cells #[vI vK c, vI vK d, vI vK s, .bool r, vI vK o, vI vK n] 59 (0, 0))]) (n0 := w.heap.size) 7 [] [] (by kernel_rfl) (by kernel_rfl) (fun d _ _ _ _ h => by cases d <;> exact h) (Blk.stable _ _) (Blk.room0 _ _) hK8.drew trivial ?_
 simp only [List.take_succ_cons, List.take_zero, List.drop_succ_cons, List.drop_zero, List.length_nil, Nat.reduceAdd]
 repeat (first
  | (refine z0k (by rfl) ?_; simp only [Act.put, siA, scZ, scS])
  | (refine z0b (by rfl) (v := ?_) ?_ ?_; rotate_left; (intro w2 hC; obtain ⟨g0, g1, g2, gf0, gf1, gf2, glt⟩ := row3 (hC.2 _ mcS); have yW : z05 _ B _ _ := (hC.2 _ (mcO _ mcS)); have ylt := yW.lt; obtain ⟨i0, i1, i2⟩ := yW.reg hd; obtain ⟨p0, p1, p2, p3, p4, p5, ltS⟩ := row6 (hC.2 _ (mcO _ (mcO _ mcS))); go_simp; try with_reducible rfl); simp only [Act.put, siA, scZ, scS]))
 refine z0t ?_
 intro w9 hC hB9
 obtain ⟨g0, g1, g2, gf0, gf1, gf2, glt⟩ := row3 (hC.2 _ mcS); have yW : z05 _ B _ _ := (hC.2 _ (mcO _ mcS)); have ylt := yW.lt; obtain ⟨i0, i1, i2⟩ := yW.reg hd; obtain ⟨p0, p1, p2, p3, p4, p5, ltS⟩ := row6 (hC.2 _ (mcO _ (mcO _ mcS)))
 have if0 := yW.frozen (1 + d * 3); have if1 := yW.frozen (1 + d * 3 + 1); have if2 := yW.frozen (1 + d * 3 + 2)
 have HK := z1q hC.1 B
 go_wp2_with fail
 go_ret
 exact ⟨rfl, (by repeat' first | with_reducible (first | exact HK | refine z3g ?_ | refine kept_set ?_ _ _ | refine z40 ?_ _ _ ?_ | refine z2w ?_ _) | ((try dsimp only); omega) | (simp; omega)), yW.reg3 hd 1 (-9223372036854775808) 9223372036854775807⟩
theorem zJ0 (B d s : Nat) (c o n p : Int) (r : Bool) (y : Way) (hd : d < 11) (hs : s < 11) (wl wh E : Int) (HR : Hid (∀ W : World, Calls Tryz.prog 61 #[.agg #[vI vK (y.reg s).k, vI vK (y.reg s).l, vI vK (y.reg s).h], vI vK o] W fun e w' => e = .returned (.tuple #[.agg #[vI vK wl, vI vK wh], vI vK E]) ∧ Below W.heap.size W w')) (hE : (E == 0) = true) (hk : ((y.reg s).k == 3) = true) (gk gl gh E2 : Int) (HKP : Hid (∀ W : World, z05 W B p y → Calls Tryz.prog 64 #[.pointer (some ⟨B, 0, none⟩), .agg #[vI vK wl, vI vK wh]] W fun e w' => e = .returned (.tuple #[.agg #[vI vK gk, vI vK gl, vI vK gh], vI vK E2]) ∧ Below W.heap.size W w')) (hE2 : (E2 == 0) = false) (w : World) (hW : z05 w B p y) :
  Calls Tryz.prog 44 #[.pointer (some ⟨B, 0, none⟩), .agg #[vI vK c, vI vK d, vI vK s, .bool r, vI vK o, vI vK n]] w fun e w' => e = .returned (vI vK E2) ∧ Below w.heap.size w w' := by
 have hK0 : Blk w [(w.heap.size, .cells #[vI vK c, vI vK d, vI vK s, .bool r, vI vK o, vI vK n] 59 (0, 0)), (B, .cells (z06 p y) 76 (0, 0))] _ := ((Blk.nil ((bF _ _).alloc (Nat.le_refl _) _)).cons (hW.alloc _)).cons (heap_alloc_new w (.cells #[vI vK c, vI vK d, vI vK s, .bool r, vI vK o, vI vK n] 59))
 have hB := hW.lt
 have hs0 : (0 : Int) ≤ (s : Int) := by omega
 have hs1 : (s : Int) < 11 := by omega
 have hd0 : (0 : Int) ≤ (d : Int) := by omega
 have hd1 : (d : Int) < 11 := by omega
 go_enter Tryz.func44, Tryz.ntmps44
 go_wp2_with fail
 refine z0n (C := Blk w [(w.heap.size, .cells #[vI vK c, vI vK d, vI vK s, .bool r, vI vK o, vI vK n] 59 (0, 0)), (B, .cells (z06 p y) 76 (0, 0))]) (n0 := w.heap.size + 1) 7 [] [.cells #[vI vK 0, vI vK 0, vI vK 0] 72 (0, 0)] (by kernel_rfl) (by kernel_rfl) (fun d _ _ _ _ h => by cases d <;> exact h) (Blk.stable _ _) (Blk.room w mcS) hK0.drew ⟨⟨rfl, fun a w2 hC => by go_simp; try rfl⟩, trivial⟩ ?_
 simp only [List.take_succ_cons, List.take_zero, List.drop_succ_cons, List.drop_zero, List.length_cons, List.length_nil, Nat.reduceAdd]
 repeat (first
  | (refine z0k (by rfl) ?_; simp only [Act.put, siA, scZ, scS])
  | (refine z0b (by rfl) (v := ?_) ?_ ?_; rotate_left; (intro w2 hC; obtain ⟨p0, p1, p2, p3, p4, p5, ltS⟩ := row6 (hC.2 _ mcS); have yW : z05 _ B _ _ := (hC.2 _ (mcO _ mcS)); have ylt := yW.lt; obtain ⟨i0, i1, i2⟩ := yW.reg hs; go_simp; try with_reducible rfl); simp only [Act.put, siA, scZ, scS]))
 refine z0t ?_
 intro L h5 g5 w3 hC hB3
 have bL := hB3 L _ (FB.at_new _ _ _)
 obtain ⟨l0, l1, l2, lf0, lf1, lf2, llt⟩ := row3 bL
 obtain ⟨p0, p1, p2, p3, p4, p5, ltS⟩ := row6 (hC.2 _ mcS); have yW : z05 _ B _ _ := (hC.2 _ (mcO _ mcS)); have ylt := yW.lt; obtain ⟨i0, i1, i2⟩ := yW.reg hs
 have hbw := hC.1
 have n1 : w.heap.size ≠ L := by omega
 have n2 : B ≠ L := by omega
 simp only [z4l]
 go_wp2_with (first
  | (go_at_call 61; go_must (have hK1 : Blk w [(L, .cells #[vI vK (y.reg s).k, vI vK (y.reg s).l, vI vK (y.reg s).h] 72 (0, 0)), (B, .cells (z06 p y) 76 (0, 0)), (w.heap.size, .cells #[vI vK c, vI vK d, vI vK s, .bool r, vI vK o, vI vK n] 59 (0, 0))] _ := (((Blk.nil (by repeat' first | with_reducible (first | exact hbw | exact bF _ _ | refine bA ?_ ?_ _ | refine bS ?_ ?_ _ | refine bD ?_ | refine z08 ?_ ?_ _) | ((try dsimp only); omega) | (simp; done) | (simp; omega))).cons (off3 (hC.2 _ mcS) n1)).cons (off3 (hC.2 _ (mcO _ mcS)) n2)).cons (put3 bL); refine (HR.out _).mono ?_; rintro e w4 ⟨rfl, hb4⟩; have hK4 := hK1.later hb4; clear l0 l1 l2 lf0 lf1 lf2 llt p0 p1 p2 p3 p4 p5 ltS yW ylt i0 i1 i2; obtain ⟨l0, l1, l2, lf0, lf1, lf2, llt⟩ := row3 (hK4.2 _ mcS); have yW : z05 _ B _ _ := (hK4.2 _ (mcO _ mcS)); have ylt := yW.lt; obtain ⟨p0, p1, p2, p3, p4, p5, ltS⟩ := row6 (hK4.2 _ (mcO _ (mcO _ mcS)))))
  | (go_at_call 63; go_must (refine (z2v _).mono ?_; rintro e w5 ⟨rfl, hb5⟩; have hK5 := (hK4.add (.cells #[vI vK wl, vI vK wh] 30)).later hb5; clear l0 l1 l2 lf0 lf1 lf2 llt p0 p1 p2 p3 p4 p5 ltS yW ylt; obtain ⟨u0, u1, uf0, uf1, ult⟩ := row2 (hK5.2 _ mcS); obtain ⟨l0, l1, l2, lf0, lf1, lf2, llt⟩ := row3 (hK5.2 _ (mcO _ mcS)); have yW : z05 _ B _ _ := (hK5.2 _ (mcO _ (mcO _ mcS))); have ylt := yW.lt; obtain ⟨p0, p1, p2, p3, p4, p5, ltS⟩ := row6 (hK5.2 _ (mcO _ (mcO _ (mcO _ mcS))))))
  | (go_at_call 62; go_must (refine (z1k _ _ _).mono ?_; rintro e w6 ⟨rfl, hb6⟩; simp only [Kno.v, z15]; have hK6 := hK5.later hb6; clear l0 l1 l2 lf0 lf1 lf2 llt p0 p1 p2 p3 p4 p5 ltS yW ylt u0 u1 uf0 uf1 ult; obtain ⟨u0, u1, uf0, uf1, ult⟩ := row2 (hK6.2 _ mcS); obtain ⟨l0, l1, l2, lf0, lf1, lf2, llt⟩ := row3 (hK6.2 _ (mcO _ mcS)); have yW : z05 _ B _ _ := (hK6.2 _ (mcO _ (mcO _ mcS))); have ylt := yW.lt; obtain ⟨p0, p1, p2, p3, p4, p5, ltS⟩ := row6 (hK6.2 _ (mcO _ (mcO _ (mcO _ mcS)))); have hbw6 := hK6.1; have hs6 := hbw6.size; have hq6 := ylt; have hq7 := ltS))
  | (go_at_call 64; go_must (have hKG := (((hK6.add (.cells #[vI vK 1, vI vK (-9223372036854775808), vI vK 9223372036854775807] 72)))); refine (HKP.out _ (hKG.2 _ (mcO _ (mcO _ (mcO _ mcS))))).mono ?_; rintro e w7 ⟨rfl, hb7⟩; have hK7 := hKG.later hb7; clear l0 l1 l2 lf0 lf1 lf2 llt p0 p1 p2 p3 p4 p5 ltS yW ylt u0 u1 uf0 uf1 ult; obtain ⟨g0, g1, g2, gf0, gf1, gf2, glt⟩ := row3 (hK7.2 _ mcS); obtain ⟨u0, u1, uf0, uf1, ult⟩ := row2 (hK7.2 _ (mcO _ mcS)); obtain ⟨l0, l1, l2, lf0, lf1, lf2, llt⟩ := row3 (hK7.2 _ (mcO _ (mcO _ mcS))); have yW : z05 _ B _ _ := (hK7.2 _ (mcO _ (mcO _ (mcO _ mcS)))); have ylt := yW.lt; obtain ⟨i0, i1, i2⟩ := yW.reg hd; obtain ⟨p0, p1, p2, p3, p4, p5, ltS⟩ := row6 (hK7.2 _ (mcO _ (mcO _ (mcO _ (mcO _ mcS))))); have hbw7 := hK7.1))
  | fail)
 go_ret
 exact ⟨rfl, (by repeat' first | with_reducible (first | exact hbw7 | exact bF _ _ | refine bA ?_ ?_ _ | refine bS ?_ ?_ _ | refine bD ?_ | refine z08 ?_ ?_ _) | ((try dsimp only); omega) | (simp; done) | (simp; omega))⟩
theorem zH5 (B d s : Nat) (c o n p : Int) (r : Bool) (y : Way) (hd : d < 11) (hs : s < 11) (wl wh E : Int) (HR : Hid (∀ W : World, Calls Tryz.prog 61 #[.agg #[vI vK (y.reg s).k, vI vK (y.reg s).l, vI vK (y.reg s).h], vI vK o] W fun e w' => e = .returned (.tuple #[.agg #[vI vK wl, vI vK wh], vI vK E]) ∧ Below W.heap.size W w')) (hE : (E == 0) = true) (hk : ((y.reg s).k == 3) = true) (gk gl gh E2 : Int) (HKP : Hid (∀ W : World, z05 W B p y → Calls Tryz.prog 64 #[.pointer (some ⟨B, 0, none⟩), .agg #[vI vK wl, vI vK wh]] W fun e w' => e = .returned (.tuple #[.agg #[vI vK gk, vI vK gl, vI vK gh], vI vK E2]) ∧ Below W.heap.size W w')) (hE2 : (E2 == 0) = true) (w : World) (hW : z05 w B p y) :
  Calls Tryz.prog 44 #[.pointer (some ⟨B, 0, none⟩), .agg #[vI vK c, vI vK d, vI vK s, .bool r, vI vK o, vI vK n]] w fun e w' => e = .returned (vI vK E2) ∧ Kept B w w' ∧ z05 w' B p (y.putReg d ⟨gk, gl, gh⟩) := by
 have hK0 : Blk w [(w.heap.size, .cells #[vI vK c, vI vK d, vI vK s, .bool r, vI vK o, vI vK n] 59 (0, 0)), (B, .cells (z06 p y) 76 (0, 0))] _ := ((Blk.nil ((bF _ _).alloc (Nat.le_refl _) _)).cons (hW.alloc _)).cons (heap_alloc_new w (.cells #[vI vK c, vI vK d, vI vK s, .bool r, vI vK o, vI vK n] 59))
 have hB := hW.lt
 have hs0 : (0 : Int) ≤ (s : Int) := by omega
 have hs1 : (s : Int) < 11 := by omega
 have hd0 : (0 : Int) ≤ (d : Int) := by omega
 have hd1 : (d : Int) < 11 := by omega
 go_enter Tryz.func44, Tryz.ntmps44
 go_wp2_with fail
 refine z0n (C := Blk w [(w.heap.size, .cells #[vI vK c, vI vK d, vI vK s, .bool r, vI vK o, vI vK n] 59 (0, 0)), (B, .cells (z06 p y) 76 (0, 0))]) (n0 := w.heap.size + 1) 7 [] [.cells #[vI vK 0, vI vK 0, vI vK 0] 72 (0, 0)] (by kernel_rfl) (by kernel_rfl) (fun d _ _ _ _ h => by cases d <;> exact h) (Blk.stable _ _) (Blk.room w mcS) hK0.drew ⟨⟨rfl, fun a w2 hC => by go_simp; try rfl⟩, trivial⟩ ?_
 simp only [List.take_succ_cons, List.take_zero, List.drop_succ_cons, List.drop_zero, List.length_cons, List.length_nil, Nat.reduceAdd]
 repeat (first
  | (refine z0k (by rfl) ?_; simp only [Act.put, siA, scZ, scS])
  | (refine z0b (by rfl) (v := ?_) ?_ ?_; rotate_left; (intro w2 hC; obtain ⟨p0, p1, p2, p3, p4, p5, ltS⟩ := row6 (hC.2 _ mcS); have yW : z05 _ B _ _ := (hC.2 _ (mcO _ mcS)); have ylt := yW.lt; obtain ⟨i0, i1, i2⟩ := yW.reg hs; go_simp; try with_reducible rfl); simp only [Act.put, siA, scZ, scS]))
 refine z0t ?_
 intro L h5 g5 w3 hC hB3
 have bL := hB3 L _ (FB.at_new _ _ _)
 obtain ⟨l0, l1, l2, lf0, lf1, lf2, llt⟩ := row3 bL
 obtain ⟨p0, p1, p2, p3, p4, p5, ltS⟩ := row6 (hC.2 _ mcS); have yW : z05 _ B _ _ := (hC.2 _ (mcO _ mcS)); have ylt := yW.lt; obtain ⟨i0, i1, i2⟩ := yW.reg hs
 have hbw := hC.1
 have n1 : w.heap.size ≠ L := by omega
 have n2 : B ≠ L := by omega
 simp only [z4l]
 go_wp2_with (first
  | (go_at_call 61; go_must (have hK1 : Blk w [(L, .cells #[vI vK (y.reg s).k, vI vK (y.reg s).l, vI vK (y.reg s).h] 72 (0, 0)), (B, .cells (z06 p y) 76 (0, 0)), (w.heap.size, .cells #[vI vK c, vI vK d, vI vK s, .bool r, vI vK o, vI vK n] 59 (0, 0))] _ := (((Blk.nil (by repeat' first | with_reducible (first | exact hbw | exact bF _ _ | refine bA ?_ ?_ _ | refine bS ?_ ?_ _ | refine bD ?_ | refine z08 ?_ ?_ _) | ((try dsimp only); omega) | (simp; done) | (simp; omega))).cons (off3 (hC.2 _ mcS) n1)).cons (off3 (hC.2 _ (mcO _ mcS)) n2)).cons (put3 bL); refine (HR.out _).mono ?_; rintro e w4 ⟨rfl, hb4⟩; have hK4 := hK1.later hb4; clear l0 l1 l2 lf0 lf1 lf2 llt p0 p1 p2 p3 p4 p5 ltS yW ylt i0 i1 i2; obtain ⟨l0, l1, l2, lf0, lf1, lf2, llt⟩ := row3 (hK4.2 _ mcS); have yW : z05 _ B _ _ := (hK4.2 _ (mcO _ mcS)); have ylt := yW.lt; obtain ⟨p0, p1, p2, p3, p4, p5, ltS⟩ := row6 (hK4.2 _ (mcO _ (mcO _ mcS)))))
  | (go_at_call 63; go_must (refine (z2v _).mono ?_; rintro e w5 ⟨rfl, hb5⟩; have hK5 := (hK4.add (.cells #[vI vK wl, vI vK wh] 30)).later hb5; clear l0 l1 l2 lf0 lf1 lf2 llt p0 p1 p2 p3 p4 p5 ltS yW ylt; obtain ⟨u0, u1, uf0, uf1, ult⟩ := row2 (hK5.2 _ mcS); obtain ⟨l0, l1, l2, lf0, lf1, lf2, llt⟩ := row3 (hK5.2 _ (mcO _ mcS)); have yW : z05 _ B _ _ := (hK5.2 _ (mcO _ (mcO _ mcS))); have ylt := yW.lt; obtain ⟨p0, p1, p2, p3, p4, p5, ltS⟩ := row6 (hK5.2 _ (mcO _ (mcO _ (mcO _ mcS))))))
  | (go_at_call 62; go_must (refine (z1k _ _ _).mono ?_; rintro e w6 ⟨rfl, hb6⟩; simp only [Kno.v, z15]; have hK6 := hK5.later hb6; clear l0 l1 l2 lf0 lf1 lf2 llt p0 p1 p2 p3 p4 p5 ltS yW ylt u0 u1 uf0 uf1 ult; obtain ⟨u0, u1, uf0, uf1, ult⟩ := row2 (hK6.2 _ mcS); obtain ⟨l0, l1, l2, lf0, lf1, lf2, llt⟩ := row3 (hK6.2 _ (mcO _ mcS)); have yW : z05 _ B _ _ := (hK6.2 _ (mcO _ (mcO _ mcS))); have ylt := yW.lt; obtain ⟨p0, p1, p2, p3, p4, p5, ltS⟩ := row6 (hK6.2 _ (mcO _ (mcO _ (mcO _ mcS)))); have hbw6 := hK6.1; have hs6 := hbw6.size; have hq6 := ylt; have hq7 := ltS))
  | (go_at_call 64; go_must (have hKG := (((hK6.add (.cells #[vI vK 1, vI vK (-9223372036854775808), vI vK 9223372036854775807] 72)))); refine (HKP.out _ (hKG.2 _ (mcO _ (mcO _ (mcO _ mcS))))).mono ?_; rintro e w7 ⟨rfl, hb7⟩; have hK7 := hKG.later hb7; clear l0 l1 l2 lf0 lf1 lf2 llt p0 p1 p2 p3 p4 p5 ltS yW ylt u0 u1 uf0 uf1 ult; obtain ⟨g0, g1, g2, gf0, gf1, gf2, glt⟩ := row3 (hK7.2 _ mcS); obtain ⟨u0, u1, uf0, uf1, ult⟩ := row2 (hK7.2 _ (mcO _ mcS)); obtain ⟨l0, l1, l2, lf0, lf1, lf2, llt⟩ := row3 (hK7.2 _ (mcO _ (mcO _ mcS))); have yW : z05 _ B _ _ := (hK7.2 _ (mcO _ (mcO _ (mcO _ mcS)))); have ylt := yW.lt; obtain ⟨i0, i1, i2⟩ := yW.reg hd; obtain ⟨p0, p1, p2, p3, p4, p5, ltS⟩ := row6 (hK7.2 _ (mcO _ (mcO _ (mcO _ (mcO _ mcS))))); have hbw7 := hK7.1))
  | fail)
 have hK8 : Blk w [(w6.heap.size, .cells #[vI vK gk, vI vK gl, vI vK gh] 72 (0, 0)), (B, .cells (z06 p y) 76 (0, 0)), (w.heap.size, .cells #[vI vK c, vI vK d, vI vK s, .bool r, vI vK o, vI vK n] 59 (0, 0))] _ := ((Blk.nil (by repeat' first | with_reducible (first | exact hbw7 | exact bF _ _ | refine bA ?_ ?_ _ | refine bS ?_ ?_ _ | refine bD ?_ | refine z08 ?_ ?_ _) | ((try dsimp only); omega) | (simp; done) | (simp; omega))).cons (off3 (hK7.2 _ (mcO _ (mcO _ (mcO _ (mcO _ mcS))))) (by omega))).cons (off3 (hK7.2 _ (mcO _ (mcO _ (mcO _ mcS)))) (by omega)) |>.cons (put3 (hK7.2 _ mcS))
 clear hC
 refine z0n (C := Blk w [(w6.heap.size, .cells #[vI vK gk, vI vK gl, vI vK gh] 72 (0, 0)), (B, .cells (z06 p y) 76 (0, 0)), (w.heap.size, .cells #[vI vK c, vI vK d, vI vK s, .bool r, vI vK o, vI vK n] 59 (0, 0))]) (n0 := w.heap.size) 7 [] [] (by kernel_rfl) (by kernel_rfl) (fun d _ _ _ _ h => by cases d <;> exact h) (Blk.stable _ _) (Blk.room0 _ _) hK8.drew trivial ?_
 simp only [List.take_succ_cons, List.take_zero, List.drop_succ_cons, List.drop_zero, List.length_nil, Nat.reduceAdd]
 repeat (first
  | (refine z0k (by rfl) ?_; simp only [Act.put, siA, scZ, scS])
  | (refine z0b (by rfl) (v := ?_) ?_ ?_; rotate_left; (intro w2 hC; obtain ⟨g0, g1, g2, gf0, gf1, gf2, glt⟩ := row3 (hC.2 _ mcS); have yW : z05 _ B _ _ := (hC.2 _ (mcO _ mcS)); have ylt := yW.lt; obtain ⟨i0, i1, i2⟩ := yW.reg hd; obtain ⟨p0, p1, p2, p3, p4, p5, ltS⟩ := row6 (hC.2 _ (mcO _ (mcO _ mcS))); go_simp; try with_reducible rfl); simp only [Act.put, siA, scZ, scS]))
 refine z0t ?_
 intro w9 hC hB9
 obtain ⟨g0, g1, g2, gf0, gf1, gf2, glt⟩ := row3 (hC.2 _ mcS); have yW : z05 _ B _ _ := (hC.2 _ (mcO _ mcS)); have ylt := yW.lt; obtain ⟨i0, i1, i2⟩ := yW.reg hd; obtain ⟨p0, p1, p2, p3, p4, p5, ltS⟩ := row6 (hC.2 _ (mcO _ (mcO _ mcS)))
 have if0 := yW.frozen (1 + d * 3); have if1 := yW.frozen (1 + d * 3 + 1); have if2 := yW.frozen (1 + d * 3 + 2)
 have HK := z1q hC.1 B
 go_wp2_with fail
 go_ret
 exact ⟨rfl, (by repeat' first | with_reducible (first | exact HK | refine z3g ?_ | refine kept_set ?_ _ _ | refine z40 ?_ _ _ ?_ | refine z2w ?_ _) | ((try dsimp only); omega) | (simp; omega)), yW.reg3 hd gk gl gh⟩
theorem zJ2 {B d s : Nat} {c o n p : Int} {r : Bool} {y : Way} (hd : d < 11) (hs : s < 11) (hy : y.Ok) (ho : In64 o) {w : World} (hW : z05 w B p y) :
  Calls Tryz.prog 44 #[.pointer (some ⟨B, 0, none⟩), .agg #[vI vK c, vI vK d, vI vK s, .bool r, vI vK o, vI vK n]] w fun e w' => e = .returned (vI vK (y.load d s o).1) ∧ Kept B w w' ∧ z05 w' B p (y.load d s o).2 := by
 have HR := fun W : World => z9t (y.reg s) o (hy.reg s hs) ho W
 unfold Way.load
 rcases e : z0l (y.reg s) o with ⟨⟨wl, wh⟩, E⟩
 rw [e] at HR
 by_cases hE : E = 0
 ·subst hE
  rw [if_neg (by simp)]
  have er : (z0l (y.reg s) o).2 = 0 := by rw [e]
  obtain ⟨-, e1, r1, r2⟩ := z48 er
  have ot := z6t (hy.reg s hs) ho
  rw [e] at e1
  rw [← e1] at r1 r2 ot
  by_cases h3 : (y.reg s).k = 3
  ·rw [if_pos h3]
   rw [h3] at r1 r2
   have HKP := fun (W : World) (h : z05 W B p y) => zJ4 B wl wh p y r1 ot r2 W h
   show Calls _ _ _ _ fun e w' => e = .returned (vI vK (if (y.kept (wl, wh)).2 ≠ 0 then ((y.kept (wl, wh)).2, y) else (0, y.putReg d (y.kept (wl, wh)).1) : Int × Way).1) ∧ Kept B w w' ∧ z05 w' B p (if (y.kept (wl, wh)).2 ≠ 0 then ((y.kept (wl, wh)).2, y) else (0, y.putReg d (y.kept (wl, wh)).1) : Int × Way).2
   rcases ek : y.kept (wl, wh) with ⟨⟨gk, gl, gh⟩, E2⟩
   rw [ek] at HKP
   by_cases hE2 : E2 = 0
   ·subst hE2
    rw [if_neg (by simp)]
    exact zH5 B d s c o n p r y hd hs wl wh 0 HR rfl (by simpa using h3) gk gl gh 0 HKP rfl w hW
   ·rw [if_pos hE2]
    exact (zJ0 B d s c o n p r y hd hs wl wh 0 HR rfl (by simpa using h3) gk gl gh E2 HKP (by simpa using hE2) w hW).mono fun e w' ⟨h1, h2⟩ => ⟨h1, z1q h2 B, hW.later h2⟩
  ·rw [if_neg h3]
   exact zJ1 B d s c o n p r y hd hs wl wh 0 HR rfl (by simpa using h3) w hW
 ·rw [if_pos hE]
  exact (zN6 B d s c o n p r y hd hs wl wh E HR (by simpa using hE) w hW).mono fun e w' ⟨h1, h2⟩ => ⟨h1, z1q h2 B, hW.later h2⟩
theorem z8y (B d s : Nat) (c o n p : Int) (r : Bool) (y : Way) (hd : d < 11) (hs : s < 11) (bk bl bh : Int) (HB : Hid (y.second s r n = ⟨bk, bl, bh⟩)) : (∀ (wl wh E : Int) (HR : Hid (∀ W : World, Calls Tryz.prog 61 #[.agg #[vI vK (y.reg d).k, vI vK (y.reg d).l, vI vK (y.reg d).h], vI vK o] W fun e w' => e = .returned (.tuple #[.agg #[vI vK wl, vI vK wh], vI vK E]) ∧ Below W.heap.size W w')) (X : Int) (HX : Hid (((E != 0) = true ∧ X = E) ∨ ((E != 0) = false ∧ ((y.reg d).k == 2) = true ∧ X = 6) ∨ ((E != 0) = false ∧ ((y.reg d).k == 2) = false ∧ (bk == 0) = true ∧ X = 8) ∨ ((E != 0) = false ∧ ((y.reg d).k == 2) = false ∧ (bk == 0) = false ∧ ((y.reg d).k == 4) = true ∧ X = z0f ⟨bk, bl, bh⟩))) (w : World) (hW : z05 w B p y), Calls Tryz.prog 45 #[.pointer (some ⟨B, 0, none⟩), .agg #[vI vK c, vI vK d, vI vK s, .bool r, vI vK o, vI vK n]] w fun e w' => e = .returned (vI vK X) ∧ Below w.heap.size w w') ∧ (∀ (wl E : Int) (HR : Hid (∀ W : World, Calls Tryz.prog 61 #[.agg #[vI vK (y.reg d).k, vI vK (y.reg d).l, vI vK (y.reg d).h], vI vK o] W fun e w' => e = .returned (.tuple #[.agg #[vI vK wl, vI vK wl], vI vK E]) ∧ Below W.heap.size W w')) (t : Nat) (ht : t < 16) (e1 : IntKind.i64.wrap (wl + 16) = (t : Int)) (hE : (E != 0) = false) (x2 : ((y.reg d).k == 2) = false) (x3 : (bk == 0) = false) (x4 : ((y.reg d).k == 4) = false) (w : World) (hW : z05 w B p y), Calls Tryz.prog 45 #[.pointer (some ⟨B, 0, none⟩), .agg #[vI vK c, vI vK d, vI vK s, .bool r, vI vK o, vI vK n]] w fun e w' => e = .returned (vI vK 0) ∧ Kept B w w' ∧ z05 w' B p (y.putSlot t ⟨bk, bl, bh⟩)) ∧ (∀ (wl wh E : Int) (HR : Hid (∀ W : World, Calls Tryz.prog 61 #[.agg #[vI vK (y.reg d).k, vI vK (y.reg d).l, vI vK (y.reg d).h], vI vK o] W fun e w' => e = .returned (.tuple #[.agg #[vI vK wl, vI vK wh], vI vK E]) ∧ Below W.heap.size W w')) (hE : (E != 0) = false) (x2 : ((y.reg d).k == 2) = false) (x3 : (bk == 0) = false) (x4 : ((y.reg d).k == 4) = false) (hwide : ¬ wh = wl) (w : World) (hW : z05 w B p y), Calls Tryz.prog 45 #[.pointer (some ⟨B, 0, none⟩), .agg #[vI vK c, vI vK d, vI vK s, .bool r, vI vK o, vI vK n]] w fun e w' => e = .returned (vI vK 2) ∧ Below w.heap.size w w') := by
 refine ⟨?_, ?_, ?_⟩
 intro wl wh E HR X HX w hW
 rotate_left
 intro wl E HR t ht e1 hE x2 x3 x4 w hW
 rotate_left
 intro wl wh E HR hE x2 x3 x4 hwide w hW
 rotate_left
 all_goals
  have hK0 : Blk w [(w.heap.size, .cells #[vI vK c, vI vK d, vI vK s, .bool r, vI vK o, vI vK n] 59 (0, 0)), (B, .cells (z06 p y) 76 (0, 0))] _ := ((Blk.nil ((bF _ _).alloc (Nat.le_refl _) _)).cons (hW.alloc _)).cons (heap_alloc_new w (.cells #[vI vK c, vI vK d, vI vK s, .bool r, vI vK o, vI vK n] 59))
  have hB := hW.lt
  have hs0 : (0 : Int) ≤ (s : Int) := by omega
  have hs1 : (s : Int) < 11 := by omega
  have hd0 : (0 : Int) ≤ (d : Int) := by omega
  have hd1 : (d : Int) < 11 := by omega
 rotate_left
 have ht0 : (0 : Int) ≤ (t : Int) := by omega
 have ht1 : (t : Int) < 16 := by omega
 rotate_left
 rotate_left
 all_goals
  go_enter Tryz.func45, Tryz.ntmps45
  go_wp2_with fail
  refine z0n (C := Blk w [(w.heap.size, .cells #[vI vK c, vI vK d, vI vK s, .bool r, vI vK o, vI vK n] 59 (0, 0)), (B, .cells (z06 p y) 76 (0, 0))]) (n0 := w.heap.size + 1) 10 [] [.cells #[vI vK 0, vI vK 0, vI vK 0] 72 (0, 0), .cells #[vI vK 0, vI vK 0, vI vK 0] 72 (0, 0)] (by kernel_rfl) (by kernel_rfl) (fun d _ _ _ _ h => by cases d <;> exact h) (Blk.stable _ _) (Blk.room w mcS) hK0.drew ⟨⟨rfl, fun a w2 hC => by go_simp; try rfl⟩, ⟨rfl, fun a w2 hC => by go_simp; try rfl⟩, trivial⟩ ?_
 ·simp only [List.take_succ_cons, List.take_zero, List.drop_succ_cons, List.drop_zero, List.length_cons, List.length_nil, Nat.reduceAdd]
  repeat (first
   | (refine z0k (by rfl) ?_; simp only [Act.put, siA, scZ, scS])
   | (refine z0b (by rfl) (v := ?_) ?_ ?_; rotate_left; (intro w2 hC; obtain ⟨p0, p1, p2, p3, p4, p5, ltS⟩ := row6 (hC.2 _ mcS); have yW : z05 _ B _ _ := (hC.2 _ (mcO _ mcS)); have ylt := yW.lt; obtain ⟨i0, i1, i2⟩ := yW.reg hd; go_simp; try with_reducible rfl); simp only [Act.put, siA, scZ, scS])
   | (refine z0p (by rfl) ?_; apply Exists.intro; refine ⟨fun w2 hC => ?_, ?_⟩; (obtain ⟨p0, p1, p2, p3, p4, p5, ltS⟩ := row6 (hC.2 _ mcS); have yW : z05 _ B _ _ := (hC.2 _ (mcO _ mcS)); have ylt := yW.lt; obtain ⟨i0, i1, i2⟩ := yW.reg hd; go_simp; apply z0v; first | (go_at_call 58; exact (by have hq := z2g B s c d o n r p y hs w2 yW; rw [HB.out] at hq; unfold Kno.v at hq; exact hq))); simp only [Act.put, siA, scZ, scS]))
  refine z0t ?_
  intro L h5 g5 K h6 g6 w3 hC hB3
  have hne : K ≠ L := (FB.upd_none h6).1
  have hne' : L ≠ K := fun e => hne e.symm
  have bK := hB3 K _ (FB.at_new _ _ _)
  have bL := hB3 L _ (FB.at_old hne' (FB.at_new _ _ _))
  obtain ⟨l0, l1, l2, lf0, lf1, lf2, llt⟩ := row3 bL
  obtain ⟨k0, k1, k2, kf0, kf1, kf2, klt⟩ := row3 bK
  obtain ⟨p0, p1, p2, p3, p4, p5, ltS⟩ := row6 (hC.2 _ mcS); have yW : z05 _ B _ _ := (hC.2 _ (mcO _ mcS)); have ylt := yW.lt; obtain ⟨i0, i1, i2⟩ := yW.reg hd
  have hbw := hC.1
  have n1 : w.heap.size ≠ L := by omega
  have n2 : B ≠ L := by omega
  have n3 : w.heap.size ≠ K := by omega
  have n4 : B ≠ K := by omega
  simp only [z4l]
  go_upto_region 3 with (first
   | (go_at_call 61; go_must (have hK1 : Blk w [(L, .cells #[vI vK (y.reg d).k, vI vK (y.reg d).l, vI vK (y.reg d).h] 72 (0, 0)), (K, .cells #[vI vK bk, vI vK bl, vI vK bh] 72 (0, 0)), (B, .cells (z06 p y) 76 (0, 0)), (w.heap.size, .cells #[vI vK c, vI vK d, vI vK s, .bool r, vI vK o, vI vK n] 59 (0, 0))] _ := ((((Blk.nil (by repeat' first | with_reducible (first | exact hbw | exact bF _ _ | refine bA ?_ ?_ _ | refine bS ?_ ?_ _ | refine bD ?_ | refine z08 ?_ ?_ _) | ((try dsimp only); omega) | (simp; done) | (simp; omega))).cons (off3 (off3 (hC.2 _ mcS) n1) n3)).cons (off3 (off3 (hC.2 _ (mcO _ mcS)) n2) n4)).cons (put3 (off3 bK hne))).cons (off3 (put3 bL) hne'); refine (HR.out _).mono ?_; rintro e w4 ⟨rfl, hb4⟩; have hK4 := hK1.later hb4; clear l0 l1 l2 lf0 lf1 lf2 llt k0 k1 k2 kf0 kf1 kf2 klt p0 p1 p2 p3 p4 p5 ltS yW ylt i0 i1 i2; obtain ⟨l0, l1, l2, lf0, lf1, lf2, llt⟩ := row3 (hK4.2 _ mcS); obtain ⟨k0, k1, k2, kf0, kf1, kf2, klt⟩ := row3 (hK4.2 _ (mcO _ mcS)); have yW : z05 _ B _ _ := (hK4.2 _ (mcO _ (mcO _ mcS))); have ylt := yW.lt; obtain ⟨p0, p1, p2, p3, p4, p5, ltS⟩ := row6 (hK4.2 _ (mcO _ (mcO _ (mcO _ mcS)))); have hbw4 := hK4.1))
   | fail)
  rcases HX.out with ⟨hE, rfl⟩ | ⟨hE, x2, rfl⟩ | ⟨hE, x2, x3, rfl⟩ | ⟨hE, x2, x3, x4, rfl⟩
  ·go_wp2_with fail
   go_ret
   exact ⟨rfl, (by repeat' first | with_reducible (first | exact hbw4 | exact bF _ _ | refine bA ?_ ?_ _ | refine bS ?_ ?_ _ | refine bD ?_ | refine z08 ?_ ?_ _) | ((try dsimp only); omega) | (simp; done) | (simp; omega))⟩
  ·go_wp2_with fail
   go_ret
   exact ⟨rfl, (by repeat' first | with_reducible (first | exact hbw4 | exact bF _ _ | refine bA ?_ ?_ _ | refine bS ?_ ?_ _ | refine bD ?_ | refine z08 ?_ ?_ _) | ((try dsimp only); omega) | (simp; done) | (simp; omega))⟩
  ·go_wp2_with fail
   go_ret
   exact ⟨rfl, (by repeat' first | with_reducible (first | exact hbw4 | exact bF _ _ | refine bA ?_ ?_ _ | refine bS ?_ ?_ _ | refine bD ?_ | refine z08 ?_ ?_ _) | ((try dsimp only); omega) | (simp; done) | (simp; omega))⟩
  ·go_wp2_with (first | (go_at_call 43; go_must (refine (z3f bk bl bh _).mono ?_; rintro e w5 ⟨rfl, hb5⟩; have hbw4 := ((hK4.add (.cells #[vI vK wl, vI vK wh] 30)).later hb5).1)) | fail)
   go_ret
   exact ⟨rfl, (by repeat' first | with_reducible (first | exact hbw4 | exact bF _ _ | refine bA ?_ ?_ _ | refine bS ?_ ?_ _ | refine bD ?_ | refine z08 ?_ ?_ _) | ((try dsimp only); omega) | (simp; done) | (simp; omega))⟩
 ·simp only [List.take_succ_cons, List.take_zero, List.drop_succ_cons, List.drop_zero, List.length_cons, List.length_nil, Nat.reduceAdd]
  repeat (first
   | (refine z0k (by rfl) ?_; simp only [Act.put, siA, scZ, scS])
   | (refine z0b (by rfl) (v := ?_) ?_ ?_; rotate_left; (intro w2 hC; obtain ⟨p0, p1, p2, p3, p4, p5, ltS⟩ := row6 (hC.2 _ mcS); have yW : z05 _ B _ _ := (hC.2 _ (mcO _ mcS)); have ylt := yW.lt; obtain ⟨i0, i1, i2⟩ := yW.reg hd; go_simp; try with_reducible rfl); simp only [Act.put, siA, scZ, scS])
   | (refine z0p (by rfl) ?_; apply Exists.intro; refine ⟨fun w2 hC => ?_, ?_⟩; (obtain ⟨p0, p1, p2, p3, p4, p5, ltS⟩ := row6 (hC.2 _ mcS); have yW : z05 _ B _ _ := (hC.2 _ (mcO _ mcS)); have ylt := yW.lt; obtain ⟨i0, i1, i2⟩ := yW.reg hd; go_simp; apply z0v; first | (go_at_call 58; exact (by have hq := z2g B s c d o n r p y hs w2 yW; rw [HB.out] at hq; unfold Kno.v at hq; exact hq))); simp only [Act.put, siA, scZ, scS]))
  refine z0t ?_
  intro L h5 g5 K h6 g6 w3 hC hB3
  have hne : K ≠ L := (FB.upd_none h6).1
  have hne' : L ≠ K := fun e => hne e.symm
  have bK := hB3 K _ (FB.at_new _ _ _)
  have bL := hB3 L _ (FB.at_old hne' (FB.at_new _ _ _))
  obtain ⟨l0, l1, l2, lf0, lf1, lf2, llt⟩ := row3 bL
  obtain ⟨k0, k1, k2, kf0, kf1, kf2, klt⟩ := row3 bK
  obtain ⟨p0, p1, p2, p3, p4, p5, ltS⟩ := row6 (hC.2 _ mcS); have yW : z05 _ B _ _ := (hC.2 _ (mcO _ mcS)); have ylt := yW.lt; obtain ⟨i0, i1, i2⟩ := yW.reg hd
  have hbw := hC.1
  have n1 : w.heap.size ≠ L := by omega
  have n2 : B ≠ L := by omega
  have n3 : w.heap.size ≠ K := by omega
  have n4 : B ≠ K := by omega
  simp only [z4l]
  go_wp2_with (first
   | (go_at_call 61; go_must (have hK1 : Blk w [(L, .cells #[vI vK (y.reg d).k, vI vK (y.reg d).l, vI vK (y.reg d).h] 72 (0, 0)), (K, .cells #[vI vK bk, vI vK bl, vI vK bh] 72 (0, 0)), (B, .cells (z06 p y) 76 (0, 0)), (w.heap.size, .cells #[vI vK c, vI vK d, vI vK s, .bool r, vI vK o, vI vK n] 59 (0, 0))] _ := ((((Blk.nil (by repeat' first | with_reducible (first | exact hbw | exact bF _ _ | refine bA ?_ ?_ _ | refine bS ?_ ?_ _ | refine bD ?_ | refine z08 ?_ ?_ _) | ((try dsimp only); omega) | (simp; done) | (simp; omega))).cons (off3 (off3 (hC.2 _ mcS) n1) n3)).cons (off3 (off3 (hC.2 _ (mcO _ mcS)) n2) n4)).cons (put3 (off3 bK hne))).cons (off3 (put3 bL) hne'); refine (HR.out _).mono ?_; rintro e w4 ⟨rfl, hb4⟩; have hK4 := hK1.later hb4; clear l0 l1 l2 lf0 lf1 lf2 llt k0 k1 k2 kf0 kf1 kf2 klt p0 p1 p2 p3 p4 p5 ltS yW ylt i0 i1 i2; obtain ⟨l0, l1, l2, lf0, lf1, lf2, llt⟩ := row3 (hK4.2 _ mcS); obtain ⟨k0, k1, k2, kf0, kf1, kf2, klt⟩ := row3 (hK4.2 _ (mcO _ mcS)); have yW : z05 _ B _ _ := (hK4.2 _ (mcO _ (mcO _ mcS))); have ylt := yW.lt; obtain ⟨p0, p1, p2, p3, p4, p5, ltS⟩ := row6 (hK4.2 _ (mcO _ (mcO _ (mcO _ mcS)))); have hbw4 := hK4.1))
   | fail)
  have hK5 := hK4.add (.cells #[vI vK wl, vI vK wl] 30)
  clear hC l0 l1 l2 lf0 lf1 lf2 llt k0 k1 k2 kf0 kf1 kf2 klt p0 p1 p2 p3 p4 p5 ltS yW ylt
  refine z0n (C := Blk w [(w4.heap.size, .cells #[vI vK wl, vI vK wl] 30 (0, 0)), (L, .cells #[vI vK (y.reg d).k, vI vK (y.reg d).l, vI vK (y.reg d).h] 72 (0, 0)), (K, .cells #[vI vK bk, vI vK bl, vI vK bh] 72 (0, 0)), (B, .cells (z06 p y) 76 (0, 0)), (w.heap.size, .cells #[vI vK c, vI vK d, vI vK s, .bool r, vI vK o, vI vK n] 59 (0, 0))]) (n0 := w.heap.size) 5 [] [] (by kernel_rfl) (by kernel_rfl) (fun d _ _ _ _ h => by cases d <;> exact h) (Blk.stable _ _) (Blk.room0 _ _) hK5.drew trivial ?_
  simp only [List.take_succ_cons, List.take_zero, List.drop_succ_cons, List.drop_zero, List.length_nil, Nat.reduceAdd]
  repeat (first
   | (refine z0k (by rfl) ?_; simp only [Act.put, siA, scZ, scS])
   | (refine z0b (by rfl) (v := ?_) ?_ ?_; rotate_left; (intro w2 hC; obtain ⟨u0, u1, uf0, uf1, ult⟩ := row2 (hC.2 _ mcS); obtain ⟨l0, l1, l2, lf0, lf1, lf2, llt⟩ := row3 (hC.2 _ (mcO _ mcS)); obtain ⟨k0, k1, k2, kf0, kf1, kf2, klt⟩ := row3 (hC.2 _ (mcO _ (mcO _ mcS))); have yW : z05 _ B _ _ := (hC.2 _ (mcO _ (mcO _ (mcO _ mcS)))); have ylt := yW.lt; obtain ⟨p0, p1, p2, p3, p4, p5, ltS⟩ := row6 (hC.2 _ (mcO _ (mcO _ (mcO _ (mcO _ mcS))))); go_simp; try with_reducible rfl); simp only [Act.put, siA, scZ, scS])
   | (refine z0p (by rfl) ?_; apply Exists.intro; refine ⟨fun w2 hC => ?_, ?_⟩; (obtain ⟨u0, u1, uf0, uf1, ult⟩ := row2 (hC.2 _ mcS); obtain ⟨l0, l1, l2, lf0, lf1, lf2, llt⟩ := row3 (hC.2 _ (mcO _ mcS)); obtain ⟨k0, k1, k2, kf0, kf1, kf2, klt⟩ := row3 (hC.2 _ (mcO _ (mcO _ mcS))); have yW : z05 _ B _ _ := (hC.2 _ (mcO _ (mcO _ (mcO _ mcS)))); have ylt := yW.lt; obtain ⟨p0, p1, p2, p3, p4, p5, ltS⟩ := row6 (hC.2 _ (mcO _ (mcO _ (mcO _ (mcO _ mcS))))); go_simp; apply z0v; first | (go_at_call 39; exact z2t _ w2)); simp only [Act.put, siA, scZ, scS]))
  refine z0t ?_
  intro w6 hC hB6
  obtain ⟨u0, u1, uf0, uf1, ult⟩ := row2 (hC.2 _ mcS); obtain ⟨l0, l1, l2, lf0, lf1, lf2, llt⟩ := row3 (hC.2 _ (mcO _ mcS)); obtain ⟨k0, k1, k2, kf0, kf1, kf2, klt⟩ := row3 (hC.2 _ (mcO _ (mcO _ mcS))); have yW : z05 _ B _ _ := (hC.2 _ (mcO _ (mcO _ (mcO _ mcS)))); have ylt := yW.lt; obtain ⟨p0, p1, p2, p3, p4, p5, ltS⟩ := row6 (hC.2 _ (mcO _ (mcO _ (mcO _ (mcO _ mcS)))))
  have hK7 := hC
  go_wp2_with fail
  clear hC l0 l1 l2 lf0 lf1 lf2 llt k0 k1 k2 kf0 kf1 kf2 klt p0 p1 p2 p3 p4 p5 ltS yW ylt u0 u1 uf0 uf1 ult hK5 hB6
  refine z0n (C := Blk w [(w4.heap.size, .cells #[vI vK wl, vI vK wl] 30 (0, 0)), (L, .cells #[vI vK (y.reg d).k, vI vK (y.reg d).l, vI vK (y.reg d).h] 72 (0, 0)), (K, .cells #[vI vK bk, vI vK bl, vI vK bh] 72 (0, 0)), (B, .cells (z06 p y) 76 (0, 0)), (w.heap.size, .cells #[vI vK c, vI vK d, vI vK s, .bool r, vI vK o, vI vK n] 59 (0, 0))]) (n0 := w.heap.size) 8 [] [] (by kernel_rfl) (by kernel_rfl) (fun d _ _ _ _ h => by cases d <;> exact h) (Blk.stable _ _) (Blk.room0 _ _) hK7.drew trivial ?_
  simp only [List.take_succ_cons, List.take_zero, List.drop_succ_cons, List.drop_zero, List.length_nil, Nat.reduceAdd]
  repeat (first
   | (refine z0k (by rfl) ?_; simp only [Act.put, siA, scZ, scS])
   | (refine z0b (by rfl) (v := ?_) ?_ ?_; rotate_left; (intro w2 hC; obtain ⟨u0, u1, uf0, uf1, ult⟩ := row2 (hC.2 _ mcS); obtain ⟨l0, l1, l2, lf0, lf1, lf2, llt⟩ := row3 (hC.2 _ (mcO _ mcS)); obtain ⟨k0, k1, k2, kf0, kf1, kf2, klt⟩ := row3 (hC.2 _ (mcO _ (mcO _ mcS))); have yW : z05 _ B _ _ := (hC.2 _ (mcO _ (mcO _ (mcO _ mcS)))); have ylt := yW.lt; obtain ⟨p0, p1, p2, p3, p4, p5, ltS⟩ := row6 (hC.2 _ (mcO _ (mcO _ (mcO _ (mcO _ mcS))))); go_simp; try with_reducible rfl); simp only [Act.put, siA, scZ, scS]))
  refine z0t ?_
  intro w8 hC hB8
  obtain ⟨u0, u1, uf0, uf1, ult⟩ := row2 (hC.2 _ mcS); obtain ⟨l0, l1, l2, lf0, lf1, lf2, llt⟩ := row3 (hC.2 _ (mcO _ mcS)); obtain ⟨k0, k1, k2, kf0, kf1, kf2, klt⟩ := row3 (hC.2 _ (mcO _ (mcO _ mcS))); have yW : z05 _ B _ _ := (hC.2 _ (mcO _ (mcO _ (mcO _ mcS)))); have ylt := yW.lt; obtain ⟨p0, p1, p2, p3, p4, p5, ltS⟩ := row6 (hC.2 _ (mcO _ (mcO _ (mcO _ (mcO _ mcS)))))
  obtain ⟨i0, i1, i2⟩ := yW.slot ht
  have if0 := yW.frozen (34 + t * 3); have if1 := yW.frozen (34 + t * 3 + 1); have if2 := yW.frozen (34 + t * 3 + 2)
  have HK := z1q hC.1 B
  go_wp2_with fail
  go_ret
  exact ⟨rfl, (by repeat' first | with_reducible (first | exact HK | refine z3g ?_ | refine kept_set ?_ _ _ | refine z40 ?_ _ _ ?_ | refine z2w ?_ _) | ((try dsimp only); omega) | (simp; omega)), yW.slot3 t bk bl bh⟩
 ·simp only [List.take_succ_cons, List.take_zero, List.drop_succ_cons, List.drop_zero, List.length_cons, List.length_nil, Nat.reduceAdd]
  repeat (first
   | (refine z0k (by rfl) ?_; simp only [Act.put, siA, scZ, scS])
   | (refine z0b (by rfl) (v := ?_) ?_ ?_; rotate_left; (intro w2 hC; obtain ⟨p0, p1, p2, p3, p4, p5, ltS⟩ := row6 (hC.2 _ mcS); have yW : z05 _ B _ _ := (hC.2 _ (mcO _ mcS)); have ylt := yW.lt; obtain ⟨i0, i1, i2⟩ := yW.reg hd; go_simp; try with_reducible rfl); simp only [Act.put, siA, scZ, scS])
   | (refine z0p (by rfl) ?_; apply Exists.intro; refine ⟨fun w2 hC => ?_, ?_⟩; (obtain ⟨p0, p1, p2, p3, p4, p5, ltS⟩ := row6 (hC.2 _ mcS); have yW : z05 _ B _ _ := (hC.2 _ (mcO _ mcS)); have ylt := yW.lt; obtain ⟨i0, i1, i2⟩ := yW.reg hd; go_simp; apply z0v; first | (go_at_call 58; exact (by have hq := z2g B s c d o n r p y hs w2 yW; rw [HB.out] at hq; unfold Kno.v at hq; exact hq))); simp only [Act.put, siA, scZ, scS]))
  refine z0t ?_
  intro L h5 g5 K h6 g6 w3 hC hB3
  have hne : K ≠ L := (FB.upd_none h6).1
  have hne' : L ≠ K := fun e => hne e.symm
  have bK := hB3 K _ (FB.at_new _ _ _)
  have bL := hB3 L _ (FB.at_old hne' (FB.at_new _ _ _))
  obtain ⟨l0, l1, l2, lf0, lf1, lf2, llt⟩ := row3 bL
  obtain ⟨k0, k1, k2, kf0, kf1, kf2, klt⟩ := row3 bK
  obtain ⟨p0, p1, p2, p3, p4, p5, ltS⟩ := row6 (hC.2 _ mcS); have yW : z05 _ B _ _ := (hC.2 _ (mcO _ mcS)); have ylt := yW.lt; obtain ⟨i0, i1, i2⟩ := yW.reg hd
  have hbw := hC.1
  have n1 : w.heap.size ≠ L := by omega
  have n2 : B ≠ L := by omega
  have n3 : w.heap.size ≠ K := by omega
  have n4 : B ≠ K := by omega
  simp only [z4l]
  go_wp2_with (first
   | (go_at_call 61; go_must (have hK1 : Blk w [(L, .cells #[vI vK (y.reg d).k, vI vK (y.reg d).l, vI vK (y.reg d).h] 72 (0, 0)), (K, .cells #[vI vK bk, vI vK bl, vI vK bh] 72 (0, 0)), (B, .cells (z06 p y) 76 (0, 0)), (w.heap.size, .cells #[vI vK c, vI vK d, vI vK s, .bool r, vI vK o, vI vK n] 59 (0, 0))] _ := ((((Blk.nil (by repeat' first | with_reducible (first | exact hbw | exact bF _ _ | refine bA ?_ ?_ _ | refine bS ?_ ?_ _ | refine bD ?_ | refine z08 ?_ ?_ _) | ((try dsimp only); omega) | (simp; done) | (simp; omega))).cons (off3 (off3 (hC.2 _ mcS) n1) n3)).cons (off3 (off3 (hC.2 _ (mcO _ mcS)) n2) n4)).cons (put3 (off3 bK hne))).cons (off3 (put3 bL) hne'); refine (HR.out _).mono ?_; rintro e w4 ⟨rfl, hb4⟩; have hK4 := hK1.later hb4; clear l0 l1 l2 lf0 lf1 lf2 llt k0 k1 k2 kf0 kf1 kf2 klt p0 p1 p2 p3 p4 p5 ltS yW ylt i0 i1 i2; obtain ⟨l0, l1, l2, lf0, lf1, lf2, llt⟩ := row3 (hK4.2 _ mcS); obtain ⟨k0, k1, k2, kf0, kf1, kf2, klt⟩ := row3 (hK4.2 _ (mcO _ mcS)); have yW : z05 _ B _ _ := (hK4.2 _ (mcO _ (mcO _ mcS))); have ylt := yW.lt; obtain ⟨p0, p1, p2, p3, p4, p5, ltS⟩ := row6 (hK4.2 _ (mcO _ (mcO _ (mcO _ mcS)))); have hbw4 := hK4.1))
   | fail)
  have hK5 := hK4.add (.cells #[vI vK wl, vI vK wh] 30)
  clear hC l0 l1 l2 lf0 lf1 lf2 llt k0 k1 k2 kf0 kf1 kf2 klt p0 p1 p2 p3 p4 p5 ltS yW ylt
  refine z0n (C := Blk w [(w4.heap.size, .cells #[vI vK wl, vI vK wh] 30 (0, 0)), (L, .cells #[vI vK (y.reg d).k, vI vK (y.reg d).l, vI vK (y.reg d).h] 72 (0, 0)), (K, .cells #[vI vK bk, vI vK bl, vI vK bh] 72 (0, 0)), (B, .cells (z06 p y) 76 (0, 0)), (w.heap.size, .cells #[vI vK c, vI vK d, vI vK s, .bool r, vI vK o, vI vK n] 59 (0, 0))]) (n0 := w.heap.size) 5 [] [] (by kernel_rfl) (by kernel_rfl) (fun d _ _ _ _ h => by cases d <;> exact h) (Blk.stable _ _) (Blk.room0 _ _) hK5.drew trivial ?_
  simp only [List.take_succ_cons, List.take_zero, List.drop_succ_cons, List.drop_zero, List.length_nil, Nat.reduceAdd]
  repeat (first
   | (refine z0k (by rfl) ?_; simp only [Act.put, siA, scZ, scS])
   | (refine z0b (by rfl) (v := ?_) ?_ ?_; rotate_left; (intro w2 hC; obtain ⟨u0, u1, uf0, uf1, ult⟩ := row2 (hC.2 _ mcS); obtain ⟨l0, l1, l2, lf0, lf1, lf2, llt⟩ := row3 (hC.2 _ (mcO _ mcS)); obtain ⟨k0, k1, k2, kf0, kf1, kf2, klt⟩ := row3 (hC.2 _ (mcO _ (mcO _ mcS))); have yW : z05 _ B _ _ := (hC.2 _ (mcO _ (mcO _ (mcO _ mcS)))); have ylt := yW.lt; obtain ⟨p0, p1, p2, p3, p4, p5, ltS⟩ := row6 (hC.2 _ (mcO _ (mcO _ (mcO _ (mcO _ mcS))))); go_simp; try with_reducible rfl); simp only [Act.put, siA, scZ, scS])
   | (refine z0p (by rfl) ?_; apply Exists.intro; refine ⟨fun w2 hC => ?_, ?_⟩; (obtain ⟨u0, u1, uf0, uf1, ult⟩ := row2 (hC.2 _ mcS); obtain ⟨l0, l1, l2, lf0, lf1, lf2, llt⟩ := row3 (hC.2 _ (mcO _ mcS)); obtain ⟨k0, k1, k2, kf0, kf1, kf2, klt⟩ := row3 (hC.2 _ (mcO _ (mcO _ mcS))); have yW : z05 _ B _ _ := (hC.2 _ (mcO _ (mcO _ (mcO _ mcS)))); have ylt := yW.lt; obtain ⟨p0, p1, p2, p3, p4, p5, ltS⟩ := row6 (hC.2 _ (mcO _ (mcO _ (mcO _ (mcO _ mcS))))); go_simp; apply z0v; first | (go_at_call 39; exact z2t _ w2)); simp only [Act.put, siA, scZ, scS]))
  refine z0t ?_
  intro w6 hC hB6
  obtain ⟨u0, u1, uf0, uf1, ult⟩ := row2 (hC.2 _ mcS); obtain ⟨l0, l1, l2, lf0, lf1, lf2, llt⟩ := row3 (hC.2 _ (mcO _ mcS)); obtain ⟨k0, k1, k2, kf0, kf1, kf2, klt⟩ := row3 (hC.2 _ (mcO _ (mcO _ mcS))); have yW : z05 _ B _ _ := (hC.2 _ (mcO _ (mcO _ (mcO _ mcS)))); have ylt := yW.lt; obtain ⟨p0, p1, p2, p3, p4, p5, ltS⟩ := row6 (hC.2 _ (mcO _ (mcO _ (mcO _ (mcO _ mcS)))))
  have hbw4 := hC.1
  go_wp2_with fail
  go_ret
  exact ⟨rfl, (by repeat' first | with_reducible (first | exact hbw4 | exact bF _ _ | refine bA ?_ ?_ _ | refine bS ?_ ?_ _ | refine bD ?_ | refine z08 ?_ ?_ _) | ((try dsimp only); omega) | (simp; done) | (simp; omega))⟩
def z4e := fun B d s c o n p r y hd hs bk bl bh HB => (@z8y B d s c o n p r y hd hs bk bl bh HB).1
def zDh := fun B d s c o n p r y hd hs bk bl bh HB => (@z8y B d s c o n p r y hd hs bk bl bh HB).2.1
def zDg := fun B d s c o n p r y hd hs bk bl bh HB => (@z8y B d s c o n p r y hd hs bk bl bh HB).2.2
theorem zGx {B d s : Nat} {c o n p : Int} {r : Bool} {y : Way} (hd : d < 11) (hs : s < 11) (hy : y.Ok) (ho : In64 o) {w : World} (hW : z05 w B p y) :
  Calls Tryz.prog 45 #[.pointer (some ⟨B, 0, none⟩), .agg #[vI vK c, vI vK d, vI vK s, .bool r, vI vK o, vI vK n]] w fun e w' => e = .returned (vI vK (y.store (y.reg d) (y.second s r n) o).1) ∧ Kept B w w' ∧ z05 w' B p (y.store (y.reg d) (y.second s r n) o).2 := by
 have HR := fun W : World => z9t (y.reg d) o (hy.reg d hd) ho W
 have mv : ∀ {E : Int} {e : Ending} {w' : World}, (e = .returned (vI vK E) ∧ Below w.heap.size w w') → e = .returned (vI vK E) ∧ Kept B w w' ∧ z05 w' B p y := fun h => ⟨h.1, z1q h.2 B, hW.later h.2⟩
 unfold Way.store
 rcases hv : y.second s r n with ⟨bk, bl, bh⟩
 rcases e : z0l (y.reg d) o with ⟨⟨wl, wh⟩, E⟩
 rw [e] at HR
 by_cases hE : E = 0
 ·subst hE
  rw [if_neg (by simp)]
  have er : (z0l (y.reg d) o).2 = 0 := by rw [e]
  obtain ⟨hk, e1, r1, r2⟩ := z48 er
  have ot := z6t (hy.reg d hd) ho
  rw [e] at e1
  rw [← e1] at r1 r2 ot
  have k0 := (hy.reg d hd).1
  have k5 := (hy.reg d hd).2.1
  by_cases h2 : (y.reg d).k = 2
  ·rw [if_pos h2]; exact (z4e B d s c o n p r y hd hs bk bl bh hv wl wh 0 HR 6 (Or.inr (Or.inl ⟨rfl, by simpa using h2, rfl⟩)) w hW).mono fun _ _ h => mv h
  rw [if_neg h2]
  by_cases h0 : bk = 0
  ·rw [if_pos h0]; exact (z4e B d s c o n p r y hd hs bk bl bh hv wl wh 0 HR 8 (Or.inr (Or.inr (Or.inl ⟨rfl, by simpa using h2, by simpa using h0, rfl⟩))) w hW).mono fun _ _ h => mv h
  rw [if_neg h0]
  by_cases h4 : (y.reg d).k = 4
  ·rw [if_pos h4]; exact (z4e B d s c o n p r y hd hs bk bl bh hv wl wh 0 HR _ (Or.inr (Or.inr (Or.inr ⟨rfl, by simpa using h2, by simpa using h0, by simpa using h4, rfl⟩))) w hW).mono fun _ _ h => mv h
  rw [if_neg h4]
  have h3 : (y.reg d).k = 3 := by omega
  rw [h3] at r1 r2
  change -16 ≤ wl at r1
  change wh ≤ -1 at r2
  change wl ≤ wh at ot
  by_cases hq : wl = wh
  ·subst hq
   rw [if_neg (by simp)]
   obtain ⟨t, et⟩ := Int.eq_ofNat_of_zero_le (show 0 ≤ wl + 16 by omega)
   have e2 : IntKind.i64.wrap (wl + 16) = (t : Int) := by rw [IntWalk.i64_left, z0e (by omega) (by omega)]; exact et
   show Calls _ _ _ _ fun e w' => e = .returned (vI vK 0) ∧ Kept B w w' ∧ z05 w' B p (y.putSlot (wl + 16).toNat ⟨bk, bl, bh⟩)
   rw [show (wl + 16).toNat = t by omega]
   exact zDh B d s c o n p r y hd hs bk bl bh hv wl 0 HR t (by omega) e2 rfl (by simpa using h2) (by simpa using h0) (by simpa using h4) w hW
  ·rw [if_pos hq]
   exact (zDg B d s c o n p r y hd hs bk bl bh hv wl wh 0 HR rfl (by simpa using h2) (by simpa using h0) (by simpa using h4) (fun e => hq e.symm) w hW).mono fun _ _ h => mv h
 ·rw [if_pos hE]
  exact (z4e B d s c o n p r y hd hs bk bl bh hv wl wh E HR E (Or.inl ⟨by simpa using hE, rfl⟩) w hW).mono fun _ _ h => mv h
theorem Way.lose_put (y : Way) : y.lose = ((((y.putReg 1 kno0).putReg 2 kno0).putReg 3 kno0).putReg 4 kno0).putReg 5 kno0 := by
 unfold Way.lose Way.putReg
 congr 1
 funext i
 by_cases h : 1 ≤ i ∧ i ≤ 5
 ·rw [if_pos h]
  rcases (show i = 1 ∨ i = 2 ∨ i = 3 ∨ i = 4 ∨ i = 5 by omega) with rfl | rfl | rfl | rfl | rfl <;> rfl
 ·rw [if_neg h]
  show _ = if i = 5 then kno0 else if i = 4 then kno0 else if i = 3 then kno0 else if i = 2 then kno0 else if i = 1 then kno0 else y.reg i
  rw [if_neg (by omega), if_neg (by omega), if_neg (by omega), if_neg (by omega), if_neg (by omega)]
theorem z7c {w : World} {B : Nat} {p : Int} {y : Way} (hW : z05 w B p y) : ∃ w', (Builtin.clear_ #[122] 0 #[.slice (some ⟨B, 4, none⟩) 5 10]).run Tryz.prog w = .ok (.tuple #[]) w' ∧ Kept B w w' ∧ z05 w' B p y.lose := by
 have hst := run_storeCells_cells (P := Tryz.prog) B 4 (List.replicate 15 (vI vK 0)) 0 w (by
  intro j hj
  rw [List.length_replicate] at hj
  rw [hW.at _ (by omega)]; rfl) (by intro j hj; exact hW.frozen _) (by intro v hv'; rw [List.eq_of_mem_replicate hv']; rfl)
 simp only [Nat.add_zero] at hst
 have hzc : (Builtin.zeroCells (Value.agg #[vI vK 0, vI vK 0, vI vK 0]).cells 5).toList = List.replicate 15 (vI vK 0) := by first | rfl | kernel_rfl | (simp [Builtin.zeroCells]; rfl)
 refine ⟨w.setCells B 4 (List.replicate 15 (vI vK 0)), ?_, ?_, ?_⟩
 ·generalize List.replicate 15 (Value.int .i64 0) = zs at hst hzc ⊢
  simp [Builtin.clear_, run_underlying Tryz.underlying122, hzc, hst]
 ·show Kept B w (((((((((((((((w.setCell ⟨B, 4, none⟩ _).setCell ⟨B, 5, none⟩ _).setCell ⟨B, 6, none⟩ _).setCell ⟨B, 7, none⟩ _).setCell ⟨B, 8, none⟩ _).setCell ⟨B, 9, none⟩ _).setCell ⟨B, 10, none⟩ _).setCell ⟨B, 11, none⟩ _).setCell ⟨B, 12, none⟩ _).setCell ⟨B, 13, none⟩ _).setCell ⟨B, 14, none⟩ _).setCell ⟨B, 15, none⟩ _).setCell ⟨B, 16, none⟩ _).setCell ⟨B, 17, none⟩ _).setCell ⟨B, 18, none⟩ _)
  repeat with_reducible refine kept_set ?_ _ _
  exact zLh B w
 ·rw [y.lose_put]
  exact ((((hW.reg3 (d := 1) (by decide) 0 0 0).reg3 (d := 2) (by decide) 0 0 0).reg3 (d := 3) (by decide) 0 0 0).reg3 (d := 4) (by decide) 0 0 0).reg3 (d := 5) (by decide) 0 0 0
theorem zD1 (B : Nat) (p : Int) (y : Way) (E : Int) (HW : Hid (z0f ⟨(y.reg 1).k, (y.reg 1).l, (y.reg 1).h⟩ = E)) (hE : (E != 0) = true) (w : World) (hW : z05 w B p y) : (Calls Tryz.prog 46 #[.pointer (some ⟨B, 0, none⟩), vI vK 1] w fun e w' => e = .returned (vI vK E) ∧ Below w.heap.size w w') ∧ (Calls Tryz.prog 46 #[.pointer (some ⟨B, 0, none⟩), vI vK 3] w fun e w' => e = .returned (vI vK E) ∧ Below w.heap.size w w') := by
 refine ⟨?_, ?_⟩
 all_goals
  have hB := hW.lt
  obtain ⟨h0, h1, h2⟩ := hW.reg (d := 1) (by decide)
  simp only [Nat.reduceMul, Nat.reduceAdd] at h0 h1 h2
 all_goals
  go_enter Tryz.func46, Tryz.ntmps46
  go_wp2_with (first
   | (go_at_call 43; go_must (refine (z3f _ _ _ _).mono ?_; rintro e w1 ⟨rfl, hb1⟩; rw [HW.out]; have hW1 : z05 w1 B p y := hW.later hb1; have hB1 := hW1.lt))
   | fail)
  go_ret
  exact ⟨rfl, hb1⟩
def zJ7 := fun B p y E HW hE w hW => (@zD1 B p y E HW hE w hW).1
def zJ6 := fun B p y E HW hE w hW => (@zD1 B p y E HW hE w hW).2
theorem zHc (B : Nat) (p : Int) (y : Way) (HW : Hid (z0f ⟨(y.reg 1).k, (y.reg 1).l, (y.reg 1).h⟩ = 0)) (w : World) (hW : z05 w B p y) :
  Calls Tryz.prog 46 #[.pointer (some ⟨B, 0, none⟩), vI vK 1] w fun e w' => e = .returned (vI vK 0) ∧ Kept B w w' ∧ z05 w' B p (y.lose.putReg 0 ⟨5, 0, 0⟩) := by
 have hB := hW.lt
 obtain ⟨h0, h1, h2⟩ := hW.reg (d := 1) (by decide)
 simp only [Nat.reduceMul, Nat.reduceAdd] at h0 h1 h2
 go_enter Tryz.func46, Tryz.ntmps46
 go_wp2_with (first
  | (go_at_call 43; go_must (refine (z3f _ _ _ _).mono ?_; rintro e w1 ⟨rfl, hb1⟩; rw [HW.out]; have hW1 : z05 w1 B p y := hW.later hb1; have hB1 := hW1.lt))
  | fail)
 obtain ⟨wc, hc, hkc, hmc⟩ := z7c hW1
 rw [hc]
 clear hc
 have hBc := hmc.lt
 obtain ⟨i0, i1, i2⟩ := hmc.reg (d := 0) (by decide)
 simp only [Nat.reduceMul, Nat.reduceAdd] at i0 i1 i2
 have f0 := hmc.frozen 1
 have f1 := hmc.frozen 2
 have f2 := hmc.frozen 3
 go_wp2_with fail
 go_ret
 have HK : Kept B w wc := z5q (z1q hb1 B) hkc
 exact ⟨rfl, (by repeat' first | with_reducible (first | exact HK | refine z3g ?_ | refine kept_set ?_ _ _ | refine z40 ?_ _ _ ?_ | refine z2w ?_ _) | ((try dsimp only); omega) | (simp; omega)), hmc.put0 5 0 0⟩
theorem zHb (B : Nat) (p : Int) (y : Way) (w : World) (hW : z05 w B p y) :
  Calls Tryz.prog 46 #[.pointer (some ⟨B, 0, none⟩), vI vK 2] w fun e w' => e = .returned (vI vK 0) ∧ Kept B w w' ∧ z05 w' B p (y.lose.putReg 0 ⟨1, (-9223372036854775808), 9223372036854775807⟩) := by
 have hB := hW.lt
 go_enter Tryz.func46, Tryz.ntmps46
 go_wp2_with fail
 obtain ⟨wc, hc, hkc, hmc⟩ := z7c hW
 rw [hc]
 clear hc
 have hBc := hmc.lt
 go_wp2_with fail
 refine z0n (C := Blk wc [(B, .cells (z06 p y.lose) 76 (0, 0))]) (n0 := wc.heap.size) 6 [] [] (by kernel_rfl) (by kernel_rfl) (fun d _ _ _ _ h => by cases d <;> exact h) (Blk.stable _ _) (Blk.room0 _ _) (((Blk.nil (bF _ _)).cons hmc).drew) trivial ?_
 simp only [List.take_succ_cons, List.take_zero, List.drop_succ_cons, List.drop_zero, List.length_nil, Nat.reduceAdd]
 repeat (first
  | (refine z0k (by rfl) ?_; simp only [Act.put, siA, scZ, scS])
  | (refine z0b (by rfl) (v := ?_) ?_ ?_; rotate_left; (intro w2 hC; have yW : z05 _ B _ _ := (hC.2 _ mcS); have ylt := yW.lt; go_simp; try with_reducible rfl); simp only [Act.put, siA, scZ, scS])
  | (refine z0p (by rfl) ?_; apply Exists.intro; refine ⟨fun w2 hC => ?_, ?_⟩; (have yW : z05 _ B _ _ := (hC.2 _ mcS); have ylt := yW.lt; go_simp; apply z0v; first | (go_at_call 63; exact z2v w2) | (go_at_call 62; exact z1k _ _ w2)); simp only [Act.put, siA, scZ, scS]))
 refine z0t ?_
 intro w5 hC hB5
 have yW : z05 _ B _ _ := (hC.2 _ mcS); have ylt := yW.lt
 obtain ⟨i0, i1, i2⟩ := yW.reg (d := 0) (by decide)
 simp only [Nat.reduceMul, Nat.reduceAdd] at i0 i1 i2
 have f0 := yW.frozen 1
 have f1 := yW.frozen 2
 have f2 := yW.frozen 3
 simp only [Kno.v, z15]
 go_wp2_with fail
 go_ret
 have HK : Kept B w w5 := z7h (hkc) hC.1
 exact ⟨rfl, (by repeat' first | with_reducible (first | exact HK | refine z3g ?_ | refine kept_set ?_ _ _ | refine z40 ?_ _ _ ?_ | refine z2w ?_ _) | ((try dsimp only); omega) | (simp; omega)), yW.put0 1 (-9223372036854775808) 9223372036854775807⟩
theorem zHd (B : Nat) (p : Int) (y : Way) (HW : Hid (z0f ⟨(y.reg 1).k, (y.reg 1).l, (y.reg 1).h⟩ = 0)) (w : World) (hW : z05 w B p y) :
  Calls Tryz.prog 46 #[.pointer (some ⟨B, 0, none⟩), vI vK 3] w fun e w' => e = .returned (vI vK 0) ∧ Kept B w w' ∧ z05 w' B p (y.lose.putReg 0 ⟨1, 0, 0⟩) := by
 have hB := hW.lt
 obtain ⟨h0, h1, h2⟩ := hW.reg (d := 1) (by decide)
 simp only [Nat.reduceMul, Nat.reduceAdd] at h0 h1 h2
 go_enter Tryz.func46, Tryz.ntmps46
 go_wp2_with (first
  | (go_at_call 43; go_must (refine (z3f _ _ _ _).mono ?_; rintro e w1 ⟨rfl, hb1⟩; rw [HW.out]; have hW1 : z05 w1 B p y := hW.later hb1; have hB1 := hW1.lt))
  | fail)
 obtain ⟨wc, hc, hkc, hmc⟩ := z7c hW1
 rw [hc]
 clear hc
 have hBc := hmc.lt
 go_wp2_with fail
 refine z0n (C := Blk wc [(B, .cells (z06 p y.lose) 76 (0, 0))]) (n0 := wc.heap.size) 6 [] [] (by kernel_rfl) (by kernel_rfl) (fun d _ _ _ _ h => by cases d <;> exact h) (Blk.stable _ _) (Blk.room0 _ _) (((Blk.nil (bF _ _)).cons hmc).drew) trivial ?_
 simp only [List.take_succ_cons, List.take_zero, List.drop_succ_cons, List.drop_zero, List.length_nil, Nat.reduceAdd]
 repeat (first
  | (refine z0k (by rfl) ?_; simp only [Act.put, siA, scZ, scS])
  | (refine z0b (by rfl) (v := ?_) ?_ ?_; rotate_left; (intro w2 hC; have yW : z05 _ B _ _ := (hC.2 _ mcS); have ylt := yW.lt; go_simp; try with_reducible rfl); simp only [Act.put, siA, scZ, scS])
  | (refine z0p (by rfl) ?_; apply Exists.intro; refine ⟨fun w2 hC => ?_, ?_⟩; (have yW : z05 _ B _ _ := (hC.2 _ mcS); have ylt := yW.lt; go_simp; apply z0v; first | (go_at_call 39; exact z2t _ w2) | (go_at_call 62; exact z1k _ _ w2)); simp only [Act.put, siA, scZ, scS]))
 refine z0t ?_
 intro w5 hC hB5
 have yW : z05 _ B _ _ := (hC.2 _ mcS); have ylt := yW.lt
 obtain ⟨i0, i1, i2⟩ := yW.reg (d := 0) (by decide)
 simp only [Nat.reduceMul, Nat.reduceAdd] at i0 i1 i2
 have f0 := yW.frozen 1
 have f1 := yW.frozen 2
 have f2 := yW.frozen 3
 simp only [Kno.v, z15]
 go_wp2_with fail
 go_ret
 have HK : Kept B w w5 := z7h ((z5q (z1q hb1 B) hkc)) hC.1
 exact ⟨rfl, (by repeat' first | with_reducible (first | exact HK | refine z3g ?_ | refine kept_set ?_ _ _ | refine z40 ?_ _ _ ?_ | refine z2w ?_ _) | ((try dsimp only); omega) | (simp; omega)), yW.put0 1 0 0⟩
theorem zJ8 {B : Nat} {p what : Int} {y : Way} (hw : what = 1 ∨ what = 2 ∨ what = 3) {w : World} (hW : z05 w B p y) :
  Calls Tryz.prog 46 #[.pointer (some ⟨B, 0, none⟩), vI vK what] w fun e w' => e = .returned (vI vK (y.call what).1) ∧ Kept B w w' ∧ z05 w' B p (y.call what).2 := by
 have mv : ∀ {E : Int} {e : Ending} {w' : World}, (e = .returned (vI vK E) ∧ Below w.heap.size w w') → e = .returned (vI vK E) ∧ Kept B w w' ∧ z05 w' B p y := fun h => ⟨h.1, z1q h.2 B, hW.later h.2⟩
 unfold Way.call
 rcases hw with rfl | rfl | rfl
 ·by_cases h : z0f (y.reg 1) = 0
  ·rw [if_neg (fun e => e.2 h), if_pos rfl]; exact zHc B p y h w hW
  ·rw [if_pos ⟨Or.inl rfl, h⟩]; exact (zJ7 B p y _ rfl (by simpa using h) w hW).mono fun _ _ h => mv h
 ·rw [if_neg (by intro e; omega), if_neg (by decide), if_pos rfl]; exact zHb B p y w hW
 ·by_cases h : z0f (y.reg 1) = 0
  ·rw [if_neg (fun e => e.2 h), if_neg (by decide), if_neg (by decide)]; exact zHd B p y h w hW
  ·rw [if_pos ⟨Or.inr rfl, h⟩]; exact (zJ6 B p y _ rfl (by simpa using h) w hW).mono fun _ _ h => mv h
end Go.Proofs.YteenhdoaminkeaaGreatDoor
