/-
  What package verify's narrow does. Conditions: the ends are of 64 bits, in order. Ways in a row of memory, one behind the other; a list of one or two ways that is made. No conditions. What package verify's askPlace returns: which ways lead on from Jeq or Jne against 0, of a place, or of a MAYBE. Conditions: the steps are few. What package verify's askNumbers returns: which ways lead on from a step that asks, of two numbers. Conditions: the way is right; the step's code asks, and its numbers are few.
-/
import Derived.Test.YtednmkhdehlojaaGreatDoorJs12
import Derived.Great.BuildSlice
open Go.Value renaming int → vI
open Go.IntKind renaming i64 → vK
open Go.RowKit.Below renaming alloc → bA, setCell → bS, drew → bD, refl → bF
set_option maxHeartbeats 4000000
set_option maxRecDepth 1000000
namespace Go.Proofs.YtednmkhdehlojaaGreatDoor
open Go.ChangeShapes Go.WideShapes Go.ChangeAt Go.RowKit
attribute [local simp] drew_size drewN_size setCell_size
set_option linter.unusedVariables false
theorem vfield_at (k l h : Int) (w : World) : (Instr.field 146 (.agg #[vI vK k, vI vK l, vI vK h]) 1).run Tryz.prog w = .ok (.agg #[vI vK l, vI vK h]) w := by kernel_rfl
theorem vnarrow_no (B d s : Nat) (c o n p code : Int) (r : Bool) (y : Way) (hd : d < 11) (hs : s < 11) (bk bl bh : Int) (HB : Hid (y.second s r n = ⟨bk, bl, bh⟩)) (x0 x1 y0 y1 : Int) (HN : Hid (∀ W : World, Calls Tryz.prog 198 #[vI vK code, .agg #[vI vK (y.reg d).l, vI vK (y.reg d).h], .agg #[vI vK bl, vI vK bh]] W fun e w' => e = .returned (.tuple #[.agg #[vI vK x0, vI vK x1], .agg #[vI vK y0, vI vK y1], .bool false]) ∧ Below W.heap.size W w')) (w : World) (hW : WayAt w B p y) :
    Calls Tryz.prog 179 #[.pointer (some ⟨B, 0, none⟩), .agg #[vI vK c, vI vK d, vI vK s, .bool r, vI vK o, vI vK n], vI vK code] w fun e w' => e = .returned (.bool false) ∧ Below w.heap.size w w' := by
  have hK0 : Blk w [(w.heap.size, .cells #[vI vK c, vI vK d, vI vK s, .bool r, vI vK o, vI vK n] 49 (0, 0)), (B, .cells (wayCs p y) 150 (0, 0))] _ := ((Blk.nil ((bF _ _).alloc (Nat.le_refl _) _)).cons (hW.alloc _)).cons (heap_alloc_new w (.cells #[vI vK c, vI vK d, vI vK s, .bool r, vI vK o, vI vK n] 49))
  have hB := hW.lt
  have hs0 : (0 : Int) ≤ (s : Int) := by omega
  have hs1 : (s : Int) < 11 := by omega
  have hd0 : (0 : Int) ≤ (d : Int) := by omega
  have hd1 : (d : Int) < 11 := by omega
  have hfl := vfield_at bk bl bh
  go_enter Tryz.func179, Tryz.ntmps179
  go_wp2_with fail
  refine wp_float (C := Blk w [(w.heap.size, .cells #[vI vK c, vI vK d, vI vK s, .bool r, vI vK o, vI vK n] 49 (0, 0)), (B, .cells (wayCs p y) 150 (0, 0))]) (n0 := w.heap.size + 1) 18 [16, 17] [.cells #[vI vK 0, vI vK 0] 43 (0, 0), .cells #[vI vK 0, vI vK 0] 43 (0, 0)] (by kernel_rfl) (by kernel_rfl) (fun d _ _ _ _ h => by cases d <;> exact h) (Blk.stable _ _) (Blk.room w mcS) hK0.drew ⟨⟨rfl, fun a w2 hC => by go_simp; try rfl⟩, ⟨rfl, fun a w2 hC => by go_simp; try rfl⟩, trivial⟩ ?_
  simp only [List.take_succ_cons, List.take_zero, List.drop_succ_cons, List.drop_zero, List.length_cons, List.length_nil, Nat.reduceAdd]
  repeat (first
    | (refine wpQ_skip (by rfl) ?_; simp only [Act.put, siA, scZ, scS])
    | (refine wpQ_yield (by rfl) (v := ?_) ?_ ?_; rotate_left; (intro w2 hC; obtain ⟨p0, p1, p2, p3, p4, p5, ltS⟩ := row6 (hC.2 _ mcS); have yW : WayAt _ B _ _ := (hC.2 _ (mcO _ mcS)); have ylt := yW.lt; obtain ⟨i0, i1, i2⟩ := yW.reg hd; go_simp; try with_reducible rfl); simp only [Act.put, siA, scZ, scS])
    | (refine wpQ_enter (by rfl) ?_; apply Exists.intro; refine ⟨fun w2 hC => ?_, ?_⟩; (obtain ⟨p0, p1, p2, p3, p4, p5, ltS⟩ := row6 (hC.2 _ mcS); have yW : WayAt _ B _ _ := (hC.2 _ (mcO _ mcS)); have ylt := yW.lt; obtain ⟨i0, i1, i2⟩ := yW.reg hd; go_simp; apply qb_enter; first | (go_at_call 146; exact (by have hq := vsecond_any B s c d o n r p y hs w2 yW; rw [HB.out] at hq; unfold Kno.v at hq; exact hq)) | (go_at_call 198; exact HN.out w2)); simp only [Act.put, siA, scZ, scS]))
  refine wpQ_nil ?_
  intro L h5 g5 K h6 g6 w3 hC hB3
  have hne : K ≠ L := (FB.upd_none h6).1
  have hne' : L ≠ K := fun e => hne e.symm
  have bK := hB3 K _ (FB.at_new _ _ _)
  have bL := hB3 L _ (FB.at_old hne' (FB.at_new _ _ _))
  obtain ⟨l0, l1, lf0, lf1, llt⟩ := row2 bL
  obtain ⟨k0, k1, kf0, kf1, klt⟩ := row2 bK
  obtain ⟨p0, p1, p2, p3, p4, p5, ltS⟩ := row6 (hC.2 _ mcS); have yW : WayAt _ B _ _ := (hC.2 _ (mcO _ mcS)); have ylt := yW.lt; obtain ⟨i0, i1, i2⟩ := yW.reg hd
  have hbw := hC.1
  have n1 : w.heap.size ≠ L := by omega
  have n2 : B ≠ L := by omega
  have n3 : w.heap.size ≠ K := by omega
  have n4 : B ≠ K := by omega
  simp only [ptrTo]
  go_wp2_with fail
  go_ret
  exact ⟨rfl, (by repeat' first | with_reducible (first | exact hbw | exact bF _ _ | refine bA ?_ ?_ _ | refine bS ?_ ?_ _ | refine bD ?_ | refine below_setRow ?_ ?_ _) | ((try dsimp only); omega) | (simp; done) | (simp; omega))⟩
theorem vnarrow_self (B d : Nat) (c o n p code : Int) (y : Way) (hd : d < 11) (bk bl bh : Int) (HB : Hid (y.second d true n = ⟨bk, bl, bh⟩)) (x0 x1 y0 y1 : Int) (HN : Hid (∀ W : World, Calls Tryz.prog 198 #[vI vK code, .agg #[vI vK (y.reg d).l, vI vK (y.reg d).h], .agg #[vI vK bl, vI vK bh]] W fun e w' => e = .returned (.tuple #[.agg #[vI vK x0, vI vK x1], .agg #[vI vK y0, vI vK y1], .bool true]) ∧ Below W.heap.size W w')) (w : World) (hW : WayAt w B p y) :
    Calls Tryz.prog 179 #[.pointer (some ⟨B, 0, none⟩), .agg #[vI vK c, vI vK d, vI vK d, .bool true, vI vK o, vI vK n], vI vK code] w fun e w' => e = .returned (.bool true) ∧ Below w.heap.size w w' := by
  have hK0 : Blk w [(w.heap.size, .cells #[vI vK c, vI vK d, vI vK d, .bool true, vI vK o, vI vK n] 49 (0, 0)), (B, .cells (wayCs p y) 150 (0, 0))] _ := ((Blk.nil ((bF _ _).alloc (Nat.le_refl _) _)).cons (hW.alloc _)).cons (heap_alloc_new w (.cells #[vI vK c, vI vK d, vI vK d, .bool true, vI vK o, vI vK n] 49))
  have hB := hW.lt
  have hd0 : (0 : Int) ≤ (d : Int) := by omega
  have hd1 : (d : Int) < 11 := by omega
  have hfl := vfield_at bk bl bh
  go_enter Tryz.func179, Tryz.ntmps179
  go_wp2_with fail
  refine wp_float (C := Blk w [(w.heap.size, .cells #[vI vK c, vI vK d, vI vK d, .bool true, vI vK o, vI vK n] 49 (0, 0)), (B, .cells (wayCs p y) 150 (0, 0))]) (n0 := w.heap.size + 1) 18 [16, 17] [.cells #[vI vK 0, vI vK 0] 43 (0, 0), .cells #[vI vK 0, vI vK 0] 43 (0, 0)] (by kernel_rfl) (by kernel_rfl) (fun d _ _ _ _ h => by cases d <;> exact h) (Blk.stable _ _) (Blk.room w mcS) hK0.drew ⟨⟨rfl, fun a w2 hC => by go_simp; try rfl⟩, ⟨rfl, fun a w2 hC => by go_simp; try rfl⟩, trivial⟩ ?_
  simp only [List.take_succ_cons, List.take_zero, List.drop_succ_cons, List.drop_zero, List.length_cons, List.length_nil, Nat.reduceAdd]
  repeat (first
    | (refine wpQ_skip (by rfl) ?_; simp only [Act.put, siA, scZ, scS])
    | (refine wpQ_yield (by rfl) (v := ?_) ?_ ?_; rotate_left; (intro w2 hC; obtain ⟨p0, p1, p2, p3, p4, p5, ltS⟩ := row6 (hC.2 _ mcS); have yW : WayAt _ B _ _ := (hC.2 _ (mcO _ mcS)); have ylt := yW.lt; obtain ⟨i0, i1, i2⟩ := yW.reg hd; go_simp; try with_reducible rfl); simp only [Act.put, siA, scZ, scS])
    | (refine wpQ_enter (by rfl) ?_; apply Exists.intro; refine ⟨fun w2 hC => ?_, ?_⟩; (obtain ⟨p0, p1, p2, p3, p4, p5, ltS⟩ := row6 (hC.2 _ mcS); have yW : WayAt _ B _ _ := (hC.2 _ (mcO _ mcS)); have ylt := yW.lt; obtain ⟨i0, i1, i2⟩ := yW.reg hd; go_simp; apply qb_enter; first | (go_at_call 146; exact (by have hq := vsecond_any B d c d o n true p y hd w2 yW; rw [HB.out] at hq; unfold Kno.v at hq; exact hq)) | (go_at_call 198; exact HN.out w2)); simp only [Act.put, siA, scZ, scS]))
  refine wpQ_nil ?_
  intro L h5 g5 K h6 g6 w3 hC hB3
  have hne : K ≠ L := (FB.upd_none h6).1
  have hne' : L ≠ K := fun e => hne e.symm
  have bK := hB3 K _ (FB.at_new _ _ _)
  have bL := hB3 L _ (FB.at_old hne' (FB.at_new _ _ _))
  obtain ⟨l0, l1, lf0, lf1, llt⟩ := row2 bL
  obtain ⟨k0, k1, kf0, kf1, klt⟩ := row2 bK
  obtain ⟨p0, p1, p2, p3, p4, p5, ltS⟩ := row6 (hC.2 _ mcS); have yW : WayAt _ B _ _ := (hC.2 _ (mcO _ mcS)); have ylt := yW.lt; obtain ⟨i0, i1, i2⟩ := yW.reg hd
  have hbw := hC.1
  have n1 : w.heap.size ≠ L := by omega
  have n2 : B ≠ L := by omega
  have n3 : w.heap.size ≠ K := by omega
  have n4 : B ≠ K := by omega
  simp only [ptrTo]
  go_wp2_with fail
  go_ret
  exact ⟨rfl, (by repeat' first | with_reducible (first | exact hbw | exact bF _ _ | refine bA ?_ ?_ _ | refine bS ?_ ?_ _ | refine bD ?_ | refine below_setRow ?_ ?_ _) | ((try dsimp only); omega) | (simp; done) | (simp; omega))⟩
theorem vnarrow_num (B d s : Nat) (c o n p code : Int) (y : Way) (hd : d < 11) (hs : s < 11) (bk bl bh : Int) (HB : Hid (y.second s false n = ⟨bk, bl, bh⟩)) (x0 x1 y0 y1 : Int) (HN : Hid (∀ W : World, Calls Tryz.prog 198 #[vI vK code, .agg #[vI vK (y.reg d).l, vI vK (y.reg d).h], .agg #[vI vK bl, vI vK bh]] W fun e w' => e = .returned (.tuple #[.agg #[vI vK x0, vI vK x1], .agg #[vI vK y0, vI vK y1], .bool true]) ∧ Below W.heap.size W w')) (w : World) (hW : WayAt w B p y) :
    Calls Tryz.prog 179 #[.pointer (some ⟨B, 0, none⟩), .agg #[vI vK c, vI vK d, vI vK s, .bool false, vI vK o, vI vK n], vI vK code] w fun e w' => e = .returned (.bool true) ∧ Kept B w w' ∧ WayAt w' B p (y.putReg d ⟨1, x0, x1⟩) := by
  have hK0 : Blk w [(w.heap.size, .cells #[vI vK c, vI vK d, vI vK s, .bool false, vI vK o, vI vK n] 49 (0, 0)), (B, .cells (wayCs p y) 150 (0, 0))] _ := ((Blk.nil ((bF _ _).alloc (Nat.le_refl _) _)).cons (hW.alloc _)).cons (heap_alloc_new w (.cells #[vI vK c, vI vK d, vI vK s, .bool false, vI vK o, vI vK n] 49))
  have hB := hW.lt
  have hs0 : (0 : Int) ≤ (s : Int) := by omega
  have hs1 : (s : Int) < 11 := by omega
  have hd0 : (0 : Int) ≤ (d : Int) := by omega
  have hd1 : (d : Int) < 11 := by omega
  have hfl := vfield_at bk bl bh
  go_enter Tryz.func179, Tryz.ntmps179
  go_wp2_with fail
  refine wp_float (C := Blk w [(w.heap.size, .cells #[vI vK c, vI vK d, vI vK s, .bool false, vI vK o, vI vK n] 49 (0, 0)), (B, .cells (wayCs p y) 150 (0, 0))]) (n0 := w.heap.size + 1) 18 [16, 17] [.cells #[vI vK 0, vI vK 0] 43 (0, 0), .cells #[vI vK 0, vI vK 0] 43 (0, 0)] (by kernel_rfl) (by kernel_rfl) (fun d _ _ _ _ h => by cases d <;> exact h) (Blk.stable _ _) (Blk.room w mcS) hK0.drew ⟨⟨rfl, fun a w2 hC => by go_simp; try rfl⟩, ⟨rfl, fun a w2 hC => by go_simp; try rfl⟩, trivial⟩ ?_
  simp only [List.take_succ_cons, List.take_zero, List.drop_succ_cons, List.drop_zero, List.length_cons, List.length_nil, Nat.reduceAdd]
  repeat (first
    | (refine wpQ_skip (by rfl) ?_; simp only [Act.put, siA, scZ, scS])
    | (refine wpQ_yield (by rfl) (v := ?_) ?_ ?_; rotate_left; (intro w2 hC; obtain ⟨p0, p1, p2, p3, p4, p5, ltS⟩ := row6 (hC.2 _ mcS); have yW : WayAt _ B _ _ := (hC.2 _ (mcO _ mcS)); have ylt := yW.lt; obtain ⟨i0, i1, i2⟩ := yW.reg hd; go_simp; try with_reducible rfl); simp only [Act.put, siA, scZ, scS])
    | (refine wpQ_enter (by rfl) ?_; apply Exists.intro; refine ⟨fun w2 hC => ?_, ?_⟩; (obtain ⟨p0, p1, p2, p3, p4, p5, ltS⟩ := row6 (hC.2 _ mcS); have yW : WayAt _ B _ _ := (hC.2 _ (mcO _ mcS)); have ylt := yW.lt; obtain ⟨i0, i1, i2⟩ := yW.reg hd; go_simp; apply qb_enter; first | (go_at_call 146; exact (by have hq := vsecond_any B s c d o n false p y hs w2 yW; rw [HB.out] at hq; unfold Kno.v at hq; exact hq)) | (go_at_call 198; exact HN.out w2)); simp only [Act.put, siA, scZ, scS]))
  refine wpQ_nil ?_
  intro L h5 g5 K h6 g6 w3 hC hB3
  have hne : K ≠ L := (FB.upd_none h6).1
  have hne' : L ≠ K := fun e => hne e.symm
  have bK := hB3 K _ (FB.at_new _ _ _)
  have bL := hB3 L _ (FB.at_old hne' (FB.at_new _ _ _))
  obtain ⟨l0, l1, lf0, lf1, llt⟩ := row2 bL
  obtain ⟨k0, k1, kf0, kf1, klt⟩ := row2 bK
  obtain ⟨p0, p1, p2, p3, p4, p5, ltS⟩ := row6 (hC.2 _ mcS); have yW : WayAt _ B _ _ := (hC.2 _ (mcO _ mcS)); have ylt := yW.lt; obtain ⟨i0, i1, i2⟩ := yW.reg hd
  have hbw := hC.1
  have n1 : w.heap.size ≠ L := by omega
  have n2 : B ≠ L := by omega
  have n3 : w.heap.size ≠ K := by omega
  have n4 : B ≠ K := by omega
  simp only [ptrTo]
  go_wp2_with fail
  have hK1 : Blk w [(L, .cells #[vI vK x0, vI vK x1] 43 (0, 0)), (K, .cells #[vI vK y0, vI vK y1] 43 (0, 0)), (B, .cells (wayCs p y) 150 (0, 0)), (w.heap.size, .cells #[vI vK c, vI vK d, vI vK s, .bool false, vI vK o, vI vK n] 49 (0, 0))] _ := ((((Blk.nil (by repeat' first | with_reducible (first | exact hbw | exact bF _ _ | refine bA ?_ ?_ _ | refine bS ?_ ?_ _ | refine bD ?_ | refine below_setRow ?_ ?_ _) | ((try dsimp only); omega) | (simp; done) | (simp; omega))).cons (off2 (off2 (hC.2 _ mcS) n1) n3)).cons (off2 (off2 (hC.2 _ (mcO _ mcS)) n2) n4)).cons (put2 (off2 bK hne))).cons (off2 (put2 bL) hne')
  clear l0 l1 lf0 lf1 llt k0 k1 kf0 kf1 klt p0 p1 p2 p3 p4 p5 ltS yW ylt i0 i1 i2 hC hbw bL bK hB3
  refine wp_float (C := Blk w [(L, .cells #[vI vK x0, vI vK x1] 43 (0, 0)), (K, .cells #[vI vK y0, vI vK y1] 43 (0, 0)), (B, .cells (wayCs p y) 150 (0, 0)), (w.heap.size, .cells #[vI vK c, vI vK d, vI vK s, .bool false, vI vK o, vI vK n] 49 (0, 0))]) (n0 := w.heap.size) 8 [] [] (by kernel_rfl) (by kernel_rfl) (fun d _ _ _ _ h => by cases d <;> exact h) (Blk.stable _ _) (Blk.room0 _ _) hK1.drew trivial ?_
  simp only [List.take_succ_cons, List.take_zero, List.drop_succ_cons, List.drop_zero, List.length_nil, Nat.reduceAdd]
  repeat (first
    | (refine wpQ_skip (by rfl) ?_; simp only [Act.put, siA, scZ, scS])
    | (refine wpQ_yield (by rfl) (v := ?_) ?_ ?_; rotate_left; (intro w2 hC; obtain ⟨l0, l1, lf0, lf1, llt⟩ := row2 (hC.2 _ mcS); obtain ⟨k0, k1, kf0, kf1, klt⟩ := row2 (hC.2 _ (mcO _ mcS)); have yW : WayAt _ B _ _ := (hC.2 _ (mcO _ (mcO _ mcS))); have ylt := yW.lt; obtain ⟨i0, i1, i2⟩ := yW.reg hd; obtain ⟨p0, p1, p2, p3, p4, p5, ltS⟩ := row6 (hC.2 _ (mcO _ (mcO _ (mcO _ mcS)))); go_simp; try with_reducible rfl); simp only [Act.put, siA, scZ, scS])
    | (refine wpQ_enter (by rfl) ?_; apply Exists.intro; refine ⟨fun w2 hC => ?_, ?_⟩; (obtain ⟨l0, l1, lf0, lf1, llt⟩ := row2 (hC.2 _ mcS); obtain ⟨k0, k1, kf0, kf1, klt⟩ := row2 (hC.2 _ (mcO _ mcS)); have yW : WayAt _ B _ _ := (hC.2 _ (mcO _ (mcO _ mcS))); have ylt := yW.lt; obtain ⟨i0, i1, i2⟩ := yW.reg hd; obtain ⟨p0, p1, p2, p3, p4, p5, ltS⟩ := row6 (hC.2 _ (mcO _ (mcO _ (mcO _ mcS)))); go_simp; apply qb_enter; first | (go_at_call 150; exact (by have hq := vnumber_any x0 x1 w2; unfold Kno.v knoNum at hq; exact hq))); simp only [Act.put, siA, scZ, scS]))
  refine wpQ_nil ?_
  intro w5 hC hB5
  obtain ⟨l0, l1, lf0, lf1, llt⟩ := row2 (hC.2 _ mcS); obtain ⟨k0, k1, kf0, kf1, klt⟩ := row2 (hC.2 _ (mcO _ mcS)); have yW : WayAt _ B _ _ := (hC.2 _ (mcO _ (mcO _ mcS))); have ylt := yW.lt; obtain ⟨i0, i1, i2⟩ := yW.reg hd; obtain ⟨p0, p1, p2, p3, p4, p5, ltS⟩ := row6 (hC.2 _ (mcO _ (mcO _ (mcO _ mcS))))
  have if0 := yW.frozen (1 + d * 3); have if1 := yW.frozen (1 + d * 3 + 1); have if2 := yW.frozen (1 + d * 3 + 2)
  have HK := kept_below hC.1 B
  go_wp2_with fail
  go_ret
  exact ⟨rfl, (by repeat' first | with_reducible (first | exact HK | refine kept_drew ?_ | refine kept_set ?_ _ _ | refine kept_new ?_ _ _ ?_ | refine kept_alloc ?_ _) | ((try dsimp only); omega) | (simp; omega)), yW.reg3 hd 1 x0 x1⟩
theorem vnarrow_two (B d s : Nat) (c o n p code : Int) (y : Way) (hd : d < 11) (hs : s < 11) (bk bl bh : Int) (HB : Hid (y.second s true n = ⟨bk, bl, bh⟩)) (x0 x1 y0 y1 : Int) (HN : Hid (∀ W : World, Calls Tryz.prog 198 #[vI vK code, .agg #[vI vK (y.reg d).l, vI vK (y.reg d).h], .agg #[vI vK bl, vI vK bh]] W fun e w' => e = .returned (.tuple #[.agg #[vI vK x0, vI vK x1], .agg #[vI vK y0, vI vK y1], .bool true]) ∧ Below W.heap.size W w')) (hsd : ¬ (s : Int) = (d : Int)) (hsd2 : ¬ s = d) (w : World) (hW : WayAt w B p y) :
    Calls Tryz.prog 179 #[.pointer (some ⟨B, 0, none⟩), .agg #[vI vK c, vI vK d, vI vK s, .bool true, vI vK o, vI vK n], vI vK code] w fun e w' => e = .returned (.bool true) ∧ Kept B w w' ∧ WayAt w' B p ((y.putReg d ⟨1, x0, x1⟩).putReg s ⟨1, y0, y1⟩) := by
  have hK0 : Blk w [(w.heap.size, .cells #[vI vK c, vI vK d, vI vK s, .bool true, vI vK o, vI vK n] 49 (0, 0)), (B, .cells (wayCs p y) 150 (0, 0))] _ := ((Blk.nil ((bF _ _).alloc (Nat.le_refl _) _)).cons (hW.alloc _)).cons (heap_alloc_new w (.cells #[vI vK c, vI vK d, vI vK s, .bool true, vI vK o, vI vK n] 49))
  have hB := hW.lt
  have hs0 : (0 : Int) ≤ (s : Int) := by omega
  have hs1 : (s : Int) < 11 := by omega
  have hd0 : (0 : Int) ≤ (d : Int) := by omega
  have hd1 : (d : Int) < 11 := by omega
  have hfl := vfield_at bk bl bh
  go_enter Tryz.func179, Tryz.ntmps179
  go_wp2_with fail
  refine wp_float (C := Blk w [(w.heap.size, .cells #[vI vK c, vI vK d, vI vK s, .bool true, vI vK o, vI vK n] 49 (0, 0)), (B, .cells (wayCs p y) 150 (0, 0))]) (n0 := w.heap.size + 1) 18 [16, 17] [.cells #[vI vK 0, vI vK 0] 43 (0, 0), .cells #[vI vK 0, vI vK 0] 43 (0, 0)] (by kernel_rfl) (by kernel_rfl) (fun d _ _ _ _ h => by cases d <;> exact h) (Blk.stable _ _) (Blk.room w mcS) hK0.drew ⟨⟨rfl, fun a w2 hC => by go_simp; try rfl⟩, ⟨rfl, fun a w2 hC => by go_simp; try rfl⟩, trivial⟩ ?_
  simp only [List.take_succ_cons, List.take_zero, List.drop_succ_cons, List.drop_zero, List.length_cons, List.length_nil, Nat.reduceAdd]
  repeat (first
    | (refine wpQ_skip (by rfl) ?_; simp only [Act.put, siA, scZ, scS])
    | (refine wpQ_yield (by rfl) (v := ?_) ?_ ?_; rotate_left; (intro w2 hC; obtain ⟨p0, p1, p2, p3, p4, p5, ltS⟩ := row6 (hC.2 _ mcS); have yW : WayAt _ B _ _ := (hC.2 _ (mcO _ mcS)); have ylt := yW.lt; obtain ⟨i0, i1, i2⟩ := yW.reg hd; go_simp; try with_reducible rfl); simp only [Act.put, siA, scZ, scS])
    | (refine wpQ_enter (by rfl) ?_; apply Exists.intro; refine ⟨fun w2 hC => ?_, ?_⟩; (obtain ⟨p0, p1, p2, p3, p4, p5, ltS⟩ := row6 (hC.2 _ mcS); have yW : WayAt _ B _ _ := (hC.2 _ (mcO _ mcS)); have ylt := yW.lt; obtain ⟨i0, i1, i2⟩ := yW.reg hd; go_simp; apply qb_enter; first | (go_at_call 146; exact (by have hq := vsecond_any B s c d o n true p y hs w2 yW; rw [HB.out] at hq; unfold Kno.v at hq; exact hq)) | (go_at_call 198; exact HN.out w2)); simp only [Act.put, siA, scZ, scS]))
  refine wpQ_nil ?_
  intro L h5 g5 K h6 g6 w3 hC hB3
  have hne : K ≠ L := (FB.upd_none h6).1
  have hne' : L ≠ K := fun e => hne e.symm
  have bK := hB3 K _ (FB.at_new _ _ _)
  have bL := hB3 L _ (FB.at_old hne' (FB.at_new _ _ _))
  obtain ⟨l0, l1, lf0, lf1, llt⟩ := row2 bL
  obtain ⟨k0, k1, kf0, kf1, klt⟩ := row2 bK
  obtain ⟨p0, p1, p2, p3, p4, p5, ltS⟩ := row6 (hC.2 _ mcS); have yW : WayAt _ B _ _ := (hC.2 _ (mcO _ mcS)); have ylt := yW.lt; obtain ⟨i0, i1, i2⟩ := yW.reg hd
  have hbw := hC.1
  have n1 : w.heap.size ≠ L := by omega
  have n2 : B ≠ L := by omega
  have n3 : w.heap.size ≠ K := by omega
  have n4 : B ≠ K := by omega
  simp only [ptrTo]
  go_wp2_with fail
  have hK1 : Blk w [(L, .cells #[vI vK x0, vI vK x1] 43 (0, 0)), (K, .cells #[vI vK y0, vI vK y1] 43 (0, 0)), (B, .cells (wayCs p y) 150 (0, 0)), (w.heap.size, .cells #[vI vK c, vI vK d, vI vK s, .bool true, vI vK o, vI vK n] 49 (0, 0))] _ := ((((Blk.nil (by repeat' first | with_reducible (first | exact hbw | exact bF _ _ | refine bA ?_ ?_ _ | refine bS ?_ ?_ _ | refine bD ?_ | refine below_setRow ?_ ?_ _) | ((try dsimp only); omega) | (simp; done) | (simp; omega))).cons (off2 (off2 (hC.2 _ mcS) n1) n3)).cons (off2 (off2 (hC.2 _ (mcO _ mcS)) n2) n4)).cons (put2 (off2 bK hne))).cons (off2 (put2 bL) hne')
  clear l0 l1 lf0 lf1 llt k0 k1 kf0 kf1 klt p0 p1 p2 p3 p4 p5 ltS yW ylt i0 i1 i2 hC hbw bL bK hB3
  refine wp_float (C := Blk w [(L, .cells #[vI vK x0, vI vK x1] 43 (0, 0)), (K, .cells #[vI vK y0, vI vK y1] 43 (0, 0)), (B, .cells (wayCs p y) 150 (0, 0)), (w.heap.size, .cells #[vI vK c, vI vK d, vI vK s, .bool true, vI vK o, vI vK n] 49 (0, 0))]) (n0 := w.heap.size) 8 [] [] (by kernel_rfl) (by kernel_rfl) (fun d _ _ _ _ h => by cases d <;> exact h) (Blk.stable _ _) (Blk.room0 _ _) hK1.drew trivial ?_
  simp only [List.take_succ_cons, List.take_zero, List.drop_succ_cons, List.drop_zero, List.length_nil, Nat.reduceAdd]
  repeat (first
    | (refine wpQ_skip (by rfl) ?_; simp only [Act.put, siA, scZ, scS])
    | (refine wpQ_yield (by rfl) (v := ?_) ?_ ?_; rotate_left; (intro w2 hC; obtain ⟨l0, l1, lf0, lf1, llt⟩ := row2 (hC.2 _ mcS); obtain ⟨k0, k1, kf0, kf1, klt⟩ := row2 (hC.2 _ (mcO _ mcS)); have yW : WayAt _ B _ _ := (hC.2 _ (mcO _ (mcO _ mcS))); have ylt := yW.lt; obtain ⟨i0, i1, i2⟩ := yW.reg hd; obtain ⟨p0, p1, p2, p3, p4, p5, ltS⟩ := row6 (hC.2 _ (mcO _ (mcO _ (mcO _ mcS)))); go_simp; try with_reducible rfl); simp only [Act.put, siA, scZ, scS])
    | (refine wpQ_enter (by rfl) ?_; apply Exists.intro; refine ⟨fun w2 hC => ?_, ?_⟩; (obtain ⟨l0, l1, lf0, lf1, llt⟩ := row2 (hC.2 _ mcS); obtain ⟨k0, k1, kf0, kf1, klt⟩ := row2 (hC.2 _ (mcO _ mcS)); have yW : WayAt _ B _ _ := (hC.2 _ (mcO _ (mcO _ mcS))); have ylt := yW.lt; obtain ⟨i0, i1, i2⟩ := yW.reg hd; obtain ⟨p0, p1, p2, p3, p4, p5, ltS⟩ := row6 (hC.2 _ (mcO _ (mcO _ (mcO _ mcS)))); go_simp; apply qb_enter; first | (go_at_call 150; exact (by have hq := vnumber_any x0 x1 w2; unfold Kno.v knoNum at hq; exact hq))); simp only [Act.put, siA, scZ, scS]))
  refine wpQ_nil ?_
  intro w5 hC hB5
  obtain ⟨l0, l1, lf0, lf1, llt⟩ := row2 (hC.2 _ mcS); obtain ⟨k0, k1, kf0, kf1, klt⟩ := row2 (hC.2 _ (mcO _ mcS)); have yW : WayAt _ B _ _ := (hC.2 _ (mcO _ (mcO _ mcS))); have ylt := yW.lt; obtain ⟨i0, i1, i2⟩ := yW.reg hd; obtain ⟨p0, p1, p2, p3, p4, p5, ltS⟩ := row6 (hC.2 _ (mcO _ (mcO _ (mcO _ mcS))))
  have if0 := yW.frozen (1 + d * 3); have if1 := yW.frozen (1 + d * 3 + 1); have if2 := yW.frozen (1 + d * 3 + 2)
  have HK := kept_below hC.1 B
  go_wp2_with fail
  have hK6 : Blk (((w5.setCell ⟨B, 1 + d * 3, none⟩ (vI vK 1)).setCell ⟨B, 1 + d * 3 + 1, none⟩ (vI vK x0)).setCell ⟨B, 1 + d * 3 + 2, none⟩ (vI vK x1)) [(K, .cells #[vI vK y0, vI vK y1] 43 (0, 0)), (B, .cells (wayCs p (y.putReg d ⟨1, x0, x1⟩)) 150 (0, 0)), (w.heap.size, .cells #[vI vK c, vI vK d, vI vK s, .bool true, vI vK o, vI vK n] 49 (0, 0))] (((w5.setCell ⟨B, 1 + d * 3, none⟩ (vI vK 1)).setCell ⟨B, 1 + d * 3 + 1, none⟩ (vI vK x0)).setCell ⟨B, 1 + d * 3 + 2, none⟩ (vI vK x1)) := (((Blk.nil (bF _ _)).cons (off3 (hC.2 _ (mcO _ (mcO _ (mcO _ mcS)))) (by omega))).cons (yW.reg3 hd 1 x0 x1)).cons (off3 (hC.2 _ (mcO _ mcS)) (by omega))
  clear l0 l1 lf0 lf1 llt k0 k1 kf0 kf1 klt p0 p1 p2 p3 p4 p5 ltS yW ylt i0 i1 i2 if0 if1 if2 hB5 hC hK1
  refine wp_float (C := Blk (((w5.setCell ⟨B, 1 + d * 3, none⟩ (vI vK 1)).setCell ⟨B, 1 + d * 3 + 1, none⟩ (vI vK x0)).setCell ⟨B, 1 + d * 3 + 2, none⟩ (vI vK x1)) [(K, .cells #[vI vK y0, vI vK y1] 43 (0, 0)), (B, .cells (wayCs p (y.putReg d ⟨1, x0, x1⟩)) 150 (0, 0)), (w.heap.size, .cells #[vI vK c, vI vK d, vI vK s, .bool true, vI vK o, vI vK n] 49 (0, 0))]) (n0 := (((w5.setCell ⟨B, 1 + d * 3, none⟩ (vI vK 1)).setCell ⟨B, 1 + d * 3 + 1, none⟩ (vI vK x0)).setCell ⟨B, 1 + d * 3 + 2, none⟩ (vI vK x1)).heap.size) 8 [] [] (by kernel_rfl) (by kernel_rfl) (fun d _ _ _ _ h => by cases d <;> exact h) (Blk.stable _ _) (Blk.room0 _ _) hK6.drew trivial ?_
  simp only [List.take_succ_cons, List.take_zero, List.drop_succ_cons, List.drop_zero, List.length_nil, Nat.reduceAdd]
  repeat (first
    | (refine wpQ_skip (by rfl) ?_; simp only [Act.put, siA, scZ, scS])
    | (refine wpQ_yield (by rfl) (v := ?_) ?_ ?_; rotate_left; (intro w2 hC; obtain ⟨k0, k1, kf0, kf1, klt⟩ := row2 (hC.2 _ mcS); have yW : WayAt _ B _ _ := (hC.2 _ (mcO _ mcS)); have ylt := yW.lt; obtain ⟨i0, i1, i2⟩ := yW.reg hs; obtain ⟨p0, p1, p2, p3, p4, p5, ltS⟩ := row6 (hC.2 _ (mcO _ (mcO _ mcS))); go_simp; try with_reducible rfl); simp only [Act.put, siA, scZ, scS])
    | (refine wpQ_enter (by rfl) ?_; apply Exists.intro; refine ⟨fun w2 hC => ?_, ?_⟩; (obtain ⟨k0, k1, kf0, kf1, klt⟩ := row2 (hC.2 _ mcS); have yW : WayAt _ B _ _ := (hC.2 _ (mcO _ mcS)); have ylt := yW.lt; obtain ⟨i0, i1, i2⟩ := yW.reg hs; obtain ⟨p0, p1, p2, p3, p4, p5, ltS⟩ := row6 (hC.2 _ (mcO _ (mcO _ mcS))); go_simp; apply qb_enter; first | (go_at_call 150; exact (by have hq := vnumber_any y0 y1 w2; unfold Kno.v knoNum at hq; exact hq))); simp only [Act.put, siA, scZ, scS]))
  refine wpQ_nil ?_
  intro w7 hC hB7
  obtain ⟨k0, k1, kf0, kf1, klt⟩ := row2 (hC.2 _ mcS); have yW : WayAt _ B _ _ := (hC.2 _ (mcO _ mcS)); have ylt := yW.lt; obtain ⟨i0, i1, i2⟩ := yW.reg hs; obtain ⟨p0, p1, p2, p3, p4, p5, ltS⟩ := row6 (hC.2 _ (mcO _ (mcO _ mcS)))
  have if0 := yW.frozen (1 + s * 3); have if1 := yW.frozen (1 + s * 3 + 1); have if2 := yW.frozen (1 + s * 3 + 2)
  have HK6 := kept_later (kept_set (kept_set (kept_set HK (1 + d * 3) (vI vK 1)) (1 + d * 3 + 1) (vI vK x0)) (1 + d * 3 + 2) (vI vK x1)) hC.1
  go_wp2_with fail
  go_ret
  exact ⟨rfl, (by repeat' first | with_reducible (first | exact HK6 | refine kept_drew ?_ | refine kept_set ?_ _ _ | refine kept_new ?_ _ _ ?_ | refine kept_alloc ?_ _) | ((try dsimp only); omega) | (simp; omega)), yW.reg3 hs 1 y0 y1⟩
theorem vnarrow_all {B d s : Nat} {c o n p code : Int} {r : Bool} {y : Way} (hd : d < 11) (hs : s < 11) (hy : y.Ok) (hn : In64 n) {w : World} (hW : WayAt w B p y) :
    Calls Tryz.prog 179 #[.pointer (some ⟨B, 0, none⟩), .agg #[vI vK c, vI vK d, vI vK s, .bool r, vI vK o, vI vK n], vI vK code] w fun e w' => e = .returned (.bool (y.narrow code d s r n).1) ∧ Kept B w w' ∧ WayAt w' B p (y.narrow code d s r n).2 := by
  have o1 := hy.reg d hd
  have o2 := second_ok (r := r) (n := n) hy hs hn
  have mv : ∀ {E : Bool} {e : Ending} {w' : World}, (e = .returned (.bool E) ∧ Below w.heap.size w w') → e = .returned (.bool E) ∧ Kept B w w' ∧ WayAt w' B p y := fun h => ⟨h.1, kept_below h.2 B, hW.later h.2⟩
  unfold Way.narrow
  rcases hv : y.second s r n with ⟨bk, bl, bh⟩
  rw [hv] at o2
  have HN := fun W : World => narrow_is code (y.reg d).l (y.reg d).h bl bh o1.2.2.1.1 o1.2.2.1.2 o1.2.2.2.1.1 o1.2.2.2.1.2 o2.2.2.1.1 o2.2.2.1.2 o2.2.2.2.1.1 o2.2.2.2.1.2 o1.2.2.2.2 o2.2.2.2.2 W
  dsimp only
  generalize narV code (y.reg d).l (y.reg d).h bl bh = z at *
  obtain ⟨⟨x0, x1⟩, ⟨y0, y1⟩, ok⟩ := z
  cases ok
  · rw [if_pos rfl]
    exact (vnarrow_no B d s c o n p code r y hd hs bk bl bh hv x0 x1 y0 y1 HN w hW).mono fun _ _ h => mv h
  rw [if_neg (by simp)]
  cases r
  · rw [if_neg (by intro e; exact absurd e.1 (by simp)), if_neg (by simp)]
    exact vnarrow_num B d s c o n p code y hd hs bk bl bh hv x0 x1 y0 y1 HN w hW
  · by_cases e : s = d
    · subst e
      rw [if_pos ⟨rfl, rfl⟩]
      exact (vnarrow_self B s c o n p code y hd bk bl bh hv x0 x1 y0 y1 HN w hW).mono fun _ _ h => mv h
    · rw [if_neg (fun h => e h.2), if_pos rfl]
      exact vnarrow_two B d s c o n p code y hd hs bk bl bh hv x0 x1 y0 y1 HN (by omega) e w hW
end Go.Proofs.YtednmkhdehlojaaGreatDoor
namespace Go.Proofs.YtednmkhdehlojaaGreatDoor
open Go.ChangeShapes Go.WideShapes Go.ChangeAt Go.RowKit
def wayV (x : Int × Way) : Value := .agg (wayCs x.1 x.2)
def waysCells (l : List (Int × Way)) : List Value := l.flatMap fun x => (wayCs x.1 x.2).toList
theorem waysCells_len (l : List (Int × Way)) : (waysCells l).length = l.length * 82 := by
  induction l with
  | nil => rfl
  | cons x l ih =>
    unfold waysCells at ih ⊢
    rw [List.flatMap_cons, List.length_append, ih, Array.length_toList, wayCs_size, List.length_cons]
    omega
theorem waysCells_snoc (l : List (Int × Way)) (x : Int × Way) : waysCells (l ++ [x]) = waysCells l ++ (wayCs x.1 x.2).toList := by
  unfold waysCells; rw [List.flatMap_append]; simp
def WaysAt (w : World) (base : Nat) (v : Value) (l : List (Int × Way)) : Prop := w.ownsRow base 150 82 v l.length (waysCells l)
theorem Tryz.infoWz : (Tryz.prog.info? 150).map (fun i => (i.zero, i.size, i.bytes)) = some (some (.agg Tryz.zeroCells150), 82, 656) := by kernel_rfl
theorem fill_ways (l : List (Int × Way)) (Z : Array Value) (hZ : Z.size = l.length * 82) : Instr.fill (fun i => some (i * 82, 82)) Z (((l.map wayV).zipIdx 0).map fun x => (x.2, x.1)) = some (waysCells l).toArray := by
  have h := Great.fill_whole (s := 82) (by decide) (l.map wayV) Z (by
    intro v hv
    obtain ⟨x, -, rfl⟩ := List.mem_map.1 hv
    exact wayCs_size x.1 x.2) (by rw [List.length_map]; exact hZ.symm)
  rw [h]
  congr 2
  unfold waysCells
  rw [List.flatMap_map]
  rfl
theorem fill_size (z : Value) (n : Nat) : ((Array.range n).map (z.cells[· % z.cells.size]!)).size = n := by simp
theorem wpList_ways {ops : Array Oper} {rest : List Oper} {o : Oper} {a : Act} {w : World} {Q : Exit → Act → World → Prop} (hg : o.guard = none) (l : List (Int × Way)) (n : Nat) (hn : n = l.length) (h1 : 1 ≤ n) (h2 : n ≤ 1000) (parts : Array (Nat × Operand)) (ho : o.op = .buildSlice 152 n parts)
    (hp : (parts.map fun (i, x) => (i, a.eval x)).toList = ((l.map wayV).zipIdx 0).map fun x => (x.2, x.1))
    (h : wpList Tryz.prog ops Q rest (a.put o.dst (.slice (some ⟨w.heap.size, 0, none⟩) n n)) (w.alloc (.cells (waysCells l).toArray 150))) : wpList Tryz.prog ops Q (o :: rest) a w := by
  obtain ⟨i0, hi, hz0, hz1, hz2⟩ := info_parts Tryz.infoWz
  refine wpList_buildSlice hg 152 150 n parts ho _ i0 _ Tryz.underlying152 hi hz0 (by rw [hz1]; omega) (by rw [hz1]; omega) ?_ h
  rw [hp, hz1]
  exact fill_ways l _ (by rw [fill_size, hn])
theorem wpList_ways1 {ops : Array Oper} {rest : List Oper} {o : Oper} {a : Act} {w : World} {Q : Exit → Act → World → Prop} (hg : o.guard = none) (x : Operand) (p : Int) (y : Way) (ho : o.op = .buildSlice 152 1 #[(0, x)]) (hx : a.eval x = .agg (wayCs p y))
    (h : wpList Tryz.prog ops Q rest (a.put o.dst (.slice (some ⟨w.heap.size, 0, none⟩) 1 1)) (w.alloc (.cells (waysCells [(p, y)]).toArray 150))) : wpList Tryz.prog ops Q (o :: rest) a w :=
  wpList_ways hg [(p, y)] 1 rfl (by decide) (by decide) _ ho (by simp [hx, wayV]) h
theorem wpList_ways2 {ops : Array Oper} {rest : List Oper} {o : Oper} {a : Act} {w : World} {Q : Exit → Act → World → Prop} (hg : o.guard = none) (x x' : Operand) (p p' : Int) (y y' : Way) (ho : o.op = .buildSlice 152 2 #[(0, x), (1, x')]) (hx : a.eval x = .agg (wayCs p y)) (hx' : a.eval x' = .agg (wayCs p' y'))
    (h : wpList Tryz.prog ops Q rest (a.put o.dst (.slice (some ⟨w.heap.size, 0, none⟩) 2 2)) (w.alloc (.cells (waysCells [(p, y), (p', y')]).toArray 150))) : wpList Tryz.prog ops Q (o :: rest) a w :=
  wpList_ways hg [(p, y), (p', y')] 2 rfl (by decide) (by decide) _ ho (by simp [hx, hx', wayV]) h
theorem WaysAt.made (w : World) (base : Nat) (l : List (Int × Way)) (hb : base ≤ w.heap.size) (h : l.length ≤ maxLen) : WaysAt (w.alloc (.cells (waysCells l).toArray 150)) base (.slice (some ⟨w.heap.size, 0, none⟩) l.length l.length) l := by
  have := World.ownsRow_lit (base := base) (e := 150) (size := 82) w (waysCells l).toArray l.length hb h (by simp [waysCells_len])
  simpa [WaysAt] using this
theorem WaysAt.nil (w : World) (base : Nat) : WaysAt w base (.slice none 0 0) [] := World.ownsRow_nil _ _ _ _
theorem WaysAt.mono {w : World} {base base' : Nat} {v : Value} {l : List (Int × Way)} (h : WaysAt w base v l) (hb : base' ≤ base) : WaysAt w base' v l := by
  obtain ⟨h1, h2⟩ := h
  refine ⟨h1, ?_⟩
  rcases h2 with h2 | ⟨g, cap, cur, e1, e2, r⟩
  · exact Or.inl h2
  · exact Or.inr ⟨g, cap, cur, e1, by omega, r⟩
theorem WaysAt.later {w w1 : World} {base : Nat} {v : Value} {l : List (Int × Way)} (h : WaysAt w base v l) (hb : Below w.heap.size w w1) : WaysAt w1 base v l :=
  World.ownsRow.kept (w' := w1) (row := none) h ⟨hb.os, hb.tape, hb.output, hb.size, fun k hk _ => hb.block k hk⟩ (by cases v.ownBlock <;> simp)
theorem load_way {o : Oper} {u : Act} {x : Operand} {W : World} {B : Nat} {p : Int} {y : Way} (hW : WayAt W B p y) (ho : o.op = .load 150 x) (hx : u.eval x = .pointer (some ⟨B, 0, none⟩)) : (execOp u.eval o).run Tryz.prog W = .ok (.value (.agg (wayCs p y))) W := by
  have hl := run_loadVar_row (P := Tryz.prog) W B 150 150 (wayCs p y) (0, 0) _ hW Tryz.underlying150 rfl (infoW_of p y)
  unfold execOp
  simp only [ho, hx, Instr.loadAt, Instr.sureAddr, Sem.run_bind, Sem.run_pure, Result.andThen_ok, hl]
end Go.Proofs.YtednmkhdehlojaaGreatDoor
namespace Go.Proofs.YtednmkhdehlojaaGreatDoor
open Go.ChangeShapes Go.WideShapes Go.ChangeAt Go.RowKit
attribute [local simp] drew_size drewN_size setCell_size
theorem on_zero (p : Int) (y : Way) (h0 : 0 ≤ p) (h1 : p ≤ 1000) (w : World) : Calls Tryz.prog 106 #[.agg (wayCs p y), vI vK 0] w fun e w' => e = .returned (.agg (wayCs (p + 1) y)) ∧ Below w.heap.size w w' := on_any p 0 y h0 h1 (by decide) (by decide) w
theorem vaskp_bb (d s : Nat) (c o n p : Int) (r : Bool) (y : Way) (hd : d < 11) (hp0 : 0 ≤ p) (hp1 : p ≤ 1000) (ho0 : 0 ≤ o) (ho1 : o ≤ 1000) (m1 m2 : Bool) (x16 : (c == 16) = m1) (x5 : ((y.reg d).k != 5) = m2) (w : World) :
    Calls Tryz.prog 148 #[.agg (wayCs p y), .agg #[vI vK c, vI vK d, vI vK s, .bool r, vI vK o, vI vK n]] w fun e w' => ∃ v, e = .returned v ∧ WaysAt w' w.heap.size v (if m2 = true then [((if m1 = true then (p + (1 + o)) else (p + 1)), y)] else [((if m1 = true then (p + 1) else (p + (1 + o))), y.putReg d ⟨1, 0, 0⟩), ((if m1 = true then (p + (1 + o)) else (p + 1)), y.putReg d ⟨4, 0, 0⟩)]) ∧ Below w.heap.size w w' := by
  have hK0 : Blk w [(w.heap.size, .cells (wayCs p y) 150 (0, 0)), (w.heap.size + 1, .cells #[vI vK c, vI vK d, vI vK s, .bool r, vI vK o, vI vK n] 49 (0, 0))] _ := ((Blk.nil (((bF _ _).alloc (Nat.le_refl _) _).alloc (by simp) _)).cons (heap_alloc2_new w (.cells (wayCs p y) 150) (.cells #[vI vK c, vI vK d, vI vK s, .bool r, vI vK o, vI vK n] 49))).cons ((WayAt.start w p y).alloc (.cells #[vI vK c, vI vK d, vI vK s, .bool r, vI vK o, vI vK n] 49))
  have hd0 : (0 : Int) ≤ (d : Int) := by omega
  have hd1 : (d : Int) < 11 := by omega
  go_enter Tryz.func148, Tryz.ntmps148
  go_wp2_with fail
  refine wp_float (C := Blk w [(w.heap.size, .cells (wayCs p y) 150 (0, 0)), (w.heap.size + 1, .cells #[vI vK c, vI vK d, vI vK s, .bool r, vI vK o, vI vK n] 49 (0, 0))]) (n0 := w.heap.size + 1 + 1) 6 [] [.cells Tryz.zeroCells150 150 (0, 0), .cells Tryz.zeroCells150 150 (0, 0)] (by kernel_rfl) (by kernel_rfl) (fun d _ _ _ _ h => by cases d <;> exact h) (Blk.stable _ _) (Blk.room w (mcO _ mcS)) hK0.drew ⟨⟨rfl, fun a w2 hC => by go_simp; try rfl⟩, ⟨rfl, fun a w2 hC => by go_simp; try rfl⟩, trivial⟩ ?_
  simp only [List.take_succ_cons, List.take_zero, List.drop_succ_cons, List.drop_zero, List.length_cons, List.length_nil, Nat.reduceAdd]
  repeat (first
    | (refine wpQ_skip (by rfl) ?_; simp only [Act.put, siA, scZ, scS])
    | (refine wpQ_yield (by rfl) (v := .agg (wayCs p y)) (fun w2 hC => load_way (hC.2 _ mcS) rfl rfl) ?_; simp only [Act.put, siA, scZ, scS])
    | (refine wpQ_yield (by rfl) (v := ?_) ?_ ?_; rotate_left; (intro w2 hC; have yW : WayAt _ w.heap.size _ _ := (hC.2 _ mcS); have ylt := yW.lt; obtain ⟨i0, i1, i2⟩ := yW.reg hd; obtain ⟨p0, p1, p2, p3, p4, p5, ltS⟩ := row6 (hC.2 _ (mcO _ mcS)); go_simp; try with_reducible rfl); simp only [Act.put, siA, scZ, scS])
    | (refine wpQ_enter (by rfl) ?_; apply Exists.intro; refine ⟨fun w2 hC => ?_, ?_⟩; (have yW : WayAt _ w.heap.size _ _ := (hC.2 _ mcS); have ylt := yW.lt; obtain ⟨i0, i1, i2⟩ := yW.reg hd; obtain ⟨p0, p1, p2, p3, p4, p5, ltS⟩ := row6 (hC.2 _ (mcO _ mcS)); go_simp; apply qb_enter; first | (go_at_call 106; exact (by first | with_reducible exact on_zero p y hp0 hp1 w2 | with_reducible exact on_any p o y hp0 hp1 ho0 ho1 w2))); simp only [Act.put, siA, scZ, scS]))
  refine wpQ_nil ?_
  intro L h5 g5 K h6 g6 w3 hC hB3
  have hne : K ≠ L := (FB.upd_none h6).1
  have hne' : L ≠ K := fun e => hne e.symm
  have bK := hB3 K _ (FB.at_new _ _ _)
  have bL := hB3 L _ (FB.at_old hne' (FB.at_new _ _ _))
  have yW : WayAt _ w.heap.size _ _ := (hC.2 _ mcS); have ylt := yW.lt; obtain ⟨i0, i1, i2⟩ := yW.reg hd; obtain ⟨p0, p1, p2, p3, p4, p5, ltS⟩ := row6 (hC.2 _ (mcO _ mcS))
  have hbw := hC.1
  have n1 : w.heap.size + 1 ≠ L := by omega
  have n2 : w.heap.size ≠ L := by omega
  have n3 : w.heap.size + 1 ≠ K := by omega
  have n4 : w.heap.size ≠ K := by omega
  simp only [ptrTo, Act.put, siA, scZ, scS]
  have hK1 : Blk w [(L, .cells (wayCs (p + (1 + o)) y) 150 (0, 0)), (K, .cells (wayCs (p + 1) y) 150 (0, 0)), (w.heap.size, .cells (wayCs p y) 150 (0, 0)), (w.heap.size + 1, .cells #[vI vK c, vI vK d, vI vK s, .bool r, vI vK o, vI vK n] 49 (0, 0))] ((w3.setRow L (wayCs (p + (1 + o)) y)).setRow K (wayCs (p + 1) y)) := ((((Blk.nil (by repeat' first | with_reducible (first | exact hbw | refine below_setRow ?_ ?_ _ | refine bS ?_ ?_ _ | refine bA ?_ ?_ _) | ((try dsimp only); omega) | (simp; omega))).cons ((setRow_other _ K _ _ n3).trans ((setRow_other _ L _ _ n1).trans (hC.2 _ (mcO _ mcS))))).cons ((setRow_other _ K _ _ n4).trans ((setRow_other _ L _ _ n2).trans (hC.2 _ mcS)))).cons (setRow_heap _ K _ (wayCs (p + 1) y) 150 _ ((setRow_other _ L _ _ hne).trans bK))).cons ((setRow_other _ K _ _ hne').trans (setRow_heap _ L _ (wayCs (p + (1 + o)) y) 150 _ bL))
  clear yW ylt i0 i1 i2 p0 p1 p2 p3 p4 p5 ltS hK0
  have yW : WayAt _ w.heap.size _ _ := (hK1.2 _ (mcO _ (mcO _ mcS))); have ylt := yW.lt; obtain ⟨i0, i1, i2⟩ := yW.reg hd; obtain ⟨p0, p1, p2, p3, p4, p5, ltS⟩ := row6 (hK1.2 _ (mcO _ (mcO _ (mcO _ mcS))))
  (refine wpList_store_row rfl 150 (.tmp 5) (.tmp 10) rfl L (wayCs (p + (1 + o)) y) rfl rfl 150 _ bL (infoW_of _ _) (by first | rw [zeroW_size, wayCs_size] | rw [wayCs_size, wayCs_size]) (wayCs_one _ _) ?_)
  (refine wpList_store_row rfl 150 (.tmp 6) (.tmp 12) rfl K (wayCs (p + 1) y) rfl rfl 150 _ ((setRow_other _ L _ _ hne).trans bK) (infoW_of _ _) (by first | rw [zeroW_size, wayCs_size] | rw [wayCs_size, wayCs_size]) (wayCs_one _ _) ?_)
  cases m1
  · cases m2
    · go_upto_region 6 with fail
      clear yW ylt i0 i1 i2 p0 p1 p2 p3 p4 p5 ltS
      refine wp_float (C := Blk w [(L, .cells (wayCs (p + (1 + o)) y) 150 (0, 0)), (K, .cells (wayCs (p + 1) y) 150 (0, 0)), (w.heap.size, .cells (wayCs p y) 150 (0, 0)), (w.heap.size + 1, .cells #[vI vK c, vI vK d, vI vK s, .bool r, vI vK o, vI vK n] 49 (0, 0))]) (n0 := w.heap.size) 6 [] [] (by kernel_rfl) (by kernel_rfl) (fun d _ _ _ _ h => by cases d <;> exact h) (Blk.stable _ _) (Blk.room0 _ _) hK1.drew trivial ?_
      simp only [List.take_succ_cons, List.take_zero, List.drop_succ_cons, List.drop_zero, List.length_nil, Nat.reduceAdd]
      repeat (first
        | (refine wpQ_skip (by rfl) ?_; simp only [Act.put, siA, scZ, scS])
        | (refine wpQ_yield (by rfl) (v := ?_) ?_ ?_; rotate_left; (intro w2 hC; have aW : WayAt _ L _ _ := (hC.2 _ mcS); have alt := aW.lt; have bW : WayAt _ K _ _ := (hC.2 _ (mcO _ mcS)); have blt := bW.lt; have yW : WayAt _ w.heap.size _ _ := (hC.2 _ (mcO _ (mcO _ mcS))); have ylt := yW.lt; obtain ⟨p0, p1, p2, p3, p4, p5, ltS⟩ := row6 (hC.2 _ (mcO _ (mcO _ (mcO _ mcS)))); go_simp; try with_reducible rfl); simp only [Act.put, siA, scZ, scS])
        | (refine wpQ_enter (by rfl) ?_; apply Exists.intro; refine ⟨fun w2 hC => ?_, ?_⟩; (have aW : WayAt _ L _ _ := (hC.2 _ mcS); have alt := aW.lt; have bW : WayAt _ K _ _ := (hC.2 _ (mcO _ mcS)); have blt := bW.lt; have yW : WayAt _ w.heap.size _ _ := (hC.2 _ (mcO _ (mcO _ mcS))); have ylt := yW.lt; obtain ⟨p0, p1, p2, p3, p4, p5, ltS⟩ := row6 (hC.2 _ (mcO _ (mcO _ (mcO _ mcS)))); go_simp; apply qb_enter; first | (go_at_call 37; exact one_is 0 w2) | (go_at_call 150; exact (by have hq := vnumber_any 0 0 w2; unfold Kno.v knoNum at hq; exact hq))); simp only [Act.put, siA, scZ, scS]))
      refine wpQ_nil ?_
      intro w5 hC hB5
      have aW : WayAt _ L _ _ := (hC.2 _ mcS); have alt := aW.lt; have bW : WayAt _ K _ _ := (hC.2 _ (mcO _ mcS)); have blt := bW.lt; have yW : WayAt _ w.heap.size _ _ := (hC.2 _ (mcO _ (mcO _ mcS))); have ylt := yW.lt; obtain ⟨p0, p1, p2, p3, p4, p5, ltS⟩ := row6 (hC.2 _ (mcO _ (mcO _ (mcO _ mcS))))
      obtain ⟨i0, i1, i2⟩ := aW.reg hd
      have if0 := aW.frozen (1 + d * 3)
      have if1 := aW.frozen (1 + d * 3 + 1)
      have if2 := aW.frozen (1 + d * 3 + 2)
      go_upto_region 7 with fail
      have hbw5 := hC.1
      have hK7 : Blk w [(L, .cells (wayCs (p + (1 + o)) (y.putReg d ⟨1, 0, 0⟩)) 150 (0, 0)), (K, .cells (wayCs (p + 1) y) 150 (0, 0)), (w.heap.size, .cells (wayCs p y) 150 (0, 0)), (w.heap.size + 1, .cells #[vI vK c, vI vK d, vI vK s, .bool r, vI vK o, vI vK n] 49 (0, 0))] (((w5.setCell ⟨L, 1 + d * 3, none⟩ (vI vK 1)).setCell ⟨L, 1 + d * 3 + 1, none⟩ (vI vK 0)).setCell ⟨L, 1 + d * 3 + 2, none⟩ (vI vK 0)) := ((((Blk.nil (by repeat' first | with_reducible (first | exact hbw5 | refine below_setRow ?_ ?_ _ | refine bS ?_ ?_ _ | refine bA ?_ ?_ _) | ((try dsimp only); omega) | (simp; omega))).cons (off3 (hC.2 _ (mcO _ (mcO _ (mcO _ mcS)))) (by omega))).cons (off3 (hC.2 _ (mcO _ (mcO _ mcS))) (by omega))).cons (off3 (hC.2 _ (mcO _ mcS)) hne)).cons (aW.reg3 hd 1 0 0)
      clear aW alt bW blt yW ylt i0 i1 i2 if0 if1 if2 p0 p1 p2 p3 p4 p5 ltS hC hB5
      refine wp_float (C := Blk w [(L, .cells (wayCs (p + (1 + o)) (y.putReg d ⟨1, 0, 0⟩)) 150 (0, 0)), (K, .cells (wayCs (p + 1) y) 150 (0, 0)), (w.heap.size, .cells (wayCs p y) 150 (0, 0)), (w.heap.size + 1, .cells #[vI vK c, vI vK d, vI vK s, .bool r, vI vK o, vI vK n] 49 (0, 0))]) (n0 := w.heap.size) 6 [] [] (by kernel_rfl) (by kernel_rfl) (fun d _ _ _ _ h => by cases d <;> exact h) (Blk.stable _ _) (Blk.room0 _ _) hK7.drew trivial ?_
      simp only [List.take_succ_cons, List.take_zero, List.drop_succ_cons, List.drop_zero, List.length_nil, Nat.reduceAdd]
      repeat (first
        | (refine wpQ_skip (by rfl) ?_; simp only [Act.put, siA, scZ, scS])
        | (refine wpQ_yield (by rfl) (v := ?_) ?_ ?_; rotate_left; (intro w2 hC; have aW : WayAt _ L _ _ := (hC.2 _ mcS); have alt := aW.lt; have bW : WayAt _ K _ _ := (hC.2 _ (mcO _ mcS)); have blt := bW.lt; have yW : WayAt _ w.heap.size _ _ := (hC.2 _ (mcO _ (mcO _ mcS))); have ylt := yW.lt; obtain ⟨p0, p1, p2, p3, p4, p5, ltS⟩ := row6 (hC.2 _ (mcO _ (mcO _ (mcO _ mcS)))); go_simp; try with_reducible rfl); simp only [Act.put, siA, scZ, scS])
        | (refine wpQ_enter (by rfl) ?_; apply Exists.intro; refine ⟨fun w2 hC => ?_, ?_⟩; (have aW : WayAt _ L _ _ := (hC.2 _ mcS); have alt := aW.lt; have bW : WayAt _ K _ _ := (hC.2 _ (mcO _ mcS)); have blt := bW.lt; have yW : WayAt _ w.heap.size _ _ := (hC.2 _ (mcO _ (mcO _ mcS))); have ylt := yW.lt; obtain ⟨p0, p1, p2, p3, p4, p5, ltS⟩ := row6 (hC.2 _ (mcO _ (mcO _ (mcO _ mcS)))); go_simp; apply qb_enter; first | (go_at_call 37; exact one_is 0 w2)); simp only [Act.put, siA, scZ, scS]))
      refine wpQ_nil ?_
      intro w6 hC hB6
      have aW : WayAt _ L _ _ := (hC.2 _ mcS); have alt := aW.lt; have bW : WayAt _ K _ _ := (hC.2 _ (mcO _ mcS)); have blt := bW.lt; have yW : WayAt _ w.heap.size _ _ := (hC.2 _ (mcO _ (mcO _ mcS))); have ylt := yW.lt; obtain ⟨p0, p1, p2, p3, p4, p5, ltS⟩ := row6 (hC.2 _ (mcO _ (mcO _ (mcO _ mcS))))
      obtain ⟨i0, i1, i2⟩ := bW.reg hd
      have if0 := bW.frozen (1 + d * 3)
      have if1 := bW.frozen (1 + d * 3 + 1)
      have if2 := bW.frozen (1 + d * 3 + 2)
      go_upto_region 8 with fail
      have hbw6 := hC.1
      have hK8 : Blk w [(L, .cells (wayCs (p + (1 + o)) (y.putReg d ⟨1, 0, 0⟩)) 150 (0, 0)), (K, .cells (wayCs (p + 1) (y.putReg d ⟨4, 0, 0⟩)) 150 (0, 0))] (((w6.setCell ⟨K, 1 + d * 3, none⟩ (vI vK 4)).setCell ⟨K, 1 + d * 3 + 1, none⟩ (vI vK 0)).setCell ⟨K, 1 + d * 3 + 2, none⟩ (vI vK 0)) := ((Blk.nil (by repeat' first | with_reducible (first | exact hbw6 | refine below_setRow ?_ ?_ _ | refine bS ?_ ?_ _ | refine bA ?_ ?_ _) | ((try dsimp only); omega) | (simp; omega))).cons (bW.reg3 hd 4 0 0)).cons (off3 (hC.2 _ mcS) hne')
      clear aW alt bW blt yW ylt i0 i1 i2 if0 if1 if2 p0 p1 p2 p3 p4 p5 ltS hC hB6
      go_step
      (refine wpList_load_row rfl 150 (.tmp 5) rfl L rfl 150 (wayCs (p + (1 + o)) (y.putReg d ⟨1, 0, 0⟩)) (0, 0) _ (hK8.2 _ mcS) Tryz.underlying150 rfl (infoW_of _ _) ?_)
      (refine wpList_load_row rfl 150 (.tmp 6) rfl K rfl 150 (wayCs (p + 1) (y.putReg d ⟨4, 0, 0⟩)) (0, 0) _ (hK8.2 _ (mcO _ mcS)) Tryz.underlying150 rfl (infoW_of _ _) ?_)
      refine wpList_ways2 rfl (.tmp 39) (.tmp 40) (p + (1 + o)) (p + 1) (y.putReg d ⟨1, 0, 0⟩) (y.putReg d ⟨4, 0, 0⟩) rfl rfl rfl ?_
      simp only [Act.put, siA, scZ, scS]
      go_wp2_with fail
      go_ret
      have hbwE := hK8.1
      have hsE := hbwE.size
      have hm := WaysAt.made (((w6.setCell ⟨K, 1 + d * 3, none⟩ (vI vK 4)).setCell ⟨K, 1 + d * 3 + 1, none⟩ (vI vK 0)).setCell ⟨K, 1 + d * 3 + 2, none⟩ (vI vK 0)) w.heap.size [((p + (1 + o)), y.putReg d ⟨1, 0, 0⟩), ((p + 1), y.putReg d ⟨4, 0, 0⟩)] hbwE.size (by unfold maxLen; simp)
      simp only [setCell_size] at hm hsE
      exact ⟨_, rfl, by simpa using hm, (by repeat' first | with_reducible (first | exact hbwE | refine below_setRow ?_ ?_ _ | refine bS ?_ ?_ _ | refine bA ?_ ?_ _) | ((try dsimp only); omega) | (simp; omega))⟩
    · go_upto_region 5 with fail
      have hbK : ((w3.setRow L (wayCs (p + (1 + o)) y)).setRow K (wayCs (p + 1) y)).heap[K]? = some (.cells (wayCs (p + 1) y) 150) := hK1.2 _ (mcO _ mcS)
      clear yW ylt i0 i1 i2 p0 p1 p2 p3 p4 p5 ltS
      generalize ((w3.setRow L (wayCs (p + (1 + o)) y)).setRow K (wayCs (p + 1) y)) = w9 at hbK hK1 ⊢
      go_step
      (refine wpList_load_row rfl 150 (.tmp 6) rfl K rfl 150 (wayCs (p + 1) y) (0, 0) _ hbK Tryz.underlying150 rfl (infoW_of _ _) ?_)
      refine wpList_ways1 rfl (.tmp 25) (p + 1) y rfl rfl ?_
      simp only [Act.put, siA, scZ, scS]
      go_wp2_with fail
      go_ret
      have hbwE := hK1.1
      have hsE := hbwE.size
      have hm := WaysAt.made w9 w.heap.size [((p + 1), y)] hbwE.size (by unfold maxLen; simp)
      exact ⟨_, rfl, by simpa using hm, (by repeat' first | with_reducible (first | exact hbwE | refine below_setRow ?_ ?_ _ | refine bS ?_ ?_ _ | refine bA ?_ ?_ _) | ((try dsimp only); omega) | (simp; omega))⟩
  · cases m2
    · go_upto_region 3 with fail
      go_step
      (refine wpList_load_row rfl 150 (.tmp 6) rfl K rfl 150 (wayCs (p + 1) y) (0, 0) _ (hK1.2 _ (mcO _ mcS)) Tryz.underlying150 rfl (infoW_of _ _) ?_)
      (refine wpList_load_row rfl 150 (.tmp 5) rfl L rfl 150 (wayCs (p + (1 + o)) y) (0, 0) _ (hK1.2 _ mcS) Tryz.underlying150 rfl (infoW_of _ _) ?_)
      (refine wpList_store_row rfl 150 (.tmp 5) (.tmp 16) rfl L (wayCs (p + 1) y) rfl rfl 150 _ (hK1.2 _ mcS) (infoW_of _ _) (by first | rw [zeroW_size, wayCs_size] | rw [wayCs_size, wayCs_size]) (wayCs_one _ _) ?_)
      (refine wpList_store_row rfl 150 (.tmp 6) (.tmp 17) rfl K (wayCs (p + (1 + o)) y) rfl rfl 150 _ ((setRow_other _ L _ _ hne).trans (hK1.2 _ (mcO _ mcS))) (infoW_of _ _) (by first | rw [zeroW_size, wayCs_size] | rw [wayCs_size, wayCs_size]) (wayCs_one _ _) ?_)
      simp only [Act.put, siA, scZ, scS]
      have hbw1 := hK1.1
      have hK2 : Blk w [(L, .cells (wayCs (p + 1) y) 150 (0, 0)), (K, .cells (wayCs (p + (1 + o)) y) 150 (0, 0)), (w.heap.size, .cells (wayCs p y) 150 (0, 0)), (w.heap.size + 1, .cells #[vI vK c, vI vK d, vI vK s, .bool r, vI vK o, vI vK n] 49 (0, 0))] ((((w3.setRow L (wayCs (p + (1 + o)) y)).setRow K (wayCs (p + 1) y)).setRow L (wayCs (p + 1) y)).setRow K (wayCs (p + (1 + o)) y)) := ((((Blk.nil (by repeat' first | with_reducible (first | exact hbw1 | refine below_setRow ?_ ?_ _ | refine bS ?_ ?_ _ | refine bA ?_ ?_ _) | ((try dsimp only); omega) | (simp; omega))).cons ((setRow_other _ K _ _ n3).trans ((setRow_other _ L _ _ n1).trans (hK1.2 _ (mcO _ (mcO _ (mcO _ mcS))))))).cons ((setRow_other _ K _ _ n4).trans ((setRow_other _ L _ _ n2).trans (hK1.2 _ (mcO _ (mcO _ mcS)))))).cons (setRow_heap _ K _ (wayCs (p + (1 + o)) y) 150 _ ((setRow_other _ L _ _ hne).trans (hK1.2 _ (mcO _ mcS))))).cons ((setRow_other _ K _ _ hne').trans (setRow_heap _ L _ (wayCs (p + 1) y) 150 _ (hK1.2 _ mcS)))
      clear yW ylt i0 i1 i2 p0 p1 p2 p3 p4 p5 ltS
      have yW : WayAt _ w.heap.size _ _ := (hK2.2 _ (mcO _ (mcO _ mcS))); have ylt := yW.lt; obtain ⟨i0, i1, i2⟩ := yW.reg hd; obtain ⟨p0, p1, p2, p3, p4, p5, ltS⟩ := row6 (hK2.2 _ (mcO _ (mcO _ (mcO _ mcS))))
      go_upto_region 6 with fail
      clear yW ylt i0 i1 i2 p0 p1 p2 p3 p4 p5 ltS
      refine wp_float (C := Blk w [(L, .cells (wayCs (p + 1) y) 150 (0, 0)), (K, .cells (wayCs (p + (1 + o)) y) 150 (0, 0)), (w.heap.size, .cells (wayCs p y) 150 (0, 0)), (w.heap.size + 1, .cells #[vI vK c, vI vK d, vI vK s, .bool r, vI vK o, vI vK n] 49 (0, 0))]) (n0 := w.heap.size) 6 [] [] (by kernel_rfl) (by kernel_rfl) (fun d _ _ _ _ h => by cases d <;> exact h) (Blk.stable _ _) (Blk.room0 _ _) hK2.drew trivial ?_
      simp only [List.take_succ_cons, List.take_zero, List.drop_succ_cons, List.drop_zero, List.length_nil, Nat.reduceAdd]
      repeat (first
        | (refine wpQ_skip (by rfl) ?_; simp only [Act.put, siA, scZ, scS])
        | (refine wpQ_yield (by rfl) (v := ?_) ?_ ?_; rotate_left; (intro w2 hC; have aW : WayAt _ L _ _ := (hC.2 _ mcS); have alt := aW.lt; have bW : WayAt _ K _ _ := (hC.2 _ (mcO _ mcS)); have blt := bW.lt; have yW : WayAt _ w.heap.size _ _ := (hC.2 _ (mcO _ (mcO _ mcS))); have ylt := yW.lt; obtain ⟨p0, p1, p2, p3, p4, p5, ltS⟩ := row6 (hC.2 _ (mcO _ (mcO _ (mcO _ mcS)))); go_simp; try with_reducible rfl); simp only [Act.put, siA, scZ, scS])
        | (refine wpQ_enter (by rfl) ?_; apply Exists.intro; refine ⟨fun w2 hC => ?_, ?_⟩; (have aW : WayAt _ L _ _ := (hC.2 _ mcS); have alt := aW.lt; have bW : WayAt _ K _ _ := (hC.2 _ (mcO _ mcS)); have blt := bW.lt; have yW : WayAt _ w.heap.size _ _ := (hC.2 _ (mcO _ (mcO _ mcS))); have ylt := yW.lt; obtain ⟨p0, p1, p2, p3, p4, p5, ltS⟩ := row6 (hC.2 _ (mcO _ (mcO _ (mcO _ mcS)))); go_simp; apply qb_enter; first | (go_at_call 37; exact one_is 0 w2) | (go_at_call 150; exact (by have hq := vnumber_any 0 0 w2; unfold Kno.v knoNum at hq; exact hq))); simp only [Act.put, siA, scZ, scS]))
      refine wpQ_nil ?_
      intro w5 hC hB5
      have aW : WayAt _ L _ _ := (hC.2 _ mcS); have alt := aW.lt; have bW : WayAt _ K _ _ := (hC.2 _ (mcO _ mcS)); have blt := bW.lt; have yW : WayAt _ w.heap.size _ _ := (hC.2 _ (mcO _ (mcO _ mcS))); have ylt := yW.lt; obtain ⟨p0, p1, p2, p3, p4, p5, ltS⟩ := row6 (hC.2 _ (mcO _ (mcO _ (mcO _ mcS))))
      obtain ⟨i0, i1, i2⟩ := aW.reg hd
      have if0 := aW.frozen (1 + d * 3)
      have if1 := aW.frozen (1 + d * 3 + 1)
      have if2 := aW.frozen (1 + d * 3 + 2)
      go_upto_region 7 with fail
      have hbw5 := hC.1
      have hK7 : Blk w [(L, .cells (wayCs (p + 1) (y.putReg d ⟨1, 0, 0⟩)) 150 (0, 0)), (K, .cells (wayCs (p + (1 + o)) y) 150 (0, 0)), (w.heap.size, .cells (wayCs p y) 150 (0, 0)), (w.heap.size + 1, .cells #[vI vK c, vI vK d, vI vK s, .bool r, vI vK o, vI vK n] 49 (0, 0))] (((w5.setCell ⟨L, 1 + d * 3, none⟩ (vI vK 1)).setCell ⟨L, 1 + d * 3 + 1, none⟩ (vI vK 0)).setCell ⟨L, 1 + d * 3 + 2, none⟩ (vI vK 0)) := ((((Blk.nil (by repeat' first | with_reducible (first | exact hbw5 | refine below_setRow ?_ ?_ _ | refine bS ?_ ?_ _ | refine bA ?_ ?_ _) | ((try dsimp only); omega) | (simp; omega))).cons (off3 (hC.2 _ (mcO _ (mcO _ (mcO _ mcS)))) (by omega))).cons (off3 (hC.2 _ (mcO _ (mcO _ mcS))) (by omega))).cons (off3 (hC.2 _ (mcO _ mcS)) hne)).cons (aW.reg3 hd 1 0 0)
      clear aW alt bW blt yW ylt i0 i1 i2 if0 if1 if2 p0 p1 p2 p3 p4 p5 ltS hC hB5
      refine wp_float (C := Blk w [(L, .cells (wayCs (p + 1) (y.putReg d ⟨1, 0, 0⟩)) 150 (0, 0)), (K, .cells (wayCs (p + (1 + o)) y) 150 (0, 0)), (w.heap.size, .cells (wayCs p y) 150 (0, 0)), (w.heap.size + 1, .cells #[vI vK c, vI vK d, vI vK s, .bool r, vI vK o, vI vK n] 49 (0, 0))]) (n0 := w.heap.size) 6 [] [] (by kernel_rfl) (by kernel_rfl) (fun d _ _ _ _ h => by cases d <;> exact h) (Blk.stable _ _) (Blk.room0 _ _) hK7.drew trivial ?_
      simp only [List.take_succ_cons, List.take_zero, List.drop_succ_cons, List.drop_zero, List.length_nil, Nat.reduceAdd]
      repeat (first
        | (refine wpQ_skip (by rfl) ?_; simp only [Act.put, siA, scZ, scS])
        | (refine wpQ_yield (by rfl) (v := ?_) ?_ ?_; rotate_left; (intro w2 hC; have aW : WayAt _ L _ _ := (hC.2 _ mcS); have alt := aW.lt; have bW : WayAt _ K _ _ := (hC.2 _ (mcO _ mcS)); have blt := bW.lt; have yW : WayAt _ w.heap.size _ _ := (hC.2 _ (mcO _ (mcO _ mcS))); have ylt := yW.lt; obtain ⟨p0, p1, p2, p3, p4, p5, ltS⟩ := row6 (hC.2 _ (mcO _ (mcO _ (mcO _ mcS)))); go_simp; try with_reducible rfl); simp only [Act.put, siA, scZ, scS])
        | (refine wpQ_enter (by rfl) ?_; apply Exists.intro; refine ⟨fun w2 hC => ?_, ?_⟩; (have aW : WayAt _ L _ _ := (hC.2 _ mcS); have alt := aW.lt; have bW : WayAt _ K _ _ := (hC.2 _ (mcO _ mcS)); have blt := bW.lt; have yW : WayAt _ w.heap.size _ _ := (hC.2 _ (mcO _ (mcO _ mcS))); have ylt := yW.lt; obtain ⟨p0, p1, p2, p3, p4, p5, ltS⟩ := row6 (hC.2 _ (mcO _ (mcO _ (mcO _ mcS)))); go_simp; apply qb_enter; first | (go_at_call 37; exact one_is 0 w2)); simp only [Act.put, siA, scZ, scS]))
      refine wpQ_nil ?_
      intro w6 hC hB6
      have aW : WayAt _ L _ _ := (hC.2 _ mcS); have alt := aW.lt; have bW : WayAt _ K _ _ := (hC.2 _ (mcO _ mcS)); have blt := bW.lt; have yW : WayAt _ w.heap.size _ _ := (hC.2 _ (mcO _ (mcO _ mcS))); have ylt := yW.lt; obtain ⟨p0, p1, p2, p3, p4, p5, ltS⟩ := row6 (hC.2 _ (mcO _ (mcO _ (mcO _ mcS))))
      obtain ⟨i0, i1, i2⟩ := bW.reg hd
      have if0 := bW.frozen (1 + d * 3)
      have if1 := bW.frozen (1 + d * 3 + 1)
      have if2 := bW.frozen (1 + d * 3 + 2)
      go_upto_region 8 with fail
      have hbw6 := hC.1
      have hK8 : Blk w [(L, .cells (wayCs (p + 1) (y.putReg d ⟨1, 0, 0⟩)) 150 (0, 0)), (K, .cells (wayCs (p + (1 + o)) (y.putReg d ⟨4, 0, 0⟩)) 150 (0, 0))] (((w6.setCell ⟨K, 1 + d * 3, none⟩ (vI vK 4)).setCell ⟨K, 1 + d * 3 + 1, none⟩ (vI vK 0)).setCell ⟨K, 1 + d * 3 + 2, none⟩ (vI vK 0)) := ((Blk.nil (by repeat' first | with_reducible (first | exact hbw6 | refine below_setRow ?_ ?_ _ | refine bS ?_ ?_ _ | refine bA ?_ ?_ _) | ((try dsimp only); omega) | (simp; omega))).cons (bW.reg3 hd 4 0 0)).cons (off3 (hC.2 _ mcS) hne')
      clear aW alt bW blt yW ylt i0 i1 i2 if0 if1 if2 p0 p1 p2 p3 p4 p5 ltS hC hB6
      go_step
      (refine wpList_load_row rfl 150 (.tmp 5) rfl L rfl 150 (wayCs (p + 1) (y.putReg d ⟨1, 0, 0⟩)) (0, 0) _ (hK8.2 _ mcS) Tryz.underlying150 rfl (infoW_of _ _) ?_)
      (refine wpList_load_row rfl 150 (.tmp 6) rfl K rfl 150 (wayCs (p + (1 + o)) (y.putReg d ⟨4, 0, 0⟩)) (0, 0) _ (hK8.2 _ (mcO _ mcS)) Tryz.underlying150 rfl (infoW_of _ _) ?_)
      refine wpList_ways2 rfl (.tmp 39) (.tmp 40) (p + 1) (p + (1 + o)) (y.putReg d ⟨1, 0, 0⟩) (y.putReg d ⟨4, 0, 0⟩) rfl rfl rfl ?_
      simp only [Act.put, siA, scZ, scS]
      go_wp2_with fail
      go_ret
      have hbwE := hK8.1
      have hsE := hbwE.size
      have hm := WaysAt.made (((w6.setCell ⟨K, 1 + d * 3, none⟩ (vI vK 4)).setCell ⟨K, 1 + d * 3 + 1, none⟩ (vI vK 0)).setCell ⟨K, 1 + d * 3 + 2, none⟩ (vI vK 0)) w.heap.size [((p + 1), y.putReg d ⟨1, 0, 0⟩), ((p + (1 + o)), y.putReg d ⟨4, 0, 0⟩)] hbwE.size (by unfold maxLen; simp)
      simp only [setCell_size] at hm hsE
      exact ⟨_, rfl, by simpa using hm, (by repeat' first | with_reducible (first | exact hbwE | refine below_setRow ?_ ?_ _ | refine bS ?_ ?_ _ | refine bA ?_ ?_ _) | ((try dsimp only); omega) | (simp; omega))⟩
    · go_upto_region 3 with fail
      go_step
      (refine wpList_load_row rfl 150 (.tmp 6) rfl K rfl 150 (wayCs (p + 1) y) (0, 0) _ (hK1.2 _ (mcO _ mcS)) Tryz.underlying150 rfl (infoW_of _ _) ?_)
      (refine wpList_load_row rfl 150 (.tmp 5) rfl L rfl 150 (wayCs (p + (1 + o)) y) (0, 0) _ (hK1.2 _ mcS) Tryz.underlying150 rfl (infoW_of _ _) ?_)
      (refine wpList_store_row rfl 150 (.tmp 5) (.tmp 16) rfl L (wayCs (p + 1) y) rfl rfl 150 _ (hK1.2 _ mcS) (infoW_of _ _) (by first | rw [zeroW_size, wayCs_size] | rw [wayCs_size, wayCs_size]) (wayCs_one _ _) ?_)
      (refine wpList_store_row rfl 150 (.tmp 6) (.tmp 17) rfl K (wayCs (p + (1 + o)) y) rfl rfl 150 _ ((setRow_other _ L _ _ hne).trans (hK1.2 _ (mcO _ mcS))) (infoW_of _ _) (by first | rw [zeroW_size, wayCs_size] | rw [wayCs_size, wayCs_size]) (wayCs_one _ _) ?_)
      simp only [Act.put, siA, scZ, scS]
      have hbw1 := hK1.1
      have hK2 : Blk w [(L, .cells (wayCs (p + 1) y) 150 (0, 0)), (K, .cells (wayCs (p + (1 + o)) y) 150 (0, 0)), (w.heap.size, .cells (wayCs p y) 150 (0, 0)), (w.heap.size + 1, .cells #[vI vK c, vI vK d, vI vK s, .bool r, vI vK o, vI vK n] 49 (0, 0))] ((((w3.setRow L (wayCs (p + (1 + o)) y)).setRow K (wayCs (p + 1) y)).setRow L (wayCs (p + 1) y)).setRow K (wayCs (p + (1 + o)) y)) := ((((Blk.nil (by repeat' first | with_reducible (first | exact hbw1 | refine below_setRow ?_ ?_ _ | refine bS ?_ ?_ _ | refine bA ?_ ?_ _) | ((try dsimp only); omega) | (simp; omega))).cons ((setRow_other _ K _ _ n3).trans ((setRow_other _ L _ _ n1).trans (hK1.2 _ (mcO _ (mcO _ (mcO _ mcS))))))).cons ((setRow_other _ K _ _ n4).trans ((setRow_other _ L _ _ n2).trans (hK1.2 _ (mcO _ (mcO _ mcS)))))).cons (setRow_heap _ K _ (wayCs (p + (1 + o)) y) 150 _ ((setRow_other _ L _ _ hne).trans (hK1.2 _ (mcO _ mcS))))).cons ((setRow_other _ K _ _ hne').trans (setRow_heap _ L _ (wayCs (p + 1) y) 150 _ (hK1.2 _ mcS)))
      clear yW ylt i0 i1 i2 p0 p1 p2 p3 p4 p5 ltS
      have yW : WayAt _ w.heap.size _ _ := (hK2.2 _ (mcO _ (mcO _ mcS))); have ylt := yW.lt; obtain ⟨i0, i1, i2⟩ := yW.reg hd; obtain ⟨p0, p1, p2, p3, p4, p5, ltS⟩ := row6 (hK2.2 _ (mcO _ (mcO _ (mcO _ mcS))))
      go_upto_region 5 with fail
      have hbK : ((((w3.setRow L (wayCs (p + (1 + o)) y)).setRow K (wayCs (p + 1) y)).setRow L (wayCs (p + 1) y)).setRow K (wayCs (p + (1 + o)) y)).heap[K]? = some (.cells (wayCs (p + (1 + o)) y) 150) := hK2.2 _ (mcO _ mcS)
      clear yW ylt i0 i1 i2 p0 p1 p2 p3 p4 p5 ltS
      generalize ((((w3.setRow L (wayCs (p + (1 + o)) y)).setRow K (wayCs (p + 1) y)).setRow L (wayCs (p + 1) y)).setRow K (wayCs (p + (1 + o)) y)) = w9 at hbK hK2 ⊢
      go_step
      (refine wpList_load_row rfl 150 (.tmp 6) rfl K rfl 150 (wayCs (p + (1 + o)) y) (0, 0) _ hbK Tryz.underlying150 rfl (infoW_of _ _) ?_)
      refine wpList_ways1 rfl (.tmp 25) (p + (1 + o)) y rfl rfl ?_
      simp only [Act.put, siA, scZ, scS]
      go_wp2_with fail
      go_ret
      have hbwE := hK2.1
      have hsE := hbwE.size
      have hm := WaysAt.made w9 w.heap.size [((p + (1 + o)), y)] hbwE.size (by unfold maxLen; simp)
      exact ⟨_, rfl, by simpa using hm, (by repeat' first | with_reducible (first | exact hbwE | refine below_setRow ?_ ?_ _ | refine bS ?_ ?_ _ | refine bA ?_ ?_ _) | ((try dsimp only); omega) | (simp; omega))⟩
theorem wpList_callOf {P : Program} {ops : Array Oper} {rest : List Oper} {o : Oper} {a : Act} {w : World} {Q : Exit → Act → World → Prop} (hg : o.guard = none)
    (f : FuncId) (args : Array Value) (hrun : (execOp a.eval o).run P w = .ok (.enter f args) w) (v : Value) {R : World → Prop}
    (hc : Calls P f args w fun e w' => e = .returned v ∧ R w') (h : ∀ w', R w' → wpList P ops Q rest (a.put o.dst v) w') : wpList P ops Q (o :: rest) a w := by
  refine wpList_plain hg fun K hK => ?_
  unfold Oper.wp
  rw [hrun, Oper.upon_enter]
  refine hc.mono fun e w' hh => ?_
  obtain ⟨rfl, hr⟩ := hh
  exact hK _ _ (h w' hr)
theorem wpList_valueOf {P : Program} {ops : Array Oper} {rest : List Oper} {o : Oper} {a : Act} {w : World} {Q : Exit → Act → World → Prop} (hg : o.guard = none)
    (v : Value) (w' : World) (hrun : (execOp a.eval o).run P w = .ok (.value v) w') (h : wpList P ops Q rest (a.put o.dst v) w') : wpList P ops Q (o :: rest) a w := by
  refine wpList_plain hg fun K hK => ?_
  unfold Oper.wp
  rw [hrun, Oper.upon_value]
  exact hK _ _ h
theorem wpList_snoc {ops : Array Oper} {rest : List Oper} {o : Oper} {a : Act} {w : World} {Q : Exit → Act → World → Prop} (hg : o.guard = none) (s x : Operand) (ho : o.op = .call { callee := .builtin .append, args := #[s, x], argTypes := #[152, 152] })
    (base : Nat) (v : Value) (l : List (Int × Way)) (hs : a.eval s = v) (hw : WaysAt w base v l) (p : Int) (y : Way) (hx : a.eval x = .slice (some ⟨w.heap.size, 0, none⟩) 1 1) (hl : l.length ≤ 1000000) (hb : base ≤ w.heap.size)
    (h : ∀ v' w', WaysAt w' base v' (l ++ [(p, y)]) → w.grownBy w' v.ownBlock → wpList Tryz.prog ops Q rest (a.put o.dst v') w') : wpList Tryz.prog ops Q (o :: rest) a (w.alloc (.cells (waysCells [(p, y)]).toArray 150)) := by
  obtain ⟨i0, hi, hz0, hz1, hz2⟩ := info_parts Tryz.infoWz
  have e1 : waysCells [(p, y)] = (wayCs p y).toList := by unfold waysCells; simp
  refine wpList_append_own _ hg s x 152 ho base 150 i0 _ 82 656 Tryz.underlying152 hi hz0 hz1 hz2 zeroW_size (by decide) v l.length (waysCells l) hs (hw.alloc _) ⟨w.heap.size, 0, none⟩ 1 1 (waysCells [(p, y)]) hx (by rw [waysCells_len]; rfl) ?_ ?_ (by unfold maxLen; omega) (by omega) (by simp; omega) ?_
  · intro j u hu
    rw [e1] at hu ⊢
    have hadd : (⟨w.heap.size, 0, none⟩ : Addr).add j = ⟨w.heap.size, j, none⟩ := by unfold Addr.add; split <;> simp_all
    rw [hadd, cell_of_row _ w.heap.size j _ 150 (0, 0) (heap_alloc_new w _)]
    simpa using hu
  · intro u hu
    rw [e1] at hu
    exact (Array.all_eq_true_iff_forall_mem.1 (wayCs_one p y)) u (Array.mem_toList_iff.1 hu)
  · intro v' w' h1 h2 _
    refine h v' w' ?_ ⟨h2.os, h2.tape, h2.output, Nat.le_trans (by simp) h2.size, fun k hk hne => (h2.block k (by simp; omega) hne).trans (heap_alloc_old w _ hk)⟩
    show w'.ownsRow base 150 82 v' (l ++ [(p, y)]).length (waysCells (l ++ [(p, y)]))
    rw [waysCells_snoc, List.length_append, ← e1]
    exact h1
theorem Blk.wayRow {w0 w : World} {F : List (Nat × Obj)} (h : Blk w0 F w) (p : Int) (y : Way) : Blk w0 ((w.heap.size, .cells (wayCs p y) 150 (0, 0)) :: F) ((w.alloc (.cells Tryz.zeroCells150 150 (0, 0))).setRow w.heap.size (wayCs p y)) := by
  have hs := h.1.size
  refine Blk.cons ⟨below_setRow (h.1.alloc hs _) hs _, fun x hx => ?_⟩ (WayAt.setRow (heap_alloc_new _ _) p y)
  have hl := (Array.getElem?_eq_some_iff.1 (h.2 x hx)).1
  exact (setRow_other _ _ _ _ (Nat.ne_of_lt hl)).trans ((heap_alloc_old _ _ hl).trans (h.2 x hx))
theorem WaysAt.off {w w' : World} {base B : Nat} {v : Value} {l : List (Int × Way)} (h : WaysAt w base v l) (hk : Kept B w w') (hB : ∀ k, v.ownBlock = some k → k ≠ B) : WaysAt w' base v l :=
  World.ownsRow.kept (w' := w') (row := some B) h hk (Or.inr fun e => hB B e rfl)
theorem WaysAt.above {w : World} {base : Nat} {v : Value} {l : List (Int × Way)} (h : WaysAt w base v l) : ∀ k, v.ownBlock = some k → base ≤ k ∧ k < w.heap.size := World.ownsRow.lt h
theorem kept_row (w : World) (g : Nat) (cs : Array Value) : Kept g w (w.setRow g cs) :=
  ⟨rfl, rfl, rfl, by rw [setRow_size]; exact Nat.le_refl _, fun k _ hne => setRow_other _ _ _ _ (fun e => hne (congrArg some e))⟩
theorem vaskn_bb (d s : Nat) (c o n p : Int) (r b1 b2 : Bool) (y y1 y2 : Way) (hc : 15 ≤ c ∧ c ≤ 24) (hp0 : 0 ≤ p) (hp1 : p ≤ 1000) (ho0 : 0 ≤ o) (ho1 : o ≤ 1000) (HN1 : Hid (∀ (W : World) (B : Nat), WayAt W B (p + 1) y → Calls Tryz.prog 179 #[.pointer (some ⟨B, 0, none⟩), .agg #[vI vK c, vI vK d, vI vK s, .bool r, vI vK o, vI vK n], vI vK (oppV c)] W fun e w' => e = .returned (.bool b1) ∧ Kept B W w' ∧ WayAt w' B (p + 1) y1)) (HN2 : Hid (∀ (W : World) (B : Nat), WayAt W B (p + (1 + o)) y → Calls Tryz.prog 179 #[.pointer (some ⟨B, 0, none⟩), .agg #[vI vK c, vI vK d, vI vK s, .bool r, vI vK o, vI vK n], vI vK c] W fun e w' => e = .returned (.bool b2) ∧ Kept B W w' ∧ WayAt w' B (p + (1 + o)) y2)) (w : World) :
    Calls Tryz.prog 147 #[.agg (wayCs p y), .agg #[vI vK c, vI vK d, vI vK s, .bool r, vI vK o, vI vK n]] w fun e w' => ∃ v, e = .returned v ∧ WaysAt w' w.heap.size v ((if b1 = true then [((p + 1), y1)] else []) ++ (if b2 = true then [((p + (1 + o)), y2)] else [])) ∧ Below w.heap.size w w' := by
  have hK0 : Blk w [(w.heap.size, .cells (wayCs p y) 150 (0, 0)), (w.heap.size + 1, .cells #[vI vK c, vI vK d, vI vK s, .bool r, vI vK o, vI vK n] 49 (0, 0))] _ := ((Blk.nil (((bF _ _).alloc (Nat.le_refl _) _).alloc (by simp) _)).cons (heap_alloc2_new w (.cells (wayCs p y) 150) (.cells #[vI vK c, vI vK d, vI vK s, .bool r, vI vK o, vI vK n] 49))).cons ((WayAt.start w p y).alloc (.cells #[vI vK c, vI vK d, vI vK s, .bool r, vI vK o, vI vK n] 49))
  go_enter Tryz.func147, Tryz.ntmps147
  go_upto_region 2 with fail
  generalize ((w.alloc (.cells (wayCs p y) 150)).alloc (.cells #[vI vK c, vI vK d, vI vK s, .bool r, vI vK o, vI vK n] 49)) = w1 at hK0 ⊢
  go_step
  (refine wpList_load_row rfl 150 (.tmp 2) rfl w.heap.size rfl 150 (wayCs p y) (0, 0) _ (hK0.2 _ mcS) Tryz.underlying150 rfl (infoW_of _ _) ?_)
  simp only [Act.put, siA, scZ, scS]
  (refine wpList_callOf rfl 106 #[.agg (wayCs p y), vI vK 0] (by go_simp; try rfl) (.agg (wayCs (p + 1) y)) (on_zero p y hp0 hp1 w1) ?_)
  intro w3 hB
  have hC := hK0.later hB
  simp only [Act.put, siA, scZ, scS]
  (refine wpList_valueOf rfl (.pointer (some ⟨w3.heap.size, 0, none⟩)) (w3.alloc (.cells Tryz.zeroCells150 150 (0, 0))) (by go_simp; try rfl) ?_)
  simp only [Act.put, siA, scZ, scS]
  (refine wpList_store_row rfl 150 (.tmp 6) (.tmp 9) rfl w3.heap.size (wayCs (p + 1) y) rfl rfl 150 _ (heap_alloc_new _ _) (infoW_of _ _) (by first | rw [zeroW_size, wayCs_size] | rw [wayCs_size, wayCs_size]) (wayCs_one _ _) ?_)
  simp only [Act.put]
  have hC3 := hC.wayRow (p + 1) y
  have hW3 := hC3.2 _ mcS
  have lt3 := hC.lt (mcO _ mcS)
  clear hC hB hK0
  generalize ((w3.alloc (.cells Tryz.zeroCells150 150 (0, 0))).setRow w3.heap.size (wayCs (p + 1) y)) = w4 at hC3 hW3 ⊢
  generalize w3.heap.size = B3 at hC3 hW3 lt3 ⊢
  go_upto_region 3 with fail
  refine wp_float (C := Blk w [(B3, .cells (wayCs (p + 1) y) 150 (0, 0)), (w.heap.size, .cells (wayCs p y) 150 (0, 0)), (w.heap.size + 1, .cells #[vI vK c, vI vK d, vI vK s, .bool r, vI vK o, vI vK n] 49 (0, 0))]) (n0 := w.heap.size) 4 [] [] (by kernel_rfl) (by kernel_rfl) (fun d _ _ _ _ h => by cases d <;> exact h) (Blk.stable _ _) (Blk.room0 _ _) hC3.drew trivial ?_
  simp only [List.take_succ_cons, List.take_zero, List.drop_succ_cons, List.drop_zero, List.length_nil, Nat.reduceAdd]
  repeat (first
    | (refine wpQ_skip (by rfl) ?_; simp only [Act.put, siA, scZ, scS])
    | (refine wpQ_yield (by rfl) (v := ?_) ?_ ?_; rotate_left; (intro w2 hC; have yW : WayAt _ w.heap.size _ _ := (hC.2 _ (mcO _ mcS)); have ylt := yW.lt; obtain ⟨p0, p1, p2, p3, p4, p5, ltS⟩ := row6 (hC.2 _ (mcO _ (mcO _ mcS))); go_simp; try with_reducible rfl); simp only [Act.put, siA, scZ, scS])
    | (refine wpQ_enter (by rfl) ?_; apply Exists.intro; refine ⟨fun w2 hC => ?_, ?_⟩; (have yW : WayAt _ w.heap.size _ _ := (hC.2 _ (mcO _ mcS)); have ylt := yW.lt; obtain ⟨p0, p1, p2, p3, p4, p5, ltS⟩ := row6 (hC.2 _ (mcO _ (mcO _ mcS))); go_simp; apply qb_enter; first | (go_at_call 180; exact ((opp_is c hc w2).mono fun _ _ h => ⟨h.1, h.2 ▸ bF _ _⟩))); simp only [Act.put, siA, scZ, scS]))
  refine wpQ_nil ?_
  intro w5 hC hB5
  (refine wpList_callOf rfl 179 #[.pointer (some ⟨B3, 0, none⟩), .agg #[vI vK c, vI vK d, vI vK s, .bool r, vI vK o, vI vK n], vI vK (oppV c)] (by go_simp; try rfl) (.bool b1) (HN1.out w5 B3 (hC.2 _ mcS)) ?_)
  intro w6 hq
  obtain ⟨hk6, hW6⟩ := hq
  simp only [Act.put, siA, scZ, scS]
  have hC6 := (Blk.more (F' := [(w.heap.size, .cells (wayCs p y) 150 (0, 0)), (w.heap.size + 1, .cells #[vI vK c, vI vK d, vI vK s, .bool r, vI vK o, vI vK n] 49 (0, 0))]) hC (by intro x hx; simp at hx ⊢; rcases hx with rfl | rfl <;> simp)).grown (b := B3) hk6 (fun k e => Nat.le_of_eq (Option.some.inj e)) (by omega) (by simp; omega)
  have sz6 := hC6.lt (mcO _ mcS)
  have hA6 := WaysAt.nil w6 (w.heap.size + 2)
  clear hC hB5 hk6 hC3 hW3
  cases b1
  · go_upto_region 5 with fail
    have sz7 := hC6.lt (mcO _ mcS)
    have yW : WayAt _ w.heap.size _ _ := (hC6.2 _ mcS); have ylt := yW.lt; obtain ⟨p0, p1, p2, p3, p4, p5, ltS⟩ := row6 (hC6.2 _ (mcO _ mcS))
    go_step
    (refine wpList_load_row rfl 150 (.tmp 2) rfl w.heap.size rfl 150 (wayCs p y) (0, 0) _ (hC6.2 _ mcS) Tryz.underlying150 rfl (infoW_of _ _) ?_)
    simp only [Act.put, siA, scZ, scS]
    (refine wpList_valueOf rfl (.pointer (some ⟨w.heap.size + 1, 4, none⟩)) w6 (by go_simp; try rfl) ?_); simp only [Act.put, siA, scZ, scS]
    (refine wpList_valueOf rfl (vI vK o) w6 (by go_simp; try rfl) ?_); simp only [Act.put, siA, scZ, scS]
    (refine wpList_callOf rfl 106 #[.agg (wayCs p y), vI vK o] (by go_simp; try rfl) (.agg (wayCs (p + (1 + o)) y)) (on_any p o y hp0 hp1 ho0 ho1 w6) ?_)
    intro w8 hB
    have hC8 := hC6.later hB
    have hA8 := hA6.later hB
    simp only [Act.put, siA, scZ, scS]
    (refine wpList_valueOf rfl (.pointer (some ⟨w8.heap.size, 0, none⟩)) (w8.alloc (.cells Tryz.zeroCells150 150 (0, 0))) (by go_simp; try rfl) ?_)
    simp only [Act.put, siA, scZ, scS]
    (refine wpList_store_row rfl 150 (.tmp 7) (.tmp 22) rfl w8.heap.size (wayCs (p + (1 + o)) y) rfl rfl 150 _ (heap_alloc_new _ _) (infoW_of _ _) (by first | rw [zeroW_size, wayCs_size] | rw [wayCs_size, wayCs_size]) (wayCs_one _ _) ?_)
    simp only [Act.put]
    have hC9 := hC8.wayRow (p + (1 + o)) y
    have hA9 := WaysAt.off (hA8.alloc (.cells Tryz.zeroCells150 150 (0, 0))) (B := w8.heap.size) (kept_row _ _ (wayCs (p + (1 + o)) y)) (fun k e => Nat.ne_of_lt (hA8.above k e).2)
    have hW9 := hC9.2 _ mcS
    have lt9 := hC8.lt (mcO _ mcS)
    have ab9 := fun k e => (hA8.above k e).2
    clear hC8 hA8 hB hC6 hA6 yW ylt p0 p1 p2 p3 p4 p5 ltS
    generalize ((w8.alloc (.cells Tryz.zeroCells150 150 (0, 0))).setRow w8.heap.size (wayCs (p + (1 + o)) y)) = w9 at hC9 hW9 hA9 ⊢
    generalize w8.heap.size = B9 at hC9 hW9 lt9 ab9 ⊢
    go_upto_region 6 with fail
    have yW : WayAt _ w.heap.size _ _ := (hC9.2 _ (mcO _ mcS)); have ylt := yW.lt; obtain ⟨p0, p1, p2, p3, p4, p5, ltS⟩ := row6 (hC9.2 _ (mcO _ (mcO _ mcS)))
    go_step
    (refine wpList_valueOf rfl (.agg #[vI vK c, vI vK d, vI vK s, .bool r, vI vK o, vI vK n]) w9 (by go_simp; try rfl) ?_); simp only [Act.put, siA, scZ, scS]
    (refine wpList_valueOf rfl (.pointer (some ⟨w.heap.size + 1, 0, none⟩)) w9 (by go_simp; try rfl) ?_); simp only [Act.put, siA, scZ, scS]
    (refine wpList_valueOf rfl (vI vK c) w9 (by go_simp; try rfl) ?_); simp only [Act.put, siA, scZ, scS]
    (refine wpList_callOf rfl 179 #[.pointer (some ⟨B9, 0, none⟩), .agg #[vI vK c, vI vK d, vI vK s, .bool r, vI vK o, vI vK n], vI vK c] (by go_simp; try rfl) (.bool b2) (HN2.out w9 B9 hW9) ?_)
    intro w10 hq
    obtain ⟨hk10, hW10⟩ := hq
    simp only [Act.put, siA, scZ, scS]
    have hC10 := (Blk.more (F' := [(w.heap.size, .cells (wayCs p y) 150 (0, 0)), (w.heap.size + 1, .cells #[vI vK c, vI vK d, vI vK s, .bool r, vI vK o, vI vK n] 49 (0, 0))]) hC9 (by intro x hx; simp at hx ⊢; rcases hx with rfl | rfl <;> simp)).grown (b := B9) hk10 (fun k e => Nat.le_of_eq (Option.some.inj e)) (by omega) (by simp; omega)
    have sz10 := hC10.lt (mcO _ mcS)
    have hA10 := hA9.off hk10 (fun k e => Nat.ne_of_lt (ab9 k e))
    clear hC9 hA9 hW9 hk10 ab9 yW ylt p0 p1 p2 p3 p4 p5 ltS
    cases b2
    · go_wp2_with fail
      go_ret
      exact ⟨_, rfl, by have h := WaysAt.mono hA10 (base' := w.heap.size) (by omega); simpa using h, hC10.1⟩
    · go_upto_region 7 with fail
      go_step
      (refine wpList_valueOf rfl (.slice none 0 0) w10 (by go_simp; try rfl) ?_); simp only [Act.put, siA, scZ, scS]
      (refine wpList_load_row rfl 150 (.tmp 7) rfl B9 rfl 150 (wayCs (p + (1 + o)) y2) (0, 0) _ hW10 Tryz.underlying150 rfl (infoW_of _ _) ?_)
      refine wpList_ways1 rfl (.tmp 28) (p + (1 + o)) y2 rfl rfl ?_
      simp only [Act.put, siA, scZ, scS]
      refine wpList_snoc rfl (.tmp 27) (.tmp 29) rfl (w.heap.size + 2) (.slice none 0 0) [] rfl hA10 (p + (1 + o)) y2 rfl (by simp) (by omega) ?_
      intro v11 w11 hA11 hgw11
      have hC11 := hC10.grown (b := w.heap.size + 2) hgw11 (fun k e => (hA10.above k e).1) (by omega) (by simp)
      simp only [List.nil_append] at hA11
      simp only [Act.put, siA, scZ, scS]
      go_wp2_with fail
      go_ret
      exact ⟨_, rfl, by have h := WaysAt.mono hA11 (base' := w.heap.size) (by omega); simpa using h, hC11.1⟩
  · go_upto_region 4 with fail
    go_step
    (refine wpList_valueOf rfl (.slice none 0 0) w6 (by go_simp; try rfl) ?_); simp only [Act.put, siA, scZ, scS]
    (refine wpList_load_row rfl 150 (.tmp 6) rfl B3 rfl 150 (wayCs (p + 1) y1) (0, 0) _ hW6 Tryz.underlying150 rfl (infoW_of _ _) ?_)
    refine wpList_ways1 rfl (.tmp 16) (p + 1) y1 rfl rfl ?_
    simp only [Act.put, siA, scZ, scS]
    refine wpList_snoc rfl (.tmp 15) (.tmp 17) rfl (w.heap.size + 2) (.slice none 0 0) [] rfl hA6 (p + 1) y1 rfl (by simp) (by omega) ?_
    intro v7 w7 hA7 hgw7
    have hC7 := hC6.grown (b := w.heap.size + 2) hgw7 (fun k e => (hA6.above k e).1) (by omega) (by simp)
    simp only [List.nil_append] at hA7
    simp only [Act.put, siA, scZ, scS]
    clear hC6 hA6 hW6 hgw7
    go_upto_region 5 with fail
    have sz7 := hC7.lt (mcO _ mcS)
    have yW : WayAt _ w.heap.size _ _ := (hC7.2 _ mcS); have ylt := yW.lt; obtain ⟨p0, p1, p2, p3, p4, p5, ltS⟩ := row6 (hC7.2 _ (mcO _ mcS))
    go_step
    (refine wpList_load_row rfl 150 (.tmp 2) rfl w.heap.size rfl 150 (wayCs p y) (0, 0) _ (hC7.2 _ mcS) Tryz.underlying150 rfl (infoW_of _ _) ?_)
    simp only [Act.put, siA, scZ, scS]
    (refine wpList_valueOf rfl (.pointer (some ⟨w.heap.size + 1, 4, none⟩)) w7 (by go_simp; try rfl) ?_); simp only [Act.put, siA, scZ, scS]
    (refine wpList_valueOf rfl (vI vK o) w7 (by go_simp; try rfl) ?_); simp only [Act.put, siA, scZ, scS]
    (refine wpList_callOf rfl 106 #[.agg (wayCs p y), vI vK o] (by go_simp; try rfl) (.agg (wayCs (p + (1 + o)) y)) (on_any p o y hp0 hp1 ho0 ho1 w7) ?_)
    intro w8 hB
    have hC8 := hC7.later hB
    have hA8 := hA7.later hB
    simp only [Act.put, siA, scZ, scS]
    (refine wpList_valueOf rfl (.pointer (some ⟨w8.heap.size, 0, none⟩)) (w8.alloc (.cells Tryz.zeroCells150 150 (0, 0))) (by go_simp; try rfl) ?_)
    simp only [Act.put, siA, scZ, scS]
    (refine wpList_store_row rfl 150 (.tmp 7) (.tmp 22) rfl w8.heap.size (wayCs (p + (1 + o)) y) rfl rfl 150 _ (heap_alloc_new _ _) (infoW_of _ _) (by first | rw [zeroW_size, wayCs_size] | rw [wayCs_size, wayCs_size]) (wayCs_one _ _) ?_)
    simp only [Act.put]
    have hC9 := hC8.wayRow (p + (1 + o)) y
    have hA9 := WaysAt.off (hA8.alloc (.cells Tryz.zeroCells150 150 (0, 0))) (B := w8.heap.size) (kept_row _ _ (wayCs (p + (1 + o)) y)) (fun k e => Nat.ne_of_lt (hA8.above k e).2)
    have hW9 := hC9.2 _ mcS
    have lt9 := hC8.lt (mcO _ mcS)
    have ab9 := fun k e => (hA8.above k e).2
    clear hC8 hA8 hB hC7 hA7 yW ylt p0 p1 p2 p3 p4 p5 ltS
    generalize ((w8.alloc (.cells Tryz.zeroCells150 150 (0, 0))).setRow w8.heap.size (wayCs (p + (1 + o)) y)) = w9 at hC9 hW9 hA9 ⊢
    generalize w8.heap.size = B9 at hC9 hW9 lt9 ab9 ⊢
    go_upto_region 6 with fail
    have yW : WayAt _ w.heap.size _ _ := (hC9.2 _ (mcO _ mcS)); have ylt := yW.lt; obtain ⟨p0, p1, p2, p3, p4, p5, ltS⟩ := row6 (hC9.2 _ (mcO _ (mcO _ mcS)))
    go_step
    (refine wpList_valueOf rfl (.agg #[vI vK c, vI vK d, vI vK s, .bool r, vI vK o, vI vK n]) w9 (by go_simp; try rfl) ?_); simp only [Act.put, siA, scZ, scS]
    (refine wpList_valueOf rfl (.pointer (some ⟨w.heap.size + 1, 0, none⟩)) w9 (by go_simp; try rfl) ?_); simp only [Act.put, siA, scZ, scS]
    (refine wpList_valueOf rfl (vI vK c) w9 (by go_simp; try rfl) ?_); simp only [Act.put, siA, scZ, scS]
    (refine wpList_callOf rfl 179 #[.pointer (some ⟨B9, 0, none⟩), .agg #[vI vK c, vI vK d, vI vK s, .bool r, vI vK o, vI vK n], vI vK c] (by go_simp; try rfl) (.bool b2) (HN2.out w9 B9 hW9) ?_)
    intro w10 hq
    obtain ⟨hk10, hW10⟩ := hq
    simp only [Act.put, siA, scZ, scS]
    have hC10 := (Blk.more (F' := [(w.heap.size, .cells (wayCs p y) 150 (0, 0)), (w.heap.size + 1, .cells #[vI vK c, vI vK d, vI vK s, .bool r, vI vK o, vI vK n] 49 (0, 0))]) hC9 (by intro x hx; simp at hx ⊢; rcases hx with rfl | rfl <;> simp)).grown (b := B9) hk10 (fun k e => Nat.le_of_eq (Option.some.inj e)) (by omega) (by simp; omega)
    have sz10 := hC10.lt (mcO _ mcS)
    have hA10 := hA9.off hk10 (fun k e => Nat.ne_of_lt (ab9 k e))
    clear hC9 hA9 hW9 hk10 ab9 yW ylt p0 p1 p2 p3 p4 p5 ltS
    cases b2
    · go_wp2_with fail
      go_ret
      exact ⟨_, rfl, by have h := WaysAt.mono hA10 (base' := w.heap.size) (by omega); simpa using h, hC10.1⟩
    · go_upto_region 7 with fail
      go_step
      (refine wpList_valueOf rfl v7 w10 (by go_simp; try rfl) ?_); simp only [Act.put, siA, scZ, scS]
      (refine wpList_load_row rfl 150 (.tmp 7) rfl B9 rfl 150 (wayCs (p + (1 + o)) y2) (0, 0) _ hW10 Tryz.underlying150 rfl (infoW_of _ _) ?_)
      refine wpList_ways1 rfl (.tmp 28) (p + (1 + o)) y2 rfl rfl ?_
      simp only [Act.put, siA, scZ, scS]
      refine wpList_snoc rfl (.tmp 27) (.tmp 29) rfl (w.heap.size + 2) v7 [((p + 1), y1)] rfl hA10 (p + (1 + o)) y2 rfl (by simp) (by omega) ?_
      intro v11 w11 hA11 hgw11
      have hC11 := hC10.grown (b := w.heap.size + 2) hgw11 (fun k e => (hA10.above k e).1) (by omega) (by simp)
      simp only [List.nil_append, List.cons_append] at hA11
      simp only [Act.put, siA, scZ, scS]
      go_wp2_with fail
      go_ret
      exact ⟨_, rfl, by have h := WaysAt.mono hA11 (base' := w.heap.size) (by omega); simpa using h, hC11.1⟩
end Go.Proofs.YtednmkhdehlojaaGreatDoor
