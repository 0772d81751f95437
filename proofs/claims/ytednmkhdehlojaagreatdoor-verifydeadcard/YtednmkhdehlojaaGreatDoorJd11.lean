/-
  What package verify's reach returns: which words, or slots, a place leads to. Conditions: the ends are of 64 bits, in order. What package verify's begin and on return: a way at its first step, a way further on. Conditions: the steps are of 64 bits. What package verify's makes, second and change do. Conditions: the ends are of 64 bits, in order. What package verify's joined returns: the least bound that has all that others have. Conditions: the list's cells hold them. What package verify's kept returns: what one slot has, or what several have. Conditions: the slots are there.
-/
import Derived.Test.YtednmkhdehlojaaGreatDoorJd10
import Derived.Test.YtednmkhdehlojaaGreatDoorJd9
import Derived.Test.YtednmkhdehlojaaGreatDoorJd2
import Derived.Test.YtednmkhdehlojaaGreatDoorJd5
import Derived.LoopN
open Go.Value renaming int → vI
open Go.IntKind renaming i64 → vK
open Go.RowKit.Below renaming alloc → bA, setCell → bS, drew → bD, refl → bF
set_option maxHeartbeats 4000000
set_option maxRecDepth 1000000
namespace Go.Proofs.YtednmkhdehlojaaGreatDoor
open Go.ChangeShapes Go.WideShapes Go.ChangeAt Go.RowKit
attribute [local simp] drew_size drewN_size setCell_size
theorem vreach_none (k l h o : Int) (x0 : (k == 0) = true) (w : World) : Calls Tryz.prog 149 #[.agg #[vI vK k, vI vK l, vI vK h], vI vK o] w fun e w' => e = .returned (.tuple #[.agg #[vI vK 0, vI vK 0], vI vK 8]) ∧ Below w.heap.size w w' := by
  go_enter Tryz.func149, Tryz.ntmps149
  go_wp2_with fail
  exact bodyPost_ret (v := .tuple #[.agg #[vI vK 0, vI vK 0], vI vK 8]) (by simp [results, Tryz.results149, go_sem, *]) rfl ⟨rfl, (by repeat' first | with_reducible (first | exact hbw | exact hbw1 | exact bF _ _ | refine bA ?_ ?_ _ | refine bS ?_ ?_ _ | refine bD ?_) | ((try dsimp only); omega) | (simp; done) | (simp; omega))⟩
theorem vreach_arg (k l h o : Int) (x0 : (k == 0) = false) (HP : Hid (isPlaceB k = false)) (w : World) : Calls Tryz.prog 149 #[.agg #[vI vK k, vI vK l, vI vK h], vI vK o] w fun e w' => e = .returned (.tuple #[.agg #[vI vK 0, vI vK 0], vI vK 1]) ∧ Below w.heap.size w w' := by
  have hK0 : Blk w [(w.heap.size, .cells #[vI vK k, vI vK l, vI vK h] 146 (0, 0)), (w.heap.size + 1, .cells #[vI vK 0, vI vK 0] 43 (0, 0))] ((w.alloc (.cells #[vI vK k, vI vK l, vI vK h] 146)).alloc (.cells #[vI vK 0, vI vK 0] 43)) := (((Blk.nil ((((bF _ _).alloc (Nat.le_refl _) _).alloc (by simp) _))).cons (heap_alloc2_new _ _ _)).cons (by rw [Below.heap_alloc _ _ _ (by simp)]; exact heap_alloc_new _ _))
  go_enter Tryz.func149, Tryz.ntmps149
  go_wp2_with (first
    | (go_at_call 181; go_must (refine (isPlace_any k l h _).mono ?_; rintro e w1 ⟨rfl, hb1⟩; rw [HP.out]; have hK1 := hK0.later hb1; have hbw1 := hK1.1; obtain ⟨c0, c1, c2, -, -, -, lt0⟩ := row3 (hK1.2 _ (mcS)); obtain ⟨r0, r1, f0, f1, lt1⟩ := row2 (hK1.2 _ (mcO _ mcS))))
    | fail)
  exact bodyPost_ret (v := .tuple #[.agg #[vI vK 0, vI vK 0], vI vK 1]) (by simp [results, Tryz.results149, go_sem, *]) rfl ⟨rfl, (by repeat' first | with_reducible (first | exact hbw | exact hbw1 | exact bF _ _ | refine bA ?_ ?_ _ | refine bS ?_ ?_ _ | refine bD ?_) | ((try dsimp only); omega) | (simp; done) | (simp; omega))⟩
theorem vreach_out1 (k l h o : Int) (x0 : (k == 0) = false) (HP : Hid (isPlaceB k = true)) (tl th rl rh : Int) (HD : Hid (∀ W : World, Calls Tryz.prog 182 #[vI vK 2, .agg #[vI vK l, vI vK h], .agg #[vI vK o, vI vK o]] W fun e w' => e = .returned (.agg #[vI vK tl, vI vK th]) ∧ Below W.heap.size W w')) (HR : Hid (∀ W : World, Calls Tryz.prog 183 #[vI vK k] W fun e w' => e = .returned (.agg #[vI vK rl, vI vK rh]) ∧ Below W.heap.size W w')) (jl jh : Int) (hj : ¬ jl = rl) (HJ : Hid (∀ W : World, Calls Tryz.prog 67 #[.agg #[vI vK tl, vI vK th], .agg #[vI vK rl, vI vK rh]] W fun e w' => e = .returned (.agg #[vI vK jl, vI vK jh]) ∧ Below W.heap.size W w')) (w : World) : Calls Tryz.prog 149 #[.agg #[vI vK k, vI vK l, vI vK h], vI vK o] w fun e w' => e = .returned (.tuple #[.agg #[vI vK 0, vI vK 0], vI vK 2]) ∧ Below w.heap.size w w' := by
  have hK0 : Blk w [(w.heap.size, .cells #[vI vK k, vI vK l, vI vK h] 146 (0, 0)), (w.heap.size + 1, .cells #[vI vK 0, vI vK 0] 43 (0, 0))] ((w.alloc (.cells #[vI vK k, vI vK l, vI vK h] 146)).alloc (.cells #[vI vK 0, vI vK 0] 43)) := (((Blk.nil ((((bF _ _).alloc (Nat.le_refl _) _).alloc (by simp) _))).cons (heap_alloc2_new _ _ _)).cons (by rw [Below.heap_alloc _ _ _ (by simp)]; exact heap_alloc_new _ _))
  go_enter Tryz.func149, Tryz.ntmps149
  go_wp2_with (first
    | (go_at_call 181; go_must (refine (isPlace_any k l h _).mono ?_; rintro e w1 ⟨rfl, hb1⟩; rw [HP.out]; have hK1 := hK0.later hb1; have hbw1 := hK1.1; obtain ⟨c0, c1, c2, -, -, -, lt0⟩ := row3 (hK1.2 _ (mcS)); obtain ⟨r0, r1, f0, f1, lt1⟩ := row2 (hK1.2 _ (mcO _ mcS))))
    | fail)
  refine wp_float (C := Blk w [(w.heap.size, .cells #[vI vK k, vI vK l, vI vK h] 146 (0, 0)), (w.heap.size + 1, .cells #[vI vK 0, vI vK 0] 43 (0, 0))]) (n0 := w.heap.size + 1 + 1) 8 [] [.cells #[vI vK 0, vI vK 0] 43 (0, 0), .cells #[vI vK 0, vI vK 0] 43 (0, 0)] (by kernel_rfl) (by kernel_rfl) (fun d _ _ _ _ h => by cases d <;> exact h) (Blk.stable _ _) (Blk.room w (mcO _ mcS)) hK1.drew ⟨⟨rfl, fun a w2 hC => by go_simp; try rfl⟩, ⟨rfl, fun a w2 hC => by go_simp; try rfl⟩, trivial⟩ ?_
  simp only [List.take_succ_cons, List.take_zero, List.drop_succ_cons, List.drop_zero, List.length_cons, List.length_nil, Nat.reduceAdd]
  repeat (first
    | (refine wpQ_skip (by rfl) ?_; simp only [Act.put, siA, scZ, scS])
    | (refine wpQ_yield (by rfl) (v := ?_) ?_ ?_; rotate_left; (intro w2 hC; obtain ⟨c0, c1, c2, -, -, -, lt0⟩ := row3 (hC.2 _ (mcS)); obtain ⟨r0, r1, f0, f1, lt1⟩ := row2 (hC.2 _ (mcO _ mcS)); go_simp; try with_reducible rfl); simp only [Act.put, siA, scZ, scS])
    | (refine wpQ_enter (by rfl) ?_; apply Exists.intro; refine ⟨fun w2 hC => ?_, ?_⟩; (obtain ⟨c0, c1, c2, -, -, -, lt0⟩ := row3 (hC.2 _ (mcS)); obtain ⟨r0, r1, f0, f1, lt1⟩ := row2 (hC.2 _ (mcO _ mcS)); go_simp; apply qb_enter; first | (go_at_call 37; exact one_is _ w2) | (go_at_call 182; exact HD.out w2) | (go_at_call 183; exact HR.out w2)); simp only [Act.put, siA, scZ, scS]))
  refine wpQ_nil ?_
  intro L h6 g6 K h7 g7 w3 hC hB
  have hne : K ≠ L := (FB.upd_none h7).1
  have hne' : L ≠ K := fun e => hne e.symm
  have bK := hB K _ (FB.at_new _ _ _)
  have bL := hB L _ (FB.at_old hne' (FB.at_new _ _ _))
  obtain ⟨p0, p1, pf0, pf1, ltL⟩ := row2 bL
  obtain ⟨q0, q1, qf0, qf1, ltK⟩ := row2 bK
  have hK3 := hC
  clear c0 c1 c2 lt0 r0 r1 f0 f1 lt1 hB h6 h7 hK0 hb1 hbw1 hK1
  obtain ⟨c0, c1, c2, -, -, -, lt0⟩ := row3 (hC.2 _ (mcS)); obtain ⟨r0, r1, f0, f1, lt1⟩ := row2 (hC.2 _ (mcO _ mcS))
  have g6' : w.heap.size ≠ L := by omega
  have g7' : w.heap.size ≠ K := by omega
  have g8' : w.heap.size + 1 ≠ L := by omega
  have g9' : w.heap.size + 1 ≠ K := by omega
  simp only [ptrTo]
  go_wp2_with fail
  have hK6 : Blk w [(w.heap.size, .cells #[vI vK k, vI vK l, vI vK h] 146 (0, 0)), (w.heap.size + 1, .cells #[vI vK 0, vI vK 0] 43 (0, 0)), (L, .cells #[vI vK tl, vI vK th] 43 (0, 0)), (K, .cells #[vI vK rl, vI vK rh] 43 (0, 0))] _ := ((((Blk.nil (((((hC.1.setCell (by show _ ≤ L; omega) _).setCell (by show _ ≤ L; omega) _).setCell (by show _ ≤ K; omega) _).setCell (by show _ ≤ K; omega) _))).cons (put2 (off2 bK hne))).cons (off2 (put2 bL) hne')).cons (off2 (off2 (hC.2 _ (mcO _ mcS)) g8') g9')).cons (off2 (off2 (hC.2 _ mcS) g6') g7')
  clear c0 c1 c2 lt0 r0 r1 f0 f1 lt1 p0 p1 pf0 pf1 q0 q1 qf0 qf1 hC bK bL hK3
  refine wp_float (C := Blk w [(w.heap.size, .cells #[vI vK k, vI vK l, vI vK h] 146 (0, 0)), (w.heap.size + 1, .cells #[vI vK 0, vI vK 0] 43 (0, 0)), (L, .cells #[vI vK tl, vI vK th] 43 (0, 0)), (K, .cells #[vI vK rl, vI vK rh] 43 (0, 0))]) (n0 := w.heap.size) 4 [] [] (by kernel_rfl) (by kernel_rfl) (fun d _ _ _ _ h => by cases d <;> exact h) (Blk.stable _ _) (Blk.room0 _ _) hK6.drew trivial ?_
  simp only [List.take_succ_cons, List.take_zero, List.drop_succ_cons, List.drop_zero, List.length_nil, Nat.reduceAdd]
  repeat (first
    | (refine wpQ_skip (by rfl) ?_; simp only [Act.put, siA, scZ, scS])
    | (refine wpQ_yield (by rfl) (v := ?_) ?_ ?_; rotate_left; (intro w2 hC; obtain ⟨c0, c1, c2, -, -, -, lt0⟩ := row3 (hC.2 _ mcS); obtain ⟨r0, r1, f0, f1, lt1⟩ := row2 (hC.2 _ (mcO _ mcS)); obtain ⟨t0, t1, -, -, lt2⟩ := row2 (hC.2 _ (mcO _ (mcO _ mcS))); obtain ⟨s0, s1, -, -, lt3⟩ := row2 (hC.2 _ (mcO _ (mcO _ (mcO _ mcS)))); go_simp; try with_reducible rfl); simp only [Act.put, siA, scZ, scS])
    | (refine wpQ_enter (by rfl) ?_; apply Exists.intro; refine ⟨fun w2 hC => ?_, ?_⟩; (obtain ⟨c0, c1, c2, -, -, -, lt0⟩ := row3 (hC.2 _ mcS); obtain ⟨r0, r1, f0, f1, lt1⟩ := row2 (hC.2 _ (mcO _ mcS)); obtain ⟨t0, t1, -, -, lt2⟩ := row2 (hC.2 _ (mcO _ (mcO _ mcS))); obtain ⟨s0, s1, -, -, lt3⟩ := row2 (hC.2 _ (mcO _ (mcO _ (mcO _ mcS)))); go_simp; apply qb_enter; first | (go_at_call 67; exact HJ.out w2)); simp only [Act.put, siA, scZ, scS]))
  refine wpQ_nil ?_
  intro w4 hC hB
  clear hB
  obtain ⟨c0, c1, c2, -, -, -, lt0⟩ := row3 (hC.2 _ mcS); obtain ⟨r0, r1, f0, f1, lt1⟩ := row2 (hC.2 _ (mcO _ mcS)); obtain ⟨t0, t1, -, -, lt2⟩ := row2 (hC.2 _ (mcO _ (mcO _ mcS))); obtain ⟨s0, s1, -, -, lt3⟩ := row2 (hC.2 _ (mcO _ (mcO _ (mcO _ mcS))))
  have hbw := hC.1
  go_wp2_with fail
  exact bodyPost_ret (v := .tuple #[.agg #[vI vK 0, vI vK 0], vI vK 2]) (by simp [results, Tryz.results149, go_sem, *]) rfl ⟨rfl, (by repeat' first | with_reducible (first | exact hbw | exact hbw1 | exact bF _ _ | refine bA ?_ ?_ _ | refine bS ?_ ?_ _ | refine bD ?_) | ((try dsimp only); omega) | (simp; done) | (simp; omega))⟩
theorem vreach_out2 (k l h o : Int) (x0 : (k == 0) = false) (HP : Hid (isPlaceB k = true)) (tl th rl rh : Int) (HD : Hid (∀ W : World, Calls Tryz.prog 182 #[vI vK 2, .agg #[vI vK l, vI vK h], .agg #[vI vK o, vI vK o]] W fun e w' => e = .returned (.agg #[vI vK tl, vI vK th]) ∧ Below W.heap.size W w')) (HR : Hid (∀ W : World, Calls Tryz.prog 183 #[vI vK k] W fun e w' => e = .returned (.agg #[vI vK rl, vI vK rh]) ∧ Below W.heap.size W w')) (jh : Int) (hj : ¬ jh = rh) (HJ : Hid (∀ W : World, Calls Tryz.prog 67 #[.agg #[vI vK tl, vI vK th], .agg #[vI vK rl, vI vK rh]] W fun e w' => e = .returned (.agg #[vI vK rl, vI vK jh]) ∧ Below W.heap.size W w')) (w : World) : Calls Tryz.prog 149 #[.agg #[vI vK k, vI vK l, vI vK h], vI vK o] w fun e w' => e = .returned (.tuple #[.agg #[vI vK 0, vI vK 0], vI vK 2]) ∧ Below w.heap.size w w' := by
  have hK0 : Blk w [(w.heap.size, .cells #[vI vK k, vI vK l, vI vK h] 146 (0, 0)), (w.heap.size + 1, .cells #[vI vK 0, vI vK 0] 43 (0, 0))] ((w.alloc (.cells #[vI vK k, vI vK l, vI vK h] 146)).alloc (.cells #[vI vK 0, vI vK 0] 43)) := (((Blk.nil ((((bF _ _).alloc (Nat.le_refl _) _).alloc (by simp) _))).cons (heap_alloc2_new _ _ _)).cons (by rw [Below.heap_alloc _ _ _ (by simp)]; exact heap_alloc_new _ _))
  go_enter Tryz.func149, Tryz.ntmps149
  go_wp2_with (first
    | (go_at_call 181; go_must (refine (isPlace_any k l h _).mono ?_; rintro e w1 ⟨rfl, hb1⟩; rw [HP.out]; have hK1 := hK0.later hb1; have hbw1 := hK1.1; obtain ⟨c0, c1, c2, -, -, -, lt0⟩ := row3 (hK1.2 _ (mcS)); obtain ⟨r0, r1, f0, f1, lt1⟩ := row2 (hK1.2 _ (mcO _ mcS))))
    | fail)
  refine wp_float (C := Blk w [(w.heap.size, .cells #[vI vK k, vI vK l, vI vK h] 146 (0, 0)), (w.heap.size + 1, .cells #[vI vK 0, vI vK 0] 43 (0, 0))]) (n0 := w.heap.size + 1 + 1) 8 [] [.cells #[vI vK 0, vI vK 0] 43 (0, 0), .cells #[vI vK 0, vI vK 0] 43 (0, 0)] (by kernel_rfl) (by kernel_rfl) (fun d _ _ _ _ h => by cases d <;> exact h) (Blk.stable _ _) (Blk.room w (mcO _ mcS)) hK1.drew ⟨⟨rfl, fun a w2 hC => by go_simp; try rfl⟩, ⟨rfl, fun a w2 hC => by go_simp; try rfl⟩, trivial⟩ ?_
  simp only [List.take_succ_cons, List.take_zero, List.drop_succ_cons, List.drop_zero, List.length_cons, List.length_nil, Nat.reduceAdd]
  repeat (first
    | (refine wpQ_skip (by rfl) ?_; simp only [Act.put, siA, scZ, scS])
    | (refine wpQ_yield (by rfl) (v := ?_) ?_ ?_; rotate_left; (intro w2 hC; obtain ⟨c0, c1, c2, -, -, -, lt0⟩ := row3 (hC.2 _ (mcS)); obtain ⟨r0, r1, f0, f1, lt1⟩ := row2 (hC.2 _ (mcO _ mcS)); go_simp; try with_reducible rfl); simp only [Act.put, siA, scZ, scS])
    | (refine wpQ_enter (by rfl) ?_; apply Exists.intro; refine ⟨fun w2 hC => ?_, ?_⟩; (obtain ⟨c0, c1, c2, -, -, -, lt0⟩ := row3 (hC.2 _ (mcS)); obtain ⟨r0, r1, f0, f1, lt1⟩ := row2 (hC.2 _ (mcO _ mcS)); go_simp; apply qb_enter; first | (go_at_call 37; exact one_is _ w2) | (go_at_call 182; exact HD.out w2) | (go_at_call 183; exact HR.out w2)); simp only [Act.put, siA, scZ, scS]))
  refine wpQ_nil ?_
  intro L h6 g6 K h7 g7 w3 hC hB
  have hne : K ≠ L := (FB.upd_none h7).1
  have hne' : L ≠ K := fun e => hne e.symm
  have bK := hB K _ (FB.at_new _ _ _)
  have bL := hB L _ (FB.at_old hne' (FB.at_new _ _ _))
  obtain ⟨p0, p1, pf0, pf1, ltL⟩ := row2 bL
  obtain ⟨q0, q1, qf0, qf1, ltK⟩ := row2 bK
  have hK3 := hC
  clear c0 c1 c2 lt0 r0 r1 f0 f1 lt1 hB h6 h7 hK0 hb1 hbw1 hK1
  obtain ⟨c0, c1, c2, -, -, -, lt0⟩ := row3 (hC.2 _ (mcS)); obtain ⟨r0, r1, f0, f1, lt1⟩ := row2 (hC.2 _ (mcO _ mcS))
  have g6' : w.heap.size ≠ L := by omega
  have g7' : w.heap.size ≠ K := by omega
  have g8' : w.heap.size + 1 ≠ L := by omega
  have g9' : w.heap.size + 1 ≠ K := by omega
  simp only [ptrTo]
  go_wp2_with fail
  have hK6 : Blk w [(w.heap.size, .cells #[vI vK k, vI vK l, vI vK h] 146 (0, 0)), (w.heap.size + 1, .cells #[vI vK 0, vI vK 0] 43 (0, 0)), (L, .cells #[vI vK tl, vI vK th] 43 (0, 0)), (K, .cells #[vI vK rl, vI vK rh] 43 (0, 0))] _ := ((((Blk.nil (((((hC.1.setCell (by show _ ≤ L; omega) _).setCell (by show _ ≤ L; omega) _).setCell (by show _ ≤ K; omega) _).setCell (by show _ ≤ K; omega) _))).cons (put2 (off2 bK hne))).cons (off2 (put2 bL) hne')).cons (off2 (off2 (hC.2 _ (mcO _ mcS)) g8') g9')).cons (off2 (off2 (hC.2 _ mcS) g6') g7')
  clear c0 c1 c2 lt0 r0 r1 f0 f1 lt1 p0 p1 pf0 pf1 q0 q1 qf0 qf1 hC bK bL hK3
  refine wp_float (C := Blk w [(w.heap.size, .cells #[vI vK k, vI vK l, vI vK h] 146 (0, 0)), (w.heap.size + 1, .cells #[vI vK 0, vI vK 0] 43 (0, 0)), (L, .cells #[vI vK tl, vI vK th] 43 (0, 0)), (K, .cells #[vI vK rl, vI vK rh] 43 (0, 0))]) (n0 := w.heap.size) 4 [] [] (by kernel_rfl) (by kernel_rfl) (fun d _ _ _ _ h => by cases d <;> exact h) (Blk.stable _ _) (Blk.room0 _ _) hK6.drew trivial ?_
  simp only [List.take_succ_cons, List.take_zero, List.drop_succ_cons, List.drop_zero, List.length_nil, Nat.reduceAdd]
  repeat (first
    | (refine wpQ_skip (by rfl) ?_; simp only [Act.put, siA, scZ, scS])
    | (refine wpQ_yield (by rfl) (v := ?_) ?_ ?_; rotate_left; (intro w2 hC; obtain ⟨c0, c1, c2, -, -, -, lt0⟩ := row3 (hC.2 _ mcS); obtain ⟨r0, r1, f0, f1, lt1⟩ := row2 (hC.2 _ (mcO _ mcS)); obtain ⟨t0, t1, -, -, lt2⟩ := row2 (hC.2 _ (mcO _ (mcO _ mcS))); obtain ⟨s0, s1, -, -, lt3⟩ := row2 (hC.2 _ (mcO _ (mcO _ (mcO _ mcS)))); go_simp; try with_reducible rfl); simp only [Act.put, siA, scZ, scS])
    | (refine wpQ_enter (by rfl) ?_; apply Exists.intro; refine ⟨fun w2 hC => ?_, ?_⟩; (obtain ⟨c0, c1, c2, -, -, -, lt0⟩ := row3 (hC.2 _ mcS); obtain ⟨r0, r1, f0, f1, lt1⟩ := row2 (hC.2 _ (mcO _ mcS)); obtain ⟨t0, t1, -, -, lt2⟩ := row2 (hC.2 _ (mcO _ (mcO _ mcS))); obtain ⟨s0, s1, -, -, lt3⟩ := row2 (hC.2 _ (mcO _ (mcO _ (mcO _ mcS)))); go_simp; apply qb_enter; first | (go_at_call 67; exact HJ.out w2)); simp only [Act.put, siA, scZ, scS]))
  refine wpQ_nil ?_
  intro w4 hC hB
  clear hB
  obtain ⟨c0, c1, c2, -, -, -, lt0⟩ := row3 (hC.2 _ mcS); obtain ⟨r0, r1, f0, f1, lt1⟩ := row2 (hC.2 _ (mcO _ mcS)); obtain ⟨t0, t1, -, -, lt2⟩ := row2 (hC.2 _ (mcO _ (mcO _ mcS))); obtain ⟨s0, s1, -, -, lt3⟩ := row2 (hC.2 _ (mcO _ (mcO _ (mcO _ mcS))))
  have hbw := hC.1
  go_wp2_with fail
  exact bodyPost_ret (v := .tuple #[.agg #[vI vK 0, vI vK 0], vI vK 2]) (by simp [results, Tryz.results149, go_sem, *]) rfl ⟨rfl, (by repeat' first | with_reducible (first | exact hbw | exact hbw1 | exact bF _ _ | refine bA ?_ ?_ _ | refine bS ?_ ?_ _ | refine bD ?_) | ((try dsimp only); omega) | (simp; done) | (simp; omega))⟩
theorem vreach_in (k l h o : Int) (x0 : (k == 0) = false) (HP : Hid (isPlaceB k = true)) (tl th rl rh : Int) (HD : Hid (∀ W : World, Calls Tryz.prog 182 #[vI vK 2, .agg #[vI vK l, vI vK h], .agg #[vI vK o, vI vK o]] W fun e w' => e = .returned (.agg #[vI vK tl, vI vK th]) ∧ Below W.heap.size W w')) (HR : Hid (∀ W : World, Calls Tryz.prog 183 #[vI vK k] W fun e w' => e = .returned (.agg #[vI vK rl, vI vK rh]) ∧ Below W.heap.size W w'))  (HJ : Hid (∀ W : World, Calls Tryz.prog 67 #[.agg #[vI vK tl, vI vK th], .agg #[vI vK rl, vI vK rh]] W fun e w' => e = .returned (.agg #[vI vK rl, vI vK rh]) ∧ Below W.heap.size W w')) (w : World) : Calls Tryz.prog 149 #[.agg #[vI vK k, vI vK l, vI vK h], vI vK o] w fun e w' => e = .returned (.tuple #[.agg #[vI vK tl, vI vK th], vI vK 0]) ∧ Below w.heap.size w w' := by
  have hK0 : Blk w [(w.heap.size, .cells #[vI vK k, vI vK l, vI vK h] 146 (0, 0)), (w.heap.size + 1, .cells #[vI vK 0, vI vK 0] 43 (0, 0))] ((w.alloc (.cells #[vI vK k, vI vK l, vI vK h] 146)).alloc (.cells #[vI vK 0, vI vK 0] 43)) := (((Blk.nil ((((bF _ _).alloc (Nat.le_refl _) _).alloc (by simp) _))).cons (heap_alloc2_new _ _ _)).cons (by rw [Below.heap_alloc _ _ _ (by simp)]; exact heap_alloc_new _ _))
  go_enter Tryz.func149, Tryz.ntmps149
  go_wp2_with (first
    | (go_at_call 181; go_must (refine (isPlace_any k l h _).mono ?_; rintro e w1 ⟨rfl, hb1⟩; rw [HP.out]; have hK1 := hK0.later hb1; have hbw1 := hK1.1; obtain ⟨c0, c1, c2, -, -, -, lt0⟩ := row3 (hK1.2 _ (mcS)); obtain ⟨r0, r1, f0, f1, lt1⟩ := row2 (hK1.2 _ (mcO _ mcS))))
    | fail)
  refine wp_float (C := Blk w [(w.heap.size, .cells #[vI vK k, vI vK l, vI vK h] 146 (0, 0)), (w.heap.size + 1, .cells #[vI vK 0, vI vK 0] 43 (0, 0))]) (n0 := w.heap.size + 1 + 1) 8 [] [.cells #[vI vK 0, vI vK 0] 43 (0, 0), .cells #[vI vK 0, vI vK 0] 43 (0, 0)] (by kernel_rfl) (by kernel_rfl) (fun d _ _ _ _ h => by cases d <;> exact h) (Blk.stable _ _) (Blk.room w (mcO _ mcS)) hK1.drew ⟨⟨rfl, fun a w2 hC => by go_simp; try rfl⟩, ⟨rfl, fun a w2 hC => by go_simp; try rfl⟩, trivial⟩ ?_
  simp only [List.take_succ_cons, List.take_zero, List.drop_succ_cons, List.drop_zero, List.length_cons, List.length_nil, Nat.reduceAdd]
  repeat (first
    | (refine wpQ_skip (by rfl) ?_; simp only [Act.put, siA, scZ, scS])
    | (refine wpQ_yield (by rfl) (v := ?_) ?_ ?_; rotate_left; (intro w2 hC; obtain ⟨c0, c1, c2, -, -, -, lt0⟩ := row3 (hC.2 _ (mcS)); obtain ⟨r0, r1, f0, f1, lt1⟩ := row2 (hC.2 _ (mcO _ mcS)); go_simp; try with_reducible rfl); simp only [Act.put, siA, scZ, scS])
    | (refine wpQ_enter (by rfl) ?_; apply Exists.intro; refine ⟨fun w2 hC => ?_, ?_⟩; (obtain ⟨c0, c1, c2, -, -, -, lt0⟩ := row3 (hC.2 _ (mcS)); obtain ⟨r0, r1, f0, f1, lt1⟩ := row2 (hC.2 _ (mcO _ mcS)); go_simp; apply qb_enter; first | (go_at_call 37; exact one_is _ w2) | (go_at_call 182; exact HD.out w2) | (go_at_call 183; exact HR.out w2)); simp only [Act.put, siA, scZ, scS]))
  refine wpQ_nil ?_
  intro L h6 g6 K h7 g7 w3 hC hB
  have hne : K ≠ L := (FB.upd_none h7).1
  have hne' : L ≠ K := fun e => hne e.symm
  have bK := hB K _ (FB.at_new _ _ _)
  have bL := hB L _ (FB.at_old hne' (FB.at_new _ _ _))
  obtain ⟨p0, p1, pf0, pf1, ltL⟩ := row2 bL
  obtain ⟨q0, q1, qf0, qf1, ltK⟩ := row2 bK
  have hK3 := hC
  clear c0 c1 c2 lt0 r0 r1 f0 f1 lt1 hB h6 h7 hK0 hb1 hbw1 hK1
  obtain ⟨c0, c1, c2, -, -, -, lt0⟩ := row3 (hC.2 _ (mcS)); obtain ⟨r0, r1, f0, f1, lt1⟩ := row2 (hC.2 _ (mcO _ mcS))
  have g6' : w.heap.size ≠ L := by omega
  have g7' : w.heap.size ≠ K := by omega
  have g8' : w.heap.size + 1 ≠ L := by omega
  have g9' : w.heap.size + 1 ≠ K := by omega
  simp only [ptrTo]
  go_wp2_with fail
  have hK6 : Blk w [(w.heap.size, .cells #[vI vK k, vI vK l, vI vK h] 146 (0, 0)), (w.heap.size + 1, .cells #[vI vK 0, vI vK 0] 43 (0, 0)), (L, .cells #[vI vK tl, vI vK th] 43 (0, 0)), (K, .cells #[vI vK rl, vI vK rh] 43 (0, 0))] _ := ((((Blk.nil (((((hC.1.setCell (by show _ ≤ L; omega) _).setCell (by show _ ≤ L; omega) _).setCell (by show _ ≤ K; omega) _).setCell (by show _ ≤ K; omega) _))).cons (put2 (off2 bK hne))).cons (off2 (put2 bL) hne')).cons (off2 (off2 (hC.2 _ (mcO _ mcS)) g8') g9')).cons (off2 (off2 (hC.2 _ mcS) g6') g7')
  clear c0 c1 c2 lt0 r0 r1 f0 f1 lt1 p0 p1 pf0 pf1 q0 q1 qf0 qf1 hC bK bL hK3
  refine wp_float (C := Blk w [(w.heap.size, .cells #[vI vK k, vI vK l, vI vK h] 146 (0, 0)), (w.heap.size + 1, .cells #[vI vK 0, vI vK 0] 43 (0, 0)), (L, .cells #[vI vK tl, vI vK th] 43 (0, 0)), (K, .cells #[vI vK rl, vI vK rh] 43 (0, 0))]) (n0 := w.heap.size) 4 [] [] (by kernel_rfl) (by kernel_rfl) (fun d _ _ _ _ h => by cases d <;> exact h) (Blk.stable _ _) (Blk.room0 _ _) hK6.drew trivial ?_
  simp only [List.take_succ_cons, List.take_zero, List.drop_succ_cons, List.drop_zero, List.length_nil, Nat.reduceAdd]
  repeat (first
    | (refine wpQ_skip (by rfl) ?_; simp only [Act.put, siA, scZ, scS])
    | (refine wpQ_yield (by rfl) (v := ?_) ?_ ?_; rotate_left; (intro w2 hC; obtain ⟨c0, c1, c2, -, -, -, lt0⟩ := row3 (hC.2 _ mcS); obtain ⟨r0, r1, f0, f1, lt1⟩ := row2 (hC.2 _ (mcO _ mcS)); obtain ⟨t0, t1, -, -, lt2⟩ := row2 (hC.2 _ (mcO _ (mcO _ mcS))); obtain ⟨s0, s1, -, -, lt3⟩ := row2 (hC.2 _ (mcO _ (mcO _ (mcO _ mcS)))); go_simp; try with_reducible rfl); simp only [Act.put, siA, scZ, scS])
    | (refine wpQ_enter (by rfl) ?_; apply Exists.intro; refine ⟨fun w2 hC => ?_, ?_⟩; (obtain ⟨c0, c1, c2, -, -, -, lt0⟩ := row3 (hC.2 _ mcS); obtain ⟨r0, r1, f0, f1, lt1⟩ := row2 (hC.2 _ (mcO _ mcS)); obtain ⟨t0, t1, -, -, lt2⟩ := row2 (hC.2 _ (mcO _ (mcO _ mcS))); obtain ⟨s0, s1, -, -, lt3⟩ := row2 (hC.2 _ (mcO _ (mcO _ (mcO _ mcS)))); go_simp; apply qb_enter; first | (go_at_call 67; exact HJ.out w2)); simp only [Act.put, siA, scZ, scS]))
  refine wpQ_nil ?_
  intro w4 hC hB
  clear hB
  obtain ⟨c0, c1, c2, -, -, -, lt0⟩ := row3 (hC.2 _ mcS); obtain ⟨r0, r1, f0, f1, lt1⟩ := row2 (hC.2 _ (mcO _ mcS)); obtain ⟨t0, t1, -, -, lt2⟩ := row2 (hC.2 _ (mcO _ (mcO _ mcS))); obtain ⟨s0, s1, -, -, lt3⟩ := row2 (hC.2 _ (mcO _ (mcO _ (mcO _ mcS))))
  have hbw := hC.1
  go_wp2_with fail
  exact bodyPost_ret (v := .tuple #[.agg #[vI vK tl, vI vK th], vI vK 0]) (by simp [results, Tryz.results149, go_sem, *]) rfl ⟨rfl, (by repeat' first | with_reducible (first | exact hbw | exact hbw1 | exact bF _ _ | refine bA ?_ ?_ _ | refine bS ?_ ?_ _ | refine bD ?_) | ((try dsimp only); omega) | (simp; done) | (simp; omega))⟩
theorem vreach_any (x : Kno) (o : Int) (hx : x.Ok) (ho : In64 o) (w : World) : Calls Tryz.prog 149 #[x.v, vI vK o] w fun e w' => e = .returned (.tuple #[.agg #[vI vK (knoReach x o).1.1, vI vK (knoReach x o).1.2], vI vK (knoReach x o).2]) ∧ Below w.heap.size w w' := by
  obtain ⟨k, l, h⟩ := x
  unfold knoReach Kno.v
  by_cases h0 : k = 0
  · rw [if_pos h0]; exact vreach_none k l h o (by simpa using h0) w
  rw [if_neg h0]
  have hk := hx.1
  have hk5 := hx.2.1
  have y0 : (k == 0) = false := by simpa using h0
  by_cases h1 : k = 1 ∨ k = 5
  · rw [if_pos h1]
    have hp : isPlaceB k = false := by
      cases e : isPlaceB k
      · rfl
      · have := (isPlaceB_iff k).1 e; omega
    exact vreach_arg k l h o y0 hp w
  rw [if_neg h1]
  have hp : isPlaceB k = true := (isPlaceB_iff k).2 (by change 0 ≤ k at hk; change k ≤ 5 at hk5; omega)
  have HD := fun W : World => bdo_any 2 l h o o hx.2.2.1.1 hx.2.2.1.2 hx.2.2.2.1.1 hx.2.2.2.1.2 ho.1 ho.2 ho.1 ho.2 hx.2.2.2.2 (Int.le_refl _) W
  have HR := fun W : World => room_any k W
  have eT : knoTo ⟨k, l, h⟩ o = bdV 2 l h o o := rfl
  rw [eT]
  generalize bdV 2 l h o o = t at *
  change ∀ W : World, _ at HR
  obtain ⟨tl, th⟩ := t
  have eR : knoRoom (⟨k, l, h⟩ : Kno).k = knoRoom k := rfl
  rw [eR]
  generalize knoRoom k = r at *
  obtain ⟨rl, rh⟩ := r
  by_cases g1 : tl < rl
  · rw [if_pos (Or.inl g1)]
    exact vreach_out1 k l h o y0 hp tl th rl rh HD HR (min tl rl) (max th rh) (by omega) (fun W => join_is tl th rl rh W) w
  by_cases g2 : rh < th
  · rw [if_pos (Or.inr g2)]
    exact vreach_out2 k l h o y0 hp tl th rl rh HD HR (max th rh) (by omega) (fun W => by have := join_is tl th rl rh W; rw [Int.min_eq_right (by omega)] at this; exact this) w
  · rw [if_neg (by show ¬ (tl < rl ∨ rh < th); omega)]
    exact vreach_in k l h o y0 hp tl th rl rh HD HR (fun W => by have := join_is tl th rl rh W; rw [Int.min_eq_right (by omega), Int.max_eq_right (by omega)] at this; exact this) w
theorem below_setRow {B : Nat} {a w : World} (h : Below B a w) {g : Nat} (hg : B ≤ g) (cs : Array Value) : Below B a (w.setRow g cs) :=
  h.trans ⟨rfl, rfl, rfl, by simp, fun k hk => setRow_other w g k cs (by omega)⟩
theorem zero_way : Tryz.zeroCells150 = wayCs 0 ⟨fun _ => kno0, fun _ => kno0⟩ := by kernel_rfl
theorem zeroW_size : Tryz.zeroCells150.size = 82 := by rw [zero_way, wayCs_size]
theorem on_any (p o : Int) (y : Way) (h0 : 0 ≤ p) (h1 : p ≤ 1000) (h2 : 0 ≤ o) (h3 : o ≤ 1000) (w : World) : Calls Tryz.prog 106 #[.agg (wayCs p y), vI vK o] w fun e w' => e = .returned (.agg (wayCs (p + (1 + o)) y)) ∧ Below w.heap.size w w' := by
  go_enter Tryz.func106, Tryz.ntmps106
  iterate 2 go_step
  go_cut [2, 4] (fun s2 s4 wx => s2 = .pointer (some ⟨w.heap.size, 0, none⟩) ∧ s4 = .pointer (some ⟨w.heap.size + 1, 0, none⟩) ∧ Below w.heap.size w wx ∧ WayAt wx w.heap.size p y ∧ wx.heap[w.heap.size + 1]? = some (.cells Tryz.zeroCells150 150 (0, 0)))
  case first =>
    go_wp2_with fail
    go_meet
    exact ⟨rfl, rfl, (by repeat' first | with_reducible (first | exact bF _ _ | refine bA ?_ ?_ _ | refine bS ?_ ?_ _ | refine below_setRow ?_ ?_ _) | ((try dsimp only); omega) | (simp; done) | (simp; omega)), (WayAt.start w p y).alloc _, heap_alloc2_new _ _ _⟩
  case rest =>
  obtain ⟨rfl, rfl, hbw, hW, hZ⟩ := hcut
  have q0 := hW.step
  have f0 := hW.frozen 0
  have HW : Hid (WayAt wc w.heap.size p y) := hW
  have HZ : Hid (wc.heap[w.heap.size + 1]? = some (.cells Tryz.zeroCells150 150 (0, 0))) := hZ
  clear hW hZ
  go_wp2_with (first
    | (refine wpList_load_row rfl 150 (.tmp 2) rfl w.heap.size rfl 150 (wayCs (p + (1 + o)) y) (0, 0) _ (HW.out.putStep _) Tryz.underlying150 rfl (infoW_of _ _) ?_)
    | (refine wpList_store_row rfl 150 (.tmp 4) (.tmp 11) rfl (w.heap.size + 1) (wayCs (p + (1 + o)) y) rfl rfl 150 Tryz.zeroCells150 ((heap_setCell_other _ _ _ _ (by simp)).trans HZ.out) (infoW_of _ _) (by rw [zeroW_size, wayCs_size]) (wayCs_one _ _) ?_)
    | fail)
  exact bodyPost_ret (v := .agg (wayCs (p + (1 + o)) y)) (way_results1 rfl _ _ (w.heap.size + 1) _ _ rfl (WayAt.setRow (old := Tryz.zeroCells150) ((heap_setCell_other _ _ _ _ (by simp)).trans HZ.out) _ _)) rfl ⟨rfl, (by repeat' first | with_reducible (first | exact hbw | exact bF _ _ | refine bA ?_ ?_ _ | refine bS ?_ ?_ _ | refine below_setRow ?_ ?_ _) | ((try dsimp only); omega) | (simp; done) | (simp; omega))⟩
theorem WayAt.zero (w : World) : WayAt (w.alloc (.cells Tryz.zeroCells150 150)) w.heap.size 0 ⟨fun _ => kno0, fun _ => kno0⟩ := by
  rw [zero_way]; exact WayAt.start w _ _
theorem way0_is : (Way.putReg (Way.putReg ⟨fun _ => kno0, fun _ => kno0⟩ 1 ⟨2, 0, 0⟩) 10 ⟨3, 0, 0⟩) = way0 := by
  unfold Way.putReg way0
  congr 1
  funext i
  show (if i = 10 then _ else if i = 1 then _ else _) = if i = 1 then _ else if i = 10 then _ else _
  by_cases h1 : i = 1
  · subst h1; rfl
  · rw [if_neg h1, if_neg h1]
section
variable {w : World} {B : Nat} {p : Int} {y : Way}
theorem WayAt.put0 (h : WayAt w B p y) (k l g : Int) : WayAt (((w.setCell ⟨B, 1, none⟩ (vI vK k)).setCell ⟨B, 2, none⟩ (vI vK l)).setCell ⟨B, 3, none⟩ (vI vK g)) B p (y.putReg 0 ⟨k, l, g⟩) := h.reg3 (d := 0) (by decide) k l g
theorem WayAt.put1 (h : WayAt w B p y) (k l g : Int) : WayAt (((w.setCell ⟨B, 4, none⟩ (vI vK k)).setCell ⟨B, 5, none⟩ (vI vK l)).setCell ⟨B, 6, none⟩ (vI vK g)) B p (y.putReg 1 ⟨k, l, g⟩) := h.reg3 (d := 1) (by decide) k l g
theorem WayAt.put10 (h : WayAt w B p y) (k l g : Int) : WayAt (((w.setCell ⟨B, 31, none⟩ (vI vK k)).setCell ⟨B, 32, none⟩ (vI vK l)).setCell ⟨B, 33, none⟩ (vI vK g)) B p (y.putReg 10 ⟨k, l, g⟩) := h.reg3 (d := 10) (by decide) k l g
end
theorem WayAt.at0 {w : World} {B : Nat} (h : WayAt w B 0 (Way.putReg (Way.putReg ⟨fun _ => kno0, fun _ => kno0⟩ 1 ⟨2, 0, 0⟩) 10 ⟨3, 0, 0⟩)) : WayAt w B 0 way0 := by rw [way0_is] at h; exact h
theorem vbegin_any (w : World) : Calls Tryz.prog 65 #[] w fun e w' => e = .returned (.agg (wayCs 0 way0)) ∧ Below w.heap.size w w' := by
  go_enter Tryz.func65, Tryz.ntmps65
  iterate 2 go_step
  go_cut [0] (fun s0 wx => s0 = .pointer (some ⟨w.heap.size, 0, none⟩) ∧ Below w.heap.size w wx ∧ wx.heap.size = w.heap.size + 1 ∧ wx.heap[w.heap.size]? = some (.cells Tryz.zeroCells150 150 (0, 0)))
  case first =>
    go_wp2_with fail
    go_meet
    exact ⟨rfl, (by repeat' first | with_reducible (first | exact bF _ _ | refine bA ?_ ?_ _ | refine bS ?_ ?_ _ | refine below_setRow ?_ ?_ _) | ((try dsimp only); omega) | (simp; done) | (simp; omega)), by simp, heap_alloc_new _ _⟩
  case rest =>
  obtain ⟨rfl, hbw, hsz, hZ⟩ := hcut
  iterate 2 go_step
  go_cut [1] (fun s1 wx => s1 = .pointer (some ⟨w.heap.size + 1, 0, none⟩) ∧ Below w.heap.size w wx ∧ WayAt wx (w.heap.size + 1) 0 ⟨fun _ => kno0, fun _ => kno0⟩ ∧ wx.heap[w.heap.size]? = some (.cells Tryz.zeroCells150 150 (0, 0)))
  case first =>
    go_wp2_with fail
    go_meet
    exact ⟨rfl, (by repeat' first | with_reducible (first | exact hbw | exact bF _ _ | refine bA ?_ ?_ _ | refine bS ?_ ?_ _ | refine below_setRow ?_ ?_ _) | ((try dsimp only); omega) | (simp; done) | (simp; omega)), by rw [← hsz]; exact WayAt.zero _, by rw [Below.heap_alloc _ _ _ (by omega)]; exact hZ⟩
  case rest =>
  clear hbw hsz hZ
  obtain ⟨rfl, hbw, hW, hZ⟩ := hcut
  have hlt := hW.lt
  have HW : Hid (WayAt wc (w.heap.size + 1) 0 ⟨fun _ => kno0, fun _ => kno0⟩) := hW
  have HZ : Hid (wc.heap[w.heap.size]? = some (.cells Tryz.zeroCells150 150 (0, 0))) := hZ
  have HB : Hid (Below w.heap.size w wc) := hbw
  clear hW hZ hbw
  go_wp2_with (first
    | (go_at_call 37; have hg := HW.out; clear hg; go_must (refine (one_is 0 _).mono ?_; rintro e w1 ⟨rfl, hb1⟩; have hW1 := HW.out.later hb1; have hlt := hW1.lt; obtain ⟨i0, i1, i2⟩ := hW1.reg (d := 1) (by decide); simp only [Nat.reduceMul, Nat.reduceAdd] at i0 i1 i2; have f0 := hW1.frozen 4; have f1 := hW1.frozen 5; have f2 := hW1.frozen 6; have HW1 : Hid (WayAt w1 (w.heap.size + 1) 0 ⟨fun _ => kno0, fun _ => kno0⟩) := hW1; have HZ1 : Hid (w1.heap[w.heap.size]? = some (.cells Tryz.zeroCells150 150 (0, 0))) := (hb1.block _ (by omega)).trans HZ.out; have HB1 : Hid (Below w.heap.size w w1) := HB.out.trans (hb1.mono HB.out.size); clear HW HZ HB hb1 hW1))
    | (go_at_call 37; go_must (refine (one_is 0 _).mono ?_; rintro e w2 ⟨rfl, hb2⟩; have hW2 := (HW1.out.put1 2 0 0).later hb2; have hlt := hW2.lt; clear i0 i1 i2 f0 f1 f2; obtain ⟨i0, i1, i2⟩ := hW2.reg (d := 10) (by decide); simp only [Nat.reduceMul, Nat.reduceAdd] at i0 i1 i2; have f0 := hW2.frozen 31; have f1 := hW2.frozen 32; have f2 := hW2.frozen 33; have HW2 : Hid (WayAt w2 (w.heap.size + 1) 0 (Way.putReg ⟨fun _ => kno0, fun _ => kno0⟩ 1 ⟨2, 0, 0⟩)) := hW2; have HZ2 : Hid (w2.heap[w.heap.size]? = some (.cells Tryz.zeroCells150 150 (0, 0))) := (hb2.block _ (by simp; omega)).trans ((heap_setCell_other _ _ _ _ (by simp)).trans ((heap_setCell_other _ _ _ _ (by simp)).trans ((heap_setCell_other _ _ _ _ (by simp)).trans HZ1.out))); have HB2 : Hid (Below w.heap.size w w2) := ((((HB1.out.setCell (by show w.heap.size ≤ w.heap.size + 1; omega) _).setCell (by show w.heap.size ≤ w.heap.size + 1; omega) _).setCell (by show w.heap.size ≤ w.heap.size + 1; omega) _).trans (hb2.mono (by simp; omega))); clear HW1 HZ1 HB1 hb2 hW2))
    | (refine wpList_load_row rfl 150 (.tmp 1) rfl (w.heap.size + 1) rfl 150 (wayCs 0 way0) (0, 0) _ (WayAt.at0 (HW2.out.put10 3 0 0)) Tryz.underlying150 rfl (infoW_of _ _) ?_)
    | (refine wpList_store_row rfl 150 (.tmp 0) (.tmp 10) rfl w.heap.size (wayCs 0 way0) rfl rfl 150 Tryz.zeroCells150 ((heap_setCell_other _ _ _ _ (by simp)).trans ((heap_setCell_other _ _ _ _ (by simp)).trans ((heap_setCell_other _ _ _ _ (by simp)).trans HZ2.out))) (infoW_of _ _) (by rw [zeroW_size, wayCs_size]) (wayCs_one _ _) ?_)
    | fail)
  exact bodyPost_ret (v := .agg (wayCs 0 way0)) (way_results1 rfl _ _ w.heap.size _ _ rfl (WayAt.setRow (old := Tryz.zeroCells150) ((heap_setCell_other _ _ _ _ (by simp)).trans ((heap_setCell_other _ _ _ _ (by simp)).trans ((heap_setCell_other _ _ _ _ (by simp)).trans HZ2.out))) _ _)) rfl ⟨rfl, (by repeat' first | with_reducible (first | exact HB2.out | refine bA ?_ ?_ _ | refine bS ?_ ?_ _ | refine below_setRow ?_ ?_ _) | ((try dsimp only); omega) | (simp; done) | (simp; omega))⟩
end Go.Proofs.YtednmkhdehlojaaGreatDoor
namespace Go.Proofs.YtednmkhdehlojaaGreatDoor
open Go.ChangeShapes Go.WideShapes Go.ChangeAt Go.RowKit
attribute [local simp] drew_size drewN_size setCell_size
theorem vmakes_any (code : Int) (a b : Kno) (ka : a.Ok) (kb : b.Ok) (w : World) : Calls Tryz.prog 153 #[vI vK code, a.v, b.v] w fun e w' => e = .returned (.tuple #[(knoMakes code a b).1.v, vI vK (knoMakes code a b).2]) ∧ Below w.heap.size w w' := by
  obtain ⟨ak, al, ah⟩ := a
  obtain ⟨bk, bl, bh⟩ := b
  have HD := fun W : World => bdo_any code al ah bl bh ka.2.2.1.1 ka.2.2.1.2 ka.2.2.2.1.1 ka.2.2.2.1.2 kb.2.2.1.1 kb.2.2.1.2 kb.2.2.2.1.1 kb.2.2.2.1.2 ka.2.2.2.2 kb.2.2.2.2 W
  unfold knoMakes
  have tb : ∀ {x y : Int}, ¬ x = y → (x == y) = false := fun h => by simpa using h
  have tt : ∀ {x y : Int}, x = y → (x == y) = true := fun h => by simpa using h
  by_cases h0 : bk = 0
  · rw [if_pos (Or.inl h0)]; exact vmk_b0 code ak al ah bk bl bh (tt h0) w
  by_cases h1 : ak = 0
  · by_cases h2 : code = 1
    · rw [if_neg (by simp [h0, h2]), if_pos h2]; exact vmk_mova code ak al ah bk bl bh (tb h0) (tt h1) (by simp [h2]) (tt h2) w
    · rw [if_pos (Or.inr ⟨h1, h2⟩)]; exact vmk_a0 code ak al ah bk bl bh (tb h0) (tt h1) (by simpa using h2) w
  by_cases h2 : code = 1
  · rw [if_neg (by simp [h0, h1]), if_pos h2]; exact vmk_movb code ak al ah bk bl bh (tb h0) (tb h1) (tt h2) w
  rw [if_neg (by simp [h0, h1]), if_neg h2]
  generalize bdV code al ah bl bh = t at *
  obtain ⟨dl, dh⟩ := t
  have pf : ∀ {k : Int}, ¬ (k = 2 ∨ k = 3 ∨ k = 4) → isPlaceB k = false := fun {k} h => by
    cases e : isPlaceB k
    · rfl
    · exact absurd ((isPlaceB_iff k).1 e) h
  by_cases h3 : ak = 1
  · have pa : isPlaceB ak = false := pf (by omega)
    by_cases h4 : bk = 1
    · rw [if_pos ⟨h3, h4⟩]; exact vmk_nums code ak al ah bk bl bh dl dh HD (tb h0) (tb h1) (tb h2) (tt h3) (tt h4) w
    · rw [if_neg (fun e => h4 e.2), if_neg (by show ¬ ((ak = 2 ∨ ak = 3 ∨ ak = 4) ∧ bk = 1 ∧ (code = 2 ∨ code = 3)); omega)]
      by_cases h5 : bk = 2 ∨ bk = 3 ∨ bk = 4
      · by_cases h6 : code = 2
        · rw [if_pos ⟨h3, h5, h6⟩]
          rcases hF : knoFurther bk (dl, dh) with ⟨⟨gk, gl, gh⟩, E⟩
          exact vmk_nadd code ak al ah bk bl bh dl dh HD gk gl gh E hF pa ((isPlaceB_iff bk).2 h5) (tb h0) (tb h1) (tb h2) (tt h3) (tb h4) (tt h6) w
        · rw [if_neg (fun e => h6 e.2.2)]; exact vmk_nno code ak al ah bk bl bh pa ((isPlaceB_iff bk).2 h5) (tb h0) (tb h1) (tb h2) (tt h3) (tb h4) (tb h6) w
      · rw [if_neg (fun e => h5 e.2.1)]; exact vmk_nb code ak al ah bk bl bh pa (pf h5) (tb h0) (tb h1) (tb h2) (tt h3) (tb h4) w
  · rw [if_neg (fun e => h3 e.1)]
    by_cases h5 : ak = 2 ∨ ak = 3 ∨ ak = 4
    · have pa := (isPlaceB_iff ak).2 h5
      by_cases h4 : bk = 1
      · by_cases h6 : code = 2
        · rw [if_pos ⟨h5, h4, Or.inl h6⟩]
          rcases hF : knoFurther ak (dl, dh) with ⟨⟨gk, gl, gh⟩, E⟩
          exact vmk_padd code ak al ah bk bl bh dl dh HD gk gl gh E hF pa (tb h0) (tb h1) (tb h2) (tb h3) (tt h4) (tt h6) w
        · by_cases h7 : code = 3
          · rw [if_pos ⟨h5, h4, Or.inr h7⟩]
            rcases hF : knoFurther ak (dl, dh) with ⟨⟨gk, gl, gh⟩, E⟩
            exact vmk_psub code ak al ah bk bl bh dl dh HD gk gl gh E hF pa (tb h0) (tb h1) (tb h2) (tb h3) (tt h4) (tb h6) (tt h7) w
          · rw [if_neg (fun e => e.2.2.elim h6 h7), if_neg (fun e => h3 e.1)]; exact vmk_pno code ak al ah bk bl bh pa (tb h0) (tb h1) (tb h2) (tb h3) (tt h4) (tb h6) (tb h7) w
      · rw [if_neg (fun e => h4 e.2.1), if_neg (fun e => h3 e.1)]; exact vmk_pb code ak al ah bk bl bh pa (tb h0) (tb h1) (tb h2) (tb h3) (tb h4) w
    · rw [if_neg (fun e => h5 e.1), if_neg (fun e => h3 e.1)]; exact vmk_m code ak al ah bk bl bh (pf h5) (tb h0) (tb h1) (tb h2) (tb h3) w
theorem vsecond_reg (B s : Nat) (c d o n p : Int) (y : Way) (hs : s < 11) (w : World) (hW : WayAt w B p y) :
    Calls Tryz.prog 146 #[.pointer (some ⟨B, 0, none⟩), .agg #[vI vK c, vI vK d, vI vK s, .bool true, vI vK o, vI vK n]] w fun e w' => e = .returned (y.reg s).v ∧ Below w.heap.size w w' := by
  have hK0 : Blk w [(w.heap.size, .cells #[vI vK c, vI vK d, vI vK s, .bool true, vI vK o, vI vK n] 49 (0, 0)), (w.heap.size + 1, .cells #[vI vK 0, vI vK 0, vI vK 0] 146 (0, 0)), (B, .cells (wayCs p y) 150 (0, 0))] _ := (((Blk.nil (((bF _ _).alloc (Nat.le_refl _) _).alloc (by simp) _)).cons ((hW.alloc _).alloc _)).cons (heap_alloc2_new w (.cells #[vI vK c, vI vK d, vI vK s, .bool true, vI vK o, vI vK n] 49) (.cells #[vI vK 0, vI vK 0, vI vK 0] 146))).cons (by rw [Below.heap_alloc _ _ _ (by simp)]; exact heap_alloc_new _ _)
  have hB := hW.lt
  have hs0 : (0 : Int) ≤ (s : Int) := by omega
  have hs1 : (s : Int) < 11 := by omega
  go_enter Tryz.func146, Tryz.ntmps146
  have hC := hK0
  obtain ⟨p0, p1, p2, p3, p4, p5, ltS⟩ := row6 (hC.2 _ mcS); obtain ⟨z0, z1, z2, zf0, zf1, zf2, zlt⟩ := row3 (hC.2 _ (mcO _ mcS)); have yW : WayAt _ B _ _ := (hC.2 _ (mcO _ (mcO _ mcS))); have ylt := yW.lt; obtain ⟨i0, i1, i2⟩ := yW.reg hs
  go_wp2_with fail
  clear p0 p1 p2 p3 p4 p5 ltS z0 z1 z2 zf0 zf1 zf2 zlt yW ylt i0 i1 i2 hC
  refine wp_float (C := Blk w [(w.heap.size, .cells #[vI vK c, vI vK d, vI vK s, .bool true, vI vK o, vI vK n] 49 (0, 0)), (w.heap.size + 1, .cells #[vI vK 0, vI vK 0, vI vK 0] 146 (0, 0)), (B, .cells (wayCs p y) 150 (0, 0))]) (n0 := w.heap.size) 7 [] [] (by kernel_rfl) (by kernel_rfl) (fun d _ _ _ _ h => by cases d <;> exact h) (Blk.stable _ _) (Blk.room0 _ _) hK0.drew trivial ?_
  simp only [List.take_succ_cons, List.take_zero, List.drop_succ_cons, List.drop_zero, List.length_nil, Nat.reduceAdd]
  repeat (first
    | (refine wpQ_skip (by rfl) ?_; simp only [Act.put, siA, scZ, scS])
    | (refine wpQ_yield (by rfl) (v := ?_) ?_ ?_; rotate_left; (intro w2 hC; obtain ⟨p0, p1, p2, p3, p4, p5, ltS⟩ := row6 (hC.2 _ mcS); obtain ⟨z0, z1, z2, zf0, zf1, zf2, zlt⟩ := row3 (hC.2 _ (mcO _ mcS)); have yW : WayAt _ B _ _ := (hC.2 _ (mcO _ (mcO _ mcS))); have ylt := yW.lt; obtain ⟨i0, i1, i2⟩ := yW.reg hs; go_simp; try with_reducible rfl); simp only [Act.put, siA, scZ, scS]))
  refine wpQ_nil ?_
  intro w3 hC hB3
  obtain ⟨p0, p1, p2, p3, p4, p5, ltS⟩ := row6 (hC.2 _ mcS); obtain ⟨z0, z1, z2, zf0, zf1, zf2, zlt⟩ := row3 (hC.2 _ (mcO _ mcS)); have yW : WayAt _ B _ _ := (hC.2 _ (mcO _ (mcO _ mcS))); have ylt := yW.lt; obtain ⟨i0, i1, i2⟩ := yW.reg hs
  have hbw := hC.1
  go_wp2_with fail
  exact bodyPost_ret (v := (y.reg s).v) (by simp [results, Tryz.results146, go_sem, Kno.v, *]) rfl ⟨rfl, (by repeat' first | with_reducible (first | exact hbw | exact bF _ _ | refine bA ?_ ?_ _ | refine bS ?_ ?_ _ | refine bD ?_) | ((try dsimp only); omega) | (simp; done) | (simp; omega))⟩
theorem vsecond_num (B : Nat) (c d s o n : Int) (w : World) :
    Calls Tryz.prog 146 #[.pointer (some ⟨B, 0, none⟩), .agg #[vI vK c, vI vK d, vI vK s, .bool false, vI vK o, vI vK n]] w fun e w' => e = .returned (knoNum n n).v ∧ Below w.heap.size w w' := by
  have hK0 : Blk w [(w.heap.size, .cells #[vI vK c, vI vK d, vI vK s, .bool false, vI vK o, vI vK n] 49 (0, 0)), (w.heap.size + 1, .cells #[vI vK 0, vI vK 0, vI vK 0] 146 (0, 0))] _ := ((Blk.nil (((bF _ _).alloc (Nat.le_refl _) _).alloc (by simp) _)).cons (heap_alloc2_new w (.cells #[vI vK c, vI vK d, vI vK s, .bool false, vI vK o, vI vK n] 49) (.cells #[vI vK 0, vI vK 0, vI vK 0] 146))).cons (by rw [Below.heap_alloc _ _ _ (by simp)]; exact heap_alloc_new _ _)
  go_enter Tryz.func146, Tryz.ntmps146
  go_wp2_with (first
    | (go_at_call 37; go_must (refine (one_is _ _).mono ?_; rintro e w1 ⟨rfl, hb1⟩; have hK1 := hK0.later hb1))
    | (go_at_call 150; go_must (refine (vnumber_any _ _ _).mono ?_; rintro e w2 ⟨rfl, hb2⟩; simp only [Kno.v, knoNum]; have hK2 := hK1.later hb2; have hbw := hK2.1; obtain ⟨z0, z1, z2, zf0, zf1, zf2, zlt⟩ := row3 (hK2.2 _ (mcO _ mcS))))
    | fail)
  exact bodyPost_ret (v := (knoNum n n).v) (by simp [results, Tryz.results146, go_sem, Kno.v, knoNum, *]) rfl ⟨rfl, (by repeat' first | with_reducible (first | exact hbw | exact bF _ _ | refine bA ?_ ?_ _ | refine bS ?_ ?_ _ | refine bD ?_ | refine below_setRow ?_ ?_ _) | ((try dsimp only); omega) | (simp; done) | (simp; omega))⟩
theorem vsecond_any (B s : Nat) (c d o n : Int) (r : Bool) (p : Int) (y : Way) (hs : s < 11) (w : World) (hW : WayAt w B p y) :
    Calls Tryz.prog 146 #[.pointer (some ⟨B, 0, none⟩), .agg #[vI vK c, vI vK d, vI vK s, .bool r, vI vK o, vI vK n]] w fun e w' => e = .returned (y.second s r n).v ∧ Below w.heap.size w w' := by
  cases r with
  | true => exact vsecond_reg B s c d o n p y hs w hW
  | false => exact vsecond_num B c d s o n w
theorem vchange_no (B d s : Nat) (c o n p : Int) (r : Bool) (y : Way) (hd : d < 11) (hs : s < 11) (mk ml mh E : Int) (HM : Hid (∀ W : World, Calls Tryz.prog 153 #[vI vK c, .agg #[vI vK (y.reg d).k, vI vK (y.reg d).l, vI vK (y.reg d).h], (y.second s r n).v] W fun e w' => e = .returned (.tuple #[.agg #[vI vK mk, vI vK ml, vI vK mh], vI vK E]) ∧ Below W.heap.size W w')) (hE : (E == 0) = false) (w : World) (hW : WayAt w B p y) :
    Calls Tryz.prog 111 #[.pointer (some ⟨B, 0, none⟩), .agg #[vI vK c, vI vK d, vI vK s, .bool r, vI vK o, vI vK n]] w fun e w' => e = .returned (vI vK E) ∧ Below w.heap.size w w' := by
  have hK0 : Blk w [(w.heap.size, .cells #[vI vK c, vI vK d, vI vK s, .bool r, vI vK o, vI vK n] 49 (0, 0)), (B, .cells (wayCs p y) 150 (0, 0))] _ := ((Blk.nil ((bF _ _).alloc (Nat.le_refl _) _)).cons (hW.alloc _)).cons (heap_alloc_new w (.cells #[vI vK c, vI vK d, vI vK s, .bool r, vI vK o, vI vK n] 49))
  have hB := hW.lt
  have hs0 : (0 : Int) ≤ (s : Int) := by omega
  have hs1 : (s : Int) < 11 := by omega
  have hd0 : (0 : Int) ≤ (d : Int) := by omega
  have hd1 : (d : Int) < 11 := by omega
  go_enter Tryz.func111, Tryz.ntmps111
  go_wp2_with fail
  refine wp_float (C := Blk w [(w.heap.size, .cells #[vI vK c, vI vK d, vI vK s, .bool r, vI vK o, vI vK n] 49 (0, 0)), (B, .cells (wayCs p y) 150 (0, 0))]) (n0 := w.heap.size + 1) 16 [15] [.cells #[vI vK 0, vI vK 0, vI vK 0] 146 (0, 0)] (by kernel_rfl) (by kernel_rfl) (fun d _ _ _ _ h => by cases d <;> exact h) (Blk.stable _ _) (Blk.room w mcS) hK0.drew ⟨⟨rfl, fun a w2 hC => by go_simp; try rfl⟩, trivial⟩ ?_
  simp only [List.take_succ_cons, List.take_zero, List.drop_succ_cons, List.drop_zero, List.length_cons, List.length_nil, Nat.reduceAdd]
  repeat (first
    | (refine wpQ_skip (by rfl) ?_; simp only [Act.put, siA, scZ, scS])
    | (refine wpQ_yield (by rfl) (v := ?_) ?_ ?_; rotate_left; (intro w2 hC; obtain ⟨p0, p1, p2, p3, p4, p5, ltS⟩ := row6 (hC.2 _ mcS); have yW : WayAt _ B _ _ := (hC.2 _ (mcO _ mcS)); have ylt := yW.lt; obtain ⟨i0, i1, i2⟩ := yW.reg hd; go_simp; try with_reducible rfl); simp only [Act.put, siA, scZ, scS])
    | (refine wpQ_enter (by rfl) ?_; apply Exists.intro; refine ⟨fun w2 hC => ?_, ?_⟩; (obtain ⟨p0, p1, p2, p3, p4, p5, ltS⟩ := row6 (hC.2 _ mcS); have yW : WayAt _ B _ _ := (hC.2 _ (mcO _ mcS)); have ylt := yW.lt; obtain ⟨i0, i1, i2⟩ := yW.reg hd; go_simp; apply qb_enter; first | (go_at_call 146; exact vsecond_any B s c d o n r p y hs w2 yW) | (go_at_call 153; exact HM.out w2)); simp only [Act.put, siA, scZ, scS]))
  refine wpQ_nil ?_
  intro L h5 g5 w3 hC hB3
  have bL := hB3 L _ (FB.at_new _ _ _)
  obtain ⟨l0, l1, l2, lf0, lf1, lf2, llt⟩ := row3 bL
  obtain ⟨p0, p1, p2, p3, p4, p5, ltS⟩ := row6 (hC.2 _ mcS); have yW : WayAt _ B _ _ := (hC.2 _ (mcO _ mcS)); have ylt := yW.lt; obtain ⟨i0, i1, i2⟩ := yW.reg hd
  have hbw := hC.1
  have n1 : w.heap.size ≠ L := by omega
  have n2 : B ≠ L := by omega
  simp only [ptrTo]
  go_wp2_with fail
  go_ret
  exact ⟨rfl, (by repeat' first | with_reducible (first | exact hbw | exact bF _ _ | refine bA ?_ ?_ _ | refine bS ?_ ?_ _ | refine bD ?_ | refine below_setRow ?_ ?_ _) | ((try dsimp only); omega) | (simp; done) | (simp; omega))⟩
theorem vchange_yes (B d s : Nat) (c o n p : Int) (r : Bool) (y : Way) (hd : d < 11) (hs : s < 11) (mk ml mh E : Int) (HM : Hid (∀ W : World, Calls Tryz.prog 153 #[vI vK c, .agg #[vI vK (y.reg d).k, vI vK (y.reg d).l, vI vK (y.reg d).h], (y.second s r n).v] W fun e w' => e = .returned (.tuple #[.agg #[vI vK mk, vI vK ml, vI vK mh], vI vK E]) ∧ Below W.heap.size W w')) (hE : (E == 0) = true) (w : World) (hW : WayAt w B p y) :
    Calls Tryz.prog 111 #[.pointer (some ⟨B, 0, none⟩), .agg #[vI vK c, vI vK d, vI vK s, .bool r, vI vK o, vI vK n]] w fun e w' => e = .returned (vI vK 0) ∧ Kept B w w' ∧ WayAt w' B p (y.putReg d ⟨mk, ml, mh⟩) := by
  have hK0 : Blk w [(w.heap.size, .cells #[vI vK c, vI vK d, vI vK s, .bool r, vI vK o, vI vK n] 49 (0, 0)), (B, .cells (wayCs p y) 150 (0, 0))] _ := ((Blk.nil ((bF _ _).alloc (Nat.le_refl _) _)).cons (hW.alloc _)).cons (heap_alloc_new w (.cells #[vI vK c, vI vK d, vI vK s, .bool r, vI vK o, vI vK n] 49))
  have hB := hW.lt
  have hs0 : (0 : Int) ≤ (s : Int) := by omega
  have hs1 : (s : Int) < 11 := by omega
  have hd0 : (0 : Int) ≤ (d : Int) := by omega
  have hd1 : (d : Int) < 11 := by omega
  go_enter Tryz.func111, Tryz.ntmps111
  go_wp2_with fail
  refine wp_float (C := Blk w [(w.heap.size, .cells #[vI vK c, vI vK d, vI vK s, .bool r, vI vK o, vI vK n] 49 (0, 0)), (B, .cells (wayCs p y) 150 (0, 0))]) (n0 := w.heap.size + 1) 16 [15] [.cells #[vI vK 0, vI vK 0, vI vK 0] 146 (0, 0)] (by kernel_rfl) (by kernel_rfl) (fun d _ _ _ _ h => by cases d <;> exact h) (Blk.stable _ _) (Blk.room w mcS) hK0.drew ⟨⟨rfl, fun a w2 hC => by go_simp; try rfl⟩, trivial⟩ ?_
  simp only [List.take_succ_cons, List.take_zero, List.drop_succ_cons, List.drop_zero, List.length_cons, List.length_nil, Nat.reduceAdd]
  repeat (first
    | (refine wpQ_skip (by rfl) ?_; simp only [Act.put, siA, scZ, scS])
    | (refine wpQ_yield (by rfl) (v := ?_) ?_ ?_; rotate_left; (intro w2 hC; obtain ⟨p0, p1, p2, p3, p4, p5, ltS⟩ := row6 (hC.2 _ mcS); have yW : WayAt _ B _ _ := (hC.2 _ (mcO _ mcS)); have ylt := yW.lt; obtain ⟨i0, i1, i2⟩ := yW.reg hd; go_simp; try with_reducible rfl); simp only [Act.put, siA, scZ, scS])
    | (refine wpQ_enter (by rfl) ?_; apply Exists.intro; refine ⟨fun w2 hC => ?_, ?_⟩; (obtain ⟨p0, p1, p2, p3, p4, p5, ltS⟩ := row6 (hC.2 _ mcS); have yW : WayAt _ B _ _ := (hC.2 _ (mcO _ mcS)); have ylt := yW.lt; obtain ⟨i0, i1, i2⟩ := yW.reg hd; go_simp; apply qb_enter; first | (go_at_call 146; exact vsecond_any B s c d o n r p y hs w2 yW) | (go_at_call 153; exact HM.out w2)); simp only [Act.put, siA, scZ, scS]))
  refine wpQ_nil ?_
  intro L h5 g5 w3 hC hB3
  have bL := hB3 L _ (FB.at_new _ _ _)
  obtain ⟨l0, l1, l2, lf0, lf1, lf2, llt⟩ := row3 bL
  obtain ⟨p0, p1, p2, p3, p4, p5, ltS⟩ := row6 (hC.2 _ mcS); have yW : WayAt _ B _ _ := (hC.2 _ (mcO _ mcS)); have ylt := yW.lt; obtain ⟨i0, i1, i2⟩ := yW.reg hd
  have hbw := hC.1
  have n1 : w.heap.size ≠ L := by omega
  have n2 : B ≠ L := by omega
  simp only [ptrTo]
  go_wp2_with fail
  have hK3 : Blk w [(w.heap.size, .cells #[vI vK c, vI vK d, vI vK s, .bool r, vI vK o, vI vK n] 49 (0, 0)), (B, .cells (wayCs p y) 150 (0, 0)), (L, .cells #[vI vK mk, vI vK ml, vI vK mh] 146 (0, 0))] _ := (((Blk.nil (by repeat' first | with_reducible (first | exact hbw | exact bF _ _ | refine bA ?_ ?_ _ | refine bS ?_ ?_ _ | refine bD ?_ | refine below_setRow ?_ ?_ _) | ((try dsimp only); omega) | (simp; done) | (simp; omega))).cons (put3 bL)).cons (off3 (hC.2 _ (mcO _ mcS)) n2)).cons (off3 (hC.2 _ mcS) n1)
  clear l0 l1 l2 lf0 lf1 lf2 llt p0 p1 p2 p3 p4 p5 ltS yW ylt i0 i1 i2 hC hbw bL hB3
  refine wp_float (C := Blk w [(w.heap.size, .cells #[vI vK c, vI vK d, vI vK s, .bool r, vI vK o, vI vK n] 49 (0, 0)), (B, .cells (wayCs p y) 150 (0, 0)), (L, .cells #[vI vK mk, vI vK ml, vI vK mh] 146 (0, 0))]) (n0 := w.heap.size) 7 [] [] (by kernel_rfl) (by kernel_rfl) (fun d _ _ _ _ h => by cases d <;> exact h) (Blk.stable _ _) (Blk.room0 _ _) hK3.drew trivial ?_
  simp only [List.take_succ_cons, List.take_zero, List.drop_succ_cons, List.drop_zero, List.length_nil, Nat.reduceAdd]
  repeat (first
    | (refine wpQ_skip (by rfl) ?_; simp only [Act.put, siA, scZ, scS])
    | (refine wpQ_yield (by rfl) (v := ?_) ?_ ?_; rotate_left; (intro w2 hC; obtain ⟨p0, p1, p2, p3, p4, p5, ltS⟩ := row6 (hC.2 _ mcS); have yW : WayAt _ B _ _ := (hC.2 _ (mcO _ mcS)); have ylt := yW.lt; obtain ⟨i0, i1, i2⟩ := yW.reg hd; obtain ⟨l0, l1, l2, lf0, lf1, lf2, llt⟩ := row3 (hC.2 _ (mcO _ (mcO _ mcS))); go_simp; try with_reducible rfl); simp only [Act.put, siA, scZ, scS]))
  refine wpQ_nil ?_
  intro w4 hC hB4
  obtain ⟨p0, p1, p2, p3, p4, p5, ltS⟩ := row6 (hC.2 _ mcS); have yW : WayAt _ B _ _ := (hC.2 _ (mcO _ mcS)); have ylt := yW.lt; obtain ⟨i0, i1, i2⟩ := yW.reg hd; obtain ⟨l0, l1, l2, lf0, lf1, lf2, llt⟩ := row3 (hC.2 _ (mcO _ (mcO _ mcS)))
  have if0 := yW.frozen (1 + d * 3); have if1 := yW.frozen (1 + d * 3 + 1); have if2 := yW.frozen (1 + d * 3 + 2)
  have HK := kept_below hC.1 B
  go_wp2_with fail
  go_ret
  exact ⟨by have := eq_of_beq hE; subst this; rfl, (by repeat' first | with_reducible (first | exact HK | refine kept_drew ?_ | refine kept_set ?_ _ _ | refine kept_new ?_ _ _ ?_ | refine kept_alloc ?_ _) | ((try dsimp only); omega) | (simp; omega)), yW.reg3 hd mk ml mh⟩
theorem vchange_all {B d s : Nat} {c o n p : Int} {r : Bool} {y : Way} (hd : d < 11) (hs : s < 11) (hy : y.Ok) (hn : In64 n) {w : World} (hW : WayAt w B p y) :
    Calls Tryz.prog 111 #[.pointer (some ⟨B, 0, none⟩), .agg #[vI vK c, vI vK d, vI vK s, .bool r, vI vK o, vI vK n]] w fun e w' => e = .returned (vI vK (y.change c d s r n).1) ∧ Kept B w w' ∧ WayAt w' B p (y.change c d s r n).2 := by
  have HM := fun W : World => vmakes_any c (y.reg d) (y.second s r n) (hy.reg d hd) (second_ok hy hs hn) W
  unfold Way.change
  rcases e : knoMakes c (y.reg d) (y.second s r n) with ⟨⟨mk, ml, mh⟩, E⟩
  rw [e] at HM
  by_cases h : E = 0
  · rw [if_pos h]
    exact vchange_yes B d s c o n p r y hd hs mk ml mh E HM (by simpa using h) w hW
  · rw [if_neg h]
    exact (vchange_no B d s c o n p r y hd hs mk ml mh E HM (by simpa using h) w hW).mono fun e w' ⟨h1, h2⟩ => ⟨h1, kept_below h2 B, hW.later h2⟩
def joinTo (f : Nat → Int × Int) : Nat → Int × Int
  | 0 => (0, 0)
  | k + 1 => if k = 0 then f 0 else (min (joinTo f k).1 (f k).1, max (joinTo f k).2 (f k).2)
theorem joinTo_one (f : Nat → Int × Int) : joinTo f 1 = f 0 := if_pos rfl
theorem joinTo_more (f : Nat → Int × Int) {k : Nat} (h : k ≠ 0) : joinTo f (k + 1) = (min (joinTo f k).1 (f k).1, max (joinTo f k).2 (f k).2) := if_neg h
theorem joined_nil (p : Option Addr) (cap : Nat) (w : World) : Calls Tryz.prog 36 #[.slice p 0 cap] w fun e w' => e = .returned (.agg #[vI vK 0, vI vK 0]) ∧ Below w.heap.size w w' := by
  go_enter Tryz.func36, Tryz.ntmps36
  go_wp2_with fail
  refine wp_loop_rounds 1 ?_
  rw [rounds_succ]
  go_wp2_with fail
  exact bodyPost_ret (v := .agg #[vI vK 0, vI vK 0]) (by simp [results, Tryz.results36, go_sem]) rfl ⟨rfl, (by repeat' first | with_reducible (first | exact bF _ _ | refine bA ?_ ?_ _ | refine bS ?_ ?_ _ | refine bD ?_ | refine below_setRow ?_ ?_ _) | ((try dsimp only); omega) | (simp; done) | (simp; omega))⟩
theorem joined_some (g n cap : Nat) (f : Nat → Int × Int) (h1 : 1 ≤ n) (h2 : n ≤ 1000000) (w : World) (hg : g < w.heap.size) (hc : ∀ i, i < n → w.cell? ⟨g, i * 2, none⟩ = some (vI vK (f i).1) ∧ w.cell? ⟨g, i * 2 + 1, none⟩ = some (vI vK (f i).2)) :
    Calls Tryz.prog 36 #[.slice (some ⟨g, 0, none⟩) n cap] w fun e w' => e = .returned (.agg #[vI vK (joinTo f n).1, vI vK (joinTo f n).2]) ∧ Below w.heap.size w w' := by
  have HC : Hid (∀ i, i < n → w.cell? ⟨g, i * 2, none⟩ = some (vI vK (f i).1) ∧ w.cell? ⟨g, i * 2 + 1, none⟩ = some (vI vK (f i).2)) := hc
  have hK0 : Blk w [(w.heap.size, .cells #[vI vK 0, vI vK 0] 43 (0, 0)), (w.heap.size + 1, .cells #[vI vK (joinTo f 0).1, vI vK (joinTo f 0).2] 43 (0, 0))] _ := ((Blk.nil (((bF _ _).alloc (Nat.le_refl _) _).alloc (by simp) _)).cons (heap_alloc2_new w (.cells #[vI vK 0, vI vK 0] 43) (.cells #[vI vK 0, vI vK 0] 43))).cons (by rw [Below.heap_alloc _ _ _ (by simp)]; exact heap_alloc_new _ _)
  have HK0 : Hid (Blk w [(w.heap.size, .cells #[vI vK 0, vI vK 0] 43 (0, 0)), (w.heap.size + 1, .cells #[vI vK (joinTo f 0).1, vI vK (joinTo f 0).2] 43 (0, 0))] _) := hK0
  clear hc hK0
  go_enter Tryz.func36, Tryz.ntmps36
  go_wp2_with fail
  go_loopw [8] (fun i wr => ∃ k : Nat, i = vI vK k ∧ k ≤ n ∧ Hid (Blk w [(w.heap.size, .cells #[vI vK 0, vI vK 0] 43 (0, 0)), (w.heap.size + 1, .cells #[vI vK (joinTo f k).1, vI vK (joinTo f k).2] 43 (0, 0))] wr)) (fun i _ => n - (intOf i).toNat)
  case atStart => exact ⟨0, rfl, by omega, HK0.out⟩
  case round =>
    obtain ⟨k, rfl, hk, H⟩ := hrel
    have hK := H.out
    clear HK0
    have hk0 : (0 : Int) ≤ (k : Int) := by omega
    by_cases hlt : k < n
    · have hlt' : (k : Int) < (n : Int) := by omega
      have c0 := (hK.1.cell (p := ⟨g, k * 2, none⟩) hg).trans (HC.out k hlt).1
      have c1 := (hK.1.cell (p := ⟨g, k * 2 + 1, none⟩) hg).trans (HC.out k hlt).2
      have hg2 := Nat.lt_of_lt_of_le hg hK.1.size
      obtain ⟨r0, r1, rf0, rf1, rlt⟩ := row2 (hK.2 _ mcS); obtain ⟨a0, a1, af0, af1, alt⟩ := row2 (hK.2 _ (mcO _ mcS))
      by_cases hz : k = 0
      · subst hz
        simp only [Nat.zero_mul, Nat.zero_add] at c0 c1
        go_wp2_with (first
          | (go_at_call 67; go_must (refine (join_is _ _ _ _ _).mono ?_; rintro e w2 ⟨rfl, hb2⟩; have hK2 := Blk.later (Blk.later (((Blk.nil ((hK.1.setCell (by show _ ≤ w.heap.size + 1; omega) _).setCell (by show _ ≤ w.heap.size + 1; omega) _)).cons (put2 (hK.2 _ (mcO _ mcS)))).cons (off2 (hK.2 _ mcS) (by omega))) ((bF _ _).alloc (Nat.le_refl _) _)) hb2; clear r0 r1 rf0 rf1 rlt a0 a1 af0 af1 alt; obtain ⟨r0, r1, rf0, rf1, rlt⟩ := row2 (hK2.2 _ mcS); obtain ⟨a0, a1, af0, af1, alt⟩ := row2 (hK2.2 _ (mcO _ mcS))))
          | fail)
        go_roundw
        case rel => exact ⟨1, by go_num, by omega, by rw [joinTo_one]; exact ((Blk.nil ((hK2.1.setCell (by show _ ≤ w.heap.size + 1; omega) _).setCell (by show _ ≤ w.heap.size + 1; omega) _)).cons (put2 (hK2.2 _ (mcO _ mcS)))).cons (off2 (hK2.2 _ mcS) (by omega))⟩
        case measure => simp [intOf]; omega
      · have hz' : ((k : Int) == 0) = false := by simpa using hz
        go_wp2_with (first
          | (go_at_call 67; go_must (refine (join_is _ _ _ _ _).mono ?_; rintro e w2 ⟨rfl, hb2⟩; have hK2 := Blk.later (hK.later ((bF _ _).alloc (Nat.le_refl _) _)) hb2; clear r0 r1 rf0 rf1 rlt a0 a1 af0 af1 alt; obtain ⟨r0, r1, rf0, rf1, rlt⟩ := row2 (hK2.2 _ mcS); obtain ⟨a0, a1, af0, af1, alt⟩ := row2 (hK2.2 _ (mcO _ mcS))))
          | fail)
        go_roundw
        case rel => exact ⟨k + 1, by go_num, by omega, by rw [joinTo_more f hz]; exact ((Blk.nil ((hK2.1.setCell (by show _ ≤ w.heap.size + 1; omega) _).setCell (by show _ ≤ w.heap.size + 1; omega) _)).cons (put2 (hK2.2 _ (mcO _ mcS)))).cons (off2 (hK2.2 _ mcS) (by omega))⟩
        case measure => simp [intOf]; omega
    · obtain rfl : k = n := by omega
      obtain ⟨r0, r1, rf0, rf1, rlt⟩ := row2 (hK.2 _ mcS); obtain ⟨a0, a1, af0, af1, alt⟩ := row2 (hK.2 _ (mcO _ mcS))
      have hbw := hK.1
      go_wp2_with fail
      exact bodyPost_ret (v := .agg #[vI vK (joinTo f k).1, vI vK (joinTo f k).2]) (by simp [results, Tryz.results36, go_sem, *]) rfl ⟨rfl, (by repeat' first | with_reducible (first | exact hbw | exact bF _ _ | refine bA ?_ ?_ _ | refine bS ?_ ?_ _ | refine bD ?_ | refine below_setRow ?_ ?_ _) | ((try dsimp only); omega) | (simp; done) | (simp; omega))⟩
def bdCells (f : Nat → Int × Int) : Nat → List Value
  | 0 => []
  | k + 1 => bdCells f k ++ [vI vK (f k).1, vI vK (f k).2]
theorem bdCells_len (f : Nat → Int × Int) : ∀ k, (bdCells f k).length = k * 2
  | 0 => rfl
  | k + 1 => by rw [bdCells, List.length_append, bdCells_len f k]; simp; omega
theorem bdCells_at (f : Nat → Int × Int) : ∀ k i, i < k → (bdCells f k)[i * 2]? = some (vI vK (f i).1) ∧ (bdCells f k)[i * 2 + 1]? = some (vI vK (f i).2)
  | 0, i, h => absurd h (by omega)
  | k + 1, i, h => by
    have hl := bdCells_len f k
    by_cases e : i = k
    · subst e
      constructor
      · rw [bdCells, List.getElem?_append_right (by omega), hl]; simp
      · rw [bdCells, List.getElem?_append_right (by omega), hl, show i * 2 + 1 - i * 2 = 1 by omega]; rfl
    · obtain ⟨h1, h2⟩ := bdCells_at f k i (by omega)
      constructor
      · rw [bdCells, List.getElem?_append_left (by omega)]; exact h1
      · rw [bdCells, List.getElem?_append_left (by omega)]; exact h2
theorem joined_own {w : World} {base k : Nat} {v : Value} {f : Nat → Int × Int} (h : w.ownsRow base 43 2 v k (bdCells f k)) (hk : k ≤ 1000000) : Calls Tryz.prog 36 #[v] w fun e w' => e = .returned (.agg #[vI vK (joinTo f k).1, vI vK (joinTo f k).2]) ∧ Below w.heap.size w w' := by
  rcases Nat.eq_zero_or_pos k with h0 | h0
  · subst h0
    rcases h.2 with ⟨hv, _⟩ | ⟨g, cap, cur, hv, _⟩
    · rw [hv]; exact joined_nil none 0 w
    · rw [hv]; exact joined_nil _ cap w
  · obtain ⟨g, cap, hv⟩ : ∃ g cap, v = .slice (some ⟨g, 0, none⟩) k cap := by
      rcases h.2 with ⟨_, hn⟩ | ⟨g, cap, cur, hv, _⟩
      · omega
      · exact ⟨g, cap, hv⟩
    subst hv
    refine joined_some g k cap f h0 hk w ((h.lt g rfl).2) fun i hi => ?_
    obtain ⟨a1, a2⟩ := bdCells_at f k i hi
    exact ⟨(h.cellAt (i * 2) (by omega)).trans a1, (h.cellAt (i * 2 + 1) (by omega)).trans a2⟩
theorem Blk.grown {w0 w w' : World} {F : List (Nat × Obj)} {row : Option Nat} {b : Nat} (h : Blk w0 F w) (hg : w.grownBy w' row) (hr : ∀ k, row = some k → b ≤ k) (h0 : w0.heap.size ≤ b) (hF : ∀ x, x ∈ F → x.1 < b) : Blk w0 F w' :=
  ⟨h.1.grown hg h.1.size (fun k hk => Nat.le_trans h0 (hr k hk)), fun x hx => (hg.block x.1 (Array.getElem?_eq_some_iff.1 (h.2 x hx)).1 (fun e => by have := hr x.1 e.symm; have := hF x hx; omega)).trans (h.2 x hx)⟩
theorem cell_two {w : World} {x y : Value} {e : TypeId} {b : Nat} (hb : b = w.heap.size) : ∀ (j : Nat) u, [x, y][j]? = some u → (w.alloc (.cells #[x, y] e)).cell? ((⟨b, 0, none⟩ : Addr).add j) = some u := by
  subst hb
  intro j u hj
  match j, hj with
  | 0, hj => simp at hj; subst hj; simp [Addr.add]
  | 1, hj => simp at hj; subst hj; simp [Addr.add]
theorem Tryz.infoB : (Tryz.prog.info? 43).map (fun i => (i.zero, i.size, i.bytes)) = some (some (.agg #[vI vK 0, vI vK 0]), 2, 16) := by kernel_rfl
def wantAt (y : Way) (t j : Nat) : Int := knoWant (y.slot (t + j))
def bdAt (y : Way) (t j : Nat) : Int × Int := ((y.slot (t + j)).l, (y.slot (t + j)).h)
theorem vkept_one (B t : Nat) (wl p : Int) (y : Way) (htm : t < 16) (e1 : IntKind.i64.wrap (wl + 16) = (t : Int)) (x0 : ((y.slot t).k != 0) = true) (w : World) (hW : WayAt w B p y) :
    Calls Tryz.prog 152 #[.pointer (some ⟨B, 0, none⟩), .agg #[vI vK wl, vI vK wl]] w fun e w' => e = .returned (.tuple #[.agg #[vI vK (y.slot t).k, vI vK (y.slot t).l, vI vK (y.slot t).h], vI vK 0]) ∧ Below w.heap.size w w' := by
  have hK0 : Blk w [(w.heap.size, .cells #[vI vK wl, vI vK wl] 43 (0, 0)), (w.heap.size + 1, .cells #[vI vK 0, vI vK 0, vI vK 0] 146 (0, 0)), (B, .cells (wayCs p y) 150 (0, 0))] _ := (((Blk.nil (((bF _ _).alloc (Nat.le_refl _) _).alloc (by simp) _)).cons ((hW.alloc _).alloc _)).cons (heap_alloc2_new w (.cells #[vI vK wl, vI vK wl] 43) (.cells #[vI vK 0, vI vK 0, vI vK 0] 146))).cons (by rw [Below.heap_alloc _ _ _ (by simp)]; exact heap_alloc_new _ _)
  have hB := hW.lt
  have ht0 : (0 : Int) ≤ (t : Int) := by omega
  have hm0 : (t : Int) ≤ (t : Int) + 1 := by omega
  have hm1 : (t : Int) + 1 ≤ 16 := by omega
  have e3 : IntKind.i64.wrap ((t : Int) + 1) = (t : Int) + 1 := by rw [IntWalk.i64_left]; exact wrap64_in (by omega) (by omega)
  have ht : t < 16 := by omega
  go_enter Tryz.func152, Tryz.ntmps152
  go_wp2_with fail
  refine wp_float (C := Blk w [(w.heap.size, .cells #[vI vK wl, vI vK wl] 43 (0, 0)), (w.heap.size + 1, .cells #[vI vK 0, vI vK 0, vI vK 0] 146 (0, 0)), (B, .cells (wayCs p y) 150 (0, 0))]) (n0 := w.heap.size) 11 [] [] (by kernel_rfl) (by kernel_rfl) (fun d _ _ _ _ h => by cases d <;> exact h) (Blk.stable _ _) (Blk.room0 _ _) hK0.drew trivial ?_
  simp only [List.take_succ_cons, List.take_zero, List.drop_succ_cons, List.drop_zero, List.length_nil, Nat.reduceAdd]
  repeat (first
    | (refine wpQ_skip (by rfl) ?_; simp only [Act.put, siA, scZ, scS])
    | (refine wpQ_yield (by rfl) (v := ?_) ?_ ?_; rotate_left; (intro w2 hC; obtain ⟨s0, s1, sf0, sf1, slt⟩ := row2 (hC.2 _ mcS); obtain ⟨z0, z1, z2, zf0, zf1, zf2, zlt⟩ := row3 (hC.2 _ (mcO _ mcS)); have yW : WayAt _ B _ _ := (hC.2 _ (mcO _ (mcO _ mcS))); have ylt := yW.lt; go_simp; try with_reducible rfl); simp only [Act.put, siA, scZ, scS]))
  refine wpQ_nil ?_
  intro w3 hC hB3
  obtain ⟨s0, s1, sf0, sf1, slt⟩ := row2 (hC.2 _ mcS); obtain ⟨z0, z1, z2, zf0, zf1, zf2, zlt⟩ := row3 (hC.2 _ (mcO _ mcS)); have yW : WayAt _ B _ _ := (hC.2 _ (mcO _ (mcO _ mcS))); have ylt := yW.lt
  go_wp2_with fail
  have hK3 := hC
  clear s0 s1 sf0 sf1 slt z0 z1 z2 zf0 zf1 zf2 zlt yW ylt hC hB3 hK0
  refine wp_float (C := Blk w [(w.heap.size, .cells #[vI vK wl, vI vK wl] 43 (0, 0)), (w.heap.size + 1, .cells #[vI vK 0, vI vK 0, vI vK 0] 146 (0, 0)), (B, .cells (wayCs p y) 150 (0, 0))]) (n0 := w.heap.size) 11 [] [] (by kernel_rfl) (by kernel_rfl) (fun d _ _ _ _ h => by cases d <;> exact h) (Blk.stable _ _) (Blk.room0 _ _) hK3.drew trivial ?_
  simp only [List.take_succ_cons, List.take_zero, List.drop_succ_cons, List.drop_zero, List.length_nil, Nat.reduceAdd]
  repeat (first
    | (refine wpQ_skip (by rfl) ?_; simp only [Act.put, siA, scZ, scS])
    | (refine wpQ_yield (by rfl) (v := ?_) ?_ ?_; rotate_left; (intro w2 hC; obtain ⟨s0, s1, sf0, sf1, slt⟩ := row2 (hC.2 _ mcS); obtain ⟨z0, z1, z2, zf0, zf1, zf2, zlt⟩ := row3 (hC.2 _ (mcO _ mcS)); have yW : WayAt _ B _ _ := (hC.2 _ (mcO _ (mcO _ mcS))); have ylt := yW.lt; obtain ⟨i0, i1, i2⟩ := yW.slot ht; go_simp; try with_reducible rfl); simp only [Act.put, siA, scZ, scS])
    | (refine wpQ_enter (by rfl) ?_; apply Exists.intro; refine ⟨fun w2 hC => ?_, ?_⟩; (obtain ⟨s0, s1, sf0, sf1, slt⟩ := row2 (hC.2 _ mcS); obtain ⟨z0, z1, z2, zf0, zf1, zf2, zlt⟩ := row3 (hC.2 _ (mcO _ mcS)); have yW : WayAt _ B _ _ := (hC.2 _ (mcO _ (mcO _ mcS))); have ylt := yW.lt; obtain ⟨i0, i1, i2⟩ := yW.slot ht; go_simp; apply qb_enter; first | (go_at_call 37; exact one_is _ w2)); simp only [Act.put, siA, scZ, scS]))
  refine wpQ_nil ?_
  intro w4 hC hB4
  obtain ⟨s0, s1, sf0, sf1, slt⟩ := row2 (hC.2 _ mcS); obtain ⟨z0, z1, z2, zf0, zf1, zf2, zlt⟩ := row3 (hC.2 _ (mcO _ mcS)); have yW : WayAt _ B _ _ := (hC.2 _ (mcO _ (mcO _ mcS))); have ylt := yW.lt; obtain ⟨i0, i1, i2⟩ := yW.slot ht
  have hK4 := hC
  go_wp2_with fail
  have hbw := hC.1
  exact bodyPost_ret (v := .tuple #[.agg #[vI vK (y.slot t).k, vI vK (y.slot t).l, vI vK (y.slot t).h], vI vK 0]) (by simp [results, Tryz.results152, go_sem, *]) rfl ⟨rfl, (by repeat' first | with_reducible (first | exact hbw | exact bF _ _ | refine bA ?_ ?_ _ | refine bS ?_ ?_ _ | refine bD ?_ | refine below_setRow ?_ ?_ _) | ((try dsimp only); omega) | (simp; done) | (simp; omega))⟩
theorem Blk.swap4 {w0 w : World} {a b c d : Nat × Obj} (h : Blk w0 [a, b, c] w) (hd : w.heap[d.1]? = some d.2) : Blk w0 [a, b, c, d] w :=
  ⟨h.1, fun x hx => by
    simp only [List.mem_cons, List.not_mem_nil, or_false] at hx
    rcases hx with rfl | rfl | rfl | rfl
    · exact h.2 _ (by simp)
    · exact h.2 _ (by simp)
    · exact h.2 _ (by simp)
    · exact hd⟩
theorem Blk.more4 {w0 w : World} {a b c d : Nat × Obj} (h : Blk w0 [a, b, c, d] w) : Blk w0 [a, b, c] w :=
  h.more fun x hx => by simp only [List.mem_cons, List.not_mem_nil, or_false] at hx ⊢; rcases hx with rfl | rfl | rfl <;> simp
theorem own_later5 {w w1 : World} {X : Obj} {b : Nat} {e : TypeId} {z : Nat} {v : Value} {n : Nat} {xs : List Value} (h : w.ownsRow b e z v n xs) (hb : Below (w.alloc X).heap.size (w.alloc X) w1) : w1.ownsRow b e z v n xs :=
  (h.alloc X).kept (w' := w1) (row := none) ⟨hb.os, hb.tape, hb.output, hb.size, fun k hk _ => hb.block k hk⟩ (by cases v.ownBlock <;> simp)
theorem vkept_lone (B t : Nat) (wl p : Int) (y : Way) (htm : t < 16) (e1 : IntKind.i64.wrap (wl + 16) = (t : Int)) (x0 : ((y.slot t).k != 0) = false) (w : World) (hW : WayAt w B p y) :
    Calls Tryz.prog 152 #[.pointer (some ⟨B, 0, none⟩), .agg #[vI vK wl, vI vK wl]] w fun e w' => (∃ k, k < 1 ∧ (∀ j, j < k → wantAt y t j = 0) ∧ wantAt y t k ≠ 0 ∧ e = .returned (.tuple #[.agg #[vI vK 0, vI vK 0, vI vK 0], vI vK (wantAt y t k)]) ∧ Below w.heap.size w w') ∨ ((∀ j, j < 1 → wantAt y t j = 0) ∧ e = .returned (.tuple #[.agg #[vI vK 1, vI vK (joinTo (bdAt y t) 1).1, vI vK (joinTo (bdAt y t) 1).2], vI vK 0]) ∧ Below w.heap.size w w') := by
  have hK0 : Blk w [(w.heap.size, .cells #[vI vK wl, vI vK wl] 43 (0, 0)), (w.heap.size + 1, .cells #[vI vK 0, vI vK 0, vI vK 0] 146 (0, 0)), (B, .cells (wayCs p y) 150 (0, 0))] _ := (((Blk.nil (((bF _ _).alloc (Nat.le_refl _) _).alloc (by simp) _)).cons ((hW.alloc _).alloc _)).cons (heap_alloc2_new w (.cells #[vI vK wl, vI vK wl] 43) (.cells #[vI vK 0, vI vK 0, vI vK 0] 146))).cons (by rw [Below.heap_alloc _ _ _ (by simp)]; exact heap_alloc_new _ _)
  have hB := hW.lt
  have ht0 : (0 : Int) ≤ (t : Int) := by omega
  have hm0 : (t : Int) ≤ (t : Int) + 1 := by omega
  have hm1 : (t : Int) + 1 ≤ 16 := by omega
  have e3 : IntKind.i64.wrap ((t : Int) + 1) = (t : Int) + 1 := by rw [IntWalk.i64_left]; exact wrap64_in (by omega) (by omega)
  have ht : t < 16 := by omega
  go_enter Tryz.func152, Tryz.ntmps152
  go_wp2_with fail
  refine wp_float (C := Blk w [(w.heap.size, .cells #[vI vK wl, vI vK wl] 43 (0, 0)), (w.heap.size + 1, .cells #[vI vK 0, vI vK 0, vI vK 0] 146 (0, 0)), (B, .cells (wayCs p y) 150 (0, 0))]) (n0 := w.heap.size) 11 [] [] (by kernel_rfl) (by kernel_rfl) (fun d _ _ _ _ h => by cases d <;> exact h) (Blk.stable _ _) (Blk.room0 _ _) hK0.drew trivial ?_
  simp only [List.take_succ_cons, List.take_zero, List.drop_succ_cons, List.drop_zero, List.length_nil, Nat.reduceAdd]
  repeat (first
    | (refine wpQ_skip (by rfl) ?_; simp only [Act.put, siA, scZ, scS])
    | (refine wpQ_yield (by rfl) (v := ?_) ?_ ?_; rotate_left; (intro w2 hC; obtain ⟨s0, s1, sf0, sf1, slt⟩ := row2 (hC.2 _ mcS); obtain ⟨z0, z1, z2, zf0, zf1, zf2, zlt⟩ := row3 (hC.2 _ (mcO _ mcS)); have yW : WayAt _ B _ _ := (hC.2 _ (mcO _ (mcO _ mcS))); have ylt := yW.lt; go_simp; try with_reducible rfl); simp only [Act.put, siA, scZ, scS]))
  refine wpQ_nil ?_
  intro w3 hC hB3
  obtain ⟨s0, s1, sf0, sf1, slt⟩ := row2 (hC.2 _ mcS); obtain ⟨z0, z1, z2, zf0, zf1, zf2, zlt⟩ := row3 (hC.2 _ (mcO _ mcS)); have yW : WayAt _ B _ _ := (hC.2 _ (mcO _ (mcO _ mcS))); have ylt := yW.lt
  go_wp2_with fail
  have hK3 := hC
  clear s0 s1 sf0 sf1 slt z0 z1 z2 zf0 zf1 zf2 zlt yW ylt hC hB3 hK0
  refine wp_float (C := Blk w [(w.heap.size, .cells #[vI vK wl, vI vK wl] 43 (0, 0)), (w.heap.size + 1, .cells #[vI vK 0, vI vK 0, vI vK 0] 146 (0, 0)), (B, .cells (wayCs p y) 150 (0, 0))]) (n0 := w.heap.size) 11 [] [] (by kernel_rfl) (by kernel_rfl) (fun d _ _ _ _ h => by cases d <;> exact h) (Blk.stable _ _) (Blk.room0 _ _) hK3.drew trivial ?_
  simp only [List.take_succ_cons, List.take_zero, List.drop_succ_cons, List.drop_zero, List.length_nil, Nat.reduceAdd]
  repeat (first
    | (refine wpQ_skip (by rfl) ?_; simp only [Act.put, siA, scZ, scS])
    | (refine wpQ_yield (by rfl) (v := ?_) ?_ ?_; rotate_left; (intro w2 hC; obtain ⟨s0, s1, sf0, sf1, slt⟩ := row2 (hC.2 _ mcS); obtain ⟨z0, z1, z2, zf0, zf1, zf2, zlt⟩ := row3 (hC.2 _ (mcO _ mcS)); have yW : WayAt _ B _ _ := (hC.2 _ (mcO _ (mcO _ mcS))); have ylt := yW.lt; obtain ⟨i0, i1, i2⟩ := yW.slot ht; go_simp; try with_reducible rfl); simp only [Act.put, siA, scZ, scS])
    | (refine wpQ_enter (by rfl) ?_; apply Exists.intro; refine ⟨fun w2 hC => ?_, ?_⟩; (obtain ⟨s0, s1, sf0, sf1, slt⟩ := row2 (hC.2 _ mcS); obtain ⟨z0, z1, z2, zf0, zf1, zf2, zlt⟩ := row3 (hC.2 _ (mcO _ mcS)); have yW : WayAt _ B _ _ := (hC.2 _ (mcO _ (mcO _ mcS))); have ylt := yW.lt; obtain ⟨i0, i1, i2⟩ := yW.slot ht; go_simp; apply qb_enter; first | (go_at_call 37; exact one_is _ w2)); simp only [Act.put, siA, scZ, scS]))
  refine wpQ_nil ?_
  intro w4 hC hB4
  obtain ⟨s0, s1, sf0, sf1, slt⟩ := row2 (hC.2 _ mcS); obtain ⟨z0, z1, z2, zf0, zf1, zf2, zlt⟩ := row3 (hC.2 _ (mcO _ mcS)); have yW : WayAt _ B _ _ := (hC.2 _ (mcO _ (mcO _ mcS))); have ylt := yW.lt; obtain ⟨i0, i1, i2⟩ := yW.slot ht
  have hK4 := hC
  go_wp2_with fail
  obtain ⟨j0, hj, hy0, hy1, hy2⟩ := info_parts Tryz.infoB
  clear s0 s1 sf0 sf1 slt z0 z1 z2 zf0 zf1 zf2 zlt yW ylt i0 i1 i2 hC hB4 hK3
  have HK4 : Hid (Blk w [(w.heap.size, .cells #[vI vK wl, vI vK wl] 43 (0, 0)), (w.heap.size + 1, .cells #[vI vK 0, vI vK 0, vI vK 0] 146 (0, 0)), (B, .cells (wayCs p y) 150 (0, 0))] w4) := hK4
  clear hK4
  go_loopw [7, 39] (fun v i wr => ∃ k : Nat, i = vI vK k ∧ k ≤ 1 ∧ Hid (Blk w [(w.heap.size, .cells #[vI vK wl, vI vK wl] 43 (0, 0)), (w.heap.size + 1, .cells #[vI vK 0, vI vK 0, vI vK 0] 146 (0, 0)), (B, .cells (wayCs p y) 150 (0, 0))] wr) ∧ Hid (wr.ownsRow (w.heap.size + 1 + 1) 43 2 v k (bdCells (bdAt y t) k)) ∧ Hid (∀ j, j < k → wantAt y t j = 0)) (fun _ i _ => 1 - (intOf i).toNat)
  case atStart => exact ⟨0, rfl, by omega, HK4.out, World.ownsRow_nil _ _ _ _, fun j hj => absurd hj (by omega)⟩
  case round =>
    obtain ⟨k, rfl, hk, H, HO, HZ⟩ := hrel
    have hK := H.out
    clear HK4
    have hk0 : (0 : Int) ≤ (k : Int) := by omega
    by_cases hlt : k < 1
    · have hlt' : (k : Int) < (1 : Int) := by omega
      obtain ⟨s0, s1, sf0, sf1, slt⟩ := row2 (hK.2 _ mcS); obtain ⟨z0, z1, z2, zf0, zf1, zf2, zlt⟩ := row3 (hK.2 _ (mcO _ mcS)); have yW : WayAt _ B _ _ := (hK.2 _ (mcO _ (mcO _ mcS))); have ylt := yW.lt
      obtain ⟨i0, i1, i2⟩ := yW.slot (d := t + k) (by omega)
      have e5 : 34 + (t + k) * 3 = 34 + t * 3 + k * 3 := by omega
      rw [e5] at i0 i1 i2
      clear e5
      by_cases hwt : wantAt y t k = 0
      · have HW0 : Hid (knoWant ⟨(y.slot (t + k)).k, (y.slot (t + k)).l, (y.slot (t + k)).h⟩ = 0) := hwt
        clear hwt
        go_wp2_with (first
          | (go_at_call 107; go_must (refine (vwant_any _ _ _ _).mono ?_; rintro e w5 ⟨rfl, hb5⟩; rw [HW0.out]; have hK5 : Blk w [(w.heap.size, .cells #[vI vK wl, vI vK wl] 43 (0, 0)), (w.heap.size + 1, .cells #[vI vK 0, vI vK 0, vI vK 0] 146 (0, 0)), (B, .cells (wayCs p y) 150 (0, 0)), (wr.heap.size, .cells #[vI vK (y.slot (t + k)).k, vI vK (y.slot (t + k)).l, vI vK (y.slot (t + k)).h] 146 (0, 0))] w5 := (((hK.later ((bF _ _).alloc (Nat.le_refl _) _)).swap4 (heap_alloc_new wr (.cells #[vI vK (y.slot (t + k)).k, vI vK (y.slot (t + k)).l, vI vK (y.slot (t + k)).h] 146))).later hb5); have hO5 := own_later5 HO.out hb5; clear s0 s1 sf0 sf1 slt z0 z1 z2 zf0 zf1 zf2 zlt yW ylt; clear i0 i1 i2; obtain ⟨s0, s1, sf0, sf1, slt⟩ := row2 (hK5.2 _ mcS); obtain ⟨z0, z1, z2, zf0, zf1, zf2, zlt⟩ := row3 (hK5.2 _ (mcO _ mcS)); have yW : WayAt _ B _ _ := (hK5.2 _ (mcO _ (mcO _ mcS))); have ylt := yW.lt; obtain ⟨x0, x1, x2, xf0, xf1, xf2, xlt⟩ := row3 (hK5.2 _ (mcO _ (mcO _ (mcO _ mcS))))))
          | (at_builtin; refine wpList_append_own _ rfl (.tmp 49) (.tmp 52) 91 rfl (w.heap.size + 1 + 1) 43 j0 (.agg #[vI vK 0, vI vK 0]) 2 16 Tryz.underlying91 hj hy0 hy1 hy2 rfl (by decide) _ k (bdCells (bdAt y t) k) rfl (hO5.alloc _) ⟨w5.heap.size, 0, none⟩ 1 1 [vI vK (y.slot (t + k)).l, vI vK (y.slot (t + k)).h] rfl rfl (cell_two rfl) (by intro u hu; simp at hu; rcases hu with rfl | rfl <;> rfl) (by unfold maxLen; omega) (by omega) (by simp; omega) ?_; intro v6 w6 hown6 hgrow6 _)
          | fail)
        go_roundw
        case rel =>
          refine ⟨k + 1, by go_num, by omega, ?_, hown6, ?_⟩
          · exact ((hK5.more4.later ((bF _ _).alloc (Nat.le_refl _) _)).grown hgrow6 (b := w.heap.size + 1 + 1) (fun j hj => (hO5.lt j hj).1) (by omega) (by intro x hx; simp only [List.mem_cons, List.not_mem_nil, or_false] at hx; rcases hx with rfl | rfl | rfl <;> (show _ < _; omega)))
          · intro j hj
            by_cases e : j = k
            · rw [e]; exact HW0.out
            · exact HZ.out j (by omega)
        case measure => simp [intOf]; omega
      · have hwb : (wantAt y t k != 0) = true := by simpa using hwt
        have HWT : Hid (wantAt y t k ≠ 0) := hwt
        obtain ⟨E, hE⟩ : ∃ E, wantAt y t k = E := ⟨_, rfl⟩
        have HW0 : Hid (knoWant ⟨(y.slot (t + k)).k, (y.slot (t + k)).l, (y.slot (t + k)).h⟩ = E) := hE
        have HE : Hid (wantAt y t k = E) := hE
        rw [hE] at hwb
        clear hwt hE
        go_wp2_with (first
          | (go_at_call 107; go_must (refine (vwant_any _ _ _ _).mono ?_; rintro e w5 ⟨rfl, hb5⟩; rw [HW0.out]; have hK5 : Blk w [(w.heap.size, .cells #[vI vK wl, vI vK wl] 43 (0, 0)), (w.heap.size + 1, .cells #[vI vK 0, vI vK 0, vI vK 0] 146 (0, 0)), (B, .cells (wayCs p y) 150 (0, 0)), (wr.heap.size, .cells #[vI vK (y.slot (t + k)).k, vI vK (y.slot (t + k)).l, vI vK (y.slot (t + k)).h] 146 (0, 0))] w5 := (((hK.later ((bF _ _).alloc (Nat.le_refl _) _)).swap4 (heap_alloc_new wr (.cells #[vI vK (y.slot (t + k)).k, vI vK (y.slot (t + k)).l, vI vK (y.slot (t + k)).h] 146))).later hb5); have hO5 := own_later5 HO.out hb5; clear s0 s1 sf0 sf1 slt z0 z1 z2 zf0 zf1 zf2 zlt yW ylt; clear i0 i1 i2; obtain ⟨s0, s1, sf0, sf1, slt⟩ := row2 (hK5.2 _ mcS); obtain ⟨z0, z1, z2, zf0, zf1, zf2, zlt⟩ := row3 (hK5.2 _ (mcO _ mcS)); have yW : WayAt _ B _ _ := (hK5.2 _ (mcO _ (mcO _ mcS))); have ylt := yW.lt; obtain ⟨x0, x1, x2, xf0, xf1, xf2, xlt⟩ := row3 (hK5.2 _ (mcO _ (mcO _ (mcO _ mcS))))))
          | fail)
        have hbw := hK5.1
        exact bodyPost_ret (v := .tuple #[.agg #[vI vK 0, vI vK 0, vI vK 0], vI vK E]) (by simp [results, Tryz.results152, go_sem, *]) rfl (Or.inl ⟨k, hlt, HZ.out, HWT.out, by rw [HE.out], (by repeat' first | with_reducible (first | exact hbw | exact bF _ _ | refine bA ?_ ?_ _ | refine bS ?_ ?_ _ | refine bD ?_ | refine below_setRow ?_ ?_ _) | ((try dsimp only); omega) | (simp; done) | (simp; omega))⟩)
    · obtain rfl : k = 1 := by omega
      obtain ⟨s0, s1, sf0, sf1, slt⟩ := row2 (hK.2 _ mcS); obtain ⟨z0, z1, z2, zf0, zf1, zf2, zlt⟩ := row3 (hK.2 _ (mcO _ mcS)); have yW : WayAt _ B _ _ := (hK.2 _ (mcO _ (mcO _ mcS))); have ylt := yW.lt
      go_wp2_with (first
        | (go_at_call 36; go_must (refine (joined_own HO.out (by omega)).mono ?_; rintro e w5 ⟨rfl, hb5⟩; have hK5 := hK.later hb5))
        | (go_at_call 150; go_must (refine (vnumber_any _ _ _).mono ?_; rintro e w6 ⟨rfl, hb6⟩; simp only [Kno.v, knoNum]; have hK6 := hK5.later hb6; have hbw := hK6.1; clear s0 s1 sf0 sf1 slt z0 z1 z2 zf0 zf1 zf2 zlt yW ylt; obtain ⟨s0, s1, sf0, sf1, slt⟩ := row2 (hK6.2 _ mcS); obtain ⟨z0, z1, z2, zf0, zf1, zf2, zlt⟩ := row3 (hK6.2 _ (mcO _ mcS)); have yW : WayAt _ B _ _ := (hK6.2 _ (mcO _ (mcO _ mcS))); have ylt := yW.lt))
        | fail)
      exact bodyPost_ret (v := .tuple #[.agg #[vI vK 1, vI vK (joinTo (bdAt y t) 1).1, vI vK (joinTo (bdAt y t) 1).2], vI vK 0]) (by simp [results, Tryz.results152, go_sem, *]) rfl (Or.inr ⟨HZ.out 0 (by omega), rfl, (by repeat' first | with_reducible (first | exact hbw | exact bF _ _ | refine bA ?_ ?_ _ | refine bS ?_ ?_ _ | refine bD ?_ | refine below_setRow ?_ ?_ _) | ((try dsimp only); omega) | (simp; done) | (simp; omega))⟩)
theorem vkept_many (B t m : Nat) (wl wh p : Int) (y : Way) (htm : t + m < 16) (e1 : IntKind.i64.wrap (wl + 16) = (t : Int)) (e2 : IntKind.i64.wrap (wh + 16) = (t : Int) + (m : Int)) (hne : ¬ wh = wl)  (w : World) (hW : WayAt w B p y) :
    Calls Tryz.prog 152 #[.pointer (some ⟨B, 0, none⟩), .agg #[vI vK wl, vI vK wh]] w fun e w' => (∃ k, k < (m + 1) ∧ (∀ j, j < k → wantAt y t j = 0) ∧ wantAt y t k ≠ 0 ∧ e = .returned (.tuple #[.agg #[vI vK 0, vI vK 0, vI vK 0], vI vK (wantAt y t k)]) ∧ Below w.heap.size w w') ∨ ((∀ j, j < (m + 1) → wantAt y t j = 0) ∧ e = .returned (.tuple #[.agg #[vI vK 1, vI vK (joinTo (bdAt y t) (m + 1)).1, vI vK (joinTo (bdAt y t) (m + 1)).2], vI vK 0]) ∧ Below w.heap.size w w') := by
  have hK0 : Blk w [(w.heap.size, .cells #[vI vK wl, vI vK wh] 43 (0, 0)), (w.heap.size + 1, .cells #[vI vK 0, vI vK 0, vI vK 0] 146 (0, 0)), (B, .cells (wayCs p y) 150 (0, 0))] _ := (((Blk.nil (((bF _ _).alloc (Nat.le_refl _) _).alloc (by simp) _)).cons ((hW.alloc _).alloc _)).cons (heap_alloc2_new w (.cells #[vI vK wl, vI vK wh] 43) (.cells #[vI vK 0, vI vK 0, vI vK 0] 146))).cons (by rw [Below.heap_alloc _ _ _ (by simp)]; exact heap_alloc_new _ _)
  have hB := hW.lt
  have ht0 : (0 : Int) ≤ (t : Int) := by omega
  have hm0 : (t : Int) ≤ (t : Int) + (m : Int) + 1 := by omega
  have hm1 : (t : Int) + (m : Int) + 1 ≤ 16 := by omega
  have e3 : IntKind.i64.wrap ((t : Int) + (m : Int) + 1) = (t : Int) + (m : Int) + 1 := by rw [IntWalk.i64_left]; exact wrap64_in (by omega) (by omega)
  have ht : t < 16 := by omega
  go_enter Tryz.func152, Tryz.ntmps152
  go_wp2_with fail
  refine wp_float (C := Blk w [(w.heap.size, .cells #[vI vK wl, vI vK wh] 43 (0, 0)), (w.heap.size + 1, .cells #[vI vK 0, vI vK 0, vI vK 0] 146 (0, 0)), (B, .cells (wayCs p y) 150 (0, 0))]) (n0 := w.heap.size) 11 [] [] (by kernel_rfl) (by kernel_rfl) (fun d _ _ _ _ h => by cases d <;> exact h) (Blk.stable _ _) (Blk.room0 _ _) hK0.drew trivial ?_
  simp only [List.take_succ_cons, List.take_zero, List.drop_succ_cons, List.drop_zero, List.length_nil, Nat.reduceAdd]
  repeat (first
    | (refine wpQ_skip (by rfl) ?_; simp only [Act.put, siA, scZ, scS])
    | (refine wpQ_yield (by rfl) (v := ?_) ?_ ?_; rotate_left; (intro w2 hC; obtain ⟨s0, s1, sf0, sf1, slt⟩ := row2 (hC.2 _ mcS); obtain ⟨z0, z1, z2, zf0, zf1, zf2, zlt⟩ := row3 (hC.2 _ (mcO _ mcS)); have yW : WayAt _ B _ _ := (hC.2 _ (mcO _ (mcO _ mcS))); have ylt := yW.lt; go_simp; try with_reducible rfl); simp only [Act.put, siA, scZ, scS]))
  refine wpQ_nil ?_
  intro w3 hC hB3
  obtain ⟨s0, s1, sf0, sf1, slt⟩ := row2 (hC.2 _ mcS); obtain ⟨z0, z1, z2, zf0, zf1, zf2, zlt⟩ := row3 (hC.2 _ (mcO _ mcS)); have yW : WayAt _ B _ _ := (hC.2 _ (mcO _ (mcO _ mcS))); have ylt := yW.lt
  go_wp2_with fail
  have e4 : ((t : Int) + (m : Int) + 1).toNat - t = m + 1 := by omega
  rw [e4]
  clear e4
  have hK3 := hC
  clear s0 s1 sf0 sf1 slt z0 z1 z2 zf0 zf1 zf2 zlt yW ylt hC hB3 hK0
  refine wp_float (C := Blk w [(w.heap.size, .cells #[vI vK wl, vI vK wh] 43 (0, 0)), (w.heap.size + 1, .cells #[vI vK 0, vI vK 0, vI vK 0] 146 (0, 0)), (B, .cells (wayCs p y) 150 (0, 0))]) (n0 := w.heap.size) 11 [] [] (by kernel_rfl) (by kernel_rfl) (fun d _ _ _ _ h => by cases d <;> exact h) (Blk.stable _ _) (Blk.room0 _ _) hK3.drew trivial ?_
  simp only [List.take_succ_cons, List.take_zero, List.drop_succ_cons, List.drop_zero, List.length_nil, Nat.reduceAdd]
  repeat (first
    | (refine wpQ_skip (by rfl) ?_; simp only [Act.put, siA, scZ, scS])
    | (refine wpQ_yield (by rfl) (v := ?_) ?_ ?_; rotate_left; (intro w2 hC; obtain ⟨s0, s1, sf0, sf1, slt⟩ := row2 (hC.2 _ mcS); obtain ⟨z0, z1, z2, zf0, zf1, zf2, zlt⟩ := row3 (hC.2 _ (mcO _ mcS)); have yW : WayAt _ B _ _ := (hC.2 _ (mcO _ (mcO _ mcS))); have ylt := yW.lt; obtain ⟨i0, i1, i2⟩ := yW.slot ht; go_simp; try with_reducible rfl); simp only [Act.put, siA, scZ, scS])
    | (refine wpQ_enter (by rfl) ?_; apply Exists.intro; refine ⟨fun w2 hC => ?_, ?_⟩; (obtain ⟨s0, s1, sf0, sf1, slt⟩ := row2 (hC.2 _ mcS); obtain ⟨z0, z1, z2, zf0, zf1, zf2, zlt⟩ := row3 (hC.2 _ (mcO _ mcS)); have yW : WayAt _ B _ _ := (hC.2 _ (mcO _ (mcO _ mcS))); have ylt := yW.lt; obtain ⟨i0, i1, i2⟩ := yW.slot ht; go_simp; apply qb_enter; first | (go_at_call 37; exact one_is _ w2)); simp only [Act.put, siA, scZ, scS]))
  refine wpQ_nil ?_
  intro w4 hC hB4
  obtain ⟨s0, s1, sf0, sf1, slt⟩ := row2 (hC.2 _ mcS); obtain ⟨z0, z1, z2, zf0, zf1, zf2, zlt⟩ := row3 (hC.2 _ (mcO _ mcS)); have yW : WayAt _ B _ _ := (hC.2 _ (mcO _ (mcO _ mcS))); have ylt := yW.lt; obtain ⟨i0, i1, i2⟩ := yW.slot ht
  have hK4 := hC
  go_wp2_with fail
  obtain ⟨j0, hj, hy0, hy1, hy2⟩ := info_parts Tryz.infoB
  clear s0 s1 sf0 sf1 slt z0 z1 z2 zf0 zf1 zf2 zlt yW ylt i0 i1 i2 hC hB4 hK3
  have HK4 : Hid (Blk w [(w.heap.size, .cells #[vI vK wl, vI vK wh] 43 (0, 0)), (w.heap.size + 1, .cells #[vI vK 0, vI vK 0, vI vK 0] 146 (0, 0)), (B, .cells (wayCs p y) 150 (0, 0))] w4) := hK4
  clear hK4
  go_loopw [7, 39] (fun v i wr => ∃ k : Nat, i = vI vK k ∧ k ≤ (m + 1) ∧ Hid (Blk w [(w.heap.size, .cells #[vI vK wl, vI vK wh] 43 (0, 0)), (w.heap.size + 1, .cells #[vI vK 0, vI vK 0, vI vK 0] 146 (0, 0)), (B, .cells (wayCs p y) 150 (0, 0))] wr) ∧ Hid (wr.ownsRow (w.heap.size + 1 + 1) 43 2 v k (bdCells (bdAt y t) k)) ∧ Hid (∀ j, j < k → wantAt y t j = 0)) (fun _ i _ => (m + 1) - (intOf i).toNat)
  case atStart => exact ⟨0, rfl, by omega, HK4.out, World.ownsRow_nil _ _ _ _, fun j hj => absurd hj (by omega)⟩
  case round =>
    obtain ⟨k, rfl, hk, H, HO, HZ⟩ := hrel
    have hK := H.out
    clear HK4
    have hk0 : (0 : Int) ≤ (k : Int) := by omega
    by_cases hlt : k < (m + 1)
    · have hlt' : (k : Int) < ((m : Int) + 1 : Int) := by omega
      obtain ⟨s0, s1, sf0, sf1, slt⟩ := row2 (hK.2 _ mcS); obtain ⟨z0, z1, z2, zf0, zf1, zf2, zlt⟩ := row3 (hK.2 _ (mcO _ mcS)); have yW : WayAt _ B _ _ := (hK.2 _ (mcO _ (mcO _ mcS))); have ylt := yW.lt
      obtain ⟨i0, i1, i2⟩ := yW.slot (d := t + k) (by omega)
      have e5 : 34 + (t + k) * 3 = 34 + t * 3 + k * 3 := by omega
      rw [e5] at i0 i1 i2
      clear e5
      by_cases hwt : wantAt y t k = 0
      · have HW0 : Hid (knoWant ⟨(y.slot (t + k)).k, (y.slot (t + k)).l, (y.slot (t + k)).h⟩ = 0) := hwt
        clear hwt
        go_wp2_with (first
          | (go_at_call 107; go_must (refine (vwant_any _ _ _ _).mono ?_; rintro e w5 ⟨rfl, hb5⟩; rw [HW0.out]; have hK5 : Blk w [(w.heap.size, .cells #[vI vK wl, vI vK wh] 43 (0, 0)), (w.heap.size + 1, .cells #[vI vK 0, vI vK 0, vI vK 0] 146 (0, 0)), (B, .cells (wayCs p y) 150 (0, 0)), (wr.heap.size, .cells #[vI vK (y.slot (t + k)).k, vI vK (y.slot (t + k)).l, vI vK (y.slot (t + k)).h] 146 (0, 0))] w5 := (((hK.later ((bF _ _).alloc (Nat.le_refl _) _)).swap4 (heap_alloc_new wr (.cells #[vI vK (y.slot (t + k)).k, vI vK (y.slot (t + k)).l, vI vK (y.slot (t + k)).h] 146))).later hb5); have hO5 := own_later5 HO.out hb5; clear s0 s1 sf0 sf1 slt z0 z1 z2 zf0 zf1 zf2 zlt yW ylt; clear i0 i1 i2; obtain ⟨s0, s1, sf0, sf1, slt⟩ := row2 (hK5.2 _ mcS); obtain ⟨z0, z1, z2, zf0, zf1, zf2, zlt⟩ := row3 (hK5.2 _ (mcO _ mcS)); have yW : WayAt _ B _ _ := (hK5.2 _ (mcO _ (mcO _ mcS))); have ylt := yW.lt; obtain ⟨x0, x1, x2, xf0, xf1, xf2, xlt⟩ := row3 (hK5.2 _ (mcO _ (mcO _ (mcO _ mcS))))))
          | (at_builtin; refine wpList_append_own _ rfl (.tmp 49) (.tmp 52) 91 rfl (w.heap.size + 1 + 1) 43 j0 (.agg #[vI vK 0, vI vK 0]) 2 16 Tryz.underlying91 hj hy0 hy1 hy2 rfl (by decide) _ k (bdCells (bdAt y t) k) rfl (hO5.alloc _) ⟨w5.heap.size, 0, none⟩ 1 1 [vI vK (y.slot (t + k)).l, vI vK (y.slot (t + k)).h] rfl rfl (cell_two rfl) (by intro u hu; simp at hu; rcases hu with rfl | rfl <;> rfl) (by unfold maxLen; omega) (by omega) (by simp; omega) ?_; intro v6 w6 hown6 hgrow6 _)
          | fail)
        go_roundw
        case rel =>
          refine ⟨k + 1, by go_num, by omega, ?_, hown6, ?_⟩
          · exact ((hK5.more4.later ((bF _ _).alloc (Nat.le_refl _) _)).grown hgrow6 (b := w.heap.size + 1 + 1) (fun j hj => (hO5.lt j hj).1) (by omega) (by intro x hx; simp only [List.mem_cons, List.not_mem_nil, or_false] at hx; rcases hx with rfl | rfl | rfl <;> (show _ < _; omega)))
          · intro j hj
            by_cases e : j = k
            · rw [e]; exact HW0.out
            · exact HZ.out j (by omega)
        case measure => simp [intOf]; omega
      · have hwb : (wantAt y t k != 0) = true := by simpa using hwt
        have HWT : Hid (wantAt y t k ≠ 0) := hwt
        obtain ⟨E, hE⟩ : ∃ E, wantAt y t k = E := ⟨_, rfl⟩
        have HW0 : Hid (knoWant ⟨(y.slot (t + k)).k, (y.slot (t + k)).l, (y.slot (t + k)).h⟩ = E) := hE
        have HE : Hid (wantAt y t k = E) := hE
        rw [hE] at hwb
        clear hwt hE
        go_wp2_with (first
          | (go_at_call 107; go_must (refine (vwant_any _ _ _ _).mono ?_; rintro e w5 ⟨rfl, hb5⟩; rw [HW0.out]; have hK5 : Blk w [(w.heap.size, .cells #[vI vK wl, vI vK wh] 43 (0, 0)), (w.heap.size + 1, .cells #[vI vK 0, vI vK 0, vI vK 0] 146 (0, 0)), (B, .cells (wayCs p y) 150 (0, 0)), (wr.heap.size, .cells #[vI vK (y.slot (t + k)).k, vI vK (y.slot (t + k)).l, vI vK (y.slot (t + k)).h] 146 (0, 0))] w5 := (((hK.later ((bF _ _).alloc (Nat.le_refl _) _)).swap4 (heap_alloc_new wr (.cells #[vI vK (y.slot (t + k)).k, vI vK (y.slot (t + k)).l, vI vK (y.slot (t + k)).h] 146))).later hb5); have hO5 := own_later5 HO.out hb5; clear s0 s1 sf0 sf1 slt z0 z1 z2 zf0 zf1 zf2 zlt yW ylt; clear i0 i1 i2; obtain ⟨s0, s1, sf0, sf1, slt⟩ := row2 (hK5.2 _ mcS); obtain ⟨z0, z1, z2, zf0, zf1, zf2, zlt⟩ := row3 (hK5.2 _ (mcO _ mcS)); have yW : WayAt _ B _ _ := (hK5.2 _ (mcO _ (mcO _ mcS))); have ylt := yW.lt; obtain ⟨x0, x1, x2, xf0, xf1, xf2, xlt⟩ := row3 (hK5.2 _ (mcO _ (mcO _ (mcO _ mcS))))))
          | fail)
        have hbw := hK5.1
        exact bodyPost_ret (v := .tuple #[.agg #[vI vK 0, vI vK 0, vI vK 0], vI vK E]) (by simp [results, Tryz.results152, go_sem, *]) rfl (Or.inl ⟨k, hlt, HZ.out, HWT.out, by rw [HE.out], (by repeat' first | with_reducible (first | exact hbw | exact bF _ _ | refine bA ?_ ?_ _ | refine bS ?_ ?_ _ | refine bD ?_ | refine below_setRow ?_ ?_ _) | ((try dsimp only); omega) | (simp; done) | (simp; omega))⟩)
    · obtain rfl : k = (m + 1) := by omega
      obtain ⟨s0, s1, sf0, sf1, slt⟩ := row2 (hK.2 _ mcS); obtain ⟨z0, z1, z2, zf0, zf1, zf2, zlt⟩ := row3 (hK.2 _ (mcO _ mcS)); have yW : WayAt _ B _ _ := (hK.2 _ (mcO _ (mcO _ mcS))); have ylt := yW.lt
      go_wp2_with (first
        | (go_at_call 36; go_must (refine (joined_own HO.out (by omega)).mono ?_; rintro e w5 ⟨rfl, hb5⟩; have hK5 := hK.later hb5))
        | (go_at_call 150; go_must (refine (vnumber_any _ _ _).mono ?_; rintro e w6 ⟨rfl, hb6⟩; simp only [Kno.v, knoNum]; have hK6 := hK5.later hb6; have hbw := hK6.1; clear s0 s1 sf0 sf1 slt z0 z1 z2 zf0 zf1 zf2 zlt yW ylt; obtain ⟨s0, s1, sf0, sf1, slt⟩ := row2 (hK6.2 _ mcS); obtain ⟨z0, z1, z2, zf0, zf1, zf2, zlt⟩ := row3 (hK6.2 _ (mcO _ mcS)); have yW : WayAt _ B _ _ := (hK6.2 _ (mcO _ (mcO _ mcS))); have ylt := yW.lt))
        | fail)
      exact bodyPost_ret (v := .tuple #[.agg #[vI vK 1, vI vK (joinTo (bdAt y t) (m + 1)).1, vI vK (joinTo (bdAt y t) (m + 1)).2], vI vK 0]) (by simp [results, Tryz.results152, go_sem, *]) rfl (Or.inr ⟨HZ.out, rfl, (by repeat' first | with_reducible (first | exact hbw | exact bF _ _ | refine bA ?_ ?_ _ | refine bS ?_ ?_ _ | refine bD ?_ | refine below_setRow ?_ ?_ _) | ((try dsimp only); omega) | (simp; done) | (simp; omega))⟩)
end Go.Proofs.YtednmkhdehlojaaGreatDoor
