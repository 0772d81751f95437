/-
  What package verify's ask returns: which ways lead on from a step that asks. Conditions: the way is right; the step's code asks, and its numbers are few. gatehousekeep.VerifyDead returns true where what it calls answers as it should. Conditions: said. What package verify's look returns: which ways lead on from a step. Conditions: the way is right; the step is right.
-/
import Derived.Test.YtednmkhdehlojaaGreatDoorJd13
import Derived.Test.YtednmkhdehlojaaGreatDoorJd8
import Derived.Test.YtednmkhdehlojaaGreatDoorJd9
import Derived.Laws.AppendOwnNone
open Go.Value renaming int → vI
open Go.IntKind renaming i64 → vK
open Go.RowKit.Below renaming alloc → bA, setCell → bS, drew → bD, refl → bF
set_option maxHeartbeats 4000000
set_option maxRecDepth 1000000
namespace Go.Proofs.YtednmkhdehlojaaGreatDoor
open Go.ChangeShapes Go.WideShapes Go.ChangeAt Go.RowKit
attribute [local simp] drew_size drewN_size setCell_size
set_option linter.unusedVariables false
theorem wpList_callEx {P : Program} {ops : Array Oper} {rest : List Oper} {o : Oper} {a : Act} {w : World} {Q : Exit → Act → World → Prop} (hg : o.guard = none)
    (f : FuncId) (args : Array Value) (hrun : (execOp a.eval o).run P w = .ok (.enter f args) w) {R : Value → World → Prop}
    (hc : Calls P f args w fun e w' => ∃ v, e = .returned v ∧ R v w') (h : ∀ v w', R v w' → wpList P ops Q rest (a.put o.dst v) w') : wpList P ops Q (o :: rest) a w := by
  refine wpList_plain hg fun K hK => ?_
  unfold Oper.wp
  rw [hrun, Oper.upon_enter]
  refine hc.mono fun e w' hh => ?_
  obtain ⟨v, rfl, hr⟩ := hh
  exact hK _ _ (h v w' hr)
theorem vaskn_all {d s : Nat} {c o n p : Int} {r : Bool} {y : Way} (hd : d < 11) (hs : s < 11) (hc : 15 ≤ c ∧ c ≤ 24) (hp0 : 0 ≤ p) (hp1 : p ≤ 1000) (ho0 : 0 ≤ o) (ho1 : o ≤ 1000) (hy : y.Ok) (hn : In64 n) (w : World) :
    Calls Tryz.prog 147 #[.agg (wayCs p y), .agg #[vI vK c, vI vK d, vI vK s, .bool r, vI vK o, vI vK n]] w fun e w' => ∃ v, e = .returned v ∧ WaysAt w' w.heap.size v ((y.askNumbers c d s r o n).map fun x => (p + (1 + x.1), x.2)) ∧ Below w.heap.size w w' := by
  have HN1 := fun (W : World) (B : Nat) (hW : WayAt W B (p + 1) y) => vnarrow_all (c := c) (o := o) (r := r) (code := oppV c) hd hs hy hn hW
  have HN2 := fun (W : World) (B : Nat) (hW : WayAt W B (p + (1 + o)) y) => vnarrow_all (c := c) (o := o) (r := r) (code := c) hd hs hy hn hW
  unfold Way.askNumbers
  generalize y.narrow (oppV c) d s r n = z1 at *
  generalize y.narrow c d s r n = z2 at *
  obtain ⟨b1, y1⟩ := z1
  obtain ⟨b2, y2⟩ := z2
  have h := vaskn_bb d s c o n p r b1 b2 y y1 y2 hc hp0 hp1 ho0 ho1 HN1 HN2 w
  refine h.mono fun e w' hh => ?_
  obtain ⟨v, h1, h2, h3⟩ := hh
  refine ⟨v, h1, ?_, h3⟩
  cases b1 <;> cases b2 <;> simpa using h2
theorem vaskp_all {d s : Nat} {c o n p : Int} {r : Bool} {y : Way} (hd : d < 11) (hs : s < 11) (hc : 15 ≤ c ∧ c ≤ 24) (hp0 : 0 ≤ p) (hp1 : p ≤ 1000) (ho0 : 0 ≤ o) (ho1 : o ≤ 1000) (w : World) :
    Calls Tryz.prog 148 #[.agg (wayCs p y), .agg #[vI vK c, vI vK d, vI vK s, .bool r, vI vK o, vI vK n]] w fun e w' => ∃ v, e = .returned v ∧ WaysAt w' w.heap.size v ((y.askPlace c d o).map fun x => (p + (1 + x.1), x.2)) ∧ Below w.heap.size w w' := by
  have h := vaskp_bb d s c o n p r y hd hp0 hp1 ho0 ho1 (c == 16) ((y.reg d).k != 5) rfl rfl w
  refine h.mono fun e w' hh => ?_
  obtain ⟨v, h1, h2, h3⟩ := hh
  refine ⟨v, h1, ?_, h3⟩
  unfold Way.askPlace
  by_cases e16 : c = 16 <;> by_cases e5 : (y.reg d).k = 5 <;> simpa [e16, e5, knoNum] using h2
theorem vask_all {d s : Nat} {c o n p : Int} {r : Bool} {y : Way} (hd : d < 11) (hs : s < 11) (hc : 15 ≤ c ∧ c ≤ 24) (hp0 : 0 ≤ p) (hp1 : p ≤ 1000) (ho0 : 0 ≤ o) (ho1 : o ≤ 1000) (hy : y.Ok) (hn : In64 n) (w : World) :
    Calls Tryz.prog 105 #[.agg (wayCs p y), .agg #[vI vK c, vI vK d, vI vK s, .bool r, vI vK o, vI vK n]] w fun e w' => ∃ v, e = .returned (.tuple #[v, vI vK (y.ask c d s r o n).2]) ∧ WaysAt w' w.heap.size v ((y.ask c d s r o n).1.map fun x => (p + (1 + x.1), x.2)) ∧ Below w.heap.size w w' := by
  have HA : Hid (∀ W : World, Calls Tryz.prog 147 #[.agg (wayCs p y), .agg #[vI vK c, vI vK d, vI vK s, .bool r, vI vK o, vI vK n]] W fun e w' => ∃ v, e = .returned v ∧ WaysAt w' W.heap.size v ((y.askNumbers c d s r o n).map fun x => (p + (1 + x.1), x.2)) ∧ Below W.heap.size W w') := fun W => vaskn_all (r := r) hd hs hc hp0 hp1 ho0 ho1 hy hn W
  have HP : Hid (∀ W : World, Calls Tryz.prog 148 #[.agg (wayCs p y), .agg #[vI vK c, vI vK d, vI vK s, .bool r, vI vK o, vI vK n]] W fun e w' => ∃ v, e = .returned v ∧ WaysAt w' W.heap.size v ((y.askPlace c d o).map fun x => (p + (1 + x.1), x.2)) ∧ Below W.heap.size W w') := fun W => vaskp_all (r := r) (n := n) (y := y) hd hs hc hp0 hp1 ho0 ho1 W
  clear hy hn hc hp0 hp1 ho0 ho1
  unfold Way.ask
  rcases hv : y.second s r n with ⟨bk, bl, bh⟩
  have HB : Hid (y.second s r n = ⟨bk, bl, bh⟩) := hv
  clear hv
  dsimp only
  rcases hX : (if (y.reg d).k = 0 ∨ bk = 0 then (([] : List (Int × Way)), (8 : Int)) else if (y.reg d).k = 1 ∧ bk = 1 then (y.askNumbers c d s r o n, 0) else if (c ≠ 15 ∧ c ≠ 16) ∨ r = true ∨ n ≠ 0 then ([], 1) else (y.askPlace c d o, 0)) with ⟨ls, E⟩
  have HX : Hid ((if (y.reg d).k = 0 ∨ bk = 0 then (([] : List (Int × Way)), (8 : Int)) else if (y.reg d).k = 1 ∧ bk = 1 then (y.askNumbers c d s r o n, 0) else if (c ≠ 15 ∧ c ≠ 16) ∨ r = true ∨ n ≠ 0 then ([], 1) else (y.askPlace c d o, 0)) = (ls, E)) := hX
  clear hX
  dsimp only
  have hK0 : Blk w [(w.heap.size, .cells (wayCs p y) 150 (0, 0)), (w.heap.size + 1, .cells #[vI vK c, vI vK d, vI vK s, .bool r, vI vK o, vI vK n] 49 (0, 0))] _ := ((Blk.nil (((bF _ _).alloc (Nat.le_refl _) _).alloc (by simp) _)).cons (heap_alloc2_new w (.cells (wayCs p y) 150) (.cells #[vI vK c, vI vK d, vI vK s, .bool r, vI vK o, vI vK n] 49))).cons ((WayAt.start w p y).alloc (.cells #[vI vK c, vI vK d, vI vK s, .bool r, vI vK o, vI vK n] 49))
  have hd0 : (0 : Int) ≤ (d : Int) := by omega
  have hd1 : (d : Int) < 11 := by omega
  go_enter Tryz.func105, Tryz.ntmps105
  go_wp2_with fail
  refine wp_float (C := Blk w [(w.heap.size, .cells (wayCs p y) 150 (0, 0)), (w.heap.size + 1, .cells #[vI vK c, vI vK d, vI vK s, .bool r, vI vK o, vI vK n] 49 (0, 0))]) (n0 := w.heap.size + 1 + 1) 7 [] [.cells #[vI vK 0, vI vK 0, vI vK 0] 146 (0, 0), .cells #[vI vK 0, vI vK 0, vI vK 0] 146 (0, 0)] (by kernel_rfl) (by kernel_rfl) (fun d _ _ _ _ h => by cases d <;> exact h) (Blk.stable _ _) (Blk.room w (mcO _ mcS)) hK0.drew ⟨⟨rfl, fun a w2 hC => by go_simp; try rfl⟩, ⟨rfl, fun a w2 hC => by go_simp; try rfl⟩, trivial⟩ ?_
  simp only [List.take_succ_cons, List.take_zero, List.drop_succ_cons, List.drop_zero, List.length_cons, List.length_nil, Nat.reduceAdd]
  repeat (first
    | (refine wpQ_skip (by rfl) ?_; simp only [Act.put, siA, scZ, scS])
    | (refine wpQ_yield (by rfl) (v := ?_) ?_ ?_; rotate_left; (intro w2 hC; have yW : WayAt _ w.heap.size _ _ := (hC.2 _ mcS); have ylt := yW.lt; obtain ⟨i0, i1, i2⟩ := yW.reg hd; obtain ⟨p0, p1, p2, p3, p4, p5, ltS⟩ := row6 (hC.2 _ (mcO _ mcS)); go_simp; try with_reducible rfl); simp only [Act.put, siA, scZ, scS])
    | (refine wpQ_enter (by rfl) ?_; apply Exists.intro; refine ⟨fun w2 hC => ?_, ?_⟩; (have yW : WayAt _ w.heap.size _ _ := (hC.2 _ mcS); have ylt := yW.lt; obtain ⟨i0, i1, i2⟩ := yW.reg hd; obtain ⟨p0, p1, p2, p3, p4, p5, ltS⟩ := row6 (hC.2 _ (mcO _ mcS)); go_simp; apply qb_enter; first | (go_at_call 146; exact (by have hq := vsecond_any w.heap.size s c d o n r p y hs w2 yW; rw [HB.out] at hq; unfold Kno.v at hq; exact hq))); simp only [Act.put, siA, scZ, scS]))
  refine wpQ_nil ?_
  intro L h5 g5 K h6 g6 w3 hC hB3
  have hne : K ≠ L := (FB.upd_none h6).1
  have hne' : L ≠ K := fun e => hne e.symm
  have bK := hB3 K _ (FB.at_new _ _ _)
  have bL := hB3 L _ (FB.at_old hne' (FB.at_new _ _ _))
  obtain ⟨l0, l1, l2, lf0, lf1, lf2, llt⟩ := row3 bL
  obtain ⟨k0, k1, k2, kf0, kf1, kf2, klt⟩ := row3 bK
  have yW : WayAt _ w.heap.size _ _ := (hC.2 _ mcS); have ylt := yW.lt; obtain ⟨i0, i1, i2⟩ := yW.reg hd; obtain ⟨p0, p1, p2, p3, p4, p5, ltS⟩ := row6 (hC.2 _ (mcO _ mcS))
  have hbw := hC.1
  have n1 : w.heap.size + 1 ≠ L := by omega
  have n2 : w.heap.size ≠ L := by omega
  have n3 : w.heap.size + 1 ≠ K := by omega
  have n4 : w.heap.size ≠ K := by omega
  simp only [ptrTo]
  go_upto_region 2 with fail
  have hK1 : Blk w [(L, .cells #[vI vK (y.reg d).k, vI vK (y.reg d).l, vI vK (y.reg d).h] 146 (0, 0)), (K, .cells #[vI vK bk, vI vK bl, vI vK bh] 146 (0, 0)), (w.heap.size, .cells (wayCs p y) 150 (0, 0)), (w.heap.size + 1, .cells #[vI vK c, vI vK d, vI vK s, .bool r, vI vK o, vI vK n] 49 (0, 0))] (((((((w3.setCell ⟨L, 0, none⟩ (vI vK (y.reg d).k)).setCell ⟨L, 1, none⟩ (vI vK (y.reg d).l)).setCell ⟨L, 2, none⟩ (vI vK (y.reg d).h))).setCell ⟨K, 0, none⟩ (vI vK bk)).setCell ⟨K, 1, none⟩ (vI vK bl)).setCell ⟨K, 2, none⟩ (vI vK bh)) := ((((Blk.nil (by repeat' first | with_reducible (first | exact hbw | exact bF _ _ | refine bA ?_ ?_ _ | refine bS ?_ ?_ _ | refine bD ?_ | refine below_setRow ?_ ?_ _) | ((try dsimp only); omega) | (simp; done) | (simp; omega))).cons (off3 (off3 (hC.2 _ (mcO _ mcS)) n1) n3)).cons (off3 (off3 (hC.2 _ mcS) n2) n4)).cons (put3 (off3 bK hne))).cons (off3 (put3 bL) hne')
  clear l0 l1 l2 lf0 lf1 lf2 llt k0 k1 k2 kf0 kf1 kf2 klt p0 p1 p2 p3 p4 p5 ltS yW ylt i0 i1 i2
  clear hbw bL bK hB3 hC hK0 n1 n2 n3 n4 HB
  generalize (((((((w3.setCell ⟨L, 0, none⟩ (vI vK (y.reg d).k)).setCell ⟨L, 1, none⟩ (vI vK (y.reg d).l)).setCell ⟨L, 2, none⟩ (vI vK (y.reg d).h))).setCell ⟨K, 0, none⟩ (vI vK bk)).setCell ⟨K, 1, none⟩ (vI vK bl)).setCell ⟨K, 2, none⟩ (vI vK bh)) = w4 at hK1 ⊢
  obtain ⟨l0, l1, l2, lf0, lf1, lf2, llt⟩ := row3 (hK1.2 _ mcS); obtain ⟨k0, k1, k2, kf0, kf1, kf2, klt⟩ := row3 (hK1.2 _ (mcO _ mcS)); have yW : WayAt _ w.heap.size _ _ := (hK1.2 _ (mcO _ (mcO _ mcS))); have ylt := yW.lt; obtain ⟨p0, p1, p2, p3, p4, p5, ltS⟩ := row6 (hK1.2 _ (mcO _ (mcO _ (mcO _ mcS))))
  have eX := HX.out
  clear HX
  by_cases h1 : (y.reg d).k = 0
  · have x1 : ((y.reg d).k == 0) = true := by simp [h1]
    rw [if_pos (Or.inl h1)] at eX
    cases eX
    clear h1
    go_wp2_with fail
    exact bodyPost_ret (v := .tuple #[.slice none 0 0, vI vK 8]) (by simp [results, Tryz.results105, go_sem]) rfl ⟨_, rfl, WaysAt.nil _ _, hK1.1⟩
  by_cases h2 : bk = 0
  · have x1 : ((y.reg d).k == 0) = false := by simp [h1]
    have x2 : (bk == 0) = true := by simp [h2]
    rw [if_pos (Or.inr h2)] at eX
    cases eX
    clear h1 h2
    go_wp2_with fail
    exact bodyPost_ret (v := .tuple #[.slice none 0 0, vI vK 8]) (by simp [results, Tryz.results105, go_sem]) rfl ⟨_, rfl, WaysAt.nil _ _, hK1.1⟩
  rw [if_neg (fun e => e.elim h1 h2)] at eX
  have x1 : ((y.reg d).k == 0) = false := by simp [h1]
  have x2 : (bk == 0) = false := by simp [h2]
  clear h1 h2
  by_cases h34 : (y.reg d).k = 1 ∧ bk = 1
  · rw [if_pos h34] at eX
    cases eX
    have x3 : ((y.reg d).k == 1) = true := by simp [h34.1]
    have x4 : (bk == 1) = true := by simp [h34.2]
    clear h34
    go_upto_region 5 with fail
    go_step
    (refine wpList_load_row rfl 150 (.tmp 2) rfl w.heap.size rfl 150 (wayCs p y) (0, 0) _ yW Tryz.underlying150 rfl (infoW_of _ _) ?_)
    simp only [Act.put, siA, scZ, scS]
    (refine wpList_valueOf rfl (.agg #[vI vK c, vI vK d, vI vK s, .bool r, vI vK o, vI vK n]) w4 (by go_simp; try rfl) ?_); simp only [Act.put, siA, scZ, scS]
    refine wpList_callEx rfl 147 #[.agg (wayCs p y), .agg #[vI vK c, vI vK d, vI vK s, .bool r, vI vK o, vI vK n]] (by go_simp; try rfl) (HA.out w4) ?_
    intro v5 w5 hq
    obtain ⟨hA5, hB5⟩ := hq
    have hK5 := hK1.later hB5
    have hs5 := hK1.1.size
    simp only [Act.put, siA, scZ, scS]
    clear hK1 l0 l1 l2 lf0 lf1 lf2 llt k0 k1 k2 kf0 kf1 kf2 klt p0 p1 p2 p3 p4 p5 ltS yW ylt
    go_wp2_with fail
    exact bodyPost_ret (v := .tuple #[v5, vI vK 0]) (by simp [results, Tryz.results105, go_sem]) rfl ⟨_, rfl, hA5.mono hs5, hK5.1⟩
  rw [if_neg h34] at eX
  by_cases h3 : (y.reg d).k = 1
  · have x3 : ((y.reg d).k == 1) = true := by simp [h3]
    have x4 : (bk == 1) = false := by simp; exact fun e => h34 ⟨h3, e⟩
    clear h3 h34
    by_cases h5 : c = 15
    · have x5 : (c != 15) = false := by simp [h5]
      cases r
      · by_cases h7 : n = 0
        · have x7 : (n != 0) = false := by simp [h7]
          rw [if_neg (by simp [h5, h7])] at eX
          cases eX
          clear h7 h5
          go_upto_region 8 with fail
          go_step
          (refine wpList_load_row rfl 150 (.tmp 2) rfl w.heap.size rfl 150 (wayCs p y) (0, 0) _ yW Tryz.underlying150 rfl (infoW_of _ _) ?_)
          simp only [Act.put, siA, scZ, scS]
          (refine wpList_valueOf rfl (.agg #[vI vK c, vI vK d, vI vK s, .bool false, vI vK o, vI vK n]) w4 (by go_simp; try rfl) ?_); simp only [Act.put, siA, scZ, scS]
          refine wpList_callEx rfl 148 #[.agg (wayCs p y), .agg #[vI vK c, vI vK d, vI vK s, .bool false, vI vK o, vI vK n]] (by go_simp; try rfl) (HP.out w4) ?_
          intro v5 w5 hq
          obtain ⟨hA5, hB5⟩ := hq
          have hK5 := hK1.later hB5
          have hs5 := hK1.1.size
          simp only [Act.put, siA, scZ, scS]
          clear hK1 l0 l1 l2 lf0 lf1 lf2 llt k0 k1 k2 kf0 kf1 kf2 klt p0 p1 p2 p3 p4 p5 ltS yW ylt
          go_wp2_with fail
          exact bodyPost_ret (v := .tuple #[v5, vI vK 0]) (by simp [results, Tryz.results105, go_sem]) rfl ⟨_, rfl, hA5.mono hs5, hK5.1⟩
        · have x7 : (n != 0) = true := by simp [h7]
          rw [if_pos (Or.inr (Or.inr h7))] at eX
          cases eX
          clear h7 h5
          go_wp2_with fail
          exact bodyPost_ret (v := .tuple #[.slice none 0 0, vI vK 1]) (by simp [results, Tryz.results105, go_sem]) rfl ⟨_, rfl, WaysAt.nil _ _, hK1.1⟩
      · rw [if_pos (Or.inr (Or.inl rfl))] at eX
        cases eX
        clear h5
        go_wp2_with fail
        exact bodyPost_ret (v := .tuple #[.slice none 0 0, vI vK 1]) (by simp [results, Tryz.results105, go_sem]) rfl ⟨_, rfl, WaysAt.nil _ _, hK1.1⟩
    have x5 : (c != 15) = true := by simp [h5]
    by_cases h6 : c = 16
    · have x6 : (c != 16) = false := by simp [h6]
      cases r
      · by_cases h7 : n = 0
        · have x7 : (n != 0) = false := by simp [h7]
          rw [if_neg (by simp [h6, h7])] at eX
          cases eX
          clear h7 h6
          go_upto_region 8 with fail
          go_step
          (refine wpList_load_row rfl 150 (.tmp 2) rfl w.heap.size rfl 150 (wayCs p y) (0, 0) _ yW Tryz.underlying150 rfl (infoW_of _ _) ?_)
          simp only [Act.put, siA, scZ, scS]
          (refine wpList_valueOf rfl (.agg #[vI vK c, vI vK d, vI vK s, .bool false, vI vK o, vI vK n]) w4 (by go_simp; try rfl) ?_); simp only [Act.put, siA, scZ, scS]
          refine wpList_callEx rfl 148 #[.agg (wayCs p y), .agg #[vI vK c, vI vK d, vI vK s, .bool false, vI vK o, vI vK n]] (by go_simp; try rfl) (HP.out w4) ?_
          intro v5 w5 hq
          obtain ⟨hA5, hB5⟩ := hq
          have hK5 := hK1.later hB5
          have hs5 := hK1.1.size
          simp only [Act.put, siA, scZ, scS]
          clear hK1 l0 l1 l2 lf0 lf1 lf2 llt k0 k1 k2 kf0 kf1 kf2 klt p0 p1 p2 p3 p4 p5 ltS yW ylt
          go_wp2_with fail
          exact bodyPost_ret (v := .tuple #[v5, vI vK 0]) (by simp [results, Tryz.results105, go_sem]) rfl ⟨_, rfl, hA5.mono hs5, hK5.1⟩
        · have x7 : (n != 0) = true := by simp [h7]
          rw [if_pos (Or.inr (Or.inr h7))] at eX
          cases eX
          clear h7 h6
          go_wp2_with fail
          exact bodyPost_ret (v := .tuple #[.slice none 0 0, vI vK 1]) (by simp [results, Tryz.results105, go_sem]) rfl ⟨_, rfl, WaysAt.nil _ _, hK1.1⟩
      · rw [if_pos (Or.inr (Or.inl rfl))] at eX
        cases eX
        clear h6
        go_wp2_with fail
        exact bodyPost_ret (v := .tuple #[.slice none 0 0, vI vK 1]) (by simp [results, Tryz.results105, go_sem]) rfl ⟨_, rfl, WaysAt.nil _ _, hK1.1⟩
    have x6 : (c != 16) = true := by simp [h6]
    rw [if_pos (Or.inl ⟨h5, h6⟩)] at eX
    cases eX
    clear h5 h6
    go_wp2_with fail
    exact bodyPost_ret (v := .tuple #[.slice none 0 0, vI vK 1]) (by simp [results, Tryz.results105, go_sem]) rfl ⟨_, rfl, WaysAt.nil _ _, hK1.1⟩
  have x3 : ((y.reg d).k == 1) = false := by simp [h3]
  clear h3 h34
  by_cases h5 : c = 15
  · have x5 : (c != 15) = false := by simp [h5]
    cases r
    · by_cases h7 : n = 0
      · have x7 : (n != 0) = false := by simp [h7]
        rw [if_neg (by simp [h5, h7])] at eX
        cases eX
        clear h7 h5
        go_upto_region 8 with fail
        go_step
        (refine wpList_load_row rfl 150 (.tmp 2) rfl w.heap.size rfl 150 (wayCs p y) (0, 0) _ yW Tryz.underlying150 rfl (infoW_of _ _) ?_)
        simp only [Act.put, siA, scZ, scS]
        (refine wpList_valueOf rfl (.agg #[vI vK c, vI vK d, vI vK s, .bool false, vI vK o, vI vK n]) w4 (by go_simp; try rfl) ?_); simp only [Act.put, siA, scZ, scS]
        refine wpList_callEx rfl 148 #[.agg (wayCs p y), .agg #[vI vK c, vI vK d, vI vK s, .bool false, vI vK o, vI vK n]] (by go_simp; try rfl) (HP.out w4) ?_
        intro v5 w5 hq
        obtain ⟨hA5, hB5⟩ := hq
        have hK5 := hK1.later hB5
        have hs5 := hK1.1.size
        simp only [Act.put, siA, scZ, scS]
        clear hK1 l0 l1 l2 lf0 lf1 lf2 llt k0 k1 k2 kf0 kf1 kf2 klt p0 p1 p2 p3 p4 p5 ltS yW ylt
        go_wp2_with fail
        exact bodyPost_ret (v := .tuple #[v5, vI vK 0]) (by simp [results, Tryz.results105, go_sem]) rfl ⟨_, rfl, hA5.mono hs5, hK5.1⟩
      · have x7 : (n != 0) = true := by simp [h7]
        rw [if_pos (Or.inr (Or.inr h7))] at eX
        cases eX
        clear h7 h5
        go_wp2_with fail
        exact bodyPost_ret (v := .tuple #[.slice none 0 0, vI vK 1]) (by simp [results, Tryz.results105, go_sem]) rfl ⟨_, rfl, WaysAt.nil _ _, hK1.1⟩
    · rw [if_pos (Or.inr (Or.inl rfl))] at eX
      cases eX
      clear h5
      go_wp2_with fail
      exact bodyPost_ret (v := .tuple #[.slice none 0 0, vI vK 1]) (by simp [results, Tryz.results105, go_sem]) rfl ⟨_, rfl, WaysAt.nil _ _, hK1.1⟩
  have x5 : (c != 15) = true := by simp [h5]
  by_cases h6 : c = 16
  · have x6 : (c != 16) = false := by simp [h6]
    cases r
    · by_cases h7 : n = 0
      · have x7 : (n != 0) = false := by simp [h7]
        rw [if_neg (by simp [h6, h7])] at eX
        cases eX
        clear h7 h6
        go_upto_region 8 with fail
        go_step
        (refine wpList_load_row rfl 150 (.tmp 2) rfl w.heap.size rfl 150 (wayCs p y) (0, 0) _ yW Tryz.underlying150 rfl (infoW_of _ _) ?_)
        simp only [Act.put, siA, scZ, scS]
        (refine wpList_valueOf rfl (.agg #[vI vK c, vI vK d, vI vK s, .bool false, vI vK o, vI vK n]) w4 (by go_simp; try rfl) ?_); simp only [Act.put, siA, scZ, scS]
        refine wpList_callEx rfl 148 #[.agg (wayCs p y), .agg #[vI vK c, vI vK d, vI vK s, .bool false, vI vK o, vI vK n]] (by go_simp; try rfl) (HP.out w4) ?_
        intro v5 w5 hq
        obtain ⟨hA5, hB5⟩ := hq
        have hK5 := hK1.later hB5
        have hs5 := hK1.1.size
        simp only [Act.put, siA, scZ, scS]
        clear hK1 l0 l1 l2 lf0 lf1 lf2 llt k0 k1 k2 kf0 kf1 kf2 klt p0 p1 p2 p3 p4 p5 ltS yW ylt
        go_wp2_with fail
        exact bodyPost_ret (v := .tuple #[v5, vI vK 0]) (by simp [results, Tryz.results105, go_sem]) rfl ⟨_, rfl, hA5.mono hs5, hK5.1⟩
      · have x7 : (n != 0) = true := by simp [h7]
        rw [if_pos (Or.inr (Or.inr h7))] at eX
        cases eX
        clear h7 h6
        go_wp2_with fail
        exact bodyPost_ret (v := .tuple #[.slice none 0 0, vI vK 1]) (by simp [results, Tryz.results105, go_sem]) rfl ⟨_, rfl, WaysAt.nil _ _, hK1.1⟩
    · rw [if_pos (Or.inr (Or.inl rfl))] at eX
      cases eX
      clear h6
      go_wp2_with fail
      exact bodyPost_ret (v := .tuple #[.slice none 0 0, vI vK 1]) (by simp [results, Tryz.results105, go_sem]) rfl ⟨_, rfl, WaysAt.nil _ _, hK1.1⟩
  have x6 : (c != 16) = true := by simp [h6]
  rw [if_pos (Or.inl ⟨h5, h6⟩)] at eX
  cases eX
  clear h5 h6
  go_wp2_with fail
  exact bodyPost_ret (v := .tuple #[.slice none 0 0, vI vK 1]) (by simp [results, Tryz.results105, go_sem]) rfl ⟨_, rfl, WaysAt.nil _ _, hK1.1⟩
end Go.Proofs.YtednmkhdehlojaaGreatDoor
namespace Go.Proofs.YtednmkhdehlojaaGreatDoor
open Go.ChangeShapes Go.WideShapes Go.ChangeAt Go.RowKit
attribute [local simp] drew_size drewN_size setCell_size
def ErrAt (W : World) (E : Value) (te : Int) : Prop := (E = .nilIface ∧ te = 0) ∨ ∃ p, E = .iface 74 (.pointer (some ⟨p, 0, none⟩)) ∧ p < W.heap.size ∧ W.cell? ⟨p, 0, none⟩ = some (vI vK te)
theorem ErrAt.later {W W' : World} {E : Value} {te : Int} (h : ErrAt W E te) (hb : Below W.heap.size W W') : ErrAt W' E te := by
  rcases h with h | ⟨p, h1, h2, h3⟩
  · exact Or.inl h
  · exact Or.inr ⟨p, h1, Nat.lt_of_lt_of_le h2 hb.size, (hb.cell (p := ⟨p, 0, none⟩) h2).trans h3⟩
theorem tell_err {W : World} {E : Value} {te : Int} (h : ErrAt W E te) (hg : HandleAt W) : Calls Tryz.prog 19 #[E] W fun e w' => e = .returned (vI vK te) ∧ Below W.heap.size W w' := by
  rcases h with ⟨rfl, rfl⟩ | ⟨p, rfl, h2, h3⟩
  · exact (tell_nil W).mono fun e w' h => ⟨h.1, by rw [h.2]; exact bF _ _⟩
  · exact tell_at te ⟨p, 0, none⟩ W hg h3 h2
def VE (F : List Kno → Int × Int) (W : World) (r : (Int × Nat) ⊕ List Kno) (x y : Int) (E : Value) (te : Int) : Prop :=
  ErrAt W E te ∧ ((∃ i p, r = .inl (te, i) ∧ x = 0 ∧ y = 0 ∧ E = .iface 74 (.pointer (some ⟨p, 0, none⟩))) ∨ (∃ es, r = .inr es ∧ x = (F es).1 ∧ y = (F es).2 ∧ E = .nilIface ∧ te = 0))
theorem VE.later {F : List Kno → Int × Int} {W W' : World} {r : (Int × Nat) ⊕ List Kno} {x y : Int} {E : Value} {te : Int} (h : VE F W r x y E te) (hb : Below W.heap.size W W') : VE F W' r x y E te := ⟨h.1.later hb, h.2⟩
theorem dead_ends {F : List Kno → Int × Int} {W0 W1 W2 : World} {sk ls : List St} {n x0 y0 x1 y1 x2 y2 te0 te1 te2 : Int} {E0 E1 E2 : Value} (h1 : 1 ≤ ls.length) (hl : ∀ j, j < ls.length → faultOf ls j = 0) (v0 : VE F W0 (goL ls) x0 y0 E0 te0) (v1 : VE F W1 (goL (jumpSt sk.length :: (sk ++ ls))) x1 y1 E1 te1) (v2 : VE F W2 (goL (lostA n :: lostB :: ls)) x2 y2 E2 te2) :
    (te0 == 4) = true ∨ ((te0 == 4) = false ∧ (te1 == 4) = true) ∨ ((te0 == 4) = false ∧ (te1 == 4) = false ∧ (te2 == 4) = true) ∨ ((te0 == 4) = false ∧ (te1 == 4) = false ∧ (te2 == 4) = false ∧ te1 = te0 ∧ x1 = x0 ∧ y1 = y0 ∧ ((E0 = .nilIface ∧ E2 = .nilIface) ∨ ∃ p, E0 = .iface 74 (.pointer (some ⟨p, 0, none⟩)))) := by
  by_cases k0 : te0 = 4
  · exact Or.inl (by simp [k0])
  have k0' : (te0 == 4) = false := by simp [k0]
  by_cases k1 : te1 = 4
  · exact Or.inr (Or.inl ⟨k0', by simp [k1]⟩)
  have k1' : (te1 == 4) = false := by simp [k1]
  by_cases k2 : te2 = 4
  · exact Or.inr (Or.inr (Or.inl ⟨k0', k1', by simp [k2]⟩))
  have k2' : (te2 == 4) = false := by simp [k2]
  have n0 : ¬ ∃ p, goL ls = .inl (4, p) := fun ⟨p, e⟩ => by
    rcases v0.2 with ⟨i, q, h, -⟩ | ⟨es, h, -⟩
    · rw [h] at e; cases e; exact k0 rfl
    · rw [h] at e; cases e
  have n1 : ¬ ∃ p, goL (jumpSt sk.length :: (sk ++ ls)) = .inl (4, p) := fun ⟨p, e⟩ => by
    rcases v1.2 with ⟨i, q, h, -⟩ | ⟨es, h, -⟩
    · rw [h] at e; cases e; exact k1 rfl
    · rw [h] at e; cases e
  have n2 : ¬ ∃ p, goL (lostA n :: lostB :: ls) = .inl (4, p) := fun ⟨p, e⟩ => by
    rcases v2.2 with ⟨i, q, h, -⟩ | ⟨es, h, -⟩
    · rw [h] at e; cases e; exact k2 rfl
    · rw [h] at e; cases e
  refine Or.inr (Or.inr (Or.inr ⟨k0', k1', k2', ?_⟩))
  rcases goL_jump (sk := sk) h1 hl with h | h | ⟨E, h, h'⟩ | ⟨e, p, q, -, h, h'⟩
  · exact absurd h n0
  · exact absurd h n1
  · rcases v0.2 with ⟨i, q, g, -⟩ | ⟨es, g, a0, b0, c0, d0⟩
    · rw [g] at h; cases h
    rw [g] at h; cases h
    rcases v1.2 with ⟨i, q, g', -⟩ | ⟨es', g', a1, b1, c1, d1⟩
    · rw [g'] at h'; cases h'
    rw [g'] at h'; cases h'
    refine ⟨d1.trans d0.symm, a1.trans a0.symm, b1.trans b0.symm, Or.inl ⟨c0, ?_⟩⟩
    rcases goL_lost (n := n) h1 hl g with z | z
    · exact absurd z n2
    · rcases v2.2 with ⟨i, q, g', -⟩ | ⟨es', g', a2, b2, c2, d2⟩
      · rw [g'] at z; cases z
      · exact c2
  · rcases v0.2 with ⟨i, q0, g, a0, b0, c0⟩ | ⟨es, g, -⟩
    · rw [g] at h; cases h
      rcases v1.2 with ⟨i', q', g', a1, b1, c1⟩ | ⟨es', g', -⟩
      · rw [g'] at h'; cases h'
        exact ⟨rfl, a1.trans a0.symm, b1.trans b0.symm, Or.inr ⟨_, c0⟩⟩
      · rw [g'] at h'; cases h'
    · rw [g] at h; cases h
theorem row6s {w : World} {g : Nat} {t : TypeId} {a b c d e f : Value} (h : w.heap[g]? = some (.cells #[a, b, c, d, e, f] t (0, 0))) : w.cell? ⟨g, 0, none⟩ = some a ∧ w.cell? ⟨g, 1, none⟩ = some b ∧ w.cell? ⟨g, 2, none⟩ = some c ∧ w.cell? ⟨g, 3, none⟩ = some d ∧ w.cell? ⟨g, 4, none⟩ = some e ∧ w.cell? ⟨g, 5, none⟩ = some f ∧ g < w.heap.size :=
  ⟨by simp [World.cell?, h], by simp [World.cell?, h], by simp [World.cell?, h], by simp [World.cell?, h], by simp [World.cell?, h], by simp [World.cell?, h], (Array.getElem?_eq_some_iff.1 h).1⟩
def exitSt : St := ⟨28, 0, 0, false, 0, 0⟩
theorem two_at (w : World) (x y : St) (t : TypeId) : StepsAt (w.alloc (.cells #[vI vK x.c, vI vK x.d, vI vK x.s, .bool x.r, vI vK x.o, vI vK x.n, vI vK y.c, vI vK y.d, vI vK y.s, .bool y.r, vI vK y.o, vI vK y.n] t)) w.heap.size 0 2 (fun j => (nth [x, y] j).c) (fun j => (nth [x, y] j).d) (fun j => (nth [x, y] j).s) (fun j => (nth [x, y] j).r) (fun j => (nth [x, y] j).o) (fun j => (nth [x, y] j).n) := by
  intro i hi
  have h := heap_alloc_new w (.cells #[vI vK x.c, vI vK x.d, vI vK x.s, .bool x.r, vI vK x.o, vI vK x.n, vI vK y.c, vI vK y.d, vI vK y.s, .bool y.r, vI vK y.o, vI vK y.n] t)
  have g := fun o => cell_of_row _ w.heap.size o _ t (0, 0) h
  rcases (by omega : i = 0 ∨ i = 1) with rfl | rfl
  · exact ⟨g 0, g 1, g 2, g 3, g 4, g 5⟩
  · exact ⟨g 6, g 7, g 8, g 9, g 10, g 11⟩
theorem check_two {w : World} {b cap : Nat} {x : St} (hb : b < w.heap.size) (hst : StepsAt w b 0 2 (fun j => (nth [x, exitSt] j).c) (fun j => (nth [x, exitSt] j).d) (fun j => (nth [x, exitSt] j).s) (fun j => (nth [x, exitSt] j).r) (fun j => (nth [x, exitSt] j).o) (fun j => (nth [x, exitSt] j).n)) (hx : Skips x) : Calls Tryz.prog 18 #[.slice (some ⟨b, 0, none⟩) 2 cap] w fun e w' => e = .returned .nilIface ∧ Below w.heap.size w w' :=
  opCheck_fine (fun j hj => by
    rcases (by omega : j = 0 ∨ j = 1) with rfl | rfl
    · exact hx
    · show wrongV 28 0 0 false 0 0 _ = 0
      rfl) hst (by decide) (by decide) hb
theorem check_two_bad {w : World} {b cap : Nat} {x : St} (hb : b < w.heap.size) (hst : StepsAt w b 0 2 (fun j => (nth [x, exitSt] j).c) (fun j => (nth [x, exitSt] j).d) (fun j => (nth [x, exitSt] j).s) (fun j => (nth [x, exitSt] j).r) (fun j => (nth [x, exitSt] j).o) (fun j => (nth [x, exitSt] j).n)) (hx : ¬ Skips x) : Calls Tryz.prog 18 #[.slice (some ⟨b, 0, none⟩) 2 cap] w fun e w' => ∃ p, e = .returned (.iface 74 (.pointer (some ⟨p, 0, none⟩))) ∧ Below w.heap.size w w' := by
  refine (opCheck_bad (i := 0) (by decide) (fun j hj => absurd hj (Nat.not_lt_zero _)) ?_ hst (by decide) (by decide) hb).mono fun e w' h => ?_
  · exact hx
  · obtain ⟨p, h1, h2, _⟩ := h
    exact ⟨p, h1, h2⟩
theorem laid6 {w : World} {b : Nat} {x : St} {t : TypeId} (hb : b = w.heap.size) : ∀ (j : Nat) u, x.cells.toList[j]? = some u → (w.alloc (.cells x.cells t)).cell? ((⟨b, 0, none⟩ : Addr).add j) = some u := by
  intro j u hj
  subst hb
  rw [Addr.add_mid, Nat.zero_add]
  rw [cell_of_row _ w.heap.size j _ t (0, 0) (heap_alloc_new _ _), ← Array.getElem?_toList]
  exact hj
theorem ddGrown {W0 W W' : World} {row : Option Nat} (h : Below W0.heap.size W0 W) (hg : W.grownBy W' row) (hr : ∀ k, row = some k → W0.heap.size ≤ k) : Below W0.heap.size W0 W' :=
  h.trans ⟨hg.os, hg.tape, hg.output, hg.size, fun k hk => hg.block k (Nat.lt_of_lt_of_le hk h.size) fun e => by have := hr k e.symm; omega⟩
theorem ddFrom {w : World} {base n size : Nat} {e : TypeId} {v : Value} {xs : List Value} (h : w.ownsRow base e size v n xs) : ∀ k, v.ownBlock = some k → base ≤ k := by
  intro k hk
  rcases h.2 with ⟨rfl, _⟩ | ⟨g, cap, cur, rfl, hb, _⟩
  · simp [Value.ownBlock] at hk
  · simp [Value.ownBlock] at hk; omega
theorem ddLater {w w1 : World} {base n size : Nat} {e : TypeId} {v : Value} {xs : List Value} (h : w.ownsRow base e size v n xs) (hb : Below w.heap.size w w1) : w1.ownsRow base e size v n xs :=
  h.kept (row := none) ⟨hb.os, hb.tape, hb.output, hb.size, fun k hk _ => hb.block k hk⟩ (by cases v.ownBlock <;> simp)
theorem ddShape {w : World} {base n size : Nat} {e : TypeId} {v : Value} {xs : List Value} (h : w.ownsRow base e size v n xs) : (v = .slice none 0 0 ∧ n = 0) ∨ ∃ g cap, v = .slice (some ⟨g, 0, none⟩) n cap := by
  rcases h.2 with ⟨h1, h2⟩ | ⟨g, cap, cur, rfl, _⟩
  · exact Or.inl ⟨h1, h2⟩
  · exact Or.inr ⟨g, cap, rfl⟩
theorem grown_refl (w : World) (row : Option Nat) : w.grownBy w row := ⟨rfl, rfl, rfl, Nat.le_refl _, fun _ _ _ => rfl⟩
theorem wpList_append_any {P : Program} {ops : Array Oper} {rest : List Oper} {o : Oper} {a : Act} {Q : Exit → Act → World → Prop} (w : World) (hgd : o.guard = none) (s x : Operand) (t : TypeId)
    (ho : o.op = .call { callee := .builtin .append, args := #[s, x], argTypes := #[t, t] })
    (base : Nat) (e : TypeId) (i : TypeInfo) (z : Value) (size bytes : Nat) (ht : P.underlying t = some (.slice e)) (hi : P.info? e = some i) (hz : i.zero = some z)
    (hsize : i.size = size) (hby : i.bytes = bytes) (hzs : z.cells.size = size) (hsz : 0 < size)
    (v : Value) (n : Nat) (xs : List Value) (hs : a.eval s = v) (hown : w.ownsRow base e size v n xs)
    (base2 : Nat) (u : Value) (m : Nat) (news : List Value) (hx : a.eval x = u) (hu : w.ownsRow base2 e size u m news) (h1 : ∀ u ∈ news, u.oneCell' = true)
    (h63 : n + m ≤ maxLen) (hbytes : (n + m) * bytes ≤ 140737488355328) (hbase : base ≤ w.heap.size)
    (h : ∀ v' w', w'.ownsRow base e size v' (n + m) (xs ++ news) → w.grownBy w' v.ownBlock → wpList P ops Q rest (a.put o.dst v') w') : wpList P ops Q (o :: rest) a w := by
  rcases ddShape hu with ⟨rfl, rfl⟩ | ⟨g, cap, rfl⟩
  · have hn : news = [] := List.eq_nil_of_length_eq_zero (by have := hu.1; omega)
    subst hn
    refine wpList_append_own_none hgd s x t ho base e i size ht hi v n xs hs hown hx (h v w ?_ (grown_refl _ _))
    rw [List.append_nil]; exact hown
  · exact wpList_append_own _ hgd s x t ho base e i z size bytes ht hi hz hsize hby hzs hsz v n xs hs hown ⟨g, 0, none⟩ m cap news hx hu.1 (World.ownsRow.cells hu rfl) h1 h63 hbytes hbase fun v' w' a b _ => h v' w' a b
theorem own_new1 (w : World) (x : St) (base : Nat) (hb : base ≤ w.heap.size) : (w.alloc (.cells #[vI vK x.c, vI vK x.d, vI vK x.s, .bool x.r, vI vK x.o, vI vK x.n] 49)).ownsRow base 49 6 (.slice (some ⟨w.heap.size, 0, none⟩) 1 1) 1 (cellsOf [x]) :=
  ⟨rfl, .inr ⟨w.heap.size, 1, x.cells, rfl, hb, heap_alloc_new _ _, Nat.le_refl _, by decide, rfl, rfl⟩⟩
theorem own_new2 (w : World) (x y : St) (base : Nat) (hb : base ≤ w.heap.size) : (w.alloc (.cells #[vI vK x.c, vI vK x.d, vI vK x.s, .bool x.r, vI vK x.o, vI vK x.n, vI vK y.c, vI vK y.d, vI vK y.s, .bool y.r, vI vK y.o, vI vK y.n] 49)).ownsRow base 49 6 (.slice (some ⟨w.heap.size, 0, none⟩) 2 2) 2 (cellsOf [x, y]) :=
  ⟨rfl, .inr ⟨w.heap.size, 2, #[vI vK x.c, vI vK x.d, vI vK x.s, .bool x.r, vI vK x.o, vI vK x.n, vI vK y.c, vI vK y.d, vI vK y.s, .bool y.r, vI vK y.o, vI vK y.n], rfl, hb, heap_alloc_new _ _, Nat.le_refl _, by decide, rfl, rfl⟩⟩
theorem ddSlice {w : World} {base n size : Nat} {e : TypeId} {v : Value} {xs : List Value} (h : w.ownsRow base e size v n xs) : ∃ qa qc, v = .slice qa n qc := by
  rcases ddShape h with ⟨rfl, rfl⟩ | ⟨g, cap, rfl⟩
  · exact ⟨_, _, rfl⟩
  · exact ⟨_, _, rfl⟩
theorem dead_walk {F : List Kno → Int × Int} (ls ot : List St) (bk off cap len bo oo ocap olen : Nat) (oa : Option Addr) (n : Int) (w : World)
    (HL : Hid (ls.length = len ∧ 1 ≤ len ∧ len ≤ 60 ∧ (∀ j, j < ls.length → faultOf ls j = 0) ∧ (∀ x, x ∈ ls → In64 x.o ∧ In64 x.n) ∧ bk < w.heap.size ∧ StepsAt w bk off len (fun j => (nth ls j).c) (fun j => (nth ls j).d) (fun j => (nth ls j).s) (fun j => (nth ls j).r) (fun j => (nth ls j).o) (fun j => (nth ls j).n)))
    (HO : Hid (ot.length = olen ∧ olen ≤ 60 ∧ (∀ x, x ∈ ot → In64 x.o ∧ In64 x.n) ∧ (olen = 0 ∨ (oa = some ⟨bo, oo, none⟩ ∧ bo < w.heap.size ∧ StepsAt w bo oo olen (fun j => (nth ot j).c) (fun j => (nth ot j).d) (fun j => (nth ot j).s) (fun j => (nth ot j).r) (fun j => (nth ot j).o) (fun j => (nth ot j).n)))))
    (HN : Hid (In64 n)) (HG : Hid (HandleAt w)) (HLET : Hid (∀ W : World, Below w.heap.size w W → Calls Tryz.prog 17 #[] W fun e w' => e = .returned (.bool true) ∧ Below W.heap.size W w'))
    (HVER : Hid (∀ (W : World) (b o m c : Nat) (xs : List St), StepsAt W b o m (fun j => (nth xs j).c) (fun j => (nth xs j).d) (fun j => (nth xs j).s) (fun j => (nth xs j).r) (fun j => (nth xs j).o) (fun j => (nth xs j).n) → b < W.heap.size → xs.length = m → 1 ≤ m → m ≤ 200 → (∀ j, j < xs.length → faultOf xs j = 0) → (∀ x, x ∈ xs → In64 x.o ∧ In64 x.n) →
      Calls Tryz.prog 16 #[.slice (some ⟨b, o, none⟩) m c] W fun e w' => ∃ v, e = .returned v ∧ ∃ x y E te, v = .tuple #[.agg #[vI vK x, vI vK y], E] ∧ Below W.heap.size W w' ∧ VE F w' (goL xs) x y E te)) :
    Calls Tryz.prog 6 #[.slice (some ⟨bk, off, none⟩) len cap, .slice oa olen ocap, vI vK n] w fun e w' => e = .returned (.bool true) ∧ Below w.heap.size w w' := by
  obtain ⟨i0, hi, hz0, hz1, hz2⟩ := info_parts Tryz.infoStep
  have z1 : decide (60 < (len : Int)) = false := by have := HL.out.2.2.1; simp; omega
  have ho60 := HO.out.2.1
  have z2 : decide (60 < (olen : Int)) = false := by have := HO.out.2.1; simp; omega
  go_enter Tryz.func6, Tryz.ntmps6
  go_upto_region 5 with (first | (go_at_call 17; go_must (refine (HLET.out _ (bF _ _)).mono ?_; rintro e w1 ⟨rfl, hb1⟩)) | fail)
  have HS1 := HL.out.2.2.2.2.2.2.later hb1 HL.out.2.2.2.2.2.1
  have hk1 := Nat.lt_of_lt_of_le HL.out.2.2.2.2.2.1 hb1.size
  go_step
  (refine wpList_valueOf rfl (.slice (some ⟨bk, off, none⟩) len cap) w1 (by go_simp; try rfl) ?_); simp only [Act.put, siA, scZ, scS]
  refine wpList_callEx rfl 16 #[.slice (some ⟨bk, off, none⟩) len cap] (by go_simp; try rfl) (HVER.out w1 bk off len cap ls HS1 hk1 HL.out.1 HL.out.2.1 (by have := HL.out.2.2.1; omega) HL.out.2.2.2.1 HL.out.2.2.2.2.1) ?_
  intro v2 w2 hq
  obtain ⟨x0, y0, E0, te0, rfl, hb2, hE0⟩ := hq
  simp only [Act.put, siA, scZ, scS]
  clear HS1 hk1
  go_upto_region 6 with fail
  have hb3 : Below w.heap.size w (w2.alloc (.cells #[vI vK x0, vI vK y0] 43)) := (hb1.trans (hb2.mono hb1.size)).alloc (Nat.le_trans hb1.size hb2.size) _
  have HE0 : Hid (VE F (w2.alloc (.cells #[vI vK x0, vI vK y0] 43)) (goL ls) x0 y0 E0 te0) := hE0.later ((bF _ _).alloc (Nat.le_refl _) _)
  have HB0 : Hid ((w2.alloc (.cells #[vI vK x0, vI vK y0] 43)).heap[w2.heap.size]? = some (.cells #[vI vK x0, vI vK y0] 43 (0, 0))) := heap_alloc_new _ _
  generalize (w2.alloc (.cells #[vI vK x0, vI vK y0] 43)) = w3 at hb3 HE0 HB0 ⊢
  generalize w2.heap.size = B7 at HB0 ⊢
  clear hb1 hb2 hE0 HLET
  have HH3 : Hid (Below w.heap.size w w3) := hb3
  clear hb3
  go_wp2_with (first | (go_at_call 18; go_must (refine (opCheck_fine (by have := HL.out.2.2.2.1; rw [HL.out.1] at this; exact fun j hj => by have h := this j hj; unfold faultOf at h; rw [HL.out.1] at h; exact h) (HL.out.2.2.2.2.2.2.later HH3.out HL.out.2.2.2.2.2.1) HL.out.2.1 (by have := HL.out.2.2.1; omega) (Nat.lt_of_lt_of_le HL.out.2.2.2.2.2.1 HH3.out.size)).mono ?_; rintro e w4 ⟨rfl, hb4⟩)) | fail)
  have HH4 : Hid (Below w.heap.size w w4) := HH3.out.trans (hb4.mono HH3.out.size)
  have HE4 : Hid (VE F w4 (goL ls) x0 y0 E0 te0) := HE0.out.later hb4
  have HB4 : Hid (w4.heap[B7]? = some (.cells #[vI vK x0, vI vK y0] 43 (0, 0))) := (hb4.block B7 (Array.getElem?_eq_some_iff.1 HB0.out).1).trans HB0.out
  clear hb4 HH3 HE0 HB0
  go_loopw [9, 10] (fun sv iv wr => ∃ (k q : Nat) (sk : List St), iv = vI vK k ∧ k ≤ olen ∧ wr.ownsRow w4.heap.size 49 6 sv q (cellsOf sk) ∧ Hid (sk.length = q ∧ q ≤ k ∧ Below w4.heap.size w4 wr ∧ ∀ x, x ∈ sk → Skips x ∧ In64 x.o ∧ In64 x.n)) (fun _ iv _ => olen - (intOf iv).toNat)
  case atStart => exact ⟨0, 0, [], rfl, Nat.zero_le _, ⟨rfl, Or.inl ⟨rfl, rfl⟩⟩, rfl, Nat.le_refl _, bF _ _, fun x hx => absurd hx (by simp)⟩
  case round =>
    obtain ⟨k, q, sk, rfl, hk, hown, HR⟩ := hrel
    by_cases hlt : k < olen
    · have hq0 : (0 : Int) ≤ (k : Int) := by omega
      have hq1 : (k : Int) < olen := by omega
      obtain ⟨xc, xd, xs, xr, xo, xn, rfl, g0, g1, g2, g3, g4, g5, HX⟩ : ∃ xc xd xs xr xo xn, oa = some ⟨bo, oo, none⟩ ∧ wr.cell? ⟨bo, oo + k * 6, none⟩ = some (vI vK xc) ∧ wr.cell? ⟨bo, oo + k * 6 + 1, none⟩ = some (vI vK xd) ∧ wr.cell? ⟨bo, oo + k * 6 + 2, none⟩ = some (vI vK xs) ∧ wr.cell? ⟨bo, oo + k * 6 + 3, none⟩ = some (.bool xr) ∧ wr.cell? ⟨bo, oo + k * 6 + 4, none⟩ = some (vI vK xo) ∧ wr.cell? ⟨bo, oo + k * 6 + 5, none⟩ = some (vI vK xn) ∧ Hid (In64 xo ∧ In64 xn ∧ bo < wr.heap.size) := by
        obtain ⟨o1, o2, o3, o4⟩ := HO.out
        rcases o4 with o4 | ⟨rfl, o5, o6⟩
        · omega
        have hbw := HH4.out.trans (HR.out.2.2.1.mono HH4.out.size)
        obtain ⟨g0, g1, g2, g3, g4, g5⟩ := o6.later hbw o5 k hlt
        exact ⟨_, _, _, _, _, _, rfl, g0, g1, g2, g3, g4, g5, (o3 _ (nth_mem (by omega))).1, (o3 _ (nth_mem (by omega))).2, Nat.lt_of_lt_of_le o5 hbw.size⟩
      have hbo := HX.out.2.2
      go_upto_region 13 with fail
      have hb5 : Below w4.heap.size w4 (wr.alloc (.cells #[vI vK xc, vI vK xd, vI vK xs, .bool xr, vI vK xo, vI vK xn] 49)) := HR.out.2.2.1.alloc HR.out.2.2.1.size _
      have hown5 := hown.alloc (.cells #[vI vK xc, vI vK xd, vI vK xs, .bool xr, vI vK xo, vI vK xn] 49)
      have hr5 := heap_alloc_new wr (.cells #[vI vK xc, vI vK xd, vI vK xs, .bool xr, vI vK xo, vI vK xn] 49)
      generalize (wr.alloc (.cells #[vI vK xc, vI vK xd, vI vK xs, .bool xr, vI vK xo, vI vK xn] 49)) = w5 at hb5 hown5 hr5 ⊢
      generalize wr.heap.size = B5 at hr5 ⊢
      clear g0 g1 g2 g3 g4 g5 hbo hown
      have hs5 := hb5.size
      obtain ⟨r0, r1, r2, r3, r4, r5, rlt⟩ := row6s hr5
      by_cases hw : Skips ⟨xc, xd, xs, xr, xo, xn⟩
      · have HW : Hid (Skips ⟨xc, xd, xs, xr, xo, xn⟩) := hw
        clear hw
        by_cases hc : xc = 28
        · have hc2 : (xc != 28) = false := by simp [hc]
          clear hc
          go_wp2_with (first | (go_at_call 18; go_must (refine (check_two (x := ⟨xc, xd, xs, xr, xo, xn⟩) (by simp) (two_at _ _ exitSt _) HW.out).mono ?_; rintro e w6 ⟨rfl, hb6⟩; have hs6 : w5.heap.size + 1 ≤ w6.heap.size := (by have h := hb6.size; rw [World.size_alloc] at h; exact h); obtain ⟨s0, s1, s2, s3, s4, s5, slt⟩ := row6s ((hb6.block B5 (by simp; omega)).trans ((heap_alloc_old _ _ rlt).trans hr5)))) | fail)
          go_roundw
          case rel => exact ⟨k + 1, q, sk, by go_num, hlt, ddLater (hown5.alloc _) hb6, HR.out.1, Nat.le_succ_of_le HR.out.2.1, (hb5.alloc hb5.size _).trans (hb6.mono (by simp; omega)), HR.out.2.2.2⟩
          case measure => simp [intOf]; omega
        · have hc2 : (xc != 28) = true := by simp [hc]
          clear hc
          go_wp2_with (first
            | (go_at_call 18; go_must (refine (check_two (x := ⟨xc, xd, xs, xr, xo, xn⟩) (by simp) (two_at _ _ exitSt _) HW.out).mono ?_; rintro e w6 ⟨rfl, hb6⟩; have hs6 : w5.heap.size + 1 ≤ w6.heap.size := (by have h := hb6.size; rw [World.size_alloc] at h; exact h); obtain ⟨s0, s1, s2, s3, s4, s5, slt⟩ := row6s ((hb6.block B5 (by simp; omega)).trans ((heap_alloc_old _ _ rlt).trans hr5))))
            | (at_builtin; go_must (refine wpList_append_own _ rfl (.tmp 58) (.tmp 60) 22 rfl w4.heap.size 49 i0 (.agg St.zero.cells) 6 48 Tryz.underlying22 hi hz0 hz1 hz2 rfl (by decide) _ _ _ rfl ((ddLater (hown5.alloc _) hb6).alloc _) ⟨_, 0, none⟩ 1 1 (St.mk xc xd xs xr xo xn).cells.toList rfl rfl (laid6 rfl) (six_one _) (by have := HR.out.2.1; have := HO.out.2.1; unfold maxLen; omega) (by have := HR.out.2.1; have := HO.out.2.1; omega) (by simp; omega) ?_; intro v7 w7 hown7 hgrow7 _))
            | fail)
          go_roundw
          case rel =>
            refine ⟨k + 1, q + 1, sk ++ [⟨xc, xd, xs, xr, xo, xn⟩], by go_num, hlt, ?_, ?_, by have := HR.out.2.1; omega, ?_, ?_⟩
            · rw [cellsOf_append]; exact hown7
            · rw [List.length_append, HR.out.1]; rfl
            · exact ddGrown (((hb5.alloc hb5.size _).trans (hb6.mono (by simp; omega))).alloc (by omega) _) hgrow7 (ddFrom hown5)
            · intro x hx
              rcases List.mem_append.mp hx with hx | hx
              · exact HR.out.2.2.2 x hx
              · rw [List.mem_singleton.mp hx]; exact ⟨HW.out, HX.out.1, HX.out.2.1⟩
          case measure => simp [intOf]; omega
      · have HW : Hid (¬ Skips ⟨xc, xd, xs, xr, xo, xn⟩) := hw
        clear hw
        go_wp2_with (first | (go_at_call 18; go_must (refine (check_two_bad (x := ⟨xc, xd, xs, xr, xo, xn⟩) (by simp) (two_at _ _ exitSt _) HW.out).mono ?_; rintro e w6 ⟨p, rfl, hb6⟩)) | fail)
        go_roundw
        case rel => exact ⟨k + 1, q, sk, by go_num, hlt, ddLater (hown5.alloc _) hb6, HR.out.1, Nat.le_succ_of_le HR.out.2.1, (hb5.alloc hb5.size _).trans (hb6.mono (by simp; omega)), HR.out.2.2.2⟩
        case measure => simp [intOf]; omega
    · have hk2 : decide ((k : Int) < (olen : Int)) = false := by simp; omega
      have hk3 : decide (k < olen) = false := by simp; omega
      have hq60 : q ≤ 60 := by have := HR.out.2.1; omega
      have hl60 := HL.out.2.2.1
      have hl1 := HL.out.2.1
      have hbr := HH4.out.trans (HR.out.2.2.1.mono HH4.out.size)
      obtain ⟨qa, qc, rfl⟩ := ddSlice hown
      go_upto_region 17 with (first
        | (at_builtin; refine wpList_append_any _ rfl (.tmp 65) (.tmp 66) 22 rfl wr.heap.size 49 i0 (.agg St.zero.cells) 6 48 Tryz.underlying22 hi hz0 hz1 hz2 rfl (by decide) _ _ _ rfl (own_new1 wr (jumpSt q) wr.heap.size (Nat.le_refl _)) w4.heap.size _ q (cellsOf sk) rfl (hown.alloc _) (cellsOf_one sk) (by unfold maxLen; omega) (by omega) (by simp) ?_; intro v7 w7 hown7 hgrow7; have hB7 : Below wr.heap.size wr w7 := ddGrown ((bF _ _).alloc (Nat.le_refl _) _) hgrow7 (fun k hk => (by cases hk; exact Nat.le_refl _)); have hst7 := HL.out.2.2.2.2.2.2.later (hbr.trans (hB7.mono hbr.size)) HL.out.2.2.2.2.2.1; have hs7 := hB7.size)
        | (at_builtin; refine wpList_append_own _ rfl (.tmp 67) (.tmp 68) 22 rfl wr.heap.size 49 i0 (.agg St.zero.cells) 6 48 Tryz.underlying22 hi hz0 hz1 hz2 rfl (by decide) _ _ _ rfl hown7 ⟨bk, off, none⟩ len cap (cellsOf ls) rfl (by rw [cellsOf_len, HL.out.1]) (steps_news HL.out.1 hst7) (cellsOf_one ls) (by unfold maxLen; omega) (by omega) (by omega) ?_; intro v8 w8 hown8 hgrow8 _; have hB8 : Below wr.heap.size wr w8 := ddGrown hB7 hgrow8 (ddFrom hown7); have hst8 := HL.out.2.2.2.2.2.2.later ((hbr.trans (hB8.mono hbr.size)).alloc (Nat.le_trans hbr.size hB8.size) (.cells #[vI vK 1, vI vK 0, vI vK 0, .bool false, vI vK 0, vI vK n, vI vK 1, vI vK 0, vI vK 1, .bool true, vI vK 0, vI vK 0] 49)) HL.out.2.2.2.2.2.1; have hs8 := hB8.size; clear hst7 hgrow7 hgrow8 hown7)
        | (at_builtin; refine wpList_append_own _ rfl (.tmp 73) (.tmp 74) 22 rfl w8.heap.size 49 i0 (.agg St.zero.cells) 6 48 Tryz.underlying22 hi hz0 hz1 hz2 rfl (by decide) _ _ _ rfl (own_new2 w8 (lostA n) lostB w8.heap.size (Nat.le_refl _)) ⟨bk, off, none⟩ len cap (cellsOf ls) rfl (by rw [cellsOf_len, HL.out.1]) (steps_news HL.out.1 hst8) (cellsOf_one ls) (by unfold maxLen; omega) (by omega) (by simp) ?_; intro v9 w9 hown9 hgrow9 _; have hB9 : Below w8.heap.size w8 w9 := ddGrown ((bF _ _).alloc (Nat.le_refl _) _) hgrow9 (fun k hk => (by cases hk; exact Nat.le_refl _)); clear hst8 hgrow9)
        | fail)
      have hown8' := ddLater hown8 hB9
      obtain ⟨g8, c8, rfl⟩ : ∃ g c, v8 = .slice (some ⟨g, 0, none⟩) (1 + q + len) c := by
        rcases ddShape hown8 with ⟨_, h⟩ | h
        · omega
        · exact h
      obtain ⟨g9, c9, rfl⟩ : ∃ g c, v9 = .slice (some ⟨g, 0, none⟩) (2 + len) c := by
        rcases ddShape hown9 with ⟨_, h⟩ | h
        · omega
        · exact h
      have hbw9 : Below w.heap.size w w9 := (hbr.trans (hB8.mono hbr.size)).trans (hB9.mono (Nat.le_trans hbr.size hB8.size))
      have hb49 : Below w4.heap.size w4 w9 := (HR.out.2.2.1.trans (hB8.mono HR.out.2.2.1.size)).trans (hB9.mono (Nat.le_trans HR.out.2.2.1.size hB8.size))
      obtain ⟨HSM, HSK⟩ : Hid (StepsAt w9 g8 0 (1 + q + len) (fun j => (nth (jumpSt q :: (sk ++ ls)) j).c) (fun j => (nth (jumpSt q :: (sk ++ ls)) j).d) (fun j => (nth (jumpSt q :: (sk ++ ls)) j).s) (fun j => (nth (jumpSt q :: (sk ++ ls)) j).r) (fun j => (nth (jumpSt q :: (sk ++ ls)) j).o) (fun j => (nth (jumpSt q :: (sk ++ ls)) j).n) ∧ g8 < w9.heap.size) ∧ Hid (StepsAt w9 g9 0 (2 + len) (fun j => (nth (lostA n :: lostB :: ls) j).c) (fun j => (nth (lostA n :: lostB :: ls) j).d) (fun j => (nth (lostA n :: lostB :: ls) j).s) (fun j => (nth (lostA n :: lostB :: ls) j).r) (fun j => (nth (lostA n :: lostB :: ls) j).o) (fun j => (nth (lostA n :: lostB :: ls) j).n) ∧ g9 < w9.heap.size) := by
        refine ⟨⟨row_steps (cap := c8) (xs := jumpSt q :: (sk ++ ls)) (base := wr.heap.size) ?_ ?_, row_lt hown8'⟩, row_steps (cap := c9) (xs := lostA n :: lostB :: ls) (base := w8.heap.size) ?_ ?_, row_lt hown9⟩
        · rw [cellsOf_cons, cellsOf_app, ← List.append_assoc]
          simpa [cellsOf] using hown8'
        · rw [List.length_cons, List.length_append, HR.out.1, HL.out.1]; omega
        · rw [cellsOf_cons, cellsOf_cons, ← List.append_assoc]
          simpa [cellsOf] using hown9
        · rw [List.length_cons, List.length_cons, HL.out.1]; omega
      have HSKIP := HR.out.2.2.2
      have HQ : Hid (sk.length = q) := HR.out.1
      have HSKIP : Hid (∀ x, x ∈ sk → Skips x ∧ In64 x.o ∧ In64 x.n) := HSKIP
      have HE9 : Hid (VE F w9 (goL ls) x0 y0 E0 te0) := HE4.out.later hb49
      have HB9 : Hid (w9.heap[B7]? = some (.cells #[vI vK x0, vI vK y0] 43 (0, 0))) := (hb49.block B7 (Array.getElem?_eq_some_iff.1 HB4.out).1).trans HB4.out
      have HH9 : Hid (Below w.heap.size w w9) := hbw9
      clear hown hown8 hown9 hown8' hB8 hB9 hbw9 hb49 HR HE4 HB4 HH4 hbr hB7 hs7 hs8
      go_step
      (refine wpList_valueOf rfl (.slice (some ⟨g8, 0, none⟩) (1 + q + len) c8) w9 (by go_simp; try rfl) ?_); simp only [Act.put, siA, scZ, scS]
      refine wpList_callEx rfl 16 #[.slice (some ⟨g8, 0, none⟩) (1 + q + len) c8] (by go_simp; try rfl) (HVER.out w9 g8 0 (1 + q + len) c8 (jumpSt q :: (sk ++ ls)) HSM.out.1 HSM.out.2 (by rw [List.length_cons, List.length_append, HQ.out, HL.out.1]; omega) (by omega) (by omega) (by have h := fault_jump (sk := sk) (ls := ls) (fun x hx => (HSKIP.out x hx).1) (by rw [HL.out.1]; exact hl1) HL.out.2.2.2.1; rw [HQ.out] at h; exact h) (fun x hx => (by rcases List.mem_cons.mp hx with rfl | hx; exact ⟨⟨by show (-9223372036854775808 : Int) ≤ (q : Int); omega, by show (q : Int) ≤ 9223372036854775807; omega⟩, ⟨by show (-9223372036854775808 : Int) ≤ 0; decide, by show (0 : Int) ≤ 9223372036854775807; decide⟩⟩; rcases List.mem_append.mp hx with hx | hx; exact (HSKIP.out x hx).2; exact HL.out.2.2.2.2.1 x hx))) ?_
      intro v1 w10 hq
      obtain ⟨x1, y1, E1, te1, rfl, hb1, hE1⟩ := hq
      simp only [Act.put, siA, scZ, scS]
      go_upto_region 18 with fail
      have hc1 : Below w9.heap.size w9 (w10.alloc (.cells #[vI vK x1, vI vK y1] 43)) := hb1.alloc hb1.size _
      have HE1 : Hid (VE F (w10.alloc (.cells #[vI vK x1, vI vK y1] 43)) (goL (jumpSt q :: (sk ++ ls))) x1 y1 E1 te1) := hE1.later ((bF _ _).alloc (Nat.le_refl _) _)
      have HC1 : Hid ((w10.alloc (.cells #[vI vK x1, vI vK y1] 43)).heap[w10.heap.size]? = some (.cells #[vI vK x1, vI vK y1] 43 (0, 0))) := heap_alloc_new _ _
      generalize (w10.alloc (.cells #[vI vK x1, vI vK y1] 43)) = w11 at hc1 HE1 HC1 ⊢
      generalize w10.heap.size = B14 at HC1 ⊢
      clear hb1 hE1 HSM
      go_step
      (refine wpList_valueOf rfl (.slice (some ⟨g9, 0, none⟩) (2 + len) c9) w11 (by go_simp; try rfl) ?_); simp only [Act.put, siA, scZ, scS]
      refine wpList_callEx rfl 16 #[.slice (some ⟨g9, 0, none⟩) (2 + len) c9] (by go_simp; try rfl) (HVER.out w11 g9 0 (2 + len) c9 (lostA n :: lostB :: ls) (HSK.out.1.later hc1 HSK.out.2) (Nat.lt_of_lt_of_le HSK.out.2 hc1.size) (by rw [List.length_cons, List.length_cons, HL.out.1]; omega) (by omega) (by omega) (fault_lost (n := n) (ls := ls) (by rw [HL.out.1]; exact hl1) HL.out.2.2.2.1) (fun x hx => (by rcases List.mem_cons.mp hx with rfl | hx; exact ⟨⟨by show (-9223372036854775808 : Int) ≤ 0; decide, by show (0 : Int) ≤ 9223372036854775807; decide⟩, HN.out⟩; rcases List.mem_cons.mp hx with rfl | hx; exact ⟨⟨by show (-9223372036854775808 : Int) ≤ 0; decide, by show (0 : Int) ≤ 9223372036854775807; decide⟩, ⟨by show (-9223372036854775808 : Int) ≤ 0; decide, by show (0 : Int) ≤ 9223372036854775807; decide⟩⟩; exact HL.out.2.2.2.2.1 x hx))) ?_
      intro v2 w12 hq
      obtain ⟨x2, y2, E2, te2, rfl, hb2, hE2⟩ := hq
      simp only [Act.put, siA, scZ, scS]
      go_upto_region 19 with fail
      have hc2 : Below w11.heap.size w11 (w12.alloc (.cells #[vI vK x2, vI vK y2] 43)) := hb2.alloc hb2.size _
      have hE2' := hE2.later ((bF _ _).alloc (Nat.le_refl _) (.cells #[vI vK x2, vI vK y2] 43))
      generalize (w12.alloc (.cells #[vI vK x2, vI vK y2] 43)) = w13 at hc2 hE2' ⊢
      generalize w12.heap.size = B16
      have hc3 : Below w9.heap.size w9 w13 := hc1.trans (hc2.mono hc1.size)
      have hE0' := HE9.out.later hc3
      have hE1' := HE1.out.later hc2
      have hbw : Below w.heap.size w w13 := HH9.out.trans (hc3.mono HH9.out.size)
      have hg13 := HG.out.later hbw
      obtain ⟨p0, p1, -, -, plt⟩ := row2 ((hc3.block B7 (Array.getElem?_eq_some_iff.1 HB9.out).1).trans HB9.out)
      obtain ⟨m0, m1, -, -, mlt⟩ := row2 ((hc2.block B14 (Array.getElem?_eq_some_iff.1 HC1.out).1).trans HC1.out)
      have ends := dead_ends (sk := sk) (n := n) (by rw [HL.out.1]; exact hl1) HL.out.2.2.2.1 hE0' (by rw [HQ.out]; exact hE1') hE2'
      have HT0 : Hid (∀ W : World, Below w13.heap.size w13 W → Calls Tryz.prog 19 #[E0] W fun e w' => e = .returned (vI vK te0) ∧ Below W.heap.size W w') := fun W hW => tell_err (hE0'.1.later hW) (hg13.later hW)
      have HT1 : Hid (∀ W : World, Below w13.heap.size w13 W → Calls Tryz.prog 19 #[E1] W fun e w' => e = .returned (vI vK te1) ∧ Below W.heap.size W w') := fun W hW => tell_err (hE1'.1.later hW) (hg13.later hW)
      have HT2 : Hid (∀ W : World, Below w13.heap.size w13 W → Calls Tryz.prog 19 #[E2] W fun e w' => e = .returned (vI vK te2) ∧ Below W.heap.size W w') := fun W hW => tell_err (hE2'.1.later hW) (hg13.later hW)
      clear hE0' hE1' hE2' hE2 hb2 hc1 hc2 hc3 HE9 HE1 HB9 HC1 HSK HSKIP HVER hg13 HG HL HO HN HH9 HQ
      rcases ends with k0 | ⟨k0, k1⟩ | ⟨k0, k1, k2⟩ | ⟨k0, k1, k2, rfl, rfl, rfl, hlast⟩
      · go_wp2_with (first | (go_at_call 19; go_must (refine (HT0.out _ (bF _ _)).mono ?_; rintro e u1 ⟨rfl, hu1⟩)) | fail)
        go_ret
        exact ⟨rfl, hbw.trans (hu1.mono hbw.size)⟩
      · go_wp2_with (first | (go_at_call_of 19 E0; refine (HT0.out _ (bF _ _)).mono ?_; rintro e u1 ⟨rfl, hu1⟩) | (go_at_call_of 19 E1; refine (HT1.out _ hu1).mono ?_; rintro e u2 ⟨rfl, hu2⟩; have hv2 := hu1.trans (hu2.mono hu1.size)) | fail)
        go_ret
        exact ⟨rfl, hbw.trans (hv2.mono hbw.size)⟩
      · go_wp2_with (first | (go_at_call_of 19 E0; refine (HT0.out _ (bF _ _)).mono ?_; rintro e u1 ⟨rfl, hu1⟩) | (go_at_call_of 19 E1; refine (HT1.out _ hu1).mono ?_; rintro e u2 ⟨rfl, hu2⟩; have hv2 := hu1.trans (hu2.mono hu1.size)) | (go_at_call_of 19 E2; refine (HT2.out _ hv2).mono ?_; rintro e u3 ⟨rfl, hu3⟩; have hv3 := hv2.trans (hu3.mono hv2.size)) | fail)
        go_ret
        exact ⟨rfl, hbw.trans (hv3.mono hbw.size)⟩
      · go_upto_region 21 with (first | (go_at_call_of 19 E0; refine (HT0.out _ (bF _ _)).mono ?_; rintro e u1 ⟨rfl, hu1⟩) | (go_at_call_of 19 E1; refine (HT1.out _ hu1).mono ?_; rintro e u2 ⟨rfl, hu2⟩; have hv2 := hu1.trans (hu2.mono hu1.size)) | (go_at_call_of 19 E2; refine (HT2.out _ hv2).mono ?_; rintro e u3 ⟨rfl, hu3⟩; have hv3 := hv2.trans (hu3.mono hv2.size)) | fail)
        have p0' := (hv3.cell (p := ⟨B7, 0, none⟩) plt).trans p0
        have p1' := (hv3.cell (p := ⟨B7, 1, none⟩) plt).trans p1
        have m0' := (hv3.cell (p := ⟨B14, 0, none⟩) mlt).trans m0
        have m1' := (hv3.cell (p := ⟨B14, 1, none⟩) mlt).trans m1
        rcases hlast with ⟨rfl, rfl⟩ | ⟨p, rfl⟩
        · go_wp2_with (first | (go_at_call_of 19 E1; refine (HT1.out _ hv3).mono ?_; rintro e u4 ⟨rfl, hu4⟩; have hv4 := hv3.trans (hu4.mono hv3.size); clear p0' p1' m0' m1') | (go_at_call_of 19 Value.nilIface; refine (HT0.out _ hv4).mono ?_; rintro e u5 ⟨rfl, hu5⟩; have hv5 := hv4.trans (hu5.mono hv4.size); have p0' := (hv5.cell (p := ⟨B7, 0, none⟩) plt).trans p0; have p1' := (hv5.cell (p := ⟨B7, 1, none⟩) plt).trans p1; have m0' := (hv5.cell (p := ⟨B14, 0, none⟩) mlt).trans m0; have m1' := (hv5.cell (p := ⟨B14, 1, none⟩) mlt).trans m1) | fail)
          go_ret
          exact ⟨rfl, hbw.trans (hv5.mono hbw.size)⟩
        · go_wp2_with (first | (go_at_call_of 19 E1; refine (HT1.out _ hv3).mono ?_; rintro e u4 ⟨rfl, hu4⟩; have hv4 := hv3.trans (hu4.mono hv3.size); clear p0' p1' m0' m1') | (go_at_call_of 19 (Value.iface 74 (Value.pointer (some ⟨p, 0, none⟩))); refine (HT0.out _ hv4).mono ?_; rintro e u5 ⟨rfl, hu5⟩; have hv5 := hv4.trans (hu5.mono hv4.size); have p0' := (hv5.cell (p := ⟨B7, 0, none⟩) plt).trans p0; have p1' := (hv5.cell (p := ⟨B7, 1, none⟩) plt).trans p1; have m0' := (hv5.cell (p := ⟨B14, 0, none⟩) mlt).trans m0; have m1' := (hv5.cell (p := ⟨B14, 1, none⟩) mlt).trans m1) | fail)
          go_ret
          exact ⟨rfl, hbw.trans (hv5.mono hbw.size)⟩
set_option linter.unusedVariables false
theorem vlook_ask (d s : Nat) (c o n p : Int) (r : Bool) (y : Way) (l : List (Int × Way)) (E : Int) (HL : Hid (∀ W : World, Calls Tryz.prog 105 #[.agg (wayCs p y), .agg #[vI vK c, vI vK d, vI vK s, .bool r, vI vK o, vI vK n]] W fun e w' => ∃ v, e = .returned (.tuple #[v, vI vK E]) ∧ WaysAt w' W.heap.size v l ∧ Below W.heap.size W w')) (HQ : Hid ((decide (15 ≤ c) && decide (c ≤ 24)) = true)) (w : World) :
    Calls Tryz.prog 66 #[.agg (wayCs p y), .agg #[vI vK c, vI vK d, vI vK s, .bool r, vI vK o, vI vK n]] w fun e w' => ∃ v, e = .returned (.tuple #[v, vI vK E]) ∧ WaysAt w' w.heap.size v l ∧ Below w.heap.size w w' := by
  have hK0 : Blk w [(w.heap.size, .cells (wayCs p y) 150 (0, 0)), (w.heap.size + 1, .cells #[vI vK c, vI vK d, vI vK s, .bool r, vI vK o, vI vK n] 49 (0, 0))] _ := ((Blk.nil (((bF _ _).alloc (Nat.le_refl _) _).alloc (by simp) _)).cons (heap_alloc2_new w (.cells (wayCs p y) 150) (.cells #[vI vK c, vI vK d, vI vK s, .bool r, vI vK o, vI vK n] 49))).cons ((WayAt.start w p y).alloc (.cells #[vI vK c, vI vK d, vI vK s, .bool r, vI vK o, vI vK n] 49))
  go_enter Tryz.func66, Tryz.ntmps66
  go_upto_region 1 with fail
  generalize ((w.alloc (.cells (wayCs p y) 150)).alloc (.cells #[vI vK c, vI vK d, vI vK s, .bool r, vI vK o, vI vK n] 49)) = w1 at hK0 ⊢
  have yW : WayAt _ w.heap.size _ _ := (hK0.2 _ mcS); have ylt := yW.lt; obtain ⟨p0, p1, p2, p3, p4, p5, ltS⟩ := row6 (hK0.2 _ (mcO _ mcS))
  go_upto_region 4 with (first | (go_at_call 89; refine (asks_any c _).mono ?_; rintro e w1 ⟨rfl, rfl⟩; rw [HQ.out]) | fail)
  go_step
  (refine wpList_load_row rfl 150 (.tmp 2) rfl w.heap.size rfl 150 (wayCs p y) (0, 0) _ yW Tryz.underlying150 rfl (infoW_of _ _) ?_)
  simp only [Act.put, siA, scZ, scS]
  (refine wpList_valueOf rfl (.agg #[vI vK c, vI vK d, vI vK s, .bool r, vI vK o, vI vK n]) w1 (by go_simp; try rfl) ?_); simp only [Act.put, siA, scZ, scS]
  refine wpList_callEx rfl 105 #[.agg (wayCs p y), .agg #[vI vK c, vI vK d, vI vK s, .bool r, vI vK o, vI vK n]] (by go_simp; try rfl) (R := fun x w' => ∃ v, x = .tuple #[v, vI vK E] ∧ WaysAt w' w1.heap.size v l ∧ Below w1.heap.size w1 w') ((HL.out w1).mono fun e w' h => by obtain ⟨v, h1, h2⟩ := h; exact ⟨_, h1, v, rfl, h2⟩) ?_
  intro v5 w5 hq
  obtain ⟨v, rfl, hA5, hB5⟩ := hq
  have hK5 := hK0.later hB5
  have hs5 := hK0.1.size
  simp only [Act.put, siA, scZ, scS]
  clear yW ylt p0 p1 p2 p3 p4 p5 ltS
  clear hK0
  go_wp2_with fail
  exact bodyPost_ret (v := .tuple #[v, vI vK E]) (by simp [results, Tryz.results66, go_sem]) rfl ⟨_, rfl, hA5.mono hs5, hK5.1⟩
theorem vlook_jump (d s : Nat) (c o n p : Int) (r : Bool) (y : Way) (hp0 : 0 ≤ p) (hp1 : p ≤ 1000) (ho0 : 0 ≤ o) (ho1 : o ≤ 1000) (HQ : Hid ((decide (15 ≤ c) && decide (c ≤ 24)) = false)) (x14 : (c == 14) = true) (w : World) :
    Calls Tryz.prog 66 #[.agg (wayCs p y), .agg #[vI vK c, vI vK d, vI vK s, .bool r, vI vK o, vI vK n]] w fun e w' => ∃ v, e = .returned (.tuple #[v, vI vK 0]) ∧ WaysAt w' w.heap.size v [((p + (1 + o)), y)] ∧ Below w.heap.size w w' := by
  have hK0 : Blk w [(w.heap.size, .cells (wayCs p y) 150 (0, 0)), (w.heap.size + 1, .cells #[vI vK c, vI vK d, vI vK s, .bool r, vI vK o, vI vK n] 49 (0, 0))] _ := ((Blk.nil (((bF _ _).alloc (Nat.le_refl _) _).alloc (by simp) _)).cons (heap_alloc2_new w (.cells (wayCs p y) 150) (.cells #[vI vK c, vI vK d, vI vK s, .bool r, vI vK o, vI vK n] 49))).cons ((WayAt.start w p y).alloc (.cells #[vI vK c, vI vK d, vI vK s, .bool r, vI vK o, vI vK n] 49))
  go_enter Tryz.func66, Tryz.ntmps66
  go_upto_region 1 with fail
  generalize ((w.alloc (.cells (wayCs p y) 150)).alloc (.cells #[vI vK c, vI vK d, vI vK s, .bool r, vI vK o, vI vK n] 49)) = w1 at hK0 ⊢
  have yW : WayAt _ w.heap.size _ _ := (hK0.2 _ mcS); have ylt := yW.lt; obtain ⟨p0, p1, p2, p3, p4, p5, ltS⟩ := row6 (hK0.2 _ (mcO _ mcS))
  go_upto_region 6 with (first | (go_at_call 89; refine (asks_any c _).mono ?_; rintro e w1 ⟨rfl, rfl⟩; rw [HQ.out]) | fail)
  go_step
  (refine wpList_load_row rfl 150 (.tmp 2) rfl w.heap.size rfl 150 (wayCs p y) (0, 0) _ yW Tryz.underlying150 rfl (infoW_of _ _) ?_)
  simp only [Act.put, siA, scZ, scS]
  (refine wpList_valueOf rfl (.pointer (some ⟨w.heap.size + 1, 4, none⟩)) w1 (by go_simp; try rfl) ?_); simp only [Act.put, siA, scZ, scS]
  (refine wpList_valueOf rfl (vI vK o) w1 (by go_simp; try rfl) ?_); simp only [Act.put, siA, scZ, scS]
  (refine wpList_callOf rfl 106 #[.agg (wayCs p y), vI vK o] (by go_simp; try rfl) (.agg (wayCs (p + (1 + o)) y)) (on_any p o y hp0 hp1 ho0 ho1 w1) ?_)
  intro w5 hB5
  have hK5 := hK0.later hB5
  simp only [Act.put, siA, scZ, scS]
  refine wpList_ways1 rfl (.tmp 25) (p + (1 + o)) y rfl rfl ?_
  simp only [Act.put, siA, scZ, scS]
  clear yW ylt p0 p1 p2 p3 p4 p5 ltS
  have hbE := hK5.1
  have hm := WaysAt.made w5 w.heap.size [((p + (1 + o)), y)] hbE.size (by unfold maxLen; simp)
  go_wp2_with fail
  exact bodyPost_ret (v := .tuple #[_, vI vK 0]) (by simp [results, Tryz.results66, go_sem]) rfl ⟨_, rfl, hm, hbE.alloc hbE.size _⟩
theorem vlook_exit (d s : Nat) (c o n p : Int) (r : Bool) (y : Way)  (HQ : Hid ((decide (15 ≤ c) && decide (c ≤ 24)) = false)) (x14 : (c == 14) = false) (x28 : (c == 28) = true) (w : World) :
    Calls Tryz.prog 66 #[.agg (wayCs p y), .agg #[vI vK c, vI vK d, vI vK s, .bool r, vI vK o, vI vK n]] w fun e w' => e = .returned (.tuple #[.slice none 0 0, vI vK (knoWant (y.reg 0))]) ∧ Below w.heap.size w w' := by
  have hK0 : Blk w [(w.heap.size, .cells (wayCs p y) 150 (0, 0)), (w.heap.size + 1, .cells #[vI vK c, vI vK d, vI vK s, .bool r, vI vK o, vI vK n] 49 (0, 0))] _ := ((Blk.nil (((bF _ _).alloc (Nat.le_refl _) _).alloc (by simp) _)).cons (heap_alloc2_new w (.cells (wayCs p y) 150) (.cells #[vI vK c, vI vK d, vI vK s, .bool r, vI vK o, vI vK n] 49))).cons ((WayAt.start w p y).alloc (.cells #[vI vK c, vI vK d, vI vK s, .bool r, vI vK o, vI vK n] 49))
  go_enter Tryz.func66, Tryz.ntmps66
  go_upto_region 1 with fail
  generalize ((w.alloc (.cells (wayCs p y) 150)).alloc (.cells #[vI vK c, vI vK d, vI vK s, .bool r, vI vK o, vI vK n] 49)) = w1 at hK0 ⊢
  have yW : WayAt _ w.heap.size _ _ := (hK0.2 _ mcS); have ylt := yW.lt; obtain ⟨p0, p1, p2, p3, p4, p5, ltS⟩ := row6 (hK0.2 _ (mcO _ mcS))
  go_upto_region 8 with (first | (go_at_call 89; refine (asks_any c _).mono ?_; rintro e w1 ⟨rfl, rfl⟩; rw [HQ.out]) | fail)
  go_step
  obtain ⟨i0, i1, i2⟩ := yW.reg (d := 0) (by decide)
  (refine wpList_valueOf rfl (.pointer (some ⟨w.heap.size, 1, none⟩)) w1 (by go_simp; try rfl) ?_); simp only [Act.put, siA, scZ, scS]
  (refine wpList_valueOf rfl (.pointer (some ⟨w.heap.size, 1 + 0 * 3, none⟩)) w1 (by go_simp; try rfl) ?_); simp only [Act.put, siA, scZ, scS]
  (refine wpList_valueOf rfl (.agg #[vI vK (y.reg 0).k, vI vK (y.reg 0).l, vI vK (y.reg 0).h]) w1 (by go_simp; try rfl) ?_); simp only [Act.put, siA, scZ, scS]
  (refine wpList_callOf rfl 107 #[.agg #[vI vK (y.reg 0).k, vI vK (y.reg 0).l, vI vK (y.reg 0).h]] (by go_simp; try rfl) (vI vK (knoWant (y.reg 0))) (vwant_any _ _ _ w1) ?_)
  intro w5 hB5
  have hK5 := hK0.later hB5
  simp only [Act.put, siA, scZ, scS]
  clear yW ylt p0 p1 p2 p3 p4 p5 ltS i0 i1 i2
  go_wp2_with fail
  exact bodyPost_ret (v := .tuple #[.slice none 0 0, vI vK (knoWant (y.reg 0))]) (by simp [results, Tryz.results66, go_sem]) rfl ⟨rfl, hK5.1⟩
theorem vlook_load_no (d s : Nat) (c o n p : Int) (r : Bool) (y : Way) (hp0 : 0 ≤ p) (hp1 : p ≤ 1000) (E : Int) (y1 : Way) (HM : Hid (∀ (W : World) (B : Nat), WayAt W B p y → Calls Tryz.prog 108 #[.pointer (some ⟨B, 0, none⟩), .agg #[vI vK c, vI vK d, vI vK s, .bool r, vI vK o, vI vK n]] W fun e w' => e = .returned (vI vK E) ∧ Kept B W w' ∧ WayAt w' B p y1)) (xE : (E != 0) = true) (HQ : Hid ((decide (15 ≤ c) && decide (c ≤ 24)) = false)) (x14 : (c == 14) = false) (x28 : (c == 28) = false) (x25 : (c == 25) = true) (w : World) :
    Calls Tryz.prog 66 #[.agg (wayCs p y), .agg #[vI vK c, vI vK d, vI vK s, .bool r, vI vK o, vI vK n]] w fun e w' => e = .returned (.tuple #[.slice none 0 0, vI vK E]) ∧ Below w.heap.size w w' := by
  have hK0 : Blk w [(w.heap.size, .cells (wayCs p y) 150 (0, 0)), (w.heap.size + 1, .cells #[vI vK c, vI vK d, vI vK s, .bool r, vI vK o, vI vK n] 49 (0, 0))] _ := ((Blk.nil (((bF _ _).alloc (Nat.le_refl _) _).alloc (by simp) _)).cons (heap_alloc2_new w (.cells (wayCs p y) 150) (.cells #[vI vK c, vI vK d, vI vK s, .bool r, vI vK o, vI vK n] 49))).cons ((WayAt.start w p y).alloc (.cells #[vI vK c, vI vK d, vI vK s, .bool r, vI vK o, vI vK n] 49))
  go_enter Tryz.func66, Tryz.ntmps66
  go_upto_region 1 with fail
  generalize ((w.alloc (.cells (wayCs p y) 150)).alloc (.cells #[vI vK c, vI vK d, vI vK s, .bool r, vI vK o, vI vK n] 49)) = w1 at hK0 ⊢
  have yW : WayAt _ w.heap.size _ _ := (hK0.2 _ mcS); have ylt := yW.lt; obtain ⟨p0, p1, p2, p3, p4, p5, ltS⟩ := row6 (hK0.2 _ (mcO _ mcS))
  go_upto_region 10 with (first | (go_at_call 89; refine (asks_any c _).mono ?_; rintro e w1 ⟨rfl, rfl⟩; rw [HQ.out]) | fail)
  go_step
  (refine wpList_valueOf rfl (.agg #[vI vK c, vI vK d, vI vK s, .bool r, vI vK o, vI vK n]) w1 (by go_simp; try rfl) ?_); simp only [Act.put, siA, scZ, scS]
  (refine wpList_callOf rfl 108 #[.pointer (some ⟨w.heap.size, 0, none⟩), .agg #[vI vK c, vI vK d, vI vK s, .bool r, vI vK o, vI vK n]] (by go_simp; try rfl) (vI vK E) (HM.out w1 w.heap.size yW) ?_)
  intro w5 hq
  obtain ⟨hk5, hW5⟩ := hq
  have hK5 := (Blk.more (F' := []) hK0 (by simp)).grown (b := w.heap.size) hk5 (fun k e => Nat.le_of_eq (Option.some.inj e)) (Nat.le_refl _) (by simp)
  clear yW ylt p0 p1 p2 p3 p4 p5 ltS
  clear hk5 hK0
  simp only [Act.put, siA, scZ, scS]
  go_wp2_with fail
  exact bodyPost_ret (v := .tuple #[.slice none 0 0, vI vK E]) (by simp [results, Tryz.results66, go_sem]) rfl ⟨rfl, hK5.1⟩
theorem vlook_load (d s : Nat) (c o n p : Int) (r : Bool) (y : Way) (hp0 : 0 ≤ p) (hp1 : p ≤ 1000) (E : Int) (y1 : Way) (HM : Hid (∀ (W : World) (B : Nat), WayAt W B p y → Calls Tryz.prog 108 #[.pointer (some ⟨B, 0, none⟩), .agg #[vI vK c, vI vK d, vI vK s, .bool r, vI vK o, vI vK n]] W fun e w' => e = .returned (vI vK E) ∧ Kept B W w' ∧ WayAt w' B p y1)) (xE : (E != 0) = false) (HQ : Hid ((decide (15 ≤ c) && decide (c ≤ 24)) = false)) (x14 : (c == 14) = false) (x28 : (c == 28) = false) (x25 : (c == 25) = true) (w : World) :
    Calls Tryz.prog 66 #[.agg (wayCs p y), .agg #[vI vK c, vI vK d, vI vK s, .bool r, vI vK o, vI vK n]] w fun e w' => ∃ v, e = .returned (.tuple #[v, vI vK 0]) ∧ WaysAt w' w.heap.size v [((p + 1), y1)] ∧ Below w.heap.size w w' := by
  have hK0 : Blk w [(w.heap.size, .cells (wayCs p y) 150 (0, 0)), (w.heap.size + 1, .cells #[vI vK c, vI vK d, vI vK s, .bool r, vI vK o, vI vK n] 49 (0, 0))] _ := ((Blk.nil (((bF _ _).alloc (Nat.le_refl _) _).alloc (by simp) _)).cons (heap_alloc2_new w (.cells (wayCs p y) 150) (.cells #[vI vK c, vI vK d, vI vK s, .bool r, vI vK o, vI vK n] 49))).cons ((WayAt.start w p y).alloc (.cells #[vI vK c, vI vK d, vI vK s, .bool r, vI vK o, vI vK n] 49))
  go_enter Tryz.func66, Tryz.ntmps66
  go_upto_region 1 with fail
  generalize ((w.alloc (.cells (wayCs p y) 150)).alloc (.cells #[vI vK c, vI vK d, vI vK s, .bool r, vI vK o, vI vK n] 49)) = w1 at hK0 ⊢
  have yW : WayAt _ w.heap.size _ _ := (hK0.2 _ mcS); have ylt := yW.lt; obtain ⟨p0, p1, p2, p3, p4, p5, ltS⟩ := row6 (hK0.2 _ (mcO _ mcS))
  go_upto_region 10 with (first | (go_at_call 89; refine (asks_any c _).mono ?_; rintro e w1 ⟨rfl, rfl⟩; rw [HQ.out]) | fail)
  go_step
  (refine wpList_valueOf rfl (.agg #[vI vK c, vI vK d, vI vK s, .bool r, vI vK o, vI vK n]) w1 (by go_simp; try rfl) ?_); simp only [Act.put, siA, scZ, scS]
  (refine wpList_callOf rfl 108 #[.pointer (some ⟨w.heap.size, 0, none⟩), .agg #[vI vK c, vI vK d, vI vK s, .bool r, vI vK o, vI vK n]] (by go_simp; try rfl) (vI vK E) (HM.out w1 w.heap.size yW) ?_)
  intro w5 hq
  obtain ⟨hk5, hW5⟩ := hq
  have hK5 := (Blk.more (F' := []) hK0 (by simp)).grown (b := w.heap.size) hk5 (fun k e => Nat.le_of_eq (Option.some.inj e)) (Nat.le_refl _) (by simp)
  clear yW ylt p0 p1 p2 p3 p4 p5 ltS
  clear hk5 hK0
  simp only [Act.put, siA, scZ, scS]
  go_upto_region 17 with fail
  go_step
  (refine wpList_load_row rfl 150 (.tmp 2) rfl w.heap.size rfl 150 (wayCs p y1) (0, 0) _ hW5 Tryz.underlying150 rfl (infoW_of _ _) ?_)
  simp only [Act.put, siA, scZ, scS]
  (refine wpList_callOf rfl 106 #[.agg (wayCs p y1), vI vK 0] (by go_simp; try rfl) (.agg (wayCs (p + 1) y1)) (on_zero p y1 hp0 hp1 w5) ?_)
  intro w6 hB6
  have hK6 := hK5.later hB6
  simp only [Act.put, siA, scZ, scS]
  refine wpList_ways1 rfl (.tmp 58) (p + 1) y1 rfl rfl ?_
  simp only [Act.put, siA, scZ, scS]
  have hbE := hK6.1
  have hm := WaysAt.made w6 w.heap.size [((p + 1), y1)] hbE.size (by unfold maxLen; simp)
  go_wp2_with fail
  exact bodyPost_ret (v := .tuple #[_, vI vK 0]) (by simp [results, Tryz.results66, go_sem]) rfl ⟨_, rfl, hm, hbE.alloc hbE.size _⟩
theorem vlook_store_no (d s : Nat) (c o n p : Int) (r : Bool) (y : Way) (hp0 : 0 ≤ p) (hp1 : p ≤ 1000) (E : Int) (y1 : Way) (HM : Hid (∀ (W : World) (B : Nat), WayAt W B p y → Calls Tryz.prog 109 #[.pointer (some ⟨B, 0, none⟩), .agg #[vI vK c, vI vK d, vI vK s, .bool r, vI vK o, vI vK n]] W fun e w' => e = .returned (vI vK E) ∧ Kept B W w' ∧ WayAt w' B p y1)) (xE : (E != 0) = true) (HQ : Hid ((decide (15 ≤ c) && decide (c ≤ 24)) = false)) (x14 : (c == 14) = false) (x28 : (c == 28) = false) (x25 : (c == 25) = false) (x26 : (c == 26) = true) (w : World) :
    Calls Tryz.prog 66 #[.agg (wayCs p y), .agg #[vI vK c, vI vK d, vI vK s, .bool r, vI vK o, vI vK n]] w fun e w' => e = .returned (.tuple #[.slice none 0 0, vI vK E]) ∧ Below w.heap.size w w' := by
  have hK0 : Blk w [(w.heap.size, .cells (wayCs p y) 150 (0, 0)), (w.heap.size + 1, .cells #[vI vK c, vI vK d, vI vK s, .bool r, vI vK o, vI vK n] 49 (0, 0))] _ := ((Blk.nil (((bF _ _).alloc (Nat.le_refl _) _).alloc (by simp) _)).cons (heap_alloc2_new w (.cells (wayCs p y) 150) (.cells #[vI vK c, vI vK d, vI vK s, .bool r, vI vK o, vI vK n] 49))).cons ((WayAt.start w p y).alloc (.cells #[vI vK c, vI vK d, vI vK s, .bool r, vI vK o, vI vK n] 49))
  go_enter Tryz.func66, Tryz.ntmps66
  go_upto_region 1 with fail
  generalize ((w.alloc (.cells (wayCs p y) 150)).alloc (.cells #[vI vK c, vI vK d, vI vK s, .bool r, vI vK o, vI vK n] 49)) = w1 at hK0 ⊢
  have yW : WayAt _ w.heap.size _ _ := (hK0.2 _ mcS); have ylt := yW.lt; obtain ⟨p0, p1, p2, p3, p4, p5, ltS⟩ := row6 (hK0.2 _ (mcO _ mcS))
  go_upto_region 12 with (first | (go_at_call 89; refine (asks_any c _).mono ?_; rintro e w1 ⟨rfl, rfl⟩; rw [HQ.out]) | fail)
  go_step
  (refine wpList_valueOf rfl (.agg #[vI vK c, vI vK d, vI vK s, .bool r, vI vK o, vI vK n]) w1 (by go_simp; try rfl) ?_); simp only [Act.put, siA, scZ, scS]
  (refine wpList_callOf rfl 109 #[.pointer (some ⟨w.heap.size, 0, none⟩), .agg #[vI vK c, vI vK d, vI vK s, .bool r, vI vK o, vI vK n]] (by go_simp; try rfl) (vI vK E) (HM.out w1 w.heap.size yW) ?_)
  intro w5 hq
  obtain ⟨hk5, hW5⟩ := hq
  have hK5 := (Blk.more (F' := []) hK0 (by simp)).grown (b := w.heap.size) hk5 (fun k e => Nat.le_of_eq (Option.some.inj e)) (Nat.le_refl _) (by simp)
  clear yW ylt p0 p1 p2 p3 p4 p5 ltS
  clear hk5 hK0
  simp only [Act.put, siA, scZ, scS]
  go_wp2_with fail
  exact bodyPost_ret (v := .tuple #[.slice none 0 0, vI vK E]) (by simp [results, Tryz.results66, go_sem]) rfl ⟨rfl, hK5.1⟩
theorem vlook_store (d s : Nat) (c o n p : Int) (r : Bool) (y : Way) (hp0 : 0 ≤ p) (hp1 : p ≤ 1000) (E : Int) (y1 : Way) (HM : Hid (∀ (W : World) (B : Nat), WayAt W B p y → Calls Tryz.prog 109 #[.pointer (some ⟨B, 0, none⟩), .agg #[vI vK c, vI vK d, vI vK s, .bool r, vI vK o, vI vK n]] W fun e w' => e = .returned (vI vK E) ∧ Kept B W w' ∧ WayAt w' B p y1)) (xE : (E != 0) = false) (HQ : Hid ((decide (15 ≤ c) && decide (c ≤ 24)) = false)) (x14 : (c == 14) = false) (x28 : (c == 28) = false) (x25 : (c == 25) = false) (x26 : (c == 26) = true) (w : World) :
    Calls Tryz.prog 66 #[.agg (wayCs p y), .agg #[vI vK c, vI vK d, vI vK s, .bool r, vI vK o, vI vK n]] w fun e w' => ∃ v, e = .returned (.tuple #[v, vI vK 0]) ∧ WaysAt w' w.heap.size v [((p + 1), y1)] ∧ Below w.heap.size w w' := by
  have hK0 : Blk w [(w.heap.size, .cells (wayCs p y) 150 (0, 0)), (w.heap.size + 1, .cells #[vI vK c, vI vK d, vI vK s, .bool r, vI vK o, vI vK n] 49 (0, 0))] _ := ((Blk.nil (((bF _ _).alloc (Nat.le_refl _) _).alloc (by simp) _)).cons (heap_alloc2_new w (.cells (wayCs p y) 150) (.cells #[vI vK c, vI vK d, vI vK s, .bool r, vI vK o, vI vK n] 49))).cons ((WayAt.start w p y).alloc (.cells #[vI vK c, vI vK d, vI vK s, .bool r, vI vK o, vI vK n] 49))
  go_enter Tryz.func66, Tryz.ntmps66
  go_upto_region 1 with fail
  generalize ((w.alloc (.cells (wayCs p y) 150)).alloc (.cells #[vI vK c, vI vK d, vI vK s, .bool r, vI vK o, vI vK n] 49)) = w1 at hK0 ⊢
  have yW : WayAt _ w.heap.size _ _ := (hK0.2 _ mcS); have ylt := yW.lt; obtain ⟨p0, p1, p2, p3, p4, p5, ltS⟩ := row6 (hK0.2 _ (mcO _ mcS))
  go_upto_region 12 with (first | (go_at_call 89; refine (asks_any c _).mono ?_; rintro e w1 ⟨rfl, rfl⟩; rw [HQ.out]) | fail)
  go_step
  (refine wpList_valueOf rfl (.agg #[vI vK c, vI vK d, vI vK s, .bool r, vI vK o, vI vK n]) w1 (by go_simp; try rfl) ?_); simp only [Act.put, siA, scZ, scS]
  (refine wpList_callOf rfl 109 #[.pointer (some ⟨w.heap.size, 0, none⟩), .agg #[vI vK c, vI vK d, vI vK s, .bool r, vI vK o, vI vK n]] (by go_simp; try rfl) (vI vK E) (HM.out w1 w.heap.size yW) ?_)
  intro w5 hq
  obtain ⟨hk5, hW5⟩ := hq
  have hK5 := (Blk.more (F' := []) hK0 (by simp)).grown (b := w.heap.size) hk5 (fun k e => Nat.le_of_eq (Option.some.inj e)) (Nat.le_refl _) (by simp)
  clear yW ylt p0 p1 p2 p3 p4 p5 ltS
  clear hk5 hK0
  simp only [Act.put, siA, scZ, scS]
  go_upto_region 17 with fail
  go_step
  (refine wpList_load_row rfl 150 (.tmp 2) rfl w.heap.size rfl 150 (wayCs p y1) (0, 0) _ hW5 Tryz.underlying150 rfl (infoW_of _ _) ?_)
  simp only [Act.put, siA, scZ, scS]
  (refine wpList_callOf rfl 106 #[.agg (wayCs p y1), vI vK 0] (by go_simp; try rfl) (.agg (wayCs (p + 1) y1)) (on_zero p y1 hp0 hp1 w5) ?_)
  intro w6 hB6
  have hK6 := hK5.later hB6
  simp only [Act.put, siA, scZ, scS]
  refine wpList_ways1 rfl (.tmp 58) (p + 1) y1 rfl rfl ?_
  simp only [Act.put, siA, scZ, scS]
  have hbE := hK6.1
  have hm := WaysAt.made w6 w.heap.size [((p + 1), y1)] hbE.size (by unfold maxLen; simp)
  go_wp2_with fail
  exact bodyPost_ret (v := .tuple #[_, vI vK 0]) (by simp [results, Tryz.results66, go_sem]) rfl ⟨_, rfl, hm, hbE.alloc hbE.size _⟩
theorem vlook_call_no (d s : Nat) (c o n p : Int) (r : Bool) (y : Way) (hp0 : 0 ≤ p) (hp1 : p ≤ 1000) (E : Int) (y1 : Way) (HM : Hid (∀ (W : World) (B : Nat), WayAt W B p y → Calls Tryz.prog 110 #[.pointer (some ⟨B, 0, none⟩), vI vK n] W fun e w' => e = .returned (vI vK E) ∧ Kept B W w' ∧ WayAt w' B p y1)) (xE : (E != 0) = true) (HQ : Hid ((decide (15 ≤ c) && decide (c ≤ 24)) = false)) (x14 : (c == 14) = false) (x28 : (c == 28) = false) (x25 : (c == 25) = false) (x26 : (c == 26) = false) (x27 : (c == 27) = true) (w : World) :
    Calls Tryz.prog 66 #[.agg (wayCs p y), .agg #[vI vK c, vI vK d, vI vK s, .bool r, vI vK o, vI vK n]] w fun e w' => e = .returned (.tuple #[.slice none 0 0, vI vK E]) ∧ Below w.heap.size w w' := by
  have hK0 : Blk w [(w.heap.size, .cells (wayCs p y) 150 (0, 0)), (w.heap.size + 1, .cells #[vI vK c, vI vK d, vI vK s, .bool r, vI vK o, vI vK n] 49 (0, 0))] _ := ((Blk.nil (((bF _ _).alloc (Nat.le_refl _) _).alloc (by simp) _)).cons (heap_alloc2_new w (.cells (wayCs p y) 150) (.cells #[vI vK c, vI vK d, vI vK s, .bool r, vI vK o, vI vK n] 49))).cons ((WayAt.start w p y).alloc (.cells #[vI vK c, vI vK d, vI vK s, .bool r, vI vK o, vI vK n] 49))
  go_enter Tryz.func66, Tryz.ntmps66
  go_upto_region 1 with fail
  generalize ((w.alloc (.cells (wayCs p y) 150)).alloc (.cells #[vI vK c, vI vK d, vI vK s, .bool r, vI vK o, vI vK n] 49)) = w1 at hK0 ⊢
  have yW : WayAt _ w.heap.size _ _ := (hK0.2 _ mcS); have ylt := yW.lt; obtain ⟨p0, p1, p2, p3, p4, p5, ltS⟩ := row6 (hK0.2 _ (mcO _ mcS))
  go_upto_region 14 with (first | (go_at_call 89; refine (asks_any c _).mono ?_; rintro e w1 ⟨rfl, rfl⟩; rw [HQ.out]) | fail)
  go_step
  (refine wpList_valueOf rfl (.pointer (some ⟨w.heap.size + 1, 5, none⟩)) w1 (by go_simp; try rfl) ?_); simp only [Act.put, siA, scZ, scS]
  (refine wpList_valueOf rfl (vI vK n) w1 (by go_simp; try rfl) ?_); simp only [Act.put, siA, scZ, scS]
  (refine wpList_callOf rfl 110 #[.pointer (some ⟨w.heap.size, 0, none⟩), vI vK n] (by go_simp; try rfl) (vI vK E) (HM.out w1 w.heap.size yW) ?_)
  intro w5 hq
  obtain ⟨hk5, hW5⟩ := hq
  have hK5 := (Blk.more (F' := []) hK0 (by simp)).grown (b := w.heap.size) hk5 (fun k e => Nat.le_of_eq (Option.some.inj e)) (Nat.le_refl _) (by simp)
  clear yW ylt p0 p1 p2 p3 p4 p5 ltS
  clear hk5 hK0
  simp only [Act.put, siA, scZ, scS]
  go_wp2_with fail
  exact bodyPost_ret (v := .tuple #[.slice none 0 0, vI vK E]) (by simp [results, Tryz.results66, go_sem]) rfl ⟨rfl, hK5.1⟩
theorem vlook_call (d s : Nat) (c o n p : Int) (r : Bool) (y : Way) (hp0 : 0 ≤ p) (hp1 : p ≤ 1000) (E : Int) (y1 : Way) (HM : Hid (∀ (W : World) (B : Nat), WayAt W B p y → Calls Tryz.prog 110 #[.pointer (some ⟨B, 0, none⟩), vI vK n] W fun e w' => e = .returned (vI vK E) ∧ Kept B W w' ∧ WayAt w' B p y1)) (xE : (E != 0) = false) (HQ : Hid ((decide (15 ≤ c) && decide (c ≤ 24)) = false)) (x14 : (c == 14) = false) (x28 : (c == 28) = false) (x25 : (c == 25) = false) (x26 : (c == 26) = false) (x27 : (c == 27) = true) (w : World) :
    Calls Tryz.prog 66 #[.agg (wayCs p y), .agg #[vI vK c, vI vK d, vI vK s, .bool r, vI vK o, vI vK n]] w fun e w' => ∃ v, e = .returned (.tuple #[v, vI vK 0]) ∧ WaysAt w' w.heap.size v [((p + 1), y1)] ∧ Below w.heap.size w w' := by
  have hK0 : Blk w [(w.heap.size, .cells (wayCs p y) 150 (0, 0)), (w.heap.size + 1, .cells #[vI vK c, vI vK d, vI vK s, .bool r, vI vK o, vI vK n] 49 (0, 0))] _ := ((Blk.nil (((bF _ _).alloc (Nat.le_refl _) _).alloc (by simp) _)).cons (heap_alloc2_new w (.cells (wayCs p y) 150) (.cells #[vI vK c, vI vK d, vI vK s, .bool r, vI vK o, vI vK n] 49))).cons ((WayAt.start w p y).alloc (.cells #[vI vK c, vI vK d, vI vK s, .bool r, vI vK o, vI vK n] 49))
  go_enter Tryz.func66, Tryz.ntmps66
  go_upto_region 1 with fail
  generalize ((w.alloc (.cells (wayCs p y) 150)).alloc (.cells #[vI vK c, vI vK d, vI vK s, .bool r, vI vK o, vI vK n] 49)) = w1 at hK0 ⊢
  have yW : WayAt _ w.heap.size _ _ := (hK0.2 _ mcS); have ylt := yW.lt; obtain ⟨p0, p1, p2, p3, p4, p5, ltS⟩ := row6 (hK0.2 _ (mcO _ mcS))
  go_upto_region 14 with (first | (go_at_call 89; refine (asks_any c _).mono ?_; rintro e w1 ⟨rfl, rfl⟩; rw [HQ.out]) | fail)
  go_step
  (refine wpList_valueOf rfl (.pointer (some ⟨w.heap.size + 1, 5, none⟩)) w1 (by go_simp; try rfl) ?_); simp only [Act.put, siA, scZ, scS]
  (refine wpList_valueOf rfl (vI vK n) w1 (by go_simp; try rfl) ?_); simp only [Act.put, siA, scZ, scS]
  (refine wpList_callOf rfl 110 #[.pointer (some ⟨w.heap.size, 0, none⟩), vI vK n] (by go_simp; try rfl) (vI vK E) (HM.out w1 w.heap.size yW) ?_)
  intro w5 hq
  obtain ⟨hk5, hW5⟩ := hq
  have hK5 := (Blk.more (F' := []) hK0 (by simp)).grown (b := w.heap.size) hk5 (fun k e => Nat.le_of_eq (Option.some.inj e)) (Nat.le_refl _) (by simp)
  clear yW ylt p0 p1 p2 p3 p4 p5 ltS
  clear hk5 hK0
  simp only [Act.put, siA, scZ, scS]
  go_upto_region 17 with fail
  go_step
  (refine wpList_load_row rfl 150 (.tmp 2) rfl w.heap.size rfl 150 (wayCs p y1) (0, 0) _ hW5 Tryz.underlying150 rfl (infoW_of _ _) ?_)
  simp only [Act.put, siA, scZ, scS]
  (refine wpList_callOf rfl 106 #[.agg (wayCs p y1), vI vK 0] (by go_simp; try rfl) (.agg (wayCs (p + 1) y1)) (on_zero p y1 hp0 hp1 w5) ?_)
  intro w6 hB6
  have hK6 := hK5.later hB6
  simp only [Act.put, siA, scZ, scS]
  refine wpList_ways1 rfl (.tmp 58) (p + 1) y1 rfl rfl ?_
  simp only [Act.put, siA, scZ, scS]
  have hbE := hK6.1
  have hm := WaysAt.made w6 w.heap.size [((p + 1), y1)] hbE.size (by unfold maxLen; simp)
  go_wp2_with fail
  exact bodyPost_ret (v := .tuple #[_, vI vK 0]) (by simp [results, Tryz.results66, go_sem]) rfl ⟨_, rfl, hm, hbE.alloc hbE.size _⟩
theorem vlook_change_no (d s : Nat) (c o n p : Int) (r : Bool) (y : Way) (hp0 : 0 ≤ p) (hp1 : p ≤ 1000) (E : Int) (y1 : Way) (HM : Hid (∀ (W : World) (B : Nat), WayAt W B p y → Calls Tryz.prog 111 #[.pointer (some ⟨B, 0, none⟩), .agg #[vI vK c, vI vK d, vI vK s, .bool r, vI vK o, vI vK n]] W fun e w' => e = .returned (vI vK E) ∧ Kept B W w' ∧ WayAt w' B p y1)) (xE : (E != 0) = true) (HQ : Hid ((decide (15 ≤ c) && decide (c ≤ 24)) = false)) (x14 : (c == 14) = false) (x28 : (c == 28) = false) (x25 : (c == 25) = false) (x26 : (c == 26) = false) (x27 : (c == 27) = false) (w : World) :
    Calls Tryz.prog 66 #[.agg (wayCs p y), .agg #[vI vK c, vI vK d, vI vK s, .bool r, vI vK o, vI vK n]] w fun e w' => e = .returned (.tuple #[.slice none 0 0, vI vK E]) ∧ Below w.heap.size w w' := by
  have hK0 : Blk w [(w.heap.size, .cells (wayCs p y) 150 (0, 0)), (w.heap.size + 1, .cells #[vI vK c, vI vK d, vI vK s, .bool r, vI vK o, vI vK n] 49 (0, 0))] _ := ((Blk.nil (((bF _ _).alloc (Nat.le_refl _) _).alloc (by simp) _)).cons (heap_alloc2_new w (.cells (wayCs p y) 150) (.cells #[vI vK c, vI vK d, vI vK s, .bool r, vI vK o, vI vK n] 49))).cons ((WayAt.start w p y).alloc (.cells #[vI vK c, vI vK d, vI vK s, .bool r, vI vK o, vI vK n] 49))
  go_enter Tryz.func66, Tryz.ntmps66
  go_upto_region 1 with fail
  generalize ((w.alloc (.cells (wayCs p y) 150)).alloc (.cells #[vI vK c, vI vK d, vI vK s, .bool r, vI vK o, vI vK n] 49)) = w1 at hK0 ⊢
  have yW : WayAt _ w.heap.size _ _ := (hK0.2 _ mcS); have ylt := yW.lt; obtain ⟨p0, p1, p2, p3, p4, p5, ltS⟩ := row6 (hK0.2 _ (mcO _ mcS))
  go_upto_region 2 with (first | (go_at_call 89; refine (asks_any c _).mono ?_; rintro e w1 ⟨rfl, rfl⟩; rw [HQ.out]) | fail)
  go_step
  (refine wpList_valueOf rfl (.agg #[vI vK c, vI vK d, vI vK s, .bool r, vI vK o, vI vK n]) w1 (by go_simp; try rfl) ?_); simp only [Act.put, siA, scZ, scS]
  (refine wpList_callOf rfl 111 #[.pointer (some ⟨w.heap.size, 0, none⟩), .agg #[vI vK c, vI vK d, vI vK s, .bool r, vI vK o, vI vK n]] (by go_simp; try rfl) (vI vK E) (HM.out w1 w.heap.size yW) ?_)
  intro w5 hq
  obtain ⟨hk5, hW5⟩ := hq
  have hK5 := (Blk.more (F' := []) hK0 (by simp)).grown (b := w.heap.size) hk5 (fun k e => Nat.le_of_eq (Option.some.inj e)) (Nat.le_refl _) (by simp)
  clear yW ylt p0 p1 p2 p3 p4 p5 ltS
  clear hk5 hK0
  simp only [Act.put, siA, scZ, scS]
  go_wp2_with fail
  exact bodyPost_ret (v := .tuple #[.slice none 0 0, vI vK E]) (by simp [results, Tryz.results66, go_sem]) rfl ⟨rfl, hK5.1⟩
theorem vlook_change (d s : Nat) (c o n p : Int) (r : Bool) (y : Way) (hp0 : 0 ≤ p) (hp1 : p ≤ 1000) (E : Int) (y1 : Way) (HM : Hid (∀ (W : World) (B : Nat), WayAt W B p y → Calls Tryz.prog 111 #[.pointer (some ⟨B, 0, none⟩), .agg #[vI vK c, vI vK d, vI vK s, .bool r, vI vK o, vI vK n]] W fun e w' => e = .returned (vI vK E) ∧ Kept B W w' ∧ WayAt w' B p y1)) (xE : (E != 0) = false) (HQ : Hid ((decide (15 ≤ c) && decide (c ≤ 24)) = false)) (x14 : (c == 14) = false) (x28 : (c == 28) = false) (x25 : (c == 25) = false) (x26 : (c == 26) = false) (x27 : (c == 27) = false) (w : World) :
    Calls Tryz.prog 66 #[.agg (wayCs p y), .agg #[vI vK c, vI vK d, vI vK s, .bool r, vI vK o, vI vK n]] w fun e w' => ∃ v, e = .returned (.tuple #[v, vI vK 0]) ∧ WaysAt w' w.heap.size v [((p + 1), y1)] ∧ Below w.heap.size w w' := by
  have hK0 : Blk w [(w.heap.size, .cells (wayCs p y) 150 (0, 0)), (w.heap.size + 1, .cells #[vI vK c, vI vK d, vI vK s, .bool r, vI vK o, vI vK n] 49 (0, 0))] _ := ((Blk.nil (((bF _ _).alloc (Nat.le_refl _) _).alloc (by simp) _)).cons (heap_alloc2_new w (.cells (wayCs p y) 150) (.cells #[vI vK c, vI vK d, vI vK s, .bool r, vI vK o, vI vK n] 49))).cons ((WayAt.start w p y).alloc (.cells #[vI vK c, vI vK d, vI vK s, .bool r, vI vK o, vI vK n] 49))
  go_enter Tryz.func66, Tryz.ntmps66
  go_upto_region 1 with fail
  generalize ((w.alloc (.cells (wayCs p y) 150)).alloc (.cells #[vI vK c, vI vK d, vI vK s, .bool r, vI vK o, vI vK n] 49)) = w1 at hK0 ⊢
  have yW : WayAt _ w.heap.size _ _ := (hK0.2 _ mcS); have ylt := yW.lt; obtain ⟨p0, p1, p2, p3, p4, p5, ltS⟩ := row6 (hK0.2 _ (mcO _ mcS))
  go_upto_region 2 with (first | (go_at_call 89; refine (asks_any c _).mono ?_; rintro e w1 ⟨rfl, rfl⟩; rw [HQ.out]) | fail)
  go_step
  (refine wpList_valueOf rfl (.agg #[vI vK c, vI vK d, vI vK s, .bool r, vI vK o, vI vK n]) w1 (by go_simp; try rfl) ?_); simp only [Act.put, siA, scZ, scS]
  (refine wpList_callOf rfl 111 #[.pointer (some ⟨w.heap.size, 0, none⟩), .agg #[vI vK c, vI vK d, vI vK s, .bool r, vI vK o, vI vK n]] (by go_simp; try rfl) (vI vK E) (HM.out w1 w.heap.size yW) ?_)
  intro w5 hq
  obtain ⟨hk5, hW5⟩ := hq
  have hK5 := (Blk.more (F' := []) hK0 (by simp)).grown (b := w.heap.size) hk5 (fun k e => Nat.le_of_eq (Option.some.inj e)) (Nat.le_refl _) (by simp)
  clear yW ylt p0 p1 p2 p3 p4 p5 ltS
  clear hk5 hK0
  simp only [Act.put, siA, scZ, scS]
  go_upto_region 17 with fail
  go_step
  (refine wpList_load_row rfl 150 (.tmp 2) rfl w.heap.size rfl 150 (wayCs p y1) (0, 0) _ hW5 Tryz.underlying150 rfl (infoW_of _ _) ?_)
  simp only [Act.put, siA, scZ, scS]
  (refine wpList_callOf rfl 106 #[.agg (wayCs p y1), vI vK 0] (by go_simp; try rfl) (.agg (wayCs (p + 1) y1)) (on_zero p y1 hp0 hp1 w5) ?_)
  intro w6 hB6
  have hK6 := hK5.later hB6
  simp only [Act.put, siA, scZ, scS]
  refine wpList_ways1 rfl (.tmp 58) (p + 1) y1 rfl rfl ?_
  simp only [Act.put, siA, scZ, scS]
  have hbE := hK6.1
  have hm := WaysAt.made w6 w.heap.size [((p + 1), y1)] hbE.size (by unfold maxLen; simp)
  go_wp2_with fail
  exact bodyPost_ret (v := .tuple #[_, vI vK 0]) (by simp [results, Tryz.results66, go_sem]) rfl ⟨_, rfl, hm, hbE.alloc hbE.size _⟩
theorem vlook_all {d s : Nat} {c o n p : Int} {r : Bool} {y : Way} (hd : d < 11) (hs : s < 11) (hp0 : 0 ≤ p) (hp1 : p ≤ 1000) (ho : In64 o) (hj : 14 ≤ c → c ≤ 24 → 0 ≤ o ∧ o ≤ 1000) (hw : c = 27 → n = 1 ∨ n = 2 ∨ n = 3) (hy : y.Ok) (hn : In64 n) (w : World) :
    Calls Tryz.prog 66 #[.agg (wayCs p y), .agg #[vI vK c, vI vK d, vI vK s, .bool r, vI vK o, vI vK n]] w fun e w' => ∃ v, e = .returned (.tuple #[v, vI vK (y.look c d s r o n).2]) ∧ WaysAt w' w.heap.size v ((y.look c d s r o n).1.map fun x => (p + (1 + x.1), x.2)) ∧ Below w.heap.size w w' := by
  have mv : ∀ {E : Int} {e : Ending} {w' : World}, (e = .returned (.tuple #[.slice none 0 0, vI vK E]) ∧ Below w.heap.size w w') → ∃ v, e = .returned (.tuple #[v, vI vK E]) ∧ WaysAt w' w.heap.size v [] ∧ Below w.heap.size w w' := fun h => ⟨_, h.1, WaysAt.nil _ _, h.2⟩
  have tt : ∀ {a b : Int}, a = b → (a == b) = true := fun h => by simp [h]
  have tb : ∀ {a b : Int}, ¬ a = b → (a == b) = false := fun h => by simp [h]
  have nt : ∀ {a b : Int}, ¬ a = b → (a != b) = true := fun h => by simp [h]
  have nf : ∀ {a b : Int}, a = b → (a != b) = false := fun h => by simp [h]
  unfold Way.look
  by_cases h1 : 15 ≤ c ∧ c ≤ 24
  · rw [if_pos h1]
    have hoo := hj (by omega) h1.2
    exact vlook_ask d s c o n p r y _ _ (fun W : World => vask_all (r := r) hd hs h1 hp0 hp1 hoo.1 hoo.2 hy hn W) (by show (decide (15 ≤ c) && decide (c ≤ 24)) = true; simp; omega) w
  rw [if_neg h1]
  have HQ : Hid ((decide (15 ≤ c) && decide (c ≤ 24)) = false) := by show (decide (15 ≤ c) && decide (c ≤ 24)) = false; simp; omega
  by_cases h14 : c = 14
  · rw [if_pos h14]
    have hoo := hj (by omega) (by omega)
    simpa using vlook_jump d s c o n p r y hp0 hp1 hoo.1 hoo.2 HQ (tt h14) w
  rw [if_neg h14]
  by_cases h28 : c = 28
  · rw [if_pos h28]
    exact (vlook_exit d s c o n p r y HQ (tb h14) (tt h28) w).mono fun _ _ h => mv h
  rw [if_neg h28]
  by_cases h25 : c = 25
  · rw [if_pos h25]
    have HM := fun (W : World) (B : Nat) (hW : WayAt W B p y) => vload_all (c := c) (r := r) (n := n) hd hs hy ho hW
    generalize y.load d s o = z at *
    obtain ⟨E, y1⟩ := z
    dsimp only
    by_cases hE : E = 0
    · rw [if_pos hE]; simpa [hE] using vlook_load d s c o n p r y hp0 hp1 E y1 HM (nf hE) HQ (tb h14) (tb h28) (tt h25) w
    · rw [if_neg hE]; exact (vlook_load_no d s c o n p r y hp0 hp1 E y1 HM (nt hE) HQ (tb h14) (tb h28) (tt h25) w).mono fun _ _ h => mv h
  rw [if_neg h25]
  by_cases h26 : c = 26
  · rw [if_pos h26]
    have HM := fun (W : World) (B : Nat) (hW : WayAt W B p y) => vstore_all (c := c) (r := r) (n := n) hd hs hy ho hW
    generalize y.store (y.reg d) (y.second s r n) o = z at *
    obtain ⟨E, y1⟩ := z
    dsimp only
    by_cases hE : E = 0
    · rw [if_pos hE]; simpa [hE] using vlook_store d s c o n p r y hp0 hp1 E y1 HM (nf hE) HQ (tb h14) (tb h28) (tb h25) (tt h26) w
    · rw [if_neg hE]; exact (vlook_store_no d s c o n p r y hp0 hp1 E y1 HM (nt hE) HQ (tb h14) (tb h28) (tb h25) (tt h26) w).mono fun _ _ h => mv h
  rw [if_neg h26]
  by_cases h27 : c = 27
  · rw [if_pos h27]
    have HM := fun (W : World) (B : Nat) (hW : WayAt W B p y) => vcall_all (hw h27) hW
    generalize y.call n = z at *
    obtain ⟨E, y1⟩ := z
    dsimp only
    by_cases hE : E = 0
    · rw [if_pos hE]; simpa [hE] using vlook_call d s c o n p r y hp0 hp1 E y1 HM (nf hE) HQ (tb h14) (tb h28) (tb h25) (tb h26) (tt h27) w
    · rw [if_neg hE]; exact (vlook_call_no d s c o n p r y hp0 hp1 E y1 HM (nt hE) HQ (tb h14) (tb h28) (tb h25) (tb h26) (tt h27) w).mono fun _ _ h => mv h
  rw [if_neg h27]
  · have HM := fun (W : World) (B : Nat) (hW : WayAt W B p y) => vchange_all (c := c) (o := o) (r := r) hd hs hy hn hW
    generalize y.change c d s r n = z at *
    obtain ⟨E, y1⟩ := z
    dsimp only
    by_cases hE : E = 0
    · rw [if_pos hE]; simpa [hE] using vlook_change d s c o n p r y hp0 hp1 E y1 HM (nf hE) HQ (tb h14) (tb h28) (tb h25) (tb h26) (tb h27) w
    · rw [if_neg hE]; exact (vlook_change_no d s c o n p r y hp0 hp1 E y1 HM (nt hE) HQ (tb h14) (tb h28) (tb h25) (tb h26) (tb h27) w).mono fun _ _ h => mv h
end Go.Proofs.YtednmkhdehlojaaGreatDoor
